/- Texts merged: Mem to LSW. -/
import Derived.Test.YtkeeoelbnmacdaaDoorRows
import Derived.WalkKit
import Derived.WalkSpells
import Derived.WalkLawsBesides
import Derived.Deep.QuietTactic
import Derived.BigQuiet
import Derived.Deep.RegionHeld3
import Derived.Lib.Hide
import Derived.Laws.AppendOwnNone
import Derived.Lib.AppendZeros
import Derived.Lib.SliceRun
import Derived.Lib.Walk
import Derived.Deep.Cut
import Derived.Deep.Upon
import Derived.Defers
import Derived.Recover
import Derived.Laws.Pointers
import Derived.StillTailTactics
import Derived.Deep.RegionLaw
import Derived.ProofKit
import Derived.Lib.SmallJoins
import Derived.OpenShut
import Derived.Laws.RangeAny
import Derived.Deep.AppendLies
import Derived.Deep.DeepCutAuto
import Derived.IntWalk
import Derived.LaidEql
import Derived.Stop.Asserts
import Derived.RowKitTokens
import Derived.Lib.OthersKept
import Derived.Laws.BytesArg
namespace Go.Proofs.YtkeeoelbnmacdaaDoor
open Go.RowKit
set_option linter.unusedVariables false

/-- The first n cells at a hold f. -/
def Src (w : World) (a : Option Addr) (n : Nat) (f : Nat → Int) : Prop :=
  n = 0 ∨ ∃ b off, a = some ⟨b, off, none⟩ ∧ b < w.heap.size ∧ ∀ i, i < n → w.cell? ⟨b, off + i, none⟩ = some (.int .i64 (f i))

/-- The same, in a block from B on, and not frozen. -/
def Own (w : World) (B : Nat) (a : Option Addr) (n : Nat) (f : Nat → Int) : Prop :=
  n = 0 ∨ ∃ b off, a = some ⟨b, off, none⟩ ∧ B ≤ b ∧ b < w.heap.size ∧ ∀ i, i < n → w.cell? ⟨b, off + i, none⟩ = some (.int .i64 (f i)) ∧ w.frozen? ⟨b, off + i, none⟩ = false

theorem Own.src {w : World} {B : Nat} {a : Option Addr} {n : Nat} {f : Nat → Int} (h : Own w B a n f) : Src w a n f := by
  rcases h with h | ⟨b, off, h1, _, h3, h4⟩
  · exact .inl h
  · exact .inr ⟨b, off, h1, h3, fun i hi => (h4 i hi).1⟩

theorem Src.below {w w' : World} {a : Option Addr} {n : Nat} {f : Nat → Int} (h : Src w a n f) (hb : Below w.heap.size w w') : Src w' a n f := by
  rcases h with h | ⟨b, off, h1, h3, h4⟩
  · exact .inl h
  · exact .inr ⟨b, off, h1, Nat.lt_of_lt_of_le h3 hb.size, fun i hi => (hb.cell (p := ⟨b, off + i, none⟩) h3).trans (h4 i hi)⟩

theorem Own.below {w w' : World} {B : Nat} {a : Option Addr} {n : Nat} {f : Nat → Int} (h : Own w B a n f) (hb : Below w.heap.size w w') : Own w' B a n f := by
  rcases h with h | ⟨b, off, h1, h2, h3, h4⟩
  · exact .inl h
  · exact .inr ⟨b, off, h1, h2, Nat.lt_of_lt_of_le h3 hb.size, fun i hi => ⟨(hb.cell (p := ⟨b, off + i, none⟩) h3).trans (h4 i hi).1, (hb.frozen (p := ⟨b, off + i, none⟩) h3).trans (h4 i hi).2⟩⟩

theorem Own.mono {w : World} {B B' : Nat} {a : Option Addr} {n : Nat} {f : Nat → Int} (h : Own w B a n f) (hB : B' ≤ B) : Own w B' a n f := by
  rcases h with h | ⟨b, off, h1, h2, h3⟩
  · exact .inl h
  · exact .inr ⟨b, off, h1, Nat.le_trans hB h2, h3⟩

theorem Src.at {w : World} {b off n : Nat} {f : Nat → Int} (h : Src w (some ⟨b, off, none⟩) n f) (i : Nat) (hi : i < n) : w.cell? ⟨b, off + i, none⟩ = some (.int .i64 (f i)) := by
  rcases h with h | ⟨b', off', h1, h3, h4⟩
  · omega
  · simp at h1; obtain ⟨rfl, rfl⟩ := h1; exact h4 i hi

theorem Src.congr {w : World} {a : Option Addr} {n : Nat} {f g : Nat → Int} (h : Src w a n f) (e : ∀ i, i < n → f i = g i) : Src w a n g := by
  rcases h with h | ⟨b, off, h1, h3, h4⟩
  · exact .inl h
  · exact .inr ⟨b, off, h1, h3, fun i hi => by rw [h4 i hi, e i hi]⟩

theorem Own.congr {w : World} {B : Nat} {a : Option Addr} {n : Nat} {f g : Nat → Int} (h : Own w B a n f) (e : ∀ i, i < n → f i = g i) : Own w B a n g := by
  rcases h with h | ⟨b, off, h1, h2, h3, h4⟩
  · exact .inl h
  · exact .inr ⟨b, off, h1, h2, h3, fun i hi => by rw [← e i hi]; exact h4 i hi⟩

theorem Src.alloc {w : World} {a : Option Addr} {n : Nat} {f : Nat → Int} (h : Src w a n f) (o : Obj) : Src (w.alloc o) a n f := h.below ((Below.refl _ _).alloc (Nat.le_refl _) o)

theorem Src.drew {w : World} {a : Option Addr} {n : Nat} {f : Nat → Int} (h : Src w a n f) : Src w.drew a n f := h.below (Below.refl _ _).drew

theorem Own.alloc {w : World} {B : Nat} {a : Option Addr} {n : Nat} {f : Nat → Int} (h : Own w B a n f) (o : Obj) : Own (w.alloc o) B a n f := h.below ((Below.refl _ _).alloc (Nat.le_refl _) o)

theorem Own.drew {w : World} {B : Nat} {a : Option Addr} {n : Nat} {f : Nat → Int} (h : Own w B a n f) : Own w.drew B a n f := h.below (Below.refl _ _).drew

theorem Own.setCell {w : World} {B : Nat} {a : Option Addr} {n : Nat} {f : Nat → Int} (h : Own w B a n f) {p : Addr} (hp : p.block < B) (u : Value) : Own (w.setCell p u) B a n f := by
  rcases h with h | ⟨b, off, h1, h2, h3, h4⟩
  · exact .inl h
  · refine .inr ⟨b, off, h1, h2, by simpa using h3, fun i hi => ?_⟩
    have e : (w.setCell p u).heap[b]? = w.heap[b]? := Below.heap_setCell w p u b (by omega)
    exact ⟨(World.cell?_of_block (w := w) (a := ⟨b, off + i, none⟩) e).trans (h4 i hi).1, (World.frozen?_of_block (w := w) (a := ⟨b, off + i, none⟩) e).trans (h4 i hi).2⟩

/-- Its value is a slice. -/
theorem row_shape {w : World} {B e n : Nat} {v : Value} {xs : List Value} (h : w.ownsRow B e 1 v n xs) : ∃ a cap, v = .slice a n cap ∧ n ≤ cap ∧ cap ≤ maxLen ∧ (a = none → n = 0 ∧ cap = 0) := by
  rcases h.2 with ⟨h1, h2⟩ | ⟨g, cap', cur, h1, hB, hg, hnc, hcm, hcs, _⟩
  · exact ⟨none, 0, by rw [h1, h2], by omega, by simp [maxLen], fun _ => ⟨h2, rfl⟩⟩
  · exact ⟨_, cap', h1, hnc, hcm, fun h => by simp at h⟩
end Go.Proofs.YtkeeoelbnmacdaaDoor

namespace Go.Proofs.YtkeeoelbnmacdaaDoor
open Go.RowKit
set_option linter.unusedVariables false

/-- A Bool comes back; nothing that was there is turned. -/
def RetBool (W : World) (r : Bool) (e : Ending) (w' : World) : Prop := e = .returned (.bool r) ∧ Below W.heap.size W w'
end Go.Proofs.YtkeeoelbnmacdaaDoor

namespace Go.Proofs.YtkeeoelbnmacdaaDoor
open Go.RowKit
set_option linter.unusedVariables false

theorem bcell {W w1 : World} (hb : Below W.heap.size W w1) : (∀ b o, b < W.heap.size → w1.cell? ⟨b, o, none⟩ = W.cell? ⟨b, o, none⟩) ∧ (∀ b o, b < W.heap.size → w1.frozen? ⟨b, o, none⟩ = W.frozen? ⟨b, o, none⟩) :=
  ⟨fun b o h => hb.cell (p := ⟨b, o, none⟩) h, fun b o h => hb.frozen (p := ⟨b, o, none⟩) h⟩

/-- A block of the call's own, known cell by cell. -/
def Blk (w : World) (b : Nat) (cs : List Value) : Prop := b < w.heap.size ∧ ∀ i u, cs[i]? = some u → w.cell? ⟨b, i, none⟩ = some u ∧ w.frozen? ⟨b, i, none⟩ = false

theorem Blk.below {w w' : World} {b : Nat} {cs : List Value} (h : Blk w b cs) (hb : Below w.heap.size w w') : Blk w' b cs :=
  ⟨Nat.lt_of_lt_of_le h.1 hb.size, fun i u hu => ⟨(hb.cell (p := ⟨b, i, none⟩) h.1).trans (h.2 i u hu).1, (hb.frozen (p := ⟨b, i, none⟩) h.1).trans (h.2 i u hu).2⟩⟩

theorem Blk.alloc {w : World} {b : Nat} {cs : List Value} (h : Blk w b cs) (o : Obj) : Blk (w.alloc o) b cs := h.below ((Below.refl _ _).alloc (Nat.le_refl _) o)

theorem Blk.drew {w : World} {b : Nat} {cs : List Value} (h : Blk w b cs) : Blk w.drew b cs := h.below (Below.refl _ _).drew

theorem Blk.new (w : World) (cs : Array Value) (t : TypeId) : Blk (w.alloc (.cells cs t)) w.heap.size cs.toList := by
  refine ⟨by simp, fun i u hu => ?_⟩
  constructor
  · rw [World.cell?_alloc_at _ _ _ _ rfl]; simpa using hu
  · exact World.frozen?_alloc_at _ _ _ _ rfl

theorem Blk.new_at {w : World} {cs : Array Value} {t : TypeId} (b : Nat) (hb : b = w.heap.size) : Blk (w.alloc (.cells cs t)) b cs.toList := hb ▸ Blk.new w cs t

theorem Blk.at {w : World} {b : Nat} {cs : List Value} (h : Blk w b cs) (i : Nat) {u : Value} (hu : cs[i]? = some u) : w.cell? ⟨b, i, none⟩ = some u := (h.2 i u hu).1

theorem Blk.free {w : World} {b : Nat} {cs : List Value} (h : Blk w b cs) (i : Nat) {u : Value} (hu : cs[i]? = some u) : w.frozen? ⟨b, i, none⟩ = false := (h.2 i u hu).2
end Go.Proofs.YtkeeoelbnmacdaaDoor

namespace Go.Proofs.YtkeeoelbnmacdaaDoor
open Go.ChangeShapes Go.WideShapes Go.ChangeAt Go.RowKit Go.Joins
set_option linter.unusedVariables false
set_option maxRecDepth 100000

theorem Tryd.own : ownKnob Tryd.prog.godebug = none := by kernel_rfl
end Go.Proofs.YtkeeoelbnmacdaaDoor

namespace Go.Proofs.YtkeeoelbnmacdaaDoor
open Go.RowKit
set_option linter.unusedVariables false

/-- Three cells hold one bound. -/
def B3 (w : World) (b o : Nat) (v l g : Int) : Prop :=
  w.cell? ⟨b, o, none⟩ = some (.int .i64 v) ∧ w.cell? ⟨b, o + 1, none⟩ = some (.int .i64 l) ∧ w.cell? ⟨b, o + 2, none⟩ = some (.int .i64 g)

theorem B3.below {w w' : World} {b o : Nat} {v l g : Int} {B : Nat} (h : B3 w b o v l g) (hb : Below B w w') (hlt : b < B) : B3 w' b o v l g :=
  ⟨(hb.cell (p := ⟨b, o, none⟩) hlt).trans h.1, (hb.cell (p := ⟨b, o + 1, none⟩) hlt).trans h.2.1, (hb.cell (p := ⟨b, o + 2, none⟩) hlt).trans h.2.2⟩

-- All bounds hold.
end Go.Proofs.YtkeeoelbnmacdaaDoor

namespace Go.Proofs.YtkeeoelbnmacdaaDoor
open Go.RowKit
set_option linter.unusedVariables false

/-- Nothing that was there is turned, but in the blocks from lo to hi. -/
structure Keeps (w w' : World) (lo hi : Nat) : Prop where
  os : w'.os = w.os
  tape : w'.tape = w.tape
  output : w'.output = w.output
  size : w.heap.size ≤ w'.heap.size
  block : ∀ k, k < w.heap.size → (k < lo ∨ hi ≤ k) → w'.heap[k]? = w.heap[k]?

theorem Keeps.refl (w : World) (lo hi : Nat) : Keeps w w lo hi := ⟨rfl, rfl, rfl, Nat.le_refl _, fun _ _ _ => rfl⟩

theorem Keeps.trans {w w1 w2 : World} {lo hi : Nat} (h : Keeps w w1 lo hi) (k : Keeps w1 w2 lo hi) : Keeps w w2 lo hi :=
  ⟨k.os.trans h.os, k.tape.trans h.tape, k.output.trans h.output, Nat.le_trans h.size k.size, fun i hi h' => (k.block i (Nat.lt_of_lt_of_le hi h.size) h').trans (h.block i hi h')⟩

theorem keeps_of_below {w w' : World} (h : Below w.heap.size w w') (lo hi : Nat) : Keeps w w' lo hi := ⟨h.os, h.tape, h.output, h.size, fun k hk _ => h.block k hk⟩

theorem keeps_setCell {w : World} {lo hi : Nat} {p : Addr} (h1 : lo ≤ p.block) (h2 : p.block < hi) (u : Value) : Keeps w (w.setCell p u) lo hi := by
  have h : Below p.block w (w.setCell p u) := (Below.refl _ _).setCell (Nat.le_refl _) u
  exact ⟨h.os, h.tape, h.output, h.size, fun k _ hk' => Below.heap_setCell w p u k (by omega)⟩

theorem Keeps.below {w w' : World} {lo hi B : Nat} (h : Keeps w w' lo hi) (hB : B ≤ lo) (hs : B ≤ w.heap.size) : Below B w w' :=
  ⟨h.os, h.tape, h.output, h.size, fun k hk => h.block k (by omega) (.inl (by omega))⟩

theorem Blk.keeps {w w' : World} {b lo hi : Nat} {cs : List Value} (h : Blk w b cs) (hk : Keeps w w' lo hi) (hd : b < lo ∨ hi ≤ b) : Blk w' b cs := by
  have e := hk.block b h.1 hd
  exact ⟨Nat.lt_of_lt_of_le h.1 hk.size, fun i u hu => ⟨(World.cell?_of_block (w := w) (a := ⟨b, i, none⟩) e).trans (h.2 i u hu).1, (World.frozen?_of_block (w := w) (a := ⟨b, i, none⟩) e).trans (h.2 i u hu).2⟩⟩

/-- A row of the call's own, in a block from lo to hi. -/
def OwnIn (w : World) (lo hi : Nat) (a : Option Addr) (n : Nat) (f : Nat → Int) : Prop :=
  n = 0 ∨ ∃ b off, a = some ⟨b, off, none⟩ ∧ (lo ≤ b ∧ b < hi) ∧ b < w.heap.size ∧ ∀ i, i < n → w.cell? ⟨b, off + i, none⟩ = some (.int .i64 (f i)) ∧ w.frozen? ⟨b, off + i, none⟩ = false

theorem OwnIn.src {w : World} {lo hi : Nat} {a : Option Addr} {n : Nat} {f : Nat → Int} (h : OwnIn w lo hi a n f) : Src w a n f := by
  rcases h with h | ⟨b, off, h1, _, h3, h4⟩
  · exact .inl h
  · exact .inr ⟨b, off, h1, h3, fun i hi => (h4 i hi).1⟩

theorem OwnIn.keeps {w w' : World} {lo hi lo' hi' : Nat} {a : Option Addr} {n : Nat} {f : Nat → Int} (h : OwnIn w lo hi a n f) (hk : Keeps w w' lo' hi') (hd : hi ≤ lo' ∨ hi' ≤ lo) : OwnIn w' lo hi a n f := by
  rcases h with h | ⟨b, off, h1, h2, h3, h4⟩
  · exact .inl h
  · have e := hk.block b h3 (by omega)
    exact .inr ⟨b, off, h1, h2, Nat.lt_of_lt_of_le h3 hk.size, fun i hi => ⟨(World.cell?_of_block (w := w) (a := ⟨b, off + i, none⟩) e).trans (h4 i hi).1, (World.frozen?_of_block (w := w) (a := ⟨b, off + i, none⟩) e).trans (h4 i hi).2⟩⟩

theorem OwnIn.below {w w' : World} {lo hi : Nat} {a : Option Addr} {n : Nat} {f : Nat → Int} (h : OwnIn w lo hi a n f) (hb : Below w.heap.size w w') : OwnIn w' lo hi a n f := by
  rcases h with h | ⟨b, off, h1, h2, h3, h4⟩
  · exact .inl h
  · exact .inr ⟨b, off, h1, h2, Nat.lt_of_lt_of_le h3 hb.size, fun i hi => ⟨(hb.cell (p := ⟨b, off + i, none⟩) h3).trans (h4 i hi).1, (hb.frozen (p := ⟨b, off + i, none⟩) h3).trans (h4 i hi).2⟩⟩

theorem OwnIn.alloc {w : World} {lo hi : Nat} {a : Option Addr} {n : Nat} {f : Nat → Int} (h : OwnIn w lo hi a n f) (o : Obj) : OwnIn (w.alloc o) lo hi a n f := h.below ((Below.refl _ _).alloc (Nat.le_refl _) o)

theorem OwnIn.drew {w : World} {lo hi : Nat} {a : Option Addr} {n : Nat} {f : Nat → Int} (h : OwnIn w lo hi a n f) : OwnIn w.drew lo hi a n f := h.below (Below.refl _ _).drew

theorem OwnIn.congr {w : World} {lo hi : Nat} {a : Option Addr} {n : Nat} {f g : Nat → Int} (h : OwnIn w lo hi a n f) (e : ∀ i, i < n → f i = g i) : OwnIn w lo hi a n g := by
  rcases h with h | ⟨b, off, h1, h2, h3, h4⟩
  · exact .inl h
  · exact .inr ⟨b, off, h1, h2, h3, fun i hi => by rw [← e i hi]; exact h4 i hi⟩
end Go.Proofs.YtkeeoelbnmacdaaDoor

namespace Go.Proofs.YtkeeoelbnmacdaaDoor
open Go.RowKit
set_option linter.unusedVariables false

/-- An integer comes back; nothing that was there is turned. -/
def RetInt (W : World) (r : Int) (e : Ending) (w' : World) : Prop := e = .returned (.int .i64 r) ∧ Below W.heap.size W w'
end Go.Proofs.YtkeeoelbnmacdaaDoor

namespace Go.Proofs.YtkeeoelbnmacdaaDoor
open Go.RowKit
set_option linter.unusedVariables false

theorem thru0 {w w1 w2 : World} (h : Below w.heap.size w w1) (hb : Below w1.heap.size w1 w2) : Below w.heap.size w w2 := h.trans (hb.mono h.size)
end Go.Proofs.YtkeeoelbnmacdaaDoor

namespace Go.Proofs.YtkeeoelbnmacdaaDoor
open Go.RowKit
set_option linter.unusedVariables false

def StrG (w : World) (b o : Nat) (t : ByteArray) : Prop := w.cell? ⟨b, o, none⟩ = some (.string t)

def StrF (w : World) (b o : Nat) : Prop := w.frozen? ⟨b, o, none⟩ = false

theorem StrG.block {w w' : World} {b o : Nat} {t : ByteArray} (h : StrG w b o t) (e : w'.heap[b]? = w.heap[b]?) : StrG w' b o t := (World.cell?_of_block (w := w) (a := ⟨b, o, none⟩) e).trans h

theorem StrF.block {w w' : World} {b o : Nat} (h : StrF w b o) (e : w'.heap[b]? = w.heap[b]?) : StrF w' b o := (World.frozen?_of_block (w := w) (a := ⟨b, o, none⟩) e).trans h

/-- A row of strings is read. -/
structure TxSrc (w : World) (b q N : Nat) (T : Nat → ByteArray) : Prop where
  lt : b < w.heap.size
  one : ∀ i, i < N → StrG w b (q + i) (T i)

/-- A row of strings of the call's own. -/
structure TxOwn (w : World) (lo hi b q N : Nat) (T : Nat → ByteArray) : Prop where
  glo : lo ≤ b
  ghi : b < hi
  lt : b < w.heap.size
  one : ∀ i, i < N → StrG w b (q + i) (T i)
  free : ∀ i, i < N → StrF w b (q + i)

theorem TxOwn.src {w : World} {lo hi b q N : Nat} {T : Nat → ByteArray} (h : TxOwn w lo hi b q N T) : TxSrc w b q N T := ⟨h.lt, h.one⟩

theorem TxSrc.below {w w' : World} {b q N : Nat} {T : Nat → ByteArray} (h : TxSrc w b q N T) (hb : Below w.heap.size w w') : TxSrc w' b q N T :=
  ⟨Nat.lt_of_lt_of_le h.lt hb.size, fun i hi => (h.one i hi).block (hb.block b h.lt)⟩

theorem TxOwn.below {w w' : World} {lo hi b q N : Nat} {T : Nat → ByteArray} (h : TxOwn w lo hi b q N T) (hb : Below w.heap.size w w') : TxOwn w' lo hi b q N T :=
  ⟨h.glo, h.ghi, Nat.lt_of_lt_of_le h.lt hb.size, fun i hi => (h.one i hi).block (hb.block b h.lt), fun i hi => (h.free i hi).block (hb.block b h.lt)⟩

theorem TxSrc.keeps {w w' : World} {lo hi b q N : Nat} {T : Nat → ByteArray} (h : TxSrc w b q N T) (hk : Keeps w w' lo hi) (hd : b < lo ∨ hi ≤ b) : TxSrc w' b q N T :=
  ⟨Nat.lt_of_lt_of_le h.lt hk.size, fun i hi => (h.one i hi).block (hk.block b h.lt hd)⟩

theorem TxOwn.keeps {w w' : World} {lo hi lo' hi' b q N : Nat} {T : Nat → ByteArray} (h : TxOwn w lo hi b q N T) (hk : Keeps w w' lo' hi') (hd : hi ≤ lo' ∨ hi' ≤ lo) : TxOwn w' lo hi b q N T := by
  have h1 := h.glo; have h2 := h.ghi
  exact ⟨h.glo, h.ghi, Nat.lt_of_lt_of_le h.lt hk.size, fun i hi => (h.one i hi).block (hk.block b h.lt (by omega)), fun i hi => (h.free i hi).block (hk.block b h.lt (by omega))⟩

theorem TxOwn.congr {w : World} {lo hi b q N : Nat} {T U : Nat → ByteArray} (h : TxOwn w lo hi b q N T) (e : ∀ i, i < N → T i = U i) : TxOwn w lo hi b q N U :=
  ⟨h.glo, h.ghi, h.lt, fun i hi => e i hi ▸ h.one i hi, h.free⟩

theorem TxSrc.congr {w : World} {b q N : Nat} {T U : Nat → ByteArray} (h : TxSrc w b q N T) (e : ∀ i, i < N → T i = U i) : TxSrc w b q N U :=
  ⟨h.lt, fun i hi => e i hi ▸ h.one i hi⟩

theorem TxOwn.widen {w : World} {lo hi lo' hi' b q N : Nat} {T : Nat → ByteArray} (h : TxOwn w lo hi b q N T) (h1 : lo' ≤ lo) (h2 : hi ≤ hi') : TxOwn w lo' hi' b q N T :=
  ⟨Nat.le_trans h1 h.glo, Nat.lt_of_lt_of_le h.ghi h2, h.lt, h.one, h.free⟩

def TxV (w : World) (a : Option Addr) (N : Nat) (T : Nat → ByteArray) : Prop := N = 0 ∨ ∃ b q, a = some ⟨b, q, none⟩ ∧ TxSrc w b q N T

def TxVO (w : World) (lo hi : Nat) (a : Option Addr) (N : Nat) (T : Nat → ByteArray) : Prop := N = 0 ∨ ∃ b q, a = some ⟨b, q, none⟩ ∧ TxOwn w lo hi b q N T

theorem TxVO.src {w : World} {lo hi N : Nat} {a : Option Addr} {T : Nat → ByteArray} (h : TxVO w lo hi a N T) : TxV w a N T := by
  rcases h with h0 | ⟨b, q, ha, h⟩
  · exact .inl h0
  · exact .inr ⟨b, q, ha, h.src⟩

theorem TxV.below {w w' : World} {N : Nat} {a : Option Addr} {T : Nat → ByteArray} (h : TxV w a N T) (hb : Below w.heap.size w w') : TxV w' a N T := by
  rcases h with h0 | ⟨b, q, ha, h⟩
  · exact .inl h0
  · exact .inr ⟨b, q, ha, h.below hb⟩

theorem TxVO.below {w w' : World} {lo hi N : Nat} {a : Option Addr} {T : Nat → ByteArray} (h : TxVO w lo hi a N T) (hb : Below w.heap.size w w') : TxVO w' lo hi a N T := by
  rcases h with h0 | ⟨b, q, ha, h⟩
  · exact .inl h0
  · exact .inr ⟨b, q, ha, h.below hb⟩

theorem TxVO.keeps {w w' : World} {lo hi lo' hi' N : Nat} {a : Option Addr} {T : Nat → ByteArray} (h : TxVO w lo hi a N T) (hk : Keeps w w' lo' hi') (hd : hi ≤ lo' ∨ hi' ≤ lo) : TxVO w' lo hi a N T := by
  rcases h with h0 | ⟨b, q, ha, h⟩
  · exact .inl h0
  · exact .inr ⟨b, q, ha, h.keeps hk hd⟩

theorem TxVO.widen {w : World} {lo hi lo' hi' N : Nat} {a : Option Addr} {T : Nat → ByteArray} (h : TxVO w lo hi a N T) (h1 : lo' ≤ lo) (h2 : hi ≤ hi') : TxVO w lo' hi' a N T := by
  rcases h with h0 | ⟨b, q, ha, h⟩
  · exact .inl h0
  · exact .inr ⟨b, q, ha, h.widen h1 h2⟩

theorem TxV.drew {w : World} {N : Nat} {a : Option Addr} {T : Nat → ByteArray} (h : TxV w a N T) : TxV w.drew a N T := h.below (Below.refl _ _).drew

theorem TxV.alloc {w : World} {N : Nat} {a : Option Addr} {T : Nat → ByteArray} (h : TxV w a N T) (o : Obj) : TxV (w.alloc o) a N T := h.below ((Below.refl _ _).alloc (Nat.le_refl _) o)

theorem TxVO.drew {w : World} {lo hi N : Nat} {a : Option Addr} {T : Nat → ByteArray} (h : TxVO w lo hi a N T) : TxVO w.drew lo hi a N T := h.below (Below.refl _ _).drew

theorem TxVO.alloc {w : World} {lo hi N : Nat} {a : Option Addr} {T : Nat → ByteArray} (h : TxVO w lo hi a N T) (o : Obj) : TxVO (w.alloc o) lo hi a N T := h.below ((Below.refl _ _).alloc (Nat.le_refl _) o)

theorem TxV.congr {w : World} {N : Nat} {a : Option Addr} {T U : Nat → ByteArray} (h : TxV w a N T) (e : ∀ i, i < N → T i = U i) : TxV w a N U := by
  rcases h with h0 | ⟨b, q, ha, h⟩
  · exact .inl h0
  · exact .inr ⟨b, q, ha, h.congr e⟩

theorem TxVO.congr {w : World} {lo hi N : Nat} {a : Option Addr} {T U : Nat → ByteArray} (h : TxVO w lo hi a N T) (e : ∀ i, i < N → T i = U i) : TxVO w lo hi a N U := by
  rcases h with h0 | ⟨b, q, ha, h⟩
  · exact .inl h0
  · exact .inr ⟨b, q, ha, h.congr e⟩

theorem txown_put {w : World} {lo hi b q N i : Nat} {U : Nat → ByteArray} (h : TxOwn w lo hi b q N U) (hi' : i < N) (x : ByteArray) : TxOwn (w.setCell ⟨b, q + i, none⟩ (.string x)) lo hi b q N (fun j => if j = i then x else U j) ∧ Keeps w (w.setCell ⟨b, q + i, none⟩ (.string x)) lo hi := by
  have h1 := h.glo; have h2 := h.ghi
  have k5 : Keeps w (w.setCell ⟨b, q + i, none⟩ (.string x)) lo hi := keeps_setCell (p := ⟨b, q + i, none⟩) h1 h2 _
  refine ⟨⟨h1, h2, Nat.lt_of_lt_of_le h.lt k5.size, fun j hj => ?_, fun j hj => ?_⟩, k5⟩
  · have x0 : w.cell? ⟨b, q + j, none⟩ = some (.string (U j)) := h.one j hj
    by_cases e : j = i
    · subst e
      rw [if_pos rfl]
      show (w.setCell ⟨b, q + j, none⟩ (.string x)).cell? ⟨b, q + j, none⟩ = some (.string x)
      rw [World.cell?_setCell_same' _ _ _ (by rw [x0]; rfl)]
    · rw [if_neg e]
      show (w.setCell ⟨b, q + i, none⟩ (.string x)).cell? ⟨b, q + j, none⟩ = some (.string (U j))
      rw [World.cell?_setCell_other _ _ _ _ (fun e' => e (by have := congrArg Addr.off e'; simp only at this; omega))]
      exact x0
  · show (w.setCell ⟨b, q + i, none⟩ (.string x)).frozen? ⟨b, q + j, none⟩ = false
    rw [World.frozen?_setCell]
    exact h.free j hj

theorem txv_get {w : World} {a : Option Addr} {N : Nat} {T : Nat → ByteArray} (h : TxV w a N T) {i : Nat} (hi : i < N) : ∃ b q, a = some ⟨b, q, none⟩ ∧ b < w.heap.size ∧ w.cell? ⟨b, q + i, none⟩ = some (.string (T i)) := by
  rcases h with h0 | ⟨b, q, ha, hg⟩
  · omega
  · exact ⟨b, q, ha, hg.lt, hg.one i hi⟩
end Go.Proofs.YtkeeoelbnmacdaaDoor

namespace Go.Proofs.YtkeeoelbnmacdaaDoor
open Go.RowKit
set_option linter.unusedVariables false

def isBl (t : ByteArray) (k : Nat) : Prop := ∃ h : k < t.size, (t[k]'h).toNat = 32

instance (t : ByteArray) (k : Nat) : Decidable (isBl t k) := by unfold isBl; infer_instance

/-- where the last piece of the first k bytes begins, and the pieces that ended -/
def partB (t : ByteArray) : Nat → Nat × List ByteArray
  | 0 => (0, [])
  | k + 1 => if isBl t k then (k + 1, (partB t k).2 ++ [t.extract (partB t k).1 k]) else partB t k

def notEmp (l : List ByteArray) : List ByteArray := l.filter fun x => x.size != 0

/-- the words of a line -/
def wordsB (s : ByteArray) : List ByteArray := notEmp (partB (s ++ ⟨#[32]⟩) (s.size + 1)).2

theorem partB_yes {t : ByteArray} {k : Nat} (h : isBl t k) : partB t (k + 1) = (k + 1, (partB t k).2 ++ [t.extract (partB t k).1 k]) := by rw [partB, if_pos h]

theorem partB_no {t : ByteArray} {k : Nat} (h : ¬ isBl t k) : partB t (k + 1) = partB t k := by rw [partB, if_neg h]

theorem partB_run {t : ByteArray} {k : Nat} : ∀ j : Nat, (∀ i, k ≤ i → i < k + j → ¬ isBl t i) → partB t (k + j) = partB t k
  | 0, _ => rfl
  | j + 1, h => by
    show partB t (k + j + 1) = _
    rw [partB_no (h (k + j) (by omega) (by omega))]
    exact partB_run j fun i h1 h2 => h i h1 (by omega)

theorem partB_len (t : ByteArray) : ∀ k, (partB t k).2.length ≤ k
  | 0 => Nat.le_refl _
  | k + 1 => by
    have := partB_len t k
    unfold partB
    split <;> simp <;> omega

theorem notEmp_snoc (l : List ByteArray) (x : ByteArray) : notEmp (l ++ [x]) = if x.size = 0 then notEmp l else notEmp l ++ [x] := by
  unfold notEmp
  rw [List.filter_append]
  by_cases h : x.size = 0 <;> simp [h]

theorem notEmp_len (l : List ByteArray) : (notEmp l).length ≤ l.length := List.length_filter_le _ _

theorem notEmp_take (l : List ByteArray) (k : Nat) (h : k < l.length) : notEmp (l.take (k + 1)) = if l[k].size = 0 then notEmp (l.take k) else notEmp (l.take k) ++ [l[k]] := by
  rw [List.take_succ_eq_append_getElem h, notEmp_snoc]

theorem ext_size (t : ByteArray) (a b : Nat) (h : b ≤ t.size) : (t.extract a b).size = b - a := by
  rw [ByteArray.size_extract]; omega

/-- a rune that is no blank holds no blank -/
theorem get_ge (t : ByteArray) (k : Nat) (h : k < t.size) : t.get! k = t[k]'h := get_at t k h

theorem decode_cont (s : ByteArray) (pos : Nat) (h : pos < s.size) (ha : 128 ≤ (s[pos]'h).toNat) :
    ∀ j, j < (Utf8.decode s pos).2 → ∃ g : pos + j < s.size, 128 ≤ (s[pos + j]'g).toNat := by
  have hn : ¬ (s[pos]'h).toNat < 128 := by omega
  have key : ∀ j, 1 ≤ j → (decide (pos + j < s.size) && (s.get! (pos + j)).toNat / 64 == 2) = true → ∃ g : pos + j < s.size, 128 ≤ (s[pos + j]'g).toNat := by
    intro j _ hj
    simp only [Bool.and_eq_true, decide_eq_true_eq, beq_iff_eq] at hj
    refine ⟨hj.1, ?_⟩
    have := get_ge s (pos + j) hj.1
    rw [this] at hj
    omega
  have key0 : ∃ g : pos + 0 < s.size, 128 ≤ (s[pos + 0]'g).toNat := ⟨h, ha⟩
  intro j hj
  simp only [Utf8.decode, get_at s pos h, hn, if_false] at hj
  repeat' split at hj
  all_goals simp only [Bool.and_eq_true] at *
  all_goals try simp only at hj
  all_goals
    (rcases Nat.lt_or_ge j 1 with h0 | h0
     · obtain rfl : j = 0 := by omega
       exact key0
     · rcases Nat.lt_or_ge j 2 with h1 | h1
       · first | omega | (obtain rfl : j = 1 := by omega
                          exact key 1 (by omega) (by simp_all))
       · rcases Nat.lt_or_ge j 3 with h2 | h2
         · first | omega | (obtain rfl : j = 2 := by omega
                            exact key 2 (by omega) (by simp_all))
         · first | omega | (obtain rfl : j = 3 := by omega
                            exact key 3 (by omega) (by simp_all)))

/-- one rune of a text: a blank alone, or no blank at all -/
theorem rune_step (s : ByteArray) (pos : Nat) (h : pos < s.size) :
    1 ≤ (Utf8.decode s pos).2 ∧ pos + (Utf8.decode s pos).2 ≤ s.size ∧
    (((Utf8.decode s pos).1 = 32 ∧ (Utf8.decode s pos).2 = 1 ∧ isBl s pos) ∨ ((Utf8.decode s pos).1 ≠ 32 ∧ ∀ i, pos ≤ i → i < pos + (Utf8.decode s pos).2 → ¬ isBl s i)) := by
  by_cases ha : (s[pos]'h).toNat < 128
  · rw [decode_ascii s pos h ha]
    refine ⟨Nat.le_refl _, h, ?_⟩
    by_cases h32 : (s[pos]'h).toNat = 32
    · exact .inl ⟨h32, rfl, h, h32⟩
    · refine .inr ⟨h32, fun i h1 h2 hb => ?_⟩
      obtain rfl : i = pos := by omega
      exact h32 hb.2
  · have hg : 128 ≤ (s[pos]'h).toNat := by omega
    have hd := decode_high s pos h hg
    have hc := decode_cont s pos h hg
    obtain ⟨g, _⟩ := hc ((Utf8.decode s pos).2 - 1) (by omega)
    refine ⟨hd.2, by omega, .inr ⟨by omega, fun i h1 h2 hb => ?_⟩⟩
    obtain ⟨g2, hg2⟩ := hc (i - pos) (by omega)
    obtain ⟨g3, hg3⟩ := hb
    have e : pos + (i - pos) = i := by omega
    have : (s[pos + (i - pos)]'g2).toNat = (s[i]'g3).toNat := by simp only [e]
    omega

theorem app_size (s : ByteArray) : (s ++ (⟨#[32]⟩ : ByteArray)).size = s.size + 1 := by rw [ByteArray.size_append]; rfl

theorem isBl_app (s : ByteArray) (k : Nat) (h : k < s.size) : isBl (s ++ ⟨#[32]⟩) k ↔ (s[k]'h).toNat = 32 := by
  have h2 : k < (s ++ (⟨#[32]⟩ : ByteArray)).size := by rw [app_size]; omega
  have e : (s ++ (⟨#[32]⟩ : ByteArray))[k]'h2 = s[k]'h := by rw [ByteArray.getElem_append_left]
  constructor
  · rintro ⟨_, h3⟩; rw [← e]; exact h3
  · intro h3; exact ⟨h2, by rw [e]; exact h3⟩

theorem isBl_end (s : ByteArray) : isBl (s ++ ⟨#[32]⟩) s.size := by
  have h2 : s.size < (s ++ (⟨#[32]⟩ : ByteArray)).size := by rw [app_size]; omega
  refine ⟨h2, ?_⟩
  rw [ByteArray.getElem_append_right (Nat.le_refl _)]
  simp
  rfl

theorem app_extract (s : ByteArray) (a b : Nat) (h : b ≤ s.size) : (s ++ (⟨#[32]⟩ : ByteArray)).extract a b = s.extract a b := by
  apply ByteArray.ext
  apply Array.ext
  · have h1 : ((s ++ (⟨#[32]⟩ : ByteArray)).extract a b).size = b - a := ext_size _ _ _ (by rw [app_size]; omega)
    have h2 : (s.extract a b).size = b - a := ext_size _ _ _ h
    exact h1.trans h2.symm
  · intro i h1 h2
    have h1' : i < ((s ++ (⟨#[32]⟩ : ByteArray)).extract a b).size := h1
    have h2' : i < (s.extract a b).size := h2
    have h3 : (s.extract a b).size = b - a := ext_size _ _ _ h
    have e1 : ((s ++ (⟨#[32]⟩ : ByteArray)).extract a b)[i]'h1' = s[a + i]'(by omega) := by rw [ByteArray.getElem_extract, ByteArray.getElem_append_left]
    have e2 : (s.extract a b)[i]'h2' = s[a + i]'(by omega) := by rw [ByteArray.getElem_extract]
    exact e1.trans e2.symm
end Go.Proofs.YtkeeoelbnmacdaaDoor

namespace Go.Proofs.YtkeeoelbnmacdaaDoor
open Go.RowKit
set_option linter.unusedVariables false

theorem Tryd.infoStr : (Tryd.prog.info? 9).map (fun i => (i.zero, i.size, i.bytes)) = some (some (.string ByteArray.empty), 1, 16) := by kernel_rfl

theorem Tryd.underlyingRStr : Tryd.prog.underlying 22 = some (.slice 9) := by kernel_rfl

def strs (l : List ByteArray) : List Value := l.map Value.string

theorem strs_snoc (l : List ByteArray) (x : ByteArray) : strs (l ++ [x]) = strs l ++ [.string x] := by simp [strs]

theorem strs_get (l : List ByteArray) (i : Nat) (h : i < l.length) : (strs l)[i]? = some (.string (l.getD i ByteArray.empty)) := by simp [strs, List.getD, h]

theorem info_str : ∃ i, Tryd.prog.info? 9 = some i ∧ i.zero = some (.string ByteArray.empty) ∧ i.size = 1 ∧ i.bytes = 16 := by
  have h := Tryd.infoStr
  cases hi : Tryd.prog.info? 9 with
  | none => rw [hi] at h; cases h
  | some i =>
    rw [hi] at h
    simp only [Option.map_some, Option.some.injEq, Prod.mk.injEq] at h
    exact ⟨i, rfl, h.1, h.2.1, h.2.2⟩

theorem append_str {w : World} {ops : Array Oper} {rest : List Oper} {o : Oper} {a : Act} {Q : Exit → Act → World → Prop} (hgd : o.guard = none) (s x : Operand)
    (ho : o.op = .call { callee := .builtin .append, args := #[s, x], argTypes := #[22, 22] })
    (base : Nat) (v : Value) (l : List ByteArray) (hs : a.eval s = v) (hown : w.ownsRow base 9 1 v l.length (strs l)) (b : Nat) (t : ByteArray) (hx : a.eval x = .slice (some ⟨b, 0, none⟩) 1 1) (hc : w.cell? ⟨b, 0, none⟩ = some (.string t))
    (h63 : l.length + 1 ≤ 2000000) (hbase : base ≤ w.heap.size)
    (h : ∀ v' w', w'.ownsRow base 9 1 v' (l ++ [t]).length (strs (l ++ [t])) → w.grownBy w' v.ownBlock → wpList Tryd.prog ops Q rest (a.put o.dst v') w') : wpList Tryd.prog ops Q (o :: rest) a w := by
  obtain ⟨i0, hif, hz0, hz1, hz2⟩ := info_str
  have hcc : ∀ (j : Nat) (u : Value), ([Value.string t] : List Value)[j]? = some u → w.cell? ((⟨b, 0, none⟩ : Addr).add j) = some u := by
    intro j u hu
    rcases j with _ | j
    · simp at hu; subst hu; simpa [Addr.add] using hc
    · simp at hu
  exact wpList_append_own w hgd s x 22 ho base 9 i0 (.string ByteArray.empty) 1 16 Tryd.underlyingRStr hif hz0 hz1 hz2 rfl (by decide) v l.length (strs l) hs hown ⟨b, 0, none⟩ 1 1 [.string t] hx rfl hcc (fun u hu => by simp at hu; subst hu; rfl) (by unfold maxLen; omega) (by omega) hbase fun v' w' h1 h2 _ => h v' w' (by rw [strs_snoc, List.length_append]; exact h1) h2

/-- A call hands back new strings. -/
def RetTxt (W : World) (l : List ByteArray) (e : Ending) (w' : World) : Prop :=
  ∃ a cap, e = .returned (.slice a l.length cap) ∧ TxVO w' W.heap.size w'.heap.size a l.length (fun i => l.getD i ByteArray.empty) ∧ Below W.heap.size W w' ∧ l.length ≤ cap ∧ cap ≤ maxLen

theorem txvo_of_row {w : World} {B cap : Nat} {a : Option Addr} {l : List ByteArray} (h : w.ownsRow B 9 1 (.slice a l.length cap) l.length (strs l)) : TxVO w B w.heap.size a l.length (fun i => l.getD i ByteArray.empty) := by
  have h0 := h
  rcases h.2 with ⟨_, h2⟩ | ⟨g, cap', cur, h1, hB, hg, hnc, hcm, hcs, _⟩
  · exact .inl h2
  · simp at h1
    obtain ⟨rfl, rfl⟩ := h1
    have hlt : g < w.heap.size := (Array.getElem?_eq_some_iff.mp hg).1
    refine .inr ⟨g, 0, rfl, hB, hlt, hlt, fun i hi => ?_, fun i hi => ?_⟩
    · have := h0.cellAt i (by omega)
      rw [strs_get l i hi] at this
      rw [Nat.zero_add]
      exact this
    · rw [Nat.zero_add]
      exact h0.frozenAt i

theorem retTxt_of_row {W w' : World} {l : List ByteArray} {v : Value} (h : w'.ownsRow W.heap.size 9 1 v l.length (strs l)) (hb : Below W.heap.size W w') : RetTxt W l (.returned v) w' := by
  obtain ⟨a, cap, rfl, h1, h2, _⟩ := row_shape h
  exact ⟨a, cap, rfl, txvo_of_row h, hb, h1, h2⟩

theorem append_str_lies {w : World} {ops : Array Oper} {rest : List Oper} {o : Oper} {a : Act} {Q : Exit → Act → World → Prop} (hgd : o.guard = none) (s x : Operand)
    (ho : o.op = .call { callee := .builtin .append, args := #[s, x], argTypes := #[22, 22] })
    (base : Nat) (v : Value) (l : List ByteArray) (hs : a.eval s = v) (hown : w.ownsRow base 9 1 v l.length (strs l)) (b : Nat) (t : ByteArray) (hx : a.eval x = .slice (some ⟨b, 0, none⟩) 1 1) (hc : w.cell? ⟨b, 0, none⟩ = some (.string t))
    (h63 : l.length + 1 ≤ 2000000) (hbase : base ≤ w.heap.size)
    (h : ∀ g cap w', w'.ownsRow base 9 1 (.slice (some ⟨g, 0, none⟩) (l.length + 1) cap) (l ++ [t]).length (strs (l ++ [t])) → w.grownBy w' v.ownBlock → (v.ownBlock = some g ∨ g = w.heap.size) → wpList Tryd.prog ops Q rest (a.put o.dst (.slice (some ⟨g, 0, none⟩) (l.length + 1) cap)) w') : wpList Tryd.prog ops Q (o :: rest) a w := by
  obtain ⟨i0, hif, hz0, hz1, hz2⟩ := info_str
  have hcc : ∀ (j : Nat) (u : Value), ([Value.string t] : List Value)[j]? = some u → w.cell? ((⟨b, 0, none⟩ : Addr).add j) = some u := by
    intro j u hu
    rcases j with _ | j
    · simp at hu; subst hu; simpa [Addr.add] using hc
    · simp at hu
  exact wpList_append_lies w hgd s x 22 ho base 9 i0 (.string ByteArray.empty) 1 16 Tryd.underlyingRStr hif hz0 hz1 hz2 rfl (by decide) v l.length (strs l) hs hown ⟨b, 0, none⟩ 1 1 [.string t] hx rfl hcc (fun u hu => by simp at hu; subst hu; rfl) (by decide) (by unfold maxLen; omega) (by omega) hbase w.heap.size rfl fun g cap w' h1 h2 h3 _ => h g cap w' (by rw [strs_snoc, List.length_append]; exact h1) h2 h3

theorem TxVO.grown {w w' : World} {lo hi N : Nat} {a : Option Addr} {T : Nat → ByteArray} {row : Option Nat} (h : TxVO w lo hi a N T) (hg : w.grownBy w' row) (hr : ∀ k, row = some k → k < lo ∨ hi ≤ k) : TxVO w' lo hi a N T := by
  rcases h with h0 | ⟨b, q, ha, h⟩
  · exact .inl h0
  · have h1 := h.glo; have h2 := h.ghi
    have e : w'.heap[b]? = w.heap[b]? := hg.block b h.lt fun e => by
      have := hr b e.symm; omega
    exact .inr ⟨b, q, ha, h1, h2, Nat.lt_of_lt_of_le h.lt hg.size, fun i hi => (h.one i hi).block e, fun i hi => (h.free i hi).block e⟩
end Go.Proofs.YtkeeoelbnmacdaaDoor

namespace Go.Proofs.YtkeeoelbnmacdaaDoor
open Go.RowKit
set_option linter.unusedVariables false

/-- Two halves of m words each, in blocks from lo to mid and from mid to hi: together F. -/
def Halves (w : World) (lo mid hi : Nat) (a1 a2 : Option Addr) (m : Nat) (F : Nat → Int) : Prop :=
  OwnIn w lo mid a1 m F ∧ OwnIn w mid hi a2 m (fun i => F (m + i))

theorem OwnIn.setCell {w : World} {lo hi : Nat} {a : Option Addr} {n : Nat} {f : Nat → Int} (h : OwnIn w lo hi a n f) {p : Addr} (hp : p.block < lo ∨ hi ≤ p.block) (u : Value) : OwnIn (w.setCell p u) lo hi a n f :=
  h.keeps (keeps_setCell (Nat.le_refl p.block) (Nat.lt_succ_self _) u) (by omega)

theorem OwnIn.out {w : World} {lo hi : Nat} {a : Option Addr} {n : Nat} {f : Nat → Int} (h : OwnIn w lo hi a n f) : Own w lo a n f := by
  rcases h with h | ⟨b, off, h1, h2, h3, h4⟩
  · exact .inl h
  · exact .inr ⟨b, off, h1, h2.1, h3, h4⟩

theorem OwnIn.widen {w : World} {lo hi lo' hi' : Nat} {a : Option Addr} {n : Nat} {f : Nat → Int} (h : OwnIn w lo hi a n f) (h1 : lo' ≤ lo) (h2 : hi ≤ hi') : OwnIn w lo' hi' a n f := by
  rcases h with h | ⟨b, off, g1, g2, g3, g4⟩
  · exact .inl h
  · exact .inr ⟨b, off, g1, by omega, g3, g4⟩

theorem Keeps.widen {w w' : World} {lo hi lo' hi' : Nat} (h : Keeps w w' lo hi) (h1 : lo' ≤ lo) (h2 : hi ≤ hi') : Keeps w w' lo' hi' :=
  ⟨h.os, h.tape, h.output, h.size, fun k hk hd => h.block k hk (by omega)⟩

theorem Halves.below {w w' : World} {lo mid hi : Nat} {a1 a2 : Option Addr} {m : Nat} {F : Nat → Int} (h : Halves w lo mid hi a1 a2 m F) (hb : Below w.heap.size w w') : Halves w' lo mid hi a1 a2 m F := ⟨h.1.below hb, h.2.below hb⟩

theorem Halves.alloc {w : World} {lo mid hi : Nat} {a1 a2 : Option Addr} {m : Nat} {F : Nat → Int} (h : Halves w lo mid hi a1 a2 m F) (o : Obj) : Halves (w.alloc o) lo mid hi a1 a2 m F := ⟨h.1.alloc o, h.2.alloc o⟩

theorem Src.keeps {w w' : World} {lo' hi' : Nat} {a : Option Addr} {n : Nat} {f : Nat → Int} (h : Src w a n f) (hk : Keeps w w' lo' hi') (hd : ∀ b off, a = some ⟨b, off, none⟩ → b < lo' ∨ hi' ≤ b) : Src w' a n f := by
  rcases h with h | ⟨b, off, h1, h3, h4⟩
  · exact .inl h
  · have e := hk.block b h3 (hd b off h1)
    exact .inr ⟨b, off, h1, Nat.lt_of_lt_of_le h3 hk.size, fun i hi => (World.cell?_of_block (w := w) (a := ⟨b, off + i, none⟩) e).trans (h4 i hi)⟩
end Go.Proofs.YtkeeoelbnmacdaaDoor

namespace Go.Proofs.YtkeeoelbnmacdaaDoor
open Go.RowKit
set_option linter.unusedVariables false

/-- A store into a known block. -/
theorem Blk.set {w : World} {b : Nat} {cs : List Value} (h : Blk w b cs) (i : Nat) (hi : i < cs.length) (v : Value) : Blk (w.setCell ⟨b, i, none⟩ v) b (cs.set i v) := by
  refine ⟨by simpa using h.1, fun j u hj => ?_⟩
  constructor
  · by_cases e : j = i
    · subst e
      rw [List.getElem?_set_self hi] at hj
      simp only [Option.some.injEq] at hj
      subst hj
      exact World.cell?_setCell_same w ⟨b, j, none⟩ v (h.2 j cs[j] (List.getElem?_eq_getElem hi)).1
    · rw [List.getElem?_set_ne (fun x => e x.symm)] at hj
      rw [World.cell?_setCell_other _ _ _ _ (by simp; try omega)]
      exact (h.2 j u hj).1
  · rw [World.frozen?_setCell]
    by_cases e : j = i
    · subst e; exact (h.2 j cs[j] (List.getElem?_eq_getElem hi)).2
    · rw [List.getElem?_set_ne (fun x => e x.symm)] at hj
      exact (h.2 j u hj).2
end Go.Proofs.YtkeeoelbnmacdaaDoor

namespace Go.Proofs.YtkeeoelbnmacdaaDoor
open Go.RowKit
set_option linter.unusedVariables false

theorem Halves.congr {w : World} {lo mid hi : Nat} {a1 a2 : Option Addr} {m : Nat} {F G : Nat → Int} (h : Halves w lo mid hi a1 a2 m F) (e : ∀ i, i < 2 * m → F i = G i) : Halves w lo mid hi a1 a2 m G :=
  ⟨h.1.congr fun i hi => e i (by omega), h.2.congr fun i hi => e (m + i) (by omega)⟩
end Go.Proofs.YtkeeoelbnmacdaaDoor

namespace Go.Proofs.YtkeeoelbnmacdaaDoor
open Go.RowKit
set_option linter.unusedVariables false

/-- The bytes of a code, in a block below S. -/
def SrcB (w : World) (S : Nat) (a : Option Addr) (k : Nat) (B : Nat → Int) : Prop :=
  k = 0 ∨ ∃ b off, a = some ⟨b, off, none⟩ ∧ b < S ∧ b < w.heap.size ∧ ∀ i, i < k → w.cell? ⟨b, off + i, none⟩ = some (.int .u8 (B i)) ∧ 0 ≤ B i ∧ B i ≤ 255

theorem SrcB.keeps {w w' : World} {S lo hi : Nat} {a : Option Addr} {k : Nat} {B : Nat → Int} (h : SrcB w S a k B) (hk : Keeps w w' lo hi) (hS : S ≤ lo) : SrcB w' S a k B := by
  rcases h with h | ⟨b, off, h1, h2, h3, h4⟩
  · exact .inl h
  · have e := hk.block b h3 (.inl (by omega))
    exact .inr ⟨b, off, h1, h2, Nat.lt_of_lt_of_le h3 hk.size, fun i hi => ⟨(World.cell?_of_block (w := w) (a := ⟨b, off + i, none⟩) e).trans (h4 i hi).1, (h4 i hi).2⟩⟩

theorem SrcB.below {w w' : World} {S : Nat} {a : Option Addr} {k : Nat} {B : Nat → Int} (h : SrcB w S a k B) (hb : Below w.heap.size w w') : SrcB w' S a k B := by
  rcases h with h | ⟨b, off, h1, h2, h3, h4⟩
  · exact .inl h
  · exact .inr ⟨b, off, h1, h2, Nat.lt_of_lt_of_le h3 hb.size, fun i hi => ⟨(hb.cell (p := ⟨b, off + i, none⟩) h3).trans (h4 i hi).1, (h4 i hi).2⟩⟩

theorem SrcB.alloc {w : World} {S : Nat} {a : Option Addr} {k : Nat} {B : Nat → Int} (h : SrcB w S a k B) (o : Obj) : SrcB (w.alloc o) S a k B := h.below ((Below.refl _ _).alloc (Nat.le_refl _) o)

theorem SrcB.drew {w : World} {S : Nat} {a : Option Addr} {k : Nat} {B : Nat → Int} (h : SrcB w S a k B) : SrcB w.drew S a k B := h.below (Below.refl _ _).drew

theorem Keeps.alloc {w w1 : World} {lo hi : Nat} (h : Keeps w w1 lo hi) (o : Obj) : Keeps w (w1.alloc o) lo hi := h.trans (keeps_of_below ((Below.refl _ _).alloc (Nat.le_refl _) o) lo hi)

theorem Keeps.drew {w w1 : World} {lo hi : Nat} (h : Keeps w w1 lo hi) : Keeps w w1.drew lo hi := h.trans (keeps_of_below (Below.refl _ _).drew lo hi)

theorem SrcB.setCell {w : World} {S : Nat} {a : Option Addr} {k : Nat} {B : Nat → Int} (h : SrcB w S a k B) {p : Addr} (hp : S ≤ p.block) (u : Value) : SrcB (w.setCell p u) S a k B :=
  h.keeps (keeps_setCell (Nat.le_refl p.block) (Nat.lt_succ_self _) u) hp
end Go.Proofs.YtkeeoelbnmacdaaDoor

namespace Go.Proofs.YtkeeoelbnmacdaaDoor
open Go.RowKit
set_option linter.unusedVariables false

theorem SrcB.mono {w : World} {S S' : Nat} {a : Option Addr} {k : Nat} {B : Nat → Int} (h : SrcB w S a k B) (hS : S ≤ S') : SrcB w S' a k B := by
  rcases h with h | ⟨b, off, h1, h2, h3, h4⟩
  · exact .inl h
  · exact .inr ⟨b, off, h1, by omega, h3, h4⟩
end Go.Proofs.YtkeeoelbnmacdaaDoor

namespace Go.Proofs.YtkeeoelbnmacdaaDoor
open Go.RowKit
set_option linter.unusedVariables false

/-- An object as the model tells it: its place and its head. -/
structure Ob where
  at_ : Int
  s : Int
  m : Int
  o : Int
  h : Int

/-- An object in memory: where its fields are. -/
structure OM where
  x : Ob
  g : Nat
  c : Nat

def OM.cells (t : OM) : List Value := [.int .i64 t.x.at_, .int .i64 t.x.s, .int .i64 t.x.m, .int .i64 t.x.o, .int .i64 t.x.h, .slice (some ⟨t.g, 0, none⟩) t.x.s.toNat t.c]

/-- Each object's fields are a row of their own, in the order of the objects. -/
def Flds (w : World) (lo : Nat) (f : Nat → Int) (v : Value) (M : List OM) : Prop :=
  (∀ t ∈ M, lo ≤ t.g ∧ t.g < w.heap.size ∧ some t.g ≠ v.ownBlock ∧ ∀ k, k < t.x.s.toNat → w.cell? ⟨t.g, k, none⟩ = some (.int .i64 (f (t.x.at_.toNat + 2 + k))) ∧ w.frozen? ⟨t.g, k, none⟩ = false) ∧ M.Pairwise (fun t u => t.g < u.g)

theorem ownsRow_below {w w' : World} {base e size n : Nat} {v : Value} {xs : List Value} (h : w.ownsRow base e size v n xs) (hb : Below w.heap.size w w') : w'.ownsRow base e size v n xs := by
  refine ⟨h.1, ?_⟩
  rcases h.2 with h0 | ⟨g, cap, cur, h1, h2, h3, h4⟩
  · exact .inl h0
  · have hg : g < w.heap.size := by
      rcases Nat.lt_or_ge g w.heap.size with hlt | hge
      · exact hlt
      · rw [Array.getElem?_eq_none hge] at h3; cases h3
    exact .inr ⟨g, cap, cur, h1, h2, (hb.block g hg).trans h3, h4⟩

theorem Flds.below {w w' : World} {lo : Nat} {f : Nat → Int} {v : Value} {M : List OM} (h : Flds w lo f v M) (hb : Below w.heap.size w w') : Flds w' lo f v M :=
  ⟨fun t ht => by
    obtain ⟨h1, h2, h3, h4⟩ := h.1 t ht
    exact ⟨h1, Nat.lt_of_lt_of_le h2 hb.size, h3, fun k hk => ⟨(hb.cell (p := ⟨t.g, k, none⟩) h2).trans (h4 k hk).1, (hb.frozen (p := ⟨t.g, k, none⟩) h2).trans (h4 k hk).2⟩⟩, h.2⟩
end Go.Proofs.YtkeeoelbnmacdaaDoor

namespace Go.Proofs.YtkeeoelbnmacdaaDoor
open Go.RowKit
set_option linter.unusedVariables false

set_option maxRecDepth 100000 in
set_option maxHeartbeats 1600000 in
theorem l1Cut_any (s : ByteArray) (w : World) (hs : s.size ≤ 1048576) :
    Calls Tryd.prog 44 #[.string s, .int .u8 32] w (RetTxt w (partB (s ++ ⟨#[32]⟩) (s.size + 1)).2) := by
  have OWa : Hid ((w.alloc (.cells #[] 9)).ownsRow w.heap.size 9 1 (.slice (some ⟨w.heap.size, 0, none⟩) 0 0) ([] : List ByteArray).length (strs [])) := World.ownsRow_lit w #[] 0 (Nat.le_refl _) (by simp [maxLen]) rfl
  have HBa : Hid (Below w.heap.size w (w.alloc (.cells #[] 9))) := (Below.refl _ _).alloc (Nat.le_refl _) _
  obtain ⟨t, htt⟩ : ∃ t, s ++ (⟨#[32]⟩ : ByteArray) = t := ⟨_, rfl⟩
  have HT := Lib.hid htt
  rw [htt]
  clear htt
  go_enter Tryd.func44, Tryd.ntmps44
  go_wp2
  go_loopw [5, 6, 7] (fun u f p wr => ∃ (i F : Nat) (L : List ByteArray), i ≤ s.size + 1 ∧ F ≤ i ∧ p = .int .i64 (i : Int) ∧ f = .int .i64 (F : Int) ∧ Hid (partB t i = (F, L)) ∧ Hid (Below w.heap.size w wr) ∧ Hid (wr.ownsRow w.heap.size 9 1 u L.length (strs L))) (fun _ _ p _ => s.size + 1 - (intOf p).toNat)
  case atStart => exact ⟨0, 0, [], Nat.zero_le _, Nat.zero_le _, rfl, rfl, Lib.hid rfl, HBa, OWa⟩
  case round =>
    clear OWa HBa
    obtain ⟨i, F, L, hi, hF, rfl, rfl, HL, HB_r, OW_r⟩ := hrel
    have hzr := HB_r.out.size
    have hLl : L.length ≤ i := by have := partB_len t i; rw [HL.out] at this; exact this
    by_cases hlt : i ≤ s.size
    · by_cases hb : isBl t i
      · have HL2 : Hid (partB t (i + 1) = (i + 1, L ++ [s.extract F i])) := Lib.hid (by rw [partB_yes hb, HL.out, ← HT.out, app_extract s F i hlt])
        have HGE : Hid (∀ k, u5.ownBlock = some k → w.heap.size ≤ k) := Lib.hid (fun k hk => (OW_r.out.lt k hk).1)
        have hxx : s.extract F i = s.extract F i := rfl
        have z2 : w.heap.size ≤ wr.heap.size := hzr
        by_cases he : i = s.size
        · have hei : ((i : Int) == (s.size : Int)) = true := by rw [he]; simp
          have HE := Lib.hid he
          have hxl : i ≤ s.size := hlt
          clear hb he
          go_wp2_with (at_builtin; go_loud (refine append_str rfl _ _ rfl w.heap.size u5 L rfl (OW_r.out.alloc _) wr.heap.size (s.extract F i) rfl (by simp) (by omega) (by simp; omega) ?_); intro v9 w9 hown9 hgrow9)
          have HB9 : Hid (Below w.heap.size w w9) := (HB_r.out.alloc z2 _).grown hgrow9 (by simp; omega) (fun k hk => HGE.out k hk)
          have OW9 : Hid (w9.ownsRow w.heap.size 9 1 v9 (L ++ [s.extract F i]).length (strs (L ++ [s.extract F i]))) := Lib.hid hown9
          clear hown9 hgrow9
          generalize L ++ [s.extract F i] = L9 at *
          go_wp2
          go_roundw
          case rel => first | exact ⟨i + 1, i + 1, L9, by omega, by omega, by go_num, by go_num, HL2, HB9, OW9⟩ | ((repeat apply Exists.intro); exact ⟨⟨i + 1, i + 1, L9, by omega, by omega, by go_num, by go_num, HL2, HB9, OW9⟩, rfl⟩)
          case measure => simp [intOf]; omega
        · have hlt2 : i < s.size := by omega
          have h32 : (s[i]'hlt2).toNat = 32 := by rw [← HT.out, isBl_app s i hlt2] at hb; exact hb
          have h32i : (((s[i]'hlt2).toNat : Int) == 32) = true := by rw [h32]; rfl
          have hei : ((i : Int) == (s.size : Int)) = false := by rw [Bool.eq_false_iff]; intro h; rw [beq_iff_eq] at h; omega
          clear hb h32
          go_wp2_with (at_builtin; go_loud (refine append_str rfl _ _ rfl w.heap.size u5 L rfl (OW_r.out.alloc _) wr.heap.size (s.extract F i) rfl (by simp) (by omega) (by simp; omega) ?_); intro v9 w9 hown9 hgrow9)
          have HB9 : Hid (Below w.heap.size w w9) := (HB_r.out.alloc z2 _).grown hgrow9 (by simp; omega) (fun k hk => HGE.out k hk)
          have OW9 : Hid (w9.ownsRow w.heap.size 9 1 v9 (L ++ [s.extract F i]).length (strs (L ++ [s.extract F i]))) := Lib.hid hown9
          clear hown9 hgrow9
          generalize L ++ [s.extract F i] = L9 at *
          go_wp2
          go_roundw
          case rel => first | exact ⟨i + 1, i + 1, L9, by omega, by omega, by go_num, by go_num, HL2, HB9, OW9⟩ | ((repeat apply Exists.intro); exact ⟨⟨i + 1, i + 1, L9, by omega, by omega, by go_num, by go_num, HL2, HB9, OW9⟩, rfl⟩)
          case measure => simp [intOf]; omega
      · have hlt2 : i < s.size := by
          rcases Nat.lt_or_ge i s.size with h | h
          · exact h
          · obtain rfl : i = s.size := by omega
            exact absurd (HT.out ▸ isBl_end s) hb
        have h32 : ¬ (s[i]'hlt2).toNat = 32 := by rw [← HT.out, isBl_app s i hlt2] at hb; exact hb
        have h32i : (((s[i]'hlt2).toNat : Int) == 32) = false := by rw [Bool.eq_false_iff]; intro h; rw [beq_iff_eq] at h; omega
        have hei : ((i : Int) == (s.size : Int)) = false := by rw [Bool.eq_false_iff]; intro h; rw [beq_iff_eq] at h; omega
        have HL2 : Hid (partB t (i + 1) = (F, L)) := Lib.hid (by rw [partB_no hb, HL.out])
        clear hb h32
        go_wp2
        all_goals first | (exfalso; omega) | skip
        go_roundw
        case rel => first | exact ⟨i + 1, F, L, by omega, by omega, by go_num, rfl, HL2, HB_r, OW_r⟩ | ((repeat apply Exists.intro); exact ⟨⟨i + 1, F, L, by omega, by omega, by go_num, rfl, HL2, HB_r, OW_r⟩, rfl⟩)
        case measure => simp [intOf]; omega
    · obtain rfl : i = s.size + 1 := by omega
      have HRet : Hid (RetTxt w (partB t (s.size + 1)).2 (.returned u5) wr) := Lib.hid (by rw [HL.out]; exact retTxt_of_row OW_r.out HB_r.out)
      go_wp2
      go_ret
      exact HRet.out
end Go.Proofs.YtkeeoelbnmacdaaDoor

namespace Go.Proofs.YtkeeoelbnmacdaaDoor
open Go.RowKit
set_option linter.unusedVariables false

theorem txv_at {w : World} {a : Option Addr} {P : List ByteArray} (h : TxV w a P.length (fun i => P.getD i ByteArray.empty)) {k : Nat} (hk : k < P.length) : ∃ b q, a = some ⟨b, q, none⟩ ∧ b < w.heap.size ∧ w.cell? ⟨b, q + k, none⟩ = some (.string (P[k]'hk)) := by
  obtain ⟨b, q, h1, h2, h3⟩ := txv_get h hk
  refine ⟨b, q, h1, h2, ?_⟩
  rw [h3]; simp [List.getD, hk]

theorem beq_emp (x : ByteArray) : (x.toList == []) = decide (x.size = 0) := by
  rw [ByteArray.toList_eq, Bool.eq_iff_iff, beq_iff_eq, decide_eq_true_eq]
  constructor
  · intro h
    have : x.data.toList.length = 0 := by rw [h]; rfl
    simpa using this
  · intro h
    apply List.eq_nil_of_length_eq_zero
    simpa using h

set_option maxRecDepth 100000 in
set_option maxHeartbeats 1600000 in
theorem l10Words_any (s : ByteArray) (w : World) (hs : s.size ≤ 1048576) :
    Calls Tryd.prog 22 #[.string s] w (RetTxt w (wordsB s)) := by
  have OWa : Hid ((w.alloc (.cells #[] 9)).ownsRow w.heap.size 9 1 (.slice (some ⟨w.heap.size, 0, none⟩) 0 0) ([] : List ByteArray).length (strs [])) := World.ownsRow_lit w #[] 0 (Nat.le_refl _) (by simp [maxLen]) rfl
  have HBa : Hid (Below w.heap.size w (w.alloc (.cells #[] 9))) := (Below.refl _ _).alloc (Nat.le_refl _) _
  have hPl := partB_len (s ++ ⟨#[32]⟩) (s.size + 1)
  obtain ⟨P, hP⟩ : ∃ P, (partB (s ++ ⟨#[32]⟩) (s.size + 1)).2 = P := ⟨_, rfl⟩
  have HW : Hid (wordsB s = notEmp P) := Lib.hid (by rw [← hP]; rfl)
  have h1 := l1Cut_any s (w.alloc (.cells #[] 9)) hs
  rw [hP] at h1 hPl
  clear hP
  go_enter Tryd.func22, Tryd.ntmps22
  go_wp2_with fail
  refine h1.mono ?_
  rintro e w1 ⟨a, cap, rfl, ho, hb, hc1, hc2⟩
  have HB1 := Lib.hid (HBa.trans (hb.mono (by simp)))
  have OW1 := Lib.hid (ownsRow_below OWa.out hb)
  have HS := Lib.hid ho
  have z1 := HB1.out.size
  clear ho hb h1 OWa HBa
  go_wp2_with fail
  go_loopw [3, 5] (fun u p wr => ∃ (i : Nat) (L : List ByteArray), i ≤ P.length ∧ p = .int .i64 (i : Int) ∧ L.length ≤ i ∧ Hid (L = notEmp (P.take i)) ∧ Hid (w1.heap.size ≤ wr.heap.size ∧ TxVO wr (w.heap.size + 1) w1.heap.size a P.length (fun i => P.getD i ByteArray.empty) ∧ ∀ k, u.ownBlock = some k → k < w.heap.size + 1 ∨ w1.heap.size ≤ k) ∧ Hid (Below w.heap.size w wr) ∧ Hid (wr.ownsRow w.heap.size 9 1 u L.length (strs L))) (fun _ p _ => P.length - (intOf p).toNat)
  case atStart => exact ⟨0, [], Nat.zero_le _, rfl, Nat.zero_le _, Lib.hid rfl, Lib.hid ⟨Nat.le_refl _, HS.out.widen (by simp) (Nat.le_refl _), fun k hk => by simp [Value.ownBlock] at hk; omega⟩, HB1, OW1⟩
  case round =>
    obtain ⟨i, L, hi, rfl, hLl, HL, HR, HB_r, OW_r⟩ := hrel
    by_cases hlt : i < P.length
    · have hlt' : (i : Int) < (P.length : Int) := by omega
      have hi0 : (0 : Int) ≤ (i : Int) := by omega
      obtain ⟨b, q, rfl, lb, x0⟩ := txv_at HR.out.2.1.src hlt
      have hnt := Lib.hid (notEmp_take P i hlt)
      have hzr := HB_r.out.size
      generalize P[i]'hlt = x at *
      by_cases hx : x.size = 0
      · have hx1 : x.toList.isEmpty = true := by have := beq_emp x; simp [hx] at this; simpa using this
        have hx2 : x.toList = [] := by simpa using hx1
        have HL2 : Hid (L = notEmp (P.take (i + 1))) := Lib.hid (by rw [hnt.out, if_pos hx]; exact HL.out)
        clear hx
        have HX := Lib.hid hx2
        go_wp2
        all_goals first | (exfalso; omega) | skip
        go_roundw
        case rel => first | exact ⟨i + 1, L, by omega, by go_num, by omega, HL2, HR, HB_r, OW_r⟩ | ((repeat apply Exists.intro); exact ⟨⟨i + 1, L, by omega, by go_num, by omega, HL2, HR, HB_r, OW_r⟩, rfl⟩)
        case measure => simp [intOf]; omega
      · have hx2 : ¬ x.toList = [] := by have := beq_emp x; simp [hx] at this; exact this
        have hx1 : x.toList.isEmpty = false := by simpa using hx2
        have HL2 : Hid (L ++ [x] = notEmp (P.take (i + 1))) := Lib.hid (by rw [hnt.out, if_neg hx, ← HL.out])
        have HGE : Hid (∀ k, u3.ownBlock = some k → w.heap.size ≤ k) := Lib.hid (fun k hk => (OW_r.out.lt k hk).1)
        have HX := Lib.hid hx2
        clear hx hx2
        have z3 := HR.out.1
        go_wp2_with (at_builtin; go_loud (refine append_str_lies rfl _ _ rfl w.heap.size u3 L rfl (OW_r.out.alloc _) wr.heap.size x rfl (by simp) (by omega) (by simp; omega) ?_); intro g9 cap9 w9 hown9 hgrow9 hor9)
        have HB9 : Hid (Below w.heap.size w w9) := (HB_r.out.alloc hzr _).grown hgrow9 (by simp; omega) (fun k hk => HGE.out k hk)
        have hl9 : (L ++ [x]).length = L.length + 1 := by simp
        have OW9 : Hid (w9.ownsRow w.heap.size 9 1 (.slice (some ⟨g9, 0, none⟩) (L.length + 1) cap9) (L ++ [x]).length (strs (L ++ [x]))) := Lib.hid hown9
        have HR9 : Hid (w1.heap.size ≤ w9.heap.size ∧ TxVO w9 (w.heap.size + 1) w1.heap.size (some ⟨b, q, none⟩) P.length (fun i => P.getD i ByteArray.empty) ∧ ∀ k, (Value.slice (some ⟨g9, 0, none⟩) (L.length + 1) cap9).ownBlock = some k → k < w.heap.size + 1 ∨ w1.heap.size ≤ k) := Lib.hid
          ⟨by have := hgrow9.size; simp at this; omega, (HR.out.2.1.alloc _).grown hgrow9 HR.out.2.2, fun k hk => by
            simp [Value.ownBlock] at hk
            subst hk
            rcases hor9 with h | h
            · exact HR.out.2.2 _ h
            · right; simp at h; omega⟩
        have HLN := Lib.hid hl9
        have hl9b : (L ++ [x]).length ≤ i + 1 := by rw [hl9]; omega
        clear hown9 hgrow9 hor9 hl9
        generalize L.length + 1 = n9 at *
        generalize L ++ [x] = L9 at *
        have hln := HLN.out
        subst hln
        go_wp2
        go_roundw
        case rel => first | exact ⟨i + 1, L9, by omega, by go_num, by omega, HL2, HR9, HB9, OW9⟩ | ((repeat apply Exists.intro); exact ⟨⟨i + 1, L9, by omega, by go_num, by omega, HL2, HR9, HB9, OW9⟩, rfl⟩)
        case measure => simp [intOf]; omega
    · obtain rfl : i = P.length := by omega
      have HRet : Hid (RetTxt w (wordsB s) (.returned u3) wr) := Lib.hid (by rw [HW.out, show notEmp P = L by rw [HL.out, List.take_of_length_le (Nat.le_refl _)]]; exact retTxt_of_row OW_r.out HB_r.out)
      go_wp2
      go_ret
      exact HRet.out
end Go.Proofs.YtkeeoelbnmacdaaDoor

namespace Go.Proofs.YtkeeoelbnmacdaaDoor
open Go.RowKit Go.Extern.Stop Go.Stop Go.Extern
set_option linter.unusedVariables false

/-- errors.As(nil, target). -/
theorem as_nil (t : Value) (w : World) :
    Calls Tryd.prog 45 #[.nilIface, t] w fun e w' => e = .returned (.bool false) ∧ w' = w := by
  go_enter Tryd.func45, Tryd.ntmps45
  go_wp2
  go_ret
  exact ⟨rfl, rfl⟩

theorem asx_valueOf27 (t : Addr) (w : World) : (ReflectliteValue.unpack (.iface 80 (.pointer (some t)))).run Tryd.prog w
    = .ok (.agg #[.pointer (some ⟨5, 80, none⟩), .pointer (some ⟨w.heap.size, 0, none⟩), .int .u64 150]) (w.alloc (.cells #[.pointer (some t)] 80)) := by kernel_rfl

theorem asx_type27 (a : Addr) (w : World) : (ReflectliteValue.methodAny (ReflectliteValue.valueError "reflectlite.Value.Type" 0) (fun t _ _ _ => ReflectliteType.toType t) #[.agg #[.pointer (some ⟨5, 80, none⟩), .pointer (some a), .int .u64 150]]).run Tryd.prog w
    = .ok (.iface 132 (.agg #[.pointer (some ⟨5, 80, none⟩)])) w := by kernel_rfl

theorem asx_methodKind (h : Value) (w : World) : (Go.method 340 132 (.agg #[h]) "Kind").run Tryd.prog w = .ok (146, h) w := by kernel_rfl

theorem asx_kind27 (w : World) : ((ReflectliteType.abiMethod fun t => (fun a : Nat => Value.int IntKind.u8 (a : Int)) <$> Rtype.kind t) #[.pointer (some ⟨5, 80, none⟩)]).run Tryd.prog w = .ok (.int .u8 22) w := by kernel_rfl

theorem asx_kind25 (w : World) : ((ReflectliteType.abiMethod fun t => (fun a : Nat => Value.int IntKind.u8 (a : Int)) <$> Rtype.kind t) #[.pointer (some ⟨5, 78, none⟩)]).run Tryd.prog w = .ok (.int .u8 25) w := by kernel_rfl

theorem rlm (z : Sem Value) (f : TypeId → Addr → Nat → Nat → Sem Value) (v : Value) :
    ReflectliteValue.method z f #[v] = (do match ← ReflectliteValue.parts v with | none => z | some (t, a, fl) => f t a fl (fl % 32)) := rfl

theorem asx_parts27 (a : Addr) (w : World) : (ReflectliteValue.parts (.agg #[.pointer (some ⟨5, 80, none⟩), .pointer (some a), .int .u64 150])).run Tryd.prog w = .ok (some (80, a, 150)) w := by kernel_rfl

/-- (Value).IsNil at the Value of a **p.E that is not nil. -/
theorem asx_isNil27 (a p : Addr) (W : World) (ha : W.cell? a = some (.pointer (some p))) :
    (ReflectliteValue.method (ReflectliteValue.valueError "reflectlite.Value.IsNil" 0) ReflectliteValue.isNil #[.agg #[.pointer (some ⟨5, 80, none⟩), .pointer (some a), .int .u64 150]]).run Tryd.prog W = .ok (.bool false) W := by
  rw [rlm]
  simp only [Sem.run_bind, asx_parts27, Result.andThen]
  simp [ReflectliteValue.isNil, loadVar, isAgg, underlying, Tryd.underlying80, ha, Result.andThen]

theorem asx_methodElem (h : Value) (w : World) : (Go.method 340 132 (.agg #[h]) "Elem").run Tryd.prog w = .ok (157, .agg #[h]) w := by kernel_rfl

theorem asx_methodImplements (h : Value) (w : World) : (Go.method 340 132 (.agg #[h]) "Implements").run Tryd.prog w = .ok (158, .agg #[h]) w := by kernel_rfl

theorem asx_methodAssignableTo (h : Value) (w : World) : (Go.method 340 132 (.agg #[h]) "AssignableTo").run Tryd.prog w = .ok (155, .agg #[h]) w := by kernel_rfl

theorem asx_elem27 (w : World) : (ReflectliteType.method ReflectliteType.elem #[.agg #[.pointer (some ⟨5, 80, none⟩)]]).run Tryd.prog w = .ok (.iface 132 (.agg #[.pointer (some ⟨5, 78, none⟩)])) w := by kernel_rfl

theorem asx_implements25 (w : World) : (ReflectliteType.relation "Implements" ReflectliteType.implements_ #[.agg #[.pointer (some ⟨5, 78, none⟩)], .iface 132 (.agg #[.pointer (some ⟨5, 49, none⟩)])]).run Tryd.prog w = .ok (.bool true) w := by kernel_rfl

theorem asx_typeOf25 (v : Value) (w : World) : (ReflectliteType.typeOf #[.iface 78 v]).run Tryd.prog w = .ok (.iface 132 (.agg #[.pointer (some ⟨5, 78, none⟩)])) w := by kernel_rfl

theorem asx_assignable25 (w : World) : (ReflectliteType.relation "AssignableTo" ReflectliteType.assignableTo #[.agg #[.pointer (some ⟨5, 78, none⟩)], .iface 132 (.agg #[.pointer (some ⟨5, 78, none⟩)])]).run Tryd.prog w = .ok (.bool true) w := by kernel_rfl

theorem asx_valueOf25 (e : Int) (w : World) : (ReflectliteValue.unpack (.iface 78 (.agg #[.int .i64 e]))).run Tryd.prog w
    = .ok (.agg #[.pointer (some ⟨5, 78, none⟩), .pointer (some ⟨w.heap.size, 0, none⟩), .int .u64 153]) (w.alloc (.cells #[.int .i64 e] 78)) := by kernel_rfl

theorem asx_elemOf27 (w : World) : (Rtype.elem? 80).run Tryd.prog w = .ok (some 78) w := by kernel_rfl

theorem asx_mk25 (p : Addr) (w : World) : (ReflectliteValue.mk 78 p ReflectliteValue.flagAddr).run Tryd.prog w = .ok (.agg #[.pointer (some ⟨5, 78, none⟩), .pointer (some p), .int .u64 409]) w := by kernel_rfl

/-- (Value).Elem at the Value of a **p.E that is not nil: the Value of the *p.E variable that it points to, addressable. -/
theorem asx_elemV27 (a p : Addr) (W : World) (ha : W.cell? a = some (.pointer (some p))) :
    (ReflectliteValue.method (ReflectliteValue.valueError "reflectlite.Value.Elem" 0) ReflectliteValue.elem #[.agg #[.pointer (some ⟨5, 80, none⟩), .pointer (some a), .int .u64 150]]).run Tryd.prog W
      = .ok (.agg #[.pointer (some ⟨5, 78, none⟩), .pointer (some p), .int .u64 409]) W := by
  rw [rlm]
  simp only [Sem.run_bind, asx_parts27, Result.andThen]
  simp [ReflectliteValue.elem, loadVar, isAgg, underlying, Tryd.underlying80, ha, Result.andThen, asx_elemOf27, asx_mk25]

theorem rls (v x : Value) : ReflectliteValue.set #[v, x] = (do
    let (some (dst, a, fl), some (src, b, _)) := (← ReflectliteValue.parts v, ← ReflectliteValue.parts x)
      | unsupported (.noEntry "extern/(internal/reflectlite.Value).Set.zeroValue")
    if fl / ReflectliteValue.flagAddr % 2 == 0 then unsupported (.noEntry "extern/(internal/reflectlite.Value).Set.unaddressable")
    let val ← loadVar src b
    if ← Rtype.directlyAssignable dst src then storeVar dst a val
    else if ← Rtype.implements dst src then
      if (← Rtype.kind src) == 20 then
        match val with
        | .nilIface => unsupported (.noEntry "extern/reflectlite: a nil value of one interface type handed on as a value of another")
        | _ => storeVar dst a val
      else storeVar dst a (.iface src val)
    else panicString ("reflectlite.Set: value of type " ++ (← Rtype.spelt src) ++ " is not assignable to type " ++ (← Rtype.spelt dst))
    pure (.tuple #[])) := rfl

theorem asx_parts25a (a : Addr) (w : World) : (ReflectliteValue.parts (.agg #[.pointer (some ⟨5, 78, none⟩), .pointer (some a), .int .u64 409])).run Tryd.prog w = .ok (some (78, a, 409)) w := by kernel_rfl

theorem asx_parts25 (a : Addr) (w : World) : (ReflectliteValue.parts (.agg #[.pointer (some ⟨5, 78, none⟩), .pointer (some a), .int .u64 153])).run Tryd.prog w = .ok (some (78, a, 153)) w := by kernel_rfl

theorem asx_direct25 (w : World) : (Rtype.directlyAssignable 78 78).run Tryd.prog w = .ok true w := by kernel_rfl

theorem asx_load (b : Addr) (e : Int) (W : World) (hb : W.cell? b = some (.int .i64 e)) : (loadVar 78 b).run Tryd.prog W = .ok (.agg #[.int .i64 e]) W := by
  have h1 := run_loadCells_list (P := Tryd.prog) (w := W) b [.int .i64 e] (by
    intro j v hj
    rcases j with _ | j
    · simp at hj; subst hj; exact hb
    · simp at hj)
  have h2 : (sizeOf 78).run Tryd.prog W = .ok 1 W := by kernel_rfl
  have h3 : (isAgg 78).run Tryd.prog W = .ok true W := by kernel_rfl
  unfold loadVar
  simp only [Sem.run_bind, h3, Result.andThen, if_true, h2]
  rw [show (1 : Nat) = [Value.int .i64 e].length from rfl, h1]
  rfl

theorem asx_store (ta : Addr) (e : Int) (old : Value) (W : World) (ht : W.cell? ta = some old) (hf : W.frozen? ta = false) : (storeVar 78 ta (.agg #[.int .i64 e])).run Tryd.prog W = .ok () (W.setCell ta (.int .i64 e)) := by
  have h2 : (sizeOf 78).run Tryd.prog W = .ok 1 W := by kernel_rfl
  simp [storeVar, h2, Result.andThen, Value.cells, storeCells, Addr.add]
  rw [run_store Tryd.prog W ta _ _ (by rfl)]
  simp [ht, hf]

/-- (Value).Set: the *p.E variable at 'ta' gets what the Value's own variable 'b' holds. -/
theorem asx_set25 (ta b : Addr) (e : Int) (old : Value) (W : World) (hb : W.cell? b = some (.int .i64 e)) (ht : W.cell? ta = some old) (hf : W.frozen? ta = false) :
    (ReflectliteValue.set #[.agg #[.pointer (some ⟨5, 78, none⟩), .pointer (some ta), .int .u64 409], .agg #[.pointer (some ⟨5, 78, none⟩), .pointer (some b), .int .u64 153]]).run Tryd.prog W
      = .ok (.tuple #[]) (W.setCell ta (.int .i64 e)) := by
  rw [rls]
  simp only [Sem.run_bind, asx_parts25a, asx_parts25, Result.andThen]
  simp [ReflectliteValue.flagAddr, asx_load b e W hb, Result.andThen, asx_direct25, asx_store ta e old W ht hf]

set_option maxHeartbeats 4000000 in
theorem as_hit (e : Int) (t : Addr) (old : Value) (w : World) (hg : w.cell? ⟨0, 0, none⟩ = some (.iface 132 (.agg #[.pointer (some ⟨5, 49, none⟩)]))) (ht0 : w.cell? t = some old) (hf0 : w.frozen? t = false) :
    Calls Tryd.prog 45 #[.iface 78 (.agg #[.int .i64 e]), .iface 80 (.pointer (some t))] w fun ev w' => ev = .returned (.bool true) ∧ w' = ((((w.alloc (.cells #[.pointer (some t)] 80)).alloc (.cells #[.pointer (some ⟨5, 80, none⟩), .pointer (some ⟨w.heap.size, 0, none⟩), .int .u64 150] 117)).alloc (.cells #[.pointer (some ⟨5, 80, none⟩), .pointer (some ⟨w.heap.size, 0, none⟩), .int .u64 150] 117)).alloc (.cells #[.int .i64 e] 78)).setCell t (.int .i64 e) := by
  have h6 := @run_callFunc_extern Tryd.prog 60 _ (fun args => ReflectliteValue.unpack (args.getD 0 (.tuple #[]))) Tryd.func60 (by kernel_rfl) (by kernel_rfl) (by kernel_rfl) (by kernel_rfl)
  have h7 := @run_callFunc_extern Tryd.prog 61 _ (ReflectliteValue.methodAny (ReflectliteValue.valueError "reflectlite.Value.Type" 0) (fun t _ _ _ => ReflectliteType.toType t)) Tryd.func61 (by kernel_rfl) (by kernel_rfl) (by kernel_rfl) (by kernel_rfl)
  have h8 := @run_callFunc_extern Tryd.prog 62 _ (ReflectliteValue.method (ReflectliteValue.valueError "reflectlite.Value.IsNil" 0) ReflectliteValue.isNil) Tryd.func62 (by kernel_rfl) (by kernel_rfl) (by kernel_rfl) (by kernel_rfl)
  have h27 := @run_callFunc_extern Tryd.prog 146 _ (ReflectliteType.abiMethod fun t => do pure (.int .u8 (← Rtype.kind t))) Tryd.func146 (by kernel_rfl) (by kernel_rfl) (by kernel_rfl) (by kernel_rfl)
  have h37 := @run_callFunc_extern Tryd.prog 157 _ (ReflectliteType.method ReflectliteType.elem) Tryd.func157 (by kernel_rfl) (by kernel_rfl) (by kernel_rfl) (by kernel_rfl)
  have h38 := @run_callFunc_extern Tryd.prog 158 _ (ReflectliteType.relation "Implements" ReflectliteType.implements_) Tryd.func158 (by kernel_rfl) (by kernel_rfl) (by kernel_rfl) (by kernel_rfl)
  have h10 := @run_callFunc_extern Tryd.prog 80 _ ReflectliteType.typeOf Tryd.func80 (by kernel_rfl) (by kernel_rfl) (by kernel_rfl) (by kernel_rfl)
  have h35 := @run_callFunc_extern Tryd.prog 155 _ (ReflectliteType.relation "AssignableTo" ReflectliteType.assignableTo) Tryd.func155 (by kernel_rfl) (by kernel_rfl) (by kernel_rfl) (by kernel_rfl)
  have h11 := @run_callFunc_extern Tryd.prog 81 _ (ReflectliteValue.method (ReflectliteValue.valueError "reflectlite.Value.Elem" 0) ReflectliteValue.elem) Tryd.func81 (by kernel_rfl) (by kernel_rfl) (by kernel_rfl) (by kernel_rfl)
  have h12 := @run_callFunc_extern Tryd.prog 82 _ ReflectliteValue.set Tryd.func82 (by kernel_rfl) (by kernel_rfl) (by kernel_rfl) (by kernel_rfl)
  have tO := asx_typeOf25
  have mA := asx_methodAssignableTo
  have a25 := asx_assignable25
  have v25 := asx_valueOf25
  have f6 := asx_valueOf27
  have f7 := asx_type27
  have mK := asx_methodKind
  have mE := asx_methodElem
  have mI := asx_methodImplements
  have k27 := asx_kind27
  have k25 := asx_kind25
  have e27 := asx_elem27
  have i25 := asx_implements25
  have n8 := asx_isNil27 ⟨w.heap.size, 0, none⟩ t ((w.alloc (.cells #[.pointer (some t)] 80)).alloc (.cells #[.pointer (some ⟨5, 80, none⟩), .pointer (some ⟨w.heap.size, 0, none⟩), .int .u64 150] 117)) (by simp)
  have hlt : 0 < w.heap.size := by
    rcases Nat.lt_or_ge 0 w.heap.size with h | h
    · exact h
    · simp [World.cell?, Array.getElem?_eq_none h] at hg
  have hg2 : ((w.alloc (.cells #[.pointer (some t)] 80)).alloc (.cells #[.pointer (some ⟨5, 80, none⟩), .pointer (some ⟨w.heap.size, 0, none⟩), .int .u64 150] 117)).cell? ⟨0, 0, none⟩ = some (.iface 132 (.agg #[.pointer (some ⟨5, 49, none⟩)])) := by
    rw [World.cell?_alloc_lt _ _ ⟨0, 0, none⟩ (by simp), World.cell?_alloc_lt _ _ ⟨0, 0, none⟩ hlt]; exact hg
  have htl : t.block < w.heap.size := by
    rcases Nat.lt_or_ge t.block w.heap.size with h | h
    · exact h
    · simp [World.cell?, Array.getElem?_eq_none h] at ht0
  have el := asx_elemV27 ⟨w.heap.size, 0, none⟩ t (((w.alloc (.cells #[.pointer (some t)] 80)).alloc (.cells #[.pointer (some ⟨5, 80, none⟩), .pointer (some ⟨w.heap.size, 0, none⟩), .int .u64 150] 117)).alloc (.cells #[.pointer (some ⟨5, 80, none⟩), .pointer (some ⟨w.heap.size, 0, none⟩), .int .u64 150] 117)) (by rw [World.cell?_alloc_lt _ _ ⟨w.heap.size, 0, none⟩ (by simp; omega)]; simp)
  have st := asx_set25 t ⟨w.heap.size + 1 + 1 + 1, 0, none⟩ e old ((((w.alloc (.cells #[.pointer (some t)] 80)).alloc (.cells #[.pointer (some ⟨5, 80, none⟩), .pointer (some ⟨w.heap.size, 0, none⟩), .int .u64 150] 117)).alloc (.cells #[.pointer (some ⟨5, 80, none⟩), .pointer (some ⟨w.heap.size, 0, none⟩), .int .u64 150] 117)).alloc (.cells #[.int .i64 e] 78))
    (by rw [World.cell?_alloc_at _ _ _ _ (by simp)]; rfl)
    (by rw [World.cell?_alloc_lt _ _ t (by simp; omega), World.cell?_alloc_lt _ _ t (by simp; omega), World.cell?_alloc_lt _ _ t (by simp; omega), World.cell?_alloc_lt _ _ t htl]; exact ht0)
    (by rw [World.frozen?_alloc_old _ _ t (by simp; omega), World.frozen?_alloc_old _ _ t (by simp; omega), World.frozen?_alloc_old _ _ t (by simp; omega), World.frozen?_alloc_old _ _ t (Nat.ne_of_lt htl)]; exact hf0)
  go_enter Tryd.func45, Tryd.ntmps45
  go_wp2
  refine wp_loop_rounds 1 ?_
  rw [rounds_succ]
  go_wp2
  go_ret
  exact ⟨rfl, rfl⟩
end Go.Proofs.YtkeeoelbnmacdaaDoor

namespace Go.Proofs.YtkeeoelbnmacdaaDoor
open Go.RowKit
set_option linter.unusedVariables false

/-- what errors.errorType holds -/
def ETy (w : World) : Prop := w.cell? ⟨0, 0, none⟩ = some (.iface 132 (.agg #[.pointer (some ⟨5, 49, none⟩)]))

theorem ETy.lt {w : World} (h : ETy w) : 0 < w.heap.size := by
  rcases Nat.lt_or_ge 0 w.heap.size with h1 | h1
  · exact h1
  · simp [ETy, World.cell?, Array.getElem?_eq_none h1] at h

theorem ETy.below {w w' : World} (h : ETy w) (hb : Below w.heap.size w w') : ETy w' := by
  unfold ETy at *
  rw [hb.cell (p := ⟨0, 0, none⟩) (ETy.lt h)]; exact h

set_option maxHeartbeats 1600000 in
theorem codeOf_nil (w : World) : Calls Tryd.prog 24 #[.nilIface] w (RetInt w 0) := by
  go_enter Tryd.func24, Tryd.ntmps24
  go_wp2_with (go_at_call 45; refine (as_nil _ _).mono ?_; rintro e w' ⟨rfl, rfl⟩)
  go_ret
  exact ⟨rfl, (Below.refl _ _).alloc (Nat.le_refl _) _⟩

set_option maxHeartbeats 1600000 in
theorem codeOf_err (c : Int) (w : World) (hE : ETy w) : Calls Tryd.prog 24 #[.iface 78 (.agg #[.int .i64 c])] w (RetInt w c) := by
  have hg := ETy.below hE ((Below.refl _ w).alloc (Nat.le_refl _) (.cells #[.int .i64 0] 78))
  unfold ETy at hg
  have HG := Lib.hid hg
  clear hg hE
  go_enter Tryd.func24, Tryd.ntmps24
  go_wp2_with (go_at_call 45; refine (as_hit c ⟨w.heap.size, 0, none⟩ (.int .i64 0) _ HG.out (by simp) (by simp)).mono ?_; rintro e w' ⟨rfl, rfl⟩)
  go_ret
  refine ⟨rfl, ?_⟩
  exact (((((Below.refl _ _).alloc (Nat.le_refl _) _).alloc (by simp) _).alloc (by simp; omega) _).alloc (by simp; omega) _).alloc (by simp; omega) _
end Go.Proofs.YtkeeoelbnmacdaaDoor

namespace Go.Proofs.YtkeeoelbnmacdaaDoor
open Go.RowKit
set_option linter.unusedVariables false

def RetRW (w : World) (s : ByteArray) (e : Ending) (w' : World) : Prop :=
  (s.size ≤ 3000 ∧ ∃ a cap, e = .returned (.tuple #[.slice a (wordsB s).length cap, .nilIface]) ∧ TxVO w' w.heap.size w'.heap.size a (wordsB s).length (fun i => (wordsB s).getD i ByteArray.empty) ∧ cap ≤ maxLen ∧ Below w.heap.size w w') ∨
  (¬ s.size ≤ 3000 ∧ e = .returned (.tuple #[.slice none 0 0, .iface 78 (.agg #[.int .i64 2])]) ∧ Below w.heap.size w w')

theorem grown_iter {w w' : World} {row : Option Nat} {k pos : Nat} {t : ByteArray} (h : w.heap[k]? = some (.stringIter t pos)) (hg : w.grownBy w' row) (hr : ∀ j, row = some j → k + 1 ≤ j) : w'.heap[k]? = some (.stringIter t pos) := by
  have hlt : k < w.heap.size := (Array.getElem?_eq_some_iff.1 h).1
  rw [hg.block k hlt fun e => by have := hr k e.symm; omega]; exact h

theorem alloc_iter {w : World} {k pos : Nat} {t : ByteArray} (h : w.heap[k]? = some (.stringIter t pos)) (o : Obj) : (w.alloc o).heap[k]? = some (.stringIter t pos) := by
  have hlt : k < w.heap.size := (Array.getElem?_eq_some_iff.1 h).1
  rw [((Below.refl w.heap.size w).alloc (Nat.le_refl _) o).block k hlt]; exact h

theorem iterAt_row {w : World} {base e size n k pos pos' : Nat} {v : Value} {xs : List Value} {t : ByteArray} (h : w.ownsRow base e size v n xs) (hk : k < base) : (w.iterAt k t pos').ownsRow base e size v n xs := by
  obtain ⟨hl, h0 | ⟨g, cap, cur, hv, hb, hh, r⟩⟩ := h
  · exact ⟨hl, .inl h0⟩
  · exact ⟨hl, .inr ⟨g, cap, cur, hv, hb, by rw [Lib.iterAt_other _ _ _ _ _ (by omega)]; exact hh, r⟩⟩

set_option maxRecDepth 100000 in
set_option maxHeartbeats 1600000 in
theorem readWords_any (s : ByteArray) (w : World) (hs : s.size ≤ 1048576) :
    Calls Tryd.prog 23 #[.string s] w (RetRW w s) := by
  by_cases h3 : s.size ≤ 3000
  · obtain ⟨t, htt⟩ : ∃ t, s ++ (⟨#[32]⟩ : ByteArray) = t := ⟨_, rfl⟩
    have hts : t.size = s.size + 1 := by rw [← htt]; exact app_size s
    have HW : Hid (wordsB s = notEmp (partB t t.size).2) := Lib.hid (by rw [hts, ← htt]; rfl)
    go_enter Tryd.func23, Tryd.ntmps23
    go_wp2_with fail
    clear htt
    go_loopw [4, 5] (fun u f wr => ∃ (pos F : Nat) (P : List ByteArray), pos ≤ t.size ∧ F ≤ pos ∧ f = .int .i64 (F : Int) ∧ Hid (partB t pos = (F, P)) ∧ Hid (wr.heap[w.heap.size]? = some (.stringIter t pos)) ∧ Hid (Below w.heap.size w wr) ∧ Hid (wr.ownsRow (w.heap.size + 1) 9 1 u (notEmp P).length (strs (notEmp P)))) (fun _ _ wr => t.size - wr.iterPos w.heap.size)
    case atStart => exact ⟨0, 0, [], Nat.zero_le _, Nat.zero_le _, rfl, Lib.hid rfl, Lib.hid (World.iter_heap w t 0), (Below.refl _ _).alloc (Nat.le_refl _) _, World.ownsRow_nil _ _ _ _⟩
    case round =>
      obtain ⟨pos, F, P, hp, hF, rfl, HL, HIT, HB_r, OW_r⟩ := hrel
      have hzr : w.heap.size < wr.heap.size := (Array.getElem?_eq_some_iff.1 HIT.out).1
      have hPl : P.length ≤ pos := by have := partB_len t pos; rw [HL.out] at this; exact this
      by_cases hlt : pos < t.size
      · obtain ⟨hw1, hw2, hstep⟩ := rune_step t pos hlt
        have hnx : ∀ ty, (Instr.next (.pointer (some ⟨w.heap.size, 0, none⟩)) true ty).run Tryd.prog wr = _ := fun ty => Lib.run_next_any_at wr w.heap.size t pos ty HIT.out hlt
        rcases hstep with ⟨h32, hwd, hbl⟩ | ⟨h32, hnb⟩
        · rw [h32, hwd] at hnx
          have HB2 := Lib.hid (Lib.below_iterAt HB_r.out (k := w.heap.size) (Nat.le_refl _) t (pos + 1))
          have HI2 := Lib.hid (Lib.iterAt_heap wr w.heap.size t pos (pos + 1) HIT.out)
          have hz2 := Lib.iterAt_size wr w.heap.size t (pos + 1)
          have hz3 : w.heap.size + 1 ≤ (wr.iterAt w.heap.size t (pos + 1)).heap.size := by omega
          have OW2 := Lib.hid (iterAt_row (pos := pos) (pos' := pos + 1) (t := t) (k := w.heap.size) OW_r.out (by omega))
          have HL2 : Hid (partB t (pos + 1) = (pos + 1, P ++ [t.extract F pos])) := Lib.hid (by rw [partB_yes hbl, HL.out])
          have hes : (t.extract F pos).size = pos - F := ext_size t F pos (by omega)
          have hne := Lib.hid (notEmp_snoc P (t.extract F pos))
          clear h32 hwd hbl hz2
          generalize wr.iterAt w.heap.size t (pos + 1) = wi at *
          by_cases hgt : F < pos
          · have HGE : Hid (∀ k, u4.ownBlock = some k → w.heap.size + 1 ≤ k) := Lib.hid (fun k hk => (OW2.out.lt k hk).1)
            go_wp2_with (at_builtin; go_loud (refine append_str rfl _ _ rfl (w.heap.size + 1) u4 (notEmp P) rfl (OW2.out.alloc _) wi.heap.size (t.extract F pos) rfl (by simp) (by have := notEmp_len P; omega) (by simp; omega) ?_); intro v9 w9 hown9 hgrow9)
            have HB9 : Hid (Below w.heap.size w w9) := (HB2.out.alloc HB2.out.size _).grown hgrow9 (by simp; omega) (fun k hk => by have := HGE.out k hk; omega)
            have HI9 : Hid (w9.heap[w.heap.size]? = some (.stringIter t (pos + 1))) := Lib.hid (grown_iter (alloc_iter HI2.out _) hgrow9 HGE.out)
            have OW9 : Hid (w9.ownsRow (w.heap.size + 1) 9 1 v9 (notEmp (P ++ [t.extract F pos])).length (strs (notEmp (P ++ [t.extract F pos])))) := Lib.hid (by rw [hne.out, if_neg (by omega)]; exact hown9)
            clear hown9 hgrow9 hne
            generalize P ++ [t.extract F pos] = P9 at *
            go_wp2
            go_roundw
            case rel => first | exact ⟨pos + 1, pos + 1, P9, by omega, by omega, by go_num, HL2, HI9, HB9, OW9⟩ | ((repeat apply Exists.intro); exact ⟨⟨pos + 1, pos + 1, P9, by omega, by omega, by go_num, HL2, HI9, HB9, OW9⟩, rfl⟩)
            case measure => simp only [World.iterPos, HI9.out, HIT.out]; omega
          · have hgt2 : F = pos := by omega
            have OW9 : Hid (wi.ownsRow (w.heap.size + 1) 9 1 u4 (notEmp (P ++ [t.extract F pos])).length (strs (notEmp (P ++ [t.extract F pos])))) := Lib.hid (by rw [hne.out, if_pos (by omega)]; exact OW2.out)
            have HB9 := HB2
            have HI9 := HI2
            have HF2 := Lib.hid hgt2
            clear hne OW2 hgt2 hes
            generalize P ++ [t.extract F pos] = P9 at *
            go_wp2
            all_goals first | (exfalso; omega) | skip
            go_roundw
            case rel => first | exact ⟨pos + 1, pos + 1, P9, by omega, by omega, by go_num, HL2, HI9, HB9, OW9⟩ | ((repeat apply Exists.intro); exact ⟨⟨pos + 1, pos + 1, P9, by omega, by omega, by go_num, HL2, HI9, HB9, OW9⟩, rfl⟩)
            case measure => simp only [World.iterPos, HI9.out, HIT.out]; omega
        · have HB9 := Lib.hid (Lib.below_iterAt HB_r.out (k := w.heap.size) (Nat.le_refl _) t (pos + (Utf8.decode t pos).2))
          have HI9 := Lib.hid (Lib.iterAt_heap wr w.heap.size t pos (pos + (Utf8.decode t pos).2) HIT.out)
          have OW9 := Lib.hid (iterAt_row (pos := pos) (pos' := pos + (Utf8.decode t pos).2) (t := t) (k := w.heap.size) OW_r.out (by omega))
          have HL2 : Hid (partB t (pos + (Utf8.decode t pos).2) = (F, P)) := Lib.hid (by rw [partB_run _ hnb, HL.out])
          have hr1 := decode_le t pos
          have hr2 : (((Utf8.decode t pos).1 : Int) == 32) = false := by rw [Bool.eq_false_iff]; intro h; rw [beq_iff_eq] at h; omega
          clear hnb h32
          generalize (Utf8.decode t pos).2 = wd at *
          generalize (Utf8.decode t pos).1 = r at *
          go_wp2
          all_goals first | (exfalso; omega) | skip
          go_roundw
          case rel => first | exact ⟨pos + wd, F, P, by omega, by omega, by go_num, HL2, HI9, HB9, OW9⟩ | ((repeat apply Exists.intro); exact ⟨⟨pos + wd, F, P, by omega, by omega, by go_num, HL2, HI9, HB9, OW9⟩, rfl⟩)
          case measure => simp only [World.iterPos, HI9.out, HIT.out]; omega
      · obtain rfl : pos = t.size := by omega
        have hnx : ∀ ty, (Instr.next (.pointer (some ⟨w.heap.size, 0, none⟩)) true ty).run Tryd.prog wr = _ := fun ty => Lib.run_next_end_at wr w.heap.size t t.size ty HIT.out hlt
        have hN : notEmp P = wordsB s := by rw [HW.out, HL.out]
        rw [hN] at OW_r
        clear hN
        obtain ⟨a, cap, rfl, hc1, hc2, _⟩ := row_shape OW_r.out
        have HX := Lib.hid ((txvo_of_row OW_r.out).widen (Nat.le_succ _) (Nat.le_refl _))
        clear OW_r HL
        go_wp2
        go_ret2
        exact .inl ⟨h3, a, cap, rfl, HX.out, hc2, HB_r.out⟩
  · go_enter Tryd.func23, Tryd.ntmps23
    go_wp2
    go_ret2
    exact .inr ⟨h3, rfl, Below.refl _ _⟩
end Go.Proofs.YtkeeoelbnmacdaaDoor

namespace Go.Proofs.YtkeeoelbnmacdaaDoor
open Go.RowKit
set_option linter.unusedVariables false
open Classical in
noncomputable def splC (s : ByteArray) : Int := if s.size ≤ 3000 then 0 else 2
open Classical in
noncomputable def splW (s : ByteArray) : List ByteArray := if s.size ≤ 3000 then wordsB s else []

def RetSpl (w : World) (s : ByteArray) (e : Ending) (w' : World) : Prop :=
  ∃ a cap, e = .returned (.agg #[.int .i64 (splC s), .slice a (splW s).length cap]) ∧ TxVO w' w.heap.size w'.heap.size a (splW s).length (fun i => (splW s).getD i ByteArray.empty) ∧ Below w.heap.size w w' ∧ cap ≤ maxLen

theorem txvo_set {w : World} {B lo hi N : Nat} {a : Option Addr} {T : Nat → ByteArray} (h : TxVO w lo hi a N T) (hB : B < lo) (o : Nat) (x : Value) : TxVO (w.setCell ⟨B, o, none⟩ x) lo hi a N T :=
  h.keeps (keeps_setCell (p := ⟨B, o, none⟩) (lo := B) (hi := B + 1) (Nat.le_refl _) (Nat.lt_succ_self _) _) (.inr hB)

set_option maxHeartbeats 1600000 in
theorem specSpl_any (s : ByteArray) (w : World) (hs : s.size ≤ 1048576) : Calls Tryd.prog 7 #[.string s] w (RetSpl w s) := by
  by_cases h3 : s.size ≤ 3000
  · have hC : Hid (splC s = 0) := Lib.hid (if_pos h3)
    have hW : Hid (splW s = wordsB s) := Lib.hid (if_pos h3)
    go_enter Tryd.func7, Tryd.ntmps7
    go_wp2_with fail
    refine (l10Words_any s _ hs).mono ?_
    rintro e w1 ⟨a, cap, rfl, ho, hb, hc1, hc2⟩
    obtain ⟨hc, hf⟩ := bcell hb
    have hz : w.heap.size < w1.heap.size := by have := hb.size; simp at this; omega
    have HB := Lib.hid (((Below.refl _ w).alloc (Nat.le_refl _) (.cells #[.int .i64 0, .slice none 0 0] 24)).trans (hb.mono (by simp)))
    have HO := Lib.hid ho
    clear hb ho
    go_wp2
    refine bodyPost_ret (v := .agg #[.int .i64 0, .slice a (wordsB s).length cap]) (by simp [results, Tryd.results7, go_sem, hc]) rfl ⟨a, cap, by rw [hC.out, hW.out], ?_, (HB.out.setCell (p := ⟨w.heap.size, 0, none⟩) (Nat.le_refl _) _).setCell (p := ⟨w.heap.size, 1, none⟩) (Nat.le_refl _) _, hc2⟩
    rw [hW.out]
    exact (txvo_set (txvo_set HO.out (by simp) _ _) (by simp) _ _).widen (by simp) (by simp)
  · have hC : Hid (splC s = 2) := Lib.hid (if_neg h3)
    have hW : Hid (splW s = []) := Lib.hid (if_neg h3)
    go_enter Tryd.func7, Tryd.ntmps7
    go_wp2
    refine bodyPost_ret (v := .agg #[.int .i64 2, .slice none 0 0]) (by simp [results, Tryd.results7, go_sem]) rfl ⟨none, 0, by rw [hC.out, hW.out]; rfl, .inl (by rw [hW.out]; rfl), (Below.refl _ _).alloc (Nat.le_refl _) _, Nat.zero_le _⟩

set_option maxHeartbeats 1600000 in
theorem implSpl_any (s : ByteArray) (w : World) (hs : s.size ≤ 1048576) (hE : ETy w) : Calls Tryd.prog 8 #[.string s] w (RetSpl w s) := by
  have HE := Lib.hid hE
  clear hE
  go_enter Tryd.func8, Tryd.ntmps8
  go_wp2_with fail
  refine (readWords_any s _ hs).mono ?_
  rintro e w1 (⟨h3, a, cap, rfl, ho, hc2, hb⟩ | ⟨h3, rfl, hb⟩)
  · have hC : Hid (splC s = 0) := Lib.hid (if_pos h3)
    have hW : Hid (splW s = wordsB s) := Lib.hid (if_pos h3)
    obtain ⟨hc, hf⟩ := bcell hb
    have hz : w.heap.size < w1.heap.size := by have := hb.size; simp at this; omega
    have HB := Lib.hid (((Below.refl _ w).alloc (Nat.le_refl _) (.cells #[.int .i64 0, .slice none 0 0] 24)).trans (hb.mono (by simp)))
    have HO := Lib.hid ho
    clear hb ho
    go_wp2_with fail
    refine (codeOf_nil _).mono ?_
    rintro e w2 ⟨rfl, hb2⟩
    obtain ⟨hc', hf'⟩ := bcell hb2
    have HB2 := Lib.hid (thru0 HB.out hb2)
    have HO2 := Lib.hid (HO.out.below hb2)
    have hz2 := hb2.size
    clear hb2
    go_wp2
    refine bodyPost_ret (v := .agg #[.int .i64 0, .slice a (wordsB s).length cap]) (by simp [results, Tryd.results8, go_sem, hc, hc', hz]) rfl ⟨a, cap, by rw [hC.out, hW.out], ?_, (HB2.out.setCell (p := ⟨w.heap.size, 0, none⟩) (Nat.le_refl _) _).setCell (p := ⟨w.heap.size, 1, none⟩) (Nat.le_refl _) _, hc2⟩
    rw [hW.out]
    exact (txvo_set (txvo_set HO2.out (by simp) _ _) (by simp) _ _).widen (by simp) (by simp; omega)
  · have hC : Hid (splC s = 2) := Lib.hid (if_neg h3)
    have hW : Hid (splW s = []) := Lib.hid (if_neg h3)
    obtain ⟨hc, hf⟩ := bcell hb
    have hz : w.heap.size < w1.heap.size := by have := hb.size; simp at this; omega
    have HB := Lib.hid (((Below.refl _ w).alloc (Nat.le_refl _) (.cells #[.int .i64 0, .slice none 0 0] 24)).trans (hb.mono (by simp)))
    have HE1 := Lib.hid (HE.out.below HB.out)
    clear hb
    go_wp2_with fail
    refine (codeOf_err 2 _ HE1.out).mono ?_
    rintro e w2 ⟨rfl, hb2⟩
    obtain ⟨hc', hf'⟩ := bcell hb2
    have HB2 := Lib.hid (thru0 HB.out hb2)
    clear hb2
    go_wp2
    refine bodyPost_ret (v := .agg #[.int .i64 2, .slice none 0 0]) (by simp [results, Tryd.results8, go_sem, hc, hc', hz]) rfl ⟨none, 0, by rw [hC.out, hW.out]; rfl, .inl (by rw [hW.out]; rfl), (HB2.out.setCell (p := ⟨w.heap.size, 0, none⟩) (Nat.le_refl _) _).setCell (p := ⟨w.heap.size, 1, none⟩) (Nat.le_refl _) _, Nat.zero_le _⟩
end Go.Proofs.YtkeeoelbnmacdaaDoor

namespace Go.Proofs.YtkeeoelbnmacdaaDoor
open Go.RowKit
set_option linter.unusedVariables false

def mkD (k : Nat) (acc : ByteArray) : ByteArray := if h : k = 0 then acc else mkD (k / 10) ((⟨#[UInt8.ofNat (48 + k % 10)]⟩ : ByteArray) ++ acc)
termination_by k
decreasing_by omega

theorem mkD_zero (acc : ByteArray) : mkD 0 acc = acc := by rw [mkD]; simp

theorem mkD_pos {k : Nat} (h : 0 < k) (acc : ByteArray) : mkD k acc = mkD (k / 10) ((⟨#[UInt8.ofNat (48 + k % 10)]⟩ : ByteArray) ++ acc) := by rw [mkD]; rw [dif_neg (by omega)]

def mkT (k : Nat) : ByteArray := (⟨#[109]⟩ : ByteArray) ++ mkD k ByteArray.empty

theorem conv1 (W : World) (x : Int) : (convert 107 9 (.slice (some ⟨W.heap.size, 0, none⟩) 1 1)).run Tryd.prog (W.alloc (.cells #[.int .u8 x] 5)) = .ok (.string (strOfNums [x])) (W.alloc (.cells #[.int .u8 x] 5)) := by
  refine run_convert_bytes_arg (W.alloc (.cells #[.int .u8 x] 5)) 107 5 Tryd.underlying107 Tryd.underlying5 W.heap.size 0 1 1 [x] rfl (fun i hi => ?_) 9 Tryd.underlying9
  obtain rfl : i = 0 := by omega
  simp

theorem str1 (n : Nat) (h : n < 256) : strOfNums [(n : Int)] = ⟨#[UInt8.ofNat n]⟩ := by simp [strOfNums]

set_option maxRecDepth 100000 in
set_option maxHeartbeats 1600000 in
theorem markText_any (k : Nat) (w : World) (h1 : 1 ≤ k) (h2 : k ≤ 2097152) : Calls Tryd.prog 46 #[.int .i64 (k : Int)] w fun e w' => e = .returned (.string (mkT k)) ∧ Below w.heap.size w w' := by
  have hk0 : decide (k = 0) = false := by simp; omega
  have hk1 : decide ((k : Int) ≤ 0) = false := by simp; omega
  go_enter Tryd.func46, Tryd.ntmps46
  go_wp2
  all_goals first | (exfalso; omega) | skip
  go_loopw [0, 3] (fun p u wr => ∃ (j : Nat) (acc : ByteArray), acc.size + j ≤ 2097152 ∧ p = .int .i64 (j : Int) ∧ u = .string acc ∧ Hid (mkD j acc = mkD k ByteArray.empty) ∧ Hid (Below w.heap.size w wr)) (fun p _ _ => (intOf p).toNat)
  case atStart => exact ⟨k, ByteArray.empty, by simpa using h2, rfl, rfl, Lib.hid rfl, Below.refl _ _⟩
  case round =>
    obtain ⟨j, acc, hj, rfl, rfl, HD, HB⟩ := hrel
    by_cases h0 : 0 < j
    · have hpos := Lib.hid (mkD_pos h0 acc)
      have hzr := HB.out.size
      have q0 : (0 : Int) ≤ (j : Int) := by omega
      have hcv := conv1 wr
      have hsz : ∀ x : Int, (strOfNums [x]).size = 1 := fun x => strOfNums_size [x]
      have hs10 := str1 (48 + j % 10) (by omega)
      have hcast : ((48 + j % 10 : Nat) : Int) = 48 + (j : Int) % 10 := by omega
      rw [hcast] at hs10
      have HS10 := Lib.hid hs10
      have HB2 := Lib.hid (HB.out.alloc hzr (.cells #[.int .u8 (48 + (j : Int) % 10)] 5))
      clear hs10 hcast
      go_wp2
      all_goals first | (exfalso; omega) | skip
      go_roundw
      case rel => exact ⟨j / 10, strOfNums [48 + (j : Int) % 10] ++ acc, by rw [ByteArray.size_append, hsz]; omega, by go_num, rfl, Lib.hid (by rw [HS10.out, ← hpos.out]; exact HD.out), HB2⟩
      case measure => simp [intOf]; omega
    · obtain rfl : j = 0 := by omega
      have hD : mkD k ByteArray.empty = acc := by rw [← HD.out, mkD_zero]
      have HT : Hid (mkT k = (⟨#[109]⟩ : ByteArray) ++ acc) := Lib.hid (by rw [mkT, hD])
      clear hD
      go_wp2
      go_ret
      exact ⟨by rw [HT.out]; rfl, HB.out⟩
end Go.Proofs.YtkeeoelbnmacdaaDoor

namespace Go.Proofs.YtkeeoelbnmacdaaDoor
open Go.RowKit
set_option linter.unusedVariables false

set_option maxRecDepth 100000 in
set_option maxHeartbeats 1600000 in
theorem eqStringS_same (a1 a2 : Option Addr) (N k1 k2 : Nat) (T : Nat → ByteArray) (w : World) (h1 : TxV w a1 N T) (h2 : TxV w a2 N T) (hN : N ≤ 1048576) :
    Calls Tryd.prog 25 #[.slice a1 N k1, .slice a2 N k2] w (RetBool w true) := by
  have H1 := Lib.hid h1; have H2 := Lib.hid h2
  clear h1 h2
  go_enter Tryd.func25, Tryd.ntmps25
  go_wp2
  go_loopw [5] (fun p wr => ∃ i : Nat, i ≤ N ∧ p = .int .i64 (i : Int) ∧ Hid (Below w.heap.size w wr)) (fun p _ => N - (intOf p).toNat)
  case atStart => exact ⟨0, Nat.zero_le _, rfl, Below.refl _ _⟩
  case round =>
    obtain ⟨i, hi, rfl, HBr⟩ := hrel
    by_cases hlt : i < N
    · have hlt' : (i : Int) < (N : Int) := by omega
      have hi0 : (0 : Int) ≤ (i : Int) := by omega
      obtain ⟨b1, q1, rfl, l1, x0⟩ := txv_get (H1.out.below HBr.out) hlt
      obtain ⟨b2, q2, rfl, l2, y0⟩ := txv_get (H2.out.below HBr.out) hlt
      have HB2 := Lib.hid HBr.out.drew
      generalize T i = t at *
      have hq2 : (t.toList != t.toList) = false := by simp
      go_wp2
      go_region
      go_wp2
      first | exact ⟨⟨i + 1, by omega, by go_num, HB2⟩, by simp [intOf]; omega⟩ | (go_roundw; (case rel => first | exact ⟨i + 1, by omega, by go_num, HB2⟩ | ((repeat apply Exists.intro); exact ⟨⟨i + 1, by omega, by go_num, HB2⟩, rfl⟩)); (case measure => simp [intOf]; omega))
    · go_wp2
      go_ret
      exact ⟨rfl, HBr.out⟩

def RetMarkT (W : World) (lo hi : Nat) (a : Option Addr) (n : Nat) (k : Nat) (e : Ending) (w' : World) : Prop :=
  e = .returned (.int .i64 (k + n : Nat)) ∧ TxVO w' lo hi a n (fun i => mkT (k + i)) ∧ Keeps W w' lo hi

set_option maxRecDepth 100000 in
set_option maxHeartbeats 1600000 in
theorem markStringS_any (a : Option Addr) (N c lo hi : Nat) (T : Nat → ByteArray) (k : Nat) (w : World) (h : TxVO w lo hi a N T) (hN : N ≤ 1048576) (hk1 : 1 ≤ k) (hk2 : k ≤ 2) (hl : hi ≤ w.heap.size) :
    Calls Tryd.prog 26 #[.slice a N c, .int .i64 (k : Int)] w (RetMarkT w lo hi a N k) := by
  have H := Lib.hid h
  clear h
  go_enter Tryd.func26, Tryd.ntmps26
  go_wp2
  go_loopw [1, 5] (fun m p wr => ∃ i : Nat, i ≤ N ∧ p = .int .i64 (i : Int) ∧ m = .int .i64 ((k + i : Nat) : Int) ∧ Hid (Keeps w wr lo hi) ∧ Hid (TxVO wr lo hi a N (fun j => if j < i then mkT (k + j) else T j))) (fun _ p _ => N - (intOf p).toNat)
  case atStart => exact ⟨0, Nat.zero_le _, rfl, rfl, Keeps.refl _ _ _, by simpa using H⟩
  case round =>
    obtain ⟨i, hi9, rfl, rfl, HK, HR⟩ := hrel
    by_cases hlt : i < N
    · have hlt' : (i : Int) < (N : Int) := by omega
      have hi0 : (0 : Int) ≤ (i : Int) := by omega
      go_wp2_with fail
      refine (markText_any (k + i) _ (by omega) (by omega)).mono ?_
      rintro e w1 ⟨rfl, hb⟩
      have hzr := HK.out.size
      have HR1 := Lib.hid (HR.out.below hb)
      have HK1 := Lib.hid (HK.out.trans (keeps_of_below hb lo hi))
      obtain ⟨b, q, rfl, HO0⟩ : ∃ b q, a = some ⟨b, q, none⟩ ∧ TxOwn w1 lo hi b q N (fun j => if j < i then mkT (k + j) else T j) := by
        rcases HR1.out with h0 | h0
        · omega
        · exact h0
      have HO := Lib.hid HO0
      have hlb := HO.out.lt
      obtain ⟨t, ht⟩ : ∃ t, mkT (k + i) = t := ⟨_, rfl⟩
      have HTT := Lib.hid ht
      rw [ht]
      have HQ := Lib.hid (txown_put HO.out hlt t)
      have y0 := HO.out.one i hlt; have f0 := HO.out.free i hlt
      unfold StrG at y0
      unfold StrF at f0
      clear ht HO0 hb
      go_wp2
      go_roundw
      case rel =>
        have h6 := HQ.out
        have HKN : Hid (Keeps w (w1.setCell ⟨b, q + i, none⟩ (.string t)) lo hi) := Lib.hid (HK1.out.trans h6.2)
        have HRN : Hid (TxVO (w1.setCell ⟨b, q + i, none⟩ (.string t)) lo hi (some ⟨b, q, none⟩) N (fun j => if j < i + 1 then mkT (k + j) else T j)) := Lib.hid (.inr ⟨b, q, rfl, h6.1.congr fun j hj => by
          by_cases e : j = i
          · subst e; simp [HTT.out]
          · have h2 : (j < i + 1) = (j < i) := by simp only [eq_iff_iff]; omega
            simp only [if_neg e, h2]⟩)
        first | exact ⟨i + 1, by omega, by go_num, by go_num, HKN, HRN⟩ | ((repeat apply Exists.intro); exact ⟨⟨i + 1, by omega, by go_num, by go_num, HKN, HRN⟩, rfl⟩)
      case measure => simp [intOf]; omega
    · obtain rfl : i = N := by omega
      go_wp2
      go_ret
      exact ⟨rfl, HR.out.congr fun j hj => by simp [hj], HK.out⟩

set_option maxRecDepth 100000 in
set_option maxHeartbeats 1600000 in
theorem heldStringS_any (a : Option Addr) (N c : Nat) (k : Nat) (w : World) (h : TxV w a N (fun i => mkT (k + i))) (hN : N ≤ 1048576) (hk1 : 1 ≤ k) (hk2 : k ≤ 2) :
    Calls Tryd.prog 27 #[.slice a N c, .int .i64 (k : Int)] w (RetInt w ((k + N : Nat) : Int)) := by
  have H := Lib.hid h
  clear h
  go_enter Tryd.func27, Tryd.ntmps27
  go_wp2
  go_loopw [1, 5] (fun m p wr => ∃ i : Nat, i ≤ N ∧ p = .int .i64 (i : Int) ∧ m = .int .i64 ((k + i : Nat) : Int) ∧ Hid (Below w.heap.size w wr)) (fun _ p _ => N - (intOf p).toNat)
  case atStart => exact ⟨0, Nat.zero_le _, rfl, rfl, Below.refl _ _⟩
  case round =>
    obtain ⟨i, hi9, rfl, rfl, HB⟩ := hrel
    by_cases hlt : i < N
    · have hlt' : (i : Int) < (N : Int) := by omega
      have hi0 : (0 : Int) ≤ (i : Int) := by omega
      obtain ⟨b1, q1, rfl, l1, x0⟩ := txv_get (H.out.below HB.out) hlt
      obtain ⟨t, ht⟩ : ∃ t, mkT (k + i) = t := ⟨_, rfl⟩
      have HTT := Lib.hid ht
      rw [ht] at x0
      clear ht
      have X0 := Lib.hid x0
      have hq2 : (t.toList != t.toList) = false := by simp
      have HB_d := Lib.hid HB.out.drew
      have X_d : Hid (wr.drew.cell? ⟨b1, q1 + i, none⟩ = some (.string t)) := X0
      go_wp2_with fail
      go_region_held3 (fun w' => w'.cell? ⟨b1, q1 + i, none⟩ = some (.string t))
        (first | (with_reducible exact X0.out) | (with_reducible exact X_d.out) | (with_reducible exact X_7.out))
        (first | (go_at_call 46; refine (markText_any (k + i) _ (by omega) (by omega)).mono ?_; rintro e w7 ⟨rfl, hb⟩; rw [HTT.out]; have HB7 := Lib.hid (thru0 HB_d.out hb); have X_7 := Lib.hid (((bcell hb).1 b1 (q1 + i) l1).trans X_d.out); clear hb))
      go_wp2
      first | exact ⟨⟨i + 1, by omega, by go_num, by go_num, HB7⟩, by simp [intOf]; omega⟩ | (go_roundw; (case rel => first | exact ⟨i + 1, by omega, by go_num, by go_num, HB7⟩ | ((repeat apply Exists.intro); exact ⟨⟨i + 1, by omega, by go_num, by go_num, HB7⟩, rfl⟩)); (case measure => simp [intOf]; omega))
    · obtain rfl : i = N := by omega
      go_wp2
      go_ret
      exact ⟨rfl, HB.out⟩
end Go.Proofs.YtkeeoelbnmacdaaDoor

namespace Go.Proofs.YtkeeoelbnmacdaaDoor
open Go.RowKit
set_option linter.unusedVariables false

set_option maxRecDepth 100000 in
set_option maxHeartbeats 400000 in
theorem eqTsR_same (co : Int) (a a' : Option Addr) (n c c' : Nat) (T : Nat → ByteArray) (w : World) (s1 : TxV w a n T) (s2 : TxV w a' n T) (hn : n ≤ 1048576) :
    Calls Tryd.prog 9 #[.agg #[.int .i64 co, .slice a n c], .agg #[.int .i64 co, .slice a' n c']] w (RetBool w true) := by
  have S1 := Lib.hid s1
  have S2 := Lib.hid s2
  clear s1 s2
  go_enter Tryd.func9, Tryd.ntmps9
  go_wp2_with (go_at_call 25; refine (eqStringS_same _ _ _ _ _ T _ ((S1.out.alloc _).alloc _) ((S2.out.alloc _).alloc _) hn).mono ?_; rintro e w1 ⟨rfl, hb⟩; obtain ⟨hc, hf⟩ := bcell hb; have HB := Lib.hid hb; have hz := hb.size; clear hb)
  go_ret
  exact ⟨rfl, (((Below.refl _ _).alloc (Nat.le_refl _) _).alloc (by simp) _).trans (HB.out.mono (by simp; try omega))⟩

set_option maxRecDepth 100000 in
set_option maxHeartbeats 400000 in
theorem markTsR_any (co : Int) (a : Option Addr) (n c lo hi : Nat) (T : Nat → ByteArray) (w : World) (ho : TxVO w lo hi a n T) (hn : n ≤ 1048576) (hl : hi ≤ w.heap.size) :
    Calls Tryd.prog 10 #[.agg #[.int .i64 co, .slice a n c], .int .i64 1] w (RetMarkT w lo hi a n 1) := by
  have HO := Lib.hid ho
  clear ho
  have hm : ∀ W, TxVO W lo hi a n T → hi ≤ W.heap.size → Calls Tryd.prog 26 #[.slice a n c, .int .i64 1] W (RetMarkT W lo hi a n 1) := fun W h h2 => markStringS_any a n c lo hi T 1 W h hn (Nat.le_refl _) (by omega) h2
  go_enter Tryd.func10, Tryd.ntmps10
  go_wp2_with (go_at_call 26; (with_reducible refine (hm _ (HO.out.alloc _) (by simp; omega)).mono ?_); rintro e w1 ⟨rfl, ho1, hk⟩; have HO1 := Lib.hid ho1; have HK1 := Lib.hid hk; clear ho1 hk)
  go_ret
  exact ⟨rfl, HO1.out, (keeps_of_below ((Below.refl _ _).alloc (Nat.le_refl _) _) lo hi).trans HK1.out⟩

set_option maxRecDepth 100000 in
set_option maxHeartbeats 400000 in
theorem heldTsR_any (co : Int) (a : Option Addr) (n c : Nat) (w : World) (hs : TxV w a n (fun i => mkT (1 + i))) (hn : n ≤ 1048576) :
    Calls Tryd.prog 11 #[.agg #[.int .i64 co, .slice a n c], .int .i64 1] w (RetInt w ((1 + n : Nat) : Int)) := by
  have HS := Lib.hid hs
  clear hs
  have hm : ∀ W, TxV W a n (fun i => mkT (1 + i)) → Calls Tryd.prog 27 #[.slice a n c, .int .i64 1] W (RetInt W ((1 + n : Nat) : Int)) := fun W h => heldStringS_any a n c 1 W h hn (Nat.le_refl _) (by omega)
  go_enter Tryd.func11, Tryd.ntmps11
  go_wp2_with (go_at_call 27; (with_reducible refine (hm _ (HS.out.alloc _)).mono ?_); rintro e w1 ⟨rfl, hb⟩; have HB := Lib.hid hb; clear hb)
  go_ret
  exact ⟨rfl, ((Below.refl _ _).alloc (Nat.le_refl _) _).trans (HB.out.mono (by simp))⟩
end Go.Proofs.YtkeeoelbnmacdaaDoor

namespace Go.Proofs.YtkeeoelbnmacdaaDoor
open Go.RowKit
set_option linter.unusedVariables false

theorem blk_keeps {w w' : World} {lo hi b : Nat} {cs : List Value} (h : Blk w b cs) (hk : Keeps w w' lo hi) (hd : b < lo ∨ hi ≤ b) : Blk w' b cs :=
  ⟨Nat.lt_of_lt_of_le h.1 hk.size, fun i u hu => ⟨(World.cell?_of_block (w := w) (a := ⟨b, i, none⟩) (hk.block b h.1 hd)).trans (h.2 i u hu).1, (World.frozen?_of_block (w := w) (a := ⟨b, i, none⟩) (hk.block b h.1 hd)).trans (h.2 i u hu).2⟩⟩

theorem ety_keeps {w w' : World} {lo hi : Nat} (h : ETy w) (hk : Keeps w w' lo hi) (hd : 0 < lo) : ETy w' := by
  unfold ETy at *
  exact (World.cell?_of_block (w := w) (a := ⟨0, 0, none⟩) (hk.block _ (ETy.lt h) (.inl hd))).trans h

theorem splW_len (s : ByteArray) : (splW s).length ≤ 3001 := by
  unfold splW
  split
  · unfold wordsB
    have h1 := notEmp_len (partB (s ++ ⟨#[32]⟩) (s.size + 1)).2
    have h2 := partB_len (s ++ ⟨#[32]⟩) (s.size + 1)
    omega
  · simp

set_option maxRecDepth 100000 in
set_option maxHeartbeats 3200000 in
theorem e3_any (s : ByteArray) (w : World) (hs : s.size ≤ maxLen) (hE : ETy w) : Calls Tryd.prog 3 #[.string s] w (RetBool w true) := by
  unfold maxLen at hs
  have HE := Lib.hid hE
  have hlt0 := ETy.lt hE
  clear hE
  by_cases h1 : s.size ≤ 1048576
  · have hsp := specSpl_any s
    have him := implSpl_any s
    unfold RetSpl at hsp him
    have hN := splW_len s
    generalize splC s = C at *
    generalize splW s = L at *
    obtain ⟨N, hNL⟩ : ∃ N, L.length = N := ⟨_, rfl⟩
    rw [hNL] at hsp him hN
    have hN2 : N ≤ 1048576 := by omega
    generalize (fun i => L.getD i ByteArray.empty) = T at *
    have HS := Lib.hid hsp; have HI := Lib.hid him
    clear hNL hsp him
    go_enter Tryd.func3, Tryd.ntmps3
    go_wp2_with fail
    refine (HS.out _ h1).mono ?_
    rintro e w1 ⟨a0, c0, rfl, ho, hb, _⟩
    have HB1 := Lib.hid hb
    have z1 := hb.size
    have R_1 := Lib.hid ho
    clear ho hb
    have HB2 := Lib.hid (HB1.out.alloc HB1.out.size (.cells #[.int .i64 C, .slice a0 N c0] 24))
    have R_2 := Lib.hid (R_1.out.alloc (.cells #[.int .i64 C, .slice a0 N c0] 24))
    have W_2 := Lib.hid (Blk.new_at (w := w1) (cs := #[.int .i64 C, .slice a0 N c0]) (t := 24) w1.heap.size rfl)
    have z2 : w1.heap.size + 1 = (w1.alloc (.cells #[.int .i64 C, .slice a0 N c0] 24)).heap.size := by simp
    clear HB1 R_1
    go_wp2_with fail
    generalize w1.alloc (.cells #[.int .i64 C, .slice a0 N c0] 24) = w2 at *
    obtain ⟨W0, hW0⟩ : ∃ W0, w1.heap.size = W0 := ⟨_, rfl⟩
    rw [hW0] at R_2 W_2 z1 z2 ⊢
    clear hW0
    refine (HI.out _ h1 (HE.out.below HB2.out)).mono ?_
    rintro e w3 ⟨a1, c1, rfl, ho, hb, _⟩
    have HB3 := Lib.hid (thru0 HB2.out hb)
    have z3 := hb.size
    have R_3 := Lib.hid (R_2.out.below hb)
    have W_3 := Lib.hid (W_2.out.below hb)
    have G_3 := Lib.hid ho
    have E_3 := Lib.hid (HE.out.below HB3.out)
    clear ho hb HB2 R_2 W_2
    have HB4 := Lib.hid (HB3.out.alloc HB3.out.size (.cells #[.int .i64 C, .slice a1 N c1] 24))
    have R_4 := Lib.hid (R_3.out.alloc (.cells #[.int .i64 C, .slice a1 N c1] 24))
    have W_4 := Lib.hid (W_3.out.alloc (.cells #[.int .i64 C, .slice a1 N c1] 24))
    have G_4 := Lib.hid (G_3.out.alloc (.cells #[.int .i64 C, .slice a1 N c1] 24))
    have Y_4 := Lib.hid (Blk.new_at (w := w3) (cs := #[.int .i64 C, .slice a1 N c1]) (t := 24) w3.heap.size rfl)
    have E_4 := Lib.hid (E_3.out.below ((Below.refl w3.heap.size w3).alloc (Nat.le_refl _) (.cells #[.int .i64 C, .slice a1 N c1] 24)))
    have z4 : w3.heap.size + 1 = (w3.alloc (.cells #[.int .i64 C, .slice a1 N c1] 24)).heap.size := by simp
    have d0 := W_3.out.at 0 rfl; have d1 := W_3.out.at 1 rfl; have ld := W_3.out.1
    clear HB3 R_3 W_3 G_3 E_3
    go_wp2_with fail
    clear d0 d1 ld
    generalize w3.alloc (.cells #[.int .i64 C, .slice a1 N c1] 24) = w4 at *
    obtain ⟨Y0, hY0⟩ : ∃ Y0, w3.heap.size = Y0 := ⟨_, rfl⟩
    rw [hY0] at G_4 Y_4 z3 z4 ⊢
    clear hY0
    refine (eqTsR_same C a1 a0 N c1 c0 T _ G_4.out.src R_4.out.src hN2).mono ?_
    rintro e w5 ⟨rfl, hb⟩
    have HB5 := Lib.hid (thru0 HB4.out hb)
    have z5 := hb.size
    have R_5 := Lib.hid (R_4.out.below hb); have W_5 := Lib.hid (W_4.out.below hb); have G_5 := Lib.hid (G_4.out.below hb); have Y_5 := Lib.hid (Y_4.out.below hb); have E_5 := Lib.hid (E_4.out.below hb)
    clear hb HB4 R_4 W_4 G_4 Y_4 E_4
    have d0 := Y_5.out.at 0 rfl; have d1 := Y_5.out.at 1 rfl; have ld := Y_5.out.1
    go_wp2_with fail
    clear d0 d1 ld
    refine (markTsR_any C a1 N c1 w2.heap.size Y0 T _ G_5.out hN2 (by omega)).mono ?_
    rintro e w6 ⟨rfl, ho, hk⟩
    have HB6 := Lib.hid (HB5.out.trans (hk.below (B := w.heap.size) (by omega) (by omega)))
    have z6 := hk.size
    have R_6 := Lib.hid (R_5.out.keeps hk (.inl (by omega)))
    have W_6 := Lib.hid (blk_keeps W_5.out hk (.inl (by omega)))
    have Y_6 := Lib.hid (blk_keeps Y_5.out hk (.inr (by omega)))
    have G_6 := Lib.hid ho
    have E_6 := Lib.hid (ety_keeps E_5.out hk (by omega))
    clear hk ho HB5 R_5 W_5 G_5 Y_5 E_5
    have d0 := Y_6.out.at 0 rfl; have d1 := Y_6.out.at 1 rfl; have ld := Y_6.out.1
    go_wp2_with fail
    clear d0 d1 ld
    refine (heldTsR_any C a1 N c1 _ G_6.out.src hN2).mono ?_
    rintro e w7 ⟨rfl, hb⟩
    have HB7 := Lib.hid (thru0 HB6.out hb)
    have z7 := hb.size
    have R_7 := Lib.hid (R_6.out.below hb); have W_7 := Lib.hid (W_6.out.below hb); have G_7 := Lib.hid (G_6.out.below hb); have Y_7 := Lib.hid (Y_6.out.below hb); have E_7 := Lib.hid (E_6.out.below hb)
    clear hb HB6 R_6 W_6 G_6 Y_6 E_6
    have hq : ¬ ((1 + N : Nat) : Int) < 0 := by omega
    go_wp2_with fail
    refine (HI.out _ h1 E_7.out).mono ?_
    rintro e w8 ⟨a2, c2, rfl, ho, hb, _⟩
    have HB8 := Lib.hid (thru0 HB7.out hb)
    have R_8 := Lib.hid (R_7.out.below hb); have W_8 := Lib.hid (W_7.out.below hb); have G_8 := Lib.hid (G_7.out.below hb); have Y_8 := Lib.hid (Y_7.out.below hb)
    have H_8 := Lib.hid ho
    have z8 := hb.size
    clear ho hb HB7 R_7 W_7 G_7 Y_7 E_7
    have HB9 := Lib.hid (HB8.out.alloc HB8.out.size (.cells #[.int .i64 C, .slice a2 N c2] 24))
    have R_9 := Lib.hid (R_8.out.alloc (.cells #[.int .i64 C, .slice a2 N c2] 24)); have W_9 := Lib.hid (W_8.out.alloc (.cells #[.int .i64 C, .slice a2 N c2] 24)); have G_9 := Lib.hid (G_8.out.alloc (.cells #[.int .i64 C, .slice a2 N c2] 24)); have Y_9 := Lib.hid (Y_8.out.alloc (.cells #[.int .i64 C, .slice a2 N c2] 24)); have H_9 := Lib.hid (H_8.out.alloc (.cells #[.int .i64 C, .slice a2 N c2] 24))
    have z9 : w8.heap.size + 1 = (w8.alloc (.cells #[.int .i64 C, .slice a2 N c2] 24)).heap.size := by simp
    have d0 := W_8.out.at 0 rfl; have d1 := W_8.out.at 1 rfl; have ld := W_8.out.1
    go_wp2_with fail
    clear d0 d1 ld HB8 R_8 W_8 G_8 Y_8 H_8
    refine (eqTsR_same C a2 a0 N c2 c0 T _ H_9.out.src R_9.out.src hN2).mono ?_
    rintro e w10 ⟨rfl, hb⟩
    have HB10 := Lib.hid (thru0 HB9.out hb)
    have G_10 := Lib.hid (G_9.out.below hb); have Y_10 := Lib.hid (Y_9.out.below hb)
    clear hb HB9 R_9 W_9 G_9 Y_9 H_9
    have d0 := Y_10.out.at 0 rfl; have d1 := Y_10.out.at 1 rfl; have ld := Y_10.out.1
    go_wp2_with fail
    clear d0 d1 ld
    refine (heldTsR_any C a1 N c1 _ G_10.out.src hN2).mono ?_
    rintro e w11 ⟨rfl, hb⟩
    have HB11 := Lib.hid (thru0 HB10.out hb)
    clear hb
    go_wp2
    go_ret
    exact ⟨rfl, HB11.out⟩
  · go_enter Tryd.func3, Tryd.ntmps3
    go_wp2
    go_ret
    exact ⟨rfl, Below.refl _ _⟩
end Go.Proofs.YtkeeoelbnmacdaaDoor

