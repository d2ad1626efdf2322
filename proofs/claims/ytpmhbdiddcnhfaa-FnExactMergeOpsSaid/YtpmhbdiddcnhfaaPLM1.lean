/- Texts merged: Mem to OM1. -/
import Derived.Test.YtpmhbdiddcnhfaaRows
import Derived.WalkKit
import Derived.WalkSpells
import Derived.WalkLawsBesides
import Derived.Deep.QuietTactic
import Derived.BigQuiet
import Derived.Deep.RegionHeld3
import Derived.Lib.Hide
import Derived.Laws.AppendOwnNone
import Derived.Lib.AppendZeros
import Derived.Lib.SliceRun
import Derived.Lib.Walk
import Derived.Deep.Cut
import Derived.Deep.Upon
import Derived.Defers
import Derived.Recover
import Derived.Laws.Pointers
import Derived.StillTailTactics
import Derived.Deep.RegionLaw
import Derived.ProofKit
import Derived.Lib.SmallJoins
import Derived.OpenShut
import Derived.Deep.AppendLies
import Derived.Deep.DeepCutAuto
import Derived.Deep.Slices
import Derived.Deep.LoopGhost
import Derived.Shelf.Abstract
import Derived.RangeFuncNested
import Derived.RangeFuncBound
import Derived.RangeFuncCalls
import Derived.RangeFuncLeaves
import Derived.Shelf.RegionOpen
import Derived.OwnWalkIn
import Derived.TacticsInMore
import Derived.LoopNIn
import Derived.LoopIn
import Derived.Maps.OwnIn
import Derived.Maps.AppendAt
import Derived.Maps.Own
import Derived.Maps.OwnOps
import Derived.Maps.OwnSet
import Derived.OneCell
import Derived.WalkMore
import Derived.Laws.IdiomCopy
import Derived.Deep.RegionWith
import Derived.DeepKeys4
import Derived.WideKeyArgs2
import Derived.Laws.EntriesVeiled
import Derived.Deep.MidRow
import Derived.IntWalk
namespace Go.Proofs.Ytpmhbdiddcnhfaa
open Go.RowKit
set_option linter.unusedVariables false

/-- The first n cells at a hold f. -/
def Src (w : World) (a : Option Addr) (n : Nat) (f : Nat → Int) : Prop :=
  n = 0 ∨ ∃ b off, a = some ⟨b, off, none⟩ ∧ b < w.heap.size ∧ ∀ i, i < n → w.cell? ⟨b, off + i, none⟩ = some (.int .i64 (f i))

/-- The same, in a block from B on, and not frozen. -/
def Own (w : World) (B : Nat) (a : Option Addr) (n : Nat) (f : Nat → Int) : Prop :=
  n = 0 ∨ ∃ b off, a = some ⟨b, off, none⟩ ∧ B ≤ b ∧ b < w.heap.size ∧ ∀ i, i < n → w.cell? ⟨b, off + i, none⟩ = some (.int .i64 (f i)) ∧ w.frozen? ⟨b, off + i, none⟩ = false

theorem Own.src {w : World} {B : Nat} {a : Option Addr} {n : Nat} {f : Nat → Int} (h : Own w B a n f) : Src w a n f := by
  rcases h with h | ⟨b, off, h1, _, h3, h4⟩
  · exact .inl h
  · exact .inr ⟨b, off, h1, h3, fun i hi => (h4 i hi).1⟩

theorem Src.below {w w' : World} {a : Option Addr} {n : Nat} {f : Nat → Int} (h : Src w a n f) (hb : Below w.heap.size w w') : Src w' a n f := by
  rcases h with h | ⟨b, off, h1, h3, h4⟩
  · exact .inl h
  · exact .inr ⟨b, off, h1, Nat.lt_of_lt_of_le h3 hb.size, fun i hi => (hb.cell (p := ⟨b, off + i, none⟩) h3).trans (h4 i hi)⟩

theorem Own.below {w w' : World} {B : Nat} {a : Option Addr} {n : Nat} {f : Nat → Int} (h : Own w B a n f) (hb : Below w.heap.size w w') : Own w' B a n f := by
  rcases h with h | ⟨b, off, h1, h2, h3, h4⟩
  · exact .inl h
  · exact .inr ⟨b, off, h1, h2, Nat.lt_of_lt_of_le h3 hb.size, fun i hi => ⟨(hb.cell (p := ⟨b, off + i, none⟩) h3).trans (h4 i hi).1, (hb.frozen (p := ⟨b, off + i, none⟩) h3).trans (h4 i hi).2⟩⟩

theorem Own.mono {w : World} {B B' : Nat} {a : Option Addr} {n : Nat} {f : Nat → Int} (h : Own w B a n f) (hB : B' ≤ B) : Own w B' a n f := by
  rcases h with h | ⟨b, off, h1, h2, h3⟩
  · exact .inl h
  · exact .inr ⟨b, off, h1, Nat.le_trans hB h2, h3⟩

theorem Src.at {w : World} {b off n : Nat} {f : Nat → Int} (h : Src w (some ⟨b, off, none⟩) n f) (i : Nat) (hi : i < n) : w.cell? ⟨b, off + i, none⟩ = some (.int .i64 (f i)) := by
  rcases h with h | ⟨b', off', h1, h3, h4⟩
  · omega
  · simp at h1; obtain ⟨rfl, rfl⟩ := h1; exact h4 i hi

theorem Src.congr {w : World} {a : Option Addr} {n : Nat} {f g : Nat → Int} (h : Src w a n f) (e : ∀ i, i < n → f i = g i) : Src w a n g := by
  rcases h with h | ⟨b, off, h1, h3, h4⟩
  · exact .inl h
  · exact .inr ⟨b, off, h1, h3, fun i hi => by rw [h4 i hi, e i hi]⟩

theorem Own.congr {w : World} {B : Nat} {a : Option Addr} {n : Nat} {f g : Nat → Int} (h : Own w B a n f) (e : ∀ i, i < n → f i = g i) : Own w B a n g := by
  rcases h with h | ⟨b, off, h1, h2, h3, h4⟩
  · exact .inl h
  · exact .inr ⟨b, off, h1, h2, h3, fun i hi => by rw [← e i hi]; exact h4 i hi⟩

theorem Src.alloc {w : World} {a : Option Addr} {n : Nat} {f : Nat → Int} (h : Src w a n f) (o : Obj) : Src (w.alloc o) a n f := h.below ((Below.refl _ _).alloc (Nat.le_refl _) o)

theorem Src.drew {w : World} {a : Option Addr} {n : Nat} {f : Nat → Int} (h : Src w a n f) : Src w.drew a n f := h.below (Below.refl _ _).drew

theorem Own.alloc {w : World} {B : Nat} {a : Option Addr} {n : Nat} {f : Nat → Int} (h : Own w B a n f) (o : Obj) : Own (w.alloc o) B a n f := h.below ((Below.refl _ _).alloc (Nat.le_refl _) o)

theorem Own.drew {w : World} {B : Nat} {a : Option Addr} {n : Nat} {f : Nat → Int} (h : Own w B a n f) : Own w.drew B a n f := h.below (Below.refl _ _).drew

theorem Own.setCell {w : World} {B : Nat} {a : Option Addr} {n : Nat} {f : Nat → Int} (h : Own w B a n f) {p : Addr} (hp : p.block < B) (u : Value) : Own (w.setCell p u) B a n f := by
  rcases h with h | ⟨b, off, h1, h2, h3, h4⟩
  · exact .inl h
  · refine .inr ⟨b, off, h1, h2, by simpa using h3, fun i hi => ?_⟩
    have e : (w.setCell p u).heap[b]? = w.heap[b]? := Below.heap_setCell w p u b (by omega)
    exact ⟨(World.cell?_of_block (w := w) (a := ⟨b, off + i, none⟩) e).trans (h4 i hi).1, (World.frozen?_of_block (w := w) (a := ⟨b, off + i, none⟩) e).trans (h4 i hi).2⟩

/-- The cells as a list. -/
def nums (n : Nat) (f : Nat → Int) : List Value := (List.range n).map fun j => .int .i64 (f j)

theorem nums_get (n : Nat) (f : Nat → Int) (j : Nat) (h : j < n) : (nums n f)[j]? = some (.int .i64 (f j)) := by simp [nums, h]

/-- Out of the kit's word for a row of the call's own. -/
theorem own_of_row {w : World} {B e n : Nat} {a : Option Addr} {cap : Nat} {f : Nat → Int} (h : w.ownsRow B e 1 (.slice a n cap) n (nums n f)) : Own w B a n f := by
  have h0 := h
  rcases h.2 with ⟨_, h2⟩ | ⟨g, cap', cur, h1, hB, hg, hnc, hcm, hcs, _⟩
  · exact .inl h2
  · simp at h1
    obtain ⟨rfl, rfl⟩ := h1
    refine .inr ⟨g, 0, rfl, hB, ?_, fun i hi => ?_⟩
    · have := Array.getElem?_eq_some_iff.mp hg; exact this.1
    · have := h0.cellAt i (by omega)
      rw [nums_get n f i hi] at this
      exact ⟨by simpa using this, by simpa using h0.frozenAt i⟩

/-- Its value is a slice. -/
theorem row_shape {w : World} {B e n : Nat} {v : Value} {xs : List Value} (h : w.ownsRow B e 1 v n xs) : ∃ a cap, v = .slice a n cap ∧ n ≤ cap ∧ cap ≤ maxLen ∧ (a = none → n = 0 ∧ cap = 0) := by
  rcases h.2 with ⟨h1, h2⟩ | ⟨g, cap', cur, h1, hB, hg, hnc, hcm, hcs, _⟩
  · exact ⟨none, 0, by rw [h1, h2], by omega, by simp [maxLen], fun _ => ⟨h2, rfl⟩⟩
  · exact ⟨_, cap', h1, hnc, hcm, fun h => by simp at h⟩
end Go.Proofs.Ytpmhbdiddcnhfaa

namespace Go.Proofs.Ytpmhbdiddcnhfaa
open Go.RowKit
set_option linter.unusedVariables false

/-- A Bool comes back; nothing that was there is turned. -/
def RetBool (W : World) (r : Bool) (e : Ending) (w' : World) : Prop := e = .returned (.bool r) ∧ Below W.heap.size W w'
end Go.Proofs.Ytpmhbdiddcnhfaa

namespace Go.Proofs.Ytpmhbdiddcnhfaa
open Go.RowKit
set_option linter.unusedVariables false

/-- A block of the call's own, known cell by cell. -/
def Blk (w : World) (b : Nat) (cs : List Value) : Prop := b < w.heap.size ∧ ∀ i u, cs[i]? = some u → w.cell? ⟨b, i, none⟩ = some u ∧ w.frozen? ⟨b, i, none⟩ = false

theorem Blk.below {w w' : World} {b : Nat} {cs : List Value} (h : Blk w b cs) (hb : Below w.heap.size w w') : Blk w' b cs :=
  ⟨Nat.lt_of_lt_of_le h.1 hb.size, fun i u hu => ⟨(hb.cell (p := ⟨b, i, none⟩) h.1).trans (h.2 i u hu).1, (hb.frozen (p := ⟨b, i, none⟩) h.1).trans (h.2 i u hu).2⟩⟩

theorem Blk.alloc {w : World} {b : Nat} {cs : List Value} (h : Blk w b cs) (o : Obj) : Blk (w.alloc o) b cs := h.below ((Below.refl _ _).alloc (Nat.le_refl _) o)

theorem Blk.drew {w : World} {b : Nat} {cs : List Value} (h : Blk w b cs) : Blk w.drew b cs := h.below (Below.refl _ _).drew

theorem Blk.new (w : World) (cs : Array Value) (t : TypeId) : Blk (w.alloc (.cells cs t)) w.heap.size cs.toList := by
  refine ⟨by simp, fun i u hu => ?_⟩
  constructor
  · rw [World.cell?_alloc_at _ _ _ _ rfl]; simpa using hu
  · exact World.frozen?_alloc_at _ _ _ _ rfl

theorem Blk.new_at {w : World} {cs : Array Value} {t : TypeId} (b : Nat) (hb : b = w.heap.size) : Blk (w.alloc (.cells cs t)) b cs.toList := hb ▸ Blk.new w cs t

theorem Blk.at {w : World} {b : Nat} {cs : List Value} (h : Blk w b cs) (i : Nat) {u : Value} (hu : cs[i]? = some u) : w.cell? ⟨b, i, none⟩ = some u := (h.2 i u hu).1

theorem Blk.free {w : World} {b : Nat} {cs : List Value} (h : Blk w b cs) (i : Nat) {u : Value} (hu : cs[i]? = some u) : w.frozen? ⟨b, i, none⟩ = false := (h.2 i u hu).2
end Go.Proofs.Ytpmhbdiddcnhfaa

namespace Go.Proofs.Ytpmhbdiddcnhfaa
open Go.RowKit
set_option linter.unusedVariables false

/-- Three cells hold one bound. -/
def B3 (w : World) (b o : Nat) (v l g : Int) : Prop :=
  w.cell? ⟨b, o, none⟩ = some (.int .i64 v) ∧ w.cell? ⟨b, o + 1, none⟩ = some (.int .i64 l) ∧ w.cell? ⟨b, o + 2, none⟩ = some (.int .i64 g)

theorem B3.below {w w' : World} {b o : Nat} {v l g : Int} {B : Nat} (h : B3 w b o v l g) (hb : Below B w w') (hlt : b < B) : B3 w' b o v l g :=
  ⟨(hb.cell (p := ⟨b, o, none⟩) hlt).trans h.1, (hb.cell (p := ⟨b, o + 1, none⟩) hlt).trans h.2.1, (hb.cell (p := ⟨b, o + 2, none⟩) hlt).trans h.2.2⟩

-- All bounds hold.
end Go.Proofs.Ytpmhbdiddcnhfaa

namespace Go.Proofs.Ytpmhbdiddcnhfaa
open Go.RowKit
set_option linter.unusedVariables false

theorem thru0 {w w1 w2 : World} (h : Below w.heap.size w w1) (hb : Below w1.heap.size w1 w2) : Below w.heap.size w w2 := h.trans (hb.mono h.size)
end Go.Proofs.Ytpmhbdiddcnhfaa

namespace Go.Proofs.Ytpmhbdiddcnhfaa
open Go.RowKit
set_option linter.unusedVariables false

/-- Nothing that was there is turned, but in the blocks from lo to hi. -/
structure Keeps (w w' : World) (lo hi : Nat) : Prop where
  os : w'.os = w.os
  tape : w'.tape = w.tape
  output : w'.output = w.output
  size : w.heap.size ≤ w'.heap.size
  block : ∀ k, k < w.heap.size → (k < lo ∨ hi ≤ k) → w'.heap[k]? = w.heap[k]?

theorem Keeps.refl (w : World) (lo hi : Nat) : Keeps w w lo hi := ⟨rfl, rfl, rfl, Nat.le_refl _, fun _ _ _ => rfl⟩

theorem Keeps.trans {w w1 w2 : World} {lo hi : Nat} (h : Keeps w w1 lo hi) (k : Keeps w1 w2 lo hi) : Keeps w w2 lo hi :=
  ⟨k.os.trans h.os, k.tape.trans h.tape, k.output.trans h.output, Nat.le_trans h.size k.size, fun i hi h' => (k.block i (Nat.lt_of_lt_of_le hi h.size) h').trans (h.block i hi h')⟩

theorem keeps_of_below {w w' : World} (h : Below w.heap.size w w') (lo hi : Nat) : Keeps w w' lo hi := ⟨h.os, h.tape, h.output, h.size, fun k hk _ => h.block k hk⟩

theorem keeps_setCell {w : World} {lo hi : Nat} {p : Addr} (h1 : lo ≤ p.block) (h2 : p.block < hi) (u : Value) : Keeps w (w.setCell p u) lo hi := by
  have h : Below p.block w (w.setCell p u) := (Below.refl _ _).setCell (Nat.le_refl _) u
  exact ⟨h.os, h.tape, h.output, h.size, fun k _ hk' => Below.heap_setCell w p u k (by omega)⟩

theorem Keeps.below {w w' : World} {lo hi B : Nat} (h : Keeps w w' lo hi) (hB : B ≤ lo) (hs : B ≤ w.heap.size) : Below B w w' :=
  ⟨h.os, h.tape, h.output, h.size, fun k hk => h.block k (by omega) (.inl (by omega))⟩

theorem Blk.keeps {w w' : World} {b lo hi : Nat} {cs : List Value} (h : Blk w b cs) (hk : Keeps w w' lo hi) (hd : b < lo ∨ hi ≤ b) : Blk w' b cs := by
  have e := hk.block b h.1 hd
  exact ⟨Nat.lt_of_lt_of_le h.1 hk.size, fun i u hu => ⟨(World.cell?_of_block (w := w) (a := ⟨b, i, none⟩) e).trans (h.2 i u hu).1, (World.frozen?_of_block (w := w) (a := ⟨b, i, none⟩) e).trans (h.2 i u hu).2⟩⟩

/-- A row of the call's own, in a block from lo to hi. -/
def OwnIn (w : World) (lo hi : Nat) (a : Option Addr) (n : Nat) (f : Nat → Int) : Prop :=
  n = 0 ∨ ∃ b off, a = some ⟨b, off, none⟩ ∧ (lo ≤ b ∧ b < hi) ∧ b < w.heap.size ∧ ∀ i, i < n → w.cell? ⟨b, off + i, none⟩ = some (.int .i64 (f i)) ∧ w.frozen? ⟨b, off + i, none⟩ = false

theorem OwnIn.src {w : World} {lo hi : Nat} {a : Option Addr} {n : Nat} {f : Nat → Int} (h : OwnIn w lo hi a n f) : Src w a n f := by
  rcases h with h | ⟨b, off, h1, _, h3, h4⟩
  · exact .inl h
  · exact .inr ⟨b, off, h1, h3, fun i hi => (h4 i hi).1⟩

theorem OwnIn.keeps {w w' : World} {lo hi lo' hi' : Nat} {a : Option Addr} {n : Nat} {f : Nat → Int} (h : OwnIn w lo hi a n f) (hk : Keeps w w' lo' hi') (hd : hi ≤ lo' ∨ hi' ≤ lo) : OwnIn w' lo hi a n f := by
  rcases h with h | ⟨b, off, h1, h2, h3, h4⟩
  · exact .inl h
  · have e := hk.block b h3 (by omega)
    exact .inr ⟨b, off, h1, h2, Nat.lt_of_lt_of_le h3 hk.size, fun i hi => ⟨(World.cell?_of_block (w := w) (a := ⟨b, off + i, none⟩) e).trans (h4 i hi).1, (World.frozen?_of_block (w := w) (a := ⟨b, off + i, none⟩) e).trans (h4 i hi).2⟩⟩

theorem OwnIn.below {w w' : World} {lo hi : Nat} {a : Option Addr} {n : Nat} {f : Nat → Int} (h : OwnIn w lo hi a n f) (hb : Below w.heap.size w w') : OwnIn w' lo hi a n f := by
  rcases h with h | ⟨b, off, h1, h2, h3, h4⟩
  · exact .inl h
  · exact .inr ⟨b, off, h1, h2, Nat.lt_of_lt_of_le h3 hb.size, fun i hi => ⟨(hb.cell (p := ⟨b, off + i, none⟩) h3).trans (h4 i hi).1, (hb.frozen (p := ⟨b, off + i, none⟩) h3).trans (h4 i hi).2⟩⟩

theorem OwnIn.alloc {w : World} {lo hi : Nat} {a : Option Addr} {n : Nat} {f : Nat → Int} (h : OwnIn w lo hi a n f) (o : Obj) : OwnIn (w.alloc o) lo hi a n f := h.below ((Below.refl _ _).alloc (Nat.le_refl _) o)

theorem OwnIn.drew {w : World} {lo hi : Nat} {a : Option Addr} {n : Nat} {f : Nat → Int} (h : OwnIn w lo hi a n f) : OwnIn w.drew lo hi a n f := h.below (Below.refl _ _).drew

theorem OwnIn.congr {w : World} {lo hi : Nat} {a : Option Addr} {n : Nat} {f g : Nat → Int} (h : OwnIn w lo hi a n f) (e : ∀ i, i < n → f i = g i) : OwnIn w lo hi a n g := by
  rcases h with h | ⟨b, off, h1, h2, h3, h4⟩
  · exact .inl h
  · exact .inr ⟨b, off, h1, h2, h3, fun i hi => by rw [← e i hi]; exact h4 i hi⟩
end Go.Proofs.Ytpmhbdiddcnhfaa

namespace Go.Proofs.Ytpmhbdiddcnhfaa
open Go.RowKit
set_option linter.unusedVariables false

/-- Two halves of m words each, in blocks from lo to mid and from mid to hi: together F. -/
def Halves (w : World) (lo mid hi : Nat) (a1 a2 : Option Addr) (m : Nat) (F : Nat → Int) : Prop :=
  OwnIn w lo mid a1 m F ∧ OwnIn w mid hi a2 m (fun i => F (m + i))

theorem OwnIn.setCell {w : World} {lo hi : Nat} {a : Option Addr} {n : Nat} {f : Nat → Int} (h : OwnIn w lo hi a n f) {p : Addr} (hp : p.block < lo ∨ hi ≤ p.block) (u : Value) : OwnIn (w.setCell p u) lo hi a n f :=
  h.keeps (keeps_setCell (Nat.le_refl p.block) (Nat.lt_succ_self _) u) (by omega)

theorem OwnIn.out {w : World} {lo hi : Nat} {a : Option Addr} {n : Nat} {f : Nat → Int} (h : OwnIn w lo hi a n f) : Own w lo a n f := by
  rcases h with h | ⟨b, off, h1, h2, h3, h4⟩
  · exact .inl h
  · exact .inr ⟨b, off, h1, h2.1, h3, h4⟩

theorem OwnIn.widen {w : World} {lo hi lo' hi' : Nat} {a : Option Addr} {n : Nat} {f : Nat → Int} (h : OwnIn w lo hi a n f) (h1 : lo' ≤ lo) (h2 : hi ≤ hi') : OwnIn w lo' hi' a n f := by
  rcases h with h | ⟨b, off, g1, g2, g3, g4⟩
  · exact .inl h
  · exact .inr ⟨b, off, g1, by omega, g3, g4⟩

def upd (f : Nat → Int) (k : Nat) (v : Int) : Nat → Int := fun i => if i = k then v else f i

theorem Keeps.widen {w w' : World} {lo hi lo' hi' : Nat} (h : Keeps w w' lo hi) (h1 : lo' ≤ lo) (h2 : hi ≤ hi') : Keeps w w' lo' hi' :=
  ⟨h.os, h.tape, h.output, h.size, fun k hk hd => h.block k hk (by omega)⟩

theorem Halves.below {w w' : World} {lo mid hi : Nat} {a1 a2 : Option Addr} {m : Nat} {F : Nat → Int} (h : Halves w lo mid hi a1 a2 m F) (hb : Below w.heap.size w w') : Halves w' lo mid hi a1 a2 m F := ⟨h.1.below hb, h.2.below hb⟩

theorem Halves.alloc {w : World} {lo mid hi : Nat} {a1 a2 : Option Addr} {m : Nat} {F : Nat → Int} (h : Halves w lo mid hi a1 a2 m F) (o : Obj) : Halves (w.alloc o) lo mid hi a1 a2 m F := ⟨h.1.alloc o, h.2.alloc o⟩

theorem Src.keeps {w w' : World} {lo' hi' : Nat} {a : Option Addr} {n : Nat} {f : Nat → Int} (h : Src w a n f) (hk : Keeps w w' lo' hi') (hd : ∀ b off, a = some ⟨b, off, none⟩ → b < lo' ∨ hi' ≤ b) : Src w' a n f := by
  rcases h with h | ⟨b, off, h1, h3, h4⟩
  · exact .inl h
  · have e := hk.block b h3 (hd b off h1)
    exact .inr ⟨b, off, h1, Nat.lt_of_lt_of_le h3 hk.size, fun i hi => (World.cell?_of_block (w := w) (a := ⟨b, off + i, none⟩) e).trans (h4 i hi)⟩
end Go.Proofs.Ytpmhbdiddcnhfaa

namespace Go.Proofs.Ytpmhbdiddcnhfaa
open Go.RowKit
set_option linter.unusedVariables false

/-- A store into a known block. -/
theorem Blk.set {w : World} {b : Nat} {cs : List Value} (h : Blk w b cs) (i : Nat) (hi : i < cs.length) (v : Value) : Blk (w.setCell ⟨b, i, none⟩ v) b (cs.set i v) := by
  refine ⟨by simpa using h.1, fun j u hj => ?_⟩
  constructor
  · by_cases e : j = i
    · subst e
      rw [List.getElem?_set_self hi] at hj
      simp only [Option.some.injEq] at hj
      subst hj
      exact World.cell?_setCell_same w ⟨b, j, none⟩ v (h.2 j cs[j] (List.getElem?_eq_getElem hi)).1
    · rw [List.getElem?_set_ne (fun x => e x.symm)] at hj
      rw [World.cell?_setCell_other _ _ _ _ (by simp; try omega)]
      exact (h.2 j u hj).1
  · rw [World.frozen?_setCell]
    by_cases e : j = i
    · subst e; exact (h.2 j cs[j] (List.getElem?_eq_getElem hi)).2
    · rw [List.getElem?_set_ne (fun x => e x.symm)] at hj
      exact (h.2 j u hj).2

theorem Blk.other {w : World} {b : Nat} {cs : List Value} (h : Blk w b cs) {p : Addr} (hp : p.block ≠ b) (u : Value) : Blk (w.setCell p u) b cs :=
  h.keeps (keeps_setCell (Nat.le_refl p.block) (Nat.lt_succ_self _) u) (by omega)
end Go.Proofs.Ytpmhbdiddcnhfaa

namespace Go.Proofs.Ytpmhbdiddcnhfaa
open Go.RowKit
set_option linter.unusedVariables false

theorem Halves.congr {w : World} {lo mid hi : Nat} {a1 a2 : Option Addr} {m : Nat} {F G : Nat → Int} (h : Halves w lo mid hi a1 a2 m F) (e : ∀ i, i < 2 * m → F i = G i) : Halves w lo mid hi a1 a2 m G :=
  ⟨h.1.congr fun i hi => e i (by omega), h.2.congr fun i hi => e (m + i) (by omega)⟩
end Go.Proofs.Ytpmhbdiddcnhfaa

namespace Go.Proofs.Ytpmhbdiddcnhfaa
open Go.RowKit
set_option linter.unusedVariables false

/-- The bytes of a code, in a block below S. -/
def SrcB (w : World) (S : Nat) (a : Option Addr) (k : Nat) (B : Nat → Int) : Prop :=
  k = 0 ∨ ∃ b off, a = some ⟨b, off, none⟩ ∧ b < S ∧ b < w.heap.size ∧ ∀ i, i < k → w.cell? ⟨b, off + i, none⟩ = some (.int .u8 (B i)) ∧ 0 ≤ B i ∧ B i ≤ 255

theorem SrcB.keeps {w w' : World} {S lo hi : Nat} {a : Option Addr} {k : Nat} {B : Nat → Int} (h : SrcB w S a k B) (hk : Keeps w w' lo hi) (hS : S ≤ lo) : SrcB w' S a k B := by
  rcases h with h | ⟨b, off, h1, h2, h3, h4⟩
  · exact .inl h
  · have e := hk.block b h3 (.inl (by omega))
    exact .inr ⟨b, off, h1, h2, Nat.lt_of_lt_of_le h3 hk.size, fun i hi => ⟨(World.cell?_of_block (w := w) (a := ⟨b, off + i, none⟩) e).trans (h4 i hi).1, (h4 i hi).2⟩⟩

theorem SrcB.below {w w' : World} {S : Nat} {a : Option Addr} {k : Nat} {B : Nat → Int} (h : SrcB w S a k B) (hb : Below w.heap.size w w') : SrcB w' S a k B := by
  rcases h with h | ⟨b, off, h1, h2, h3, h4⟩
  · exact .inl h
  · exact .inr ⟨b, off, h1, h2, Nat.lt_of_lt_of_le h3 hb.size, fun i hi => ⟨(hb.cell (p := ⟨b, off + i, none⟩) h3).trans (h4 i hi).1, (h4 i hi).2⟩⟩

theorem SrcB.alloc {w : World} {S : Nat} {a : Option Addr} {k : Nat} {B : Nat → Int} (h : SrcB w S a k B) (o : Obj) : SrcB (w.alloc o) S a k B := h.below ((Below.refl _ _).alloc (Nat.le_refl _) o)

theorem SrcB.drew {w : World} {S : Nat} {a : Option Addr} {k : Nat} {B : Nat → Int} (h : SrcB w S a k B) : SrcB w.drew S a k B := h.below (Below.refl _ _).drew

theorem Keeps.alloc {w w1 : World} {lo hi : Nat} (h : Keeps w w1 lo hi) (o : Obj) : Keeps w (w1.alloc o) lo hi := h.trans (keeps_of_below ((Below.refl _ _).alloc (Nat.le_refl _) o) lo hi)

theorem Keeps.drew {w w1 : World} {lo hi : Nat} (h : Keeps w w1 lo hi) : Keeps w w1.drew lo hi := h.trans (keeps_of_below (Below.refl _ _).drew lo hi)

theorem SrcB.setCell {w : World} {S : Nat} {a : Option Addr} {k : Nat} {B : Nat → Int} (h : SrcB w S a k B) {p : Addr} (hp : S ≤ p.block) (u : Value) : SrcB (w.setCell p u) S a k B :=
  h.keeps (keeps_setCell (Nat.le_refl p.block) (Nat.lt_succ_self _) u) hp
end Go.Proofs.Ytpmhbdiddcnhfaa

namespace Go.Proofs.Ytpmhbdiddcnhfaa
open Go.RowKit
set_option linter.unusedVariables false

theorem SrcB.mono {w : World} {S S' : Nat} {a : Option Addr} {k : Nat} {B : Nat → Int} (h : SrcB w S a k B) (hS : S ≤ S') : SrcB w S' a k B := by
  rcases h with h | ⟨b, off, h1, h2, h3, h4⟩
  · exact .inl h
  · exact .inr ⟨b, off, h1, by omega, h3, h4⟩
end Go.Proofs.Ytpmhbdiddcnhfaa

namespace Go.Proofs.Ytpmhbdiddcnhfaa
open Go.RowKit
set_option linter.unusedVariables false

/-- 2 to the power of a number. -/
def P2 (s : Int) : Int := 2 ^ s.toNat
end Go.Proofs.Ytpmhbdiddcnhfaa

namespace Go.Proofs.Ytpmhbdiddcnhfaa
open Go.RowKit
set_option linter.unusedVariables false

/-- What a head is. -/
def HOk (s m o h : Int) : Prop := (0 ≤ s ∧ s ≤ 12) ∧ (0 ≤ m ∧ m ≤ P2 s - 1) ∧ (0 ≤ o ∧ o ≤ 3) ∧ (0 ≤ h ∧ h ≤ 99999)
end Go.Proofs.Ytpmhbdiddcnhfaa

namespace Go.Proofs.Ytpmhbdiddcnhfaa
open Go.RowKit
set_option linter.unusedVariables false

/-- Two numbers in a row. -/
def two (a b : Int) : Nat → Int := fun i => if i = 0 then a else b
end Go.Proofs.Ytpmhbdiddcnhfaa

namespace Go.Proofs.Ytpmhbdiddcnhfaa
open Go.ChangeShapes Go.WideShapes Go.ChangeAt Go.RowKit Go.Joins
set_option linter.unusedVariables false
set_option maxRecDepth 100000

theorem Try.own : ownKnob Try.prog.godebug = none := by kernel_rfl

theorem Try.laidOut : laidOutB Try.prog = true := by kernel_rfl
end Go.Proofs.Ytpmhbdiddcnhfaa

namespace Go.Proofs.Ytpmhbdiddcnhfaa
open Go.RowKit
set_option linter.unusedVariables false

/-- An object as the model tells it: its place and its head. -/
structure Ob where
  at_ : Int
  s : Int
  m : Int
  o : Int
  h : Int

/-- An object in memory: where its fields are. -/
structure OM where
  x : Ob
  g : Nat
  c : Nat

def OM.cells (t : OM) : List Value := [.int .i64 t.x.at_, .int .i64 t.x.s, .int .i64 t.x.m, .int .i64 t.x.o, .int .i64 t.x.h, .slice (some ⟨t.g, 0, none⟩) t.x.s.toNat t.c]

def rowCells (M : List OM) : List Value := M.flatMap OM.cells

/-- Each object's fields are a row of their own, in the order of the objects. -/
def Flds (w : World) (lo : Nat) (f : Nat → Int) (v : Value) (M : List OM) : Prop :=
  (∀ t ∈ M, lo ≤ t.g ∧ t.g < w.heap.size ∧ some t.g ≠ v.ownBlock ∧ ∀ k, k < t.x.s.toNat → w.cell? ⟨t.g, k, none⟩ = some (.int .i64 (f (t.x.at_.toNat + 2 + k))) ∧ w.frozen? ⟨t.g, k, none⟩ = false) ∧ M.Pairwise (fun t u => t.g < u.g)

theorem ownsRow_below {w w' : World} {base e size n : Nat} {v : Value} {xs : List Value} (h : w.ownsRow base e size v n xs) (hb : Below w.heap.size w w') : w'.ownsRow base e size v n xs := by
  refine ⟨h.1, ?_⟩
  rcases h.2 with h0 | ⟨g, cap, cur, h1, h2, h3, h4⟩
  · exact .inl h0
  · have hg : g < w.heap.size := by
      rcases Nat.lt_or_ge g w.heap.size with hlt | hge
      · exact hlt
      · rw [Array.getElem?_eq_none hge] at h3; cases h3
    exact .inr ⟨g, cap, cur, h1, h2, (hb.block g hg).trans h3, h4⟩

theorem Flds.below {w w' : World} {lo : Nat} {f : Nat → Int} {v : Value} {M : List OM} (h : Flds w lo f v M) (hb : Below w.heap.size w w') : Flds w' lo f v M :=
  ⟨fun t ht => by
    obtain ⟨h1, h2, h3, h4⟩ := h.1 t ht
    exact ⟨h1, Nat.lt_of_lt_of_le h2 hb.size, h3, fun k hk => ⟨(hb.cell (p := ⟨t.g, k, none⟩) h2).trans (h4 k hk).1, (hb.frozen (p := ⟨t.g, k, none⟩) h2).trans (h4 k hk).2⟩⟩, h.2⟩
end Go.Proofs.Ytpmhbdiddcnhfaa

namespace Go.Proofs.Ytpmhbdiddcnhfaa
open Go.RowKit
set_option linter.unusedVariables false

theorem ownBlock_ge {w : World} {base e size n : Nat} {v : Value} {xs : List Value} (h : w.ownsRow base e size v n xs) {g : Nat} (hg : v.ownBlock = some g) : base ≤ g := by
  rcases h.2 with ⟨rfl, _⟩ | ⟨g', cap, cur, rfl, hb, _⟩
  · simp [Value.ownBlock] at hg
  · simp only [Value.ownBlock, Option.some.injEq] at hg
    omega
end Go.Proofs.Ytpmhbdiddcnhfaa

namespace Go.Proofs.Ytpmhbdiddcnhfaa
open Go.RowKit
set_option linter.unusedVariables false

/-- What a row of objects holds at a place. -/
def ObAt (w : World) (gb i : Nat) (t : OM) : Prop := ∀ j u, t.cells[j]? = some u → w.cell? ⟨gb, i * 6 + j, none⟩ = some u

/-- The fields of an object in memory. -/
theorem Flds.src {w : World} {lo : Nat} {f : Nat → Int} {v : Value} {M : List OM} (h : Flds w lo f v M) {t : OM} (ht : t ∈ M) : Src w (some ⟨t.g, 0, none⟩) t.x.s.toNat (fun k => f (t.x.at_.toNat + 2 + k)) := by
  obtain ⟨_, a2, _, a4⟩ := h.1 t ht
  exact .inr ⟨t.g, 0, rfl, a2, fun k hk => by rw [Nat.zero_add]; exact (a4 k hk).1⟩

theorem ObAt.below {w w' : World} {gb i : Nat} {t : OM} (h : ObAt w gb i t) (hb : Below w.heap.size w w') (hg : gb < w.heap.size) : ObAt w' gb i t := fun j u hu => (hb.cell (p := ⟨gb, i * 6 + j, none⟩) hg).trans (h j u hu)

/-- The six cells of an object, written out. -/
def Six (w : World) (gb o : Nat) (x : Ob) (g c : Nat) : Prop := w.cell? ⟨gb, o, none⟩ = some (.int .i64 x.at_) ∧ w.cell? ⟨gb, o + 1, none⟩ = some (.int .i64 x.s) ∧ w.cell? ⟨gb, o + 2, none⟩ = some (.int .i64 x.m) ∧ w.cell? ⟨gb, o + 3, none⟩ = some (.int .i64 x.o) ∧ w.cell? ⟨gb, o + 4, none⟩ = some (.int .i64 x.h) ∧ w.cell? ⟨gb, o + 5, none⟩ = some (.slice (some ⟨g, 0, none⟩) x.s.toNat c)

theorem ObAt.six {w : World} {gb i : Nat} {t : OM} (h : ObAt w gb i t) : Six w gb (i * 6) t.x t.g t.c :=
  ⟨h 0 _ rfl, h 1 _ rfl, h 2 _ rfl, h 3 _ rfl, h 4 _ rfl, h 5 _ rfl⟩

theorem Six.below {w w' : World} {gb o : Nat} {x : Ob} {g c : Nat} (h : Six w gb o x g c) (hb : Below w.heap.size w w') (hg : gb < w.heap.size) : Six w' gb o x g c :=
  ⟨(hb.cell (p := ⟨gb, o, none⟩) hg).trans h.1, (hb.cell (p := ⟨gb, o + 1, none⟩) hg).trans h.2.1, (hb.cell (p := ⟨gb, o + 2, none⟩) hg).trans h.2.2.1, (hb.cell (p := ⟨gb, o + 3, none⟩) hg).trans h.2.2.2.1, (hb.cell (p := ⟨gb, o + 4, none⟩) hg).trans h.2.2.2.2.1, (hb.cell (p := ⟨gb, o + 5, none⟩) hg).trans h.2.2.2.2.2⟩
end Go.Proofs.Ytpmhbdiddcnhfaa

namespace Go.Proofs.Ytpmhbdiddcnhfaa
open Go.RowKit
set_option linter.unusedVariables false

theorem Flds.mono {w : World} {lo lo' : Nat} {f : Nat → Int} {v : Value} {M : List OM} (h : Flds w lo f v M) (hl : lo' ≤ lo) : Flds w lo' f v M :=
  ⟨fun t ht => by obtain ⟨a1, a2⟩ := h.1 t ht; exact ⟨Nat.le_trans hl a1, a2⟩, h.2⟩

theorem Flds.other {w : World} {lo : Nat} {f : Nat → Int} {v : Value} {M : List OM} (h : Flds w lo f v M) {p : Addr} (hp : p.block < lo) (u : Value) : Flds (w.setCell p u) lo f v M :=
  ⟨fun t ht => by
    obtain ⟨a1, a2, a3, a4⟩ := h.1 t ht
    have e : (w.setCell p u).heap[t.g]? = w.heap[t.g]? := Below.heap_setCell w p u t.g (by omega)
    exact ⟨a1, by simpa using a2, a3, fun k hk => ⟨(World.cell?_of_block (w := w) (a := ⟨t.g, k, none⟩) e).trans (a4 k hk).1, (World.frozen?_of_block (w := w) (a := ⟨t.g, k, none⟩) e).trans (a4 k hk).2⟩⟩, h.2⟩
end Go.Proofs.Ytpmhbdiddcnhfaa

namespace Go.Proofs.Ytpmhbdiddcnhfaa
open Go.RowKit
set_option linter.unusedVariables false

/-- The object at a place. -/
def findO (L : List Ob) (a : Int) : Option Ob := L.find? (fun x => x.at_ == a)

/-- A pointer of an owner leads to an object of its own, or nowhere. -/
def leadsB (L : List Ob) (owner value : Int) : Bool := if value = 0 then true else match findO L (value - 1) with | some x => x.o == owner | none => false
end Go.Proofs.Ytpmhbdiddcnhfaa

namespace Go.Proofs.Ytpmhbdiddcnhfaa
open Go.RowKit
set_option linter.unusedVariables false

/-- All pointers lead where they may. -/
def Points (f : Nat → Int) (L : List Ob) : Prop := ∀ x ∈ L, ∀ k : Nat, (k : Int) < x.s → x.m / P2 k % 2 = 1 → leadsB L x.o (f (x.at_.toNat + 2 + k)) = true
end Go.Proofs.Ytpmhbdiddcnhfaa

namespace Go.Proofs.Ytpmhbdiddcnhfaa
open Go.RowKit
set_option linter.unusedVariables false

/-- An object in memory, whatever it holds. -/
structure GM where
  at_ : Int
  s : Int
  m : Int
  o : Int
  h : Int
  a : Option Addr
  n : Nat
  c : Nat
  f : Nat → Int

def GM.g (t : GM) : Nat := match t.a with | some p => p.block | none => 0

def SixG (w : World) (b o : Nat) (t : GM) : Prop := w.cell? ⟨b, o, none⟩ = some (.int .i64 t.at_) ∧ w.cell? ⟨b, o + 1, none⟩ = some (.int .i64 t.s) ∧ w.cell? ⟨b, o + 2, none⟩ = some (.int .i64 t.m) ∧ w.cell? ⟨b, o + 3, none⟩ = some (.int .i64 t.o) ∧ w.cell? ⟨b, o + 4, none⟩ = some (.int .i64 t.h) ∧ w.cell? ⟨b, o + 5, none⟩ = some (.slice t.a t.n t.c)

def SixF (w : World) (b o : Nat) : Prop := w.frozen? ⟨b, o, none⟩ = false ∧ w.frozen? ⟨b, o + 1, none⟩ = false ∧ w.frozen? ⟨b, o + 2, none⟩ = false ∧ w.frozen? ⟨b, o + 3, none⟩ = false ∧ w.frozen? ⟨b, o + 4, none⟩ = false ∧ w.frozen? ⟨b, o + 5, none⟩ = false

theorem SixG.block {w w' : World} {b o : Nat} {t : GM} (h : SixG w b o t) (e : w'.heap[b]? = w.heap[b]?) : SixG w' b o t :=
  ⟨(World.cell?_of_block (w := w) (a := ⟨b, o, none⟩) e).trans h.1, (World.cell?_of_block (w := w) (a := ⟨b, o + 1, none⟩) e).trans h.2.1, (World.cell?_of_block (w := w) (a := ⟨b, o + 2, none⟩) e).trans h.2.2.1, (World.cell?_of_block (w := w) (a := ⟨b, o + 3, none⟩) e).trans h.2.2.2.1, (World.cell?_of_block (w := w) (a := ⟨b, o + 4, none⟩) e).trans h.2.2.2.2.1, (World.cell?_of_block (w := w) (a := ⟨b, o + 5, none⟩) e).trans h.2.2.2.2.2⟩

theorem SixF.block {w w' : World} {b o : Nat} (h : SixF w b o) (e : w'.heap[b]? = w.heap[b]?) : SixF w' b o :=
  ⟨(World.frozen?_of_block (w := w) (a := ⟨b, o, none⟩) e).trans h.1, (World.frozen?_of_block (w := w) (a := ⟨b, o + 1, none⟩) e).trans h.2.1, (World.frozen?_of_block (w := w) (a := ⟨b, o + 2, none⟩) e).trans h.2.2.1, (World.frozen?_of_block (w := w) (a := ⟨b, o + 3, none⟩) e).trans h.2.2.2.1, (World.frozen?_of_block (w := w) (a := ⟨b, o + 4, none⟩) e).trans h.2.2.2.2.1, (World.frozen?_of_block (w := w) (a := ⟨b, o + 5, none⟩) e).trans h.2.2.2.2.2⟩

theorem SixG.below {w w' : World} {b o : Nat} {t : GM} (h : SixG w b o t) (hb : Below w.heap.size w w') (hl : b < w.heap.size) : SixG w' b o t := h.block (hb.block b hl)

theorem SixF.below {w w' : World} {b o : Nat} (h : SixF w b o) (hb : Below w.heap.size w w') (hl : b < w.heap.size) : SixF w' b o := h.block (hb.block b hl)

theorem SixG.keeps {w w' : World} {b o lo hi : Nat} {t : GM} (h : SixG w b o t) (hk : Keeps w w' lo hi) (hl : b < w.heap.size) (hd : b < lo ∨ hi ≤ b) : SixG w' b o t := h.block (hk.block b hl hd)

theorem SixF.keeps {w w' : World} {b o lo hi : Nat} (h : SixF w b o) (hk : Keeps w w' lo hi) (hl : b < w.heap.size) (hd : b < lo ∨ hi ≤ b) : SixF w' b o := h.block (hk.block b hl hd)

/-- A row of objects is read. -/
structure GSrc (w : World) (b q N : Nat) (T : Nat → GM) : Prop where
  lt : b < w.heap.size
  six : ∀ i, i < N → SixG w b (q + i * 6) (T i)
  flds : ∀ i, i < N → Src w (T i).a (T i).n (T i).f

/-- A row of objects of the call's own, in blocks from lo to hi. -/
structure GOwn (w : World) (lo hi b q N : Nat) (T : Nat → GM) : Prop where
  glo : lo ≤ b
  ghi : b < hi
  lt : b < w.heap.size
  six : ∀ i, i < N → SixG w b (q + i * 6) (T i)
  free : ∀ i, i < N → SixF w b (q + i * 6)
  flds : ∀ i, i < N → OwnIn w lo hi (T i).a (T i).n (T i).f
  off : ∀ i, i < N → (T i).n = 0 ∨ (T i).g ≠ b
  apart : ∀ i j, i < N → j < N → i ≠ j → (T i).n = 0 ∨ (T j).n = 0 ∨ (T i).g ≠ (T j).g

theorem GOwn.src {w : World} {lo hi b q N : Nat} {T : Nat → GM} (h : GOwn w lo hi b q N T) : GSrc w b q N T := ⟨h.lt, h.six, fun i hi => (h.flds i hi).src⟩

theorem GSrc.below {w w' : World} {b q N : Nat} {T : Nat → GM} (h : GSrc w b q N T) (hb : Below w.heap.size w w') : GSrc w' b q N T :=
  ⟨Nat.lt_of_lt_of_le h.lt hb.size, fun i hi => (h.six i hi).below hb h.lt, fun i hi => (h.flds i hi).below hb⟩

theorem GOwn.below {w w' : World} {lo hi b q N : Nat} {T : Nat → GM} (h : GOwn w lo hi b q N T) (hb : Below w.heap.size w w') : GOwn w' lo hi b q N T :=
  ⟨h.glo, h.ghi, Nat.lt_of_lt_of_le h.lt hb.size, fun i hi => (h.six i hi).below hb h.lt, fun i hi => (h.free i hi).below hb h.lt, fun i hi => (h.flds i hi).below hb, h.off, h.apart⟩

theorem GOwn.keeps {w w' : World} {lo hi lo' hi' b q N : Nat} {T : Nat → GM} (h : GOwn w lo hi b q N T) (hk : Keeps w w' lo' hi') (hd : hi ≤ lo' ∨ hi' ≤ lo) : GOwn w' lo hi b q N T := by
  have h1 := h.glo; have h2 := h.ghi
  exact ⟨h.glo, h.ghi, Nat.lt_of_lt_of_le h.lt hk.size, fun i hi => (h.six i hi).keeps hk h.lt (by omega), fun i hi => (h.free i hi).keeps hk h.lt (by omega), fun i hi => (h.flds i hi).keeps hk hd, h.off, h.apart⟩

theorem GSrc.keeps {w w' : World} {lo hi b q N : Nat} {T : Nat → GM} (h : GSrc w b q N T) (hk : Keeps w w' lo hi) (hd : b < lo ∨ hi ≤ b) (hf : ∀ i, i < N → (T i).n = 0 ∨ (T i).g < lo ∨ hi ≤ (T i).g) : GSrc w' b q N T := by
  refine ⟨Nat.lt_of_lt_of_le h.lt hk.size, fun i hi => (h.six i hi).keeps hk h.lt hd, fun i hi => ?_⟩
  rcases h.flds i hi with h0 | ⟨b', o', he, hl, hc⟩
  · exact .inl h0
  · rcases hf i hi with h0 | hf
    · exact .inl h0
    · have hg : (T i).g = b' := by simp [GM.g, he]
      have e := hk.block b' hl (by omega)
      exact .inr ⟨b', o', he, Nat.lt_of_lt_of_le hl hk.size, fun k hk' => (World.cell?_of_block (w := w) (a := ⟨b', o' + k, none⟩) e).trans (hc k hk')⟩

theorem GSrc.drew {w : World} {b q N : Nat} {T : Nat → GM} (h : GSrc w b q N T) : GSrc w.drew b q N T := h.below (Below.refl _ _).drew

theorem GSrc.alloc {w : World} {b q N : Nat} {T : Nat → GM} (h : GSrc w b q N T) (o : Obj) : GSrc (w.alloc o) b q N T := h.below ((Below.refl _ _).alloc (Nat.le_refl _) o)

theorem GOwn.drew {w : World} {lo hi b q N : Nat} {T : Nat → GM} (h : GOwn w lo hi b q N T) : GOwn w.drew lo hi b q N T := h.below (Below.refl _ _).drew

theorem GOwn.alloc {w : World} {lo hi b q N : Nat} {T : Nat → GM} (h : GOwn w lo hi b q N T) (o : Obj) : GOwn (w.alloc o) lo hi b q N T := h.below ((Below.refl _ _).alloc (Nat.le_refl _) o)

theorem GSrc.congr {w : World} {b q N : Nat} {T U : Nat → GM} (h : GSrc w b q N T) (e : ∀ i, i < N → T i = U i) : GSrc w b q N U :=
  ⟨h.lt, fun i hi => by rw [← e i hi]; exact h.six i hi, fun i hi => by rw [← e i hi]; exact h.flds i hi⟩

theorem GOwn.congr {w : World} {lo hi b q N : Nat} {T U : Nat → GM} (h : GOwn w lo hi b q N T) (e : ∀ i, i < N → T i = U i) : GOwn w lo hi b q N U :=
  ⟨h.glo, h.ghi, h.lt, fun i hi => by rw [← e i hi]; exact h.six i hi, h.free, fun i hi => by rw [← e i hi]; exact h.flds i hi, fun i hi => by rw [← e i hi]; exact h.off i hi, fun i j hi hj hij => by rw [← e i hi, ← e j hj]; exact h.apart i j hi hj hij⟩
end Go.Proofs.Ytpmhbdiddcnhfaa

namespace Go.Proofs.Ytpmhbdiddcnhfaa
open Go.RowKit
set_option linter.unusedVariables false

/-- Two objects hold the same. -/
def GSame (t u : GM) : Prop := t.at_ = u.at_ ∧ t.s = u.s ∧ t.m = u.m ∧ t.o = u.o ∧ t.h = u.h ∧ t.n = u.n ∧ ∀ k, k < t.n → t.f k = u.f k

def GV (w : World) (a : Option Addr) (N : Nat) (T : Nat → GM) : Prop := N = 0 ∨ ∃ b q, a = some ⟨b, q, none⟩ ∧ GSrc w b q N T

def GVO (w : World) (lo hi : Nat) (a : Option Addr) (N : Nat) (T : Nat → GM) : Prop := N = 0 ∨ ∃ b q, a = some ⟨b, q, none⟩ ∧ GOwn w lo hi b q N T

theorem GVO.src {w : World} {lo hi N : Nat} {a : Option Addr} {T : Nat → GM} (h : GVO w lo hi a N T) : GV w a N T := by
  rcases h with h0 | ⟨b, q, e, h⟩
  · exact .inl h0
  · exact .inr ⟨b, q, e, h.src⟩

theorem GV.below {w w' : World} {a : Option Addr} {N : Nat} {T : Nat → GM} (h : GV w a N T) (hb : Below w.heap.size w w') : GV w' a N T := by
  rcases h with h0 | ⟨b, q, e, h⟩
  · exact .inl h0
  · exact .inr ⟨b, q, e, h.below hb⟩

theorem GVO.below {w w' : World} {lo hi N : Nat} {a : Option Addr} {T : Nat → GM} (h : GVO w lo hi a N T) (hb : Below w.heap.size w w') : GVO w' lo hi a N T := by
  rcases h with h0 | ⟨b, q, e, h⟩
  · exact .inl h0
  · exact .inr ⟨b, q, e, h.below hb⟩

theorem GVO.keeps {w w' : World} {lo hi lo' hi' N : Nat} {a : Option Addr} {T : Nat → GM} (h : GVO w lo hi a N T) (hk : Keeps w w' lo' hi') (hd : hi ≤ lo' ∨ hi' ≤ lo) : GVO w' lo hi a N T := by
  rcases h with h0 | ⟨b, q, e, h⟩
  · exact .inl h0
  · exact .inr ⟨b, q, e, h.keeps hk hd⟩

theorem GV.drew {w : World} {a : Option Addr} {N : Nat} {T : Nat → GM} (h : GV w a N T) : GV w.drew a N T := h.below (Below.refl _ _).drew

theorem GV.alloc {w : World} {a : Option Addr} {N : Nat} {T : Nat → GM} (h : GV w a N T) (o : Obj) : GV (w.alloc o) a N T := h.below ((Below.refl _ _).alloc (Nat.le_refl _) o)

theorem GVO.drew {w : World} {lo hi N : Nat} {a : Option Addr} {T : Nat → GM} (h : GVO w lo hi a N T) : GVO w.drew lo hi a N T := h.below (Below.refl _ _).drew

theorem GVO.alloc {w : World} {lo hi N : Nat} {a : Option Addr} {T : Nat → GM} (h : GVO w lo hi a N T) (o : Obj) : GVO (w.alloc o) lo hi a N T := h.below ((Below.refl _ _).alloc (Nat.le_refl _) o)
end Go.Proofs.Ytpmhbdiddcnhfaa

namespace Go.Proofs.Ytpmhbdiddcnhfaa
open Go.RowKit
set_option linter.unusedVariables false

theorem made_get (z : Array Value) (m k : Nat) (hk : k < m) : (madeCells z m).toList[k]? = some z[k % z.size]! := by
  simp [madeCells, hk]

/-- The six cells of an object are written. -/
def sixW (w : World) (b o : Nat) (t : GM) : World := ((((((w.setCell ⟨b, o, none⟩ (.int .i64 t.at_)).setCell ⟨b, o + 1, none⟩ (.int .i64 t.s)).setCell ⟨b, o + 2, none⟩ (.int .i64 t.m)).setCell ⟨b, o + 3, none⟩ (.int .i64 t.o)).setCell ⟨b, o + 4, none⟩ (.int .i64 t.h)).setCell ⟨b, o + 5, none⟩ (.slice t.a t.n t.c))

theorem sixW_at {w : World} {b o : Nat} {t0 : GM} (h : SixG w b o t0) (t : GM) : SixG (sixW w b o t) b o t := by
  obtain ⟨x0, x1, x2, x3, x4, x5⟩ := h
  simp [sixW, SixG, x0, x1, x2, x3, x4, x5, World.cell?_setCell_other, World.cell?_setCell_same']

theorem sixW_other {w : World} {b o o' : Nat} {u : GM} (h : SixG w b o u) (hd : o + 6 ≤ o' ∨ o' + 6 ≤ o) (t : GM) : SixG (sixW w b o' t) b o u := by
  have g : ∀ x, x < 6 → ∀ y, y < 6 → (⟨b, o' + y, none⟩ : Addr) ≠ ⟨b, o + x, none⟩ := fun x hx y hy e => by simp at e; try omega
  have k : ∀ x, x < 6 → (sixW w b o' t).cell? ⟨b, o + x, none⟩ = w.cell? ⟨b, o + x, none⟩ := fun x hx => by
    unfold sixW
    rw [World.cell?_setCell_other _ _ _ _ (g x hx 5 (by omega)), World.cell?_setCell_other _ _ _ _ (g x hx 4 (by omega)), World.cell?_setCell_other _ _ _ _ (g x hx 3 (by omega)), World.cell?_setCell_other _ _ _ _ (g x hx 2 (by omega)), World.cell?_setCell_other _ _ _ _ (g x hx 1 (by omega)), World.cell?_setCell_other _ _ _ _ (show (⟨b, o', none⟩ : Addr) ≠ ⟨b, o + x, none⟩ from g x hx 0 (by omega))]
  exact ⟨(k 0 (by omega)).trans h.1, (k 1 (by omega)).trans h.2.1, (k 2 (by omega)).trans h.2.2.1, (k 3 (by omega)).trans h.2.2.2.1, (k 4 (by omega)).trans h.2.2.2.2.1, (k 5 (by omega)).trans h.2.2.2.2.2⟩

theorem sixW_frozen (w : World) (b o : Nat) (t : GM) (p : Addr) : (sixW w b o t).frozen? p = w.frozen? p := by simp [sixW, World.frozen?_setCell]

theorem sixW_keeps (w : World) (b o : Nat) (t : GM) : Keeps w (sixW w b o t) b (b + 1) := by
  unfold sixW
  refine Keeps.trans ?_ (keeps_setCell (p := ⟨b, o + 5, none⟩) (Nat.le_refl b) (Nat.lt_succ_self b) _)
  refine Keeps.trans ?_ (keeps_setCell (p := ⟨b, o + 4, none⟩) (Nat.le_refl b) (Nat.lt_succ_self b) _)
  refine Keeps.trans ?_ (keeps_setCell (p := ⟨b, o + 3, none⟩) (Nat.le_refl b) (Nat.lt_succ_self b) _)
  refine Keeps.trans ?_ (keeps_setCell (p := ⟨b, o + 2, none⟩) (Nat.le_refl b) (Nat.lt_succ_self b) _)
  refine Keeps.trans ?_ (keeps_setCell (p := ⟨b, o + 1, none⟩) (Nat.le_refl b) (Nat.lt_succ_self b) _)
  refine Keeps.trans ?_ (keeps_setCell (p := ⟨b, o, none⟩) (Nat.le_refl b) (Nat.lt_succ_self b) _)
  exact Keeps.refl _ _ _
end Go.Proofs.Ytpmhbdiddcnhfaa

namespace Go.Proofs.Ytpmhbdiddcnhfaa
open Go.RowKit
set_option linter.unusedVariables false

def obG (f : Nat → Int) (y : Ob) : GM := ⟨y.at_, y.s, y.m, y.o, y.h, none, y.s.toNat, 0, fun k => f (y.at_.toNat + 2 + k)⟩

def gzero : GM := ⟨0, 0, 0, 0, 0, none, 0, 0, fun _ => 0⟩

def xT (f : Nat → Int) (x : Option Ob) : GM := match x with | none => gzero | some y => obG f y

def obT (f : Nat → Int) (L : List Ob) (i : Nat) : GM := xT f L[i]?

theorem GSame.refl (t : GM) : GSame t t := ⟨rfl, rfl, rfl, rfl, rfl, rfl, fun _ _ => rfl⟩
end Go.Proofs.Ytpmhbdiddcnhfaa

namespace Go.Proofs.Ytpmhbdiddcnhfaa
open Go.ChangeShapes Go.WideShapes Go.ChangeAt Go.RowKit Go.Joins Go.Deep
set_option linter.unusedVariables false

theorem Try.cellsO2 : Try.prog.cellsOf 2 = 1 := by kernel_rfl

instance : Inhabited GM := ⟨gzero⟩

theorem add_none (b off i : Nat) : (⟨b, off, none⟩ : Addr).add i = ⟨b, off + i, none⟩ := by
  rcases i with _ | i <;> simp [Addr.add]
end Go.Proofs.Ytpmhbdiddcnhfaa

namespace Go.Proofs.Ytpmhbdiddcnhfaa
open Go.RowKit Go.Shelf
set_option linter.unusedVariables false
attribute [local go_sem] Oper.semAt_some

theorem blk_block {w w' : World} {b : Nat} {cs : List Value} (h : Blk w b cs) (e : w'.heap[b]? = w.heap[b]?) : Blk w' b cs := by
  refine ⟨?_, fun i u hu => ?_⟩
  · have h1 : w.heap[b]? = some (w.heap[b]'h.1) := Array.getElem?_eq_getElem h.1
    rw [h1] at e
    exact (Array.getElem?_eq_some_iff.1 e).1
  · obtain ⟨h1, h2⟩ := h.2 i u hu
    exact ⟨(World.cell?_of_block (w := w) (a := ⟨b, i, none⟩) e).trans h1, (World.frozen?_of_block (w := w) (a := ⟨b, i, none⟩) e).trans h2⟩
end Go.Proofs.Ytpmhbdiddcnhfaa

namespace Go.Proofs.Ytpmhbdiddcnhfaa
open Go.RowKit
set_option linter.unusedVariables false

def gcells (t : GM) : List Value := [.int .i64 t.at_, .int .i64 t.s, .int .i64 t.m, .int .i64 t.o, .int .i64 t.h, .slice t.a t.n t.c]

def rowG (M : List GM) : List Value := M.flatMap gcells

theorem rowG_get : ∀ (M : List GM) (i : Nat) (t : GM), M[i]? = some t → ∀ j, j < 6 → (rowG M)[i * 6 + j]? = (gcells t)[j]?
  | [], i, t, h, j, hj => by simp at h
  | u :: M, 0, t, h, j, hj => by
    simp only [List.getElem?_cons_zero, Option.some.injEq] at h
    subst h
    simp only [rowG, List.flatMap_cons, Nat.zero_mul, Nat.zero_add]
    rw [List.getElem?_append_left (by simp [gcells]; omega)]
  | u :: M, i + 1, t, h, j, hj => by
    have ih := rowG_get M i t (by simpa using h) j hj
    simp only [rowG, List.flatMap_cons] at ih ⊢
    rw [List.getElem?_append_right (by simp [gcells]; omega)]
    have e : (i + 1) * 6 + j - (gcells u).length = i * 6 + j := by simp [gcells]; omega
    rw [e]; exact ih

/-- Each object's fields are numbers of their own, later ones in later blocks. -/
def FldG (w : World) (lo : Nat) (v : Value) (M : List GM) : Prop :=
  (∀ t ∈ M, t.n = 0 ∨ (lo ≤ t.g ∧ t.g < w.heap.size ∧ some t.g ≠ v.ownBlock ∧ ∃ q, t.a = some ⟨t.g, q, none⟩ ∧ ∀ k, k < t.n → w.cell? ⟨t.g, q + k, none⟩ = some (.int .i64 (t.f k)) ∧ w.frozen? ⟨t.g, q + k, none⟩ = false)) ∧ M.Pairwise (fun t u => t.n = 0 ∨ u.n = 0 ∨ t.g < u.g)

theorem FldG.block {w w' : World} {lo : Nat} {v : Value} {M : List GM} (h : FldG w lo v M) (hz : w.heap.size ≤ w'.heap.size) (hb : ∀ b, lo ≤ b → b < w.heap.size → some b ≠ v.ownBlock → w'.heap[b]? = w.heap[b]?) : FldG w' lo v M :=
  ⟨fun t ht => by
    rcases h.1 t ht with h0 | ⟨h1, h2, h3, q, h4, h5⟩
    · exact .inl h0
    · have e := hb t.g h1 h2 h3
      exact .inr ⟨h1, Nat.lt_of_lt_of_le h2 hz, h3, q, h4, fun k hk => ⟨(World.cell?_of_block (w := w) (a := ⟨t.g, q + k, none⟩) e).trans (h5 k hk).1, (World.frozen?_of_block (w := w) (a := ⟨t.g, q + k, none⟩) e).trans (h5 k hk).2⟩⟩, h.2⟩

theorem FldG.below {w w' : World} {lo : Nat} {v : Value} {M : List GM} (h : FldG w lo v M) (hb : Below w.heap.size w w') : FldG w' lo v M := h.block hb.size fun b _ h2 _ => hb.block b h2

def gT (M : List GM) (i : Nat) : GM := M[i]?.getD gzero

theorem gT_at {M : List GM} {i : Nat} {t : GM} (h : M[i]? = some t) : gT M i = t := by simp [gT, h]
end Go.Proofs.Ytpmhbdiddcnhfaa

namespace Go.Proofs.Ytpmhbdiddcnhfaa
open Go.RowKit Go.Shelf
set_option linter.unusedVariables false

/-- What lay below B, and what holds cells, is as it was. -/
structure Turn (B : Nat) (V V' : World) : Prop where
  os : V'.os = V.os
  tape : V'.tape = V.tape
  output : V'.output = V.output
  size : V.heap.size ≤ V'.heap.size
  same : ∀ (k : Nat) (o : Obj), V.heap[k]? = some o → (k < B ∨ o.isCells = true) → V'.heap[k]? = some o

theorem Turn.trans {B : Nat} {V V' V'' : World} (h : Turn B V V') (h' : Turn B V' V'') : Turn B V V'' :=
  ⟨h'.os.trans h.os, h'.tape.trans h.tape, h'.output.trans h.output, Nat.le_trans h.size h'.size, fun k o hk hc => h'.same k o (h.same k o hk hc) hc⟩

theorem Turn.put {B : Nat} {V : World} {l : Nat} {o : Obj} (o' : Obj) (hl : B ≤ l) (h : V.heap[l]? = some o) (hc : o.isCells = false) : Turn B V (V.putObj l o') :=
  ⟨rfl, rfl, rfl, by simp, fun k x hk hx => by
    have hne : k ≠ l := fun e => by
      subst e
      rw [h] at hk
      cases hk
      rcases hx with hx | hx
      · omega
      · rw [hc] at hx; cases hx
    rw [World.putObj_heap_other hne]; exact hk⟩

theorem Turn.below {B n : Nat} {V V' : World} (h : Turn B V V') (hn : n ≤ B) (hz : n ≤ V.heap.size) : Below n V V' :=
  ⟨h.os, h.tape, h.output, h.size, fun k hk => by
    have hk' : V.heap[k]? = some (V.heap[k]'(by omega)) := Array.getElem?_eq_getElem (by omega)
    rw [hk']; exact h.same k _ hk' (.inl (by omega))⟩

theorem Turn.cell {B : Nat} {V V' : World} (h : Turn B V V') {p : Addr} {v : Value} (hc : V.cell? p = some v) : V'.cell? p = some v ∧ V'.frozen? p = V.frozen? p ∧ V'.heap[p.block]? = V.heap[p.block]? := by
  obtain ⟨o, ho, hcc⟩ := cells_of_cell hc
  have e : V'.heap[p.block]? = V.heap[p.block]? := (h.same _ o ho (.inr hcc)).trans ho.symm
  exact ⟨(World.cell?_of_block e).trans hc, World.frozen?_of_block e, e⟩

theorem Turn.blk {B : Nat} {V V' : World} (h : Turn B V V') {b : Nat} {cs : List Value} (hb : Blk V b cs) (hne : cs ≠ []) : Blk V' b cs := by
  cases cs with
  | nil => exact absurd rfl hne
  | cons u cs => exact blk_block hb (h.cell (hb.2 0 u rfl).1).2.2

theorem Turn.own {B : Nat} {V V' : World} (h : Turn B V V') {lo n : Nat} {a : Option Addr} {f : Nat → Int} (ho : Own V lo a n f) : Own V' lo a n f := by
  rcases ho with h0 | ⟨b, off, he, h1, h2, h3⟩
  · exact .inl h0
  · exact .inr ⟨b, off, he, h1, Nat.lt_of_lt_of_le h2 h.size, fun k hk => by
      obtain ⟨e1, e2, _⟩ := h.cell (h3 k hk).1
      exact ⟨e1, e2.trans (h3 k hk).2⟩⟩

theorem Turn.row {B : Nat} {V V' : World} (h : Turn B V V') {base e size n : Nat} {v : Value} {xs : List Value} (ho : V.ownsRow base e size v n xs) : V'.ownsRow base e size v n xs := by
  refine ⟨ho.1, ?_⟩
  rcases ho.2 with h0 | ⟨g, cap, cur, h1, h2, h3, h4⟩
  · exact .inl h0
  · exact .inr ⟨g, cap, cur, h1, h2, h.same g _ h3 (.inr rfl), h4⟩
end Go.Proofs.Ytpmhbdiddcnhfaa

namespace Go.Proofs.Ytpmhbdiddcnhfaa
open Go.RowKit Go.Shelf
attribute [local go_sem] Oper.semAt_some
set_option linter.unusedVariables false

theorem blk_grown {w w' : World} {b : Nat} {cs : List Value} {row : Option Nat} (h : Blk w b cs) (hg : w.grownBy w' row) (hne : row ≠ some b) : Blk w' b cs := blk_block h (hg.block b h.1 (fun e => hne e.symm))

theorem row_set {w : World} {base e size n : Nat} {v : Value} {xs : List Value} (h : w.ownsRow base e size v n xs) {p : Addr} (hp : p.block < base) (u : Value) : (w.setCell p u).ownsRow base e size v n xs := by
  refine ⟨h.1, ?_⟩
  rcases h.2 with h0 | ⟨g, cap, cur, h1, h2, h3, h4⟩
  · exact .inl h0
  · exact .inr ⟨g, cap, cur, h1, h2, (Below.heap_setCell w p u g (by omega)).trans h3, h4⟩
end Go.Proofs.Ytpmhbdiddcnhfaa

namespace Go.Proofs.Ytpmhbdiddcnhfaa
open Go.RowKit
set_option linter.unusedVariables false

/-- Elements that are new are put behind all others, one after the other. -/
def addNew (out : List Int) : List Int → List Int
  | [] => out
  | x :: xs => addNew (if x ∈ out then out else out ++ [x]) xs

theorem mem_addNew (xs : List Int) : ∀ out y, y ∈ addNew out xs ↔ y ∈ out ∨ y ∈ xs := by
  induction xs with
  | nil => intro out y; simp [addNew]
  | cons x xs ih =>
    intro out y
    rw [addNew, ih]
    by_cases h : x ∈ out
    · rw [if_pos h]
      constructor
      · rintro (h1 | h1)
        · exact .inl h1
        · exact .inr (List.mem_cons_of_mem _ h1)
      · rintro (h1 | h1)
        · exact .inl h1
        · rcases List.mem_cons.mp h1 with rfl | h2
          · exact .inl h
          · exact .inr h2
    · rw [if_neg h]
      simp only [List.mem_append, List.mem_cons, List.not_mem_nil, or_false]
      constructor
      · rintro ((h1 | h1) | h1)
        · exact .inl h1
        · exact .inr (.inl h1)
        · exact .inr (.inr h1)
      · rintro (h1 | h1 | h1)
        · exact .inl (.inl h1)
        · exact .inl (.inr h1)
        · exact .inr h1

/-- The scan: for each place from i on, where it leads. -/
def scanF (succ : Int → List Int) : Nat → Nat → List Int → List Int
  | 0, _, out => out
  | n + 1, i, out => if i < out.length then scanF succ n (i + 1) (addNew out (succ (out.getD i 0))) else out

theorem scanF_sub (succ : Int → List Int) (U : List Int) (hU : ∀ x ∈ U, ∀ y ∈ succ x, y ∈ U) : ∀ n i out, (∀ x ∈ out, x ∈ U) → ∀ x ∈ scanF succ n i out, x ∈ U := by
  intro n
  induction n with
  | zero => exact fun i out h => h
  | succ n ih =>
    intro i out hs
    rw [scanF]
    by_cases h : i < out.length
    · rw [if_pos h]
      refine ih _ _ fun x hx => ?_
      rcases (mem_addNew _ _ _).1 hx with h1 | h1
      · exact hs x h1
      · have hg : out.getD i 0 ∈ out := by
          rw [List.getD_eq_getElem?_getD, List.getElem?_eq_getElem h]; exact List.getElem_mem h
        exact hU _ (hs _ hg) x h1
    · rw [if_neg h]; exact hs

theorem nodup_length {xs U : List Int} (hn : xs.Nodup) (hs : ∀ x ∈ xs, x ∈ U) : xs.length ≤ U.length := by
  induction xs generalizing U with
  | nil => exact Nat.zero_le _
  | cons x xs ih =>
    have hx := List.nodup_cons.mp hn
    have := ih hx.2 (U := U.erase x) (fun y hy => (List.mem_erase_of_ne (fun e => by subst e; exact hx.1 hy)).mpr (hs y (List.mem_cons_of_mem _ hy)))
    have h2 := List.length_erase_of_mem (hs x (List.mem_cons_self ..))
    have h3 : 0 < U.length := List.length_pos_of_mem (hs x (List.mem_cons_self ..))
    simp only [List.length_cons]
    omega

/-- What is reached. -/
def reachL (succ : Int → List Int) (n : Nat) (roots : List Int) : List Int := scanF succ n 0 (addNew [] roots)

theorem addNew_sub {U roots : List Int} (hr : ∀ x ∈ roots, x ∈ U) : ∀ x ∈ addNew [] roots, x ∈ U := fun x hx => by
  rcases (mem_addNew _ _ _).1 hx with h1 | h1
  · cases h1
  · exact hr x h1

theorem reachL_sub (succ : Int → List Int) (n : Nat) (U roots : List Int) (hU : ∀ x ∈ U, ∀ y ∈ succ x, y ∈ U) (hr : ∀ x ∈ roots, x ∈ U) : ∀ x ∈ reachL succ n roots, x ∈ U := scanF_sub succ U hU n 0 _ (addNew_sub hr)
end Go.Proofs.Ytpmhbdiddcnhfaa

namespace Go.Proofs.Ytpmhbdiddcnhfaa
open Go.RowKit
set_option linter.unusedVariables false

/-- Where an object's pointers lead, in the order of its fields. -/
def ptrs (f : Nat → Int) (x : Ob) : List Int := (List.range x.s.toNat).filterMap fun (k : Nat) => if x.m / P2 (k : Int) % 2 = 1 ∧ ¬ f (x.at_.toNat + 2 + k) = 0 then some (f (x.at_.toNat + 2 + k) - 1) else none

def succO (f : Nat → Int) (L : List Ob) (p : Int) : List Int := match findO L p with | some x => ptrs f x | none => []

def placesO (L : List Ob) : List Int := L.map Ob.at_

def reachO (f : Nat → Int) (L : List Ob) (roots : List Int) : List Int := reachL (succO f L) L.length roots

theorem mem_ptrs {f : Nat → Int} {x : Ob} {y : Int} : y ∈ ptrs f x ↔ ∃ k : Nat, k < x.s.toNat ∧ x.m / P2 (k : Int) % 2 = 1 ∧ ¬ f (x.at_.toNat + 2 + k) = 0 ∧ y = f (x.at_.toNat + 2 + k) - 1 := by
  unfold ptrs
  rw [List.mem_filterMap]
  constructor
  · rintro ⟨k, hk, he⟩
    by_cases h : x.m / P2 (k : Int) % 2 = 1 ∧ ¬ f (x.at_.toNat + 2 + k) = 0
    · rw [if_pos h] at he
      exact ⟨k, by simpa using hk, h.1, h.2, (Option.some.inj he).symm⟩
    · rw [if_neg h] at he; cases he
  · rintro ⟨k, hk, h1, h2, rfl⟩
    exact ⟨k, by simpa using hk, if_pos ⟨h1, h2⟩⟩

theorem mem_placesO {L : List Ob} {p : Int} : p ∈ placesO L ↔ ∃ x, findO L p = some x := by
  unfold placesO
  constructor
  · intro h
    obtain ⟨x, hx, rfl⟩ := List.mem_map.mp h
    cases hf : findO L x.at_ with
    | some y => exact ⟨y, rfl⟩
    | none =>
      have := List.find?_eq_none.mp hf x hx
      simp at this
  · rintro ⟨x, hf⟩
    have h1 := List.find?_some hf
    exact List.mem_map.mpr ⟨x, List.mem_of_find?_eq_some hf, by simpa using h1⟩

theorem succO_sub {f : Nat → Int} {L : List Ob} (hp : Points f L) (hs : ∀ x ∈ L, 0 ≤ x.s) : ∀ p ∈ placesO L, ∀ y ∈ succO f L p, y ∈ placesO L := by
  intro p _ y hy
  unfold succO at hy
  cases hf : findO L p with
  | none => rw [hf] at hy; cases hy
  | some x =>
    rw [hf] at hy
    obtain ⟨k, hk, h1, h2, rfl⟩ := mem_ptrs.1 hy
    have hx := List.mem_of_find?_eq_some hf
    have h0 := hs x hx
    have hl := hp x hx k (by omega) h1
    unfold leadsB at hl
    rw [if_neg h2] at hl
    cases hf2 : findO L (f (x.at_.toNat + 2 + k) - 1) with
    | none => rw [hf2] at hl; cases hl
    | some z => exact mem_placesO.2 ⟨z, hf2⟩

theorem reachO_sub {f : Nat → Int} {L : List Ob} {roots : List Int} (hp : Points f L) (hs : ∀ x ∈ L, 0 ≤ x.s) (hr : ∀ p ∈ roots, p ∈ placesO L) : ∀ p ∈ reachO f L roots, p ∈ placesO L := reachL_sub _ _ _ _ (succO_sub hp hs) hr

/-- The number of a place in a list. -/
def numL (l : List Int) (v : Int) : Option Nat := l.findIdx? (· == v)
end Go.Proofs.Ytpmhbdiddcnhfaa

namespace Go.Proofs.Ytpmhbdiddcnhfaa
open Go.RowKit
set_option linter.unusedVariables false

def packO (x : Ob) : Int := 1 + 2 * (x.s + 16 * (x.m + 4096 * x.o))

def wordsO (x : Ob) : Nat := 2 + x.s.toNat

def totO : List Ob → Nat
  | [] => 0
  | x :: X => wordsO x + totO X

def ObOk (x : Ob) : Prop := HOk x.s x.m x.o x.h ∧ x.m ≤ 4095

/-- The place of the object of a number. -/
def placeAt (P : Nat) (X : List Ob) (i : Nat) : Nat := P + totO (X.take i)

theorem placeAt_zero (P : Nat) (X : List Ob) : placeAt P X 0 = P := by simp [placeAt, totO]

theorem placeAt_succ (P : Nat) (x : Ob) (X : List Ob) (i : Nat) : placeAt P (x :: X) (i + 1) = placeAt (P + wordsO x) X i := by simp [placeAt, totO]; omega

theorem totO_take_lt : ∀ (X : List Ob) (i : Nat) (hi : i < X.length), totO (X.take i) + wordsO X[i] ≤ totO X
  | x :: X, 0, _ => by simp [totO]
  | x :: X, i + 1, hi => by
    have := totO_take_lt X i (by simpa using hi)
    simp only [List.take_succ_cons, totO, List.getElem_cons_succ]
    omega

theorem placeAt_end (P : Nat) (X : List Ob) {i : Nat} (hi : i < X.length) : placeAt P X i + wordsO X[i] ≤ P + totO X := by
  have := totO_take_lt X i hi
  unfold placeAt; omega

theorem placeAt_step (P : Nat) (X : List Ob) {i : Nat} (hi : i < X.length) : placeAt P X (i + 1) = placeAt P X i + wordsO X[i] := by
  induction X generalizing P i with
  | nil => simp at hi
  | cons x X ih =>
    cases i with
    | zero => rw [placeAt_succ, placeAt_zero, placeAt_zero]; rfl
    | succ i => rw [placeAt_succ, placeAt_succ, ih (P + wordsO x) (by simpa using hi)]; rfl

theorem placeAt_lt (P : Nat) (X : List Ob) : ∀ (i j : Nat), i < j → j ≤ X.length → placeAt P X i + 2 ≤ placeAt P X j
  | i, 0, h, _ => by omega
  | i, j + 1, h, hj => by
    have hw : wordsO X[j] = 2 + X[j].s.toNat := rfl
    rw [placeAt_step P X (show j < X.length by omega)]
    rcases Nat.lt_succ_iff_lt_or_eq.mp h with h1 | h1
    · have := placeAt_lt P X i j h1 (by omega); omega
    · subst h1; omega

/-- The new places, in order. -/
def newPlaces (P : Nat) (X : List Ob) : List Int := (List.range X.length).map fun i => (placeAt P X i : Int)
end Go.Proofs.Ytpmhbdiddcnhfaa

namespace Go.Proofs.Ytpmhbdiddcnhfaa
open Go.RowKit
set_option linter.unusedVariables false

/-- Where the object of a place is now. -/
def goes (R Q : List Int) (p : Int) : Int := Q.getD ((numL R p).getD 0) 0

/-- What a field holds now. -/
def mapF (f : Nat → Int) (R Q : List Int) (x : Ob) (k : Nat) : Int :=
  if x.m / P2 (k : Int) % 2 = 1 ∧ ¬ f (x.at_.toNat + 2 + k) = 0 then goes R Q (f (x.at_.toNat + 2 + k) - 1) + 1 else f (x.at_.toNat + 2 + k)

theorem getD_get {R : List Int} {i : Nat} (hi : i < R.length) : R.getD i 0 = R[i] := by
  rw [List.getD_eq_getElem?_getD, List.getElem?_eq_getElem hi]; rfl

/-- What is known of an arena that is right. -/
structure Right (f : Nat → Int) (L : List Ob) : Prop where
  points : Points f L
  size : ∀ x ∈ L, 0 ≤ x.s
  ok : ∀ x ∈ L, ObOk x
  apart : ∀ x ∈ L, findO L x.at_ = some x

section

variable {f g : Nat → Int} {L : List Ob} {roots : List Int} {P : Nat}

end
end Go.Proofs.Ytpmhbdiddcnhfaa

namespace Go.Proofs.Ytpmhbdiddcnhfaa
open Go.RowKit
set_option linter.unusedVariables false

/-- Two fields are alike. -/
def FldAlike (R R' : List Int) (bit : Prop) (v w : Int) : Prop := (bit → ((v = 0 ↔ w = 0) ∧ (¬ v = 0 → numL R (v - 1) = numL R' (w - 1)))) ∧ (¬ bit → v = w)

/-- What is reached from both is alike. -/
structure AlikeO (f : Nat → Int) (L : List Ob) (ra : List Int) (g : Nat → Int) (L' : List Ob) (rb : List Int) : Prop where
  rlen : ra.length = rb.length
  len : (reachO f L ra).length = (reachO g L' rb).length
  obj : ∀ i, i < (reachO f L ra).length → ∃ x y, findO L ((reachO f L ra).getD i 0) = some x ∧ findO L' ((reachO g L' rb).getD i 0) = some y ∧ (x.s = y.s ∧ x.m = y.m ∧ x.o = y.o ∧ x.h = y.h) ∧
    ∀ k : Nat, k < x.s.toNat → FldAlike (reachO f L ra) (reachO g L' rb) (x.m / P2 (k : Int) % 2 = 1) (f (x.at_.toNat + 2 + k)) (g (y.at_.toNat + 2 + k))
  roots : ∀ i, i < ra.length → numL (reachO f L ra) (ra.getD i 0) = numL (reachO g L' rb) (rb.getD i 0)

section

variable {f g e : Nat → Int} {L L' L2 : List Ob} {ra rb rc : List Int}

theorem AlikeO.symm (h : AlikeO f L ra g L' rb) : AlikeO g L' rb f L ra := by
  refine ⟨h.rlen.symm, h.len.symm, fun i hi => ?_, fun i hi => (h.roots i (by rw [h.rlen]; exact hi)).symm⟩
  obtain ⟨x, y, h1, h2, ⟨a1, a2, a3, a4⟩, h4⟩ := h.obj i (by rw [h.len]; exact hi)
  refine ⟨y, x, h2, h1, ⟨a1.symm, a2.symm, a3.symm, a4.symm⟩, fun k hk => ?_⟩
  obtain ⟨b1, b2⟩ := h4 k (by rw [a1]; exact hk)
  rw [← a2]
  exact ⟨fun hb => ⟨(b1 hb).1.symm, fun hw => ((b1 hb).2 (fun hv => hw ((b1 hb).1.1 hv))).symm⟩, fun hb => (b2 hb).symm⟩

theorem AlikeO.trans (h : AlikeO f L ra g L' rb) (k : AlikeO g L' rb e L2 rc) : AlikeO f L ra e L2 rc := by
  refine ⟨h.rlen.trans k.rlen, h.len.trans k.len, fun i hi => ?_, fun i hi => (h.roots i hi).trans (k.roots i (by rw [← h.rlen]; exact hi))⟩
  obtain ⟨x, y, h1, h2, ⟨a1, a2, a3, a4⟩, h4⟩ := h.obj i hi
  obtain ⟨y', z, k1, k2, ⟨c1, c2, c3, c4⟩, k4⟩ := k.obj i (by rw [← h.len]; exact hi)
  rw [h2] at k1
  obtain rfl := Option.some.inj k1
  refine ⟨x, z, h1, k2, ⟨a1.trans c1, a2.trans c2, a3.trans c3, a4.trans c4⟩, fun q hq => ?_⟩
  obtain ⟨b1, b2⟩ := h4 q hq
  obtain ⟨d1, d2⟩ := k4 q (by rw [← a1]; exact hq)
  rw [← a2] at d1 d2
  exact ⟨fun hb => ⟨(b1 hb).1.trans (d1 hb).1, fun hv => ((b1 hb).2 hv).trans ((d1 hb).2 (fun hw => hv ((b1 hb).1.2 hw)))⟩, fun hb => (b2 hb).trans (d2 hb)⟩

theorem AlikeO.refl (hr : Right f L) (hroots : ∀ p ∈ ra, p ∈ placesO L) : AlikeO f L ra f L ra := by
  refine ⟨rfl, rfl, fun i hi => ?_, fun _ _ => rfl⟩
  have hm : (reachO f L ra).getD i 0 ∈ reachO f L ra := by rw [getD_get hi]; exact List.getElem_mem hi
  obtain ⟨x, hx⟩ := mem_placesO.1 (reachO_sub hr.points hr.size hroots _ hm)
  exact ⟨x, x, hx, hx, ⟨rfl, rfl, rfl, rfl⟩, fun k _ => ⟨fun _ => ⟨Iff.rfl, fun _ => rfl⟩, fun _ => rfl⟩⟩

end

section

variable {f g : Nat → Int} {L : List Ob} {roots : List Int} {P : Nat}

end
end Go.Proofs.Ytpmhbdiddcnhfaa

namespace Go.Proofs.Ytpmhbdiddcnhfaa
open Go.RowKit
set_option linter.unusedVariables false

/-- A list as a row's numbers. -/
def lf (l : List Int) : Nat → Int := fun i => l.getD i 0

/-- Where an object's pointers lead, from a field on. -/
def ptrsF (f : Nat → Int) (x : Ob) (k : Nat) : List Int := ((List.range x.s.toNat).drop k).filterMap fun (k : Nat) => if x.m / P2 (k : Int) % 2 = 1 ∧ ¬ f (x.at_.toNat + 2 + k) = 0 then some (f (x.at_.toNat + 2 + k) - 1) else none

/-- The scan: the places from i on are still to be looked at. -/
structure SC (f : Nat → Int) (L : List Ob) (roots : List Int) (i : Nat) (O : List Int) : Prop where
  nd : O.Nodup
  sub : ∀ p ∈ O, p ∈ placesO L
  le : i ≤ O.length
  all : reachO f L roots = scanF (succO f L) (L.length - i) i O

/-- The scan within an object. -/
structure SI (f : Nat → Int) (L : List Ob) (roots : List Int) (i k : Nat) (x : Ob) (O : List Int) : Prop where
  nd : O.Nodup
  sub : ∀ p ∈ O, p ∈ placesO L
  lt : i < O.length
  at_ : findO L (lf O i) = some x
  all : reachO f L roots = scanF (succO f L) (L.length - (i + 1)) (i + 1) (addNew O (ptrsF f x k))

section

variable {f : Nat → Int} {L : List Ob} {roots O : List Int} {i k : Nat} {x : Ob}

theorem SC.len (h : SC f L roots i O) : O.length ≤ L.length := by have := nodup_length h.nd h.sub; simpa [placesO] using this

theorem SI.len (h : SI f L roots i k x O) : O.length ≤ L.length := by have := nodup_length h.nd h.sub; simpa [placesO] using this

end

/-- A table: the i-th of a list has the i-th value. -/
def tab (R : List Int) (v : Nat → Int) (p : Int) : Option Int := (numL R p).map v
end Go.Proofs.Ytpmhbdiddcnhfaa

namespace Go.Proofs.Ytpmhbdiddcnhfaa
open Go.RowKit
set_option linter.unusedVariables false

/-- The objects of a list in memory, as the model walks need them. -/
structure OMS (w : World) (base lo : Nat) (f : Nat → Int) (v : Value) (M : List OM) : Prop where
  row : w.ownsRow base 205 6 v M.length (rowCells M)
  fl : Flds w lo f v M
  len : M.length ≤ 400
  ok : ∀ t ∈ M, (0 ≤ t.x.s ∧ t.x.s ≤ 12) ∧ (0 ≤ t.x.m ∧ t.x.m ≤ 4095) ∧ (0 ≤ t.x.at_ ∧ t.x.at_ ≤ 1000000) ∧ ∀ k, k < t.x.s.toNat → -1000000000 ≤ f (t.x.at_.toNat + 2 + k) ∧ f (t.x.at_.toNat + 2 + k) ≤ 1000000000

theorem OMS.below {w w' : World} {base lo : Nat} {f : Nat → Int} {v : Value} {M : List OM} (h : OMS w base lo f v M) (hb : Below w.heap.size w w') : OMS w' base lo f v M := ⟨ownsRow_below h.row hb, h.fl.below hb, h.len, h.ok⟩

theorem OMS.size {w : World} {base lo : Nat} {f : Nat → Int} {v : Value} {M : List OM} (h : OMS w base lo f v M) : ∀ x ∈ M.map OM.x, 0 ≤ x.s := fun x hx => by
  obtain ⟨t, ht, rfl⟩ := List.mem_map.mp hx
  exact (h.ok t ht).1.1

theorem OMS.place {w : World} {base lo : Nat} {f : Nat → Int} {v : Value} {M : List OM} (h : OMS w base lo f v M) : ∀ p ∈ placesO (M.map OM.x), 0 ≤ p ∧ p ≤ 1000000 := fun p hp => by
  obtain ⟨y, hy, rfl⟩ := List.mem_map.mp hp
  obtain ⟨t, ht, rfl⟩ := List.mem_map.mp hy
  exact (h.ok t ht).2.2.1
end Go.Proofs.Ytpmhbdiddcnhfaa

namespace Go.Proofs.Ytpmhbdiddcnhfaa
open Go.RowKit
set_option linter.unusedVariables false

theorem OMS.lo {w : World} {base lo base' lo' : Nat} {f : Nat → Int} {v : Value} {M : List OM} (h : OMS w base lo f v M) (h1 : base' ≤ base) (h2 : lo' ≤ lo) : OMS w base' lo' f v M := by
  refine ⟨?_, ⟨fun t ht => ?_, h.fl.2⟩, h.len, h.ok⟩
  · refine ⟨h.row.1, ?_⟩
    rcases h.row.2 with h0 | ⟨g, cap, cur, e1, e2, e3⟩
    · exact .inl h0
    · exact .inr ⟨g, cap, cur, e1, Nat.le_trans h1 e2, e3⟩
  · obtain ⟨e1, e2⟩ := h.fl.1 t ht
    exact ⟨Nat.le_trans h2 e1, e2⟩
end Go.Proofs.Ytpmhbdiddcnhfaa

namespace Go.Proofs.Ytpmhbdiddcnhfaa
open Go.RowKit
set_option linter.unusedVariables false

theorem own_of_row' {w : World} {B e : Nat} {v : Value} {l : List Int} (h : w.ownsRow B e 1 v l.length (nums l.length (lf l))) : ∃ a c, v = .slice a l.length c ∧ Own w B a l.length (lf l) := by
  obtain ⟨a, c, rfl, _⟩ := row_shape h
  exact ⟨a, c, rfl, own_of_row h⟩
end Go.Proofs.Ytpmhbdiddcnhfaa

namespace Go.Proofs.Ytpmhbdiddcnhfaa
open Go.RowKit Go.Maps
set_option linter.unusedVariables false

/-- A block is a map in which the i-th of a list has the i-th value, and nothing else is there. -/
def MapT (w : World) (b n : Nat) (R : List Int) (v : Nat → Int) : Prop :=
  ∃ D : DataW Unit, w.ownsMap Try.prog 2 (plainElem Try.prog 2) b n D ∧ ∀ p, (Lit.int .i64 p).wf = true → Maps.has D (.int .i64 p) = decide (p ∈ R) ∧ D.atKey (.int .i64 p) (.lit (.int .i64 0)) = .lit (.int .i64 ((tab R v p).getD 0))

section

variable {w : World} {b n : Nat} {R : List Int} {v : Nat → Int} {p : Int}

theorem MapT.lt (h : MapT w b n R v) : b < w.heap.size := by obtain ⟨D, h1, _⟩ := h; exact h1.lt

theorem MapT.block {w' : World} (h : MapT w b n R v) (hb : w'.heap[b]? = w.heap[b]?) : MapT w' b n R v := by
  obtain ⟨D, ⟨es, clock, h1, h2⟩, h3⟩ := h
  exact ⟨D, ⟨es, clock, hb.trans h1, h2⟩, h3⟩

theorem MapT.below {w' : World} (h : MapT w b n R v) (hb : Below w.heap.size w w') : MapT w' b n R v := h.block (hb.block b h.lt)

theorem MapT.alloc (h : MapT w b n R v) (o : Obj) : MapT (w.alloc o) b n R v := h.below ((Below.refl _ _).alloc (Nat.le_refl _) o)

theorem MapT.drew (h : MapT w b n R v) : MapT w.drew b n R v := h.below (Below.refl _ _).drew

theorem MapT.grown {w' : World} {row : Option Nat} (h : MapT w b n R v) (hg : w.grownBy w' row) (hne : row ≠ some b) : MapT w' b n R v := h.block (hg.block b h.lt (fun e => hne e.symm))

theorem MapT.set (h : MapT w b n R v) {p : Addr} (hp : b ≠ p.block) (u : Value) : MapT (w.setCell p u) b n R v := h.block (Below.heap_setCell _ _ _ b hp)

end

/-- A row of objects is read. -/
theorem rowG_GV {w : World} {base : Nat} {v : Value} {M : List GM} (h : w.ownsRow base 205 6 v M.length (rowG M)) (hf : ∀ t ∈ M, Src w t.a t.n t.f) : ∃ a c, v = .slice a M.length c ∧ GV w a M.length (gT M) := by
  rcases Nat.eq_zero_or_pos M.length with h0 | hp
  · rcases h.2 with ⟨h1, h2⟩ | ⟨g, cap, cur, h1, _⟩
    · exact ⟨none, 0, by rw [h1, h2], .inl h0⟩
    · exact ⟨_, _, h1, .inl h0⟩
  · obtain ⟨g, cap, rfl, hb, hlt⟩ := h.form hp
    have hce : ∀ i t, M[i]? = some t → ∀ j u, (gcells t)[j]? = some u → w.cell? ⟨g, i * 6 + j, none⟩ = some u := fun i t ht j u hu => by
      have hi : i < M.length := (List.getElem?_eq_some_iff.mp ht).1
      have hj : j < 6 := by
        have := (List.getElem?_eq_some_iff.mp hu).1
        simpa [gcells] using this
      have hc := h.cellAt (i * 6 + j) (by omega)
      rw [rowG_get M i t ht j hj, hu] at hc
      simpa using hc
    refine ⟨_, _, rfl, .inr ⟨g, 0, rfl, hlt, fun i hi => ?_, fun i hi => ?_⟩⟩
    · have ht := List.getElem?_eq_getElem hi
      rw [gT_at ht, Nat.zero_add]
      exact ⟨hce i _ ht 0 _ rfl, hce i _ ht 1 _ rfl, hce i _ ht 2 _ rfl, hce i _ ht 3 _ rfl, hce i _ ht 4 _ rfl, hce i _ ht 5 _ rfl⟩
    · rw [gT_at (List.getElem?_eq_getElem hi)]
      exact hf _ (List.getElem_mem hi)
end Go.Proofs.Ytpmhbdiddcnhfaa

namespace Go.Proofs.Ytpmhbdiddcnhfaa
open Go.RowKit Go.Maps
set_option linter.unusedVariables false

/-- What is reached so far, as the program has it: in the block rb, with the map mb and the row v. -/
structure RS (w : World) (base rb mb : Nat) (v : Value) (M : List GM) (f : Nat → Int) (L : List Ob) (O : List Int) : Prop where
  blk : Blk w rb [.int .i64 0, v, .map (some mb)]
  hrb : base ≤ rb
  hmb : base ≤ mb
  hne : mb ≠ rb
  vr : v.ownBlock ≠ some rb
  vm : v.ownBlock ≠ some mb
  row : w.ownsRow base 205 6 v M.length (rowG M)
  map : MapT w mb O.length O (fun i => (i : Int))
  len : M.length = O.length
  src : ∀ t ∈ M, Src w t.a t.n t.f ∧ (t.n = 0 ∨ t.g + 1 < base)
  same : ∀ i t, M[i]? = some t → ∃ x, findO L (lf O i) = some x ∧ GSame t (obG f x)

section

variable {w w' : World} {base rb mb : Nat} {v : Value} {M : List GM} {f : Nat → Int} {L : List Ob} {O : List Int}

theorem RS.below (h : RS w base rb mb v M f L O) (hb : Below w.heap.size w w') : RS w' base rb mb v M f L O :=
  ⟨h.blk.below hb, h.hrb, h.hmb, h.hne, h.vr, h.vm, ownsRow_below h.row hb, h.map.below hb, h.len, fun t ht => ⟨(h.src t ht).1.below hb, (h.src t ht).2⟩, h.same⟩

theorem RS.set (h : RS w base rb mb v M f L O) {p : Addr} (hp : p.block + 1 = base) (u : Value) : RS (w.setCell p u) base rb mb v M f L O := by
  have h1 := h.hrb; have h2 := h.hmb
  refine ⟨h.blk.other (by omega) _, h.hrb, h.hmb, h.hne, h.vr, h.vm, row_set h.row (by omega) _, h.map.set (by omega) _, h.len, fun t ht => ⟨?_, (h.src t ht).2⟩, h.same⟩
  obtain ⟨h3, h4⟩ := h.src t ht
  rcases h3 with h0 | ⟨b, o, e1, h5, h6⟩
  · exact .inl h0
  · rcases h4 with h0 | h4
    · exact .inl h0
    · have : t.g = b := (by simp [GM.g, e1])
      exact .inr ⟨b, o, e1, by simpa using h5, fun i hi => (World.cell?_of_block (w := w) (a := ⟨b, o + i, none⟩) (Below.heap_setCell _ _ _ b (by omega))).trans (h6 i hi)⟩

theorem RS.out (h : RS w base rb mb v M f L O) : ∃ a c, v = .slice a M.length c ∧ GV w a M.length (gT M) := rowG_GV h.row (fun t ht => (h.src t ht).1)

end
end Go.Proofs.Ytpmhbdiddcnhfaa

namespace Go.Proofs.Ytpmhbdiddcnhfaa
open Go.RowKit Go.Maps
set_option linter.unusedVariables false

/-- What is known of the objects of an arena without a fault, as the program reads them. -/
structure Shaped (w : World) (a : Option Addr) (T : Nat → GM) (f : Nat → Int) (L : List Ob) : Prop where
  gv : GV w a L.length T
  same : ∀ i, i < L.length → GSame (T i) (obT f L i)
  sort : ∀ i j, i < j → j < L.length → (T i).at_ < (T j).at_
  right : Right f L
  len : L.length ≤ 400
  place : ∀ x ∈ L, 0 ≤ x.at_ ∧ x.at_ ≤ 1000000
  word : ∀ x ∈ L, ∀ k, k < x.s.toNat → -1000000000 ≤ f (x.at_.toNat + 2 + k) ∧ f (x.at_.toNat + 2 + k) ≤ 1000000000

section

variable {w w' : World} {a : Option Addr} {T : Nat → GM} {f : Nat → Int} {L : List Ob}

theorem Shaped.below (h : Shaped w a T f L) (hb : Below w.heap.size w w') : Shaped w' a T f L := ⟨h.gv.below hb, h.same, h.sort, h.right, h.len, h.place, h.word⟩

theorem Shaped.src (h : Shaped w a T f L) {i : Nat} (hi : i < L.length) : Src w (T i).a (T i).n (T i).f := by
  rcases h.gv with h0 | ⟨b, q, _, g⟩
  · omega
  · exact g.flds i hi

end
end Go.Proofs.Ytpmhbdiddcnhfaa

namespace Go.Proofs.Ytpmhbdiddcnhfaa
open Go.RowKit Go.Maps
set_option linter.unusedVariables false

/-- A block that holds no more than a code, an empty row and no map. -/
def Dead (w : World) (R : Nat) : Prop := ∃ t fr, w.heap[R]? = some (.cells #[.int .i64 0, .slice none 0 0, .map none] t fr)

theorem Dead.below {w w' : World} {R : Nat} (h : Dead w R) (hb : Below w.heap.size w w') : Dead w' R := by
  obtain ⟨t, fr, h1⟩ := h
  exact ⟨t, fr, (hb.block R (Array.getElem?_eq_some_iff.1 h1).1).trans h1⟩
end Go.Proofs.Ytpmhbdiddcnhfaa

namespace Go.Proofs.Ytpmhbdiddcnhfaa
open Go.RowKit Go.Maps
set_option linter.unusedVariables false

/-- What the closure reads. -/
structure Cap (w : World) (rb mb nn : Nat) (v : Value) (O : List Int) : Prop where
  blk : Blk w rb [.int .i64 0, v, .map (some mb)]
  map : MapT w mb nn O (fun i => (i : Int))

theorem Cap.below {w w' : World} {rb mb nn : Nat} {v : Value} {O : List Int} (h : Cap w rb mb nn v O) (hb : Below w.heap.size w w') : Cap w' rb mb nn v O := ⟨h.blk.below hb, h.map.below hb⟩
end Go.Proofs.Ytpmhbdiddcnhfaa

namespace Go.Proofs.Ytpmhbdiddcnhfaa
open Go.RowKit Go.Maps
set_option linter.unusedVariables false

/-- A row of objects that may be written. -/
structure RW (w : World) (b q N : Nat) (V : Nat → GM) : Prop where
  lt : b < w.heap.size
  six : ∀ k, k < N → SixG w b (q + k * 6) (V k)
  free : ∀ k, k < N → SixF w b (q + k * 6)
  flds : ∀ k, k < N → Src w (V k).a (V k).n (V k).f
  off : ∀ k, k < N → (V k).n = 0 ∨ (V k).g ≠ b

theorem RW.below {w w' : World} {b q N : Nat} {V : Nat → GM} (h : RW w b q N V) (hb : Below w.heap.size w w') : RW w' b q N V :=
  ⟨Nat.lt_of_lt_of_le h.lt hb.size, fun k hk => (h.six k hk).below hb h.lt, fun k hk => (h.free k hk).below hb h.lt, fun k hk => (h.flds k hk).below hb, h.off⟩

theorem src_six {w : World} {b o : Nat} {t u : GM} (h : Src w u.a u.n u.f) (hb : u.n = 0 ∨ u.g ≠ b) : Src (sixW w b o t) u.a u.n u.f := by
  rcases h with h0 | ⟨b', o', e, h1, h2⟩
  · exact .inl h0
  · rcases hb with h0 | hb
    · exact .inl h0
    · have hg : u.g = b' := by simp [GM.g, e]
      have hk := (sixW_keeps w b o t).block b' h1 (by omega)
      exact .inr ⟨b', o', e, Nat.lt_of_lt_of_le h1 (sixW_keeps w b o t).size, fun i hi => (World.cell?_of_block (w := w) (a := ⟨b', o' + i, none⟩) hk).trans (h2 i hi)⟩

theorem sixF_six {w : World} {b o o' : Nat} {t : GM} (h : SixF w b o) : SixF (sixW w b o' t) b o :=
  ⟨(sixW_frozen _ _ _ _ _).trans h.1, (sixW_frozen _ _ _ _ _).trans h.2.1, (sixW_frozen _ _ _ _ _).trans h.2.2.1, (sixW_frozen _ _ _ _ _).trans h.2.2.2.1, (sixW_frozen _ _ _ _ _).trans h.2.2.2.2.1, (sixW_frozen _ _ _ _ _).trans h.2.2.2.2.2⟩

theorem RW.set {w : World} {b q N i : Nat} {V : Nat → GM} {t : GM} (h : RW w b q N V) (hi : i < N) (hs : Src w t.a t.n t.f) (ho : t.n = 0 ∨ t.g ≠ b) : RW (sixW w b (q + i * 6) t) b q N (fun k => if k = i then t else V k) := by
  refine ⟨Nat.lt_of_lt_of_le h.lt (sixW_keeps w b _ t).size, fun k hk => ?_, fun k hk => sixF_six (h.free k hk), fun k hk => ?_, fun k hk => ?_⟩
  · by_cases e : k = i
    · subst e; rw [if_pos rfl]; exact sixW_at (h.six k hk) t
    · rw [if_neg e]; exact sixW_other (h.six k hk) (by omega) t
  · by_cases e : k = i
    · rw [if_pos e]; exact src_six hs ho
    · rw [if_neg e]; exact src_six (h.flds k hk) (h.off k hk)
  · by_cases e : k = i
    · rw [if_pos e]; exact ho
    · rw [if_neg e]; exact h.off k hk
end Go.Proofs.Ytpmhbdiddcnhfaa

namespace Go.Proofs.Ytpmhbdiddcnhfaa
open Go.RowKit Go.Maps
set_option linter.unusedVariables false

theorem RW.has {w : World} {b q N : Nat} {V : Nat → GM} (h : RW w b q N V) (o : Nat) (ho : o < N * 6) : (w.cell? ⟨b, q + o, none⟩).isSome = true ∧ w.frozen? ⟨b, q + o, none⟩ = false := by
  obtain ⟨k, r, hr, e⟩ : ∃ k r, r < 6 ∧ o = k * 6 + r := ⟨o / 6, o % 6, Nat.mod_lt _ (by omega), by omega⟩
  subst e
  have hk : k < N := by omega
  obtain ⟨x0, x1, x2, x3, x4, x5⟩ := h.six k hk
  obtain ⟨g0, g1, g2, g3, g4, g5⟩ := h.free k hk
  rw [← Nat.add_assoc]
  match r, hr with
  | 0, _ => exact ⟨by rw [Nat.add_zero, x0]; rfl, g0⟩
  | 1, _ => exact ⟨by rw [x1]; rfl, g1⟩
  | 2, _ => exact ⟨by rw [x2]; rfl, g2⟩
  | 3, _ => exact ⟨by rw [x3]; rfl, g3⟩
  | 4, _ => exact ⟨by rw [x4]; rfl, g4⟩
  | 5, _ => exact ⟨by rw [x5]; rfl, g5⟩
end Go.Proofs.Ytpmhbdiddcnhfaa

namespace Go.Proofs.Ytpmhbdiddcnhfaa
open Go.RowKit Go.Maps
set_option linter.unusedVariables false

theorem keeps_grown {w w' : World} {b : Nat} (h : Keeps w w' b (b + 1)) : w.grownBy w' (some b) :=
  ⟨h.os, h.tape, h.output, h.size, fun k hk hne => h.block k hk (by rcases Nat.lt_trichotomy k b with h1 | h1 | h1; exact .inl h1; exact absurd (by rw [h1]) hne; exact .inr (by omega))⟩
end Go.Proofs.Ytpmhbdiddcnhfaa

namespace Go.Proofs.Ytpmhbdiddcnhfaa
open Go.RowKit Go.Maps
set_option linter.unusedVariables false

/-- What is carried through the draw: the source, the bytes, the arena, the answer's block, the arena's words, the roots. -/
structure DS (W w : World) (ca : Option Addr) (k kc : Nat) (B : Nat → Int) (t P : Nat) (h ac bu : Int) (a : Option Addr) (n c : Nat) (f : Nat → Int) (u : Value) (l : List Int) : Prop where
  bel : Below W.heap.size W w
  src : Blk w (W.heap.size + 1) [.slice ca k kc, .int .i64 (t : Int)]
  byt : SrcB w (W.heap.size + 1) ca k B
  arn : Blk w P [.int .i64 h, .slice a n c, .int .i64 ac, .int .i64 bu]
  res : Blk w W.heap.size [.int .i64 0, .slice none 0 0, .int .i64 0, .int .i64 0]
  wrd : OwnIn w (W.heap.size + 2) P a n f
  row : w.ownsRow (P + 1) 2 1 u l.length (nums l.length (lf l))
  hP : W.heap.size + 2 ≤ P

theorem DS.below {W w w' : World} {ca : Option Addr} {k kc t P : Nat} {B f : Nat → Int} {h ac bu : Int} {a : Option Addr} {n c : Nat} {u : Value} {l : List Int} (d : DS W w ca k kc B t P h ac bu a n c f u l) (hb : Below w.heap.size w w') : DS W w' ca k kc B t P h ac bu a n c f u l :=
  ⟨d.bel.trans (hb.mono d.bel.size), d.src.below hb, d.byt.below hb, d.arn.below hb, d.res.below hb, d.wrd.below hb, ownsRow_below d.row hb, d.hP⟩

theorem DS.append {W w w' : World} {o : Obj} {ca : Option Addr} {k kc t P : Nat} {B f : Nat → Int} {h ac bu : Int} {a : Option Addr} {n c : Nat} {u u' : Value} {l l' : List Int} (d : DS W w ca k kc B t P h ac bu a n c f u l) (hg : (w.alloc o).grownBy w' u.ownBlock) (hr : w'.ownsRow (P + 1) 2 1 u' l'.length (nums l'.length (lf l'))) : DS W w' ca k kc B t P h ac bu a n c f u' l' := by
  have hP := d.hP
  have hPw := d.arn.1
  have hz : w.heap.size ≤ w'.heap.size := by have := hg.size; simp at this; omega
  have hk : Keeps w w' (P + 1) w'.heap.size := ⟨hg.os, hg.tape, hg.output, hz, fun q hq hd => by
    rcases hd with hd | hd
    · exact (hg.block q (by simp; omega) (fun e => by have := (d.row.lt q e.symm).1; omega)).trans (Below.heap_alloc _ _ _ hq)
    · omega⟩
  exact ⟨d.bel.trans (hk.below (by omega) d.bel.size), d.src.keeps hk (.inl (by omega)), d.byt.keeps hk (by omega), d.arn.keeps hk (.inl (by omega)), d.res.keeps hk (.inl (by omega)), d.wrd.keeps hk (.inl (by omega)), hr, d.hP⟩
end Go.Proofs.Ytpmhbdiddcnhfaa

namespace Go.Proofs.Ytpmhbdiddcnhfaa
open Go.RowKit Go.Maps
set_option linter.unusedVariables false

/-- What the law of what is reached has at hand. -/
structure LR (W w : World) (P P5 P6 P7 : Nat) (h ac bu : Int) (a : Option Addr) (n c : Nat) (f : Nat → Int) (ra : Option Addr) (l : List Int) (co : Int) (R : List Int) (ua : Option Addr) (uc : Nat) (G : List Int) (ga : Option Addr) (gc : Nat) (wv : Int) : Prop where
  bel : Below W.heap.size W w
  arn : Blk w P [.int .i64 h, .slice a n c, .int .i64 ac, .int .i64 bu]
  wrd : Src w a n f
  rts : Src w ra l.length (lf l)
  rb : Blk w P5 [.int .i64 co, .slice ua R.length uc]
  rl : Src w ua R.length (lf R)
  gb : Blk w P6 [.int .i64 co, .slice ga G.length gc]
  gl : Src w ga G.length (lf G)
  wb : Blk w P7 [.int .i64 co, .int .i64 wv]

section

variable {W w w' : World} {P P5 P6 P7 : Nat} {h ac bu : Int} {a : Option Addr} {n c : Nat} {f : Nat → Int} {ra : Option Addr} {l : List Int} {co : Int} {R : List Int} {ua : Option Addr} {uc : Nat} {G : List Int} {ga : Option Addr} {gc : Nat} {wv : Int}

theorem LR.below (d : LR W w P P5 P6 P7 h ac bu a n c f ra l co R ua uc G ga gc wv) (hb : Below w.heap.size w w') : LR W w' P P5 P6 P7 h ac bu a n c f ra l co R ua uc G ga gc wv :=
  ⟨d.bel.trans (hb.mono d.bel.size), d.arn.below hb, d.wrd.below hb, d.rts.below hb, d.rb.below hb, d.rl.below hb, d.gb.below hb, d.gl.below hb, d.wb.below hb⟩

theorem LR.drew (d : LR W w P P5 P6 P7 h ac bu a n c f ra l co R ua uc G ga gc wv) : LR W w.drew P P5 P6 P7 h ac bu a n c f ra l co R ua uc G ga gc wv := d.below (Below.refl _ _).drew

end
end Go.Proofs.Ytpmhbdiddcnhfaa

namespace Go.Proofs.Ytpmhbdiddcnhfaa
open Go.RowKit
set_option linter.unusedVariables false

/-- The word of number d of an object, behind a collection. -/
def colAt (f : Nat → Int) (R : List Int) (P : Nat) (X : List Ob) (x : Ob) (d : Nat) : Int := if d = 0 then packO x else if d = 1 then x.h else mapF f R (newPlaces P X) x (d - 2)

/-- The words of a set are so; beside the objects there is nothing. -/
structure ColOn (f : Nat → Int) (R : List Int) (P : Nat) (X : List Ob) (D : Nat → Nat → Prop) (g : Nat → Int) : Prop where
  on : ∀ j (hj : j < X.length) d, D j d → d < wordsO X[j] → g (placeAt P X j + d) = colAt f R P X X[j] d
  rest : ∀ i, ¬ (P ≤ i ∧ i < P + totO X) → g i = 0

theorem placeAt_mono (P : Nat) (X : List Ob) {i j : Nat} (h : i ≤ j) (hj : j ≤ X.length) : placeAt P X i ≤ placeAt P X j := by
  rcases Nat.lt_or_eq_of_le h with h1 | rfl
  · have := placeAt_lt P X i j h1 hj; omega
  · exact Nat.le_refl _

theorem placeAt_next (P : Nat) (X : List Ob) {i j : Nat} (h : i < j) (hj : j < X.length) : placeAt P X i + wordsO (X[i]'(by omega)) ≤ placeAt P X j := by
  rw [← placeAt_step P X (show i < X.length by omega)]
  exact placeAt_mono P X h (by omega)

theorem place_apart {P : Nat} {X : List Ob} {i j d e : Nat} (hi : i < X.length) (hj : j < X.length) (hd : d < wordsO X[i]) (he : e < wordsO X[j]) (h : placeAt P X i + d = placeAt P X j + e) : i = j ∧ d = e := by
  rcases Nat.lt_trichotomy i j with h1 | rfl | h1
  · have := placeAt_next P X h1 hj; omega
  · exact ⟨rfl, by omega⟩
  · have := placeAt_next P X h1 hi; omega

theorem placeAt_ge (P : Nat) (X : List Ob) (i : Nat) : P ≤ placeAt P X i := by unfold placeAt; omega

section

variable {f g : Nat → Int} {R : List Int} {P : Nat} {X : List Ob} {D E : Nat → Nat → Prop} {i d : Nat}

theorem ColOn.set (h : ColOn f R P X D g) (hi : i < X.length) (hd : d < wordsO X[i]) {v : Int} (hv : v = colAt f R P X X[i] d) : ColOn f R P X (fun j e => D j e ∨ (j = i ∧ e = d)) (upd g (placeAt P X i + d) v) := by
  refine ⟨fun j hj e h1 h2 => ?_, fun k hk => ?_⟩
  · unfold upd
    by_cases he : placeAt P X j + e = placeAt P X i + d
    · obtain ⟨rfl, rfl⟩ := place_apart hj hi h2 hd he
      rw [if_pos rfl, hv]
    · rw [if_neg he]
      rcases h1 with h1 | ⟨rfl, rfl⟩
      · exact h.on j hj e h1 h2
      · exact absurd rfl he
  · unfold upd
    have := placeAt_end P X hi
    have := placeAt_ge P X i
    rw [if_neg (by omega)]
    exact h.rest k hk

theorem ColOn.put (h : ColOn f R P X D g) (hi : i < X.length) (hd : d < wordsO X[i]) {K : Nat} (hK : K = placeAt P X i + d) {v : Int} (hv : v = colAt f R P X X[i] d) : ColOn f R P X (fun j e => D j e ∨ (j = i ∧ e = d)) (upd g K v) := by rw [hK]; exact h.set hi hd hv

theorem ColOn.congr {g' : Nat → Int} (h : ColOn f R P X D g) (e : ∀ k, g' k = g k) : ColOn f R P X D g' := ⟨fun j hj d h1 h2 => (e _).trans (h.on j hj d h1 h2), fun i hi => (e i).trans (h.rest i hi)⟩

end
end Go.Proofs.Ytpmhbdiddcnhfaa

namespace Go.Proofs.Ytpmhbdiddcnhfaa
open Go.RowKit
set_option linter.unusedVariables false

/-- A head lies amid a block. -/
structure HdAt (w : World) (d q : Nat) (s m o h : Int) : Prop where
  lt : d < w.heap.size
  c0 : w.cell? ⟨d, q, none⟩ = some (.int .i64 s)
  c1 : w.cell? ⟨d, q + 1, none⟩ = some (.int .i64 m)
  c2 : w.cell? ⟨d, q + 2, none⟩ = some (.int .i64 o)
  c3 : w.cell? ⟨d, q + 3, none⟩ = some (.int .i64 h)

theorem HdAt.block {w w' : World} {d q : Nat} {s m o h : Int} (x : HdAt w d q s m o h) (e : w'.heap[d]? = w.heap[d]?) (z : w.heap.size ≤ w'.heap.size) : HdAt w' d q s m o h :=
  ⟨Nat.lt_of_lt_of_le x.lt z, (World.cell?_of_block (a := ⟨d, q, none⟩) e).trans x.c0, (World.cell?_of_block (a := ⟨d, q + 1, none⟩) e).trans x.c1, (World.cell?_of_block (a := ⟨d, q + 2, none⟩) e).trans x.c2, (World.cell?_of_block (a := ⟨d, q + 3, none⟩) e).trans x.c3⟩

theorem HdAt.below {w w' : World} {d q : Nat} {s m o h : Int} (x : HdAt w d q s m o h) (hb : Below w.heap.size w w') : HdAt w' d q s m o h := x.block (hb.block d x.lt) hb.size

theorem HdAt.drew {w : World} {d q : Nat} {s m o h : Int} (x : HdAt w d q s m o h) : HdAt w.drew d q s m o h := x.below (Below.refl _ _).drew

theorem HdAt.alloc {w : World} {d q : Nat} {s m o h : Int} (x : HdAt w d q s m o h) (ob : Obj) : HdAt (w.alloc ob) d q s m o h := x.below ((Below.refl _ _).alloc (Nat.le_refl _) ob)
end Go.Proofs.Ytpmhbdiddcnhfaa

namespace Go.Proofs.Ytpmhbdiddcnhfaa
open Go.RowKit Go.Maps
set_option linter.unusedVariables false

/-- Where a field leads, once all stands where a table says. -/
def mvF (R : List Int) (v : Nat → Int) (t : GM) (k : Nat) : Int := if t.m / P2 (k : Int) % 2 = 1 ∧ ¬ t.f k = 0 then (tab R v (t.f k - 1)).getD 0 + 1 else t.f k

def mvT (R : List Int) (v : Nat → Int) (t : GM) : GM := ⟨(tab R v t.at_).getD 0, t.s, t.m, t.o, t.h, none, t.n, 0, mvF R v t⟩
end Go.Proofs.Ytpmhbdiddcnhfaa

namespace Go.Proofs.Ytpmhbdiddcnhfaa
open Go.RowKit Go.Maps
set_option linter.unusedVariables false

/-- A list of objects that stand where a table says, while it is made. -/
structure ML (w : World) (base : Nat) (u : Value) (M : List GM) (R : List Int) (v : Nat → Int) (T : Nat → GM) : Prop where
  row : w.ownsRow base 205 6 u M.length (rowG M)
  src : ∀ t ∈ M, Src w t.a t.n t.f ∧ (t.n = 0 ∨ u.ownBlock ≠ some t.g)
  far : ∀ t ∈ M, t.n = 0 ∨ base ≤ t.g
  same : ∀ i t, M[i]? = some t → GSame t (mvT R v (T i))

theorem ML.below {w w' : World} {base : Nat} {u : Value} {M : List GM} {R : List Int} {v : Nat → Int} {T : Nat → GM} (h : ML w base u M R v T) (hb : Below w.heap.size w w') : ML w' base u M R v T := ⟨ownsRow_below h.row hb, fun t ht => ⟨(h.src t ht).1.below hb, (h.src t ht).2⟩, h.far, h.same⟩

/-- A row of objects in blocks from a place on. -/
def GVB (w : World) (base : Nat) (a : Option Addr) (N : Nat) (T : Nat → GM) : Prop := N = 0 ∨ ∃ b q, a = some ⟨b, q, none⟩ ∧ base ≤ b ∧ GSrc w b q N T ∧ ∀ i, i < N → (T i).n = 0 ∨ base ≤ (T i).g

theorem GVB.keeps {w w' : World} {base lo hi : Nat} {a : Option Addr} {N : Nat} {T : Nat → GM} (h : GVB w base a N T) (hk : Keeps w w' lo hi) (hb : hi ≤ base) : GVB w' base a N T := by
  rcases h with h | ⟨b, q, h1, h2, h3, h4⟩
  · exact .inl h
  · exact .inr ⟨b, q, h1, h2, h3.keeps hk (.inr (by omega)) (fun i hi => by rcases h4 i hi with h5 | h5; exact .inl h5; exact .inr (.inr (by omega))), h4⟩

theorem GVB.below {w w' : World} {base : Nat} {a : Option Addr} {N : Nat} {T : Nat → GM} (h : GVB w base a N T) (hb : Below w.heap.size w w') : GVB w' base a N T := by
  rcases h with h | ⟨b, q, h1, h2, h3, h4⟩
  · exact .inl h
  · exact .inr ⟨b, q, h1, h2, h3.below hb, h4⟩
end Go.Proofs.Ytpmhbdiddcnhfaa

namespace Go.Proofs.Ytpmhbdiddcnhfaa
open Go.RowKit
set_option linter.unusedVariables false

theorem row_keeps {w w' : World} {base e size n lo hi : Nat} {v : Value} {xs : List Value} (h : w.ownsRow base e size v n xs) (hk : Keeps w w' lo hi) (hb : hi ≤ base) : w'.ownsRow base e size v n xs := by
  refine ⟨h.1, ?_⟩
  rcases h.2 with h0 | ⟨g, cap, cur, e1, e2, e3, e4⟩
  · exact .inl h0
  · exact .inr ⟨g, cap, cur, e1, e2, (hk.block g (Array.getElem?_eq_some_iff.mp e3).1 (.inr (by omega))).trans e3, e4⟩

/-- What lies in memory while the model collects. -/
structure CS (W w : World) (b : Nat) (g q : Nat) (h ac U : Int) (n c : Nat) (u : Value) (l : List Int) (G : Nat → Int) : Prop where
  bel : Below W.heap.size W w
  arn : Blk w b [.int .i64 h, .slice (some ⟨g, q, none⟩) n c, .int .i64 ac, .int .i64 U]
  wrd : OwnIn w W.heap.size (b + 1) (some ⟨g, q, none⟩) n G
  row : w.ownsRow (b + 1) 2 1 u l.length (nums l.length (lf l))

section

variable {W w w' : World} {b g q : Nat} {h ac U : Int} {n c : Nat} {u : Value} {l : List Int} {G : Nat → Int}

theorem CS.below (d : CS W w b g q h ac U n c u l G) (hb : Below w.heap.size w w') : CS W w' b g q h ac U n c u l G := ⟨d.bel.trans (hb.mono d.bel.size), d.arn.below hb, d.wrd.below hb, ownsRow_below d.row hb⟩

theorem CS.put (d : CS W w b g q h ac U n c u l G) {U' : Int} {G' : Nat → Int} (hW : W.heap.size ≤ b) (hk : Keeps w w' W.heap.size (b + 1)) (hA : Blk w' b [.int .i64 h, .slice (some ⟨g, q, none⟩) n c, .int .i64 ac, .int .i64 U']) (ho : OwnIn w' W.heap.size (b + 1) (some ⟨g, q, none⟩) n G') : CS W w' b g q h ac U' n c u l G' :=
  ⟨d.bel.trans (hk.below (Nat.le_refl _) d.bel.size), hA, ho, row_keeps d.row hk (Nat.le_refl _)⟩

theorem CS.append (d : CS W w b g q h ac U n c u l G) {o : Obj} {u' : Value} {l' : List Int} (hW : W.heap.size ≤ b) (hg : (w.alloc o).grownBy w' u.ownBlock) (hr : w'.ownsRow (b + 1) 2 1 u' l'.length (nums l'.length (lf l'))) : CS W w' b g q h ac U n c u' l' G := by
  have hPw := d.arn.1
  have hz : w.heap.size ≤ w'.heap.size := by have := hg.size; simp at this; omega
  have hk : Keeps w w' (b + 1) w'.heap.size := ⟨hg.os, hg.tape, hg.output, hz, fun q hq hd => by
    rcases hd with hd | hd
    · exact (hg.block q (by simp; omega) (fun e => by have := (d.row.lt q e.symm).1; omega)).trans (Below.heap_alloc _ _ _ hq)
    · omega⟩
  exact ⟨d.bel.trans (hk.below (by omega) d.bel.size), d.arn.keeps hk (.inl (by omega)), d.wrd.keeps hk (.inl (by omega)), hr⟩

end
end Go.Proofs.Ytpmhbdiddcnhfaa

namespace Go.Proofs.Ytpmhbdiddcnhfaa
open Go.RowKit Go.Maps
set_option linter.unusedVariables false

/-- The words while the program collects. -/
structure PW (W w : World) (g q n : Nat) (G : Nat → Int) : Prop where
  kp : Keeps W w g (g + 1)
  wrd : OwnIn w g (g + 1) (some ⟨g, q, none⟩) n G

theorem PW.below {W w w' : World} {g q n : Nat} {G : Nat → Int} (d : PW W w g q n G) (hb : Below w.heap.size w w') : PW W w' g q n G := ⟨d.kp.trans (keeps_of_below hb g (g + 1)), d.wrd.below hb⟩

theorem MapT.keeps {w w' : World} {b n lo hi : Nat} {R : List Int} {v : Nat → Int} (h : MapT w b n R v) (hk : Keeps w w' lo hi) (hd : b < lo ∨ hi ≤ b) : MapT w' b n R v := h.block (hk.block b h.lt hd)
end Go.Proofs.Ytpmhbdiddcnhfaa

namespace Go.Proofs.Ytpmhbdiddcnhfaa
open Go.RowKit Go.Maps
set_option linter.unusedVariables false

def idV : Nat → Int := fun i => (i : Int)

/-- What lies of an object amid a list, for the comparison. -/
structure ObM (w : World) (g1 o g : Nat) (c : Nat) (f : Nat → Int) (x : Ob) : Prop where
  lt : g1 < w.heap.size
  c1 : w.cell? ⟨g1, o + 1, none⟩ = some (.int .i64 x.s)
  c2 : w.cell? ⟨g1, o + 2, none⟩ = some (.int .i64 x.m)
  c3 : w.cell? ⟨g1, o + 3, none⟩ = some (.int .i64 x.o)
  c4 : w.cell? ⟨g1, o + 4, none⟩ = some (.int .i64 x.h)
  c5 : w.cell? ⟨g1, o + 5, none⟩ = some (.slice (some ⟨g, 0, none⟩) x.s.toNat c)
  lg : g < w.heap.size
  fl : ∀ k, k < x.s.toNat → w.cell? ⟨g, k, none⟩ = some (.int .i64 (f (x.at_.toNat + 2 + k)))

theorem ObM.below {w w' : World} {g1 o g c : Nat} {f : Nat → Int} {x : Ob} (h : ObM w g1 o g c f x) (hb : Below w.heap.size w w') : ObM w' g1 o g c f x := by
  have hz := hb.size
  exact ⟨Nat.lt_of_lt_of_le h.lt hz, (hb.cell (p := ⟨g1, o + 1, none⟩) h.lt).trans h.c1, (hb.cell (p := ⟨g1, o + 2, none⟩) h.lt).trans h.c2, (hb.cell (p := ⟨g1, o + 3, none⟩) h.lt).trans h.c3, (hb.cell (p := ⟨g1, o + 4, none⟩) h.lt).trans h.c4, (hb.cell (p := ⟨g1, o + 5, none⟩) h.lt).trans h.c5, Nat.lt_of_lt_of_le h.lg hz, fun k hk => (hb.cell (p := ⟨g, k, none⟩) h.lg).trans (h.fl k hk)⟩
end Go.Proofs.Ytpmhbdiddcnhfaa

namespace Go.Proofs.Ytpmhbdiddcnhfaa
open Go.RowKit Go.Maps
set_option linter.unusedVariables false

/-- What is known of what was reached, where both codes are 0. -/
def InU2 (w : World) (z : Prop) (f : Nat → Int) (L : List Ob) (roots : List Int) (a : Option Addr) (N : Nat) (mv : Option Nat) : Prop :=
  z → N = (reachO f L roots).length ∧ ∃ mb T, mv = some mb ∧ GV w a (reachO f L roots).length T ∧ MapT w mb (reachO f L roots).length (reachO f L roots) idV ∧ ∀ i, i < (reachO f L roots).length → ∃ x, findO L (lf (reachO f L roots) i) = some x ∧ GSame (T i) (obG f x)

theorem InU2.below {w w' : World} {z : Prop} {f : Nat → Int} {L : List Ob} {roots : List Int} {a : Option Addr} {N : Nat} {mv : Option Nat} (h : InU2 w z f L roots a N mv) (hb : Below w.heap.size w w') : InU2 w' z f L roots a N mv := fun hz => by
  obtain ⟨h1, mb, T, h2, h3, h4, h5⟩ := h hz
  exact ⟨h1, mb, T, h2, h3.below hb, h4.below hb, h5⟩
end Go.Proofs.Ytpmhbdiddcnhfaa

namespace Go.Proofs.Ytpmhbdiddcnhfaa
open Go.RowKit Go.Maps
set_option linter.unusedVariables false

structure LA (W w : World) (P : Nat) (h ac bu : Int) (a : Option Addr) (n c : Nat) (f : Nat → Int) (ra : Option Addr) (l : List Int) (h' ac' bu' : Int) (a' : Option Addr) (n' c' : Nat) (f' : Nat → Int) (rb : Option Addr) (l' : List Int) : Prop where
  bel : Below W.heap.size W w
  ab : Blk w P [.int .i64 h, .slice a n c, .int .i64 ac, .int .i64 bu]
  bb : Blk w (P + 1) [.int .i64 h', .slice a' n' c', .int .i64 ac', .int .i64 bu']
  wa : Src w a n f
  ra : Src w ra l.length (lf l)
  wb : Src w a' n' f'
  rb : Src w rb l'.length (lf l')

section

variable {W w w' : World} {P : Nat} {h ac bu : Int} {a : Option Addr} {n c : Nat} {f : Nat → Int} {ra : Option Addr} {l : List Int} {h' ac' bu' : Int} {a' : Option Addr} {n' c' : Nat} {f' : Nat → Int} {rb : Option Addr} {l' : List Int}

theorem LA.below (d : LA W w P h ac bu a n c f ra l h' ac' bu' a' n' c' f' rb l') (hb : Below w.heap.size w w') : LA W w' P h ac bu a n c f ra l h' ac' bu' a' n' c' f' rb l' :=
  ⟨d.bel.trans (hb.mono d.bel.size), d.ab.below hb, d.bb.below hb, d.wa.below hb, d.ra.below hb, d.wb.below hb, d.rb.below hb⟩

theorem LA.drew (d : LA W w P h ac bu a n c f ra l h' ac' bu' a' n' c' f' rb l') : LA W w.drew P h ac bu a n c f ra l h' ac' bu' a' n' c' f' rb l' := d.below (Below.refl _ _).drew

end
end Go.Proofs.Ytpmhbdiddcnhfaa

namespace Go.Proofs.Ytpmhbdiddcnhfaa
open Go.RowKit
set_option linter.unusedVariables false

/-- A node in memory: as an object, with no owner. -/
def FivG (w : World) (b o : Nat) (t : GM) : Prop := w.cell? ⟨b, o, none⟩ = some (.int .i64 t.at_) ∧ w.cell? ⟨b, o + 1, none⟩ = some (.int .i64 t.s) ∧ w.cell? ⟨b, o + 2, none⟩ = some (.int .i64 t.m) ∧ w.cell? ⟨b, o + 3, none⟩ = some (.int .i64 t.h) ∧ w.cell? ⟨b, o + 4, none⟩ = some (.slice t.a t.n t.c)

def FivF (w : World) (b o : Nat) : Prop := w.frozen? ⟨b, o, none⟩ = false ∧ w.frozen? ⟨b, o + 1, none⟩ = false ∧ w.frozen? ⟨b, o + 2, none⟩ = false ∧ w.frozen? ⟨b, o + 3, none⟩ = false ∧ w.frozen? ⟨b, o + 4, none⟩ = false

theorem FivG.block {w w' : World} {b o : Nat} {t : GM} (h : FivG w b o t) (e : w'.heap[b]? = w.heap[b]?) : FivG w' b o t :=
  ⟨(World.cell?_of_block (w := w) (a := ⟨b, o, none⟩) e).trans h.1, (World.cell?_of_block (w := w) (a := ⟨b, o + 1, none⟩) e).trans h.2.1, (World.cell?_of_block (w := w) (a := ⟨b, o + 2, none⟩) e).trans h.2.2.1, (World.cell?_of_block (w := w) (a := ⟨b, o + 3, none⟩) e).trans h.2.2.2.1, (World.cell?_of_block (w := w) (a := ⟨b, o + 4, none⟩) e).trans h.2.2.2.2⟩

theorem FivF.block {w w' : World} {b o : Nat} (h : FivF w b o) (e : w'.heap[b]? = w.heap[b]?) : FivF w' b o :=
  ⟨(World.frozen?_of_block (w := w) (a := ⟨b, o, none⟩) e).trans h.1, (World.frozen?_of_block (w := w) (a := ⟨b, o + 1, none⟩) e).trans h.2.1, (World.frozen?_of_block (w := w) (a := ⟨b, o + 2, none⟩) e).trans h.2.2.1, (World.frozen?_of_block (w := w) (a := ⟨b, o + 3, none⟩) e).trans h.2.2.2.1, (World.frozen?_of_block (w := w) (a := ⟨b, o + 4, none⟩) e).trans h.2.2.2.2⟩

theorem FivG.below {w w' : World} {b o : Nat} {t : GM} (h : FivG w b o t) (hb : Below w.heap.size w w') (hl : b < w.heap.size) : FivG w' b o t := h.block (hb.block b hl)

theorem FivF.below {w w' : World} {b o : Nat} (h : FivF w b o) (hb : Below w.heap.size w w') (hl : b < w.heap.size) : FivF w' b o := h.block (hb.block b hl)

theorem FivG.keeps {w w' : World} {b o lo hi : Nat} {t : GM} (h : FivG w b o t) (hk : Keeps w w' lo hi) (hl : b < w.heap.size) (hd : b < lo ∨ hi ≤ b) : FivG w' b o t := h.block (hk.block b hl hd)

theorem FivF.keeps {w w' : World} {b o lo hi : Nat} (h : FivF w b o) (hk : Keeps w w' lo hi) (hl : b < w.heap.size) (hd : b < lo ∨ hi ≤ b) : FivF w' b o := h.block (hk.block b hl hd)

/-- A row of objects is read. -/
structure NSrc (w : World) (b q N : Nat) (T : Nat → GM) : Prop where
  lt : b < w.heap.size
  six : ∀ i, i < N → FivG w b (q + i * 5) (T i)
  flds : ∀ i, i < N → Src w (T i).a (T i).n (T i).f

/-- A row of objects of the call's own, in blocks from lo to hi. -/
structure NOwn (w : World) (lo hi b q N : Nat) (T : Nat → GM) : Prop where
  glo : lo ≤ b
  ghi : b < hi
  lt : b < w.heap.size
  six : ∀ i, i < N → FivG w b (q + i * 5) (T i)
  free : ∀ i, i < N → FivF w b (q + i * 5)
  flds : ∀ i, i < N → OwnIn w lo hi (T i).a (T i).n (T i).f
  off : ∀ i, i < N → (T i).n = 0 ∨ (T i).g ≠ b
  apart : ∀ i j, i < N → j < N → i ≠ j → (T i).n = 0 ∨ (T j).n = 0 ∨ (T i).g ≠ (T j).g

theorem NOwn.src {w : World} {lo hi b q N : Nat} {T : Nat → GM} (h : NOwn w lo hi b q N T) : NSrc w b q N T := ⟨h.lt, h.six, fun i hi => (h.flds i hi).src⟩

theorem NSrc.below {w w' : World} {b q N : Nat} {T : Nat → GM} (h : NSrc w b q N T) (hb : Below w.heap.size w w') : NSrc w' b q N T :=
  ⟨Nat.lt_of_lt_of_le h.lt hb.size, fun i hi => (h.six i hi).below hb h.lt, fun i hi => (h.flds i hi).below hb⟩

theorem NOwn.below {w w' : World} {lo hi b q N : Nat} {T : Nat → GM} (h : NOwn w lo hi b q N T) (hb : Below w.heap.size w w') : NOwn w' lo hi b q N T :=
  ⟨h.glo, h.ghi, Nat.lt_of_lt_of_le h.lt hb.size, fun i hi => (h.six i hi).below hb h.lt, fun i hi => (h.free i hi).below hb h.lt, fun i hi => (h.flds i hi).below hb, h.off, h.apart⟩

theorem NOwn.keeps {w w' : World} {lo hi lo' hi' b q N : Nat} {T : Nat → GM} (h : NOwn w lo hi b q N T) (hk : Keeps w w' lo' hi') (hd : hi ≤ lo' ∨ hi' ≤ lo) : NOwn w' lo hi b q N T := by
  have h1 := h.glo; have h2 := h.ghi
  exact ⟨h.glo, h.ghi, Nat.lt_of_lt_of_le h.lt hk.size, fun i hi => (h.six i hi).keeps hk h.lt (by omega), fun i hi => (h.free i hi).keeps hk h.lt (by omega), fun i hi => (h.flds i hi).keeps hk hd, h.off, h.apart⟩

theorem NSrc.keeps {w w' : World} {lo hi b q N : Nat} {T : Nat → GM} (h : NSrc w b q N T) (hk : Keeps w w' lo hi) (hd : b < lo ∨ hi ≤ b) (hf : ∀ i, i < N → (T i).n = 0 ∨ (T i).g < lo ∨ hi ≤ (T i).g) : NSrc w' b q N T := by
  refine ⟨Nat.lt_of_lt_of_le h.lt hk.size, fun i hi => (h.six i hi).keeps hk h.lt hd, fun i hi => ?_⟩
  rcases h.flds i hi with h0 | ⟨b', o', he, hl, hc⟩
  · exact .inl h0
  · rcases hf i hi with h0 | hf
    · exact .inl h0
    · have hg : (T i).g = b' := by simp [GM.g, he]
      have e := hk.block b' hl (by omega)
      exact .inr ⟨b', o', he, Nat.lt_of_lt_of_le hl hk.size, fun k hk' => (World.cell?_of_block (w := w) (a := ⟨b', o' + k, none⟩) e).trans (hc k hk')⟩

theorem NSrc.drew {w : World} {b q N : Nat} {T : Nat → GM} (h : NSrc w b q N T) : NSrc w.drew b q N T := h.below (Below.refl _ _).drew

theorem NSrc.alloc {w : World} {b q N : Nat} {T : Nat → GM} (h : NSrc w b q N T) (o : Obj) : NSrc (w.alloc o) b q N T := h.below ((Below.refl _ _).alloc (Nat.le_refl _) o)

theorem NOwn.drew {w : World} {lo hi b q N : Nat} {T : Nat → GM} (h : NOwn w lo hi b q N T) : NOwn w.drew lo hi b q N T := h.below (Below.refl _ _).drew

theorem NOwn.alloc {w : World} {lo hi b q N : Nat} {T : Nat → GM} (h : NOwn w lo hi b q N T) (o : Obj) : NOwn (w.alloc o) lo hi b q N T := h.below ((Below.refl _ _).alloc (Nat.le_refl _) o)

theorem NSrc.congr {w : World} {b q N : Nat} {T U : Nat → GM} (h : NSrc w b q N T) (e : ∀ i, i < N → T i = U i) : NSrc w b q N U :=
  ⟨h.lt, fun i hi => by rw [← e i hi]; exact h.six i hi, fun i hi => by rw [← e i hi]; exact h.flds i hi⟩

theorem NOwn.congr {w : World} {lo hi b q N : Nat} {T U : Nat → GM} (h : NOwn w lo hi b q N T) (e : ∀ i, i < N → T i = U i) : NOwn w lo hi b q N U :=
  ⟨h.glo, h.ghi, h.lt, fun i hi => by rw [← e i hi]; exact h.six i hi, h.free, fun i hi => by rw [← e i hi]; exact h.flds i hi, fun i hi => by rw [← e i hi]; exact h.off i hi, fun i j hi hj hij => by rw [← e i hi, ← e j hj]; exact h.apart i j hi hj hij⟩
end Go.Proofs.Ytpmhbdiddcnhfaa

namespace Go.Proofs.Ytpmhbdiddcnhfaa
open Go.RowKit
set_option linter.unusedVariables false

def NV (w : World) (a : Option Addr) (N : Nat) (T : Nat → GM) : Prop := N = 0 ∨ ∃ b q, a = some ⟨b, q, none⟩ ∧ NSrc w b q N T

def NVO (w : World) (lo hi : Nat) (a : Option Addr) (N : Nat) (T : Nat → GM) : Prop := N = 0 ∨ ∃ b q, a = some ⟨b, q, none⟩ ∧ NOwn w lo hi b q N T

theorem NVO.src {w : World} {lo hi N : Nat} {a : Option Addr} {T : Nat → GM} (h : NVO w lo hi a N T) : NV w a N T := by
  rcases h with h0 | ⟨b, q, e, h⟩
  · exact .inl h0
  · exact .inr ⟨b, q, e, h.src⟩

theorem NV.below {w w' : World} {a : Option Addr} {N : Nat} {T : Nat → GM} (h : NV w a N T) (hb : Below w.heap.size w w') : NV w' a N T := by
  rcases h with h0 | ⟨b, q, e, h⟩
  · exact .inl h0
  · exact .inr ⟨b, q, e, h.below hb⟩

theorem NVO.below {w w' : World} {lo hi N : Nat} {a : Option Addr} {T : Nat → GM} (h : NVO w lo hi a N T) (hb : Below w.heap.size w w') : NVO w' lo hi a N T := by
  rcases h with h0 | ⟨b, q, e, h⟩
  · exact .inl h0
  · exact .inr ⟨b, q, e, h.below hb⟩

theorem NVO.keeps {w w' : World} {lo hi lo' hi' N : Nat} {a : Option Addr} {T : Nat → GM} (h : NVO w lo hi a N T) (hk : Keeps w w' lo' hi') (hd : hi ≤ lo' ∨ hi' ≤ lo) : NVO w' lo hi a N T := by
  rcases h with h0 | ⟨b, q, e, h⟩
  · exact .inl h0
  · exact .inr ⟨b, q, e, h.keeps hk hd⟩

theorem NV.drew {w : World} {a : Option Addr} {N : Nat} {T : Nat → GM} (h : NV w a N T) : NV w.drew a N T := h.below (Below.refl _ _).drew

theorem NV.alloc {w : World} {a : Option Addr} {N : Nat} {T : Nat → GM} (h : NV w a N T) (o : Obj) : NV (w.alloc o) a N T := h.below ((Below.refl _ _).alloc (Nat.le_refl _) o)

theorem NVO.drew {w : World} {lo hi N : Nat} {a : Option Addr} {T : Nat → GM} (h : NVO w lo hi a N T) : NVO w.drew lo hi a N T := h.below (Below.refl _ _).drew

theorem NVO.alloc {w : World} {lo hi N : Nat} {a : Option Addr} {T : Nat → GM} (h : NVO w lo hi a N T) (o : Obj) : NVO (w.alloc o) lo hi a N T := h.below ((Below.refl _ _).alloc (Nat.le_refl _) o)
end Go.Proofs.Ytpmhbdiddcnhfaa

namespace Go.Proofs.Ytpmhbdiddcnhfaa
open Go.RowKit
set_option linter.unusedVariables false

/-- A slot in memory. -/
structure SL where
  g : Int
  nd : Int

def TwoG (w : World) (b o : Nat) (t : SL) : Prop := w.cell? ⟨b, o, none⟩ = some (.int .i64 t.g) ∧ w.cell? ⟨b, o + 1, none⟩ = some (.int .i64 t.nd)

def TwoF (w : World) (b o : Nat) : Prop := w.frozen? ⟨b, o, none⟩ = false ∧ w.frozen? ⟨b, o + 1, none⟩ = false

theorem TwoG.block {w w' : World} {b o : Nat} {t : SL} (h : TwoG w b o t) (e : w'.heap[b]? = w.heap[b]?) : TwoG w' b o t :=
  ⟨(World.cell?_of_block (w := w) (a := ⟨b, o, none⟩) e).trans h.1, (World.cell?_of_block (w := w) (a := ⟨b, o + 1, none⟩) e).trans h.2⟩

theorem TwoF.block {w w' : World} {b o : Nat} (h : TwoF w b o) (e : w'.heap[b]? = w.heap[b]?) : TwoF w' b o :=
  ⟨(World.frozen?_of_block (w := w) (a := ⟨b, o, none⟩) e).trans h.1, (World.frozen?_of_block (w := w) (a := ⟨b, o + 1, none⟩) e).trans h.2⟩

/-- A row of slots is read. -/
structure PSrc (w : World) (b q N : Nat) (T : Nat → SL) : Prop where
  lt : b < w.heap.size
  two : ∀ i, i < N → TwoG w b (q + i * 2) (T i)

/-- A row of slots of the call's own. -/
structure POwn (w : World) (lo hi b q N : Nat) (T : Nat → SL) : Prop where
  glo : lo ≤ b
  ghi : b < hi
  lt : b < w.heap.size
  two : ∀ i, i < N → TwoG w b (q + i * 2) (T i)
  free : ∀ i, i < N → TwoF w b (q + i * 2)

theorem POwn.src {w : World} {lo hi b q N : Nat} {T : Nat → SL} (h : POwn w lo hi b q N T) : PSrc w b q N T := ⟨h.lt, h.two⟩

theorem PSrc.below {w w' : World} {b q N : Nat} {T : Nat → SL} (h : PSrc w b q N T) (hb : Below w.heap.size w w') : PSrc w' b q N T :=
  ⟨Nat.lt_of_lt_of_le h.lt hb.size, fun i hi => (h.two i hi).block (hb.block b h.lt)⟩

theorem POwn.below {w w' : World} {lo hi b q N : Nat} {T : Nat → SL} (h : POwn w lo hi b q N T) (hb : Below w.heap.size w w') : POwn w' lo hi b q N T :=
  ⟨h.glo, h.ghi, Nat.lt_of_lt_of_le h.lt hb.size, fun i hi => (h.two i hi).block (hb.block b h.lt), fun i hi => (h.free i hi).block (hb.block b h.lt)⟩

theorem PSrc.keeps {w w' : World} {lo hi b q N : Nat} {T : Nat → SL} (h : PSrc w b q N T) (hk : Keeps w w' lo hi) (hd : b < lo ∨ hi ≤ b) : PSrc w' b q N T :=
  ⟨Nat.lt_of_lt_of_le h.lt hk.size, fun i hi => (h.two i hi).block (hk.block b h.lt hd)⟩

theorem POwn.keeps {w w' : World} {lo hi lo' hi' b q N : Nat} {T : Nat → SL} (h : POwn w lo hi b q N T) (hk : Keeps w w' lo' hi') (hd : hi ≤ lo' ∨ hi' ≤ lo) : POwn w' lo hi b q N T := by
  have h1 := h.glo; have h2 := h.ghi
  exact ⟨h.glo, h.ghi, Nat.lt_of_lt_of_le h.lt hk.size, fun i hi => (h.two i hi).block (hk.block b h.lt (by omega)), fun i hi => (h.free i hi).block (hk.block b h.lt (by omega))⟩

theorem POwn.congr {w : World} {lo hi b q N : Nat} {T U : Nat → SL} (h : POwn w lo hi b q N T) (e : ∀ i, i < N → T i = U i) : POwn w lo hi b q N U :=
  ⟨h.glo, h.ghi, h.lt, fun i hi => e i hi ▸ h.two i hi, h.free⟩

theorem PSrc.congr {w : World} {b q N : Nat} {T U : Nat → SL} (h : PSrc w b q N T) (e : ∀ i, i < N → T i = U i) : PSrc w b q N U :=
  ⟨h.lt, fun i hi => e i hi ▸ h.two i hi⟩

theorem POwn.widen {w : World} {lo hi lo' hi' b q N : Nat} {T : Nat → SL} (h : POwn w lo hi b q N T) (h1 : lo' ≤ lo) (h2 : hi ≤ hi') : POwn w lo' hi' b q N T :=
  ⟨Nat.le_trans h1 h.glo, Nat.lt_of_lt_of_le h.ghi h2, h.lt, h.two, h.free⟩

def PV (w : World) (a : Option Addr) (N : Nat) (T : Nat → SL) : Prop := N = 0 ∨ ∃ b q, a = some ⟨b, q, none⟩ ∧ PSrc w b q N T

def PVO (w : World) (lo hi : Nat) (a : Option Addr) (N : Nat) (T : Nat → SL) : Prop := N = 0 ∨ ∃ b q, a = some ⟨b, q, none⟩ ∧ POwn w lo hi b q N T

theorem PVO.src {w : World} {lo hi N : Nat} {a : Option Addr} {T : Nat → SL} (h : PVO w lo hi a N T) : PV w a N T := by
  rcases h with h0 | ⟨b, q, ha, h⟩
  · exact .inl h0
  · exact .inr ⟨b, q, ha, h.src⟩

theorem PV.below {w w' : World} {N : Nat} {a : Option Addr} {T : Nat → SL} (h : PV w a N T) (hb : Below w.heap.size w w') : PV w' a N T := by
  rcases h with h0 | ⟨b, q, ha, h⟩
  · exact .inl h0
  · exact .inr ⟨b, q, ha, h.below hb⟩

theorem PVO.below {w w' : World} {lo hi N : Nat} {a : Option Addr} {T : Nat → SL} (h : PVO w lo hi a N T) (hb : Below w.heap.size w w') : PVO w' lo hi a N T := by
  rcases h with h0 | ⟨b, q, ha, h⟩
  · exact .inl h0
  · exact .inr ⟨b, q, ha, h.below hb⟩

theorem PVO.keeps {w w' : World} {lo hi lo' hi' N : Nat} {a : Option Addr} {T : Nat → SL} (h : PVO w lo hi a N T) (hk : Keeps w w' lo' hi') (hd : hi ≤ lo' ∨ hi' ≤ lo) : PVO w' lo hi a N T := by
  rcases h with h0 | ⟨b, q, ha, h⟩
  · exact .inl h0
  · exact .inr ⟨b, q, ha, h.keeps hk hd⟩

theorem PVO.widen {w : World} {lo hi lo' hi' N : Nat} {a : Option Addr} {T : Nat → SL} (h : PVO w lo hi a N T) (h1 : lo' ≤ lo) (h2 : hi ≤ hi') : PVO w lo' hi' a N T := by
  rcases h with h0 | ⟨b, q, ha, h⟩
  · exact .inl h0
  · exact .inr ⟨b, q, ha, h.widen h1 h2⟩

theorem PV.drew {w : World} {N : Nat} {a : Option Addr} {T : Nat → SL} (h : PV w a N T) : PV w.drew a N T := h.below (Below.refl _ _).drew

theorem PV.alloc {w : World} {N : Nat} {a : Option Addr} {T : Nat → SL} (h : PV w a N T) (o : Obj) : PV (w.alloc o) a N T := h.below ((Below.refl _ _).alloc (Nat.le_refl _) o)

theorem PVO.drew {w : World} {lo hi N : Nat} {a : Option Addr} {T : Nat → SL} (h : PVO w lo hi a N T) : PVO w.drew lo hi a N T := h.below (Below.refl _ _).drew

theorem PVO.alloc {w : World} {lo hi N : Nat} {a : Option Addr} {T : Nat → SL} (h : PVO w lo hi a N T) (o : Obj) : PVO (w.alloc o) lo hi a N T := h.below ((Below.refl _ _).alloc (Nat.le_refl _) o)

theorem PV.congr {w : World} {N : Nat} {a : Option Addr} {T U : Nat → SL} (h : PV w a N T) (e : ∀ i, i < N → T i = U i) : PV w a N U := by
  rcases h with h0 | ⟨b, q, ha, h⟩
  · exact .inl h0
  · exact .inr ⟨b, q, ha, h.congr e⟩

theorem PVO.congr {w : World} {lo hi N : Nat} {a : Option Addr} {T U : Nat → SL} (h : PVO w lo hi a N T) (e : ∀ i, i < N → T i = U i) : PVO w lo hi a N U := by
  rcases h with h0 | ⟨b, q, ha, h⟩
  · exact .inl h0
  · exact .inr ⟨b, q, ha, h.congr e⟩
end Go.Proofs.Ytpmhbdiddcnhfaa

namespace Go.Proofs.Ytpmhbdiddcnhfaa
open Go.RowKit Go.Maps
set_option linter.unusedVariables false

/-- What is carried through the draw of alike: the source, the bytes, the two answers' blocks, the arena, its words, the roots. -/
structure DA (W w : World) (ca : Option Addr) (k kc : Nat) (B : Nat → Int) (t P : Nat) (h ac bu : Int) (a : Option Addr) (n c : Nat) (f : Nat → Int) (ra : Option Addr) (l : List Int) : Prop where
  bel : Below W.heap.size W w
  src : Blk w (W.heap.size + 2) [.slice ca k kc, .int .i64 (t : Int)]
  byt : SrcB w (W.heap.size + 2) ca k B
  r0 : Blk w W.heap.size [.int .i64 0, .slice none 0 0, .int .i64 0, .int .i64 0]
  r1 : Blk w (W.heap.size + 1) [.int .i64 0, .slice none 0 0, .int .i64 0, .int .i64 0]
  arn : Blk w P [.int .i64 h, .slice a n c, .int .i64 ac, .int .i64 bu]
  wrd : OwnIn w (W.heap.size + 3) P a n f
  rts : OwnIn w (W.heap.size + 3) P ra l.length (lf l)
  hP : W.heap.size + 3 ≤ P

theorem DA.below {W w w' : World} {ca : Option Addr} {k kc t P : Nat} {B : Nat → Int} {h ac bu : Int} {a : Option Addr} {n c : Nat} {f : Nat → Int} {ra : Option Addr} {l : List Int} (d : DA W w ca k kc B t P h ac bu a n c f ra l) (hb : Below w.heap.size w w') : DA W w' ca k kc B t P h ac bu a n c f ra l :=
  ⟨d.bel.trans (hb.mono d.bel.size), d.src.below hb, d.byt.below hb, d.r0.below hb, d.r1.below hb, d.arn.below hb, d.wrd.below hb, d.rts.below hb, d.hP⟩

/-- .. and the second arena and list. -/
structure DB (W w : World) (ca : Option Addr) (k kc : Nat) (B : Nat → Int) (t P : Nat) (h ac bu : Int) (a : Option Addr) (n c : Nat) (f : Nat → Int) (ra : Option Addr) (l : List Int) (Q : Nat) (h' ac' bu' : Int) (a' : Option Addr) (n' c' : Nat) (f' : Nat → Int) (rb : Option Addr) (rd md : Nat) (l' : List Int) : Prop where
  da : DA W w ca k kc B t P h ac bu a n c f ra l
  bb : Blk w Q [.int .i64 h', .slice a' n' c', .int .i64 ac', .int .i64 bu']
  wb : OwnIn w (P + 1) md a' n' f'
  row : w.ownsRow md 2 1 (.slice rb l'.length rd) l'.length (nums l'.length (lf l'))
  hmd : P + 1 ≤ md
  hQ : P + 1 ≤ Q

theorem DB.below {W w w' : World} {ca : Option Addr} {k kc t P : Nat} {B : Nat → Int} {h ac bu : Int} {a : Option Addr} {n c : Nat} {f : Nat → Int} {ra : Option Addr} {l : List Int} {Q : Nat} {h' ac' bu' : Int} {a' : Option Addr} {n' c' : Nat} {f' : Nat → Int} {rb : Option Addr} {rd md : Nat} {l' : List Int} (d : DB W w ca k kc B t P h ac bu a n c f ra l Q h' ac' bu' a' n' c' f' rb rd md l') (hb : Below w.heap.size w w') : DB W w' ca k kc B t P h ac bu a n c f ra l Q h' ac' bu' a' n' c' f' rb rd md l' :=
  ⟨d.da.below hb, d.bb.below hb, d.wb.below hb, ownsRow_below d.row hb, d.hmd, d.hQ⟩

theorem own_row {w : World} {B e n c : Nat} {a : Option Addr} {l : List Int} (h : w.ownsRow B e 1 (.slice a n c) l.length (nums l.length (lf l))) : n = l.length ∧ Own w B a l.length (lf l) := by
  obtain ⟨a', c', he, ho⟩ := own_of_row' h
  simp only [Value.slice.injEq] at he
  obtain ⟨rfl, rfl, rfl⟩ := he
  exact ⟨rfl, ho⟩

theorem DB.own {W w : World} {ca : Option Addr} {k kc t P : Nat} {B : Nat → Int} {h ac bu : Int} {a : Option Addr} {n c : Nat} {f : Nat → Int} {ra : Option Addr} {l : List Int} {Q : Nat} {h' ac' bu' : Int} {a' : Option Addr} {n' c' : Nat} {f' : Nat → Int} {rb : Option Addr} {rd md : Nat} {l' : List Int} (d : DB W w ca k kc B t P h ac bu a n c f ra l Q h' ac' bu' a' n' c' f' rb rd md l') : Own w (P + 1) rb l'.length (lf l') := (own_row d.row).2.mono d.hmd

theorem DA.keeps {W w w' : World} {ca : Option Addr} {k kc t P : Nat} {B : Nat → Int} {h ac bu : Int} {a : Option Addr} {n c : Nat} {f : Nat → Int} {ra : Option Addr} {l : List Int} {lo hi : Nat} (d : DA W w ca k kc B t P h ac bu a n c f ra l) (hk : Keeps w w' lo hi) (hl : P + 1 ≤ lo) : DA W w' ca k kc B t P h ac bu a n c f ra l := by
  have hP := d.hP
  have hPw := d.arn.1
  exact ⟨d.bel.trans (hk.below (by omega) d.bel.size), d.src.keeps hk (.inl (by omega)), d.byt.keeps hk (by omega), d.r0.keeps hk (.inl (by omega)), d.r1.keeps hk (.inl (by omega)), d.arn.keeps hk (.inl (by omega)), d.wrd.keeps hk (.inl (by omega)), d.rts.keeps hk (.inl (by omega)), d.hP⟩

theorem DB.append {W w w' : World} {ca : Option Addr} {k kc t P : Nat} {B : Nat → Int} {h ac bu : Int} {a : Option Addr} {n c : Nat} {f : Nat → Int} {ra : Option Addr} {l : List Int} {Q : Nat} {h' ac' bu' : Int} {a' : Option Addr} {n' c' : Nat} {f' : Nat → Int} {rb rb' : Option Addr} {rd rd' md : Nat} {l' l'' : List Int} (d : DB W w ca k kc B t P h ac bu a n c f ra l Q h' ac' bu' a' n' c' f' rb rd md l') (hg : w.grownBy w' (Value.slice rb l'.length rd).ownBlock) (hpb : ∀ k, (Value.slice rb l'.length rd).ownBlock = some k → k < Q) (hr : w'.ownsRow md 2 1 (.slice rb' l''.length rd') l''.length (nums l''.length (lf l''))) : DB W w' ca k kc B t P h ac bu a n c f ra l Q h' ac' bu' a' n' c' f' rb' rd' md l'' := by
  have hP := d.da.hP
  have hM := d.hmd
  have hPw := d.da.arn.1
  have hz : w.heap.size ≤ w'.heap.size := hg.size
  have hk : Keeps w w' md w'.heap.size := ⟨hg.os, hg.tape, hg.output, hz, fun q hq hd => by
    rcases hd with hd | hd
    · exact hg.block q hq (fun e => by have := (d.row.lt q e.symm).1; omega)
    · omega⟩
  have eQ := hg.block Q d.bb.1 (fun e => by have := hpb Q e.symm; omega)
  exact ⟨⟨d.da.bel.trans (hk.below (by omega) d.da.bel.size), d.da.src.keeps hk (.inl (by omega)), d.da.byt.keeps hk (by omega), d.da.r0.keeps hk (.inl (by omega)), d.da.r1.keeps hk (.inl (by omega)), d.da.arn.keeps hk (.inl (by omega)), d.da.wrd.keeps hk (.inl (by omega)), d.da.rts.keeps hk (.inl (by omega)), d.da.hP⟩, ⟨Nat.lt_of_lt_of_le d.bb.1 hz, fun i u hu => ⟨(World.cell?_of_block (w := w) (a := ⟨Q, i, none⟩) eQ).trans (d.bb.2 i u hu).1, (World.frozen?_of_block (w := w) (a := ⟨Q, i, none⟩) eQ).trans (d.bb.2 i u hu).2⟩⟩, d.wb.keeps hk (.inl (by omega)), hr, d.hmd, d.hQ⟩
end Go.Proofs.Ytpmhbdiddcnhfaa

namespace Go.Proofs.Ytpmhbdiddcnhfaa
open Go.RowKit
set_option linter.unusedVariables false

def MRise (K : Nat) (T : Nat → GM) : Prop := ∀ i, i + 1 < K → (T i).at_ < (T (i + 1)).at_

/-- There is a node of this number. -/
def Has (K : Nat) (T : Nat → GM) (v : Int) : Prop := ∃ j, j < K ∧ (T j).at_ = v

/-- A field that is a pointer. -/
def IsP (t : GM) (k : Nat) : Prop := t.m / P2 (k : Int) % 2 = 1

def MLead (M : Nat) (S : Nat → SL) (K : Nat) (T : Nat → GM) : Prop := (∀ i, i < M → (S i).nd = 0 ∨ Has K T (S i).nd) ∧ ∀ i, i < K → ∀ k, k < (T i).n → IsP (T i) k → (T i).f k = 0 ∨ Has K T ((T i).f k)
end Go.Proofs.Ytpmhbdiddcnhfaa

namespace Go.Proofs.Ytpmhbdiddcnhfaa
open Go.RowKit
set_option linter.unusedVariables false

/-- What the closure reads. -/
structure CapN (w : World) (rb : Nat) (a : Option Addr) (N k : Nat) (T : Nat → GM) : Prop where
  blk : Blk w rb [.slice a N k]
  nv : NV w a N T

theorem CapN.below {w w' : World} {rb N k : Nat} {a : Option Addr} {T : Nat → GM} (h : CapN w rb a N k T) (hb : Below w.heap.size w w') : CapN w' rb a N k T := ⟨h.blk.below hb, h.nv.below hb⟩
end Go.Proofs.Ytpmhbdiddcnhfaa

namespace Go.Proofs.Ytpmhbdiddcnhfaa
open Go.RowKit
set_option linter.unusedVariables false

/-- What the closure reads. -/
structure CapM (w : World) (g : Nat) (te qu ha : Int) (sa : Option Addr) (M kc : Nat) (na : Option Addr) (K nc : Nat) (T : Nat → GM) : Prop where
  blk : Blk w g [.int .i64 te, .int .i64 qu, .int .i64 ha, .slice sa M kc, .slice na K nc]
  nv : NV w na K T

theorem CapM.below {w w' : World} {g : Nat} {te qu ha : Int} {sa : Option Addr} {M kc : Nat} {na : Option Addr} {K nc : Nat} {T : Nat → GM} (h : CapM w g te qu ha sa M kc na K nc T) (hb : Below w.heap.size w w') : CapM w' g te qu ha sa M kc na K nc T := ⟨h.blk.below hb, h.nv.below hb⟩
end Go.Proofs.Ytpmhbdiddcnhfaa

namespace Go.Proofs.Ytpmhbdiddcnhfaa
open Go.ChangeShapes Go.WideShapes Go.ChangeAt Go.RowKit Go.Joins Go.Deep
set_option linter.unusedVariables false

instance : Inhabited SL := ⟨⟨0, 0⟩⟩
end Go.Proofs.Ytpmhbdiddcnhfaa

namespace Go.Proofs.Ytpmhbdiddcnhfaa
open Go.RowKit
set_option linter.unusedVariables false

/-- A row of slots that nothing was given of. -/
def zS : Nat → SL := fun _ => ⟨0, 0⟩
end Go.Proofs.Ytpmhbdiddcnhfaa

namespace Go.Proofs.Ytpmhbdiddcnhfaa
open Go.RowKit
set_option linter.unusedVariables false

/-- The first place of a node of this number, or how many there are. -/
def ixN (T : Nat → GM) (x : Int) : Nat → Nat
  | 0 => 0
  | K + 1 => if ixN T x K < K then ixN T x K else if (T K).at_ = x then K else K + 1

/-- What of a list is not 0. -/
def nz (l : List Int) : List Int := l.filter (fun x => decide (¬ x = 0))

/-- The node of a number. -/
def nodeM (K : Nat) (T : Nat → GM) (x : Int) : GM := T (ixN T x K)

section

variable {M : Nat} {S : Nat → SL} {K : Nat} {T : Nat → GM} {i : Nat} {O : List Int}

end
end Go.Proofs.Ytpmhbdiddcnhfaa

namespace Go.Proofs.Ytpmhbdiddcnhfaa
open Go.RowKit
set_option linter.unusedVariables false

/-- A node, and what stands for it. -/
def NIso (φ : Int → Int) (t t' : GM) : Prop := t'.s = t.s ∧ t'.m = t.m ∧ t'.h = t.h ∧ t'.n = t.n ∧ ∀ k, k < t.n → t'.f k = if t.m / P2 (k : Int) % 2 = 1 then φ (t.f k) else t.f k

/-- Two machines that are alike over some nodes, from which nothing else is reached. -/
structure MIso (U : List Int) (φ : Int → Int) (M : Nat) (S : Nat → SL) (K : Nat) (T : Nat → GM) (S' : Nat → SL) (K' : Nat) (T' : Nat → GM) : Prop where
  nd : U.Nodup
  z : φ 0 = 0
  u0 : (0 : Int) ∉ U
  nz : ∀ x ∈ U, ¬ φ x = 0
  inj : ∀ x ∈ U, ∀ y ∈ U, φ x = φ y → x = y
  has : ∀ x ∈ U, Has K T x
  has' : ∀ x ∈ U, Has K' T' (φ x)
  slots : ∀ i, i < M → (S i).nd = 0 ∨ (S i).nd ∈ U
  slot : ∀ i, i < M → (S' i).g = (S i).g ∧ (S' i).nd = φ (S i).nd
  node : ∀ x ∈ U, NIso φ (nodeM K T x) (nodeM K' T' (φ x))
  clo : ∀ x ∈ U, ∀ k, k < (nodeM K T x).n → IsP (nodeM K T x) k → (nodeM K T x).f k = 0 ∨ (nodeM K T x).f k ∈ U

section

variable {U : List Int} {φ : Int → Int} {M : Nat} {S S' : Nat → SL} {K K' : Nat} {T T' : Nat → GM}

end
end Go.Proofs.Ytpmhbdiddcnhfaa

namespace Go.Proofs.Ytpmhbdiddcnhfaa
open Go.RowKit
set_option linter.unusedVariables false

section

variable {U : List Int} {φ : Int → Int} {M : Nat} {S S' : Nat → SL} {K K' : Nat} {T T' : Nat → GM}

end

/-- A machine that can be tidied. -/
structure MWk (M : Nat) (S : Nat → SL) (K : Nat) (T : Nat → GM) : Prop where
  node : ∀ i, i < K → 1 ≤ (T i).at_ ∧ HOk (T i).s (T i).m 0 (T i).h ∧ ((T i).n : Int) = (T i).s
  rise : MRise K T
  lead : MLead M S K T

section

variable {M : Nat} {S : Nat → SL} {K : Nat} {T : Nat → GM}

end
end Go.Proofs.Ytpmhbdiddcnhfaa

namespace Go.Proofs.Ytpmhbdiddcnhfaa
open Go.RowKit
set_option linter.unusedVariables false

instance (t : GM) (k : Nat) : Decidable (IsP t k) := inferInstanceAs (Decidable (_ = _))

/-- What an op turns of a machine. -/
structure MS where
  ha : Int
  S : Nat → SL
  K : Nat
  T : Nat → GM

/-- The slot of a handle. -/
def HSl (te : Int) (M : Nat) (S : Nat → SL) (x : Int) : Prop := (0 ≤ x ∧ 1 ≤ x / 32 ∧ x / 32 ≤ 99) ∧ x % 4 = te ∧ x / 4 % 8 < (M : Int) ∧ ¬ (S (x / 4 % 8).toNat).nd = 0 ∧ (S (x / 4 % 8).toNat).g = x / 32

instance (te : Int) (M : Nat) (S : Nat → SL) (x : Int) : Decidable (HSl te M S x) := inferInstanceAs (Decidable (_ ∧ _))

def slN (x : Int) : Nat := (x / 4 % 8).toNat

/-- The first slot that can be given, or how many there are. -/
def CanG (s : SL) : Prop := s.nd = 0 ∧ s.g < 99

instance (s : SL) : Decidable (CanG s) := inferInstanceAs (Decidable (_ ∧ _))

def freeS (S : Nat → SL) : Nat → Nat
  | 0 => 0
  | M + 1 => if freeS S M < M then freeS S M else if CanG (S M) then M else M + 1

theorem freeS_congr {S S' : Nat → SL} : ∀ {M : Nat}, (∀ i, i < M → (CanG (S' i) ↔ CanG (S i))) → freeS S' M = freeS S M
  | 0, _ => rfl
  | M + 1, h => by
    rw [freeS, freeS, freeS_congr fun i hi => h i (by omega)]
    by_cases h1 : freeS S M < M
    · rw [if_pos h1, if_pos h1]
    · rw [if_neg h1, if_neg h1]
      by_cases h2 : CanG (S M)
      · rw [if_pos h2, if_pos ((h M (by omega)).2 h2)]
      · rw [if_neg h2, if_neg fun h3 => h2 ((h M (by omega)).1 h3)]

section

variable {U : List Int} {φ : Int → Int} {M : Nat} {m m' : MS} {te qu : Int}

theorem MIso.zero_iff {S S' : Nat → SL} {K K' : Nat} {T T' : Nat → GM} (h : MIso U φ M S K T S' K' T') {i : Nat} (hi : i < M) : (S' i).nd = 0 ↔ (S i).nd = 0 := by
  rw [(h.slot i hi).2]
  rcases h.slots i hi with h1 | h1
  · rw [h1, h.z]
  · have h2 := h.nz _ h1
    have h3 : ¬ (S i).nd = 0 := fun e => h.u0 (e ▸ h1)
    exact ⟨fun e => absurd e h2, fun e => absurd e h3⟩

theorem HSl.lt {S : Nat → SL} {x : Int} (h : HSl te M S x) : slN x < M := by have := h.2.2.1; unfold slN; omega

theorem MIso.free {S S' : Nat → SL} {K K' : Nat} {T T' : Nat → GM} (h : MIso U φ M S K T S' K' T') : freeS S' M = freeS S M :=
  freeS_congr fun i hi => by unfold CanG; rw [h.zero_iff hi, (h.slot i hi).1]

end
end Go.Proofs.Ytpmhbdiddcnhfaa

namespace Go.Proofs.Ytpmhbdiddcnhfaa
open Go.RowKit
set_option linter.unusedVariables false

/-- The cells of a machine, from a place of a block on. -/
structure MAt (w : World) (g o : Nat) (te qu ha : Int) (sa : Option Addr) (M kc : Nat) (na : Option Addr) (K nc : Nat) : Prop where
  lt : g < w.heap.size
  c0 : w.cell? ⟨g, o, none⟩ = some (.int .i64 te)
  c1 : w.cell? ⟨g, o + 1, none⟩ = some (.int .i64 qu)
  c2 : w.cell? ⟨g, o + 2, none⟩ = some (.int .i64 ha)
  c3 : w.cell? ⟨g, o + 3, none⟩ = some (.slice sa M kc)
  c4 : w.cell? ⟨g, o + 4, none⟩ = some (.slice na K nc)

section

variable {w w' : World} {g o : Nat} {te qu ha : Int} {sa : Option Addr} {M kc : Nat} {na : Option Addr} {K nc : Nat}

theorem MAt.below (h : MAt w g o te qu ha sa M kc na K nc) (hb : Below w.heap.size w w') : MAt w' g o te qu ha sa M kc na K nc :=
  ⟨Nat.lt_of_lt_of_le h.lt hb.size, (hb.cell (p := ⟨g, o, none⟩) h.lt).trans h.c0, (hb.cell (p := ⟨g, o + 1, none⟩) h.lt).trans h.c1, (hb.cell (p := ⟨g, o + 2, none⟩) h.lt).trans h.c2, (hb.cell (p := ⟨g, o + 3, none⟩) h.lt).trans h.c3, (hb.cell (p := ⟨g, o + 4, none⟩) h.lt).trans h.c4⟩

end

/-- A node whose numbers are right, of any number. -/
def Nd (t : GM) : Prop := HOk t.s t.m 0 t.h ∧ (t.n : Int) = t.s

theorem MWk.nd {M : Nat} {S : Nat → SL} {K : Nat} {T : Nat → GM} (h : MWk M S K T) : ∀ i, i < K → Nd (T i) := fun i hi => (h.node i hi).2
end Go.Proofs.Ytpmhbdiddcnhfaa

namespace Go.Proofs.Ytpmhbdiddcnhfaa
open Go.RowKit Go.Maps
set_option linter.unusedVariables false

/-- A pointer to a node of a row. -/
def ptrV (na : Option Addr) (i : Nat) : Value := match na with | some ⟨b, q, s⟩ => .pointer (some ⟨b, q + i * 5, s⟩) | none => .pointer none

def ptrS (na : Option Addr) (K : Nat) (T : Nat → GM) (O : List Int) : List Value := O.map fun x => ptrV na (ixN T x K)

def nv1 : Nat → Int := fun i => (i : Int) + 1

/-- What is reached so far, as the program has it: in the block rb, with the map mb and the row v. -/
structure RN (w : World) (base rb mb : Nat) (v : Value) (na : Option Addr) (K : Nat) (T : Nat → GM) (O : List Int) : Prop where
  blk : Blk w rb [v, .map (some mb)]
  hrb : base ≤ rb
  hmb : base ≤ mb
  hne : mb ≠ rb
  vr : v.ownBlock ≠ some rb
  vm : v.ownBlock ≠ some mb
  row : w.ownsRow base 158 1 v O.length (ptrS na K T O)
  map : MapT w mb O.length O nv1

section

variable {w w' : World} {base rb mb : Nat} {v : Value} {na : Option Addr} {K : Nat} {T : Nat → GM} {O : List Int}

theorem RN.below (h : RN w base rb mb v na K T O) (hb : Below w.heap.size w w') : RN w' base rb mb v na K T O :=
  ⟨h.blk.below hb, h.hrb, h.hmb, h.hne, h.vr, h.vm, ownsRow_below h.row hb, h.map.below hb⟩

end
end Go.Proofs.Ytpmhbdiddcnhfaa

namespace Go.Proofs.Ytpmhbdiddcnhfaa
open Go.RowKit Go.Maps
set_option linter.unusedVariables false

/-- A row of pointers to the nodes of a list. -/
def PR (w : World) (na : Option Addr) (K : Nat) (T : Nat → GM) (ra : Option Addr) (R : List Int) : Prop :=
  R.length = 0 ∨ ∃ rb ro, ra = some ⟨rb, ro, none⟩ ∧ rb < w.heap.size ∧ ∀ i, i < R.length → w.cell? ⟨rb, ro + i, none⟩ = some (ptrV na (ixN T (lf R i) K))

theorem PR.below {w w' : World} {na : Option Addr} {K : Nat} {T : Nat → GM} {ra : Option Addr} {R : List Int} (h : PR w na K T ra R) (hb : Below w.heap.size w w') : PR w' na K T ra R := by
  rcases h with h | ⟨rb, ro, e, hl, hc⟩
  · exact .inl h
  · exact .inr ⟨rb, ro, e, Nat.lt_of_lt_of_le hl hb.size, fun i hi => (hb.cell (p := ⟨rb, ro + i, none⟩) hl).trans (hc i hi)⟩

/-- A row that adding leaves as it is. -/
def Apart (w : World) (a : Option Addr) (n rb mb : Nat) (v : Value) : Prop := n = 0 ∨ ∃ b o, a = some ⟨b, o, none⟩ ∧ b ≠ rb ∧ b ≠ mb ∧ v.ownBlock ≠ some b ∧ b < w.heap.size

theorem Apart.size {w w' : World} {a : Option Addr} {n rb mb : Nat} {v : Value} (h : Apart w a n rb mb v) (hz : w.heap.size ≤ w'.heap.size) : Apart w' a n rb mb v := by
  rcases h with h | ⟨b, o, h1, h2, h3, h4, h5⟩
  · exact .inl h
  · exact .inr ⟨b, o, h1, h2, h3, h4, by omega⟩
end Go.Proofs.Ytpmhbdiddcnhfaa

namespace Go.Proofs.Ytpmhbdiddcnhfaa
open Go.RowKit Go.Maps
set_option linter.unusedVariables false

def haV (a b d : Int) : Value := .agg #[.int .i64 a, .int .i64 b, .int .i64 d]

/-- How an element is told: whether it points at anything. -/
def ptrR (v : Value) : Option (DataW Unit × List MemPlace) := match v with | .pointer p => some (.lit (.bool p.isSome), []) | _ => none

/-- A slot that leads to a node by a handle of its own. -/
def Leads (te : Int) (S : Nat → SL) (i : Nat) (a b d : Int) : Prop := a = te ∧ ∃ j : Nat, j < i ∧ b = (j : Int) ∧ d = (S j).g ∧ ¬ (S j).nd = 0

/-- A map of handles: of the first slots. -/
def MapH (w : World) (b n : Nat) (te : Int) (S : Nat → SL) (i : Nat) : Prop :=
  ∃ D : DataW Unit, w.ownsMap Try.prog 177 ptrR b n D ∧ ∀ a c d kl, keyOf Try.prog 177 (haV a c d) = some kl → ∃ r : Bool, D.atKey kl (.lit (.bool false)) = .lit (.bool r) ∧ (r = true ↔ Leads te S i a c d)

theorem MapH.lt {w : World} {b n : Nat} {te : Int} {S : Nat → SL} {i : Nat} (h : MapH w b n te S i) : b < w.heap.size := by obtain ⟨D, h1, _⟩ := h; exact h1.lt

theorem MapH.block {w w' : World} {b n : Nat} {te : Int} {S : Nat → SL} {i : Nat} (h : MapH w b n te S i) (hb : w'.heap[b]? = w.heap[b]?) : MapH w' b n te S i := by
  obtain ⟨D, ⟨es, clock, h1, h2⟩, h3⟩ := h
  exact ⟨D, ⟨es, clock, hb.trans h1, h2⟩, h3⟩

theorem MapH.below {w w' : World} {b n : Nat} {te : Int} {S : Nat → SL} {i : Nat} (h : MapH w b n te S i) (hb : Below w.heap.size w w') : MapH w' b n te S i := h.block (hb.block b h.lt)
end Go.Proofs.Ytpmhbdiddcnhfaa

namespace Go.Proofs.Ytpmhbdiddcnhfaa
open Go.RowKit Go.Maps
set_option linter.unusedVariables false

theorem MapH.mono {w : World} {b n n' : Nat} {te : Int} {S : Nat → SL} {i : Nat} (h : MapH w b n te S i) (hn : n ≤ n') : MapH w b n' te S i := by
  obtain ⟨D, h1, h2⟩ := h
  exact ⟨D, h1.mono hn, h2⟩
end Go.Proofs.Ytpmhbdiddcnhfaa

namespace Go.Proofs.Ytpmhbdiddcnhfaa
open Go.RowKit Go.Maps
set_option linter.unusedVariables false

theorem cap9 {w : World} {H A : Nat} {v0 v1 v2 v3 te qu ha sa na : Value} (hH : Blk w H [v0, v1, v2, v3]) (hA : Blk w A [te, qu, ha, sa, na]) : w.cell? ⟨H, 0, none⟩ = some v0 ∧ w.cell? ⟨H, 1, none⟩ = some v1 ∧ w.cell? ⟨H, 2, none⟩ = some v2 ∧ w.cell? ⟨H, 3, none⟩ = some v3 ∧ w.cell? ⟨A, 0, none⟩ = some te ∧ w.cell? ⟨A, 1, none⟩ = some qu ∧ w.cell? ⟨A, 2, none⟩ = some ha ∧ w.cell? ⟨A, 3, none⟩ = some sa ∧ w.cell? ⟨A, 4, none⟩ = some na :=
  ⟨hH.at 0 rfl, hH.at 1 rfl, hH.at 2 rfl, hH.at 3 rfl, hA.at 0 rfl, hA.at 1 rfl, hA.at 2 rfl, hA.at 3 rfl, hA.at 4 rfl⟩
end Go.Proofs.Ytpmhbdiddcnhfaa

namespace Go.Proofs.Ytpmhbdiddcnhfaa
open Go.RowKit
set_option linter.unusedVariables false

theorem row_shape2 {w : World} {B e sz n : Nat} {v : Value} {xs : List Value} (h : w.ownsRow B e sz v n xs) : ∃ a cap, v = .slice a n cap ∧ n ≤ cap ∧ cap ≤ maxLen ∧ (a = none → n = 0 ∧ cap = 0) := by
  rcases h.2 with ⟨h1, h2⟩ | ⟨g, cap', cur, h1, hB, hg, hnc, hcm, hcs, _⟩
  · exact ⟨none, 0, by rw [h1, h2], by omega, by simp [maxLen], fun _ => ⟨h2, rfl⟩⟩
  · exact ⟨_, cap', h1, hnc, hcm, fun h => by simp at h⟩
end Go.Proofs.Ytpmhbdiddcnhfaa

namespace Go.Proofs.Ytpmhbdiddcnhfaa
open Go.RowKit
set_option linter.unusedVariables false

theorem NVO.widen {w : World} {lo hi lo' hi' N : Nat} {a : Option Addr} {T : Nat → GM} (h : NVO w lo hi a N T) (h1 : lo' ≤ lo) (h2 : hi ≤ hi') : NVO w lo' hi' a N T := by
  rcases h with h0 | ⟨b, q, e, h⟩
  · exact .inl h0
  · exact .inr ⟨b, q, e, ⟨Nat.le_trans h1 h.glo, Nat.lt_of_lt_of_le h.ghi h2, h.lt, h.six, h.free, fun i hi => (h.flds i hi).widen h1 h2, h.off, h.apart⟩⟩
end Go.Proofs.Ytpmhbdiddcnhfaa

namespace Go.Proofs.Ytpmhbdiddcnhfaa
open Go.ChangeShapes Go.WideShapes Go.ChangeAt Go.RowKit Go.Joins Go.Deep
set_option linter.unusedVariables false

theorem Try.cellsP4 : Try.prog.cellsOf 4 = 1 := by kernel_rfl

theorem Try.cellsP98 : Try.prog.cellsOf 98 = 7 := by kernel_rfl

set_option maxRecDepth 100000 in
/-- One op, out of its cells. -/
theorem open_op1 {H : Type} {enc : TypeId × Value → H} {W : World} {n : Nat} {cs : List Value} {y : DataW H × List MemPlace} (hlen : cs.length = 7) (h : DataW.trod enc Try.prog W 0 (fun _ => true) true n 98 cs = some y) :
    ∃ (te k h t i v : Int) (fo : Bool), cs = [.int .i64 te, .int .i64 k, .int .i64 h, .int .i64 t, .int .i64 i, .int .i64 v, .bool fo] := by
  match cs, hlen with
  | [v0, v1, v2, v3, v4, v5, v6], _ =>
    obtain ⟨xs, k, _, _, _, hxl, hf⟩ := DataW.trod_struct Try.underlying98 h
    have hxl : xs.length = 7 := hxl
    match xs, hxl with
    | [y0, y1, y2, y3, y4, y5, y6], _ =>
      have g0 := hf 0 _ rfl
      have g1 := hf 1 _ rfl
      have g2 := hf 2 _ rfl
      have g3 := hf 3 _ rfl
      have g4 := hf 4 _ rfl
      have g5 := hf 5 _ rfl
      have g6 := hf 6 _ rfl
      simp [Try.cellsO2] at g0 g1 g2 g3 g4 g5
      simp [Try.cellsP4] at g6
      obtain ⟨i0, e0, _, _⟩ := DataW.trod_int Try.underlying2 g0
      obtain ⟨i1, e1, _, _⟩ := DataW.trod_int Try.underlying2 g1
      obtain ⟨i2, e2, _, _⟩ := DataW.trod_int Try.underlying2 g2
      obtain ⟨i3, e3, _, _⟩ := DataW.trod_int Try.underlying2 g3
      obtain ⟨i4, e4, _, _⟩ := DataW.trod_int Try.underlying2 g4
      obtain ⟨i5, e5, _, _⟩ := DataW.trod_int Try.underlying2 g5
      obtain ⟨b6, e6, _⟩ := DataW.trod_bool Try.underlying4 g6
      simp only [List.cons.injEq, and_true] at e0 e1 e2 e3 e4 e5 e6
      subst e0 e1 e2 e3 e4 e5 e6
      exact ⟨i0, i1, i2, i3, i4, i5, b6, rfl⟩
end Go.Proofs.Ytpmhbdiddcnhfaa

namespace Go.Proofs.Ytpmhbdiddcnhfaa
open Go.RowKit Go.Maps
set_option linter.unusedVariables false

/-- What is carried: the arena and its roots, and what was collected. -/
structure FCD (W w : World) (P G : Nat) (h ac bu : Int) (a : Option Addr) (n c : Nat) (f : Nat → Int) (ra : Option Addr) (l : List Int) (rco rh : Int) (b : Option Addr) (m d : Nat) (g : Nat → Int) (rac rbu : Int) (rb : Option Addr) (l2 : List Int) (rd : Nat) (mv : Int) : Prop where
  bel : Below W.heap.size W w
  ab : Blk w P [.int .i64 h, .slice a n c, .int .i64 ac, .int .i64 bu]
  gb : Blk w G [.int .i64 rco, .int .i64 rh, .slice b m d, .int .i64 rac, .int .i64 rbu, .slice rb l2.length rd, .int .i64 mv]
  wa : Src w a n f
  ra : Src w ra l.length (lf l)
  wb : Src w b m g
  rb : Src w rb l2.length (lf l2)

section

variable {W w w' : World} {P G : Nat} {h ac bu : Int} {a : Option Addr} {n c : Nat} {f : Nat → Int} {ra : Option Addr} {l : List Int} {rco rh : Int} {b : Option Addr} {m d : Nat} {g : Nat → Int} {rac rbu : Int} {rb : Option Addr} {l2 : List Int} {rd : Nat} {mv : Int}

theorem FCD.below (x : FCD W w P G h ac bu a n c f ra l rco rh b m d g rac rbu rb l2 rd mv) (hb : Below w.heap.size w w') : FCD W w' P G h ac bu a n c f ra l rco rh b m d g rac rbu rb l2 rd mv :=
  ⟨x.bel.trans (hb.mono x.bel.size), x.ab.below hb, x.gb.below hb, x.wa.below hb, x.ra.below hb, x.wb.below hb, x.rb.below hb⟩

end
end Go.Proofs.Ytpmhbdiddcnhfaa

namespace Go.Proofs.Ytpmhbdiddcnhfaa
open Go.RowKit
set_option linter.unusedVariables false

/-- What is carried: a handle, its word, what is read, a new machine. -/
structure HSt (W w : World) (Bh Bw Br Bn : Nat) (x y z c v rc t s g nc te qu : Int) (sa : Option Addr) (n kc : Nat) : Prop where
  bel : Below W.heap.size W w
  hb : Blk w Bh [.int .i64 x, .int .i64 y, .int .i64 z]
  wb : Blk w Bw [.int .i64 c, .int .i64 v]
  rb : Blk w Br [.int .i64 rc, .int .i64 t, .int .i64 s, .int .i64 g]
  nb : Blk w Bn [.int .i64 nc, .int .i64 te, .int .i64 qu, .int .i64 0, .slice sa n kc, .slice none 0 0]
  pv : PV w sa n zS

theorem HSt.below {W w w' : World} {Bh Bw Br Bn : Nat} {x y z c v rc t s g nc te qu : Int} {sa : Option Addr} {n kc : Nat} (d : HSt W w Bh Bw Br Bn x y z c v rc t s g nc te qu sa n kc) (hb : Below w.heap.size w w') : HSt W w' Bh Bw Br Bn x y z c v rc t s g nc te qu sa n kc :=
  ⟨d.bel.trans (hb.mono d.bel.size), d.hb.below hb, d.wb.below hb, d.rb.below hb, d.nb.below hb, d.pv.below hb⟩
end Go.Proofs.Ytpmhbdiddcnhfaa

namespace Go.Proofs.Ytpmhbdiddcnhfaa
open Go.RowKit
set_option linter.unusedVariables false

/-- A tenant of a heap, in memory. -/
structure TN where
  q : Int
  h : Int
  a : Option Addr
  n : Nat
  c : Nat
  S : Nat → SL

def TN.g (t : TN) : Nat := match t.a with | some x => x.block | none => 0

def ThrG (w : World) (b o : Nat) (t : TN) : Prop := w.cell? ⟨b, o, none⟩ = some (.int .i64 t.q) ∧ w.cell? ⟨b, o + 1, none⟩ = some (.int .i64 t.h) ∧ w.cell? ⟨b, o + 2, none⟩ = some (.slice t.a t.n t.c)

def ThrF (w : World) (b o : Nat) : Prop := w.frozen? ⟨b, o, none⟩ = false ∧ w.frozen? ⟨b, o + 1, none⟩ = false ∧ w.frozen? ⟨b, o + 2, none⟩ = false

theorem ThrG.block {w w' : World} {b o : Nat} {t : TN} (h : ThrG w b o t) (e : w'.heap[b]? = w.heap[b]?) : ThrG w' b o t :=
  ⟨(World.cell?_of_block (w := w) (a := ⟨b, o, none⟩) e).trans h.1, (World.cell?_of_block (w := w) (a := ⟨b, o + 1, none⟩) e).trans h.2.1, (World.cell?_of_block (w := w) (a := ⟨b, o + 2, none⟩) e).trans h.2.2⟩

theorem ThrF.block {w w' : World} {b o : Nat} (h : ThrF w b o) (e : w'.heap[b]? = w.heap[b]?) : ThrF w' b o :=
  ⟨(World.frozen?_of_block (w := w) (a := ⟨b, o, none⟩) e).trans h.1, (World.frozen?_of_block (w := w) (a := ⟨b, o + 1, none⟩) e).trans h.2.1, (World.frozen?_of_block (w := w) (a := ⟨b, o + 2, none⟩) e).trans h.2.2⟩

theorem ThrG.below {w w' : World} {b o : Nat} {t : TN} (h : ThrG w b o t) (hb : Below w.heap.size w w') (hl : b < w.heap.size) : ThrG w' b o t := h.block (hb.block b hl)

theorem ThrF.below {w w' : World} {b o : Nat} (h : ThrF w b o) (hb : Below w.heap.size w w') (hl : b < w.heap.size) : ThrF w' b o := h.block (hb.block b hl)

theorem ThrG.keeps {w w' : World} {b o lo hi : Nat} {t : TN} (h : ThrG w b o t) (hk : Keeps w w' lo hi) (hl : b < w.heap.size) (hd : b < lo ∨ hi ≤ b) : ThrG w' b o t := h.block (hk.block b hl hd)

theorem ThrF.keeps {w w' : World} {b o lo hi : Nat} (h : ThrF w b o) (hk : Keeps w w' lo hi) (hl : b < w.heap.size) (hd : b < lo ∨ hi ≤ b) : ThrF w' b o := h.block (hk.block b hl hd)

/-- A row of tenants is read. -/
structure TSrc (w : World) (b q N : Nat) (T : Nat → TN) : Prop where
  lt : b < w.heap.size
  thr : ∀ i, i < N → ThrG w b (q + i * 3) (T i)
  slo : ∀ i, i < N → PV w (T i).a (T i).n (T i).S

/-- A row of tenants of the call's own, in blocks from lo to hi. -/
structure TOwn (w : World) (lo hi b q N : Nat) (T : Nat → TN) : Prop where
  glo : lo ≤ b
  ghi : b < hi
  lt : b < w.heap.size
  thr : ∀ i, i < N → ThrG w b (q + i * 3) (T i)
  free : ∀ i, i < N → ThrF w b (q + i * 3)
  slo : ∀ i, i < N → PVO w lo hi (T i).a (T i).n (T i).S
  off : ∀ i, i < N → (T i).n = 0 ∨ (T i).g ≠ b
  apart : ∀ i j, i < N → j < N → i ≠ j → (T i).n = 0 ∨ (T j).n = 0 ∨ (T i).g ≠ (T j).g

theorem TOwn.src {w : World} {lo hi b q N : Nat} {T : Nat → TN} (h : TOwn w lo hi b q N T) : TSrc w b q N T := ⟨h.lt, h.thr, fun i hi => (h.slo i hi).src⟩

theorem TSrc.below {w w' : World} {b q N : Nat} {T : Nat → TN} (h : TSrc w b q N T) (hb : Below w.heap.size w w') : TSrc w' b q N T :=
  ⟨Nat.lt_of_lt_of_le h.lt hb.size, fun i hi => (h.thr i hi).below hb h.lt, fun i hi => (h.slo i hi).below hb⟩

theorem TOwn.below {w w' : World} {lo hi b q N : Nat} {T : Nat → TN} (h : TOwn w lo hi b q N T) (hb : Below w.heap.size w w') : TOwn w' lo hi b q N T :=
  ⟨h.glo, h.ghi, Nat.lt_of_lt_of_le h.lt hb.size, fun i hi => (h.thr i hi).below hb h.lt, fun i hi => (h.free i hi).below hb h.lt, fun i hi => (h.slo i hi).below hb, h.off, h.apart⟩

theorem TOwn.keeps {w w' : World} {lo hi lo' hi' b q N : Nat} {T : Nat → TN} (h : TOwn w lo hi b q N T) (hk : Keeps w w' lo' hi') (hd : hi ≤ lo' ∨ hi' ≤ lo) : TOwn w' lo hi b q N T := by
  have h1 := h.glo; have h2 := h.ghi
  exact ⟨h.glo, h.ghi, Nat.lt_of_lt_of_le h.lt hk.size, fun i hi => (h.thr i hi).keeps hk h.lt (by omega), fun i hi => (h.free i hi).keeps hk h.lt (by omega), fun i hi => (h.slo i hi).keeps hk hd, h.off, h.apart⟩

theorem TSrc.drew {w : World} {b q N : Nat} {T : Nat → TN} (h : TSrc w b q N T) : TSrc w.drew b q N T := h.below (Below.refl _ _).drew

theorem TSrc.alloc {w : World} {b q N : Nat} {T : Nat → TN} (h : TSrc w b q N T) (o : Obj) : TSrc (w.alloc o) b q N T := h.below ((Below.refl _ _).alloc (Nat.le_refl _) o)

theorem TOwn.drew {w : World} {lo hi b q N : Nat} {T : Nat → TN} (h : TOwn w lo hi b q N T) : TOwn w.drew lo hi b q N T := h.below (Below.refl _ _).drew

theorem TOwn.alloc {w : World} {lo hi b q N : Nat} {T : Nat → TN} (h : TOwn w lo hi b q N T) (o : Obj) : TOwn (w.alloc o) lo hi b q N T := h.below ((Below.refl _ _).alloc (Nat.le_refl _) o)

theorem TSrc.congr {w : World} {b q N : Nat} {T U : Nat → TN} (h : TSrc w b q N T) (e : ∀ i, i < N → T i = U i) : TSrc w b q N U :=
  ⟨h.lt, fun i hi => by rw [← e i hi]; exact h.thr i hi, fun i hi => by rw [← e i hi]; exact h.slo i hi⟩

theorem TOwn.congr {w : World} {lo hi b q N : Nat} {T U : Nat → TN} (h : TOwn w lo hi b q N T) (e : ∀ i, i < N → T i = U i) : TOwn w lo hi b q N U :=
  ⟨h.glo, h.ghi, h.lt, fun i hi => by rw [← e i hi]; exact h.thr i hi, h.free, fun i hi => by rw [← e i hi]; exact h.slo i hi, fun i hi => by rw [← e i hi]; exact h.off i hi, fun i j hi hj hij => by rw [← e i hi, ← e j hj]; exact h.apart i j hi hj hij⟩

theorem TOwn.widen {w : World} {lo hi lo' hi' b q N : Nat} {T : Nat → TN} (h : TOwn w lo hi b q N T) (h1 : lo' ≤ lo) (h2 : hi ≤ hi') : TOwn w lo' hi' b q N T :=
  ⟨Nat.le_trans h1 h.glo, Nat.lt_of_lt_of_le h.ghi h2, h.lt, h.thr, h.free, fun i hi => (h.slo i hi).widen h1 h2, h.off, h.apart⟩
end Go.Proofs.Ytpmhbdiddcnhfaa

namespace Go.Proofs.Ytpmhbdiddcnhfaa
open Go.RowKit
set_option linter.unusedVariables false

def TV (w : World) (a : Option Addr) (N : Nat) (T : Nat → TN) : Prop := N = 0 ∨ ∃ b q, a = some ⟨b, q, none⟩ ∧ TSrc w b q N T

def TVO (w : World) (lo hi : Nat) (a : Option Addr) (N : Nat) (T : Nat → TN) : Prop := N = 0 ∨ ∃ b q, a = some ⟨b, q, none⟩ ∧ TOwn w lo hi b q N T

theorem TVO.src {w : World} {lo hi N : Nat} {a : Option Addr} {T : Nat → TN} (h : TVO w lo hi a N T) : TV w a N T := by
  rcases h with h0 | ⟨b, q, e, h⟩
  · exact .inl h0
  · exact .inr ⟨b, q, e, h.src⟩

theorem TV.below {w w' : World} {a : Option Addr} {N : Nat} {T : Nat → TN} (h : TV w a N T) (hb : Below w.heap.size w w') : TV w' a N T := by
  rcases h with h0 | ⟨b, q, e, h⟩
  · exact .inl h0
  · exact .inr ⟨b, q, e, h.below hb⟩

theorem TVO.below {w w' : World} {lo hi N : Nat} {a : Option Addr} {T : Nat → TN} (h : TVO w lo hi a N T) (hb : Below w.heap.size w w') : TVO w' lo hi a N T := by
  rcases h with h0 | ⟨b, q, e, h⟩
  · exact .inl h0
  · exact .inr ⟨b, q, e, h.below hb⟩

theorem TVO.keeps {w w' : World} {lo hi lo' hi' N : Nat} {a : Option Addr} {T : Nat → TN} (h : TVO w lo hi a N T) (hk : Keeps w w' lo' hi') (hd : hi ≤ lo' ∨ hi' ≤ lo) : TVO w' lo hi a N T := by
  rcases h with h0 | ⟨b, q, e, h⟩
  · exact .inl h0
  · exact .inr ⟨b, q, e, h.keeps hk hd⟩

theorem TVO.widen {w : World} {lo hi lo' hi' N : Nat} {a : Option Addr} {T : Nat → TN} (h : TVO w lo hi a N T) (h1 : lo' ≤ lo) (h2 : hi ≤ hi') : TVO w lo' hi' a N T := by
  rcases h with h0 | ⟨b, q, e, h⟩
  · exact .inl h0
  · exact .inr ⟨b, q, e, h.widen h1 h2⟩

theorem TV.drew {w : World} {a : Option Addr} {N : Nat} {T : Nat → TN} (h : TV w a N T) : TV w.drew a N T := h.below (Below.refl _ _).drew

theorem TV.alloc {w : World} {a : Option Addr} {N : Nat} {T : Nat → TN} (h : TV w a N T) (o : Obj) : TV (w.alloc o) a N T := h.below ((Below.refl _ _).alloc (Nat.le_refl _) o)

theorem TVO.drew {w : World} {lo hi N : Nat} {a : Option Addr} {T : Nat → TN} (h : TVO w lo hi a N T) : TVO w.drew lo hi a N T := h.below (Below.refl _ _).drew

theorem TVO.alloc {w : World} {lo hi N : Nat} {a : Option Addr} {T : Nat → TN} (h : TVO w lo hi a N T) (o : Obj) : TVO (w.alloc o) lo hi a N T := h.below ((Below.refl _ _).alloc (Nat.le_refl _) o)
end Go.Proofs.Ytpmhbdiddcnhfaa

namespace Go.Proofs.Ytpmhbdiddcnhfaa
open Go.RowKit
set_option linter.unusedVariables false

def tz : TN := ⟨0, 0, none, 0, 0, fun _ => ⟨0, 0⟩⟩
end Go.Proofs.Ytpmhbdiddcnhfaa

namespace Go.Proofs.Ytpmhbdiddcnhfaa
open Go.RowKit
set_option linter.unusedVariables false

/-- Each tenant's slots are a row of its own, later ones in later blocks. -/
def FldT (w : World) (lo : Nat) (v : Value) (M : List TN) : Prop :=
  (∀ t ∈ M, t.n = 0 ∨ (lo ≤ t.g ∧ t.g < w.heap.size ∧ some t.g ≠ v.ownBlock ∧ ∃ q, t.a = some ⟨t.g, q, none⟩ ∧ ∀ k, k < t.n → TwoG w t.g (q + k * 2) (t.S k) ∧ TwoF w t.g (q + k * 2))) ∧ M.Pairwise (fun t u => t.n = 0 ∨ u.n = 0 ∨ t.g < u.g)

theorem FldT.block {w w' : World} {lo : Nat} {v : Value} {M : List TN} (h : FldT w lo v M) (hz : w.heap.size ≤ w'.heap.size) (hb : ∀ b, lo ≤ b → b < w.heap.size → some b ≠ v.ownBlock → w'.heap[b]? = w.heap[b]?) : FldT w' lo v M :=
  ⟨fun t ht => by
    rcases h.1 t ht with h0 | ⟨h1, h2, h3, q, h4, h5⟩
    · exact .inl h0
    · have e := hb t.g h1 h2 h3
      exact .inr ⟨h1, Nat.lt_of_lt_of_le h2 hz, h3, q, h4, fun k hk => ⟨(h5 k hk).1.block e, (h5 k hk).2.block e⟩⟩, h.2⟩

theorem FldT.below {w w' : World} {lo : Nat} {v : Value} {M : List TN} (h : FldT w lo v M) (hb : Below w.heap.size w w') : FldT w' lo v M := h.block hb.size fun b _ h2 _ => hb.block b h2

def tT (M : List TN) (i : Nat) : TN := M[i]?.getD tz
end Go.Proofs.Ytpmhbdiddcnhfaa

namespace Go.Proofs.Ytpmhbdiddcnhfaa
open Go.RowKit
set_option linter.unusedVariables false

/-- An op in memory. -/
structure OpC where
  te : Int
  k : Int
  h : Int
  t : Int
  i : Int
  v : Int
  fo : Bool

def SevG (w : World) (b o : Nat) (t : OpC) : Prop := w.cell? ⟨b, o, none⟩ = some (.int .i64 t.te) ∧ w.cell? ⟨b, o + 1, none⟩ = some (.int .i64 t.k) ∧ w.cell? ⟨b, o + 2, none⟩ = some (.int .i64 t.h) ∧ w.cell? ⟨b, o + 3, none⟩ = some (.int .i64 t.t) ∧ w.cell? ⟨b, o + 4, none⟩ = some (.int .i64 t.i) ∧ w.cell? ⟨b, o + 5, none⟩ = some (.int .i64 t.v) ∧ w.cell? ⟨b, o + 6, none⟩ = some (.bool t.fo)

def SevF (w : World) (b o : Nat) : Prop := w.frozen? ⟨b, o, none⟩ = false ∧ w.frozen? ⟨b, o + 1, none⟩ = false ∧ w.frozen? ⟨b, o + 2, none⟩ = false ∧ w.frozen? ⟨b, o + 3, none⟩ = false ∧ w.frozen? ⟨b, o + 4, none⟩ = false ∧ w.frozen? ⟨b, o + 5, none⟩ = false ∧ w.frozen? ⟨b, o + 6, none⟩ = false

theorem SevG.block {w w' : World} {b o : Nat} {t : OpC} (h : SevG w b o t) (e : w'.heap[b]? = w.heap[b]?) : SevG w' b o t := by
  obtain ⟨x0, x1, x2, x3, x4, x5, x6⟩ := h
  exact ⟨(World.cell?_of_block (w := w) (a := ⟨b, o, none⟩) e).trans x0, (World.cell?_of_block (w := w) (a := ⟨b, o + 1, none⟩) e).trans x1, (World.cell?_of_block (w := w) (a := ⟨b, o + 2, none⟩) e).trans x2, (World.cell?_of_block (w := w) (a := ⟨b, o + 3, none⟩) e).trans x3, (World.cell?_of_block (w := w) (a := ⟨b, o + 4, none⟩) e).trans x4, (World.cell?_of_block (w := w) (a := ⟨b, o + 5, none⟩) e).trans x5, (World.cell?_of_block (w := w) (a := ⟨b, o + 6, none⟩) e).trans x6⟩

theorem SevF.block {w w' : World} {b o : Nat} (h : SevF w b o) (e : w'.heap[b]? = w.heap[b]?) : SevF w' b o := by
  obtain ⟨x0, x1, x2, x3, x4, x5, x6⟩ := h
  exact ⟨(World.frozen?_of_block (w := w) (a := ⟨b, o, none⟩) e).trans x0, (World.frozen?_of_block (w := w) (a := ⟨b, o + 1, none⟩) e).trans x1, (World.frozen?_of_block (w := w) (a := ⟨b, o + 2, none⟩) e).trans x2, (World.frozen?_of_block (w := w) (a := ⟨b, o + 3, none⟩) e).trans x3, (World.frozen?_of_block (w := w) (a := ⟨b, o + 4, none⟩) e).trans x4, (World.frozen?_of_block (w := w) (a := ⟨b, o + 5, none⟩) e).trans x5, (World.frozen?_of_block (w := w) (a := ⟨b, o + 6, none⟩) e).trans x6⟩

/-- A row of ops is read. -/
structure OSrc (w : World) (b q N : Nat) (T : Nat → OpC) : Prop where
  lt : b < w.heap.size
  sev : ∀ i, i < N → SevG w b (q + i * 7) (T i)

/-- A row of ops of the call's own. -/
structure OOwn (w : World) (lo hi b q N : Nat) (T : Nat → OpC) : Prop where
  glo : lo ≤ b
  ghi : b < hi
  lt : b < w.heap.size
  sev : ∀ i, i < N → SevG w b (q + i * 7) (T i)
  free : ∀ i, i < N → SevF w b (q + i * 7)

theorem OOwn.src {w : World} {lo hi b q N : Nat} {T : Nat → OpC} (h : OOwn w lo hi b q N T) : OSrc w b q N T := ⟨h.lt, h.sev⟩

theorem OSrc.below {w w' : World} {b q N : Nat} {T : Nat → OpC} (h : OSrc w b q N T) (hb : Below w.heap.size w w') : OSrc w' b q N T :=
  ⟨Nat.lt_of_lt_of_le h.lt hb.size, fun i hi => (h.sev i hi).block (hb.block b h.lt)⟩

theorem OOwn.below {w w' : World} {lo hi b q N : Nat} {T : Nat → OpC} (h : OOwn w lo hi b q N T) (hb : Below w.heap.size w w') : OOwn w' lo hi b q N T :=
  ⟨h.glo, h.ghi, Nat.lt_of_lt_of_le h.lt hb.size, fun i hi => (h.sev i hi).block (hb.block b h.lt), fun i hi => (h.free i hi).block (hb.block b h.lt)⟩

theorem OSrc.keeps {w w' : World} {lo hi b q N : Nat} {T : Nat → OpC} (h : OSrc w b q N T) (hk : Keeps w w' lo hi) (hd : b < lo ∨ hi ≤ b) : OSrc w' b q N T :=
  ⟨Nat.lt_of_lt_of_le h.lt hk.size, fun i hi => (h.sev i hi).block (hk.block b h.lt hd)⟩

theorem OOwn.keeps {w w' : World} {lo hi lo' hi' b q N : Nat} {T : Nat → OpC} (h : OOwn w lo hi b q N T) (hk : Keeps w w' lo' hi') (hd : hi ≤ lo' ∨ hi' ≤ lo) : OOwn w' lo hi b q N T := by
  have h1 := h.glo; have h2 := h.ghi
  exact ⟨h.glo, h.ghi, Nat.lt_of_lt_of_le h.lt hk.size, fun i hi => (h.sev i hi).block (hk.block b h.lt (by omega)), fun i hi => (h.free i hi).block (hk.block b h.lt (by omega))⟩

theorem OOwn.congr {w : World} {lo hi b q N : Nat} {T U : Nat → OpC} (h : OOwn w lo hi b q N T) (e : ∀ i, i < N → T i = U i) : OOwn w lo hi b q N U :=
  ⟨h.glo, h.ghi, h.lt, fun i hi => e i hi ▸ h.sev i hi, h.free⟩

theorem OSrc.congr {w : World} {b q N : Nat} {T U : Nat → OpC} (h : OSrc w b q N T) (e : ∀ i, i < N → T i = U i) : OSrc w b q N U :=
  ⟨h.lt, fun i hi => e i hi ▸ h.sev i hi⟩

theorem OOwn.widen {w : World} {lo hi lo' hi' b q N : Nat} {T : Nat → OpC} (h : OOwn w lo hi b q N T) (h1 : lo' ≤ lo) (h2 : hi ≤ hi') : OOwn w lo' hi' b q N T :=
  ⟨Nat.le_trans h1 h.glo, Nat.lt_of_lt_of_le h.ghi h2, h.lt, h.sev, h.free⟩

def OV (w : World) (a : Option Addr) (N : Nat) (T : Nat → OpC) : Prop := N = 0 ∨ ∃ b q, a = some ⟨b, q, none⟩ ∧ OSrc w b q N T

def OVO (w : World) (lo hi : Nat) (a : Option Addr) (N : Nat) (T : Nat → OpC) : Prop := N = 0 ∨ ∃ b q, a = some ⟨b, q, none⟩ ∧ OOwn w lo hi b q N T

theorem OVO.src {w : World} {lo hi N : Nat} {a : Option Addr} {T : Nat → OpC} (h : OVO w lo hi a N T) : OV w a N T := by
  rcases h with h0 | ⟨b, q, ha, h⟩
  · exact .inl h0
  · exact .inr ⟨b, q, ha, h.src⟩

theorem OV.below {w w' : World} {N : Nat} {a : Option Addr} {T : Nat → OpC} (h : OV w a N T) (hb : Below w.heap.size w w') : OV w' a N T := by
  rcases h with h0 | ⟨b, q, ha, h⟩
  · exact .inl h0
  · exact .inr ⟨b, q, ha, h.below hb⟩

theorem OVO.below {w w' : World} {lo hi N : Nat} {a : Option Addr} {T : Nat → OpC} (h : OVO w lo hi a N T) (hb : Below w.heap.size w w') : OVO w' lo hi a N T := by
  rcases h with h0 | ⟨b, q, ha, h⟩
  · exact .inl h0
  · exact .inr ⟨b, q, ha, h.below hb⟩

theorem OVO.keeps {w w' : World} {lo hi lo' hi' N : Nat} {a : Option Addr} {T : Nat → OpC} (h : OVO w lo hi a N T) (hk : Keeps w w' lo' hi') (hd : hi ≤ lo' ∨ hi' ≤ lo) : OVO w' lo hi a N T := by
  rcases h with h0 | ⟨b, q, ha, h⟩
  · exact .inl h0
  · exact .inr ⟨b, q, ha, h.keeps hk hd⟩

theorem OVO.widen {w : World} {lo hi lo' hi' N : Nat} {a : Option Addr} {T : Nat → OpC} (h : OVO w lo hi a N T) (h1 : lo' ≤ lo) (h2 : hi ≤ hi') : OVO w lo' hi' a N T := by
  rcases h with h0 | ⟨b, q, ha, h⟩
  · exact .inl h0
  · exact .inr ⟨b, q, ha, h.widen h1 h2⟩

theorem OV.drew {w : World} {N : Nat} {a : Option Addr} {T : Nat → OpC} (h : OV w a N T) : OV w.drew a N T := h.below (Below.refl _ _).drew

theorem OV.alloc {w : World} {N : Nat} {a : Option Addr} {T : Nat → OpC} (h : OV w a N T) (o : Obj) : OV (w.alloc o) a N T := h.below ((Below.refl _ _).alloc (Nat.le_refl _) o)

theorem OVO.drew {w : World} {lo hi N : Nat} {a : Option Addr} {T : Nat → OpC} (h : OVO w lo hi a N T) : OVO w.drew lo hi a N T := h.below (Below.refl _ _).drew

theorem OVO.alloc {w : World} {lo hi N : Nat} {a : Option Addr} {T : Nat → OpC} (h : OVO w lo hi a N T) (o : Obj) : OVO (w.alloc o) lo hi a N T := h.below ((Below.refl _ _).alloc (Nat.le_refl _) o)

theorem OV.congr {w : World} {N : Nat} {a : Option Addr} {T U : Nat → OpC} (h : OV w a N T) (e : ∀ i, i < N → T i = U i) : OV w a N U := by
  rcases h with h0 | ⟨b, q, ha, h⟩
  · exact .inl h0
  · exact .inr ⟨b, q, ha, h.congr e⟩

theorem OVO.congr {w : World} {lo hi N : Nat} {a : Option Addr} {T U : Nat → OpC} (h : OVO w lo hi a N T) (e : ∀ i, i < N → T i = U i) : OVO w lo hi a N U := by
  rcases h with h0 | ⟨b, q, ha, h⟩
  · exact .inl h0
  · exact .inr ⟨b, q, ha, h.congr e⟩

/-- An op is written. -/
def sevW (w : World) (b o : Nat) (t : OpC) : World := ((((((w.setCell ⟨b, o, none⟩ (.int .i64 t.te)).setCell ⟨b, o + 1, none⟩ (.int .i64 t.k)).setCell ⟨b, o + 2, none⟩ (.int .i64 t.h)).setCell ⟨b, o + 3, none⟩ (.int .i64 t.t)).setCell ⟨b, o + 4, none⟩ (.int .i64 t.i)).setCell ⟨b, o + 5, none⟩ (.int .i64 t.v)).setCell ⟨b, o + 6, none⟩ (.bool t.fo)

theorem sevW_at {w : World} {b o : Nat} {t0 : OpC} (h : SevG w b o t0) (t : OpC) : SevG (sevW w b o t) b o t := by
  obtain ⟨x0, x1, x2, x3, x4, x5, x6⟩ := h
  simp [sevW, SevG, x0, x1, x2, x3, x4, x5, x6, World.cell?_setCell_other, World.cell?_setCell_same']

theorem sevW_other {w : World} {b o o' : Nat} {u : OpC} (h : SevG w b o u) (hd : o + 7 ≤ o' ∨ o' + 7 ≤ o) (t : OpC) : SevG (sevW w b o' t) b o u := by
  have g : ∀ x, x < 7 → ∀ y, y < 7 → (⟨b, o' + y, none⟩ : Addr) ≠ ⟨b, o + x, none⟩ := fun x hx y hy e => by simp at e; try omega
  have k : ∀ x, x < 7 → (sevW w b o' t).cell? ⟨b, o + x, none⟩ = w.cell? ⟨b, o + x, none⟩ := fun x hx => by
    unfold sevW
    rw [World.cell?_setCell_other _ _ _ _ (g x hx 6 (by omega)), World.cell?_setCell_other _ _ _ _ (g x hx 5 (by omega)), World.cell?_setCell_other _ _ _ _ (g x hx 4 (by omega)), World.cell?_setCell_other _ _ _ _ (g x hx 3 (by omega)), World.cell?_setCell_other _ _ _ _ (g x hx 2 (by omega)), World.cell?_setCell_other _ _ _ _ (g x hx 1 (by omega)), World.cell?_setCell_other _ _ _ _ (show (⟨b, o', none⟩ : Addr) ≠ ⟨b, o + x, none⟩ from g x hx 0 (by omega))]
  obtain ⟨x0, x1, x2, x3, x4, x5, x6⟩ := h
  exact ⟨(k 0 (by omega)).trans x0, (k 1 (by omega)).trans x1, (k 2 (by omega)).trans x2, (k 3 (by omega)).trans x3, (k 4 (by omega)).trans x4, (k 5 (by omega)).trans x5, (k 6 (by omega)).trans x6⟩

theorem sevW_frozen (w : World) (b o : Nat) (t : OpC) (p : Addr) : (sevW w b o t).frozen? p = w.frozen? p := by simp [sevW, World.frozen?_setCell]

theorem sevW_keeps (w : World) (b o : Nat) (t : OpC) : Keeps w (sevW w b o t) b (b + 1) := by
  unfold sevW
  refine Keeps.trans ?_ (keeps_setCell (p := ⟨b, o + 6, none⟩) (Nat.le_refl b) (Nat.lt_succ_self b) _)
  refine Keeps.trans ?_ (keeps_setCell (p := ⟨b, o + 5, none⟩) (Nat.le_refl b) (Nat.lt_succ_self b) _)
  refine Keeps.trans ?_ (keeps_setCell (p := ⟨b, o + 4, none⟩) (Nat.le_refl b) (Nat.lt_succ_self b) _)
  refine Keeps.trans ?_ (keeps_setCell (p := ⟨b, o + 3, none⟩) (Nat.le_refl b) (Nat.lt_succ_self b) _)
  refine Keeps.trans ?_ (keeps_setCell (p := ⟨b, o + 2, none⟩) (Nat.le_refl b) (Nat.lt_succ_self b) _)
  refine Keeps.trans ?_ (keeps_setCell (p := ⟨b, o + 1, none⟩) (Nat.le_refl b) (Nat.lt_succ_self b) _)
  exact keeps_setCell (p := ⟨b, o, none⟩) (Nat.le_refl b) (Nat.lt_succ_self b) _

/-- One op of a row is laid. -/
theorem oown_put {w : World} {lo hi b q N i : Nat} {U : Nat → OpC} {t : OpC} (h : OOwn w lo hi b q N U) (hi' : i < N) : OOwn (sevW w b (q + i * 7) t) lo hi b q N (fun j => if j = i then t else U j) ∧ Keeps w (sevW w b (q + i * 7) t) lo hi := by
  have k5 := sevW_keeps w b (q + i * 7) t
  have h1 := h.glo; have h2 := h.ghi
  refine ⟨⟨h.glo, h.ghi, Nat.lt_of_lt_of_le h.lt k5.size, fun j hj => ?_, fun j hj => ?_⟩, k5.widen h1 (by omega)⟩
  · by_cases e : j = i
    · subst e; rw [if_pos rfl]; exact sevW_at (h.sev j hj) t
    · rw [if_neg e]; exact sevW_other (h.sev j hj) (by omega) t
  · obtain ⟨x0, x1, x2, x3, x4, x5, x6⟩ := h.free j hj
    exact ⟨(sevW_frozen _ _ _ _ _).trans x0, (sevW_frozen _ _ _ _ _).trans x1, (sevW_frozen _ _ _ _ _).trans x2, (sevW_frozen _ _ _ _ _).trans x3, (sevW_frozen _ _ _ _ _).trans x4, (sevW_frozen _ _ _ _ _).trans x5, (sevW_frozen _ _ _ _ _).trans x6⟩

def omkd (k : Int) : OpC := ⟨k, k + 1, k + 1 + 1, k + 1 + 1 + 1, k + 1 + 1 + 1 + 1, k + 1 + 1 + 1 + 1 + 1, ((k + 1 + 1 + 1 + 1 + 1 + 1) % 3 == 0)⟩
end Go.Proofs.Ytpmhbdiddcnhfaa

namespace Go.Proofs.Ytpmhbdiddcnhfaa
open Go.RowKit
set_option linter.unusedVariables false

set_option maxRecDepth 100000 in
set_option maxHeartbeats 1600000 in
theorem heldOpS_any (a : Option Addr) (N c : Nat) (k : Int) (w : World) (hs : OV w a N (fun j => omkd (k + 7 * (j : Int)))) (hk0 : 0 ≤ k) (hk1 : k + 7 * (N : Int) ≤ 16777216) :
    Calls Try.prog 63 #[.slice a N c, .int .i64 k] w fun e w' => e = .returned (.int .i64 (k + 7 * (N : Int))) ∧ w = w' := by
  have H := Lib.hid hs
  clear hs
  go_enter Try.func63, Try.ntmps63
  go_wp2
  go_loop [1, 5] (fun u p => ∃ i : Nat, i ≤ N ∧ p = .int .i64 i ∧ u = .int .i64 (k + 7 * (i : Int))) (fun _ p => N - (intOf p).toNat)
  case atStart => exact ⟨0, Nat.zero_le _, rfl, by simp⟩
  case round =>
    obtain ⟨i, hi, rfl, rfl⟩ := hrel
    by_cases hlt : i < N
    · have hlt' : (i : Int) < (N : Int) := by omega
      have hi0 : (0 : Int) ≤ (i : Int) := by omega
      rcases H.out with h0 | ⟨b, q, rfl, hg⟩
      · omega
      obtain ⟨x0, x1, x2, x3, x4, x5, x6⟩ := hg.sev i hlt
      have hlt0 := hg.lt
      simp only [omkd] at x0 x1 x2 x3 x4 x5 x6
      generalize hK : k + 7 * (i : Int) = K at *
      have hK0 : 0 ≤ K := by omega
      have hK1 : K + 7 ≤ 16777216 := by omega
      have HKK := Lib.hid hK
      clear hK hg
      go_wp2
      go_round
      case rel => exact ⟨i + 1, by omega, by go_num, by have := HKK.out; go_num⟩
      case measure => simp [intOf]; omega
    · go_wp2
      go_ret
      obtain rfl : i = N := by omega
      exact ⟨rfl, rfl⟩

set_option maxRecDepth 100000 in
set_option maxHeartbeats 1600000 in
theorem markOpS_any (a : Option Addr) (lo hi N c : Nat) (T : Nat → OpC) (k : Int) (w : World) (hs : OVO w lo hi a N T) (hk0 : 0 ≤ k) (hk1 : k + 7 * (N : Int) ≤ 16777216) :
    Calls Try.prog 16 #[.slice a N c, .int .i64 k] w fun e w' => e = .returned (.int .i64 (k + 7 * (N : Int))) ∧ OVO w' lo hi a N (fun j => omkd (k + 7 * (j : Int))) ∧ Keeps w w' lo hi := by
  have H := Lib.hid hs
  clear hs
  go_enter Try.func16, Try.ntmps16
  go_wp2
  go_loopw [1, 5] (fun u p wr => ∃ i : Nat, i ≤ N ∧ p = .int .i64 i ∧ u = .int .i64 (k + 7 * (i : Int)) ∧ Hid (Keeps w wr lo hi) ∧ Hid (OVO wr lo hi a N (fun j => if j < i then omkd (k + 7 * (j : Int)) else T j))) (fun _ p _ => N - (intOf p).toNat)
  case atStart => exact ⟨0, Nat.zero_le _, rfl, by simp, Keeps.refl _ _ _, by simpa using H⟩
  case round =>
    obtain ⟨i, hi9, rfl, rfl, HK, HR⟩ := hrel
    by_cases hlt : i < N
    · have hlt' : (i : Int) < (N : Int) := by omega
      have hi0 : (0 : Int) ≤ (i : Int) := by omega
      rcases HR.out with h0 | ⟨b, q, rfl, hg⟩
      · omega
      obtain ⟨x0, x1, x2, x3, x4, x5, x6⟩ := hg.sev i hlt
      obtain ⟨f0, f1, f2, f3, f4, f5, f6⟩ := hg.free i hlt
      have hlt0 := hg.lt
      generalize hK : k + 7 * (i : Int) = K at *
      have hK0 : 0 ≤ K := by omega
      have hK1 : K + 7 ≤ 16777216 := by omega
      have HKK := Lib.hid hK
      have HQ := Lib.hid (oown_put (i := i) (t := omkd K) hg hlt)
      clear hK hg HR
      go_wp2
      go_roundw
      case rel =>
        refine ⟨i + 1, by omega, by go_num, by have := HKK.out; go_num, HK.out.trans HQ.out.2, .inr ⟨b, q, rfl, HQ.out.1.congr fun j hj => ?_⟩⟩
        by_cases e : j = i
        · subst e
          simp only [if_true, Nat.lt_succ_self, HKK.out]
        · rw [if_neg e]
          have h2 : (j < i + 1) = (j < i) := by simp only [eq_iff_iff]; omega
          simp only [h2]
      case measure => simp [intOf]; omega
    · go_wp2
      go_ret
      obtain rfl : i = N := by omega
      refine ⟨rfl, ?_, HK.out⟩
      exact HR.out.congr fun j hj => by simp [hj]
end Go.Proofs.Ytpmhbdiddcnhfaa

namespace Go.Proofs.Ytpmhbdiddcnhfaa
open Go.RowKit
set_option linter.unusedVariables false

set_option maxRecDepth 100000 in
set_option maxHeartbeats 400000 in
theorem eqOp_same (t : OpC) (w : World) :
    Calls Try.prog 62 #[.agg #[.int .i64 t.te, .int .i64 t.k, .int .i64 t.h, .int .i64 t.t, .int .i64 t.i, .int .i64 t.v, .bool t.fo], .agg #[.int .i64 t.te, .int .i64 t.k, .int .i64 t.h, .int .i64 t.t, .int .i64 t.i, .int .i64 t.v, .bool t.fo]] w (RetBool w true) := by
  go_enter Try.func62, Try.ntmps62
  go_wp2
  go_ret
  exact ⟨rfl, ((Below.refl _ _).alloc (Nat.le_refl _) _).alloc (by simp) _⟩

theorem sevsG {w : World} {g1 g2 q1 q2 i : Nat} {t u : OpC} (h1 : SevG w g1 (q1 + i * 7) t) (h2 : SevG w g2 (q2 + i * 7) u) : w.cell? ⟨g1, q1 + i * 7, none⟩ = some (.int .i64 t.te) ∧ w.cell? ⟨g1, q1 + i * 7 + 1, none⟩ = some (.int .i64 t.k) ∧ w.cell? ⟨g1, q1 + i * 7 + 2, none⟩ = some (.int .i64 t.h) ∧ w.cell? ⟨g1, q1 + i * 7 + 3, none⟩ = some (.int .i64 t.t) ∧ w.cell? ⟨g1, q1 + i * 7 + 4, none⟩ = some (.int .i64 t.i) ∧ w.cell? ⟨g1, q1 + i * 7 + 5, none⟩ = some (.int .i64 t.v) ∧ w.cell? ⟨g1, q1 + i * 7 + 6, none⟩ = some (.bool t.fo) ∧ w.cell? ⟨g2, q2 + i * 7, none⟩ = some (.int .i64 u.te) ∧ w.cell? ⟨g2, q2 + i * 7 + 1, none⟩ = some (.int .i64 u.k) ∧ w.cell? ⟨g2, q2 + i * 7 + 2, none⟩ = some (.int .i64 u.h) ∧ w.cell? ⟨g2, q2 + i * 7 + 3, none⟩ = some (.int .i64 u.t) ∧ w.cell? ⟨g2, q2 + i * 7 + 4, none⟩ = some (.int .i64 u.i) ∧ w.cell? ⟨g2, q2 + i * 7 + 5, none⟩ = some (.int .i64 u.v) ∧ w.cell? ⟨g2, q2 + i * 7 + 6, none⟩ = some (.bool u.fo) := by
  obtain ⟨x0, x1, x2, x3, x4, x5, x6⟩ := h1
  obtain ⟨y0, y1, y2, y3, y4, y5, y6⟩ := h2
  exact ⟨x0, x1, x2, x3, x4, x5, x6, y0, y1, y2, y3, y4, y5, y6⟩

set_option maxRecDepth 100000 in
set_option maxHeartbeats 1600000 in
theorem eqOpS_same (a1 a2 : Option Addr) (N k1 k2 : Nat) (T U : Nat → OpC) (w : World) (h1 : OV w a1 N T) (h2 : OV w a2 N U) (he : ∀ i, i < N → T i = U i) (hN : N ≤ 1048576) :
    Calls Try.prog 15 #[.slice a1 N k1, .slice a2 N k2] w (RetBool w true) := by
  have H1 := Lib.hid h1; have H2 := Lib.hid (h2.congr fun i hi => (he i hi).symm)
  clear h1 h2 he
  go_enter Try.func15, Try.ntmps15
  go_wp2
  go_loopw [5] (fun p wr => ∃ i : Nat, i ≤ N ∧ p = .int .i64 (i : Int) ∧ Hid (Below w.heap.size w wr)) (fun p _ => N - (intOf p).toNat)
  case atStart => exact ⟨0, Nat.zero_le _, rfl, Below.refl _ _⟩
  case round =>
    obtain ⟨i, hi, rfl, HBr⟩ := hrel
    by_cases hlt : i < N
    · have hlt' : (i : Int) < (N : Int) := by omega
      have hi0 : (0 : Int) ≤ (i : Int) := by omega
      rcases H1.out.below HBr.out with h0 | ⟨g1, q1, rfl, r1⟩
      · omega
      rcases H2.out.below HBr.out with h0 | ⟨g2, q2, rfl, r2⟩
      · omega
      have X1 := Lib.hid (r1.sev i hlt); have Y1 := Lib.hid (r2.sev i hlt)
      have l1' := r1.lt; have l2' := r2.lt
      have hzr := HBr.out.size
      have Xd := Lib.hid ((r1.below (Below.refl _ _).drew).sev i hlt); have Yd := Lib.hid ((r2.below (Below.refl _ _).drew).sev i hlt)
      clear r1 r2
      generalize T i = t at *
      go_wp2_with fail
      go_region_held3 (fun w' => w'.cell? ⟨g1, q1 + i * 7, none⟩ = some (.int .i64 t.te) ∧ w'.cell? ⟨g1, q1 + i * 7 + 1, none⟩ = some (.int .i64 t.k) ∧ w'.cell? ⟨g1, q1 + i * 7 + 2, none⟩ = some (.int .i64 t.h) ∧ w'.cell? ⟨g1, q1 + i * 7 + 3, none⟩ = some (.int .i64 t.t) ∧ w'.cell? ⟨g1, q1 + i * 7 + 4, none⟩ = some (.int .i64 t.i) ∧ w'.cell? ⟨g1, q1 + i * 7 + 5, none⟩ = some (.int .i64 t.v) ∧ w'.cell? ⟨g1, q1 + i * 7 + 6, none⟩ = some (.bool t.fo) ∧ w'.cell? ⟨g2, q2 + i * 7, none⟩ = some (.int .i64 t.te) ∧ w'.cell? ⟨g2, q2 + i * 7 + 1, none⟩ = some (.int .i64 t.k) ∧ w'.cell? ⟨g2, q2 + i * 7 + 2, none⟩ = some (.int .i64 t.h) ∧ w'.cell? ⟨g2, q2 + i * 7 + 3, none⟩ = some (.int .i64 t.t) ∧ w'.cell? ⟨g2, q2 + i * 7 + 4, none⟩ = some (.int .i64 t.i) ∧ w'.cell? ⟨g2, q2 + i * 7 + 5, none⟩ = some (.int .i64 t.v) ∧ w'.cell? ⟨g2, q2 + i * 7 + 6, none⟩ = some (.bool t.fo))
        (first | (with_reducible exact sevsG X1.out Y1.out) | (with_reducible exact sevsG Xd.out Yd.out) | (with_reducible exact sevsG X2.out Y2.out))
        (first | (go_at_call 62; refine (eqOp_same t _).mono ?_; rintro e w2 ⟨rfl, hb⟩; have HB2 := Lib.hid (thru0 (Below.refl wr.heap.size wr).drew hb); have X2 := Lib.hid (X1.out.block (HB2.out.block _ l1')); have Y2 := Lib.hid (Y1.out.block (HB2.out.block _ l2')); clear hb))
      have HB3 := Lib.hid (HBr.out.trans (HB2.out.mono hzr))
      go_wp2
      go_roundw
      case rel => exact ⟨i + 1, by omega, by go_num, HB3⟩
      case measure => simp [intOf]; omega
    · go_wp2
      go_ret
      exact ⟨rfl, HBr.out⟩

set_option maxRecDepth 100000 in
set_option maxHeartbeats 400000 in
theorem szOpS_ok (a : Option Addr) (N c : Nat) (l : Int) (w : World) (hl0 : 0 ≤ l) (hl : l ≤ 1048576) (hn : N ≤ maxLen) (hh : N ≤ l) :
    Calls Try.prog 10 #[.slice a N c, .int .i64 l] w fun e w' => e = .returned (.int .i64 (l - N)) ∧ w = w' := by
  unfold maxLen at hn
  go_enter Try.func10, Try.ntmps10
  go_wp2
  go_ret
  exact ⟨by go_num, rfl⟩

set_option maxRecDepth 100000 in
set_option maxHeartbeats 400000 in
theorem szOpS_no (a : Option Addr) (N c : Nat) (l : Int) (w : World) (hl0 : 0 ≤ l) (hl : l ≤ 1048576) (hn : N ≤ maxLen) (hh : l < N) :
    Calls Try.prog 10 #[.slice a N c, .int .i64 l] w fun e w' => e = .returned (.int .i64 (-1)) ∧ w = w' := by
  unfold maxLen at hn
  go_enter Try.func10, Try.ntmps10
  go_wp2
  go_ret
  exact ⟨rfl, rfl⟩
end Go.Proofs.Ytpmhbdiddcnhfaa

namespace Go.Proofs.Ytpmhbdiddcnhfaa
open Go.RowKit
set_option linter.unusedVariables false

set_option maxRecDepth 100000 in
set_option maxHeartbeats 800000 in
theorem toOpT_any (t : OpC) (w : World) :
    Calls Try.prog 60 #[.agg #[.int .i64 t.te, .int .i64 t.k, .int .i64 t.h, .int .i64 t.t, .int .i64 t.i, .int .i64 t.v, .bool t.fo]] w fun e w' => e = .returned (.agg #[.int .i64 t.te, .int .i64 t.k, .int .i64 t.h, .int .i64 t.t, .int .i64 t.i, .int .i64 t.v, .bool t.fo]) ∧ Below w.heap.size w w' := by
  go_enter Try.func60, Try.ntmps60
  go_wp2
  refine bodyPost_ret (v := .agg #[.int .i64 t.te, .int .i64 t.k, .int .i64 t.h, .int .i64 t.t, .int .i64 t.i, .int .i64 t.v, .bool t.fo]) (by simp [results, Try.results60, go_sem]) rfl ⟨rfl, ?_⟩
  repeat (first | (with_reducible refine Below.setCell ?_ (by (try simp); (try omega)) _) | (with_reducible refine Below.alloc ?_ (by (try simp); (try omega)) _))
  exact Below.refl _ _

theorem Try.infoOP : (Try.prog.info? 96).map (fun i => (i.zero, i.size, i.bytes)) = some (some (.agg #[.int .i64 0, .int .i64 0, .int .i64 0, .int .i64 0, .int .i64 0, .int .i64 0, .bool false]), 7, 56) := by kernel_rfl

theorem Try.underlyingROP : Try.prog.underlying 24 = some (.slice 96) := by kernel_rfl

/-- A row of zero ops. -/
theorem oown_made {w : World} {lo b N cap : Nat} (h : w.ownsRow lo 96 7 (.slice (some ⟨b, 0, none⟩) N cap) N (madeCells #[.int .i64 0, .int .i64 0, .int .i64 0, .int .i64 0, .int .i64 0, .int .i64 0, .bool false] (N * 7)).toList) (hl : lo ≤ b) (hp : 0 < N) : OOwn w lo w.heap.size b 0 N (fun _ => ⟨0, 0, 0, 0, 0, 0, false⟩) := by
  have hlt : b < w.heap.size := by
    rcases h.2 with ⟨h', _⟩ | ⟨g', cap', cur, h', _, hg, _⟩
    · cases h'
    · simp only [Value.slice.injEq, Option.some.injEq, Addr.mk.injEq, and_true, true_and] at h'
      obtain ⟨rfl, rfl⟩ := h'
      exact (Array.getElem?_eq_some_iff.mp hg).1
  have hc : ∀ i, i < N → ∀ j, j < 7 → w.cell? ⟨b, i * 7 + j, none⟩ = some (#[.int .i64 0, .int .i64 0, .int .i64 0, .int .i64 0, .int .i64 0, .int .i64 0, .bool false] : Array Value)[(i * 7 + j) % 7]! := fun i hi j hj => by
    have := h.cellAt (i * 7 + j) (by omega)
    rw [made_get _ _ _ (by omega)] at this
    simpa using this
  refine ⟨hl, hlt, hlt, fun i hi => ?_, fun i hi => ?_⟩
  · have m : ∀ j, j < 7 → (i * 7 + j) % 7 = j := fun j hj => by omega
    rw [Nat.zero_add]
    have k := fun j hj => hc i hi j hj
    have e : ∀ j, (hj : j < 7) → w.cell? ⟨b, i * 7 + j, none⟩ = some (#[.int .i64 0, .int .i64 0, .int .i64 0, .int .i64 0, .int .i64 0, .int .i64 0, .bool false] : Array Value)[j]! := fun j hj => by rw [k j hj, m j hj]
    exact ⟨e 0 (by omega), e 1 (by omega), e 2 (by omega), e 3 (by omega), e 4 (by omega), e 5 (by omega), e 6 (by omega)⟩
  · rw [Nat.zero_add]
    exact ⟨h.frozenAt _, h.frozenAt _, h.frozenAt _, h.frozenAt _, h.frozenAt _, h.frozenAt _, h.frozenAt _⟩

/-- A new row of ops that holds the same. -/
def RetOps (W : World) (N : Nat) (T : Nat → OpC) (e : Ending) (w' : World) : Prop :=
  ∃ a c, e = .returned (.slice a N c) ∧ OVO w' W.heap.size w'.heap.size a N T ∧ Below W.heap.size W w'
end Go.Proofs.Ytpmhbdiddcnhfaa

namespace Go.Proofs.Ytpmhbdiddcnhfaa
open Go.RowKit
set_option linter.unusedVariables false

/-- What is taken of a row: the things at the places where something is so. -/
def selL {α : Type} (p : Nat → Bool) (f : Nat → α) : Nat → List α
  | 0 => []
  | n + 1 => if p n then selL p f n ++ [f n] else selL p f n

def oz : OpC := ⟨0, 0, 0, 0, 0, 0, false⟩

def oT (M : List OpC) (i : Nat) : OpC := M[i]?.getD oz

theorem oT_at {M : List OpC} {i : Nat} {t : OpC} (h : M[i]? = some t) : oT M i = t := by simp [oT, h]

def ocells (t : OpC) : List Value := [.int .i64 t.te, .int .i64 t.k, .int .i64 t.h, .int .i64 t.t, .int .i64 t.i, .int .i64 t.v, .bool t.fo]

def rowO (M : List OpC) : List Value := M.flatMap ocells

theorem rowO_snoc (M : List OpC) (t : OpC) : rowO (M ++ [t]) = rowO M ++ ocells t := by simp [rowO]

theorem rowO_app (M L : List OpC) : rowO (M ++ L) = rowO M ++ rowO L := by simp [rowO]

theorem rowO_len : ∀ (M : List OpC), (rowO M).length = M.length * 7
  | [] => rfl
  | t :: M => by
    have := rowO_len M
    simp only [rowO, List.flatMap_cons, List.length_append] at this ⊢
    rw [this]; simp [ocells]; omega

theorem rowO_get : ∀ (M : List OpC) (i : Nat) (t : OpC), M[i]? = some t → ∀ j, j < 7 → (rowO M)[i * 7 + j]? = (ocells t)[j]?
  | [], i, t, h, j, hj => by simp at h
  | u :: M, 0, t, h, j, hj => by
    simp only [List.getElem?_cons_zero, Option.some.injEq] at h
    subst h
    simp only [rowO, List.flatMap_cons, Nat.zero_mul, Nat.zero_add]
    rw [List.getElem?_append_left (by simp [ocells]; omega)]
  | u :: M, i + 1, t, h, j, hj => by
    have ih := rowO_get M i t (by simpa using h) j hj
    simp only [rowO, List.flatMap_cons] at ih ⊢
    rw [List.getElem?_append_right (by simp [ocells]; omega)]
    have e : (i + 1) * 7 + j - (ocells u).length = i * 7 + j := by simp [ocells]; omega
    rw [e]; exact ih

theorem op_one (t : OpC) : ∀ u ∈ ocells t, u.oneCell' = true := by
  intro u hu
  simp [ocells] at hu
  rcases hu with rfl | rfl | rfl | rfl | rfl | rfl | rfl <;> rfl

theorem rowO_one : ∀ (M : List OpC), ∀ u ∈ rowO M, u.oneCell' = true := by
  intro M u hu
  simp only [rowO, List.mem_flatMap] at hu
  obtain ⟨t, _, hu⟩ := hu
  exact op_one t u hu

theorem cells_new7 (w : World) (t : OpC) (b : Nat) (hb : w.heap.size = b) : ∀ j u, (ocells t)[j]? = some u → (w.alloc (.cells #[.int .i64 t.te, .int .i64 t.k, .int .i64 t.h, .int .i64 t.t, .int .i64 t.i, .int .i64 t.v, .bool t.fo] 96)).cell? ((⟨b, 0, none⟩ : Addr).add j) = some u := fun j u h => by
  subst hb
  have := ((Blk.new w #[.int .i64 t.te, .int .i64 t.k, .int .i64 t.h, .int .i64 t.t, .int .i64 t.i, .int .i64 t.v, .bool t.fo] 96).2 j u h).1
  cases j with
  | zero => exact this
  | succ j => simpa [Addr.add] using this

/-- A row of the call's own, out of the kit's word for it. -/
theorem rowO_own {w : World} {base : Nat} {v : Value} {M : List OpC} (h : w.ownsRow base 96 7 v M.length (rowO M)) : ∃ a c, v = .slice a M.length c ∧ OVO w base w.heap.size a M.length (oT M) ∧ M.length ≤ c ∧ c ≤ maxLen := by
  obtain ⟨a, c, rfl, hc1, hc2, _⟩ := row_shape2 h
  refine ⟨a, c, rfl, ?_, hc1, hc2⟩
  rcases Nat.eq_zero_or_pos M.length with h0 | hp
  · exact .inl h0
  · obtain ⟨gb, cap, e, hb, hlt⟩ := h.form hp
    simp only [Value.slice.injEq] at e
    obtain ⟨rfl, -, rfl⟩ := e
    have hce : ∀ i t, M[i]? = some t → ∀ j u, (ocells t)[j]? = some u → w.cell? ⟨gb, i * 7 + j, none⟩ = some u := fun i t ht j u hu => by
      have hi : i < M.length := (List.getElem?_eq_some_iff.mp ht).1
      have hj : j < 7 := by
        have := (List.getElem?_eq_some_iff.mp hu).1
        simpa [ocells] using this
      have hc := h.cellAt (i * 7 + j) (by omega)
      rw [rowO_get M i t ht j hj, hu] at hc
      simpa using hc
    refine .inr ⟨gb, 0, rfl, hb, hlt, hlt, fun i hi => ?_, fun i hi => ?_⟩
    · have ht := List.getElem?_eq_getElem hi
      rw [oT_at ht, Nat.zero_add]
      exact ⟨hce i _ ht 0 _ rfl, hce i _ ht 1 _ rfl, hce i _ ht 2 _ rfl, hce i _ ht 3 _ rfl, hce i _ ht 4 _ rfl, hce i _ ht 5 _ rfl, hce i _ ht 6 _ rfl⟩
    · rw [Nat.zero_add]
      have hfr : ∀ k, w.frozen? ⟨gb, k, none⟩ = false := fun k => by
        have := h.frozenAt k
        simpa using this
      exact ⟨hfr _, hfr _, hfr _, hfr _, hfr _, hfr _, hfr _⟩

theorem Try.infoOPl : (Try.prog.info? 96).map (fun i => (i.zero, i.size, i.bytes)) = some (some (.agg #[.int .i64 0, .int .i64 0, .int .i64 0, .int .i64 0, .int .i64 0, .int .i64 0, .bool false]), 7, 56) := by kernel_rfl

theorem Try.underlyingROPl : Try.prog.underlying 24 = some (.slice 96) := by kernel_rfl

theorem ov_get {w : World} {a : Option Addr} {N : Nat} {T : Nat → OpC} (h : OV w a N T) {i : Nat} (hi : i < N) : ∃ b q, a = some ⟨b, q, none⟩ ∧ b < w.heap.size ∧ SevG w b (q + i * 7) (T i) := by
  rcases h with h0 | ⟨b, q, ha, hg⟩
  · omega
  · exact ⟨b, q, ha, hg.lt, hg.sev i hi⟩

/-- An answer with a code and a row of ops of its own. -/
def RetOpR (W : World) (co : Int) (N : Nat) (U : Nat → OpC) (e : Ending) (w' : World) : Prop :=
  ∃ a c, e = .returned (.agg #[.int .i64 co, .slice a N c]) ∧ OVO w' W.heap.size w'.heap.size a N U ∧ Below W.heap.size W w'
end Go.Proofs.Ytpmhbdiddcnhfaa

namespace Go.Proofs.Ytpmhbdiddcnhfaa
open Go.RowKit
set_option linter.unusedVariables false

set_option maxRecDepth 100000 in
set_option maxHeartbeats 800000 in
theorem eqOpsResult_same (co : Int) (a b : Option Addr) (N ac bc : Nat) (T U : Nat → OpC) (w : World) (h1 : OV w a N T) (h2 : OV w b N U) (he : ∀ i, i < N → T i = U i) (hN : N ≤ 1048576) :
    Calls Try.prog 14 #[.agg #[.int .i64 co, .slice a N ac], .agg #[.int .i64 co, .slice b N bc]] w (RetBool w true) := by
  have H1 := Lib.hid h1; have H2 := Lib.hid h2; have HE := Lib.hid he
  have HB0 := Lib.hid (((Below.refl w.heap.size w).alloc (Nat.le_refl _) (.cells #[.int .i64 co, .slice a N ac] 26)).alloc (by simp) (.cells #[.int .i64 co, .slice b N bc] 26))
  clear h1 h2 he
  go_enter Try.func14, Try.ntmps14
  go_wp2_with fail
  refine (eqOpS_same a b N ac bc T U _ (H1.out.below HB0.out) (H2.out.below HB0.out) HE.out hN).mono ?_
  rintro e w1 ⟨rfl, hb⟩
  have HB1 := Lib.hid (thru0 HB0.out hb)
  clear hb
  go_wp2
  go_ret
  exact ⟨rfl, HB1.out⟩

set_option maxRecDepth 100000 in
set_option maxHeartbeats 800000 in
theorem markOpsResult_any (co : Int) (a : Option Addr) (lo hi N ac : Nat) (T : Nat → OpC) (k : Int) (w : World) (hs : OVO w lo hi a N T) (hk0 : 0 ≤ k) (hk1 : k + 7 * (N : Int) ≤ 16777216) (hh : hi ≤ w.heap.size) :
    Calls Try.prog 17 #[.agg #[.int .i64 co, .slice a N ac], .int .i64 k] w fun e w' => e = .returned (.int .i64 (k + 7 * (N : Int))) ∧ OVO w' lo hi a N (fun j => omkd (k + 7 * (j : Int))) ∧ Keeps w w' lo hi := by
  have H := Lib.hid (hs.below ((Below.refl w.heap.size w).alloc (Nat.le_refl _) (.cells #[.int .i64 co, .slice a N ac] 26)))
  have HK0 := Lib.hid ((Below.refl w.heap.size w).alloc (Nat.le_refl _) (.cells #[.int .i64 co, .slice a N ac] 26))
  clear hs
  go_enter Try.func17, Try.ntmps17
  go_wp2_with fail
  refine (markOpS_any a lo hi N ac T k _ H.out hk0 hk1).mono ?_
  rintro e w1 ⟨rfl, hm, hk⟩
  have HM := Lib.hid hm
  have HKK := Lib.hid ((keeps_of_below HK0.out lo hi).trans hk)
  clear hm hk
  go_wp2
  go_ret
  exact ⟨rfl, HM.out, HKK.out⟩

set_option maxRecDepth 100000 in
set_option maxHeartbeats 800000 in
theorem heldOpsResult_any (co : Int) (a : Option Addr) (N ac : Nat) (k : Int) (w : World) (hs : OV w a N (fun j => omkd (k + 7 * (j : Int)))) (hk0 : 0 ≤ k) (hk1 : k + 7 * (N : Int) ≤ 16777216) :
    Calls Try.prog 18 #[.agg #[.int .i64 co, .slice a N ac], .int .i64 k] w fun e w' => e = .returned (.int .i64 (k + 7 * (N : Int))) ∧ Below w.heap.size w w' := by
  have H := Lib.hid (hs.below ((Below.refl w.heap.size w).alloc (Nat.le_refl _) (.cells #[.int .i64 co, .slice a N ac] 26)))
  have HB0 := Lib.hid ((Below.refl w.heap.size w).alloc (Nat.le_refl _) (.cells #[.int .i64 co, .slice a N ac] 26))
  have h9 : ¬ k + 7 * (N : Int) < 0 := by omega
  clear hs
  go_enter Try.func18, Try.ntmps18
  go_wp2_with fail
  refine (heldOpS_any a N ac k _ H.out hk0 hk1).mono ?_
  rintro e w1 ⟨rfl, rfl⟩
  go_wp2
  go_ret
  exact ⟨rfl, HB0.out⟩
end Go.Proofs.Ytpmhbdiddcnhfaa

namespace Go.Proofs.Ytpmhbdiddcnhfaa
open Go.RowKit
set_option linter.unusedVariables false

/-- All of a row, as a list. -/
def allO (T : Nat → OpC) (N : Nat) : List OpC := selL (fun _ => true) T N

theorem allO_len (T : Nat → OpC) : ∀ N, (allO T N).length = N
  | 0 => rfl
  | N + 1 => by
    have := allO_len T N
    simp only [allO, selL, if_true, List.length_append, List.length_cons, List.length_nil] at this ⊢
    omega

theorem allO_get (T : Nat → OpC) : ∀ N i, i < N → (allO T N)[i]? = some (T i)
  | 0, i, h => absurd h (Nat.not_lt_zero _)
  | N + 1, i, h => by
    have hl := allO_len T N
    have e : allO T (N + 1) = allO T N ++ [T N] := by simp [allO, selL]
    rw [e]
    rcases Nat.lt_succ_iff_lt_or_eq.mp h with h1 | rfl
    · rw [List.getElem?_append_left (by omega)]; exact allO_get T N i h1
    · rw [List.getElem?_append_right (by omega), hl]; simp

theorem rowO_at (M : List OpC) (j : Nat) (u : Value) (h : (rowO M)[j]? = some u) : ∃ t, M[j / 7]? = some t ∧ j / 7 < M.length ∧ (ocells t)[j % 7]? = some u := by
  have hl : j < M.length * 7 := by rw [← rowO_len M]; exact (List.getElem?_eq_some_iff.mp h).1
  have hi : j / 7 < M.length := by omega
  have ht := List.getElem?_eq_getElem hi
  have := rowO_get M (j / 7) _ ht (j % 7) (by omega)
  rw [show j / 7 * 7 + j % 7 = j by omega, h] at this
  exact ⟨_, ht, hi, this.symm⟩

theorem sev_cells {w : World} {b o : Nat} {t : OpC} (h : SevG w b o t) : ∀ j u, (ocells t)[j]? = some u → w.cell? ⟨b, o + j, none⟩ = some u := by
  obtain ⟨x0, x1, x2, x3, x4, x5, x6⟩ := h
  intro j u hu
  rcases j with _ | _ | _ | _ | _ | _ | _ | j
  · simp [ocells] at hu; subst hu; exact x0
  · simp [ocells] at hu; subst hu; exact x1
  · simp [ocells] at hu; subst hu; exact x2
  · simp [ocells] at hu; subst hu; exact x3
  · simp [ocells] at hu; subst hu; exact x4
  · simp [ocells] at hu; subst hu; exact x5
  · simp [ocells] at hu; subst hu; exact x6
  · simp [ocells] at hu

/-- The cells of a row that is read. -/
theorem ov_news {w : World} {ad : Addr} {N : Nat} {T : Nat → OpC} (h : OV w (some ad) N T) : ∀ (j : Nat) (u : Value), (rowO (allO T N))[j]? = some u → w.cell? (ad.add j) = some u := fun j u hu => by
  obtain ⟨t, ht, hi, hc⟩ := rowO_at _ j u hu
  rw [allO_len] at hi
  rcases h with h0 | ⟨b, q, e, hg⟩
  · omega
  · simp only [Option.some.injEq] at e
    subst e
    rw [allO_get T N _ hi] at ht
    simp only [Option.some.injEq] at ht
    subst ht
    have := sev_cells (hg.sev _ hi) _ _ hc
    have e : (⟨b, q, none⟩ : Addr).add j = ⟨b, q + j / 7 * 7 + j % 7, none⟩ := by
      have : q + j / 7 * 7 + j % 7 = q + j := by omega
      rw [this]; cases j <;> simp [Addr.add]
    rw [e]; exact this

theorem two_keeps (w : World) (B : Nat) (v0 v1 : Value) : Keeps w ((w.setCell ⟨B, 0, none⟩ v0).setCell ⟨B, 1, none⟩ v1) B (B + 1) := by
  repeat (refine Keeps.trans ?_ (keeps_setCell (p := ⟨B, _, none⟩) (Nat.le_refl B) (Nat.lt_succ_self B) _))
  exact Keeps.refl _ _ _
end Go.Proofs.Ytpmhbdiddcnhfaa

namespace Go.Proofs.Ytpmhbdiddcnhfaa
open Go.ChangeShapes Go.WideShapes Go.ChangeAt Go.RowKit Go.Joins Go.Deep
set_option linter.unusedVariables false

set_option maxRecDepth 100000 in
/-- A row of ops. -/
theorem open_opl {H : Type} {enc : TypeId × Value → H} {W : World} {fuel : Nat} {cs : List Value} {y : DataW H × List MemPlace} (hf : DataW.trod enc Try.prog W 0 (fun _ => true) true fuel 22 cs = some y) :
    ∃ (a : Option Addr) (N c : Nat) (T : Nat → OpC), cs = [.slice a N c] ∧ OV W a N T ∧ N ≤ maxLen := by
  have hinh : Inhabited OpC := ⟨⟨0, 0, 0, 0, 0, 0, false⟩⟩
  rcases open_slice Try.underlying22 hf with ⟨hcs, _⟩ | ⟨x, l, c, m, n, D, Pl, hcs, _, hl, hm, hmm, _, hx⟩
  · exact ⟨none, 0, 0, fun _ => default, hcs, .inl rfl, Nat.zero_le _⟩
  · have hlm : l ≤ m := by
      rw [hmm]; split
      · exact hl
      · exact Nat.le_refl _
    have each : ∀ i, i < l → ∃ t : OpC, (∀ j u, ([.int .i64 t.te, .int .i64 t.k, .int .i64 t.h, .int .i64 t.t, .int .i64 t.i, .int .i64 t.v, .bool t.fo] : List Value)[j]? = some u → W.cell? ((x.add (i * 7)).add j) = some u) := fun i hi => by
      obtain ⟨cs', h1, h2⟩ := hx i (by omega)
      rw [Try.cellsP98] at h1
      obtain ⟨_, hlen, hat⟩ := World.cells?_some h1
      obtain ⟨te, k, h, t, i', v, fo, rfl⟩ := open_op1 hlen h2
      refine ⟨⟨te, k, h, t, i', v, fo⟩, fun j u hu => ?_⟩
      rw [hat j (List.getElem?_eq_some_iff.mp hu).1, hu]
    by_cases hz : l = 0
    · exact ⟨some x, l, c, fun _ => default, hcs, .inl hz, by omega⟩
    obtain ⟨T, hT⟩ := Go.Deep.choose_lt each
    refine ⟨some x, l, c, T, hcs, ?_, by omega⟩
    obtain ⟨b, off, spot⟩ := x
    have hc := hT 0 (by omega) 0 _ rfl
    have hspot : spot = none := by simpa [Addr.add] using World.cell?_spot hc
    subst hspot
    refine .inr ⟨b, off, rfl, World.block_lt_of_cell? W _ (by simpa [Addr.add] using hc), fun i hi => ?_⟩
    have g := fun j u hu => hT i hi j u hu
    simp only [add_none] at g
    exact ⟨g 0 _ rfl, g 1 _ rfl, g 2 _ rfl, g 3 _ rfl, g 4 _ rfl, g 5 _ rfl, g 6 _ rfl⟩

set_option maxRecDepth 100000 in
/-- What came in: a row of ops. -/
theorem open_ops {H : Type} {enc : TypeId × Value → H} {W : World} {base : Nat} {v0 : Value} {d0 : DataW H} {p0 : List MemPlace}
    (hv : Value.okWide Try.prog W .any base 22 v0) (h0 : DataW.Trod enc Try.prog W 0 (fun _ => true) true 22 v0 d0 p0) :
    ∃ (a : Option Addr) (N c : Nat) (T : Nat → OpC), v0 = .slice a N c ∧ OV W a N T ∧ N ≤ maxLen := by
  obtain ⟨a0, len0, cap0, rfl⟩ := okWide_slice Try.underlying22 hv
  obtain ⟨fuel, hf⟩ := h0
  obtain ⟨a, N, c, T, hcs, h, hN⟩ := open_opl hf
  simp [Value.cells] at hcs
  obtain ⟨rfl, rfl, rfl⟩ := hcs
  exact ⟨_, _, _, T, rfl, h, hN⟩
end Go.Proofs.Ytpmhbdiddcnhfaa

namespace Go.Proofs.Ytpmhbdiddcnhfaa
open Go.RowKit
set_option linter.unusedVariables false

/-- A block that holds no more than an empty table. -/
def Dead4 (w : World) (R : Nat) : Prop := ∃ t fr, w.heap[R]? = some (.cells #[.slice none 0 0, .int .i64 0, .slice none 0 0, .map none] t fr)

theorem Dead4.below {w w' : World} {R : Nat} (h : Dead4 w R) (hb : Below w.heap.size w w') : Dead4 w' R := by
  obtain ⟨t, fr, h1⟩ := h
  exact ⟨t, fr, (hb.block R (Array.getElem?_eq_some_iff.1 h1).1).trans h1⟩
end Go.Proofs.Ytpmhbdiddcnhfaa

namespace Go.Proofs.Ytpmhbdiddcnhfaa
open Go.RowKit
set_option linter.unusedVariables false

def OneG (w : World) (b o : Nat) (t : Bool) : Prop := w.cell? ⟨b, o, none⟩ = some (.bool t)

def OneF (w : World) (b o : Nat) : Prop := w.frozen? ⟨b, o, none⟩ = false

theorem OneG.block {w w' : World} {b o : Nat} {t : Bool} (h : OneG w b o t) (e : w'.heap[b]? = w.heap[b]?) : OneG w' b o t := (World.cell?_of_block (w := w) (a := ⟨b, o, none⟩) e).trans h

theorem OneF.block {w w' : World} {b o : Nat} (h : OneF w b o) (e : w'.heap[b]? = w.heap[b]?) : OneF w' b o := (World.frozen?_of_block (w := w) (a := ⟨b, o, none⟩) e).trans h

/-- A row of truth values is read. -/
structure BSrc (w : World) (b q N : Nat) (T : Nat → Bool) : Prop where
  lt : b < w.heap.size
  one : ∀ i, i < N → OneG w b (q + i) (T i)

/-- A row of truth values of the call's own. -/
structure BOwn (w : World) (lo hi b q N : Nat) (T : Nat → Bool) : Prop where
  glo : lo ≤ b
  ghi : b < hi
  lt : b < w.heap.size
  one : ∀ i, i < N → OneG w b (q + i) (T i)
  free : ∀ i, i < N → OneF w b (q + i)

theorem BOwn.src {w : World} {lo hi b q N : Nat} {T : Nat → Bool} (h : BOwn w lo hi b q N T) : BSrc w b q N T := ⟨h.lt, h.one⟩

theorem BSrc.below {w w' : World} {b q N : Nat} {T : Nat → Bool} (h : BSrc w b q N T) (hb : Below w.heap.size w w') : BSrc w' b q N T :=
  ⟨Nat.lt_of_lt_of_le h.lt hb.size, fun i hi => (h.one i hi).block (hb.block b h.lt)⟩

theorem BOwn.below {w w' : World} {lo hi b q N : Nat} {T : Nat → Bool} (h : BOwn w lo hi b q N T) (hb : Below w.heap.size w w') : BOwn w' lo hi b q N T :=
  ⟨h.glo, h.ghi, Nat.lt_of_lt_of_le h.lt hb.size, fun i hi => (h.one i hi).block (hb.block b h.lt), fun i hi => (h.free i hi).block (hb.block b h.lt)⟩

theorem BSrc.keeps {w w' : World} {lo hi b q N : Nat} {T : Nat → Bool} (h : BSrc w b q N T) (hk : Keeps w w' lo hi) (hd : b < lo ∨ hi ≤ b) : BSrc w' b q N T :=
  ⟨Nat.lt_of_lt_of_le h.lt hk.size, fun i hi => (h.one i hi).block (hk.block b h.lt hd)⟩

theorem BOwn.keeps {w w' : World} {lo hi lo' hi' b q N : Nat} {T : Nat → Bool} (h : BOwn w lo hi b q N T) (hk : Keeps w w' lo' hi') (hd : hi ≤ lo' ∨ hi' ≤ lo) : BOwn w' lo hi b q N T := by
  have h1 := h.glo; have h2 := h.ghi
  exact ⟨h.glo, h.ghi, Nat.lt_of_lt_of_le h.lt hk.size, fun i hi => (h.one i hi).block (hk.block b h.lt (by omega)), fun i hi => (h.free i hi).block (hk.block b h.lt (by omega))⟩

theorem BOwn.congr {w : World} {lo hi b q N : Nat} {T U : Nat → Bool} (h : BOwn w lo hi b q N T) (e : ∀ i, i < N → T i = U i) : BOwn w lo hi b q N U :=
  ⟨h.glo, h.ghi, h.lt, fun i hi => e i hi ▸ h.one i hi, h.free⟩

theorem BSrc.congr {w : World} {b q N : Nat} {T U : Nat → Bool} (h : BSrc w b q N T) (e : ∀ i, i < N → T i = U i) : BSrc w b q N U :=
  ⟨h.lt, fun i hi => e i hi ▸ h.one i hi⟩

theorem BOwn.widen {w : World} {lo hi lo' hi' b q N : Nat} {T : Nat → Bool} (h : BOwn w lo hi b q N T) (h1 : lo' ≤ lo) (h2 : hi ≤ hi') : BOwn w lo' hi' b q N T :=
  ⟨Nat.le_trans h1 h.glo, Nat.lt_of_lt_of_le h.ghi h2, h.lt, h.one, h.free⟩

def BV (w : World) (a : Option Addr) (N : Nat) (T : Nat → Bool) : Prop := N = 0 ∨ ∃ b q, a = some ⟨b, q, none⟩ ∧ BSrc w b q N T

def BVO (w : World) (lo hi : Nat) (a : Option Addr) (N : Nat) (T : Nat → Bool) : Prop := N = 0 ∨ ∃ b q, a = some ⟨b, q, none⟩ ∧ BOwn w lo hi b q N T

theorem BVO.src {w : World} {lo hi N : Nat} {a : Option Addr} {T : Nat → Bool} (h : BVO w lo hi a N T) : BV w a N T := by
  rcases h with h0 | ⟨b, q, ha, h⟩
  · exact .inl h0
  · exact .inr ⟨b, q, ha, h.src⟩

theorem BV.below {w w' : World} {N : Nat} {a : Option Addr} {T : Nat → Bool} (h : BV w a N T) (hb : Below w.heap.size w w') : BV w' a N T := by
  rcases h with h0 | ⟨b, q, ha, h⟩
  · exact .inl h0
  · exact .inr ⟨b, q, ha, h.below hb⟩

theorem BVO.below {w w' : World} {lo hi N : Nat} {a : Option Addr} {T : Nat → Bool} (h : BVO w lo hi a N T) (hb : Below w.heap.size w w') : BVO w' lo hi a N T := by
  rcases h with h0 | ⟨b, q, ha, h⟩
  · exact .inl h0
  · exact .inr ⟨b, q, ha, h.below hb⟩

theorem BVO.keeps {w w' : World} {lo hi lo' hi' N : Nat} {a : Option Addr} {T : Nat → Bool} (h : BVO w lo hi a N T) (hk : Keeps w w' lo' hi') (hd : hi ≤ lo' ∨ hi' ≤ lo) : BVO w' lo hi a N T := by
  rcases h with h0 | ⟨b, q, ha, h⟩
  · exact .inl h0
  · exact .inr ⟨b, q, ha, h.keeps hk hd⟩

theorem BVO.widen {w : World} {lo hi lo' hi' N : Nat} {a : Option Addr} {T : Nat → Bool} (h : BVO w lo hi a N T) (h1 : lo' ≤ lo) (h2 : hi ≤ hi') : BVO w lo' hi' a N T := by
  rcases h with h0 | ⟨b, q, ha, h⟩
  · exact .inl h0
  · exact .inr ⟨b, q, ha, h.widen h1 h2⟩

theorem BV.drew {w : World} {N : Nat} {a : Option Addr} {T : Nat → Bool} (h : BV w a N T) : BV w.drew a N T := h.below (Below.refl _ _).drew

theorem BV.alloc {w : World} {N : Nat} {a : Option Addr} {T : Nat → Bool} (h : BV w a N T) (o : Obj) : BV (w.alloc o) a N T := h.below ((Below.refl _ _).alloc (Nat.le_refl _) o)

theorem BVO.drew {w : World} {lo hi N : Nat} {a : Option Addr} {T : Nat → Bool} (h : BVO w lo hi a N T) : BVO w.drew lo hi a N T := h.below (Below.refl _ _).drew

theorem BVO.alloc {w : World} {lo hi N : Nat} {a : Option Addr} {T : Nat → Bool} (h : BVO w lo hi a N T) (o : Obj) : BVO (w.alloc o) lo hi a N T := h.below ((Below.refl _ _).alloc (Nat.le_refl _) o)

theorem BV.congr {w : World} {N : Nat} {a : Option Addr} {T U : Nat → Bool} (h : BV w a N T) (e : ∀ i, i < N → T i = U i) : BV w a N U := by
  rcases h with h0 | ⟨b, q, ha, h⟩
  · exact .inl h0
  · exact .inr ⟨b, q, ha, h.congr e⟩

theorem BVO.congr {w : World} {lo hi N : Nat} {a : Option Addr} {T U : Nat → Bool} (h : BVO w lo hi a N T) (e : ∀ i, i < N → T i = U i) : BVO w lo hi a N U := by
  rcases h with h0 | ⟨b, q, ha, h⟩
  · exact .inl h0
  · exact .inr ⟨b, q, ha, h.congr e⟩

theorem bown_put {w : World} {lo hi b q N i : Nat} {U : Nat → Bool} (h : BOwn w lo hi b q N U) (hi' : i < N) (x : Bool) : BOwn (w.setCell ⟨b, q + i, none⟩ (.bool x)) lo hi b q N (fun j => if j = i then x else U j) ∧ Keeps w (w.setCell ⟨b, q + i, none⟩ (.bool x)) lo hi := by
  have h1 := h.glo; have h2 := h.ghi
  have k5 : Keeps w (w.setCell ⟨b, q + i, none⟩ (.bool x)) lo hi := keeps_setCell (p := ⟨b, q + i, none⟩) h1 h2 _
  refine ⟨⟨h1, h2, Nat.lt_of_lt_of_le h.lt k5.size, fun j hj => ?_, fun j hj => ?_⟩, k5⟩
  · have x0 : w.cell? ⟨b, q + j, none⟩ = some (.bool (U j)) := h.one j hj
    by_cases e : j = i
    · subst e
      rw [if_pos rfl]
      show (w.setCell ⟨b, q + j, none⟩ (.bool x)).cell? ⟨b, q + j, none⟩ = some (.bool x)
      rw [World.cell?_setCell_same' _ _ _ (by rw [x0]; rfl)]
    · rw [if_neg e]
      show (w.setCell ⟨b, q + i, none⟩ (.bool x)).cell? ⟨b, q + j, none⟩ = some (.bool (U j))
      rw [World.cell?_setCell_other _ _ _ _ (fun e' => e (by have := congrArg Addr.off e'; simp only at this; omega))]
      exact x0
  · show (w.setCell ⟨b, q + i, none⟩ (.bool x)).frozen? ⟨b, q + j, none⟩ = false
    rw [World.frozen?_setCell]
    exact h.free j hj

theorem bv_get {w : World} {a : Option Addr} {N : Nat} {T : Nat → Bool} (h : BV w a N T) {i : Nat} (hi : i < N) : ∃ b q, a = some ⟨b, q, none⟩ ∧ b < w.heap.size ∧ w.cell? ⟨b, q + i, none⟩ = some (.bool (T i)) := by
  rcases h with h0 | ⟨b, q, ha, hg⟩
  · omega
  · exact ⟨b, q, ha, hg.lt, hg.one i hi⟩
end Go.Proofs.Ytpmhbdiddcnhfaa

namespace Go.Proofs.Ytpmhbdiddcnhfaa
open Go.RowKit
set_option linter.unusedVariables false

theorem Try.infoBl : (Try.prog.info? 4).map (fun i => (i.zero, i.size, i.bytes)) = some (some (.bool false), 1, 1) := by kernel_rfl

theorem Try.underlyingRBl : Try.prog.underlying 48 = some (.slice 4) := by kernel_rfl

theorem bown_made {w : World} {lo b N cap : Nat} (h : w.ownsRow lo 4 1 (.slice (some ⟨b, 0, none⟩) N cap) N (madeCells #[.bool false] (N * 1)).toList) (hl : lo ≤ b) (hp : 0 < N) : BOwn w lo w.heap.size b 0 N (fun _ => false) := by
  have hlt : b < w.heap.size := by
    rcases h.2 with ⟨h', _⟩ | ⟨g', cap', cur, h', _, hg, _⟩
    · cases h'
    · simp only [Value.slice.injEq, Option.some.injEq, Addr.mk.injEq, and_true, true_and] at h'
      obtain ⟨rfl, rfl⟩ := h'
      exact (Array.getElem?_eq_some_iff.mp hg).1
  refine ⟨hl, hlt, hlt, fun i hi => ?_, fun i hi => ?_⟩
  · have := h.cellAt i (by omega)
    rw [made_get _ _ _ (by omega)] at this
    rw [Nat.zero_add]
    simpa [OneG, Nat.mod_one] using this
  · rw [Nat.zero_add]
    exact h.frozenAt _

set_option maxRecDepth 100000 in
set_option maxHeartbeats 1600000 in
theorem eqBoolS_same (a1 a2 : Option Addr) (N k1 k2 : Nat) (T U : Nat → Bool) (w : World) (h1 : BV w a1 N T) (h2 : BV w a2 N U) (he : ∀ i, i < N → T i = U i) (hN : N ≤ 1048576) :
    Calls Try.prog 33 #[.slice a1 N k1, .slice a2 N k2] w (RetBool w true) := by
  have H1 := Lib.hid h1; have H2 := Lib.hid (h2.congr fun i hi => (he i hi).symm)
  clear h1 h2 he
  go_enter Try.func33, Try.ntmps33
  go_wp2
  go_loopw [5] (fun p wr => ∃ i : Nat, i ≤ N ∧ p = .int .i64 (i : Int) ∧ Hid (Below w.heap.size w wr)) (fun p _ => N - (intOf p).toNat)
  case atStart => exact ⟨0, Nat.zero_le _, rfl, Below.refl _ _⟩
  case round =>
    obtain ⟨i, hi, rfl, HBr⟩ := hrel
    by_cases hlt : i < N
    · have hlt' : (i : Int) < (N : Int) := by omega
      have hi0 : (0 : Int) ≤ (i : Int) := by omega
      obtain ⟨b1, q1, rfl, l1, x0⟩ := bv_get (H1.out.below HBr.out) hlt
      obtain ⟨b2, q2, rfl, l2, y0⟩ := bv_get (H2.out.below HBr.out) hlt
      have hq : (T i != T i) = false := by simp
      have HB2 := Lib.hid HBr.out.drew
      generalize T i = t at *
      go_wp2
      go_region
      go_wp2
      first | exact ⟨⟨i + 1, by omega, by go_num, HB2⟩, by simp [intOf]; omega⟩ | (go_roundw; (case rel => first | exact ⟨i + 1, by omega, by go_num, HB2⟩ | ((repeat apply Exists.intro); exact ⟨⟨i + 1, by omega, by go_num, HB2⟩, rfl⟩)); (case measure => simp [intOf]; omega))
    · go_wp2
      go_ret
      exact ⟨rfl, HBr.out⟩

set_option maxRecDepth 100000 in
set_option maxHeartbeats 1600000 in
theorem markBoolS_any (a : Option Addr) (lo hi N c : Nat) (T : Nat → Bool) (k : Int) (w : World) (hs : BVO w lo hi a N T) (hk0 : 0 ≤ k) (hk1 : k + 1 * (N : Int) ≤ 33554432) :
    Calls Try.prog 34 #[.slice a N c, .int .i64 k] w fun e w' => e = .returned (.int .i64 (k + 1 * (N : Int))) ∧ True ∧ Keeps w w' lo hi := by
  have H := Lib.hid hs
  clear hs
  go_enter Try.func34, Try.ntmps34
  go_wp2
  go_loopw [1, 5] (fun u p wr => ∃ i : Nat, i ≤ N ∧ p = .int .i64 i ∧ u = .int .i64 (k + (i : Int)) ∧ Hid (Keeps w wr lo hi) ∧ Hid (∃ U, BVO wr lo hi a N U)) (fun _ p _ => N - (intOf p).toNat)
  case atStart => exact ⟨0, Nat.zero_le _, rfl, by simp, Keeps.refl _ _ _, ⟨_, H.out⟩⟩
  case round =>
    obtain ⟨i, hi9, rfl, rfl, HK, HR⟩ := hrel
    by_cases hlt : i < N
    · have hlt' : (i : Int) < (N : Int) := by omega
      have hi0 : (0 : Int) ≤ (i : Int) := by omega
      obtain ⟨U, hU⟩ := HR.out
      rcases hU with h0 | ⟨b, q, rfl, hg⟩
      · omega
      have x0 := hg.one i hlt; have f0 := hg.free i hlt
      unfold OneG at x0
      unfold OneF at f0
      have hlt0 := hg.lt
      generalize hK : k + (i : Int) = K at *
      have hK0 : 0 ≤ K := by omega
      have hK1 : K + 1 ≤ 33554432 := by omega
      have HKK := Lib.hid hK
      have HQ := Lib.hid (bown_put hg hlt (K % 3 == 0))
      clear hK hg HR
      go_wp2
      go_roundw
      case rel => exact ⟨i + 1, by omega, by go_num, by have := HKK.out; go_num, HK.out.trans HQ.out.2, ⟨_, .inr ⟨b, q, rfl, HQ.out.1⟩⟩⟩
      case measure => simp [intOf]; omega
    · go_wp2
      go_ret
      obtain rfl : i = N := by omega
      exact ⟨by simp, trivial, HK.out⟩
end Go.Proofs.Ytpmhbdiddcnhfaa

namespace Go.Proofs.Ytpmhbdiddcnhfaa
open Go.ChangeShapes Go.WideShapes Go.ChangeAt Go.RowKit Go.Joins Go.Deep
set_option linter.unusedVariables false

set_option maxRecDepth 100000 in
/-- What came in: a row of truth values. -/
theorem open_bls {H : Type} {enc : TypeId × Value → H} {W : World} {base : Nat} {v0 : Value} {d0 : DataW H} {p0 : List MemPlace}
    (hv : Value.okWide Try.prog W .any base 48 v0) (h0 : DataW.Trod enc Try.prog W 0 (fun _ => true) true 48 v0 d0 p0) :
    ∃ (a : Option Addr) (N c : Nat) (T : Nat → Bool), v0 = .slice a N c ∧ BV W a N T ∧ N ≤ maxLen := by
  obtain ⟨a0, len0, cap0, rfl⟩ := okWide_slice Try.underlying48 hv
  obtain ⟨fuel, hf⟩ := h0
  rcases open_slice Try.underlying48 hf with ⟨hcs, _⟩ | ⟨x, l, c, m, n, D, Pl, hcs, _, hl, hm, hmm, _, hx⟩
  · simp [Value.cells] at hcs
    obtain ⟨rfl, rfl, rfl⟩ := hcs
    exact ⟨_, _, _, fun _ => false, rfl, .inl rfl, Nat.zero_le _⟩
  · simp [Value.cells] at hcs
    obtain ⟨rfl, rfl, rfl⟩ := hcs
    have hlm : len0 ≤ m := by
      rw [hmm]; split
      · exact hl
      · exact Nat.le_refl _
    have each : ∀ i, i < len0 → ∃ t : Bool, W.cell? (x.add (i * 1)) = some (.bool t) := fun i hi => by
      obtain ⟨cs', h1, h2⟩ := hx i (by omega)
      rw [Try.cellsP4] at h1
      obtain ⟨_, hlen, hat⟩ := World.cells?_some h1
      obtain ⟨t, e, _⟩ := DataW.trod_bool Try.underlying4 h2
      subst e
      have := hat 0 (by simp)
      exact ⟨t, by simpa [add_none, Addr.add] using this⟩
    by_cases hz : len0 = 0
    · exact ⟨_, _, _, fun _ => false, rfl, .inl hz, by omega⟩
    obtain ⟨T, hT⟩ := Go.Deep.choose_lt each
    refine ⟨_, _, _, T, rfl, ?_, by omega⟩
    obtain ⟨b, off, spot⟩ := x
    have hc := hT 0 (by omega)
    have hspot : spot = none := by simpa [Addr.add] using World.cell?_spot hc
    subst hspot
    refine .inr ⟨b, off, rfl, World.block_lt_of_cell? W _ (by simpa [Addr.add] using hc), fun i hi => ?_⟩
    have g := hT i hi
    simpa [OneG, add_none] using g
end Go.Proofs.Ytpmhbdiddcnhfaa

namespace Go.Proofs.Ytpmhbdiddcnhfaa
open Go.RowKit
set_option linter.unusedVariables false

/-- A state of merging: how many are taken of each, and what is merged. -/
def mgS (A B : Nat → OpC) (tt : Nat → Bool) : Nat → Nat × Nat × List OpC
  | 0 => (0, 0, [])
  | k + 1 => if tt k then ((mgS A B tt k).1 + 1, (mgS A B tt k).2.1, (mgS A B tt k).2.2 ++ [A (mgS A B tt k).1]) else ((mgS A B tt k).1, (mgS A B tt k).2.1 + 1, (mgS A B tt k).2.2 ++ [B (mgS A B tt k).2.1])

theorem mgS_sum (A B : Nat → OpC) (tt : Nat → Bool) : ∀ k, (mgS A B tt k).1 + (mgS A B tt k).2.1 = k ∧ (mgS A B tt k).2.2.length = k
  | 0 => ⟨rfl, rfl⟩
  | k + 1 => by
    obtain ⟨h1, h2⟩ := mgS_sum A B tt k
    rw [mgS]
    split
    · simp only [List.length_append, List.length_cons, List.length_nil]; omega
    · simp only [List.length_append, List.length_cons, List.length_nil]; omega

theorem mgS_yes {A B : Nat → OpC} {tt : Nat → Bool} {k : Nat} (h : tt k = true) : mgS A B tt (k + 1) = ((mgS A B tt k).1 + 1, (mgS A B tt k).2.1, (mgS A B tt k).2.2 ++ [A (mgS A B tt k).1]) := by rw [mgS, if_pos h]

theorem mgS_no {A B : Nat → OpC} {tt : Nat → Bool} {k : Nat} (h : tt k = false) : mgS A B tt (k + 1) = ((mgS A B tt k).1, (mgS A B tt k).2.1 + 1, (mgS A B tt k).2.2 ++ [B (mgS A B tt k).2.1]) := by rw [mgS, if_neg (by simp [h])]

/-- Both lists have ops left. -/
def MgB (A B : Nat → OpC) (tt : Nat → Bool) (NA NB k : Nat) : Prop := (mgS A B tt k).1 < NA ∧ (mgS A B tt k).2.1 < NB

/-- Where the merging ends. -/
def MgK (A B : Nat → OpC) (tt : Nat → Bool) (NA NB k : Nat) : Prop := (∀ j, j < k → MgB A B tt NA NB j) ∧ ¬ MgB A B tt NA NB k

theorem mgK_some (A B : Nat → OpC) (tt : Nat → Bool) (NA NB : Nat) : ∃ k, MgK A B tt NA NB k := by
  have key : ∀ n, (∃ k, MgK A B tt NA NB k) ∨ ∀ j, j < n → MgB A B tt NA NB j := fun n => by
    induction n with
    | zero => exact .inr fun j hj => by omega
    | succ n ih =>
      rcases ih with h | h
      · exact .inl h
      · by_cases hn : MgB A B tt NA NB n
        · refine .inr fun j hj => ?_
          rcases Nat.lt_succ_iff_lt_or_eq.mp hj with h1 | rfl
          · exact h j h1
          · exact hn
        · exact .inl ⟨n, h, hn⟩
  rcases key (NA + NB + 1) with h | h
  · exact h
  · have h1 := h (NA + NB) (by omega)
    have h2 := (mgS_sum A B tt (NA + NB)).1
    obtain ⟨h3, h4⟩ := h1
    omega

theorem mgK_one {A B : Nat → OpC} {tt : Nat → Bool} {NA NB k k' : Nat} (h : MgK A B tt NA NB k) (h' : MgK A B tt NA NB k') : k = k' := by
  rcases Nat.lt_trichotomy k k' with h1 | h1 | h1
  · exact absurd (h'.1 k h1) h.2
  · exact h1
  · exact absurd (h.1 k' h1) h'.2

theorem mgS_le {A B : Nat → OpC} {tt : Nat → Bool} {NA NB : Nat} : ∀ {k : Nat}, (∀ j, j < k → MgB A B tt NA NB j) → (mgS A B tt k).1 ≤ NA ∧ (mgS A B tt k).2.1 ≤ NB
  | 0, _ => ⟨Nat.zero_le _, Nat.zero_le _⟩
  | k + 1, h => by
    obtain ⟨h1, h2⟩ := h k (by omega)
    rw [mgS]
    split
    · exact ⟨h1, Nat.le_of_lt h2⟩
    · exact ⟨Nat.le_of_lt h1, h2⟩

/-- What is left of a row. -/
def dropO (T : Nat → OpC) (x N : Nat) : List OpC := allO (fun j => T (x + j)) (N - x)

theorem dropO_len (T : Nat → OpC) (x N : Nat) : (dropO T x N).length = N - x := allO_len _ _

/-- What is merged in the end. -/
def mgR (A B : Nat → OpC) (tt : Nat → Bool) (NA NB k : Nat) : List OpC := (mgS A B tt k).2.2 ++ dropO A (mgS A B tt k).1 NA ++ dropO B (mgS A B tt k).2.1 NB

theorem mgR_len {A B : Nat → OpC} {tt : Nat → Bool} {NA NB k : Nat} (h : MgK A B tt NA NB k) : (mgR A B tt NA NB k).length = NA + NB := by
  have h1 := mgS_sum A B tt k
  have h2 := mgS_le h.1
  simp only [mgR, List.length_append, dropO_len]
  omega

/-- Whose turn it is. -/
def ttF (M : Nat) (t : Nat → Bool) (k : Nat) : Bool := if k < M then t k else true

/-- What MergeOps answers. -/
def IsMg (NA : Nat) (A : Nat → OpC) (NB : Nat) (B : Nat → OpC) (M : Nat) (t : Nat → Bool) (co : Int) (K : Nat) (U : Nat → OpC) : Prop :=
  (NA + NB ≤ 300 ∧ co = 0 ∧ ∃ k, MgK A B (ttF M t) NA NB k ∧ K = (mgR A B (ttF M t) NA NB k).length ∧ U = oT (mgR A B (ttF M t) NA NB k)) ∨ (300 < NA + NB ∧ co = 2 ∧ K = 0 ∧ U = fun _ => oz)

theorem isMg_ex (NA : Nat) (A : Nat → OpC) (NB : Nat) (B : Nat → OpC) (M : Nat) (t : Nat → Bool) : ∃ co K U, IsMg NA A NB B M t co K U := by
  by_cases h : NA + NB ≤ 300
  · obtain ⟨k, hk⟩ := mgK_some A B (ttF M t) NA NB
    exact ⟨_, _, _, .inl ⟨h, rfl, k, hk, rfl, rfl⟩⟩
  · exact ⟨_, _, _, .inr ⟨by omega, rfl, rfl, rfl⟩⟩

theorem isMg_small {NA : Nat} {A : Nat → OpC} {NB : Nat} {B : Nat → OpC} {M : Nat} {t : Nat → Bool} {co : Int} {K : Nat} {U : Nat → OpC} (h : IsMg NA A NB B M t co K U) : K ≤ 300 := by
  rcases h with ⟨h1, _, k, hk, rfl, _⟩ | ⟨_, _, rfl, _⟩
  · rw [mgR_len hk]; exact h1
  · omega

/-- A row that has an address and room. -/
def CapF (a : Option Addr) (N c : Nat) : Prop := N ≤ c ∧ c ≤ maxLen ∧ ∃ b q, a = some ⟨b, q, none⟩

/-- A row whose first ops are left out. -/
theorem ov_drop {w : World} {b q N : Nat} {T : Nat → OpC} (h : OV w (some ⟨b, q, none⟩) N T) (x : Nat) : OV w (some ⟨b, q + x * 7, none⟩) (N - x) (fun j => T (x + j)) := by
  rcases h with h0 | ⟨b', q', e, hg⟩
  · exact .inl (by omega)
  · simp only [Option.some.injEq, Addr.mk.injEq, and_true] at e
    obtain ⟨rfl, rfl⟩ := e
    rcases Nat.lt_or_ge x N with hx | hx
    · refine .inr ⟨_, _, rfl, hg.lt, fun i hi => ?_⟩
      have := hg.sev (x + i) (by omega)
      rw [show q + x * 7 + i * 7 = q + (x + i) * 7 by omega]
      exact this
    · exact .inl (by omega)

theorem blk_under2 {w w' : World} {k b : Nat} {cs : List Value} (h : Blk w b cs) (hb : Below k w w') (hk : b < k) : Blk w' b cs := by
  have e := hb.block b hk
  refine ⟨Nat.lt_of_lt_of_le h.1 hb.size, fun j u hu => ?_⟩
  obtain ⟨x1, x2⟩ := h.2 j u hu
  exact ⟨(World.cell?_of_block (w := w) e).trans x1, (World.frozen?_of_block (w := w) e).trans x2⟩

/-- A row of ops is appended to a row of the call's own. -/
theorem append_ops {w : World} {ops : Array Oper} {rest : List Oper} {o : Oper} {a : Act} {Q : Exit → Act → World → Prop} (hgd : o.guard = none) (s x : Operand)
    (ho : o.op = .call { callee := .builtin .append, args := #[s, x], argTypes := #[24, 24] })
    (base : Nat) (v : Value) (n : Nat) (xs : List Value) (hs : a.eval s = v) (hown : w.ownsRow base 96 7 v n xs) (ad : Addr) (m c : Nat) (T : Nat → OpC) (hx : a.eval x = .slice (some ad) m c) (hsrc : OV w (some ad) m T)
    (h63 : n + m ≤ 1000000) (hbase : base ≤ w.heap.size)
    (h : ∀ v' w', w'.ownsRow base 96 7 v' (n + m) (xs ++ rowO (allO T m)) → w.grownBy w' v.ownBlock → wpList Try.prog ops Q rest (a.put o.dst v') w') : wpList Try.prog ops Q (o :: rest) a w := by
  obtain ⟨j0, hif, hj0, hj1, hj2⟩ := info_parts Try.infoOPl
  exact wpList_append_own w hgd s x 24 ho base 96 j0 (.agg #[.int .i64 0, .int .i64 0, .int .i64 0, .int .i64 0, .int .i64 0, .int .i64 0, .bool false]) 7 56 Try.underlyingROPl hif hj0 hj1 hj2 rfl (by decide) v n xs hs hown ad m c (rowO (allO T m)) hx (by rw [rowO_len, allO_len]) (ov_news hsrc) (rowO_one _) (by unfold maxLen; omega) (by omega) hbase fun v' w' h1 h2 _ => h v' w' h1 h2
end Go.Proofs.Ytpmhbdiddcnhfaa

