/- Texts merged: Mem to M2. -/
import Derived.Test.YtbhjmomphajnnaaRows
import Derived.WalkKit
import Derived.WalkSpells
import Derived.WalkLawsBesides
import Derived.Deep.QuietTactic
import Derived.BigQuiet
import Derived.Deep.RegionHeld3
import Derived.Lib.Hide
import Derived.Laws.AppendOwnNone
import Derived.Lib.AppendZeros
import Derived.Lib.SliceRun
import Derived.Lib.Walk
import Derived.Deep.Cut
import Derived.Deep.Upon
import Derived.Defers
import Derived.Recover
import Derived.Laws.Pointers
import Derived.StillTailTactics
import Derived.Deep.RegionLaw
import Derived.ProofKit
import Derived.Lib.SmallJoins
import Derived.OpenShut
import Derived.Deep.AppendLies
import Derived.Deep.DeepCutAuto
import Derived.Deep.Slices
import Derived.Deep.LoopGhost
import Derived.Shelf.Abstract
import Derived.RangeFuncNested
import Derived.RangeFuncBound
import Derived.RangeFuncCalls
import Derived.RangeFuncLeaves
import Derived.Shelf.RegionOpen
import Derived.OwnWalkIn
import Derived.TacticsInMore
import Derived.LoopNIn
import Derived.LoopIn
import Derived.Maps.OwnIn
import Derived.Maps.AppendAt
import Derived.Maps.Own
import Derived.Maps.OwnOps
import Derived.Maps.OwnSet
import Derived.OneCell
import Derived.WalkMore
import Derived.Laws.IdiomCopy
import Derived.Deep.RegionWith
namespace Go.Proofs.Ytbhjmomphajnnaa
open Go.RowKit
set_option linter.unusedVariables false

/-- The first n cells at a hold f. -/
def Src (w : World) (a : Option Addr) (n : Nat) (f : Nat → Int) : Prop :=
  n = 0 ∨ ∃ b off, a = some ⟨b, off, none⟩ ∧ b < w.heap.size ∧ ∀ i, i < n → w.cell? ⟨b, off + i, none⟩ = some (.int .i64 (f i))

/-- The same, in a block from B on, and not frozen. -/
def Own (w : World) (B : Nat) (a : Option Addr) (n : Nat) (f : Nat → Int) : Prop :=
  n = 0 ∨ ∃ b off, a = some ⟨b, off, none⟩ ∧ B ≤ b ∧ b < w.heap.size ∧ ∀ i, i < n → w.cell? ⟨b, off + i, none⟩ = some (.int .i64 (f i)) ∧ w.frozen? ⟨b, off + i, none⟩ = false

theorem Own.src {w : World} {B : Nat} {a : Option Addr} {n : Nat} {f : Nat → Int} (h : Own w B a n f) : Src w a n f := by
  rcases h with h | ⟨b, off, h1, _, h3, h4⟩
  · exact .inl h
  · exact .inr ⟨b, off, h1, h3, fun i hi => (h4 i hi).1⟩

theorem Src.below {w w' : World} {a : Option Addr} {n : Nat} {f : Nat → Int} (h : Src w a n f) (hb : Below w.heap.size w w') : Src w' a n f := by
  rcases h with h | ⟨b, off, h1, h3, h4⟩
  · exact .inl h
  · exact .inr ⟨b, off, h1, Nat.lt_of_lt_of_le h3 hb.size, fun i hi => (hb.cell (p := ⟨b, off + i, none⟩) h3).trans (h4 i hi)⟩

theorem Own.below {w w' : World} {B : Nat} {a : Option Addr} {n : Nat} {f : Nat → Int} (h : Own w B a n f) (hb : Below w.heap.size w w') : Own w' B a n f := by
  rcases h with h | ⟨b, off, h1, h2, h3, h4⟩
  · exact .inl h
  · exact .inr ⟨b, off, h1, h2, Nat.lt_of_lt_of_le h3 hb.size, fun i hi => ⟨(hb.cell (p := ⟨b, off + i, none⟩) h3).trans (h4 i hi).1, (hb.frozen (p := ⟨b, off + i, none⟩) h3).trans (h4 i hi).2⟩⟩

theorem Own.mono {w : World} {B B' : Nat} {a : Option Addr} {n : Nat} {f : Nat → Int} (h : Own w B a n f) (hB : B' ≤ B) : Own w B' a n f := by
  rcases h with h | ⟨b, off, h1, h2, h3⟩
  · exact .inl h
  · exact .inr ⟨b, off, h1, Nat.le_trans hB h2, h3⟩

theorem Src.at {w : World} {b off n : Nat} {f : Nat → Int} (h : Src w (some ⟨b, off, none⟩) n f) (i : Nat) (hi : i < n) : w.cell? ⟨b, off + i, none⟩ = some (.int .i64 (f i)) := by
  rcases h with h | ⟨b', off', h1, h3, h4⟩
  · omega
  · simp at h1; obtain ⟨rfl, rfl⟩ := h1; exact h4 i hi

theorem Src.congr {w : World} {a : Option Addr} {n : Nat} {f g : Nat → Int} (h : Src w a n f) (e : ∀ i, i < n → f i = g i) : Src w a n g := by
  rcases h with h | ⟨b, off, h1, h3, h4⟩
  · exact .inl h
  · exact .inr ⟨b, off, h1, h3, fun i hi => by rw [h4 i hi, e i hi]⟩

theorem Own.congr {w : World} {B : Nat} {a : Option Addr} {n : Nat} {f g : Nat → Int} (h : Own w B a n f) (e : ∀ i, i < n → f i = g i) : Own w B a n g := by
  rcases h with h | ⟨b, off, h1, h2, h3, h4⟩
  · exact .inl h
  · exact .inr ⟨b, off, h1, h2, h3, fun i hi => by rw [← e i hi]; exact h4 i hi⟩

theorem Src.alloc {w : World} {a : Option Addr} {n : Nat} {f : Nat → Int} (h : Src w a n f) (o : Obj) : Src (w.alloc o) a n f := h.below ((Below.refl _ _).alloc (Nat.le_refl _) o)

theorem Src.drew {w : World} {a : Option Addr} {n : Nat} {f : Nat → Int} (h : Src w a n f) : Src w.drew a n f := h.below (Below.refl _ _).drew

theorem Own.alloc {w : World} {B : Nat} {a : Option Addr} {n : Nat} {f : Nat → Int} (h : Own w B a n f) (o : Obj) : Own (w.alloc o) B a n f := h.below ((Below.refl _ _).alloc (Nat.le_refl _) o)

theorem Own.drew {w : World} {B : Nat} {a : Option Addr} {n : Nat} {f : Nat → Int} (h : Own w B a n f) : Own w.drew B a n f := h.below (Below.refl _ _).drew

theorem Own.setCell {w : World} {B : Nat} {a : Option Addr} {n : Nat} {f : Nat → Int} (h : Own w B a n f) {p : Addr} (hp : p.block < B) (u : Value) : Own (w.setCell p u) B a n f := by
  rcases h with h | ⟨b, off, h1, h2, h3, h4⟩
  · exact .inl h
  · refine .inr ⟨b, off, h1, h2, by simpa using h3, fun i hi => ?_⟩
    have e : (w.setCell p u).heap[b]? = w.heap[b]? := Below.heap_setCell w p u b (by omega)
    exact ⟨(World.cell?_of_block (w := w) (a := ⟨b, off + i, none⟩) e).trans (h4 i hi).1, (World.frozen?_of_block (w := w) (a := ⟨b, off + i, none⟩) e).trans (h4 i hi).2⟩

/-- The cells as a list. -/
def nums (n : Nat) (f : Nat → Int) : List Value := (List.range n).map fun j => .int .i64 (f j)

theorem nums_length (n : Nat) (f : Nat → Int) : (nums n f).length = n := by simp [nums]

theorem nums_get (n : Nat) (f : Nat → Int) (j : Nat) (h : j < n) : (nums n f)[j]? = some (.int .i64 (f j)) := by simp [nums, h]

/-- Out of the kit's word for a row of the call's own. -/
theorem own_of_row {w : World} {B e n : Nat} {a : Option Addr} {cap : Nat} {f : Nat → Int} (h : w.ownsRow B e 1 (.slice a n cap) n (nums n f)) : Own w B a n f := by
  have h0 := h
  rcases h.2 with ⟨_, h2⟩ | ⟨g, cap', cur, h1, hB, hg, hnc, hcm, hcs, _⟩
  · exact .inl h2
  · simp at h1
    obtain ⟨rfl, rfl⟩ := h1
    refine .inr ⟨g, 0, rfl, hB, ?_, fun i hi => ?_⟩
    · have := Array.getElem?_eq_some_iff.mp hg; exact this.1
    · have := h0.cellAt i (by omega)
      rw [nums_get n f i hi] at this
      exact ⟨by simpa using this, by simpa using h0.frozenAt i⟩

/-- Its value is a slice. -/
theorem row_shape {w : World} {B e n : Nat} {v : Value} {xs : List Value} (h : w.ownsRow B e 1 v n xs) : ∃ a cap, v = .slice a n cap ∧ n ≤ cap ∧ cap ≤ maxLen ∧ (a = none → n = 0 ∧ cap = 0) := by
  rcases h.2 with ⟨h1, h2⟩ | ⟨g, cap', cur, h1, hB, hg, hnc, hcm, hcs, _⟩
  · exact ⟨none, 0, by rw [h1, h2], by omega, by simp [maxLen], fun _ => ⟨h2, rfl⟩⟩
  · exact ⟨_, cap', h1, hnc, hcm, fun h => by simp at h⟩

/-- A call hands back new numbers. -/
def RetInts (W : World) (n : Nat) (f : Nat → Int) (e : Ending) (w' : World) : Prop :=
  ∃ a cap, e = .returned (.slice a n cap) ∧ Own w' W.heap.size a n f ∧ Below W.heap.size W w' ∧ n ≤ cap ∧ cap ≤ maxLen ∧ (a = none → n = 0 ∧ cap = 0)

theorem retInts_of_row {W w' : World} {n : Nat} {f : Nat → Int} {v : Value} {e : Nat} (h : w'.ownsRow W.heap.size e 1 v n (nums n f)) (hb : Below W.heap.size W w') : RetInts W n f (.returned v) w' := by
  obtain ⟨a, cap, rfl, h1, h2, h3⟩ := row_shape h
  exact ⟨a, cap, rfl, own_of_row h, hb, h1, h2, h3⟩
end Go.Proofs.Ytbhjmomphajnnaa

namespace Go.Proofs.Ytbhjmomphajnnaa
open Go.RowKit
set_option linter.unusedVariables false

theorem Try.info2 : (Try.prog.info? 2).map (fun i => (i.zero, i.size, i.bytes)) = some (some (.int .i64 0), 1, 8) := by kernel_rfl
end Go.Proofs.Ytbhjmomphajnnaa

namespace Go.Proofs.Ytbhjmomphajnnaa
open Go.RowKit
set_option linter.unusedVariables false

theorem src_some {w : World} {a : Option Addr} {n : Nat} {f : Nat → Int} (h : Src w a n f) (hp : 0 < n) : ∃ b off, a = some ⟨b, off, none⟩ ∧ b < w.heap.size ∧ ∀ i, i < n → w.cell? ⟨b, off + i, none⟩ = some (.int .i64 (f i)) := by
  rcases h with h | h
  · omega
  · exact h

theorem src_at {w : World} {b off n : Nat} {f : Nat → Int} (h : Src w (some ⟨b, off, none⟩) n f) : ∀ i, i < n → w.cell? ⟨b, off + i, none⟩ = some (.int .i64 (f i)) := fun i hi => h.at i hi
end Go.Proofs.Ytbhjmomphajnnaa

namespace Go.Proofs.Ytbhjmomphajnnaa
open Go.RowKit
set_option linter.unusedVariables false

/-- A Bool comes back; nothing that was there is turned. -/
def RetBool (W : World) (r : Bool) (e : Ending) (w' : World) : Prop := e = .returned (.bool r) ∧ Below W.heap.size W w'

theorem below_drewN {B : Nat} {a w : World} (h : Below B a w) (k : Nat) : Below B a (w.drewN k) := h.trans ⟨rfl, rfl, rfl, Nat.le_refl _, fun _ _ => rfl⟩
end Go.Proofs.Ytbhjmomphajnnaa

namespace Go.Proofs.Ytbhjmomphajnnaa
open Go.RowKit
set_option linter.unusedVariables false

theorem bcell {W w1 : World} (hb : Below W.heap.size W w1) : (∀ b o, b < W.heap.size → w1.cell? ⟨b, o, none⟩ = W.cell? ⟨b, o, none⟩) ∧ (∀ b o, b < W.heap.size → w1.frozen? ⟨b, o, none⟩ = W.frozen? ⟨b, o, none⟩) :=
  ⟨fun b o h => hb.cell (p := ⟨b, o, none⟩) h, fun b o h => hb.frozen (p := ⟨b, o, none⟩) h⟩

/-- A block of the call's own, known cell by cell. -/
def Blk (w : World) (b : Nat) (cs : List Value) : Prop := b < w.heap.size ∧ ∀ i u, cs[i]? = some u → w.cell? ⟨b, i, none⟩ = some u ∧ w.frozen? ⟨b, i, none⟩ = false

theorem Blk.below {w w' : World} {b : Nat} {cs : List Value} (h : Blk w b cs) (hb : Below w.heap.size w w') : Blk w' b cs :=
  ⟨Nat.lt_of_lt_of_le h.1 hb.size, fun i u hu => ⟨(hb.cell (p := ⟨b, i, none⟩) h.1).trans (h.2 i u hu).1, (hb.frozen (p := ⟨b, i, none⟩) h.1).trans (h.2 i u hu).2⟩⟩

theorem Blk.alloc {w : World} {b : Nat} {cs : List Value} (h : Blk w b cs) (o : Obj) : Blk (w.alloc o) b cs := h.below ((Below.refl _ _).alloc (Nat.le_refl _) o)

theorem Blk.drew {w : World} {b : Nat} {cs : List Value} (h : Blk w b cs) : Blk w.drew b cs := h.below (Below.refl _ _).drew

theorem Blk.new (w : World) (cs : Array Value) (t : TypeId) : Blk (w.alloc (.cells cs t)) w.heap.size cs.toList := by
  refine ⟨by simp, fun i u hu => ?_⟩
  constructor
  · rw [World.cell?_alloc_at _ _ _ _ rfl]; simpa using hu
  · exact World.frozen?_alloc_at _ _ _ _ rfl

theorem Blk.new_at {w : World} {cs : Array Value} {t : TypeId} (b : Nat) (hb : b = w.heap.size) : Blk (w.alloc (.cells cs t)) b cs.toList := hb ▸ Blk.new w cs t

theorem Blk.at {w : World} {b : Nat} {cs : List Value} (h : Blk w b cs) (i : Nat) {u : Value} (hu : cs[i]? = some u) : w.cell? ⟨b, i, none⟩ = some u := (h.2 i u hu).1

theorem Blk.free {w : World} {b : Nat} {cs : List Value} (h : Blk w b cs) (i : Nat) {u : Value} (hu : cs[i]? = some u) : w.frozen? ⟨b, i, none⟩ = false := (h.2 i u hu).2
end Go.Proofs.Ytbhjmomphajnnaa

namespace Go.Proofs.Ytbhjmomphajnnaa
open Go.RowKit
set_option linter.unusedVariables false

/-- Three cells hold one bound. -/
def B3 (w : World) (b o : Nat) (v l g : Int) : Prop :=
  w.cell? ⟨b, o, none⟩ = some (.int .i64 v) ∧ w.cell? ⟨b, o + 1, none⟩ = some (.int .i64 l) ∧ w.cell? ⟨b, o + 2, none⟩ = some (.int .i64 g)

theorem B3.below {w w' : World} {b o : Nat} {v l g : Int} {B : Nat} (h : B3 w b o v l g) (hb : Below B w w') (hlt : b < B) : B3 w' b o v l g :=
  ⟨(hb.cell (p := ⟨b, o, none⟩) hlt).trans h.1, (hb.cell (p := ⟨b, o + 1, none⟩) hlt).trans h.2.1, (hb.cell (p := ⟨b, o + 2, none⟩) hlt).trans h.2.2⟩

-- All bounds hold.

set_option maxRecDepth 100000 in
set_option maxHeartbeats 400000 in
theorem isOut_no (b n : Nat) (v l g : Nat → Int) (w : World) (hn : n ≤ 3) (hb : b < w.heap.size)
   (h0 : ∀ i, i < n → B3 w b (i * 3) (v i) (l i) (g i)) (h1 : ∀ i, i < n → l i ≤ v i ∧ v i ≤ g i) :
    Calls Try.prog 80 #[.slice (some ⟨b, 0, none⟩) n n] w fun e w' => e = .returned (.bool false) ∧ Below w.heap.size w w' := by
  go_enter Try.func80, Try.ntmps80
  go_wp2
  go_loopw [7] (fun k wr => ∃ i : Nat, i ≤ n ∧ k = .int .i64 i ∧ Below w.heap.size w wr) (fun k _ => n - (intOf k).toNat)
  case atStart => exact ⟨0, Nat.zero_le _, rfl, Below.refl _ _⟩
  case round =>
    obtain ⟨i, hi, rfl, hbel⟩ := hrel
    by_cases hlt : i < n
    · obtain ⟨c1, c2, c3⟩ := (h0 i hlt).below hbel hb
      obtain ⟨d1, d2⟩ := h1 i hlt
      have hs := hbel.size
      clear h0 h1
      go_wp2
      go_roundw
      case rel => exact ⟨i + 1, by omega, by go_num, hbel.alloc hs _⟩
      case measure => simp [intOf]; omega
    · clear h0 h1
      go_wp2
      go_ret
      exact ⟨rfl, hbel⟩

-- Some bound does not hold.

set_option maxRecDepth 100000 in
set_option maxHeartbeats 400000 in
theorem isOut_yes (b n : Nat) (v l g : Nat → Int) (w : World) (hn : n ≤ 3) (hb : b < w.heap.size)
   (h0 : ∀ i, i < n → B3 w b (i * 3) (v i) (l i) (g i)) (h1 : ∃ i, i < n ∧ ¬ (l i ≤ v i ∧ v i ≤ g i)) :
    Calls Try.prog 80 #[.slice (some ⟨b, 0, none⟩) n n] w fun e w' => e = .returned (.bool true) ∧ Below w.heap.size w w' := by
  have H1 := Lib.hid h1
  clear h1
  go_enter Try.func80, Try.ntmps80
  go_wp2
  go_loopw [7] (fun k wr => ∃ i : Nat, i ≤ n ∧ k = .int .i64 i ∧ Below w.heap.size w wr ∧ Hid (∀ j, j < i → l j ≤ v j ∧ v j ≤ g j)) (fun k _ => n - (intOf k).toNat)
  case atStart => exact ⟨0, Nat.zero_le _, rfl, Below.refl _ _, fun j hj => by omega⟩
  case round =>
    obtain ⟨i, hi, rfl, hbel, hH⟩ := hrel
    by_cases hlt : i < n
    · obtain ⟨c1, c2, c3⟩ := (h0 i hlt).below hbel hb
      have hs := hbel.size
      clear h0
      by_cases e1 : v i < l i
      · go_wp2
        go_ret
        exact ⟨rfl, hbel.alloc hs _⟩
      · by_cases e2 : g i < v i
        · go_wp2
          go_ret
          exact ⟨rfl, hbel.alloc hs _⟩
        · go_wp2
          go_roundw
          case rel => exact ⟨i + 1, by omega, by go_num, hbel.alloc hs _, fun j hj => by
            rcases Nat.lt_succ_iff_lt_or_eq.mp hj with h | h
            · exact hH.out j h
            · subst h; omega⟩
          case measure => simp [intOf]; omega
    · exfalso
      obtain ⟨j, hj, hj'⟩ := H1.out
      exact hj' (hH.out j (by omega))
end Go.Proofs.Ytbhjmomphajnnaa

namespace Go.Proofs.Ytbhjmomphajnnaa
open Go.RowKit
set_option linter.unusedVariables false

def Word (v : Int) : Prop := -1000000000 ≤ v ∧ v ≤ 1000000000

/-- An integer comes back; nothing that was there is turned. -/
def RetInt (W : World) (r : Int) (e : Ending) (w' : World) : Prop := e = .returned (.int .i64 r) ∧ Below W.heap.size W w'

set_option maxRecDepth 100000 in
set_option maxHeartbeats 400000 in
theorem l1In_yes (v l g : Int) (w : World) (h1 : l ≤ v) (h2 : v ≤ g) : Calls Try.prog 82 #[.int .i64 v, .int .i64 l, .int .i64 g] w fun e w' => e = .returned (.bool true) ∧ w = w' := by
  go_enter Try.func82, Try.ntmps82
  go_wp2
  go_ret
  exact ⟨rfl, rfl⟩

set_option maxRecDepth 100000 in
set_option maxHeartbeats 400000 in
theorem l1In_no (v l g : Int) (w : World) (h : ¬ (l ≤ v ∧ v ≤ g)) : Calls Try.prog 82 #[.int .i64 v, .int .i64 l, .int .i64 g] w fun e w' => e = .returned (.bool false) ∧ w = w' := by
  by_cases h1 : l ≤ v
  · have h2 : ¬ v ≤ g := fun k => h ⟨h1, k⟩
    clear h
    go_enter Try.func82, Try.ntmps82
    go_wp2
    go_ret
    exact ⟨rfl, rfl⟩
  · clear h
    go_enter Try.func82, Try.ntmps82
    go_wp2
    go_ret
    exact ⟨rfl, rfl⟩

set_option maxRecDepth 100000 in
set_option maxHeartbeats 400000 in
theorem l1Value_yes (v : Int) (w : World) (h : Word v) : Calls Try.prog 96 #[.int .i64 v] w fun e w' => e = .returned (.bool true) ∧ w = w' := by
  obtain ⟨h1, h2⟩ := h
  go_enter Try.func96, Try.ntmps96
  go_wp2_with (go_at_call 82; (with_reducible refine (l1In_yes _ _ _ _ h1 h2).mono ?_); rintro e w' ⟨rfl, rfl⟩)
  go_ret
  exact ⟨rfl, rfl⟩

set_option maxRecDepth 100000 in
set_option maxHeartbeats 400000 in
theorem l1Value_no (v : Int) (w : World) (h : ¬ Word v) : Calls Try.prog 96 #[.int .i64 v] w fun e w' => e = .returned (.bool false) ∧ w = w' := by
  have H := Lib.hid h
  clear h
  go_enter Try.func96, Try.ntmps96
  go_wp2_with (go_at_call 82; (with_reducible refine (l1In_no _ _ _ _ (by have := H.out; unfold Word at this; omega)).mono ?_); rintro e w' ⟨rfl, rfl⟩)
  go_ret
  exact ⟨rfl, rfl⟩

set_option maxRecDepth 100000 in
set_option maxHeartbeats 400000 in
theorem wordBound_any (v : Int) (w : World) : Calls Try.prog 101 #[.int .i64 v] w fun e w' => e = .returned (.agg #[.int .i64 v, .int .i64 (-1000000000), .int .i64 1000000000]) ∧ Below w.heap.size w w' := by
  go_enter Try.func101, Try.ntmps101
  go_wp2
  exact bodyPost_ret (v := .agg #[.int .i64 v, .int .i64 (-1000000000), .int .i64 1000000000]) (by simp [results, Try.results101, go_sem]) rfl ⟨rfl, (Below.refl _ _).alloc (Nat.le_refl _) _⟩

theorem b3_new {W : World} {cs : Array Value} {t : TypeId} {o : Nat} {v l g : Int} (h1 : cs[o]? = some (.int .i64 v)) (h2 : cs[o + 1]? = some (.int .i64 l)) (h3 : cs[o + 2]? = some (.int .i64 g)) : B3 (W.alloc (.cells cs t)) W.heap.size o v l g := by
  refine ⟨?_, ?_, ?_⟩ <;> (rw [World.cell?_alloc_at _ _ _ _ rfl]; assumption)

/-- isOutside, of bounds that were laid just ahead of the call. -/
def pick3 (a b c : Int) : Nat → Int := fun i => if i = 0 then a else if i = 1 then b else c

theorem isOut1 (B : Nat) (W : World) (v l g : Int) (r : Bool) (hB : B = W.heap.size) (hr : (r = false ∧ (l ≤ v ∧ v ≤ g)) ∨ (r = true ∧ ¬ (l ≤ v ∧ v ≤ g))) :
    Calls Try.prog 80 #[.slice (some ⟨B, 0, none⟩) 1 1] (W.alloc (.cells #[.int .i64 v, .int .i64 l, .int .i64 g] 138)) (RetBool (W.alloc (.cells #[.int .i64 v, .int .i64 l, .int .i64 g] 138)) r) := by
  subst hB
  rcases hr with ⟨rfl, hr⟩ | ⟨rfl, hr⟩
  · refine isOut_no W.heap.size 1 (fun _ => v) (fun _ => l) (fun _ => g) _ (by omega) (by simp) (fun i hi => ?_) (fun _ _ => hr)
    obtain rfl : i = 0 := by omega
    exact b3_new rfl rfl rfl
  · refine isOut_yes W.heap.size 1 (fun _ => v) (fun _ => l) (fun _ => g) _ (by omega) (by simp) (fun i hi => ?_) ⟨0, by omega, hr⟩
    obtain rfl : i = 0 := by omega
    exact b3_new rfl rfl rfl

theorem isOut2 (B : Nat) (W : World) (v0 l0 g0 v1 l1 g1 : Int) (r : Bool) (hB : B = W.heap.size)
    (hr : (r = false ∧ (l0 ≤ v0 ∧ v0 ≤ g0) ∧ (l1 ≤ v1 ∧ v1 ≤ g1)) ∨ (r = true ∧ ¬ ((l0 ≤ v0 ∧ v0 ≤ g0) ∧ (l1 ≤ v1 ∧ v1 ≤ g1)))) :
    Calls Try.prog 80 #[.slice (some ⟨B, 0, none⟩) 2 2] (W.alloc (.cells #[.int .i64 v0, .int .i64 l0, .int .i64 g0, .int .i64 v1, .int .i64 l1, .int .i64 g1] 138))
      (RetBool (W.alloc (.cells #[.int .i64 v0, .int .i64 l0, .int .i64 g0, .int .i64 v1, .int .i64 l1, .int .i64 g1] 138)) r) := by
  subst hB
  have hB3 : ∀ i, i < 2 → B3 (W.alloc (.cells #[.int .i64 v0, .int .i64 l0, .int .i64 g0, .int .i64 v1, .int .i64 l1, .int .i64 g1] 138)) W.heap.size (i * 3) (pick3 v0 v1 0 i) (pick3 l0 l1 0 i) (pick3 g0 g1 0 i) := by
    intro i hi
    match i, hi with
    | 0, _ => exact b3_new rfl rfl rfl
    | 1, _ => exact b3_new rfl rfl rfl
  rcases hr with ⟨rfl, hr⟩ | ⟨rfl, hr⟩
  · refine isOut_no W.heap.size 2 _ _ _ _ (by omega) (by simp) hB3 (fun i hi => ?_)
    match i, hi with
    | 0, _ => exact hr.1
    | 1, _ => exact hr.2
  · refine isOut_yes W.heap.size 2 _ _ _ _ (by omega) (by simp) hB3 ?_
    by_cases h0 : l0 ≤ v0 ∧ v0 ≤ g0
    · exact ⟨1, by omega, fun h1 => hr ⟨h0, h1⟩⟩
    · exact ⟨0, by omega, h0⟩

theorem isOut3 (B : Nat) (W : World) (v0 l0 g0 v1 l1 g1 v2 l2 g2 : Int) (r : Bool) (hB : B = W.heap.size)
    (hr : (r = false ∧ (l0 ≤ v0 ∧ v0 ≤ g0) ∧ (l1 ≤ v1 ∧ v1 ≤ g1) ∧ (l2 ≤ v2 ∧ v2 ≤ g2)) ∨ (r = true ∧ ¬ ((l0 ≤ v0 ∧ v0 ≤ g0) ∧ (l1 ≤ v1 ∧ v1 ≤ g1) ∧ (l2 ≤ v2 ∧ v2 ≤ g2)))) :
    Calls Try.prog 80 #[.slice (some ⟨B, 0, none⟩) 3 3] (W.alloc (.cells #[.int .i64 v0, .int .i64 l0, .int .i64 g0, .int .i64 v1, .int .i64 l1, .int .i64 g1, .int .i64 v2, .int .i64 l2, .int .i64 g2] 138))
      (RetBool (W.alloc (.cells #[.int .i64 v0, .int .i64 l0, .int .i64 g0, .int .i64 v1, .int .i64 l1, .int .i64 g1, .int .i64 v2, .int .i64 l2, .int .i64 g2] 138)) r) := by
  subst hB
  have hB3 : ∀ i, i < 3 → B3 (W.alloc (.cells #[.int .i64 v0, .int .i64 l0, .int .i64 g0, .int .i64 v1, .int .i64 l1, .int .i64 g1, .int .i64 v2, .int .i64 l2, .int .i64 g2] 138)) W.heap.size (i * 3) (pick3 v0 v1 v2 i) (pick3 l0 l1 l2 i) (pick3 g0 g1 g2 i) := by
    intro i hi
    match i, hi with
    | 0, _ => exact b3_new rfl rfl rfl
    | 1, _ => exact b3_new rfl rfl rfl
    | 2, _ => exact b3_new rfl rfl rfl
  rcases hr with ⟨rfl, hr⟩ | ⟨rfl, hr⟩
  · refine isOut_no W.heap.size 3 _ _ _ _ (by omega) (by simp) hB3 (fun i hi => ?_)
    match i, hi with
    | 0, _ => exact hr.1
    | 1, _ => exact hr.2.1
    | 2, _ => exact hr.2.2
  · refine isOut_yes W.heap.size 3 _ _ _ _ (by omega) (by simp) hB3 ?_
    by_cases h0 : l0 ≤ v0 ∧ v0 ≤ g0
    · by_cases h1 : l1 ≤ v1 ∧ v1 ≤ g1
      · exact ⟨2, by omega, fun h2 => hr ⟨h0, h1, h2⟩⟩
      · exact ⟨1, by omega, h1⟩
    · exact ⟨0, by omega, h0⟩
end Go.Proofs.Ytbhjmomphajnnaa

namespace Go.Proofs.Ytbhjmomphajnnaa
open Go.RowKit
set_option linter.unusedVariables false

/-- A pair of numbers comes back; nothing that was there is turned. -/
def RetPair (W : World) (c v : Int) (e : Ending) (w' : World) : Prop := e = .returned (.agg #[.int .i64 c, .int .i64 v]) ∧ Below W.heap.size W w'

theorem thru0 {w w1 w2 : World} (h : Below w.heap.size w w1) (hb : Below w1.heap.size w1 w2) : Below w.heap.size w w2 := h.trans (hb.mono h.size)

theorem thru1 {w w1 w2 : World} {o : Obj} (h : Below w.heap.size w w1) (hb : Below (w1.alloc o).heap.size (w1.alloc o) w2) : Below w.heap.size w w2 := thru0 (h.alloc h.size o) hb
end Go.Proofs.Ytbhjmomphajnnaa

namespace Go.Proofs.Ytbhjmomphajnnaa
open Go.RowKit
set_option linter.unusedVariables false

/-- Nothing that was there is turned, but in the blocks from lo to hi. -/
structure Keeps (w w' : World) (lo hi : Nat) : Prop where
  os : w'.os = w.os
  tape : w'.tape = w.tape
  output : w'.output = w.output
  size : w.heap.size ≤ w'.heap.size
  block : ∀ k, k < w.heap.size → (k < lo ∨ hi ≤ k) → w'.heap[k]? = w.heap[k]?

theorem Keeps.refl (w : World) (lo hi : Nat) : Keeps w w lo hi := ⟨rfl, rfl, rfl, Nat.le_refl _, fun _ _ _ => rfl⟩

theorem Keeps.trans {w w1 w2 : World} {lo hi : Nat} (h : Keeps w w1 lo hi) (k : Keeps w1 w2 lo hi) : Keeps w w2 lo hi :=
  ⟨k.os.trans h.os, k.tape.trans h.tape, k.output.trans h.output, Nat.le_trans h.size k.size, fun i hi h' => (k.block i (Nat.lt_of_lt_of_le hi h.size) h').trans (h.block i hi h')⟩

theorem keeps_of_below {w w' : World} (h : Below w.heap.size w w') (lo hi : Nat) : Keeps w w' lo hi := ⟨h.os, h.tape, h.output, h.size, fun k hk _ => h.block k hk⟩

theorem keeps_setCell {w : World} {lo hi : Nat} {p : Addr} (h1 : lo ≤ p.block) (h2 : p.block < hi) (u : Value) : Keeps w (w.setCell p u) lo hi := by
  have h : Below p.block w (w.setCell p u) := (Below.refl _ _).setCell (Nat.le_refl _) u
  exact ⟨h.os, h.tape, h.output, h.size, fun k _ hk' => Below.heap_setCell w p u k (by omega)⟩

theorem Keeps.below {w w' : World} {lo hi B : Nat} (h : Keeps w w' lo hi) (hB : B ≤ lo) (hs : B ≤ w.heap.size) : Below B w w' :=
  ⟨h.os, h.tape, h.output, h.size, fun k hk => h.block k (by omega) (.inl (by omega))⟩

theorem Blk.keeps {w w' : World} {b lo hi : Nat} {cs : List Value} (h : Blk w b cs) (hk : Keeps w w' lo hi) (hd : b < lo ∨ hi ≤ b) : Blk w' b cs := by
  have e := hk.block b h.1 hd
  exact ⟨Nat.lt_of_lt_of_le h.1 hk.size, fun i u hu => ⟨(World.cell?_of_block (w := w) (a := ⟨b, i, none⟩) e).trans (h.2 i u hu).1, (World.frozen?_of_block (w := w) (a := ⟨b, i, none⟩) e).trans (h.2 i u hu).2⟩⟩

/-- A row of the call's own, in a block from lo to hi. -/
def OwnIn (w : World) (lo hi : Nat) (a : Option Addr) (n : Nat) (f : Nat → Int) : Prop :=
  n = 0 ∨ ∃ b off, a = some ⟨b, off, none⟩ ∧ (lo ≤ b ∧ b < hi) ∧ b < w.heap.size ∧ ∀ i, i < n → w.cell? ⟨b, off + i, none⟩ = some (.int .i64 (f i)) ∧ w.frozen? ⟨b, off + i, none⟩ = false

theorem OwnIn.src {w : World} {lo hi : Nat} {a : Option Addr} {n : Nat} {f : Nat → Int} (h : OwnIn w lo hi a n f) : Src w a n f := by
  rcases h with h | ⟨b, off, h1, _, h3, h4⟩
  · exact .inl h
  · exact .inr ⟨b, off, h1, h3, fun i hi => (h4 i hi).1⟩

theorem OwnIn.keeps {w w' : World} {lo hi lo' hi' : Nat} {a : Option Addr} {n : Nat} {f : Nat → Int} (h : OwnIn w lo hi a n f) (hk : Keeps w w' lo' hi') (hd : hi ≤ lo' ∨ hi' ≤ lo) : OwnIn w' lo hi a n f := by
  rcases h with h | ⟨b, off, h1, h2, h3, h4⟩
  · exact .inl h
  · have e := hk.block b h3 (by omega)
    exact .inr ⟨b, off, h1, h2, Nat.lt_of_lt_of_le h3 hk.size, fun i hi => ⟨(World.cell?_of_block (w := w) (a := ⟨b, off + i, none⟩) e).trans (h4 i hi).1, (World.frozen?_of_block (w := w) (a := ⟨b, off + i, none⟩) e).trans (h4 i hi).2⟩⟩

theorem OwnIn.below {w w' : World} {lo hi : Nat} {a : Option Addr} {n : Nat} {f : Nat → Int} (h : OwnIn w lo hi a n f) (hb : Below w.heap.size w w') : OwnIn w' lo hi a n f := by
  rcases h with h | ⟨b, off, h1, h2, h3, h4⟩
  · exact .inl h
  · exact .inr ⟨b, off, h1, h2, Nat.lt_of_lt_of_le h3 hb.size, fun i hi => ⟨(hb.cell (p := ⟨b, off + i, none⟩) h3).trans (h4 i hi).1, (hb.frozen (p := ⟨b, off + i, none⟩) h3).trans (h4 i hi).2⟩⟩

theorem OwnIn.alloc {w : World} {lo hi : Nat} {a : Option Addr} {n : Nat} {f : Nat → Int} (h : OwnIn w lo hi a n f) (o : Obj) : OwnIn (w.alloc o) lo hi a n f := h.below ((Below.refl _ _).alloc (Nat.le_refl _) o)

theorem OwnIn.drew {w : World} {lo hi : Nat} {a : Option Addr} {n : Nat} {f : Nat → Int} (h : OwnIn w lo hi a n f) : OwnIn w.drew lo hi a n f := h.below (Below.refl _ _).drew

theorem OwnIn.congr {w : World} {lo hi : Nat} {a : Option Addr} {n : Nat} {f g : Nat → Int} (h : OwnIn w lo hi a n f) (e : ∀ i, i < n → f i = g i) : OwnIn w lo hi a n g := by
  rcases h with h | ⟨b, off, h1, h2, h3, h4⟩
  · exact .inl h
  · exact .inr ⟨b, off, h1, h2, h3, fun i hi => by rw [← e i hi]; exact h4 i hi⟩
end Go.Proofs.Ytbhjmomphajnnaa

namespace Go.Proofs.Ytbhjmomphajnnaa
open Go.RowKit
set_option linter.unusedVariables false

/-- Two halves of m words each, in blocks from lo to mid and from mid to hi: together F. -/
def Halves (w : World) (lo mid hi : Nat) (a1 a2 : Option Addr) (m : Nat) (F : Nat → Int) : Prop :=
  OwnIn w lo mid a1 m F ∧ OwnIn w mid hi a2 m (fun i => F (m + i))

theorem OwnIn.setCell {w : World} {lo hi : Nat} {a : Option Addr} {n : Nat} {f : Nat → Int} (h : OwnIn w lo hi a n f) {p : Addr} (hp : p.block < lo ∨ hi ≤ p.block) (u : Value) : OwnIn (w.setCell p u) lo hi a n f :=
  h.keeps (keeps_setCell (Nat.le_refl p.block) (Nat.lt_succ_self _) u) (by omega)

theorem OwnIn.out {w : World} {lo hi : Nat} {a : Option Addr} {n : Nat} {f : Nat → Int} (h : OwnIn w lo hi a n f) : Own w lo a n f := by
  rcases h with h | ⟨b, off, h1, h2, h3, h4⟩
  · exact .inl h
  · exact .inr ⟨b, off, h1, h2.1, h3, h4⟩

theorem OwnIn.widen {w : World} {lo hi lo' hi' : Nat} {a : Option Addr} {n : Nat} {f : Nat → Int} (h : OwnIn w lo hi a n f) (h1 : lo' ≤ lo) (h2 : hi ≤ hi') : OwnIn w lo' hi' a n f := by
  rcases h with h | ⟨b, off, g1, g2, g3, g4⟩
  · exact .inl h
  · exact .inr ⟨b, off, g1, by omega, g3, g4⟩

def upd (f : Nat → Int) (k : Nat) (v : Int) : Nat → Int := fun i => if i = k then v else f i

theorem Keeps.widen {w w' : World} {lo hi lo' hi' : Nat} (h : Keeps w w' lo hi) (h1 : lo' ≤ lo) (h2 : hi ≤ hi') : Keeps w w' lo' hi' :=
  ⟨h.os, h.tape, h.output, h.size, fun k hk hd => h.block k hk (by omega)⟩

theorem Halves.below {w w' : World} {lo mid hi : Nat} {a1 a2 : Option Addr} {m : Nat} {F : Nat → Int} (h : Halves w lo mid hi a1 a2 m F) (hb : Below w.heap.size w w') : Halves w' lo mid hi a1 a2 m F := ⟨h.1.below hb, h.2.below hb⟩

theorem Halves.alloc {w : World} {lo mid hi : Nat} {a1 a2 : Option Addr} {m : Nat} {F : Nat → Int} (h : Halves w lo mid hi a1 a2 m F) (o : Obj) : Halves (w.alloc o) lo mid hi a1 a2 m F := ⟨h.1.alloc o, h.2.alloc o⟩

theorem Src.keeps {w w' : World} {lo' hi' : Nat} {a : Option Addr} {n : Nat} {f : Nat → Int} (h : Src w a n f) (hk : Keeps w w' lo' hi') (hd : ∀ b off, a = some ⟨b, off, none⟩ → b < lo' ∨ hi' ≤ b) : Src w' a n f := by
  rcases h with h | ⟨b, off, h1, h3, h4⟩
  · exact .inl h
  · have e := hk.block b h3 (hd b off h1)
    exact .inr ⟨b, off, h1, Nat.lt_of_lt_of_le h3 hk.size, fun i hi => (World.cell?_of_block (w := w) (a := ⟨b, off + i, none⟩) e).trans (h4 i hi)⟩
end Go.Proofs.Ytbhjmomphajnnaa

namespace Go.Proofs.Ytbhjmomphajnnaa
open Go.RowKit
set_option linter.unusedVariables false

/-- A store into a known block. -/
theorem Blk.set {w : World} {b : Nat} {cs : List Value} (h : Blk w b cs) (i : Nat) (hi : i < cs.length) (v : Value) : Blk (w.setCell ⟨b, i, none⟩ v) b (cs.set i v) := by
  refine ⟨by simpa using h.1, fun j u hj => ?_⟩
  constructor
  · by_cases e : j = i
    · subst e
      rw [List.getElem?_set_self hi] at hj
      simp only [Option.some.injEq] at hj
      subst hj
      exact World.cell?_setCell_same w ⟨b, j, none⟩ v (h.2 j cs[j] (List.getElem?_eq_getElem hi)).1
    · rw [List.getElem?_set_ne (fun x => e x.symm)] at hj
      rw [World.cell?_setCell_other _ _ _ _ (by simp; try omega)]
      exact (h.2 j u hj).1
  · rw [World.frozen?_setCell]
    by_cases e : j = i
    · subst e; exact (h.2 j cs[j] (List.getElem?_eq_getElem hi)).2
    · rw [List.getElem?_set_ne (fun x => e x.symm)] at hj
      exact (h.2 j u hj).2

theorem Blk.other {w : World} {b : Nat} {cs : List Value} (h : Blk w b cs) {p : Addr} (hp : p.block ≠ b) (u : Value) : Blk (w.setCell p u) b cs :=
  h.keeps (keeps_setCell (Nat.le_refl p.block) (Nat.lt_succ_self _) u) (by omega)
end Go.Proofs.Ytbhjmomphajnnaa

namespace Go.Proofs.Ytbhjmomphajnnaa
open Go.RowKit
set_option linter.unusedVariables false

theorem Halves.congr {w : World} {lo mid hi : Nat} {a1 a2 : Option Addr} {m : Nat} {F G : Nat → Int} (h : Halves w lo mid hi a1 a2 m F) (e : ∀ i, i < 2 * m → F i = G i) : Halves w lo mid hi a1 a2 m G :=
  ⟨h.1.congr fun i hi => e i (by omega), h.2.congr fun i hi => e (m + i) (by omega)⟩
end Go.Proofs.Ytbhjmomphajnnaa

namespace Go.Proofs.Ytbhjmomphajnnaa
open Go.RowKit
set_option linter.unusedVariables false

/-- The bytes of a code, in a block below S. -/
def SrcB (w : World) (S : Nat) (a : Option Addr) (k : Nat) (B : Nat → Int) : Prop :=
  k = 0 ∨ ∃ b off, a = some ⟨b, off, none⟩ ∧ b < S ∧ b < w.heap.size ∧ ∀ i, i < k → w.cell? ⟨b, off + i, none⟩ = some (.int .u8 (B i)) ∧ 0 ≤ B i ∧ B i ≤ 255

theorem SrcB.keeps {w w' : World} {S lo hi : Nat} {a : Option Addr} {k : Nat} {B : Nat → Int} (h : SrcB w S a k B) (hk : Keeps w w' lo hi) (hS : S ≤ lo) : SrcB w' S a k B := by
  rcases h with h | ⟨b, off, h1, h2, h3, h4⟩
  · exact .inl h
  · have e := hk.block b h3 (.inl (by omega))
    exact .inr ⟨b, off, h1, h2, Nat.lt_of_lt_of_le h3 hk.size, fun i hi => ⟨(World.cell?_of_block (w := w) (a := ⟨b, off + i, none⟩) e).trans (h4 i hi).1, (h4 i hi).2⟩⟩

theorem SrcB.below {w w' : World} {S : Nat} {a : Option Addr} {k : Nat} {B : Nat → Int} (h : SrcB w S a k B) (hb : Below w.heap.size w w') : SrcB w' S a k B := by
  rcases h with h | ⟨b, off, h1, h2, h3, h4⟩
  · exact .inl h
  · exact .inr ⟨b, off, h1, h2, Nat.lt_of_lt_of_le h3 hb.size, fun i hi => ⟨(hb.cell (p := ⟨b, off + i, none⟩) h3).trans (h4 i hi).1, (h4 i hi).2⟩⟩

theorem SrcB.alloc {w : World} {S : Nat} {a : Option Addr} {k : Nat} {B : Nat → Int} (h : SrcB w S a k B) (o : Obj) : SrcB (w.alloc o) S a k B := h.below ((Below.refl _ _).alloc (Nat.le_refl _) o)

theorem SrcB.drew {w : World} {S : Nat} {a : Option Addr} {k : Nat} {B : Nat → Int} (h : SrcB w S a k B) : SrcB w.drew S a k B := h.below (Below.refl _ _).drew

/-- A number below n is drawn; the source's block alone is written. -/
def RetNext (W : World) (b : Nat) (ca : Option Addr) (k kc t n : Nat) (e : Ending) (w' : World) : Prop :=
  ∃ v : Nat, e = .returned (.int .i64 (v : Int)) ∧ v < n ∧ Blk w' b [.slice ca k kc, .int .i64 ((t : Int) + 1)] ∧ Keeps W w' b (b + 1)

theorem retNext_of {W w' : World} {b : Nat} {ca : Option Addr} {k kc t n : Nat} {x : Int} (h0 : 0 ≤ x) (h1 : x < (n : Int)) (hB : Blk w' b [.slice ca k kc, .int .i64 ((t : Int) + 1)]) (hk : Keeps W w' b (b + 1)) :
    RetNext W b ca k kc t n (.returned (.int .i64 x)) w' := ⟨x.toNat, by rw [Int.toNat_of_nonneg h0], by omega, hB, hk⟩

set_option maxRecDepth 100000 in
set_option maxHeartbeats 400000 in
theorem next_nil (b S : Nat) (ca : Option Addr) (kc t n : Nat) (w : World) (hB : Blk w b [.slice ca 0 kc, .int .i64 (t : Int)]) (ht : t ≤ 10000) (h1 : 1 ≤ n) (h2 : n ≤ 5000) :
    Calls Try.prog 81 #[.pointer (some ⟨b, 0, none⟩), .int .i64 (n : Int)] w (RetNext w b ca 0 kc t n) := by
  have p0 := hB.at 0 rfl; have p1 := hB.at 1 rfl; have q1 := hB.free 1 rfl
  have HB := Lib.hid hB
  have hn : (n : Int) ≠ 0 := by omega
  have e1 : ((t : Int) + 1 - 1) = t := by omega
  clear hB
  go_enter Try.func81, Try.ntmps81
  go_wp2
  go_ret
  refine retNext_of (Int.emod_nonneg _ hn) (Int.emod_lt_of_pos _ (by omega)) (HB.out.set 1 (by simp) _) (keeps_setCell (Nat.le_refl _) (by simp) _)

set_option maxRecDepth 100000 in
set_option maxHeartbeats 800000 in
theorem next_some (b S : Nat) (ca : Option Addr) (k kc t n : Nat) (B : Nat → Int) (w : World) (hB : Blk w b [.slice ca k kc, .int .i64 (t : Int)]) (hs : SrcB w S ca k B) (hS : S ≤ b) (hk : k ≤ 1048576) (hk0 : 0 < k) (ht : t ≤ 10000) (h1 : 1 ≤ n) (h2 : n ≤ 200) :
    Calls Try.prog 81 #[.pointer (some ⟨b, 0, none⟩), .int .i64 (n : Int)] w (RetNext w b ca k kc t n) := by
  rcases hs with hs | ⟨cb, co, rfl, hcS, hcw, hc⟩
  · omega
  have p0 := hB.at 0 rfl; have p1 := hB.at 1 rfl; have q1 := hB.free 1 rfl
  have HB := Lib.hid hB
  have hm : t % k < k := Nat.mod_lt _ hk0
  obtain ⟨hc1, hc2, hc3⟩ := hc (t % k) hm
  have hne : ¬ cb = b := by omega
  have hn : (n : Int) ≠ 0 := by omega
  have hkne : ((k : Int) == 0) = false := by simp; omega
  have hkne' : ¬ (k : Int) = 0 := by omega
  have e1 : ((t : Int) + 1 - 1) = t := by omega
  have em : ((t : Int) % (k : Int)).toNat = t % k := by rw [← Int.natCast_emod, Int.toNat_natCast]
  have em1 : (0 : Int) ≤ (t : Int) % (k : Int) := Int.emod_nonneg _ (by omega)
  have em2 : (t : Int) % (k : Int) < (k : Int) := Int.emod_lt_of_pos _ (by omega)
  have et : (t : Int).tmod (k : Int) = (t : Int) % (k : Int) := Int.tmod_eq_emod_of_nonneg (by omega)
  have ed : (t : Int).tdiv (k : Int) = (t : Int) / (k : Int) := Int.tdiv_eq_ediv_of_nonneg (by omega)
  have ed1 : (0 : Int) ≤ (t : Int) / (k : Int) := Int.ediv_nonneg (by omega) (by omega)
  have ed2 : (t : Int) / (k : Int) ≤ 10000 := by have := Int.ediv_le_self (b := (k : Int)) (a := (t : Int)) (by omega); omega
  clear hB hc
  go_enter Try.func81, Try.ntmps81
  go_wp2
  go_quiet (fail)
  go_wp2
  go_ret
  refine retNext_of (x := (B (t % k) + (t : Int) / (k : Int) * 37) % (n : Int)) (Int.emod_nonneg _ hn) (Int.emod_lt_of_pos _ (by omega)) ((HB.out.set 1 (by simp) _).below (below_drewN (Below.refl _ _) _)) ((keeps_setCell (Nat.le_refl _) (by simp) _).trans (keeps_of_below (below_drewN (Below.refl _ _) _) _ _))

set_option maxRecDepth 100000 in
set_option maxHeartbeats 800000 in
theorem next_great (b S : Nat) (ca : Option Addr) (k kc t n : Nat) (B : Nat → Int) (w : World) (hB : Blk w b [.slice ca k kc, .int .i64 (t : Int)]) (hs : SrcB w S ca k B) (hS : S ≤ b) (hk : k ≤ 1048576) (hk0 : 0 < k) (ht : t ≤ 10000) (h1 : 200 < n) (h2 : n ≤ 5000) :
    Calls Try.prog 81 #[.pointer (some ⟨b, 0, none⟩), .int .i64 (n : Int)] w (RetNext w b ca k kc t n) := by
  rcases hs with hs | ⟨cb, co, rfl, hcS, hcw, hc⟩
  · omega
  have p0 := hB.at 0 rfl; have p1 := hB.at 1 rfl; have q1 := hB.free 1 rfl
  have HB := Lib.hid hB
  have hm : t % k < k := Nat.mod_lt _ hk0
  obtain ⟨hc1, hc2, hc3⟩ := hc (t % k) hm
  have hne : ¬ cb = b := by omega
  have hn : (n : Int) ≠ 0 := by omega
  have hkne : ((k : Int) == 0) = false := by simp; omega
  have hkne' : ¬ (k : Int) = 0 := by omega
  have e1 : ((t : Int) + 1 - 1) = t := by omega
  have em : ((t : Int) % (k : Int)).toNat = t % k := by rw [← Int.natCast_emod, Int.toNat_natCast]
  have em1 : (0 : Int) ≤ (t : Int) % (k : Int) := Int.emod_nonneg _ (by omega)
  have em2 : (t : Int) % (k : Int) < (k : Int) := Int.emod_lt_of_pos _ (by omega)
  have et : (t : Int).tmod (k : Int) = (t : Int) % (k : Int) := Int.tmod_eq_emod_of_nonneg (by omega)
  have ed : (t : Int).tdiv (k : Int) = (t : Int) / (k : Int) := Int.tdiv_eq_ediv_of_nonneg (by omega)
  have ed1 : (0 : Int) ≤ (t : Int) / (k : Int) := Int.ediv_nonneg (by omega) (by omega)
  have ed2 : (t : Int) / (k : Int) ≤ 10000 := by have := Int.ediv_le_self (b := (k : Int)) (a := (t : Int)) (by omega); omega
  have hm' : (t + 1) % k < k := Nat.mod_lt _ hk0
  obtain ⟨hd1, hd2, hd3⟩ := hc ((t + 1) % k) hm'
  have fm : (((t : Int) + 1) % (k : Int)).toNat = (t + 1) % k := by
    have : ((t : Int) + 1) = ((t + 1 : Nat) : Int) := by omega
    rw [this, ← Int.natCast_emod, Int.toNat_natCast]
  have fm1 : (0 : Int) ≤ ((t : Int) + 1) % (k : Int) := Int.emod_nonneg _ (by omega)
  have fm2 : ((t : Int) + 1) % (k : Int) < (k : Int) := Int.emod_lt_of_pos _ (by omega)
  have ft : ((t : Int) + 1).tmod (k : Int) = ((t : Int) + 1) % (k : Int) := Int.tmod_eq_emod_of_nonneg (by omega)
  have hlt : (200 : Int) < (n : Int) := by omega
  clear hB hc
  go_enter Try.func81, Try.ntmps81
  go_wp2
  go_quiet (fail)
  go_wp2
  go_quiet (fail)
  go_wp2
  go_ret
  have KK : Keeps w (w.setCell ⟨b, 1, none⟩ (.int .i64 ((t : Int) + 1))) b (b + 1) := keeps_setCell (Nat.le_refl _) (Nat.lt_succ_self _) _
  refine retNext_of (x := ((B (t % k) + (t : Int) / (k : Int) * 37) * 251 + B ((t + 1) % k) * 13 + (t : Int)) % (n : Int)) (Int.emod_nonneg _ hn) (Int.emod_lt_of_pos _ (by omega)) ((HB.out.set 1 (by simp) _).below (below_drewN (Below.refl _ _) _)) (KK.trans (keeps_of_below (below_drewN (Below.refl _ _) _) _ _))

theorem next_any (b S : Nat) (ca : Option Addr) (k kc t n : Nat) (B : Nat → Int) (w : World) (hB : Blk w b [.slice ca k kc, .int .i64 (t : Int)]) (hs : SrcB w S ca k B) (hS : S ≤ b) (hk : k ≤ 1048576) (ht : t ≤ 10000) (h1 : 1 ≤ n) (h2 : n ≤ 5000) :
    Calls Try.prog 81 #[.pointer (some ⟨b, 0, none⟩), .int .i64 (n : Int)] w (RetNext w b ca k kc t n) := by
  by_cases h : k = 0
  · subst h; exact next_nil b S ca kc t n w hB ht h1 h2
  · by_cases h3 : n ≤ 200
    · exact next_some b S ca k kc t n B w hB hs hS hk (by omega) ht h1 h3
    · exact next_great b S ca k kc t n B w hB hs hS hk (by omega) ht (by omega) h2

theorem next_is (X : Int) (b S : Nat) (ca : Option Addr) (k kc t n : Nat) (B : Nat → Int) (w : World) (hX : X = (n : Int)) (hB : Blk w b [.slice ca k kc, .int .i64 (t : Int)]) (hs : SrcB w S ca k B) (hS : S ≤ b) (hk : k ≤ 1048576) (ht : t ≤ 10000) (h1 : 1 ≤ n) (h2 : n ≤ 5000) :
    Calls Try.prog 81 #[.pointer (some ⟨b, 0, none⟩), .int .i64 X] w (RetNext w b ca k kc t n) := hX ▸ next_any b S ca k kc t n B w hB hs hS hk ht h1 h2

/-- One of a list is drawn. -/
def RetPick (W : World) (b : Nat) (ca : Option Addr) (k kc t n : Nat) (L : Nat → Int) (e : Ending) (w' : World) : Prop :=
  ∃ i : Nat, e = .returned (.int .i64 (L i)) ∧ i < n ∧ Blk w' b [.slice ca k kc, .int .i64 ((t : Int) + 1)] ∧ Keeps W w' b (b + 1)

set_option maxRecDepth 100000 in
set_option maxHeartbeats 400000 in
theorem pick_any (b S q : Nat) (ca : Option Addr) (k kc t n : Nat) (B L : Nat → Int) (w : World) (hB : Blk w b [.slice ca k kc, .int .i64 (t : Int)]) (hs : SrcB w S ca k B) (hS : S ≤ b) (hk : k ≤ 1048576) (ht : t ≤ 10000) (h1 : 1 ≤ n) (h2 : n ≤ 200)
    (hL : Src w (some ⟨q, 0, none⟩) n L) (hq : q ≠ b) :
    Calls Try.prog 79 #[.pointer (some ⟨b, 0, none⟩), .slice (some ⟨q, 0, none⟩) n n] w (RetPick w b ca k kc t n L) := by
  have HB := Lib.hid hB
  have HS := Lib.hid hs
  have HL := Lib.hid hL
  clear hB hs hL
  go_enter Try.func79, Try.ntmps79
  go_wp2_with fail
  refine (next_any b S ca k kc t n B _ HB.out HS.out hS hk ht h1 (by omega)).mono ?_
  rintro e w1 ⟨v, rfl, hv, hB1, hk1⟩
  have HB1 := Lib.hid hB1
  have HK1 := Lib.hid hk1
  have hcl := src_at (HL.out.keeps HK1.out (fun b' off h => by simp only [Option.some.injEq, Addr.mk.injEq, and_true] at h; omega)) v hv
  have hv' : (v : Int) < (n : Int) := by omega
  simp only [Nat.zero_add] at hcl
  clear hB1 hk1
  go_wp2
  go_ret
  exact ⟨v, rfl, hv, HB1.out, HK1.out⟩

set_option maxRecDepth 100000 in
set_option maxHeartbeats 400000 in
theorem source_any (ca : Option Addr) (k kc : Nat) (w : World) :
    Calls Try.prog 78 #[.slice ca k kc] w fun e w' => e = .returned (.pointer (some ⟨w.heap.size, 0, none⟩)) ∧ w' = w.alloc (.cells #[.slice ca k kc, .int .i64 0] 235) := by
  go_enter Try.func78, Try.ntmps78
  go_wp2
  go_ret
  exact ⟨rfl, rfl⟩

set_option maxRecDepth 100000 in
set_option maxHeartbeats 400000 in
theorem big_no (ca : Option Addr) (k kc : Nat) (w : World) (h : k ≤ 1048576) :
    Calls Try.prog 10 #[.slice ca k kc] w fun e w' => e = .returned (.bool false) ∧ w = w' := by
  go_enter Try.func10, Try.ntmps10
  go_wp2
  go_ret
  exact ⟨by show Ending.returned (.bool (decide ((1048576 : Int) < (k : Int)))) = _; rw [decide_eq_false (by omega)], rfl⟩

set_option maxRecDepth 100000 in
set_option maxHeartbeats 400000 in
theorem big_yes (ca : Option Addr) (k kc : Nat) (w : World) (hk : k ≤ maxLen) (h : 1048576 < k) :
    Calls Try.prog 10 #[.slice ca k kc] w fun e w' => e = .returned (.bool true) ∧ w = w' := by
  unfold maxLen at hk
  go_enter Try.func10, Try.ntmps10
  go_wp2
  go_ret
  exact ⟨by show Ending.returned (.bool (decide ((1048576 : Int) < (k : Int)))) = _; rw [decide_eq_true (by omega)], rfl⟩

/-- The list of a call, laid just ahead of it. -/
theorem src_lit (W : World) (q n : Nat) (cs : Array Value) (L : Nat → Int) (hq : q = W.heap.size) (h : ∀ i, i < n → cs[i]? = some (.int .i64 (L i))) : Src (W.alloc (.cells cs 2)) (some ⟨q, 0, none⟩) n L := by
  subst hq
  refine .inr ⟨W.heap.size, 0, rfl, by simp, fun i hi => ?_⟩
  rw [World.cell?_alloc_at _ _ _ _ rfl, Nat.zero_add]; exact h i hi

/-- One of a list that is written out. -/
def RetOf (W : World) (b : Nat) (ca : Option Addr) (k kc t : Nat) (l : List Int) (e : Ending) (w' : World) : Prop :=
  ∃ v : Int, e = .returned (.int .i64 v) ∧ v ∈ l ∧ Blk w' b [.slice ca k kc, .int .i64 ((t : Int) + 1)] ∧ Keeps W w' b (b + 1)

theorem of_any (l : List Int) (b S q : Nat) (ca : Option Addr) (k kc t n : Nat) (B : Nat → Int) (cs : Array Value) (W : World) (hB : Blk W b [.slice ca k kc, .int .i64 (t : Int)]) (hs : SrcB W S ca k B) (hS : S ≤ b) (hk : k ≤ 1048576) (ht : t ≤ 10000)
    (hn : n = l.length) (hl1 : 1 ≤ l.length) (hl2 : l.length ≤ 200) (hcs : cs.toList = l.map (Value.int .i64)) (hq : q = W.heap.size) :
    Calls Try.prog 79 #[.pointer (some ⟨b, 0, none⟩), .slice (some ⟨q, 0, none⟩) n n] (W.alloc (.cells cs 2)) (RetOf (W.alloc (.cells cs 2)) b ca k kc t l) := by
  subst hn
  have hb := hB.1
  have hL : Src (W.alloc (.cells cs 2)) (some ⟨q, 0, none⟩) l.length (fun i => l.getD i 0) := src_lit W q l.length cs _ hq fun i hi => by
    have : cs[i]? = cs.toList[i]? := by simp
    rw [this, hcs]; simp [hi]
  refine (pick_any b S q ca k kc t l.length B (fun i => l.getD i 0) _ (hB.alloc _) (hs.alloc _) hS hk ht hl1 hl2 hL (by omega)).mono ?_
  rintro e w' ⟨i, rfl, hi, hB', hk'⟩
  exact ⟨_, rfl, by simp [hi], hB', hk'⟩

theorem Keeps.alloc {w w1 : World} {lo hi : Nat} (h : Keeps w w1 lo hi) (o : Obj) : Keeps w (w1.alloc o) lo hi := h.trans (keeps_of_below ((Below.refl _ _).alloc (Nat.le_refl _) o) lo hi)

theorem Keeps.drew {w w1 : World} {lo hi : Nat} (h : Keeps w w1 lo hi) : Keeps w w1.drew lo hi := h.trans (keeps_of_below (Below.refl _ _).drew lo hi)

theorem SrcB.setCell {w : World} {S : Nat} {a : Option Addr} {k : Nat} {B : Nat → Int} (h : SrcB w S a k B) {p : Addr} (hp : S ≤ p.block) (u : Value) : SrcB (w.setCell p u) S a k B :=
  h.keeps (keeps_setCell (Nat.le_refl p.block) (Nat.lt_succ_self _) u) hp
end Go.Proofs.Ytbhjmomphajnnaa

namespace Go.Proofs.Ytbhjmomphajnnaa
open Go.RowKit
set_option linter.unusedVariables false

theorem src_cast {w : World} {b : Nat} {ca : Option Addr} {k kc t : Nat} (h : Blk w b [.slice ca k kc, .int .i64 ((t : Int) + 1)]) : Blk w b [.slice ca k kc, .int .i64 ((t + 1 : Nat) : Int)] := h
end Go.Proofs.Ytbhjmomphajnnaa

namespace Go.Proofs.Ytbhjmomphajnnaa
open Go.RowKit
set_option linter.unusedVariables false

theorem SrcB.mono {w : World} {S S' : Nat} {a : Option Addr} {k : Nat} {B : Nat → Int} (h : SrcB w S a k B) (hS : S ≤ S') : SrcB w S' a k B := by
  rcases h with h | ⟨b, off, h1, h2, h3, h4⟩
  · exact .inl h
  · exact .inr ⟨b, off, h1, by omega, h3, h4⟩
end Go.Proofs.Ytbhjmomphajnnaa

namespace Go.Proofs.Ytbhjmomphajnnaa
open Go.RowKit
set_option linter.unusedVariables false

/-- The values of which one is written. -/
def lw (i : Nat) : Int := [0, 7, -9, 1000000000, 1000000001, 5].getD i 0
end Go.Proofs.Ytbhjmomphajnnaa

namespace Go.Proofs.Ytbhjmomphajnnaa
open Go.RowKit
set_option linter.unusedVariables false

/-- 2 to the power of a number. -/
def P2 (s : Int) : Int := 2 ^ s.toNat

theorem P2_succ (i : Nat) : P2 ((i : Int) + 1) = P2 i * 2 := by
  unfold P2
  have : ((i : Int) + 1).toNat = (i : Int).toNat + 1 := by omega
  rw [this, Int.pow_succ]

theorem P2_pos (s : Int) : 1 ≤ P2 s := by
  unfold P2
  have : (0 : Int) < 2 ^ s.toNat := Int.pow_pos (by omega)
  omega

theorem P2_le {s : Int} (h : s ≤ 12) : P2 s ≤ 4096 := by
  unfold P2
  have h1 : s.toNat ≤ 12 := by omega
  have : (2 : Nat) ^ s.toNat ≤ 2 ^ 12 := Nat.pow_le_pow_right (by omega) h1
  have e : ((2 ^ s.toNat : Nat) : Int) = (2 : Int) ^ s.toNat := by simp
  rw [← e]; omega

set_option maxRecDepth 100000 in
set_option maxHeartbeats 400000 in
theorem power_any (n : Nat) (w : World) (hn : n ≤ 12) :
    Calls Try.prog 95 #[.int .i64 (n : Int)] w fun e w' => e = .returned (.int .i64 (P2 n)) ∧ w = w' := by
  go_enter Try.func95, Try.ntmps95
  go_wp2
  go_loop [3, 0] (fun q p => ∃ i : Nat, i ≤ n ∧ q = .int .i64 (P2 i) ∧ p = .int .i64 ((n : Int) - i)) (fun _ p => (intOf p).toNat)
  case atStart => exact ⟨0, Nat.zero_le _, rfl, by simp⟩
  case round =>
    obtain ⟨i, hi, rfl, rfl⟩ := hrel
    by_cases hlt : i < n
    · have h1 : 0 < (n : Int) - (i : Int) := by omega
      have h2 := P2_pos i
      have h3 := P2_le (s := (i : Int)) (by omega)
      go_wp2
      go_round
      case rel => exact ⟨i + 1, by omega, by rw [Int.natCast_succ, P2_succ], by simp; omega⟩
      case measure => simp [intOf]; omega
    · obtain rfl : i = n := by omega
      go_wp2
      go_ret
      exact ⟨rfl, rfl⟩
end Go.Proofs.Ytbhjmomphajnnaa

namespace Go.Proofs.Ytbhjmomphajnnaa
open Go.RowKit
set_option linter.unusedVariables false

theorem b3_blk {V : World} {B o : Nat} {cs : List Value} {v l g : Int} (hB : Blk V B cs) (h1 : cs[o]? = some (.int .i64 v)) (h2 : cs[o + 1]? = some (.int .i64 l)) (h3 : cs[o + 2]? = some (.int .i64 g)) : B3 V B o v l g :=
  ⟨hB.at o h1, hB.at (o + 1) h2, hB.at (o + 2) h3⟩

/-- isOutside, of three bounds in a block that is known. -/
theorem isOut3b (B : Nat) (V : World) (v0 l0 g0 v1 l1 g1 v2 l2 g2 : Int) (r : Bool) (hB : Blk V B [.int .i64 v0, .int .i64 l0, .int .i64 g0, .int .i64 v1, .int .i64 l1, .int .i64 g1, .int .i64 v2, .int .i64 l2, .int .i64 g2])
    (hr : (r = false ∧ (l0 ≤ v0 ∧ v0 ≤ g0) ∧ (l1 ≤ v1 ∧ v1 ≤ g1) ∧ (l2 ≤ v2 ∧ v2 ≤ g2)) ∨ (r = true ∧ ¬ ((l0 ≤ v0 ∧ v0 ≤ g0) ∧ (l1 ≤ v1 ∧ v1 ≤ g1) ∧ (l2 ≤ v2 ∧ v2 ≤ g2)))) :
    Calls Try.prog 80 #[.slice (some ⟨B, 0, none⟩) 3 3] V (RetBool V r) := by
  have hB3 : ∀ i, i < 3 → B3 V B (i * 3) (pick3 v0 v1 v2 i) (pick3 l0 l1 l2 i) (pick3 g0 g1 g2 i) := by
    intro i hi
    match i, hi with
    | 0, _ => exact b3_blk hB rfl rfl rfl
    | 1, _ => exact b3_blk hB rfl rfl rfl
    | 2, _ => exact b3_blk hB rfl rfl rfl
  rcases hr with ⟨rfl, hr⟩ | ⟨rfl, hr⟩
  · refine isOut_no B 3 _ _ _ _ (by omega) hB.1 hB3 (fun i hi => ?_)
    match i, hi with
    | 0, _ => exact hr.1
    | 1, _ => exact hr.2.1
    | 2, _ => exact hr.2.2
  · refine isOut_yes B 3 _ _ _ _ (by omega) hB.1 hB3 ?_
    by_cases h0 : l0 ≤ v0 ∧ v0 ≤ g0
    · by_cases h1 : l1 ≤ v1 ∧ v1 ≤ g1
      · exact ⟨2, by omega, fun h2 => hr ⟨h0, h1, h2⟩⟩
      · exact ⟨1, by omega, h1⟩
    · exact ⟨0, by omega, h0⟩

/-- What a head is. -/
def HOk (s m o h : Int) : Prop := (0 ≤ s ∧ s ≤ 12) ∧ (0 ≤ m ∧ m ≤ P2 s - 1) ∧ (0 ≤ o ∧ o ≤ 3) ∧ (0 ≤ h ∧ h ≤ 99999)

def IsHF (s m o h k : Int) : Prop := (HOk s m o h ∧ k = 0) ∨ (¬ HOk s m o h ∧ k = 3)

theorem isHF_some (s m o h : Int) : ∃ k, IsHF s m o h k := by
  by_cases x : HOk s m o h
  · exact ⟨0, .inl ⟨x, rfl⟩⟩
  · exact ⟨3, .inr ⟨x, rfl⟩⟩

set_option maxRecDepth 100000 in
set_option maxHeartbeats 400000 in
theorem implHF_size (s m o h : Int) (w : World) (h0 : ¬ (0 ≤ s ∧ s ≤ 12)) :
    Calls Try.prog 99 #[.agg #[.int .i64 s, .int .i64 m, .int .i64 o, .int .i64 h]] w (RetInt w 3) := by
  have H0 := Lib.hid h0
  clear h0
  go_enter Try.func99, Try.ntmps99
  go_wp2_with (go_at_call 80; (with_reducible refine (isOut1 _ _ _ _ _ true (by simp) (.inr ⟨rfl, H0.out⟩)).mono ?_); rintro e w1 ⟨rfl, hb⟩; obtain ⟨hc, hf⟩ := bcell hb; have HB := Lib.hid hb; have hz := hb.size; clear hb)
  go_ret
  exact ⟨rfl, (((Below.refl _ _).alloc (Nat.le_refl _) _).alloc (by simp) _).trans (HB.out.mono (by simp; try omega))⟩

set_option maxRecDepth 100000 in
set_option maxHeartbeats 800000 in
theorem implHF_rest (s m o h : Int) (r : Bool) (k : Int) (w : World) (h0 : 0 ≤ s ∧ s ≤ 12)
    (hr : (r = false ∧ (0 ≤ m ∧ m ≤ P2 s - 1) ∧ (0 ≤ o ∧ o ≤ 3) ∧ (0 ≤ h ∧ h ≤ 99999)) ∨ (r = true ∧ ¬ ((0 ≤ m ∧ m ≤ P2 s - 1) ∧ (0 ≤ o ∧ o ≤ 3) ∧ (0 ≤ h ∧ h ≤ 99999)))) (hk : k = if r then 3 else 0) :
    Calls Try.prog 99 #[.agg #[.int .i64 s, .int .i64 m, .int .i64 o, .int .i64 h]] w (RetInt w k) := by
  have H0 := Lib.hid h0
  have p1 := P2_pos s
  have p2 := P2_le h0.2
  have hwr : IntKind.i64.wrap (IntKind.i64.wrap (P2 s) - 1) = P2 s - 1 := by
    rw [IntWalk.i64_in (P2 s) (by omega), IntWalk.i64_in _ (by omega)]
  have HR : Hid ((r = false ∧ (0 ≤ m ∧ m ≤ IntKind.i64.wrap (IntKind.i64.wrap (P2 s) - 1)) ∧ (0 ≤ o ∧ o ≤ 3) ∧ (0 ≤ h ∧ h ≤ 99999)) ∨ (r = true ∧ ¬ ((0 ≤ m ∧ m ≤ IntKind.i64.wrap (IntKind.i64.wrap (P2 s) - 1)) ∧ (0 ≤ o ∧ o ≤ 3) ∧ (0 ≤ h ∧ h ≤ 99999)))) := by rw [hwr]; exact hr
  have HK := Lib.hid hk
  obtain ⟨q1, q2⟩ := h0
  have hmin : min s.toNat 64 = s.toNat := by omega
  have hpow : (2 : Int) ^ s.toNat = P2 s := rfl
  clear hr hk hwr
  go_enter Try.func99, Try.ntmps99
  go_wp2_with (go_at_call 80; (with_reducible refine (isOut1 _ _ _ _ _ false (by simp) (.inl ⟨rfl, H0.out⟩)).mono ?_); rintro e w1 ⟨rfl, hb⟩; have HB : Hid (Below w.heap.size w w1) := (((Below.refl _ _).alloc (Nat.le_refl _) _).alloc (by simp) _).trans (hb.mono (by simp; try omega)); have HH : Hid (Blk w1 w.heap.size [.int .i64 s, .int .i64 m, .int .i64 o, .int .i64 h]) := ((Blk.new_at (w.heap.size) rfl).alloc _).below hb; clear hb)
  have lH := HH.out.1
  have HHd := Lib.hid HH.out.drew
  have HBz : w.heap.size ≤ w1.heap.size := HB.out.size
  go_region_held3 (fun w' => w'.cell? ⟨w.heap.size, 0, none⟩ = some (.int .i64 s) ∧ w'.cell? ⟨w.heap.size, 1, none⟩ = some (.int .i64 m) ∧ w'.cell? ⟨w.heap.size, 2, none⟩ = some (.int .i64 o) ∧ w'.cell? ⟨w.heap.size, 3, none⟩ = some (.int .i64 h))
    (first | (with_reducible exact ⟨(HH.out).at 0 rfl, (HH.out).at 1 rfl, (HH.out).at 2 rfl, (HH.out).at 3 rfl⟩) | (with_reducible exact ⟨(HHd.out).at 0 rfl, (HHd.out).at 1 rfl, (HHd.out).at 2 rfl, (HHd.out).at 3 rfl⟩) | (with_reducible exact ⟨((HH.out.alloc _).drew).at 0 rfl, ((HH.out.alloc _).drew).at 1 rfl, ((HH.out.alloc _).drew).at 2 rfl, ((HH.out.alloc _).drew).at 3 rfl⟩) | (with_reducible exact ⟨(HH2.out).at 0 rfl, (HH2.out).at 1 rfl, (HH2.out).at 2 rfl, (HH2.out).at 3 rfl⟩))
    (first | (go_at_call 80; (with_reducible refine (isOut3b _ _ _ _ _ _ _ _ _ _ _ r (Blk.new_at (w1.heap.size) rfl).drew HR.out).mono ?_); rintro e w2 ⟨rfl, hb⟩; have HB2 : Hid (Below w.heap.size w w2) := ((HB.out.alloc HBz _).drew).trans (hb.mono (by simp; omega)); have HH2 := Lib.hid (((HH.out.alloc _).drew).below hb); clear hb))
  cases r
  · have hk : k = 0 := HK.out
    subst hk
    go_wp2
    go_ret
    exact ⟨rfl, HB2.out⟩
  · have hk : k = 3 := HK.out
    subst hk
    go_wp2
    go_ret
    exact ⟨rfl, HB2.out⟩

theorem implHF_any (s m o h k : Int) (w : World) (hk : IsHF s m o h k) : Calls Try.prog 99 #[.agg #[.int .i64 s, .int .i64 m, .int .i64 o, .int .i64 h]] w (RetInt w k) := by
  by_cases h0 : 0 ≤ s ∧ s ≤ 12
  · rcases hk with ⟨⟨_, h1⟩, rfl⟩ | ⟨h1, rfl⟩
    · exact implHF_rest s m o h false 0 w h0 (.inl ⟨rfl, h1⟩) rfl
    · exact implHF_rest s m o h true 3 w h0 (.inr ⟨rfl, fun x => h1 ⟨h0, x⟩⟩) rfl
  · rcases hk with ⟨⟨h1, _⟩, _⟩ | ⟨_, rfl⟩
    · exact absurd h1 h0
    · exact implHF_size s m o h w h0

set_option maxRecDepth 100000 in
set_option maxHeartbeats 800000 in
theorem specHF_s (s m o h : Int) (w : World) (hs : ¬ (0 ≤ s ∧ s ≤ 12)) : Calls Try.prog 203 #[.agg #[.int .i64 s, .int .i64 m, .int .i64 o, .int .i64 h]] w (RetInt w 3) := by
  go_enter Try.func203, Try.ntmps203
  go_wp2_with fail
  go_quiet (first | (with_reducible exact Calls.quiet_of_same (Calls.mono (l1In_no s 0 12 _ hs) fun _ _ hh => ⟨hh.1, hh.2.symm⟩)))
  go_wp2
  go_ret
  exact ⟨rfl, below_drewN ((Below.refl _ _).alloc (Nat.le_refl _) _) _⟩

set_option maxRecDepth 100000 in
set_option maxHeartbeats 800000 in
theorem specHF_m (S : Nat) (m o h : Int) (w : World) (hS : S ≤ 12) (hm : ¬ (0 ≤ m ∧ m ≤ P2 S - 1)) : Calls Try.prog 203 #[.agg #[.int .i64 (S : Int), .int .i64 m, .int .i64 o, .int .i64 h]] w (RetInt w 3) := by
  have p1 := P2_pos (S : Int)
  have p2 := P2_le (s := (S : Int)) (by omega)
  have hwr : IntKind.i64.wrap (P2 (S : Int) - 1) = P2 S - 1 := IntWalk.i64_in _ (by omega)
  go_enter Try.func203, Try.ntmps203
  go_wp2_with fail
  go_quiet (first | (with_reducible exact Calls.quiet_of_same (Calls.mono (l1In_yes (S : Int) 0 12 _ (by omega) (by omega)) fun _ _ hh => ⟨hh.1, hh.2.symm⟩)) | (with_reducible exact Calls.quiet_of_same (Calls.mono (l1In_no m 0 (P2 (S : Int) - 1) _ hm) fun _ _ hh => ⟨hh.1, hh.2.symm⟩)) | (with_reducible exact Calls.quiet_of_same (Calls.mono (power_any S _ hS) fun _ _ hh => ⟨hh.1, hh.2.symm⟩)))
  go_wp2
  go_ret
  exact ⟨rfl, below_drewN ((Below.refl _ _).alloc (Nat.le_refl _) _) _⟩

set_option maxRecDepth 100000 in
set_option maxHeartbeats 800000 in
theorem specHF_o (S : Nat) (m o h : Int) (w : World) (hS : S ≤ 12) (hm : 0 ≤ m ∧ m ≤ P2 S - 1) (ho : ¬ (0 ≤ o ∧ o ≤ 3)) : Calls Try.prog 203 #[.agg #[.int .i64 (S : Int), .int .i64 m, .int .i64 o, .int .i64 h]] w (RetInt w 3) := by
  have p1 := P2_pos (S : Int)
  have p2 := P2_le (s := (S : Int)) (by omega)
  have hwr : IntKind.i64.wrap (P2 (S : Int) - 1) = P2 S - 1 := IntWalk.i64_in _ (by omega)
  go_enter Try.func203, Try.ntmps203
  go_wp2_with fail
  go_quiet (first | (with_reducible exact Calls.quiet_of_same (Calls.mono (l1In_yes (S : Int) 0 12 _ (by omega) (by omega)) fun _ _ hh => ⟨hh.1, hh.2.symm⟩)) | (with_reducible exact Calls.quiet_of_same (Calls.mono (l1In_yes m 0 (P2 (S : Int) - 1) _ hm.1 hm.2) fun _ _ hh => ⟨hh.1, hh.2.symm⟩)) | (with_reducible exact Calls.quiet_of_same (Calls.mono (l1In_no o 0 3 _ ho) fun _ _ hh => ⟨hh.1, hh.2.symm⟩)) | (with_reducible exact Calls.quiet_of_same (Calls.mono (power_any S _ hS) fun _ _ hh => ⟨hh.1, hh.2.symm⟩)))
  go_wp2
  go_ret
  exact ⟨rfl, below_drewN ((Below.refl _ _).alloc (Nat.le_refl _) _) _⟩

set_option maxRecDepth 100000 in
set_option maxHeartbeats 800000 in
theorem specHF_h (S : Nat) (m o h : Int) (w : World) (hS : S ≤ 12) (hm : 0 ≤ m ∧ m ≤ P2 S - 1) (ho : 0 ≤ o ∧ o ≤ 3) (hh : ¬ (0 ≤ h ∧ h ≤ 99999)) : Calls Try.prog 203 #[.agg #[.int .i64 (S : Int), .int .i64 m, .int .i64 o, .int .i64 h]] w (RetInt w 3) := by
  have p1 := P2_pos (S : Int)
  have p2 := P2_le (s := (S : Int)) (by omega)
  have hwr : IntKind.i64.wrap (P2 (S : Int) - 1) = P2 S - 1 := IntWalk.i64_in _ (by omega)
  go_enter Try.func203, Try.ntmps203
  go_wp2_with fail
  go_quiet (first | (with_reducible exact Calls.quiet_of_same (Calls.mono (l1In_yes (S : Int) 0 12 _ (by omega) (by omega)) fun _ _ hh => ⟨hh.1, hh.2.symm⟩)) | (with_reducible exact Calls.quiet_of_same (Calls.mono (l1In_yes m 0 (P2 (S : Int) - 1) _ hm.1 hm.2) fun _ _ hh => ⟨hh.1, hh.2.symm⟩)) | (with_reducible exact Calls.quiet_of_same (Calls.mono (l1In_yes o 0 3 _ ho.1 ho.2) fun _ _ hh => ⟨hh.1, hh.2.symm⟩)) | (with_reducible exact Calls.quiet_of_same (Calls.mono (l1In_no h 0 99999 _ hh) fun _ _ hh => ⟨hh.1, hh.2.symm⟩)) | (with_reducible exact Calls.quiet_of_same (Calls.mono (power_any S _ hS) fun _ _ hh => ⟨hh.1, hh.2.symm⟩)))
  go_wp2
  go_ret
  exact ⟨rfl, below_drewN ((Below.refl _ _).alloc (Nat.le_refl _) _) _⟩

set_option maxRecDepth 100000 in
set_option maxHeartbeats 800000 in
theorem specHF_ok (S : Nat) (m o h : Int) (w : World) (hS : S ≤ 12) (hm : 0 ≤ m ∧ m ≤ P2 S - 1) (ho : 0 ≤ o ∧ o ≤ 3) (hh : 0 ≤ h ∧ h ≤ 99999) : Calls Try.prog 203 #[.agg #[.int .i64 (S : Int), .int .i64 m, .int .i64 o, .int .i64 h]] w (RetInt w 0) := by
  have p1 := P2_pos (S : Int)
  have p2 := P2_le (s := (S : Int)) (by omega)
  have hwr : IntKind.i64.wrap (P2 (S : Int) - 1) = P2 S - 1 := IntWalk.i64_in _ (by omega)
  go_enter Try.func203, Try.ntmps203
  go_wp2_with fail
  go_quiet (first | (with_reducible exact Calls.quiet_of_same (Calls.mono (l1In_yes (S : Int) 0 12 _ (by omega) (by omega)) fun _ _ hh => ⟨hh.1, hh.2.symm⟩)) | (with_reducible exact Calls.quiet_of_same (Calls.mono (l1In_yes m 0 (P2 (S : Int) - 1) _ hm.1 hm.2) fun _ _ hh => ⟨hh.1, hh.2.symm⟩)) | (with_reducible exact Calls.quiet_of_same (Calls.mono (l1In_yes o 0 3 _ ho.1 ho.2) fun _ _ hh => ⟨hh.1, hh.2.symm⟩)) | (with_reducible exact Calls.quiet_of_same (Calls.mono (l1In_yes h 0 99999 _ hh.1 hh.2) fun _ _ hh => ⟨hh.1, hh.2.symm⟩)) | (with_reducible exact Calls.quiet_of_same (Calls.mono (power_any S _ hS) fun _ _ hh => ⟨hh.1, hh.2.symm⟩)))
  go_wp2
  go_ret
  exact ⟨rfl, below_drewN ((Below.refl _ _).alloc (Nat.le_refl _) _) _⟩

theorem specHF_any (s m o h k : Int) (w : World) (hk : IsHF s m o h k) : Calls Try.prog 203 #[.agg #[.int .i64 s, .int .i64 m, .int .i64 o, .int .i64 h]] w (RetInt w k) := by
  by_cases h0 : 0 ≤ s ∧ s ≤ 12
  · obtain ⟨S, rfl⟩ : ∃ S : Nat, s = S := ⟨s.toNat, by omega⟩
    have hS : S ≤ 12 := by omega
    rcases hk with ⟨⟨_, h1, h2, h3⟩, rfl⟩ | ⟨hn, rfl⟩
    · exact specHF_ok S m o h w hS h1 h2 h3
    · by_cases h1 : 0 ≤ m ∧ m ≤ P2 S - 1
      · by_cases h2 : 0 ≤ o ∧ o ≤ 3
        · exact specHF_h S m o h w hS h1 h2 (fun h3 => hn ⟨h0, h1, h2, h3⟩)
        · exact specHF_o S m o h w hS h1 h2
      · exact specHF_m S m o h w hS h1
  · rcases hk with ⟨⟨h1, _⟩, _⟩ | ⟨_, rfl⟩
    · exact absurd h1 h0
    · exact specHF_s s m o h w h0
end Go.Proofs.Ytbhjmomphajnnaa

namespace Go.Proofs.Ytbhjmomphajnnaa
open Go.RowKit
set_option linter.unusedVariables false

/-- The low bits of a number. -/
theorem bits_and_low (j : Nat) (hj : j ≤ 20) (x : Int) : bits .and .i64 x ((2 ^ j - 1 : Nat) : Int) = x % ((2 ^ j : Nat) : Int) := by
  have hp : (2 : Nat) ^ j ≤ 2 ^ 20 := Nat.pow_le_pow_right (by omega) hj
  have hp0 : 0 < (2 : Nat) ^ j := Nat.two_pow_pos j
  have hdv : ((2 ^ j : Nat) : Int) ∣ (2 : Int) ^ 64 := ⟨((2 ^ (64 - j) : Nat) : Int), by rw [← Int.natCast_mul, ← Nat.pow_add]; rw [show j + (64 - j) = 64 by omega]; rfl⟩
  have e1 : (BitVec.ofInt 64 x).toNat = (x % 2 ^ 64).toNat := by simp [BitVec.toNat_ofInt]
  have e2 : (BitVec.ofInt 64 ((2 ^ j - 1 : Nat) : Int)).toNat = 2 ^ j - 1 := by
    rw [BitVec.toNat_ofInt]; omega
  have e3 : (BitVec.ofInt 64 x &&& BitVec.ofInt 64 ((2 ^ j - 1 : Nat) : Int)).toNat = (x % 2 ^ 64).toNat % 2 ^ j := by
    rw [BitVec.toNat_and, e1, e2, Nat.and_two_pow_sub_one_eq_mod]
  have e4 : (((x % 2 ^ 64).toNat % 2 ^ j : Nat) : Int) = x % ((2 ^ j : Nat) : Int) := by
    rw [Int.natCast_emod, Int.toNat_of_nonneg (Int.emod_nonneg _ (by decide)), Int.emod_emod_of_dvd _ hdv]
  have e5 : bits .and .i64 x ((2 ^ j - 1 : Nat) : Int) = IntKind.i64.wrap (((x % 2 ^ 64).toNat % 2 ^ j : Nat) : Int) := by rw [← e3]; rfl
  rw [e5, e4, IntWalk.i64_in _ (by have := Int.emod_nonneg x (b := ((2 ^ j : Nat) : Int)) (by omega); have := Int.emod_lt_of_pos x (b := ((2 ^ j : Nat) : Int)) (by omega); omega)]

theorem bits_and_1 (x : Int) : bits .and .i64 x 1 = x % 2 := bits_and_low 1 (by omega) x
end Go.Proofs.Ytbhjmomphajnnaa

namespace Go.Proofs.Ytbhjmomphajnnaa
open Go.RowKit
set_option linter.unusedVariables false

def I64 (a : Int) : Prop := -9223372036854775808 ≤ a ∧ a ≤ 9223372036854775807
end Go.Proofs.Ytbhjmomphajnnaa

namespace Go.Proofs.Ytbhjmomphajnnaa
open Go.RowKit
set_option linter.unusedVariables false

set_option maxRecDepth 100000 in
set_option maxHeartbeats 1600000 in
theorem implIP_in (s m o h i : Int) (w : World) (hk : HOk s m o h) (h0 : 0 ≤ i ∧ i ≤ s - 1) :
    Calls Try.prog 209 #[.agg #[.int .i64 s, .int .i64 m, .int .i64 o, .int .i64 h], .int .i64 i] w (RetBool w (m / P2 i % 2 == 1)) := by
  obtain ⟨q1, q2⟩ := hk.1
  have H0 := Lib.hid h0
  have hk' : IsHF s m o h 0 := .inl ⟨hk, rfl⟩
  have HK := Lib.hid hk'
  clear hk'
  obtain ⟨q3, q4⟩ := h0
  have q5 := hk.2.1.1
  have hmin : min i.toNat 64 = i.toNat := by omega
  have hpow : (2 : Int) ^ i.toNat = P2 i := rfl
  have hbit : bits .and .i64 (m / P2 i) 1 = m / P2 i % 2 := bits_and_1 _
  clear hk
  go_enter Try.func209, Try.ntmps209
  go_wp2_with fail
  refine (implHF_any s m o h 0 _ HK.out).mono ?_
  rintro e w1 ⟨rfl, hb⟩
  have HB1 : Hid (Below w.heap.size w w1) := thru1 (Below.refl _ _) hb
  have z1 : w.heap.size + 1 ≤ w1.heap.size := by have := hb.size; simp at this; omega
  have H_1 := Lib.hid ((Blk.new_at (w.heap.size) (by simp)).below hb)
  clear hb
  have lH := H_1.out.1
  have cH0 := H_1.out.at 0 rfl
  have cH1 := H_1.out.at 1 rfl
  go_wp2_with fail
  refine (isOut1 _ _ _ _ _ false (by simp) (.inl ⟨rfl, H0.out⟩)).mono ?_
  rintro e w2 ⟨rfl, hb⟩
  have HB2 : Hid (Below w.heap.size w w2) := thru1 HB1.out hb
  have z2 : w1.heap.size + 1 ≤ w2.heap.size := by have := hb.size; simp at this; omega
  have H_2 := Lib.hid ((H_1.out.alloc _).below hb)
  clear hb lH cH0 cH1 H_1 HB1
  have lH := H_2.out.1
  have cH0 := H_2.out.at 0 rfl
  have cH1 := H_2.out.at 1 rfl
  go_wp2
  go_ret
  exact ⟨rfl, HB2.out⟩
end Go.Proofs.Ytbhjmomphajnnaa

namespace Go.Proofs.Ytbhjmomphajnnaa
open Go.RowKit
set_option linter.unusedVariables false

/-- Two numbers in a row. -/
def two (a b : Int) : Nat → Int := fun i => if i = 0 then a else b
end Go.Proofs.Ytbhjmomphajnnaa

namespace Go.Proofs.Ytbhjmomphajnnaa
open Go.RowKit
set_option linter.unusedVariables false

/-- The number in a cell. -/
def val (w : World) (a : Addr) : Int := match w.cell? a with | some (.int _ x) => x | _ => 0
end Go.Proofs.Ytbhjmomphajnnaa

namespace Go.Proofs.Ytbhjmomphajnnaa
open Go.ChangeShapes Go.WideShapes Go.ChangeAt Go.RowKit Go.Joins
set_option linter.unusedVariables false
set_option maxRecDepth 100000

theorem Try.own : ownKnob Try.prog.godebug = none := by kernel_rfl

theorem Try.laidOut : laidOutB Try.prog = true := by kernel_rfl
end Go.Proofs.Ytbhjmomphajnnaa

namespace Go.Proofs.Ytbhjmomphajnnaa
open Go.ChangeShapes Go.WideShapes Go.ChangeAt Go.RowKit Go.Joins
set_option linter.unusedVariables false
set_option maxRecDepth 100000

/-- What came in: bytes that are read. -/
theorem open_bytes {H : Type} {enc : TypeId × Value → H} {W : World} {base : Nat} {v0 : Value} {d0 : DataW H} {p0 : List MemPlace}
    (hv : Value.okWide Try.prog W .any base 22 v0) (h0 : DataW.Trod enc Try.prog W 0 (fun _ => true) true 22 v0 d0 p0) :
    ∃ (a : Option Addr) (n c : Nat) (B : Nat → Int), v0 = .slice a n c ∧ SrcB W W.heap.size a n B ∧ n ≤ maxLen := by
  obtain ⟨a0, len0, cap0, rfl⟩ := okWide_slice Try.underlying22 hv
  obtain ⟨fuel, hf⟩ := h0
  rcases open_ints Try.underlying22 Try.underlying5 (by kernel_rfl) hf with ⟨hcs, _⟩ | ⟨x, l, c, zs, hcs, _, hl, hm, hz, _, hcell, hwz⟩
  · simp [Value.cells] at hcs
    obtain ⟨rfl, rfl, rfl⟩ := hcs
    exact ⟨none, 0, 0, fun _ => 0, rfl, .inl rfl, Nat.zero_le _⟩
  · simp [Value.cells] at hcs
    obtain ⟨rfl, rfl, rfl⟩ := hcs
    refine ⟨some x, len0, cap0, fun i => zs.getD i 0, rfl, ?_, by omega⟩
    by_cases h0 : len0 = 0
    · exact .inl h0
    · right
      have hlz : len0 ≤ zs.length := by
        rw [hz]; split
        · exact hl
        · exact Nat.le_refl _
      obtain ⟨b, off, spot⟩ := x
      have hc := hcell 0 (by omega)
      have hspot : spot = none := by simpa [Addr.add] using World.cell?_spot hc
      subst hspot
      have hbw : b < W.heap.size := World.block_lt_of_cell? W _ (by simpa [Addr.add] using hc)
      refine ⟨b, off, rfl, hbw, hbw, fun i hi => ⟨?_, ?_⟩⟩
      · have := hcell i (by omega)
        rcases i with _ | i
        · simpa [Addr.add] using this
        · simpa [Addr.add] using this
      · have hmem : zs.getD i 0 ∈ zs := by
          rw [List.getD_eq_getElem?_getD, List.getElem?_eq_getElem (by omega)]
          exact List.getElem_mem _
        have := bounds_u8 (hwz _ hmem)
        omega
end Go.Proofs.Ytbhjmomphajnnaa

namespace Go.Proofs.Ytbhjmomphajnnaa
open Go.RowKit
set_option linter.unusedVariables false

/-- An object as the model tells it: its place and its head. -/
structure Ob where
  at_ : Int
  s : Int
  m : Int
  o : Int
  h : Int

/-- An object in memory: where its fields are. -/
structure OM where
  x : Ob
  g : Nat
  c : Nat

def OM.cells (t : OM) : List Value := [.int .i64 t.x.at_, .int .i64 t.x.s, .int .i64 t.x.m, .int .i64 t.x.o, .int .i64 t.x.h, .slice (some ⟨t.g, 0, none⟩) t.x.s.toNat t.c]

def rowCells (M : List OM) : List Value := M.flatMap OM.cells

/-- Each object's fields are a row of their own, in the order of the objects. -/
def Flds (w : World) (lo : Nat) (f : Nat → Int) (v : Value) (M : List OM) : Prop :=
  (∀ t ∈ M, lo ≤ t.g ∧ t.g < w.heap.size ∧ some t.g ≠ v.ownBlock ∧ ∀ k, k < t.x.s.toNat → w.cell? ⟨t.g, k, none⟩ = some (.int .i64 (f (t.x.at_.toNat + 2 + k))) ∧ w.frozen? ⟨t.g, k, none⟩ = false) ∧ M.Pairwise (fun t u => t.g < u.g)

theorem ownsRow_below {w w' : World} {base e size n : Nat} {v : Value} {xs : List Value} (h : w.ownsRow base e size v n xs) (hb : Below w.heap.size w w') : w'.ownsRow base e size v n xs := by
  refine ⟨h.1, ?_⟩
  rcases h.2 with h0 | ⟨g, cap, cur, h1, h2, h3, h4⟩
  · exact .inl h0
  · have hg : g < w.heap.size := by
      rcases Nat.lt_or_ge g w.heap.size with hlt | hge
      · exact hlt
      · rw [Array.getElem?_eq_none hge] at h3; cases h3
    exact .inr ⟨g, cap, cur, h1, h2, (hb.block g hg).trans h3, h4⟩

theorem Flds.below {w w' : World} {lo : Nat} {f : Nat → Int} {v : Value} {M : List OM} (h : Flds w lo f v M) (hb : Below w.heap.size w w') : Flds w' lo f v M :=
  ⟨fun t ht => by
    obtain ⟨h1, h2, h3, h4⟩ := h.1 t ht
    exact ⟨h1, Nat.lt_of_lt_of_le h2 hb.size, h3, fun k hk => ⟨(hb.cell (p := ⟨t.g, k, none⟩) h2).trans (h4 k hk).1, (hb.frozen (p := ⟨t.g, k, none⟩) h2).trans (h4 k hk).2⟩⟩, h.2⟩
end Go.Proofs.Ytbhjmomphajnnaa

namespace Go.Proofs.Ytbhjmomphajnnaa
open Go.RowKit
set_option linter.unusedVariables false

/-- What a row of objects holds at a place. -/
def ObAt (w : World) (gb i : Nat) (t : OM) : Prop := ∀ j u, t.cells[j]? = some u → w.cell? ⟨gb, i * 6 + j, none⟩ = some u

/-- The fields of an object in memory. -/
theorem Flds.src {w : World} {lo : Nat} {f : Nat → Int} {v : Value} {M : List OM} (h : Flds w lo f v M) {t : OM} (ht : t ∈ M) : Src w (some ⟨t.g, 0, none⟩) t.x.s.toNat (fun k => f (t.x.at_.toNat + 2 + k)) := by
  obtain ⟨_, a2, _, a4⟩ := h.1 t ht
  exact .inr ⟨t.g, 0, rfl, a2, fun k hk => by rw [Nat.zero_add]; exact (a4 k hk).1⟩

theorem ObAt.below {w w' : World} {gb i : Nat} {t : OM} (h : ObAt w gb i t) (hb : Below w.heap.size w w') (hg : gb < w.heap.size) : ObAt w' gb i t := fun j u hu => (hb.cell (p := ⟨gb, i * 6 + j, none⟩) hg).trans (h j u hu)

/-- The six cells of an object, written out. -/
def Six (w : World) (gb o : Nat) (x : Ob) (g c : Nat) : Prop := w.cell? ⟨gb, o, none⟩ = some (.int .i64 x.at_) ∧ w.cell? ⟨gb, o + 1, none⟩ = some (.int .i64 x.s) ∧ w.cell? ⟨gb, o + 2, none⟩ = some (.int .i64 x.m) ∧ w.cell? ⟨gb, o + 3, none⟩ = some (.int .i64 x.o) ∧ w.cell? ⟨gb, o + 4, none⟩ = some (.int .i64 x.h) ∧ w.cell? ⟨gb, o + 5, none⟩ = some (.slice (some ⟨g, 0, none⟩) x.s.toNat c)

theorem ObAt.six {w : World} {gb i : Nat} {t : OM} (h : ObAt w gb i t) : Six w gb (i * 6) t.x t.g t.c :=
  ⟨h 0 _ rfl, h 1 _ rfl, h 2 _ rfl, h 3 _ rfl, h 4 _ rfl, h 5 _ rfl⟩

theorem Six.below {w w' : World} {gb o : Nat} {x : Ob} {g c : Nat} (h : Six w gb o x g c) (hb : Below w.heap.size w w') (hg : gb < w.heap.size) : Six w' gb o x g c :=
  ⟨(hb.cell (p := ⟨gb, o, none⟩) hg).trans h.1, (hb.cell (p := ⟨gb, o + 1, none⟩) hg).trans h.2.1, (hb.cell (p := ⟨gb, o + 2, none⟩) hg).trans h.2.2.1, (hb.cell (p := ⟨gb, o + 3, none⟩) hg).trans h.2.2.2.1, (hb.cell (p := ⟨gb, o + 4, none⟩) hg).trans h.2.2.2.2.1, (hb.cell (p := ⟨gb, o + 5, none⟩) hg).trans h.2.2.2.2.2⟩
end Go.Proofs.Ytbhjmomphajnnaa

namespace Go.Proofs.Ytbhjmomphajnnaa
open Go.RowKit
set_option linter.unusedVariables false

theorem Flds.mono {w : World} {lo lo' : Nat} {f : Nat → Int} {v : Value} {M : List OM} (h : Flds w lo f v M) (hl : lo' ≤ lo) : Flds w lo' f v M :=
  ⟨fun t ht => by obtain ⟨a1, a2⟩ := h.1 t ht; exact ⟨Nat.le_trans hl a1, a2⟩, h.2⟩

theorem Flds.other {w : World} {lo : Nat} {f : Nat → Int} {v : Value} {M : List OM} (h : Flds w lo f v M) {p : Addr} (hp : p.block < lo) (u : Value) : Flds (w.setCell p u) lo f v M :=
  ⟨fun t ht => by
    obtain ⟨a1, a2, a3, a4⟩ := h.1 t ht
    have e : (w.setCell p u).heap[t.g]? = w.heap[t.g]? := Below.heap_setCell w p u t.g (by omega)
    exact ⟨a1, by simpa using a2, a3, fun k hk => ⟨(World.cell?_of_block (w := w) (a := ⟨t.g, k, none⟩) e).trans (a4 k hk).1, (World.frozen?_of_block (w := w) (a := ⟨t.g, k, none⟩) e).trans (a4 k hk).2⟩⟩, h.2⟩
end Go.Proofs.Ytbhjmomphajnnaa

namespace Go.Proofs.Ytbhjmomphajnnaa
open Go.RowKit
set_option linter.unusedVariables false

/-- The object at a place. -/
def findO (L : List Ob) (a : Int) : Option Ob := L.find? (fun x => x.at_ == a)

/-- A pointer of an owner leads to an object of its own, or nowhere. -/
def leadsB (L : List Ob) (owner value : Int) : Bool := if value = 0 then true else match findO L (value - 1) with | some x => x.o == owner | none => false
end Go.Proofs.Ytbhjmomphajnnaa

namespace Go.Proofs.Ytbhjmomphajnnaa
open Go.RowKit
set_option linter.unusedVariables false

/-- All pointers lead where they may. -/
def Points (f : Nat → Int) (L : List Ob) : Prop := ∀ x ∈ L, ∀ k : Nat, (k : Int) < x.s → x.m / P2 k % 2 = 1 → leadsB L x.o (f (x.at_.toNat + 2 + k)) = true

set_option maxHeartbeats 800000 in
theorem l2Pointer_at (b off I : Nat) (m : Int) (r : Bool) (w : World) (c1 : w.cell? ⟨b, off + 1, none⟩ = some (.int .i64 m)) (hm : 0 ≤ m ∧ m ≤ 4095) (hI : I ≤ 12) (hr : r = (m / P2 I % 2 == 1)) :
    Calls Try.prog 143 #[.pointer (some ⟨b, off, none⟩), .int .i64 (I : Int)] w fun e w' => e = .returned (.bool r) ∧ ∃ q, w' = w.drewN q := by
  subst hr
  obtain ⟨m1, m2⟩ := hm
  have p1 := P2_pos (I : Int)
  have p2 := P2_le (s := (I : Int)) (by omega)
  have hne : ¬ P2 (I : Int) = 0 := by omega
  have hq : m.tdiv (P2 I) = m / P2 I := Int.tdiv_eq_ediv_of_nonneg m1
  have g1 : 0 ≤ m / P2 I := Int.ediv_nonneg m1 (by omega)
  have g2 : m / P2 I ≤ m := Int.ediv_le_self _ m1
  have hr : (m / P2 I).tmod 2 = m / P2 I % 2 := Int.tmod_eq_emod_of_nonneg g1
  go_enter Try.func143, Try.ntmps143
  go_wp2
  go_quiet (with_reducible exact Calls.quiet_of_same (Calls.mono (power_any I _ hI) fun _ _ hh => ⟨hh.1, hh.2.symm⟩))
  go_wp2
  go_ret
  exact ⟨rfl, _, rfl⟩

theorem drewN_below (w : World) (q : Nat) : Below w.heap.size w (w.drewN q) := below_drewN (Below.refl _ _) q
end Go.Proofs.Ytbhjmomphajnnaa

namespace Go.Proofs.Ytbhjmomphajnnaa
open Go.RowKit
set_option linter.unusedVariables false

theorem blk_under {w w' : World} {B b : Nat} {cs : List Value} (h : Blk w b cs) (hb : Below B w w') (hB : b < B) : Blk w' b cs :=
  ⟨Nat.lt_of_lt_of_le h.1 hb.size, fun i u hu => ⟨(hb.cell (p := ⟨b, i, none⟩) hB).trans (h.2 i u hu).1, (hb.frozen (p := ⟨b, i, none⟩) hB).trans (h.2 i u hu).2⟩⟩
end Go.Proofs.Ytbhjmomphajnnaa

namespace Go.Proofs.Ytbhjmomphajnnaa
open Go.RowKit
set_option linter.unusedVariables false

/-- An object in memory, whatever it holds. -/
structure GM where
  at_ : Int
  s : Int
  m : Int
  o : Int
  h : Int
  a : Option Addr
  n : Nat
  c : Nat
  f : Nat → Int

def GM.g (t : GM) : Nat := match t.a with | some p => p.block | none => 0

def SixG (w : World) (b o : Nat) (t : GM) : Prop := w.cell? ⟨b, o, none⟩ = some (.int .i64 t.at_) ∧ w.cell? ⟨b, o + 1, none⟩ = some (.int .i64 t.s) ∧ w.cell? ⟨b, o + 2, none⟩ = some (.int .i64 t.m) ∧ w.cell? ⟨b, o + 3, none⟩ = some (.int .i64 t.o) ∧ w.cell? ⟨b, o + 4, none⟩ = some (.int .i64 t.h) ∧ w.cell? ⟨b, o + 5, none⟩ = some (.slice t.a t.n t.c)

def SixF (w : World) (b o : Nat) : Prop := w.frozen? ⟨b, o, none⟩ = false ∧ w.frozen? ⟨b, o + 1, none⟩ = false ∧ w.frozen? ⟨b, o + 2, none⟩ = false ∧ w.frozen? ⟨b, o + 3, none⟩ = false ∧ w.frozen? ⟨b, o + 4, none⟩ = false ∧ w.frozen? ⟨b, o + 5, none⟩ = false

theorem SixG.block {w w' : World} {b o : Nat} {t : GM} (h : SixG w b o t) (e : w'.heap[b]? = w.heap[b]?) : SixG w' b o t :=
  ⟨(World.cell?_of_block (w := w) (a := ⟨b, o, none⟩) e).trans h.1, (World.cell?_of_block (w := w) (a := ⟨b, o + 1, none⟩) e).trans h.2.1, (World.cell?_of_block (w := w) (a := ⟨b, o + 2, none⟩) e).trans h.2.2.1, (World.cell?_of_block (w := w) (a := ⟨b, o + 3, none⟩) e).trans h.2.2.2.1, (World.cell?_of_block (w := w) (a := ⟨b, o + 4, none⟩) e).trans h.2.2.2.2.1, (World.cell?_of_block (w := w) (a := ⟨b, o + 5, none⟩) e).trans h.2.2.2.2.2⟩

theorem SixF.block {w w' : World} {b o : Nat} (h : SixF w b o) (e : w'.heap[b]? = w.heap[b]?) : SixF w' b o :=
  ⟨(World.frozen?_of_block (w := w) (a := ⟨b, o, none⟩) e).trans h.1, (World.frozen?_of_block (w := w) (a := ⟨b, o + 1, none⟩) e).trans h.2.1, (World.frozen?_of_block (w := w) (a := ⟨b, o + 2, none⟩) e).trans h.2.2.1, (World.frozen?_of_block (w := w) (a := ⟨b, o + 3, none⟩) e).trans h.2.2.2.1, (World.frozen?_of_block (w := w) (a := ⟨b, o + 4, none⟩) e).trans h.2.2.2.2.1, (World.frozen?_of_block (w := w) (a := ⟨b, o + 5, none⟩) e).trans h.2.2.2.2.2⟩

theorem SixG.below {w w' : World} {b o : Nat} {t : GM} (h : SixG w b o t) (hb : Below w.heap.size w w') (hl : b < w.heap.size) : SixG w' b o t := h.block (hb.block b hl)

theorem SixF.below {w w' : World} {b o : Nat} (h : SixF w b o) (hb : Below w.heap.size w w') (hl : b < w.heap.size) : SixF w' b o := h.block (hb.block b hl)

theorem SixG.keeps {w w' : World} {b o lo hi : Nat} {t : GM} (h : SixG w b o t) (hk : Keeps w w' lo hi) (hl : b < w.heap.size) (hd : b < lo ∨ hi ≤ b) : SixG w' b o t := h.block (hk.block b hl hd)

theorem SixF.keeps {w w' : World} {b o lo hi : Nat} (h : SixF w b o) (hk : Keeps w w' lo hi) (hl : b < w.heap.size) (hd : b < lo ∨ hi ≤ b) : SixF w' b o := h.block (hk.block b hl hd)

/-- A row of objects is read. -/
structure GSrc (w : World) (b q N : Nat) (T : Nat → GM) : Prop where
  lt : b < w.heap.size
  six : ∀ i, i < N → SixG w b (q + i * 6) (T i)
  flds : ∀ i, i < N → Src w (T i).a (T i).n (T i).f

/-- A row of objects of the call's own, in blocks from lo to hi. -/
structure GOwn (w : World) (lo hi b q N : Nat) (T : Nat → GM) : Prop where
  glo : lo ≤ b
  ghi : b < hi
  lt : b < w.heap.size
  six : ∀ i, i < N → SixG w b (q + i * 6) (T i)
  free : ∀ i, i < N → SixF w b (q + i * 6)
  flds : ∀ i, i < N → OwnIn w lo hi (T i).a (T i).n (T i).f
  off : ∀ i, i < N → (T i).n = 0 ∨ (T i).g ≠ b
  apart : ∀ i j, i < N → j < N → i ≠ j → (T i).n = 0 ∨ (T j).n = 0 ∨ (T i).g ≠ (T j).g

theorem GOwn.src {w : World} {lo hi b q N : Nat} {T : Nat → GM} (h : GOwn w lo hi b q N T) : GSrc w b q N T := ⟨h.lt, h.six, fun i hi => (h.flds i hi).src⟩

theorem GSrc.below {w w' : World} {b q N : Nat} {T : Nat → GM} (h : GSrc w b q N T) (hb : Below w.heap.size w w') : GSrc w' b q N T :=
  ⟨Nat.lt_of_lt_of_le h.lt hb.size, fun i hi => (h.six i hi).below hb h.lt, fun i hi => (h.flds i hi).below hb⟩

theorem GOwn.below {w w' : World} {lo hi b q N : Nat} {T : Nat → GM} (h : GOwn w lo hi b q N T) (hb : Below w.heap.size w w') : GOwn w' lo hi b q N T :=
  ⟨h.glo, h.ghi, Nat.lt_of_lt_of_le h.lt hb.size, fun i hi => (h.six i hi).below hb h.lt, fun i hi => (h.free i hi).below hb h.lt, fun i hi => (h.flds i hi).below hb, h.off, h.apart⟩

theorem GOwn.keeps {w w' : World} {lo hi lo' hi' b q N : Nat} {T : Nat → GM} (h : GOwn w lo hi b q N T) (hk : Keeps w w' lo' hi') (hd : hi ≤ lo' ∨ hi' ≤ lo) : GOwn w' lo hi b q N T := by
  have h1 := h.glo; have h2 := h.ghi
  exact ⟨h.glo, h.ghi, Nat.lt_of_lt_of_le h.lt hk.size, fun i hi => (h.six i hi).keeps hk h.lt (by omega), fun i hi => (h.free i hi).keeps hk h.lt (by omega), fun i hi => (h.flds i hi).keeps hk hd, h.off, h.apart⟩

theorem GSrc.keeps {w w' : World} {lo hi b q N : Nat} {T : Nat → GM} (h : GSrc w b q N T) (hk : Keeps w w' lo hi) (hd : b < lo ∨ hi ≤ b) (hf : ∀ i, i < N → (T i).n = 0 ∨ (T i).g < lo ∨ hi ≤ (T i).g) : GSrc w' b q N T := by
  refine ⟨Nat.lt_of_lt_of_le h.lt hk.size, fun i hi => (h.six i hi).keeps hk h.lt hd, fun i hi => ?_⟩
  rcases h.flds i hi with h0 | ⟨b', o', he, hl, hc⟩
  · exact .inl h0
  · rcases hf i hi with h0 | hf
    · exact .inl h0
    · have hg : (T i).g = b' := by simp [GM.g, he]
      have e := hk.block b' hl (by omega)
      exact .inr ⟨b', o', he, Nat.lt_of_lt_of_le hl hk.size, fun k hk' => (World.cell?_of_block (w := w) (a := ⟨b', o' + k, none⟩) e).trans (hc k hk')⟩

theorem GSrc.drew {w : World} {b q N : Nat} {T : Nat → GM} (h : GSrc w b q N T) : GSrc w.drew b q N T := h.below (Below.refl _ _).drew

theorem GSrc.alloc {w : World} {b q N : Nat} {T : Nat → GM} (h : GSrc w b q N T) (o : Obj) : GSrc (w.alloc o) b q N T := h.below ((Below.refl _ _).alloc (Nat.le_refl _) o)

theorem GOwn.drew {w : World} {lo hi b q N : Nat} {T : Nat → GM} (h : GOwn w lo hi b q N T) : GOwn w.drew lo hi b q N T := h.below (Below.refl _ _).drew

theorem GOwn.alloc {w : World} {lo hi b q N : Nat} {T : Nat → GM} (h : GOwn w lo hi b q N T) (o : Obj) : GOwn (w.alloc o) lo hi b q N T := h.below ((Below.refl _ _).alloc (Nat.le_refl _) o)

theorem GSrc.congr {w : World} {b q N : Nat} {T U : Nat → GM} (h : GSrc w b q N T) (e : ∀ i, i < N → T i = U i) : GSrc w b q N U :=
  ⟨h.lt, fun i hi => by rw [← e i hi]; exact h.six i hi, fun i hi => by rw [← e i hi]; exact h.flds i hi⟩

theorem GOwn.congr {w : World} {lo hi b q N : Nat} {T U : Nat → GM} (h : GOwn w lo hi b q N T) (e : ∀ i, i < N → T i = U i) : GOwn w lo hi b q N U :=
  ⟨h.glo, h.ghi, h.lt, fun i hi => by rw [← e i hi]; exact h.six i hi, h.free, fun i hi => by rw [← e i hi]; exact h.flds i hi, fun i hi => by rw [← e i hi]; exact h.off i hi, fun i j hi hj hij => by rw [← e i hi, ← e j hj]; exact h.apart i j hi hj hij⟩
end Go.Proofs.Ytbhjmomphajnnaa

namespace Go.Proofs.Ytbhjmomphajnnaa
open Go.RowKit
set_option linter.unusedVariables false

/-- Two objects hold the same. -/
def GSame (t u : GM) : Prop := t.at_ = u.at_ ∧ t.s = u.s ∧ t.m = u.m ∧ t.o = u.o ∧ t.h = u.h ∧ t.n = u.n ∧ ∀ k, k < t.n → t.f k = u.f k

def GV (w : World) (a : Option Addr) (N : Nat) (T : Nat → GM) : Prop := N = 0 ∨ ∃ b q, a = some ⟨b, q, none⟩ ∧ GSrc w b q N T

def GVO (w : World) (lo hi : Nat) (a : Option Addr) (N : Nat) (T : Nat → GM) : Prop := N = 0 ∨ ∃ b q, a = some ⟨b, q, none⟩ ∧ GOwn w lo hi b q N T

theorem GVO.src {w : World} {lo hi N : Nat} {a : Option Addr} {T : Nat → GM} (h : GVO w lo hi a N T) : GV w a N T := by
  rcases h with h0 | ⟨b, q, e, h⟩
  · exact .inl h0
  · exact .inr ⟨b, q, e, h.src⟩

theorem GV.below {w w' : World} {a : Option Addr} {N : Nat} {T : Nat → GM} (h : GV w a N T) (hb : Below w.heap.size w w') : GV w' a N T := by
  rcases h with h0 | ⟨b, q, e, h⟩
  · exact .inl h0
  · exact .inr ⟨b, q, e, h.below hb⟩

theorem GVO.below {w w' : World} {lo hi N : Nat} {a : Option Addr} {T : Nat → GM} (h : GVO w lo hi a N T) (hb : Below w.heap.size w w') : GVO w' lo hi a N T := by
  rcases h with h0 | ⟨b, q, e, h⟩
  · exact .inl h0
  · exact .inr ⟨b, q, e, h.below hb⟩

theorem GVO.keeps {w w' : World} {lo hi lo' hi' N : Nat} {a : Option Addr} {T : Nat → GM} (h : GVO w lo hi a N T) (hk : Keeps w w' lo' hi') (hd : hi ≤ lo' ∨ hi' ≤ lo) : GVO w' lo hi a N T := by
  rcases h with h0 | ⟨b, q, e, h⟩
  · exact .inl h0
  · exact .inr ⟨b, q, e, h.keeps hk hd⟩

theorem GV.drew {w : World} {a : Option Addr} {N : Nat} {T : Nat → GM} (h : GV w a N T) : GV w.drew a N T := h.below (Below.refl _ _).drew

theorem GV.alloc {w : World} {a : Option Addr} {N : Nat} {T : Nat → GM} (h : GV w a N T) (o : Obj) : GV (w.alloc o) a N T := h.below ((Below.refl _ _).alloc (Nat.le_refl _) o)

theorem GVO.drew {w : World} {lo hi N : Nat} {a : Option Addr} {T : Nat → GM} (h : GVO w lo hi a N T) : GVO w.drew lo hi a N T := h.below (Below.refl _ _).drew

theorem GVO.alloc {w : World} {lo hi N : Nat} {a : Option Addr} {T : Nat → GM} (h : GVO w lo hi a N T) (o : Obj) : GVO (w.alloc o) lo hi a N T := h.below ((Below.refl _ _).alloc (Nat.le_refl _) o)
end Go.Proofs.Ytbhjmomphajnnaa

namespace Go.Proofs.Ytbhjmomphajnnaa
open Go.RowKit
set_option linter.unusedVariables false

theorem made_get (z : Array Value) (m k : Nat) (hk : k < m) : (madeCells z m).toList[k]? = some z[k % z.size]! := by
  simp [madeCells, hk]

/-- The six cells of an object are written. -/
def sixW (w : World) (b o : Nat) (t : GM) : World := ((((((w.setCell ⟨b, o, none⟩ (.int .i64 t.at_)).setCell ⟨b, o + 1, none⟩ (.int .i64 t.s)).setCell ⟨b, o + 2, none⟩ (.int .i64 t.m)).setCell ⟨b, o + 3, none⟩ (.int .i64 t.o)).setCell ⟨b, o + 4, none⟩ (.int .i64 t.h)).setCell ⟨b, o + 5, none⟩ (.slice t.a t.n t.c))

theorem sixW_at {w : World} {b o : Nat} {t0 : GM} (h : SixG w b o t0) (t : GM) : SixG (sixW w b o t) b o t := by
  obtain ⟨x0, x1, x2, x3, x4, x5⟩ := h
  simp [sixW, SixG, x0, x1, x2, x3, x4, x5, World.cell?_setCell_other, World.cell?_setCell_same']

theorem sixW_other {w : World} {b o o' : Nat} {u : GM} (h : SixG w b o u) (hd : o + 6 ≤ o' ∨ o' + 6 ≤ o) (t : GM) : SixG (sixW w b o' t) b o u := by
  have g : ∀ x, x < 6 → ∀ y, y < 6 → (⟨b, o' + y, none⟩ : Addr) ≠ ⟨b, o + x, none⟩ := fun x hx y hy e => by simp at e; try omega
  have k : ∀ x, x < 6 → (sixW w b o' t).cell? ⟨b, o + x, none⟩ = w.cell? ⟨b, o + x, none⟩ := fun x hx => by
    unfold sixW
    rw [World.cell?_setCell_other _ _ _ _ (g x hx 5 (by omega)), World.cell?_setCell_other _ _ _ _ (g x hx 4 (by omega)), World.cell?_setCell_other _ _ _ _ (g x hx 3 (by omega)), World.cell?_setCell_other _ _ _ _ (g x hx 2 (by omega)), World.cell?_setCell_other _ _ _ _ (g x hx 1 (by omega)), World.cell?_setCell_other _ _ _ _ (show (⟨b, o', none⟩ : Addr) ≠ ⟨b, o + x, none⟩ from g x hx 0 (by omega))]
  exact ⟨(k 0 (by omega)).trans h.1, (k 1 (by omega)).trans h.2.1, (k 2 (by omega)).trans h.2.2.1, (k 3 (by omega)).trans h.2.2.2.1, (k 4 (by omega)).trans h.2.2.2.2.1, (k 5 (by omega)).trans h.2.2.2.2.2⟩

theorem sixW_frozen (w : World) (b o : Nat) (t : GM) (p : Addr) : (sixW w b o t).frozen? p = w.frozen? p := by simp [sixW, World.frozen?_setCell]

theorem sixW_keeps (w : World) (b o : Nat) (t : GM) : Keeps w (sixW w b o t) b (b + 1) := by
  unfold sixW
  refine Keeps.trans ?_ (keeps_setCell (p := ⟨b, o + 5, none⟩) (Nat.le_refl b) (Nat.lt_succ_self b) _)
  refine Keeps.trans ?_ (keeps_setCell (p := ⟨b, o + 4, none⟩) (Nat.le_refl b) (Nat.lt_succ_self b) _)
  refine Keeps.trans ?_ (keeps_setCell (p := ⟨b, o + 3, none⟩) (Nat.le_refl b) (Nat.lt_succ_self b) _)
  refine Keeps.trans ?_ (keeps_setCell (p := ⟨b, o + 2, none⟩) (Nat.le_refl b) (Nat.lt_succ_self b) _)
  refine Keeps.trans ?_ (keeps_setCell (p := ⟨b, o + 1, none⟩) (Nat.le_refl b) (Nat.lt_succ_self b) _)
  refine Keeps.trans ?_ (keeps_setCell (p := ⟨b, o, none⟩) (Nat.le_refl b) (Nat.lt_succ_self b) _)
  exact Keeps.refl _ _ _
end Go.Proofs.Ytbhjmomphajnnaa

namespace Go.Proofs.Ytbhjmomphajnnaa
open Go.RowKit
set_option linter.unusedVariables false

def obG (f : Nat → Int) (y : Ob) : GM := ⟨y.at_, y.s, y.m, y.o, y.h, none, y.s.toNat, 0, fun k => f (y.at_.toNat + 2 + k)⟩

def gzero : GM := ⟨0, 0, 0, 0, 0, none, 0, 0, fun _ => 0⟩

def xT (f : Nat → Int) (x : Option Ob) : GM := match x with | none => gzero | some y => obG f y

def obT (f : Nat → Int) (L : List Ob) (i : Nat) : GM := xT f L[i]?

theorem GSame.refl (t : GM) : GSame t t := ⟨rfl, rfl, rfl, rfl, rfl, rfl, fun _ _ => rfl⟩
end Go.Proofs.Ytbhjmomphajnnaa

namespace Go.Proofs.Ytbhjmomphajnnaa
open Go.ChangeShapes Go.WideShapes Go.ChangeAt Go.RowKit Go.Joins Go.Deep
set_option linter.unusedVariables false

instance : Inhabited GM := ⟨gzero⟩
end Go.Proofs.Ytbhjmomphajnnaa

namespace Go.Proofs.Ytbhjmomphajnnaa
open Go.RowKit
set_option linter.unusedVariables false

theorem isNaN_any (x : Int) (w : World) : Calls Try.prog 230 #[.int .i64 x] w (fun e w' => e = .returned (.bool false) ∧ Below w.heap.size w w') := by
  go_enter Try.func230, Try.ntmps230
  go_wp2
  go_ret
  exact ⟨rfl, Below.refl _ _⟩

def sgn (x y : Int) : Int := if x < y then -1 else if y < x then 1 else 0

set_option maxRecDepth 100000 in
theorem compare_any (x y : Int) (w : World) : Calls Try.prog 212 #[.int .i64 x, .int .i64 y] w (fun e w' => e = .returned (.int .i64 (sgn x y)) ∧ Below w.heap.size w w') := by
  have arm : ∀ (W0 : World), True := fun _ => trivial
  by_cases h1 : x < y
  · have hs : sgn x y = -1 := by unfold sgn; rw [if_pos h1]
    rw [hs]
    go_enter Try.func212, Try.ntmps212
    go_wp2_with (first | (go_at_call 230; refine (isNaN_any x _).mono ?_; rintro e w1 ⟨rfl, hb1⟩) | (go_at_call 230; refine (isNaN_any y _).mono ?_; rintro e w2 ⟨rfl, hb2⟩))
    go_ret
    exact ⟨rfl, hb1.trans (hb2.mono hb1.size)⟩
  · by_cases h2 : y < x
    · have hs : sgn x y = 1 := by unfold sgn; rw [if_neg h1, if_pos h2]
      rw [hs]
      go_enter Try.func212, Try.ntmps212
      go_wp2_with (first | (go_at_call 230; refine (isNaN_any x _).mono ?_; rintro e w1 ⟨rfl, hb1⟩) | (go_at_call 230; refine (isNaN_any y _).mono ?_; rintro e w2 ⟨rfl, hb2⟩))
      go_ret
      exact ⟨rfl, hb1.trans (hb2.mono hb1.size)⟩
    · have hs : sgn x y = 0 := by unfold sgn; rw [if_neg h1, if_neg h2]
      rw [hs]
      go_enter Try.func212, Try.ntmps212
      go_wp2_with (first | (go_at_call 230; refine (isNaN_any x _).mono ?_; rintro e w1 ⟨rfl, hb1⟩) | (go_at_call 230; refine (isNaN_any y _).mono ?_; rintro e w2 ⟨rfl, hb2⟩))
      go_ret
      exact ⟨rfl, hb1.trans (hb2.mono hb1.size)⟩
end Go.Proofs.Ytbhjmomphajnnaa

namespace Go.Proofs.Ytbhjmomphajnnaa
open Go.RowKit
set_option linter.unusedVariables false

/-- The world stands in the first place where the row is no longer below. -/
def Cut (T : Nat → GM) (N : Nat) (x : Int) (lo hi : Nat) : Prop := (∀ j, j < lo → (T j).at_ < x) ∧ (∀ j, hi ≤ j → j < N → x ≤ (T j).at_)
end Go.Proofs.Ytbhjmomphajnnaa

namespace Go.Proofs.Ytbhjmomphajnnaa
open Go.RowKit Go.Shelf
set_option linter.unusedVariables false
attribute [local go_sem] Oper.semAt_some

theorem blk_block {w w' : World} {b : Nat} {cs : List Value} (h : Blk w b cs) (e : w'.heap[b]? = w.heap[b]?) : Blk w' b cs := by
  refine ⟨?_, fun i u hu => ?_⟩
  · have h1 : w.heap[b]? = some (w.heap[b]'h.1) := Array.getElem?_eq_getElem h.1
    rw [h1] at e
    exact (Array.getElem?_eq_some_iff.1 e).1
  · obtain ⟨h1, h2⟩ := h.2 i u hu
    exact ⟨(World.cell?_of_block (w := w) (a := ⟨b, i, none⟩) e).trans h1, (World.frozen?_of_block (w := w) (a := ⟨b, i, none⟩) e).trans h2⟩
end Go.Proofs.Ytbhjmomphajnnaa

namespace Go.Proofs.Ytbhjmomphajnnaa
open Go.RowKit
set_option linter.unusedVariables false

def gcells (t : GM) : List Value := [.int .i64 t.at_, .int .i64 t.s, .int .i64 t.m, .int .i64 t.o, .int .i64 t.h, .slice t.a t.n t.c]

def rowG (M : List GM) : List Value := M.flatMap gcells

theorem rowG_get : ∀ (M : List GM) (i : Nat) (t : GM), M[i]? = some t → ∀ j, j < 6 → (rowG M)[i * 6 + j]? = (gcells t)[j]?
  | [], i, t, h, j, hj => by simp at h
  | u :: M, 0, t, h, j, hj => by
    simp only [List.getElem?_cons_zero, Option.some.injEq] at h
    subst h
    simp only [rowG, List.flatMap_cons, Nat.zero_mul, Nat.zero_add]
    rw [List.getElem?_append_left (by simp [gcells]; omega)]
  | u :: M, i + 1, t, h, j, hj => by
    have ih := rowG_get M i t (by simpa using h) j hj
    simp only [rowG, List.flatMap_cons] at ih ⊢
    rw [List.getElem?_append_right (by simp [gcells]; omega)]
    have e : (i + 1) * 6 + j - (gcells u).length = i * 6 + j := by simp [gcells]; omega
    rw [e]; exact ih

/-- Each object's fields are numbers of their own, later ones in later blocks. -/
def FldG (w : World) (lo : Nat) (v : Value) (M : List GM) : Prop :=
  (∀ t ∈ M, t.n = 0 ∨ (lo ≤ t.g ∧ t.g < w.heap.size ∧ some t.g ≠ v.ownBlock ∧ ∃ q, t.a = some ⟨t.g, q, none⟩ ∧ ∀ k, k < t.n → w.cell? ⟨t.g, q + k, none⟩ = some (.int .i64 (t.f k)) ∧ w.frozen? ⟨t.g, q + k, none⟩ = false)) ∧ M.Pairwise (fun t u => t.n = 0 ∨ u.n = 0 ∨ t.g < u.g)

theorem FldG.block {w w' : World} {lo : Nat} {v : Value} {M : List GM} (h : FldG w lo v M) (hz : w.heap.size ≤ w'.heap.size) (hb : ∀ b, lo ≤ b → b < w.heap.size → some b ≠ v.ownBlock → w'.heap[b]? = w.heap[b]?) : FldG w' lo v M :=
  ⟨fun t ht => by
    rcases h.1 t ht with h0 | ⟨h1, h2, h3, q, h4, h5⟩
    · exact .inl h0
    · have e := hb t.g h1 h2 h3
      exact .inr ⟨h1, Nat.lt_of_lt_of_le h2 hz, h3, q, h4, fun k hk => ⟨(World.cell?_of_block (w := w) (a := ⟨t.g, q + k, none⟩) e).trans (h5 k hk).1, (World.frozen?_of_block (w := w) (a := ⟨t.g, q + k, none⟩) e).trans (h5 k hk).2⟩⟩, h.2⟩

theorem FldG.below {w w' : World} {lo : Nat} {v : Value} {M : List GM} (h : FldG w lo v M) (hb : Below w.heap.size w w') : FldG w' lo v M := h.block hb.size fun b _ h2 _ => hb.block b h2

def gT (M : List GM) (i : Nat) : GM := M[i]?.getD gzero

theorem gT_at {M : List GM} {i : Nat} {t : GM} (h : M[i]? = some t) : gT M i = t := by simp [gT, h]
end Go.Proofs.Ytbhjmomphajnnaa

namespace Go.Proofs.Ytbhjmomphajnnaa
open Go.RowKit Go.Shelf
set_option linter.unusedVariables false

/-- What lay below B, and what holds cells, is as it was. -/
structure Turn (B : Nat) (V V' : World) : Prop where
  os : V'.os = V.os
  tape : V'.tape = V.tape
  output : V'.output = V.output
  size : V.heap.size ≤ V'.heap.size
  same : ∀ (k : Nat) (o : Obj), V.heap[k]? = some o → (k < B ∨ o.isCells = true) → V'.heap[k]? = some o

theorem Turn.trans {B : Nat} {V V' V'' : World} (h : Turn B V V') (h' : Turn B V' V'') : Turn B V V'' :=
  ⟨h'.os.trans h.os, h'.tape.trans h.tape, h'.output.trans h.output, Nat.le_trans h.size h'.size, fun k o hk hc => h'.same k o (h.same k o hk hc) hc⟩

theorem Turn.put {B : Nat} {V : World} {l : Nat} {o : Obj} (o' : Obj) (hl : B ≤ l) (h : V.heap[l]? = some o) (hc : o.isCells = false) : Turn B V (V.putObj l o') :=
  ⟨rfl, rfl, rfl, by simp, fun k x hk hx => by
    have hne : k ≠ l := fun e => by
      subst e
      rw [h] at hk
      cases hk
      rcases hx with hx | hx
      · omega
      · rw [hc] at hx; cases hx
    rw [World.putObj_heap_other hne]; exact hk⟩

theorem Turn.below {B n : Nat} {V V' : World} (h : Turn B V V') (hn : n ≤ B) (hz : n ≤ V.heap.size) : Below n V V' :=
  ⟨h.os, h.tape, h.output, h.size, fun k hk => by
    have hk' : V.heap[k]? = some (V.heap[k]'(by omega)) := Array.getElem?_eq_getElem (by omega)
    rw [hk']; exact h.same k _ hk' (.inl (by omega))⟩

theorem Turn.cell {B : Nat} {V V' : World} (h : Turn B V V') {p : Addr} {v : Value} (hc : V.cell? p = some v) : V'.cell? p = some v ∧ V'.frozen? p = V.frozen? p ∧ V'.heap[p.block]? = V.heap[p.block]? := by
  obtain ⟨o, ho, hcc⟩ := cells_of_cell hc
  have e : V'.heap[p.block]? = V.heap[p.block]? := (h.same _ o ho (.inr hcc)).trans ho.symm
  exact ⟨(World.cell?_of_block e).trans hc, World.frozen?_of_block e, e⟩

theorem Turn.blk {B : Nat} {V V' : World} (h : Turn B V V') {b : Nat} {cs : List Value} (hb : Blk V b cs) (hne : cs ≠ []) : Blk V' b cs := by
  cases cs with
  | nil => exact absurd rfl hne
  | cons u cs => exact blk_block hb (h.cell (hb.2 0 u rfl).1).2.2

theorem Turn.own {B : Nat} {V V' : World} (h : Turn B V V') {lo n : Nat} {a : Option Addr} {f : Nat → Int} (ho : Own V lo a n f) : Own V' lo a n f := by
  rcases ho with h0 | ⟨b, off, he, h1, h2, h3⟩
  · exact .inl h0
  · exact .inr ⟨b, off, he, h1, Nat.lt_of_lt_of_le h2 h.size, fun k hk => by
      obtain ⟨e1, e2, _⟩ := h.cell (h3 k hk).1
      exact ⟨e1, e2.trans (h3 k hk).2⟩⟩

theorem Turn.row {B : Nat} {V V' : World} (h : Turn B V V') {base e size n : Nat} {v : Value} {xs : List Value} (ho : V.ownsRow base e size v n xs) : V'.ownsRow base e size v n xs := by
  refine ⟨ho.1, ?_⟩
  rcases ho.2 with h0 | ⟨g, cap, cur, h1, h2, h3, h4⟩
  · exact .inl h0
  · exact .inr ⟨g, cap, cur, h1, h2, h.same g _ h3 (.inr rfl), h4⟩
end Go.Proofs.Ytbhjmomphajnnaa

namespace Go.Proofs.Ytbhjmomphajnnaa
open Go.RowKit Go.Shelf
attribute [local go_sem] Oper.semAt_some
set_option linter.unusedVariables false

theorem blk_grown {w w' : World} {b : Nat} {cs : List Value} {row : Option Nat} (h : Blk w b cs) (hg : w.grownBy w' row) (hne : row ≠ some b) : Blk w' b cs := blk_block h (hg.block b h.1 (fun e => hne e.symm))

theorem row_set {w : World} {base e size n : Nat} {v : Value} {xs : List Value} (h : w.ownsRow base e size v n xs) {p : Addr} (hp : p.block < base) (u : Value) : (w.setCell p u).ownsRow base e size v n xs := by
  refine ⟨h.1, ?_⟩
  rcases h.2 with h0 | ⟨g, cap, cur, h1, h2, h3, h4⟩
  · exact .inl h0
  · exact .inr ⟨g, cap, cur, h1, h2, (Below.heap_setCell w p u g (by omega)).trans h3, h4⟩
end Go.Proofs.Ytbhjmomphajnnaa

namespace Go.Proofs.Ytbhjmomphajnnaa
open Go.RowKit
set_option linter.unusedVariables false

/-- Elements that are new are put behind all others, one after the other. -/
def addNew (out : List Int) : List Int → List Int
  | [] => out
  | x :: xs => addNew (if x ∈ out then out else out ++ [x]) xs

theorem addNew_append (out xs ys : List Int) : addNew out (xs ++ ys) = addNew (addNew out xs) ys := by
  induction xs generalizing out with
  | nil => rfl
  | cons x xs ih => exact ih _

theorem addNew_prefix (xs : List Int) : ∀ out, out <+: addNew out xs := by
  induction xs with
  | nil => exact fun out => List.prefix_refl _
  | cons x xs ih =>
    intro out
    refine List.IsPrefix.trans ?_ (ih _)
    by_cases h : x ∈ out
    · rw [if_pos h]
      exact List.prefix_refl _
    · rw [if_neg h]; exact List.prefix_append _ _

theorem mem_addNew (xs : List Int) : ∀ out y, y ∈ addNew out xs ↔ y ∈ out ∨ y ∈ xs := by
  induction xs with
  | nil => intro out y; simp [addNew]
  | cons x xs ih =>
    intro out y
    rw [addNew, ih]
    by_cases h : x ∈ out
    · rw [if_pos h]
      constructor
      · rintro (h1 | h1)
        · exact .inl h1
        · exact .inr (List.mem_cons_of_mem _ h1)
      · rintro (h1 | h1)
        · exact .inl h1
        · rcases List.mem_cons.mp h1 with rfl | h2
          · exact .inl h
          · exact .inr h2
    · rw [if_neg h]
      simp only [List.mem_append, List.mem_cons, List.not_mem_nil, or_false]
      constructor
      · rintro ((h1 | h1) | h1)
        · exact .inl h1
        · exact .inr (.inl h1)
        · exact .inr (.inr h1)
      · rintro (h1 | h1 | h1)
        · exact .inl (.inl h1)
        · exact .inl (.inr h1)
        · exact .inr h1

theorem nodup_addNew (xs : List Int) : ∀ out, out.Nodup → (addNew out xs).Nodup := by
  induction xs with
  | nil => exact fun out h => h
  | cons x xs ih =>
    intro out hn
    refine ih _ ?_
    by_cases h : x ∈ out
    · rw [if_pos h]; exact hn
    · rw [if_neg h]
      refine List.nodup_append.mpr ⟨hn, by simp, fun a ha b hb => ?_⟩
      simp only [List.mem_singleton] at hb
      subst hb
      intro e; subst e; exact h ha

/-- The scan: for each place from i on, where it leads. -/
def scanF (succ : Int → List Int) : Nat → Nat → List Int → List Int
  | 0, _, out => out
  | n + 1, i, out => if i < out.length then scanF succ n (i + 1) (addNew out (succ (out.getD i 0))) else out

theorem scanF_stop {succ : Int → List Int} {n i : Nat} {out : List Int} (h : ¬ i < out.length) : scanF succ n i out = out := by
  cases n with
  | zero => rfl
  | succ n => rw [scanF, if_neg h]

theorem scanF_nodup (succ : Int → List Int) : ∀ n i out, out.Nodup → (scanF succ n i out).Nodup := by
  intro n
  induction n with
  | zero => exact fun i out h => h
  | succ n ih =>
    intro i out hn
    rw [scanF]
    by_cases h : i < out.length
    · rw [if_pos h]; exact ih _ _ (nodup_addNew _ _ hn)
    · rw [if_neg h]; exact hn

theorem scanF_sub (succ : Int → List Int) (U : List Int) (hU : ∀ x ∈ U, ∀ y ∈ succ x, y ∈ U) : ∀ n i out, (∀ x ∈ out, x ∈ U) → ∀ x ∈ scanF succ n i out, x ∈ U := by
  intro n
  induction n with
  | zero => exact fun i out h => h
  | succ n ih =>
    intro i out hs
    rw [scanF]
    by_cases h : i < out.length
    · rw [if_pos h]
      refine ih _ _ fun x hx => ?_
      rcases (mem_addNew _ _ _).1 hx with h1 | h1
      · exact hs x h1
      · have hg : out.getD i 0 ∈ out := by
          rw [List.getD_eq_getElem?_getD, List.getElem?_eq_getElem h]; exact List.getElem_mem h
        exact hU _ (hs _ hg) x h1
    · rw [if_neg h]; exact hs

theorem nodup_length {xs U : List Int} (hn : xs.Nodup) (hs : ∀ x ∈ xs, x ∈ U) : xs.length ≤ U.length := by
  induction xs generalizing U with
  | nil => exact Nat.zero_le _
  | cons x xs ih =>
    have hx := List.nodup_cons.mp hn
    have := ih hx.2 (U := U.erase x) (fun y hy => (List.mem_erase_of_ne (fun e => by subst e; exact hx.1 hy)).mpr (hs y (List.mem_cons_of_mem _ hy)))
    have h2 := List.length_erase_of_mem (hs x (List.mem_cons_self ..))
    have h3 : 0 < U.length := List.length_pos_of_mem (hs x (List.mem_cons_self ..))
    simp only [List.length_cons]
    omega

theorem addNew_map (φ : Int → Int) (U : List Int) (hφ : ∀ x ∈ U, ∀ y ∈ U, φ x = φ y → x = y) (xs : List Int) : ∀ out, (∀ x ∈ out, x ∈ U) → (∀ x ∈ xs, x ∈ U) → addNew (out.map φ) (xs.map φ) = (addNew out xs).map φ := by
  induction xs with
  | nil => intro out _ _; rfl
  | cons x xs ih =>
    intro out ho hx
    have hm : φ x ∈ out.map φ ↔ x ∈ out := by
      constructor
      · intro h
        obtain ⟨y, hy, he⟩ := List.mem_map.mp h
        rw [← hφ y (ho y hy) x (hx x (List.mem_cons_self ..)) he]; exact hy
      · exact fun h => List.mem_map_of_mem h
    simp only [List.map_cons, addNew]
    by_cases h : x ∈ out
    · rw [if_pos h, if_pos (hm.2 h)]
      exact ih out ho fun y hy => hx y (List.mem_cons_of_mem _ hy)
    · rw [if_neg h, if_neg (fun h1 => h (hm.1 h1))]
      rw [show out.map φ ++ [φ x] = (out ++ [x]).map φ by simp]
      refine ih _ (fun y hy => ?_) fun y hy => hx y (List.mem_cons_of_mem _ hy)
      rcases List.mem_append.mp hy with h1 | h1
      · exact ho y h1
      · simp only [List.mem_singleton] at h1; subst h1; exact hx _ (List.mem_cons_self ..)

/-- The scan of what has the same form. -/
theorem scanF_map (succ succ' : Int → List Int) (φ : Int → Int) (U : List Int) (hU : ∀ x ∈ U, ∀ y ∈ succ x, y ∈ U) (hφ : ∀ x ∈ U, ∀ y ∈ U, φ x = φ y → x = y) (hs : ∀ x ∈ U, succ' (φ x) = (succ x).map φ) :
    ∀ n i out, (∀ x ∈ out, x ∈ U) → scanF succ' n i (out.map φ) = (scanF succ n i out).map φ := by
  intro n
  induction n with
  | zero => intro i out _; rfl
  | succ n ih =>
    intro i out ho
    rw [scanF, scanF]
    by_cases h : i < out.length
    · have hg : out.getD i 0 ∈ out := by
        rw [List.getD_eq_getElem?_getD, List.getElem?_eq_getElem h]; exact List.getElem_mem h
      have he : (out.map φ).getD i 0 = φ (out.getD i 0) := by
        rw [List.getD_eq_getElem?_getD, List.getD_eq_getElem?_getD, List.getElem?_map, List.getElem?_eq_getElem h]; rfl
      rw [if_pos (by simpa using h), if_pos h, he, hs _ (ho _ hg), addNew_map φ U hφ _ _ ho (fun y hy => hU _ (ho _ hg) y hy)]
      refine ih _ _ fun x hx => ?_
      rcases (mem_addNew _ _ _).1 hx with h1 | h1
      · exact ho x h1
      · exact hU _ (ho _ hg) x h1
    · rw [if_neg (by simpa using h), if_neg h]

/-- What is reached. -/
def reachL (succ : Int → List Int) (n : Nat) (roots : List Int) : List Int := scanF succ n 0 (addNew [] roots)

theorem reachL_nodup (succ : Int → List Int) (n : Nat) (roots : List Int) : (reachL succ n roots).Nodup := scanF_nodup succ n 0 _ (nodup_addNew _ _ List.nodup_nil)

theorem addNew_sub {U roots : List Int} (hr : ∀ x ∈ roots, x ∈ U) : ∀ x ∈ addNew [] roots, x ∈ U := fun x hx => by
  rcases (mem_addNew _ _ _).1 hx with h1 | h1
  · cases h1
  · exact hr x h1

theorem reachL_sub (succ : Int → List Int) (n : Nat) (U roots : List Int) (hU : ∀ x ∈ U, ∀ y ∈ succ x, y ∈ U) (hr : ∀ x ∈ roots, x ∈ U) : ∀ x ∈ reachL succ n roots, x ∈ U := scanF_sub succ U hU n 0 _ (addNew_sub hr)

theorem reachL_map (succ succ' : Int → List Int) (φ : Int → Int) (n : Nat) (U roots : List Int) (hU : ∀ x ∈ U, ∀ y ∈ succ x, y ∈ U) (hφ : ∀ x ∈ U, ∀ y ∈ U, φ x = φ y → x = y) (hs : ∀ x ∈ U, succ' (φ x) = (succ x).map φ) (hr : ∀ x ∈ roots, x ∈ U) :
    reachL succ' n (roots.map φ) = (reachL succ n roots).map φ := by
  unfold reachL
  rw [← scanF_map succ succ' φ U hU hφ hs n 0 _ (addNew_sub hr)]
  congr 1
  exact addNew_map φ U hφ roots [] (fun x hx => by cases hx) hr

/-- More fuel than there are places does not matter. -/
theorem scanF_fuel (succ : Int → List Int) (U : List Int) (hU : ∀ x ∈ U, ∀ y ∈ succ x, y ∈ U) : ∀ n m i out, out.Nodup → (∀ x ∈ out, x ∈ U) → U.length ≤ n + i → U.length ≤ m + i → scanF succ n i out = scanF succ m i out := by
  intro n
  induction n with
  | zero =>
    intro m i out hn hs h1 h2
    have := nodup_length hn hs
    rw [scanF_stop (show ¬ i < out.length by omega), scanF_stop (show ¬ i < out.length by omega)]
  | succ n ih =>
    intro m i out hn hs h1 h2
    by_cases h : i < out.length
    · have := nodup_length hn hs
      match m with
      | 0 => omega
      | m + 1 =>
        rw [scanF, scanF, if_pos h, if_pos h]
        refine ih _ _ _ (nodup_addNew _ _ hn) (fun x hx => ?_) (by omega) (by omega)
        rcases (mem_addNew _ _ _).1 hx with h1 | h1
        · exact hs x h1
        · have hg : out.getD i 0 ∈ out := by
            rw [List.getD_eq_getElem?_getD, List.getElem?_eq_getElem h]; exact List.getElem_mem h
          exact hU _ (hs _ hg) x h1
    · rw [scanF_stop h, scanF_stop h]
end Go.Proofs.Ytbhjmomphajnnaa

namespace Go.Proofs.Ytbhjmomphajnnaa
open Go.RowKit
set_option linter.unusedVariables false

/-- Where an object's pointers lead, in the order of its fields. -/
def ptrs (f : Nat → Int) (x : Ob) : List Int := (List.range x.s.toNat).filterMap fun (k : Nat) => if x.m / P2 (k : Int) % 2 = 1 ∧ ¬ f (x.at_.toNat + 2 + k) = 0 then some (f (x.at_.toNat + 2 + k) - 1) else none

def succO (f : Nat → Int) (L : List Ob) (p : Int) : List Int := match findO L p with | some x => ptrs f x | none => []

def placesO (L : List Ob) : List Int := L.map Ob.at_

def reachO (f : Nat → Int) (L : List Ob) (roots : List Int) : List Int := reachL (succO f L) L.length roots

theorem mem_ptrs {f : Nat → Int} {x : Ob} {y : Int} : y ∈ ptrs f x ↔ ∃ k : Nat, k < x.s.toNat ∧ x.m / P2 (k : Int) % 2 = 1 ∧ ¬ f (x.at_.toNat + 2 + k) = 0 ∧ y = f (x.at_.toNat + 2 + k) - 1 := by
  unfold ptrs
  rw [List.mem_filterMap]
  constructor
  · rintro ⟨k, hk, he⟩
    by_cases h : x.m / P2 (k : Int) % 2 = 1 ∧ ¬ f (x.at_.toNat + 2 + k) = 0
    · rw [if_pos h] at he
      exact ⟨k, by simpa using hk, h.1, h.2, (Option.some.inj he).symm⟩
    · rw [if_neg h] at he; cases he
  · rintro ⟨k, hk, h1, h2, rfl⟩
    exact ⟨k, by simpa using hk, if_pos ⟨h1, h2⟩⟩

theorem mem_placesO {L : List Ob} {p : Int} : p ∈ placesO L ↔ ∃ x, findO L p = some x := by
  unfold placesO
  constructor
  · intro h
    obtain ⟨x, hx, rfl⟩ := List.mem_map.mp h
    cases hf : findO L x.at_ with
    | some y => exact ⟨y, rfl⟩
    | none =>
      have := List.find?_eq_none.mp hf x hx
      simp at this
  · rintro ⟨x, hf⟩
    have h1 := List.find?_some hf
    exact List.mem_map.mpr ⟨x, List.mem_of_find?_eq_some hf, by simpa using h1⟩

theorem succO_sub {f : Nat → Int} {L : List Ob} (hp : Points f L) (hs : ∀ x ∈ L, 0 ≤ x.s) : ∀ p ∈ placesO L, ∀ y ∈ succO f L p, y ∈ placesO L := by
  intro p _ y hy
  unfold succO at hy
  cases hf : findO L p with
  | none => rw [hf] at hy; cases hy
  | some x =>
    rw [hf] at hy
    obtain ⟨k, hk, h1, h2, rfl⟩ := mem_ptrs.1 hy
    have hx := List.mem_of_find?_eq_some hf
    have h0 := hs x hx
    have hl := hp x hx k (by omega) h1
    unfold leadsB at hl
    rw [if_neg h2] at hl
    cases hf2 : findO L (f (x.at_.toNat + 2 + k) - 1) with
    | none => rw [hf2] at hl; cases hl
    | some z => exact mem_placesO.2 ⟨z, hf2⟩

theorem reachO_sub {f : Nat → Int} {L : List Ob} {roots : List Int} (hp : Points f L) (hs : ∀ x ∈ L, 0 ≤ x.s) (hr : ∀ p ∈ roots, p ∈ placesO L) : ∀ p ∈ reachO f L roots, p ∈ placesO L := reachL_sub _ _ _ _ (succO_sub hp hs) hr

/-- The number of a place in a list. -/
def numL (l : List Int) (v : Int) : Option Nat := l.findIdx? (· == v)

theorem numL_some {l : List Int} {v : Int} (h : v ∈ l) : ∃ i, numL l v = some i ∧ i < l.length ∧ l.getD i 0 = v := by
  unfold numL
  cases hi : l.findIdx? (· == v) with
  | none =>
    have := List.findIdx?_eq_none_iff.mp hi v h
    simp at this
  | some i =>
    obtain ⟨h1, h2, _⟩ := List.findIdx?_eq_some_iff_getElem.mp hi
    refine ⟨i, rfl, h1, ?_⟩
    rw [List.getD_eq_getElem?_getD, List.getElem?_eq_getElem h1]
    simpa using h2

theorem numL_none {l : List Int} {v : Int} : numL l v = none ↔ v ∉ l := by
  unfold numL
  rw [List.findIdx?_eq_none_iff]
  constructor
  · intro h hv; have := h v hv; simp at this
  · intro h x hx
    simp only [beq_eq_false_iff_ne, ne_eq]
    intro e; subst e; exact h hx

theorem numL_at {l : List Int} (hn : l.Nodup) {i : Nat} (hi : i < l.length) : numL l (l.getD i 0) = some i := by
  have hg : l.getD i 0 = l[i] := by rw [List.getD_eq_getElem?_getD, List.getElem?_eq_getElem hi]; rfl
  obtain ⟨j, h1, h2, h3⟩ := numL_some (l := l) (v := l.getD i 0) (by rw [hg]; exact List.getElem_mem hi)
  rw [h1]
  have hj : l.getD j 0 = l[j] := by rw [List.getD_eq_getElem?_getD, List.getElem?_eq_getElem h2]; rfl
  rw [hj, hg] at h3
  rw [(List.getElem_inj hn).mp h3]

/-- A list under a map that keeps its elements apart: the numbers are the same. -/
theorem numL_map {l : List Int} (φ : Int → Int) {v : Int} (hn : l.Nodup) (hm : (l.map φ).Nodup) (hv : v ∈ l) : numL (l.map φ) (φ v) = numL l v := by
  obtain ⟨i, h1, h2, h3⟩ := numL_some hv
  rw [h1]
  have e : (l.map φ).getD i 0 = φ v := by
    rw [List.getD_eq_getElem?_getD, List.getElem?_map]
    rw [List.getD_eq_getElem?_getD] at h3
    rw [List.getElem?_eq_getElem h2] at h3 ⊢
    simp only [Option.map_some, Option.getD_some] at h3 ⊢
    rw [h3]
  rw [← e]
  exact numL_at hm (by simpa using h2)
end Go.Proofs.Ytbhjmomphajnnaa

namespace Go.Proofs.Ytbhjmomphajnnaa
open Go.RowKit
set_option linter.unusedVariables false

def packO (x : Ob) : Int := 1 + 2 * (x.s + 16 * (x.m + 4096 * x.o))

def wordsO (x : Ob) : Nat := 2 + x.s.toNat

def totO : List Ob → Nat
  | [] => 0
  | x :: X => wordsO x + totO X

def ObOk (x : Ob) : Prop := HOk x.s x.m x.o x.h ∧ x.m ≤ 4095

/-- The place of the object of a number. -/
def placeAt (P : Nat) (X : List Ob) (i : Nat) : Nat := P + totO (X.take i)

theorem placeAt_zero (P : Nat) (X : List Ob) : placeAt P X 0 = P := by simp [placeAt, totO]

theorem placeAt_succ (P : Nat) (x : Ob) (X : List Ob) (i : Nat) : placeAt P (x :: X) (i + 1) = placeAt (P + wordsO x) X i := by simp [placeAt, totO]; omega

theorem totO_take_lt : ∀ (X : List Ob) (i : Nat) (hi : i < X.length), totO (X.take i) + wordsO X[i] ≤ totO X
  | x :: X, 0, _ => by simp [totO]
  | x :: X, i + 1, hi => by
    have := totO_take_lt X i (by simpa using hi)
    simp only [List.take_succ_cons, totO, List.getElem_cons_succ]
    omega

theorem placeAt_end (P : Nat) (X : List Ob) {i : Nat} (hi : i < X.length) : placeAt P X i + wordsO X[i] ≤ P + totO X := by
  have := totO_take_lt X i hi
  unfold placeAt; omega

theorem placeAt_step (P : Nat) (X : List Ob) {i : Nat} (hi : i < X.length) : placeAt P X (i + 1) = placeAt P X i + wordsO X[i] := by
  induction X generalizing P i with
  | nil => simp at hi
  | cons x X ih =>
    cases i with
    | zero => rw [placeAt_succ, placeAt_zero, placeAt_zero]; rfl
    | succ i => rw [placeAt_succ, placeAt_succ, ih (P + wordsO x) (by simpa using hi)]; rfl

theorem placeAt_lt (P : Nat) (X : List Ob) : ∀ (i j : Nat), i < j → j ≤ X.length → placeAt P X i + 2 ≤ placeAt P X j
  | i, 0, h, _ => by omega
  | i, j + 1, h, hj => by
    have hw : wordsO X[j] = 2 + X[j].s.toNat := rfl
    rw [placeAt_step P X (show j < X.length by omega)]
    rcases Nat.lt_succ_iff_lt_or_eq.mp h with h1 | h1
    · have := placeAt_lt P X i j h1 (by omega); omega
    · subst h1; omega

/-- The new places, in order. -/
def newPlaces (P : Nat) (X : List Ob) : List Int := (List.range X.length).map fun i => (placeAt P X i : Int)
end Go.Proofs.Ytbhjmomphajnnaa

namespace Go.Proofs.Ytbhjmomphajnnaa
open Go.RowKit
set_option linter.unusedVariables false

/-- Where the object of a place is now. -/
def goes (R Q : List Int) (p : Int) : Int := Q.getD ((numL R p).getD 0) 0

/-- What a field holds now. -/
def mapF (f : Nat → Int) (R Q : List Int) (x : Ob) (k : Nat) : Int :=
  if x.m / P2 (k : Int) % 2 = 1 ∧ ¬ f (x.at_.toNat + 2 + k) = 0 then goes R Q (f (x.at_.toNat + 2 + k) - 1) + 1 else f (x.at_.toNat + 2 + k)

theorem getD_get {R : List Int} {i : Nat} (hi : i < R.length) : R.getD i 0 = R[i] := by
  rw [List.getD_eq_getElem?_getD, List.getElem?_eq_getElem hi]; rfl

/-- What is known of an arena that is right. -/
structure Right (f : Nat → Int) (L : List Ob) : Prop where
  points : Points f L
  size : ∀ x ∈ L, 0 ≤ x.s
  ok : ∀ x ∈ L, ObOk x
  apart : ∀ x ∈ L, findO L x.at_ = some x

section

variable {f g : Nat → Int} {L : List Ob} {roots : List Int} {P : Nat}

end
end Go.Proofs.Ytbhjmomphajnnaa

namespace Go.Proofs.Ytbhjmomphajnnaa
open Go.RowKit
set_option linter.unusedVariables false

/-- Two fields are alike. -/
def FldAlike (R R' : List Int) (bit : Prop) (v w : Int) : Prop := (bit → ((v = 0 ↔ w = 0) ∧ (¬ v = 0 → numL R (v - 1) = numL R' (w - 1)))) ∧ (¬ bit → v = w)

/-- What is reached from both is alike. -/
structure AlikeO (f : Nat → Int) (L : List Ob) (ra : List Int) (g : Nat → Int) (L' : List Ob) (rb : List Int) : Prop where
  rlen : ra.length = rb.length
  len : (reachO f L ra).length = (reachO g L' rb).length
  obj : ∀ i, i < (reachO f L ra).length → ∃ x y, findO L ((reachO f L ra).getD i 0) = some x ∧ findO L' ((reachO g L' rb).getD i 0) = some y ∧ (x.s = y.s ∧ x.m = y.m ∧ x.o = y.o ∧ x.h = y.h) ∧
    ∀ k : Nat, k < x.s.toNat → FldAlike (reachO f L ra) (reachO g L' rb) (x.m / P2 (k : Int) % 2 = 1) (f (x.at_.toNat + 2 + k)) (g (y.at_.toNat + 2 + k))
  roots : ∀ i, i < ra.length → numL (reachO f L ra) (ra.getD i 0) = numL (reachO g L' rb) (rb.getD i 0)

section

variable {f g e : Nat → Int} {L L' L2 : List Ob} {ra rb rc : List Int}

theorem AlikeO.symm (h : AlikeO f L ra g L' rb) : AlikeO g L' rb f L ra := by
  refine ⟨h.rlen.symm, h.len.symm, fun i hi => ?_, fun i hi => (h.roots i (by rw [h.rlen]; exact hi)).symm⟩
  obtain ⟨x, y, h1, h2, ⟨a1, a2, a3, a4⟩, h4⟩ := h.obj i (by rw [h.len]; exact hi)
  refine ⟨y, x, h2, h1, ⟨a1.symm, a2.symm, a3.symm, a4.symm⟩, fun k hk => ?_⟩
  obtain ⟨b1, b2⟩ := h4 k (by rw [a1]; exact hk)
  rw [← a2]
  exact ⟨fun hb => ⟨(b1 hb).1.symm, fun hw => ((b1 hb).2 (fun hv => hw ((b1 hb).1.1 hv))).symm⟩, fun hb => (b2 hb).symm⟩

theorem AlikeO.trans (h : AlikeO f L ra g L' rb) (k : AlikeO g L' rb e L2 rc) : AlikeO f L ra e L2 rc := by
  refine ⟨h.rlen.trans k.rlen, h.len.trans k.len, fun i hi => ?_, fun i hi => (h.roots i hi).trans (k.roots i (by rw [← h.rlen]; exact hi))⟩
  obtain ⟨x, y, h1, h2, ⟨a1, a2, a3, a4⟩, h4⟩ := h.obj i hi
  obtain ⟨y', z, k1, k2, ⟨c1, c2, c3, c4⟩, k4⟩ := k.obj i (by rw [← h.len]; exact hi)
  rw [h2] at k1
  obtain rfl := Option.some.inj k1
  refine ⟨x, z, h1, k2, ⟨a1.trans c1, a2.trans c2, a3.trans c3, a4.trans c4⟩, fun q hq => ?_⟩
  obtain ⟨b1, b2⟩ := h4 q hq
  obtain ⟨d1, d2⟩ := k4 q (by rw [← a1]; exact hq)
  rw [← a2] at d1 d2
  exact ⟨fun hb => ⟨(b1 hb).1.trans (d1 hb).1, fun hv => ((b1 hb).2 hv).trans ((d1 hb).2 (fun hw => hv ((b1 hb).1.2 hw)))⟩, fun hb => (b2 hb).trans (d2 hb)⟩

theorem AlikeO.refl (hr : Right f L) (hroots : ∀ p ∈ ra, p ∈ placesO L) : AlikeO f L ra f L ra := by
  refine ⟨rfl, rfl, fun i hi => ?_, fun _ _ => rfl⟩
  have hm : (reachO f L ra).getD i 0 ∈ reachO f L ra := by rw [getD_get hi]; exact List.getElem_mem hi
  obtain ⟨x, hx⟩ := mem_placesO.1 (reachO_sub hr.points hr.size hroots _ hm)
  exact ⟨x, x, hx, hx, ⟨rfl, rfl, rfl, rfl⟩, fun k _ => ⟨fun _ => ⟨Iff.rfl, fun _ => rfl⟩, fun _ => rfl⟩⟩

end

section

variable {f g : Nat → Int} {L : List Ob} {roots : List Int} {P : Nat}

end
end Go.Proofs.Ytbhjmomphajnnaa

namespace Go.Proofs.Ytbhjmomphajnnaa
open Go.RowKit
set_option linter.unusedVariables false

/-- A list as a row's numbers. -/
def lf (l : List Int) : Nat → Int := fun i => l.getD i 0

theorem lf_at {l : List Int} {i : Nat} (h : i < l.length) : lf l i = l[i] := getD_get h

theorem lf_mem {l : List Int} {i : Nat} (h : i < l.length) : lf l i ∈ l := by rw [lf_at h]; exact List.getElem_mem h

theorem nums_lf (l : List Int) : nums l.length (lf l) = l.map (fun x => Value.int .i64 x) := by
  apply List.ext_getElem?
  intro i
  by_cases hi : i < l.length
  · rw [nums_get _ _ _ hi, lf_at hi]; simp [hi]
  · rw [List.getElem?_eq_none (by rw [nums_length]; omega), List.getElem?_eq_none (by simp; omega)]

theorem nums_snoc (l : List Int) (x : Int) : nums l.length (lf l) ++ [Value.int .i64 x] = nums (l.length + 1) (lf (l ++ [x])) := by
  have h := nums_lf (l ++ [x])
  rw [show (l ++ [x]).length = l.length + 1 by simp] at h
  rw [h, nums_lf]; simp

/-- Where an object's pointers lead, from a field on. -/
def ptrsF (f : Nat → Int) (x : Ob) (k : Nat) : List Int := ((List.range x.s.toNat).drop k).filterMap fun (k : Nat) => if x.m / P2 (k : Int) % 2 = 1 ∧ ¬ f (x.at_.toNat + 2 + k) = 0 then some (f (x.at_.toNat + 2 + k) - 1) else none

def add1 (O : List Int) (p : Int) : List Int := if p ∈ O then O else O ++ [p]

/-- The scan: the places from i on are still to be looked at. -/
structure SC (f : Nat → Int) (L : List Ob) (roots : List Int) (i : Nat) (O : List Int) : Prop where
  nd : O.Nodup
  sub : ∀ p ∈ O, p ∈ placesO L
  le : i ≤ O.length
  all : reachO f L roots = scanF (succO f L) (L.length - i) i O

/-- The scan within an object. -/
structure SI (f : Nat → Int) (L : List Ob) (roots : List Int) (i k : Nat) (x : Ob) (O : List Int) : Prop where
  nd : O.Nodup
  sub : ∀ p ∈ O, p ∈ placesO L
  lt : i < O.length
  at_ : findO L (lf O i) = some x
  all : reachO f L roots = scanF (succO f L) (L.length - (i + 1)) (i + 1) (addNew O (ptrsF f x k))

section

variable {f : Nat → Int} {L : List Ob} {roots O : List Int} {i k : Nat} {x : Ob}

theorem SC.len (h : SC f L roots i O) : O.length ≤ L.length := by have := nodup_length h.nd h.sub; simpa [placesO] using this

theorem SI.len (h : SI f L roots i k x O) : O.length ≤ L.length := by have := nodup_length h.nd h.sub; simpa [placesO] using this

end

/-- A table: the i-th of a list has the i-th value. -/
def tab (R : List Int) (v : Nat → Int) (p : Int) : Option Int := (numL R p).map v

theorem tab_nil (v : Nat → Int) (p : Int) : tab [] v p = none := rfl

theorem numL_snoc {R : List Int} {p : Int} (h : p ∉ R) (q : Int) : numL (R ++ [p]) q = if q = p then some R.length else numL R q := by
  unfold numL
  rw [List.findIdx?_append]
  by_cases e : q = p
  · subst e
    rw [if_pos rfl, show R.findIdx? (· == q) = none from numL_none.2 h]
    simp
  · rw [if_neg e]
    have : ([p] : List Int).findIdx? (· == q) = none := by simp [List.findIdx?_cons]; intro h; exact e h.symm
    rw [this]
    cases R.findIdx? (· == q) <;> rfl

theorem tab_snoc {R : List Int} {p : Int} (h : p ∉ R) (v : Nat → Int) (q : Int) : tab (R ++ [p]) v q = if q = p then some (v R.length) else tab R v q := by
  unfold tab
  rw [numL_snoc h]
  split <;> rfl
end Go.Proofs.Ytbhjmomphajnnaa

namespace Go.Proofs.Ytbhjmomphajnnaa
open Go.RowKit
set_option linter.unusedVariables false

theorem news1 (w : World) (x : Int) : ∀ (j : Nat) (u : Value), ([.int .i64 x] : List Value)[j]? = some u → (w.alloc (.cells #[.int .i64 x] 2)).cell? ((⟨w.heap.size, 0, none⟩ : Addr).add j) = some u := fun j u hu => by
  match j, hu with
  | 0, hu => exact (Blk.new w #[.int .i64 x] 2).at 0 hu
  | j + 1, hu => simp at hu

/-- The number as the model tells it. -/
def numI (l : List Int) (v : Int) : Int := match numL l v with | some i => (i : Int) | none => -1
end Go.Proofs.Ytbhjmomphajnnaa

namespace Go.Proofs.Ytbhjmomphajnnaa
open Go.RowKit
set_option linter.unusedVariables false

/-- The objects of a list in memory, as the model walks need them. -/
structure OMS (w : World) (base lo : Nat) (f : Nat → Int) (v : Value) (M : List OM) : Prop where
  row : w.ownsRow base 111 6 v M.length (rowCells M)
  fl : Flds w lo f v M
  len : M.length ≤ 400
  ok : ∀ t ∈ M, (0 ≤ t.x.s ∧ t.x.s ≤ 12) ∧ (0 ≤ t.x.m ∧ t.x.m ≤ 4095) ∧ (0 ≤ t.x.at_ ∧ t.x.at_ ≤ 1000000) ∧ ∀ k, k < t.x.s.toNat → -1000000000 ≤ f (t.x.at_.toNat + 2 + k) ∧ f (t.x.at_.toNat + 2 + k) ≤ 1000000000

theorem OMS.below {w w' : World} {base lo : Nat} {f : Nat → Int} {v : Value} {M : List OM} (h : OMS w base lo f v M) (hb : Below w.heap.size w w') : OMS w' base lo f v M := ⟨ownsRow_below h.row hb, h.fl.below hb, h.len, h.ok⟩

theorem OMS.size {w : World} {base lo : Nat} {f : Nat → Int} {v : Value} {M : List OM} (h : OMS w base lo f v M) : ∀ x ∈ M.map OM.x, 0 ≤ x.s := fun x hx => by
  obtain ⟨t, ht, rfl⟩ := List.mem_map.mp hx
  exact (h.ok t ht).1.1

theorem OMS.place {w : World} {base lo : Nat} {f : Nat → Int} {v : Value} {M : List OM} (h : OMS w base lo f v M) : ∀ p ∈ placesO (M.map OM.x), 0 ≤ p ∧ p ≤ 1000000 := fun p hp => by
  obtain ⟨y, hy, rfl⟩ := List.mem_map.mp hp
  obtain ⟨t, ht, rfl⟩ := List.mem_map.mp hy
  exact (h.ok t ht).2.2.1
end Go.Proofs.Ytbhjmomphajnnaa

namespace Go.Proofs.Ytbhjmomphajnnaa
open Go.RowKit
set_option linter.unusedVariables false

theorem OMS.lo {w : World} {base lo base' lo' : Nat} {f : Nat → Int} {v : Value} {M : List OM} (h : OMS w base lo f v M) (h1 : base' ≤ base) (h2 : lo' ≤ lo) : OMS w base' lo' f v M := by
  refine ⟨?_, ⟨fun t ht => ?_, h.fl.2⟩, h.len, h.ok⟩
  · refine ⟨h.row.1, ?_⟩
    rcases h.row.2 with h0 | ⟨g, cap, cur, e1, e2, e3⟩
    · exact .inl h0
    · exact .inr ⟨g, cap, cur, e1, Nat.le_trans h1 e2, e3⟩
  · obtain ⟨e1, e2⟩ := h.fl.1 t ht
    exact ⟨Nat.le_trans h2 e1, e2⟩
end Go.Proofs.Ytbhjmomphajnnaa

namespace Go.Proofs.Ytbhjmomphajnnaa
open Go.RowKit
set_option linter.unusedVariables false

theorem own_of_row' {w : World} {B e : Nat} {v : Value} {l : List Int} (h : w.ownsRow B e 1 v l.length (nums l.length (lf l))) : ∃ a c, v = .slice a l.length c ∧ Own w B a l.length (lf l) := by
  obtain ⟨a, c, rfl, _⟩ := row_shape h
  exact ⟨a, c, rfl, own_of_row h⟩
end Go.Proofs.Ytbhjmomphajnnaa

namespace Go.Proofs.Ytbhjmomphajnnaa
open Go.RowKit Go.Maps
set_option linter.unusedVariables false

theorem Try.underlyingMap : Try.prog.underlying 99 = some (.map 2 2) := by kernel_rfl

theorem Try.underlyingI : Try.prog.underlying 2 = some (.int .i64) := by kernel_rfl

theorem keyI : Keyed Try.prog 2 := int_keyed Try.underlyingI

theorem zeroI (w : World) : (zeroValue 2).run Try.prog w = .ok (.int .i64 0) w := by kernel_rfl

theorem wfI {p : Int} (h : -1000000000 ≤ p ∧ p ≤ 1000000000) : (Lit.int .i64 p).wf = true := WalkArith.wf_i64 (by omega)

/-- A block is a map in which the i-th of a list has the i-th value, and nothing else is there. -/
def MapT (w : World) (b n : Nat) (R : List Int) (v : Nat → Int) : Prop :=
  ∃ D : DataW Unit, w.ownsMap Try.prog 2 (plainElem Try.prog 2) b n D ∧ ∀ p, (Lit.int .i64 p).wf = true → Maps.has D (.int .i64 p) = decide (p ∈ R) ∧ D.atKey (.int .i64 p) (.lit (.int .i64 0)) = .lit (.int .i64 ((tab R v p).getD 0))

section

variable {w : World} {b n : Nat} {R : List Int} {v : Nat → Int} {p : Int}

theorem MapT.lt (h : MapT w b n R v) : b < w.heap.size := by obtain ⟨D, h1, _⟩ := h; exact h1.lt

theorem MapT.block {w' : World} (h : MapT w b n R v) (hb : w'.heap[b]? = w.heap[b]?) : MapT w' b n R v := by
  obtain ⟨D, ⟨es, clock, h1, h2⟩, h3⟩ := h
  exact ⟨D, ⟨es, clock, hb.trans h1, h2⟩, h3⟩

theorem MapT.below {w' : World} (h : MapT w b n R v) (hb : Below w.heap.size w w') : MapT w' b n R v := h.block (hb.block b h.lt)

theorem MapT.alloc (h : MapT w b n R v) (o : Obj) : MapT (w.alloc o) b n R v := h.below ((Below.refl _ _).alloc (Nat.le_refl _) o)

theorem MapT.drew (h : MapT w b n R v) : MapT w.drew b n R v := h.below (Below.refl _ _).drew

theorem MapT.drewN (h : MapT w b n R v) (q : Nat) : MapT (w.drewN q) b n R v := h.below (drewN_below w q)

theorem MapT.grown {w' : World} {row : Option Nat} (h : MapT w b n R v) (hg : w.grownBy w' row) (hne : row ≠ some b) : MapT w' b n R v := h.block (hg.block b h.lt (fun e => hne e.symm))

theorem MapT.set (h : MapT w b n R v) {p : Addr} (hp : b ≠ p.block) (u : Value) : MapT (w.setCell p u) b n R v := h.block (Below.heap_setCell _ _ _ b hp)

theorem MapT.made (w : World) (v : Nat → Int) : MapT (w.alloc (.map #[] 0)) w.heap.size 0 [] v := ⟨.map [], World.ownsMap_made _ _ _ _, fun p _ => ⟨by simp [Maps.has_eq], by simp [tab_nil]; rfl⟩⟩

theorem MapT.look (h : MapT w b n R v) (hp : -1000000000 ≤ p ∧ p ≤ 1000000000) : (Instr.lookup 99 (.map (some b)) (.int .i64 p) false).run Try.prog w = .ok (.int .i64 ((tab R v p).getD 0)) w := by
  obtain ⟨D, h1, h2⟩ := h
  obtain ⟨c, hr, hc, _⟩ := h1.lookup_int keyI Try.underlyingMap Try.underlyingI (zeroI w) (keyOf_int_mk Try.underlyingI (wfI hp))
  obtain ⟨h3, h4⟩ := h2 p (wfI hp)
  rw [h4] at hc
  have : (tab R v p).getD 0 = c := by simpa using hc
  rw [hr, this]

theorem MapT.update (h : MapT w b n R v) (hn : n < maxLen) (hp : -1000000000 ≤ p ∧ p ≤ 1000000000) (hv : -1000000000 ≤ v R.length ∧ v R.length ≤ 1000000000) (hq : p ∉ R) : ∃ w', (Instr.mapUpdate 99 (.map (some b)) (.int .i64 p) (.int .i64 (v R.length))).run Try.prog w = .ok () w' ∧ MapT w' b (n + 1) (R ++ [p]) v ∧ w.grownBy w' (some b) := by
  obtain ⟨D, h1, h2⟩ := h
  obtain ⟨w', hr, h3, h4⟩ := h1.update keyI Try.underlyingMap hn (keyOf_int_mk Try.underlyingI (wfI hp)) (plainElem_int Try.underlyingI (wfI hv))
  refine ⟨w', hr, ⟨_, h3, fun q hwq => ?_⟩, h4⟩
  have hk : WideAt.IsKeyLit (Lit.int .i64 p) := by trivial
  by_cases e : q = p
  · subst e
    refine ⟨by rw [Maps.has_put_same h1.isMap hk]; simp, ?_⟩
    rw [Maps.atKey_put_same h1.isMap hk, tab_snoc hq, if_pos rfl]; rfl
  · have hne : Lit.int .i64 q ≠ Lit.int .i64 p := fun h => e (by simpa using h)
    refine ⟨by rw [Maps.has_put_other hne, (h2 q hwq).1]; simp [e], ?_⟩
    rw [Maps.atKey_put_other hne, (h2 q hwq).2, tab_snoc hq, if_neg e]

end

/-- A row of objects is read. -/
theorem rowG_GV {w : World} {base : Nat} {v : Value} {M : List GM} (h : w.ownsRow base 111 6 v M.length (rowG M)) (hf : ∀ t ∈ M, Src w t.a t.n t.f) : ∃ a c, v = .slice a M.length c ∧ GV w a M.length (gT M) := by
  rcases Nat.eq_zero_or_pos M.length with h0 | hp
  · rcases h.2 with ⟨h1, h2⟩ | ⟨g, cap, cur, h1, _⟩
    · exact ⟨none, 0, by rw [h1, h2], .inl h0⟩
    · exact ⟨_, _, h1, .inl h0⟩
  · obtain ⟨g, cap, rfl, hb, hlt⟩ := h.form hp
    have hce : ∀ i t, M[i]? = some t → ∀ j u, (gcells t)[j]? = some u → w.cell? ⟨g, i * 6 + j, none⟩ = some u := fun i t ht j u hu => by
      have hi : i < M.length := (List.getElem?_eq_some_iff.mp ht).1
      have hj : j < 6 := by
        have := (List.getElem?_eq_some_iff.mp hu).1
        simpa [gcells] using this
      have hc := h.cellAt (i * 6 + j) (by omega)
      rw [rowG_get M i t ht j hj, hu] at hc
      simpa using hc
    refine ⟨_, _, rfl, .inr ⟨g, 0, rfl, hlt, fun i hi => ?_, fun i hi => ?_⟩⟩
    · have ht := List.getElem?_eq_getElem hi
      rw [gT_at ht, Nat.zero_add]
      exact ⟨hce i _ ht 0 _ rfl, hce i _ ht 1 _ rfl, hce i _ ht 2 _ rfl, hce i _ ht 3 _ rfl, hce i _ ht 4 _ rfl, hce i _ ht 5 _ rfl⟩
    · rw [gT_at (List.getElem?_eq_getElem hi)]
      exact hf _ (List.getElem_mem hi)
end Go.Proofs.Ytbhjmomphajnnaa

namespace Go.Proofs.Ytbhjmomphajnnaa
open Go.RowKit Go.Maps
set_option linter.unusedVariables false

/-- What is reached so far, as the program has it: in the block rb, with the map mb and the row v. -/
structure RS (w : World) (base rb mb : Nat) (v : Value) (M : List GM) (f : Nat → Int) (L : List Ob) (O : List Int) : Prop where
  blk : Blk w rb [.int .i64 0, v, .map (some mb)]
  hrb : base ≤ rb
  hmb : base ≤ mb
  hne : mb ≠ rb
  vr : v.ownBlock ≠ some rb
  vm : v.ownBlock ≠ some mb
  row : w.ownsRow base 111 6 v M.length (rowG M)
  map : MapT w mb O.length O (fun i => (i : Int))
  len : M.length = O.length
  src : ∀ t ∈ M, Src w t.a t.n t.f ∧ (t.n = 0 ∨ t.g + 1 < base)
  same : ∀ i t, M[i]? = some t → ∃ x, findO L (lf O i) = some x ∧ GSame t (obG f x)

section

variable {w w' : World} {base rb mb : Nat} {v : Value} {M : List GM} {f : Nat → Int} {L : List Ob} {O : List Int}

theorem RS.below (h : RS w base rb mb v M f L O) (hb : Below w.heap.size w w') : RS w' base rb mb v M f L O :=
  ⟨h.blk.below hb, h.hrb, h.hmb, h.hne, h.vr, h.vm, ownsRow_below h.row hb, h.map.below hb, h.len, fun t ht => ⟨(h.src t ht).1.below hb, (h.src t ht).2⟩, h.same⟩

theorem RS.set (h : RS w base rb mb v M f L O) {p : Addr} (hp : p.block + 1 = base) (u : Value) : RS (w.setCell p u) base rb mb v M f L O := by
  have h1 := h.hrb; have h2 := h.hmb
  refine ⟨h.blk.other (by omega) _, h.hrb, h.hmb, h.hne, h.vr, h.vm, row_set h.row (by omega) _, h.map.set (by omega) _, h.len, fun t ht => ⟨?_, (h.src t ht).2⟩, h.same⟩
  obtain ⟨h3, h4⟩ := h.src t ht
  rcases h3 with h0 | ⟨b, o, e1, h5, h6⟩
  · exact .inl h0
  · rcases h4 with h0 | h4
    · exact .inl h0
    · have : t.g = b := (by simp [GM.g, e1])
      exact .inr ⟨b, o, e1, by simpa using h5, fun i hi => (World.cell?_of_block (w := w) (a := ⟨b, o + i, none⟩) (Below.heap_setCell _ _ _ b (by omega))).trans (h6 i hi)⟩

theorem RS.out (h : RS w base rb mb v M f L O) : ∃ a c, v = .slice a M.length c ∧ GV w a M.length (gT M) := rowG_GV h.row (fun t ht => (h.src t ht).1)

end
end Go.Proofs.Ytbhjmomphajnnaa

namespace Go.Proofs.Ytbhjmomphajnnaa
open Go.RowKit Go.Maps
set_option linter.unusedVariables false

/-- What is known of the objects of an arena without a fault, as the program reads them. -/
structure Shaped (w : World) (a : Option Addr) (T : Nat → GM) (f : Nat → Int) (L : List Ob) : Prop where
  gv : GV w a L.length T
  same : ∀ i, i < L.length → GSame (T i) (obT f L i)
  sort : ∀ i j, i < j → j < L.length → (T i).at_ < (T j).at_
  right : Right f L
  len : L.length ≤ 400
  place : ∀ x ∈ L, 0 ≤ x.at_ ∧ x.at_ ≤ 1000000
  word : ∀ x ∈ L, ∀ k, k < x.s.toNat → -1000000000 ≤ f (x.at_.toNat + 2 + k) ∧ f (x.at_.toNat + 2 + k) ≤ 1000000000

section

variable {w w' : World} {a : Option Addr} {T : Nat → GM} {f : Nat → Int} {L : List Ob}

theorem Shaped.below (h : Shaped w a T f L) (hb : Below w.heap.size w w') : Shaped w' a T f L := ⟨h.gv.below hb, h.same, h.sort, h.right, h.len, h.place, h.word⟩

theorem Shaped.src (h : Shaped w a T f L) {i : Nat} (hi : i < L.length) : Src w (T i).a (T i).n (T i).f := by
  rcases h.gv with h0 | ⟨b, q, _, g⟩
  · omega
  · exact g.flds i hi

end

/-- The program's scan: at a field of an object, or at the end. -/
def ST (f : Nat → Int) (L : List Ob) (roots : List Int) (n i : Nat) (O : List Int) : Prop := (n = O.length ∧ i = 0 ∧ SC f L roots n O) ∨ ∃ x, i ≤ x.s.toNat ∧ SI f L roots n i x O

theorem ST.len {f : Nat → Int} {L : List Ob} {roots O : List Int} {n i : Nat} (h : ST f L roots n i O) : O.length ≤ L.length := by
  rcases h with ⟨_, _, h⟩ | ⟨_, _, h⟩
  · exact h.len
  · exact h.len
end Go.Proofs.Ytbhjmomphajnnaa

namespace Go.Proofs.Ytbhjmomphajnnaa
open Go.RowKit Go.Maps
set_option linter.unusedVariables false

/-- A block that holds no more than a code, an empty row and no map. -/
def Dead (w : World) (R : Nat) : Prop := ∃ t fr, w.heap[R]? = some (.cells #[.int .i64 0, .slice none 0 0, .map none] t fr)

theorem Dead.below {w w' : World} {R : Nat} (h : Dead w R) (hb : Below w.heap.size w w') : Dead w' R := by
  obtain ⟨t, fr, h1⟩ := h
  exact ⟨t, fr, (hb.block R (Array.getElem?_eq_some_iff.1 h1).1).trans h1⟩
end Go.Proofs.Ytbhjmomphajnnaa

namespace Go.Proofs.Ytbhjmomphajnnaa
open Go.RowKit Go.Maps
set_option linter.unusedVariables false

theorem news1b (w : World) (x : Int) (B : Nat) (hB : B = w.heap.size) : ∀ (j : Nat) (u : Value), ([.int .i64 x] : List Value)[j]? = some u → (w.alloc (.cells #[.int .i64 x] 2)).cell? ((⟨B, 0, none⟩ : Addr).add j) = some u := hB ▸ news1 w x

theorem nums_succ (n : Nat) (f : Nat → Int) : nums (n + 1) f = nums n f ++ [.int .i64 (f n)] := by simp [nums, List.range_succ]
end Go.Proofs.Ytbhjmomphajnnaa

namespace Go.Proofs.Ytbhjmomphajnnaa
open Go.RowKit Go.Maps
set_option linter.unusedVariables false

/-- What the closure reads. -/
structure Cap (w : World) (rb mb nn : Nat) (v : Value) (O : List Int) : Prop where
  blk : Blk w rb [.int .i64 0, v, .map (some mb)]
  map : MapT w mb nn O (fun i => (i : Int))

theorem Cap.below {w w' : World} {rb mb nn : Nat} {v : Value} {O : List Int} (h : Cap w rb mb nn v O) (hb : Below w.heap.size w w') : Cap w' rb mb nn v O := ⟨h.blk.below hb, h.map.below hb⟩
end Go.Proofs.Ytbhjmomphajnnaa

namespace Go.Proofs.Ytbhjmomphajnnaa
open Go.RowKit Go.Maps
set_option linter.unusedVariables false

/-- A row of objects that may be written. -/
structure RW (w : World) (b q N : Nat) (V : Nat → GM) : Prop where
  lt : b < w.heap.size
  six : ∀ k, k < N → SixG w b (q + k * 6) (V k)
  free : ∀ k, k < N → SixF w b (q + k * 6)
  flds : ∀ k, k < N → Src w (V k).a (V k).n (V k).f
  off : ∀ k, k < N → (V k).n = 0 ∨ (V k).g ≠ b

theorem RW.below {w w' : World} {b q N : Nat} {V : Nat → GM} (h : RW w b q N V) (hb : Below w.heap.size w w') : RW w' b q N V :=
  ⟨Nat.lt_of_lt_of_le h.lt hb.size, fun k hk => (h.six k hk).below hb h.lt, fun k hk => (h.free k hk).below hb h.lt, fun k hk => (h.flds k hk).below hb, h.off⟩

theorem src_six {w : World} {b o : Nat} {t u : GM} (h : Src w u.a u.n u.f) (hb : u.n = 0 ∨ u.g ≠ b) : Src (sixW w b o t) u.a u.n u.f := by
  rcases h with h0 | ⟨b', o', e, h1, h2⟩
  · exact .inl h0
  · rcases hb with h0 | hb
    · exact .inl h0
    · have hg : u.g = b' := by simp [GM.g, e]
      have hk := (sixW_keeps w b o t).block b' h1 (by omega)
      exact .inr ⟨b', o', e, Nat.lt_of_lt_of_le h1 (sixW_keeps w b o t).size, fun i hi => (World.cell?_of_block (w := w) (a := ⟨b', o' + i, none⟩) hk).trans (h2 i hi)⟩

theorem sixF_six {w : World} {b o o' : Nat} {t : GM} (h : SixF w b o) : SixF (sixW w b o' t) b o :=
  ⟨(sixW_frozen _ _ _ _ _).trans h.1, (sixW_frozen _ _ _ _ _).trans h.2.1, (sixW_frozen _ _ _ _ _).trans h.2.2.1, (sixW_frozen _ _ _ _ _).trans h.2.2.2.1, (sixW_frozen _ _ _ _ _).trans h.2.2.2.2.1, (sixW_frozen _ _ _ _ _).trans h.2.2.2.2.2⟩

theorem RW.set {w : World} {b q N i : Nat} {V : Nat → GM} {t : GM} (h : RW w b q N V) (hi : i < N) (hs : Src w t.a t.n t.f) (ho : t.n = 0 ∨ t.g ≠ b) : RW (sixW w b (q + i * 6) t) b q N (fun k => if k = i then t else V k) := by
  refine ⟨Nat.lt_of_lt_of_le h.lt (sixW_keeps w b _ t).size, fun k hk => ?_, fun k hk => sixF_six (h.free k hk), fun k hk => ?_, fun k hk => ?_⟩
  · by_cases e : k = i
    · subst e; rw [if_pos rfl]; exact sixW_at (h.six k hk) t
    · rw [if_neg e]; exact sixW_other (h.six k hk) (by omega) t
  · by_cases e : k = i
    · rw [if_pos e]; exact src_six hs ho
    · rw [if_neg e]; exact src_six (h.flds k hk) (h.off k hk)
  · by_cases e : k = i
    · rw [if_pos e]; exact ho
    · rw [if_neg e]; exact h.off k hk

def ki (T : Nat → GM) (O : List Int) (j : Nat) : List Nat := (List.range j).filter (fun k => decide ((T k).at_ ∉ O))

theorem ki_succ (T : Nat → GM) (O : List Int) (j : Nat) : ki T O (j + 1) = if (T j).at_ ∉ O then ki T O j ++ [j] else ki T O j := by
  unfold ki
  rw [List.range_succ, List.filter_append]
  by_cases h : (T j).at_ ∉ O
  · rw [if_pos h]; simp [h]
  · rw [if_neg h]; simp [h]

/-- What the row is like when the objects ahead of j have been looked at. -/
def KI (T : Nat → GM) (O : List Int) (N i j : Nat) (V : Nat → GM) : Prop := i = (ki T O j).length ∧ (∀ k (hk : k < (ki T O j).length), V k = T (ki T O j)[k]) ∧ ∀ k, j ≤ k → k < N → V k = T k

theorem KI.skip {T : Nat → GM} {O : List Int} {N i j : Nat} {V : Nat → GM} (h : KI T O N i j V) (hj : (T j).at_ ∈ O) : KI T O N i (j + 1) V := by
  have e : ki T O (j + 1) = ki T O j := by rw [ki_succ, if_neg (fun hn => hn hj)]
  refine ⟨by rw [e]; exact h.1, fun k hk => ?_, fun k hk => h.2.2 k (by omega)⟩
  have hk' : k < (ki T O j).length := by rw [e] at hk; exact hk
  rw [h.2.1 k hk']
  simp only [e]
end Go.Proofs.Ytbhjmomphajnnaa

namespace Go.Proofs.Ytbhjmomphajnnaa
open Go.RowKit Go.Maps
set_option linter.unusedVariables false

theorem RW.has {w : World} {b q N : Nat} {V : Nat → GM} (h : RW w b q N V) (o : Nat) (ho : o < N * 6) : (w.cell? ⟨b, q + o, none⟩).isSome = true ∧ w.frozen? ⟨b, q + o, none⟩ = false := by
  obtain ⟨k, r, hr, e⟩ : ∃ k r, r < 6 ∧ o = k * 6 + r := ⟨o / 6, o % 6, Nat.mod_lt _ (by omega), by omega⟩
  subst e
  have hk : k < N := by omega
  obtain ⟨x0, x1, x2, x3, x4, x5⟩ := h.six k hk
  obtain ⟨g0, g1, g2, g3, g4, g5⟩ := h.free k hk
  rw [← Nat.add_assoc]
  match r, hr with
  | 0, _ => exact ⟨by rw [Nat.add_zero, x0]; rfl, g0⟩
  | 1, _ => exact ⟨by rw [x1]; rfl, g1⟩
  | 2, _ => exact ⟨by rw [x2]; rfl, g2⟩
  | 3, _ => exact ⟨by rw [x3]; rfl, g3⟩
  | 4, _ => exact ⟨by rw [x4]; rfl, g4⟩
  | 5, _ => exact ⟨by rw [x5]; rfl, g5⟩
end Go.Proofs.Ytbhjmomphajnnaa

namespace Go.Proofs.Ytbhjmomphajnnaa
open Go.RowKit Go.Maps
set_option linter.unusedVariables false

/-- What is carried through the draw: the source, the bytes, the arena, the answer's block, the arena's words, the roots. -/
structure DS (W w : World) (ca : Option Addr) (k kc : Nat) (B : Nat → Int) (t P : Nat) (h ac bu : Int) (a : Option Addr) (n c : Nat) (f : Nat → Int) (u : Value) (l : List Int) : Prop where
  bel : Below W.heap.size W w
  src : Blk w (W.heap.size + 1) [.slice ca k kc, .int .i64 (t : Int)]
  byt : SrcB w (W.heap.size + 1) ca k B
  arn : Blk w P [.int .i64 h, .slice a n c, .int .i64 ac, .int .i64 bu]
  res : Blk w W.heap.size [.int .i64 0, .slice none 0 0, .int .i64 0, .int .i64 0]
  wrd : OwnIn w (W.heap.size + 2) P a n f
  row : w.ownsRow (P + 1) 2 1 u l.length (nums l.length (lf l))
  hP : W.heap.size + 2 ≤ P

theorem DS.below {W w w' : World} {ca : Option Addr} {k kc t P : Nat} {B f : Nat → Int} {h ac bu : Int} {a : Option Addr} {n c : Nat} {u : Value} {l : List Int} (d : DS W w ca k kc B t P h ac bu a n c f u l) (hb : Below w.heap.size w w') : DS W w' ca k kc B t P h ac bu a n c f u l :=
  ⟨d.bel.trans (hb.mono d.bel.size), d.src.below hb, d.byt.below hb, d.arn.below hb, d.res.below hb, d.wrd.below hb, ownsRow_below d.row hb, d.hP⟩
end Go.Proofs.Ytbhjmomphajnnaa

namespace Go.Proofs.Ytbhjmomphajnnaa
open Go.RowKit Go.Maps
set_option linter.unusedVariables false

/-- What the law of what is reached has at hand. -/
structure LR (W w : World) (P P5 P6 P7 : Nat) (h ac bu : Int) (a : Option Addr) (n c : Nat) (f : Nat → Int) (ra : Option Addr) (l : List Int) (co : Int) (R : List Int) (ua : Option Addr) (uc : Nat) (G : List Int) (ga : Option Addr) (gc : Nat) (wv : Int) : Prop where
  bel : Below W.heap.size W w
  arn : Blk w P [.int .i64 h, .slice a n c, .int .i64 ac, .int .i64 bu]
  wrd : Src w a n f
  rts : Src w ra l.length (lf l)
  rb : Blk w P5 [.int .i64 co, .slice ua R.length uc]
  rl : Src w ua R.length (lf R)
  gb : Blk w P6 [.int .i64 co, .slice ga G.length gc]
  gl : Src w ga G.length (lf G)
  wb : Blk w P7 [.int .i64 co, .int .i64 wv]

section

variable {W w w' : World} {P P5 P6 P7 : Nat} {h ac bu : Int} {a : Option Addr} {n c : Nat} {f : Nat → Int} {ra : Option Addr} {l : List Int} {co : Int} {R : List Int} {ua : Option Addr} {uc : Nat} {G : List Int} {ga : Option Addr} {gc : Nat} {wv : Int}

theorem LR.below (d : LR W w P P5 P6 P7 h ac bu a n c f ra l co R ua uc G ga gc wv) (hb : Below w.heap.size w w') : LR W w' P P5 P6 P7 h ac bu a n c f ra l co R ua uc G ga gc wv :=
  ⟨d.bel.trans (hb.mono d.bel.size), d.arn.below hb, d.wrd.below hb, d.rts.below hb, d.rb.below hb, d.rl.below hb, d.gb.below hb, d.gl.below hb, d.wb.below hb⟩

theorem LR.drew (d : LR W w P P5 P6 P7 h ac bu a n c f ra l co R ua uc G ga gc wv) : LR W w.drew P P5 P6 P7 h ac bu a n c f ra l co R ua uc G ga gc wv := d.below (Below.refl _ _).drew

end
end Go.Proofs.Ytbhjmomphajnnaa

namespace Go.Proofs.Ytbhjmomphajnnaa
open Go.RowKit
set_option linter.unusedVariables false

/-- The word of number d of an object, behind a collection. -/
def colAt (f : Nat → Int) (R : List Int) (P : Nat) (X : List Ob) (x : Ob) (d : Nat) : Int := if d = 0 then packO x else if d = 1 then x.h else mapF f R (newPlaces P X) x (d - 2)

/-- The words of a set are so; beside the objects there is nothing. -/
structure ColOn (f : Nat → Int) (R : List Int) (P : Nat) (X : List Ob) (D : Nat → Nat → Prop) (g : Nat → Int) : Prop where
  on : ∀ j (hj : j < X.length) d, D j d → d < wordsO X[j] → g (placeAt P X j + d) = colAt f R P X X[j] d
  rest : ∀ i, ¬ (P ≤ i ∧ i < P + totO X) → g i = 0

theorem placeAt_mono (P : Nat) (X : List Ob) {i j : Nat} (h : i ≤ j) (hj : j ≤ X.length) : placeAt P X i ≤ placeAt P X j := by
  rcases Nat.lt_or_eq_of_le h with h1 | rfl
  · have := placeAt_lt P X i j h1 hj; omega
  · exact Nat.le_refl _

theorem placeAt_next (P : Nat) (X : List Ob) {i j : Nat} (h : i < j) (hj : j < X.length) : placeAt P X i + wordsO (X[i]'(by omega)) ≤ placeAt P X j := by
  rw [← placeAt_step P X (show i < X.length by omega)]
  exact placeAt_mono P X h (by omega)

theorem place_apart {P : Nat} {X : List Ob} {i j d e : Nat} (hi : i < X.length) (hj : j < X.length) (hd : d < wordsO X[i]) (he : e < wordsO X[j]) (h : placeAt P X i + d = placeAt P X j + e) : i = j ∧ d = e := by
  rcases Nat.lt_trichotomy i j with h1 | rfl | h1
  · have := placeAt_next P X h1 hj; omega
  · exact ⟨rfl, by omega⟩
  · have := placeAt_next P X h1 hi; omega

theorem placeAt_ge (P : Nat) (X : List Ob) (i : Nat) : P ≤ placeAt P X i := by unfold placeAt; omega

section

variable {f g : Nat → Int} {R : List Int} {P : Nat} {X : List Ob} {D E : Nat → Nat → Prop} {i d : Nat}

theorem ColOn.set (h : ColOn f R P X D g) (hi : i < X.length) (hd : d < wordsO X[i]) {v : Int} (hv : v = colAt f R P X X[i] d) : ColOn f R P X (fun j e => D j e ∨ (j = i ∧ e = d)) (upd g (placeAt P X i + d) v) := by
  refine ⟨fun j hj e h1 h2 => ?_, fun k hk => ?_⟩
  · unfold upd
    by_cases he : placeAt P X j + e = placeAt P X i + d
    · obtain ⟨rfl, rfl⟩ := place_apart hj hi h2 hd he
      rw [if_pos rfl, hv]
    · rw [if_neg he]
      rcases h1 with h1 | ⟨rfl, rfl⟩
      · exact h.on j hj e h1 h2
      · exact absurd rfl he
  · unfold upd
    have := placeAt_end P X hi
    have := placeAt_ge P X i
    rw [if_neg (by omega)]
    exact h.rest k hk

theorem ColOn.put (h : ColOn f R P X D g) (hi : i < X.length) (hd : d < wordsO X[i]) {K : Nat} (hK : K = placeAt P X i + d) {v : Int} (hv : v = colAt f R P X X[i] d) : ColOn f R P X (fun j e => D j e ∨ (j = i ∧ e = d)) (upd g K v) := by rw [hK]; exact h.set hi hd hv

end
end Go.Proofs.Ytbhjmomphajnnaa

namespace Go.Proofs.Ytbhjmomphajnnaa
open Go.RowKit
set_option linter.unusedVariables false

/-- A head lies amid a block. -/
structure HdAt (w : World) (d q : Nat) (s m o h : Int) : Prop where
  lt : d < w.heap.size
  c0 : w.cell? ⟨d, q, none⟩ = some (.int .i64 s)
  c1 : w.cell? ⟨d, q + 1, none⟩ = some (.int .i64 m)
  c2 : w.cell? ⟨d, q + 2, none⟩ = some (.int .i64 o)
  c3 : w.cell? ⟨d, q + 3, none⟩ = some (.int .i64 h)

theorem HdAt.block {w w' : World} {d q : Nat} {s m o h : Int} (x : HdAt w d q s m o h) (e : w'.heap[d]? = w.heap[d]?) (z : w.heap.size ≤ w'.heap.size) : HdAt w' d q s m o h :=
  ⟨Nat.lt_of_lt_of_le x.lt z, (World.cell?_of_block (a := ⟨d, q, none⟩) e).trans x.c0, (World.cell?_of_block (a := ⟨d, q + 1, none⟩) e).trans x.c1, (World.cell?_of_block (a := ⟨d, q + 2, none⟩) e).trans x.c2, (World.cell?_of_block (a := ⟨d, q + 3, none⟩) e).trans x.c3⟩

theorem HdAt.below {w w' : World} {d q : Nat} {s m o h : Int} (x : HdAt w d q s m o h) (hb : Below w.heap.size w w') : HdAt w' d q s m o h := x.block (hb.block d x.lt) hb.size

theorem HdAt.drew {w : World} {d q : Nat} {s m o h : Int} (x : HdAt w d q s m o h) : HdAt w.drew d q s m o h := x.below (Below.refl _ _).drew

theorem HdAt.alloc {w : World} {d q : Nat} {s m o h : Int} (x : HdAt w d q s m o h) (ob : Obj) : HdAt (w.alloc ob) d q s m o h := x.below ((Below.refl _ _).alloc (Nat.le_refl _) ob)

theorem HdAt.other {w : World} {d q : Nat} {s m o h : Int} (x : HdAt w d q s m o h) {p : Addr} (hp : p.block ≠ d) (u : Value) : HdAt (w.setCell p u) d q s m o h := x.block (Below.heap_setCell w p u d (fun e => hp e.symm)) (by simp)
end Go.Proofs.Ytbhjmomphajnnaa

namespace Go.Proofs.Ytbhjmomphajnnaa
open Go.RowKit Go.Maps
set_option linter.unusedVariables false

/-- Where a field leads, once all stands where a table says. -/
def mvF (R : List Int) (v : Nat → Int) (t : GM) (k : Nat) : Int := if t.m / P2 (k : Int) % 2 = 1 ∧ ¬ t.f k = 0 then (tab R v (t.f k - 1)).getD 0 + 1 else t.f k

def mvT (R : List Int) (v : Nat → Int) (t : GM) : GM := ⟨(tab R v t.at_).getD 0, t.s, t.m, t.o, t.h, none, t.n, 0, mvF R v t⟩
end Go.Proofs.Ytbhjmomphajnnaa

namespace Go.Proofs.Ytbhjmomphajnnaa
open Go.RowKit Go.Maps
set_option linter.unusedVariables false

/-- A list of objects that stand where a table says, while it is made. -/
structure ML (w : World) (base : Nat) (u : Value) (M : List GM) (R : List Int) (v : Nat → Int) (T : Nat → GM) : Prop where
  row : w.ownsRow base 111 6 u M.length (rowG M)
  src : ∀ t ∈ M, Src w t.a t.n t.f ∧ (t.n = 0 ∨ u.ownBlock ≠ some t.g)
  far : ∀ t ∈ M, t.n = 0 ∨ base ≤ t.g
  same : ∀ i t, M[i]? = some t → GSame t (mvT R v (T i))

theorem ML.below {w w' : World} {base : Nat} {u : Value} {M : List GM} {R : List Int} {v : Nat → Int} {T : Nat → GM} (h : ML w base u M R v T) (hb : Below w.heap.size w w') : ML w' base u M R v T := ⟨ownsRow_below h.row hb, fun t ht => ⟨(h.src t ht).1.below hb, (h.src t ht).2⟩, h.far, h.same⟩

/-- A row of objects in blocks from a place on. -/
def GVB (w : World) (base : Nat) (a : Option Addr) (N : Nat) (T : Nat → GM) : Prop := N = 0 ∨ ∃ b q, a = some ⟨b, q, none⟩ ∧ base ≤ b ∧ GSrc w b q N T ∧ ∀ i, i < N → (T i).n = 0 ∨ base ≤ (T i).g

theorem GVB.keeps {w w' : World} {base lo hi : Nat} {a : Option Addr} {N : Nat} {T : Nat → GM} (h : GVB w base a N T) (hk : Keeps w w' lo hi) (hb : hi ≤ base) : GVB w' base a N T := by
  rcases h with h | ⟨b, q, h1, h2, h3, h4⟩
  · exact .inl h
  · exact .inr ⟨b, q, h1, h2, h3.keeps hk (.inr (by omega)) (fun i hi => by rcases h4 i hi with h5 | h5; exact .inl h5; exact .inr (.inr (by omega))), h4⟩

theorem GVB.below {w w' : World} {base : Nat} {a : Option Addr} {N : Nat} {T : Nat → GM} (h : GVB w base a N T) (hb : Below w.heap.size w w') : GVB w' base a N T := by
  rcases h with h | ⟨b, q, h1, h2, h3, h4⟩
  · exact .inl h
  · exact .inr ⟨b, q, h1, h2, h3.below hb, h4⟩
end Go.Proofs.Ytbhjmomphajnnaa

namespace Go.Proofs.Ytbhjmomphajnnaa
open Go.RowKit
set_option linter.unusedVariables false

theorem row_keeps {w w' : World} {base e size n lo hi : Nat} {v : Value} {xs : List Value} (h : w.ownsRow base e size v n xs) (hk : Keeps w w' lo hi) (hb : hi ≤ base) : w'.ownsRow base e size v n xs := by
  refine ⟨h.1, ?_⟩
  rcases h.2 with h0 | ⟨g, cap, cur, e1, e2, e3, e4⟩
  · exact .inl h0
  · exact .inr ⟨g, cap, cur, e1, e2, (hk.block g (Array.getElem?_eq_some_iff.mp e3).1 (.inr (by omega))).trans e3, e4⟩

/-- What lies in memory while the model collects. -/
structure CS (W w : World) (b : Nat) (g q : Nat) (h ac U : Int) (n c : Nat) (u : Value) (l : List Int) (G : Nat → Int) : Prop where
  bel : Below W.heap.size W w
  arn : Blk w b [.int .i64 h, .slice (some ⟨g, q, none⟩) n c, .int .i64 ac, .int .i64 U]
  wrd : OwnIn w W.heap.size (b + 1) (some ⟨g, q, none⟩) n G
  row : w.ownsRow (b + 1) 2 1 u l.length (nums l.length (lf l))

section

variable {W w w' : World} {b g q : Nat} {h ac U : Int} {n c : Nat} {u : Value} {l : List Int} {G : Nat → Int}

theorem CS.below (d : CS W w b g q h ac U n c u l G) (hb : Below w.heap.size w w') : CS W w' b g q h ac U n c u l G := ⟨d.bel.trans (hb.mono d.bel.size), d.arn.below hb, d.wrd.below hb, ownsRow_below d.row hb⟩

theorem CS.put (d : CS W w b g q h ac U n c u l G) {U' : Int} {G' : Nat → Int} (hW : W.heap.size ≤ b) (hk : Keeps w w' W.heap.size (b + 1)) (hA : Blk w' b [.int .i64 h, .slice (some ⟨g, q, none⟩) n c, .int .i64 ac, .int .i64 U']) (ho : OwnIn w' W.heap.size (b + 1) (some ⟨g, q, none⟩) n G') : CS W w' b g q h ac U' n c u l G' :=
  ⟨d.bel.trans (hk.below (Nat.le_refl _) d.bel.size), hA, ho, row_keeps d.row hk (Nat.le_refl _)⟩

end
end Go.Proofs.Ytbhjmomphajnnaa

namespace Go.Proofs.Ytbhjmomphajnnaa
open Go.RowKit Go.Maps
set_option linter.unusedVariables false

/-- The words while the program collects. -/
structure PW (W w : World) (g q n : Nat) (G : Nat → Int) : Prop where
  kp : Keeps W w g (g + 1)
  wrd : OwnIn w g (g + 1) (some ⟨g, q, none⟩) n G

theorem PW.below {W w w' : World} {g q n : Nat} {G : Nat → Int} (d : PW W w g q n G) (hb : Below w.heap.size w w') : PW W w' g q n G := ⟨d.kp.trans (keeps_of_below hb g (g + 1)), d.wrd.below hb⟩

theorem MapT.keeps {w w' : World} {b n lo hi : Nat} {R : List Int} {v : Nat → Int} (h : MapT w b n R v) (hk : Keeps w w' lo hi) (hd : b < lo ∨ hi ≤ b) : MapT w' b n R v := h.block (hk.block b h.lt hd)
end Go.Proofs.Ytbhjmomphajnnaa

namespace Go.Proofs.Ytbhjmomphajnnaa
open Go.RowKit Go.Maps
set_option linter.unusedVariables false

def idV : Nat → Int := fun i => (i : Int)

/-- What lies of an object amid a list, for the comparison. -/
structure ObM (w : World) (g1 o g : Nat) (c : Nat) (f : Nat → Int) (x : Ob) : Prop where
  lt : g1 < w.heap.size
  c1 : w.cell? ⟨g1, o + 1, none⟩ = some (.int .i64 x.s)
  c2 : w.cell? ⟨g1, o + 2, none⟩ = some (.int .i64 x.m)
  c3 : w.cell? ⟨g1, o + 3, none⟩ = some (.int .i64 x.o)
  c4 : w.cell? ⟨g1, o + 4, none⟩ = some (.int .i64 x.h)
  c5 : w.cell? ⟨g1, o + 5, none⟩ = some (.slice (some ⟨g, 0, none⟩) x.s.toNat c)
  lg : g < w.heap.size
  fl : ∀ k, k < x.s.toNat → w.cell? ⟨g, k, none⟩ = some (.int .i64 (f (x.at_.toNat + 2 + k)))

theorem ObM.below {w w' : World} {g1 o g c : Nat} {f : Nat → Int} {x : Ob} (h : ObM w g1 o g c f x) (hb : Below w.heap.size w w') : ObM w' g1 o g c f x := by
  have hz := hb.size
  exact ⟨Nat.lt_of_lt_of_le h.lt hz, (hb.cell (p := ⟨g1, o + 1, none⟩) h.lt).trans h.c1, (hb.cell (p := ⟨g1, o + 2, none⟩) h.lt).trans h.c2, (hb.cell (p := ⟨g1, o + 3, none⟩) h.lt).trans h.c3, (hb.cell (p := ⟨g1, o + 4, none⟩) h.lt).trans h.c4, (hb.cell (p := ⟨g1, o + 5, none⟩) h.lt).trans h.c5, Nat.lt_of_lt_of_le h.lg hz, fun k hk => (hb.cell (p := ⟨g, k, none⟩) h.lg).trans (h.fl k hk)⟩
end Go.Proofs.Ytbhjmomphajnnaa

namespace Go.Proofs.Ytbhjmomphajnnaa
open Go.RowKit Go.Maps
set_option linter.unusedVariables false

/-- What is known of what was reached, where both codes are 0. -/
def InU2 (w : World) (z : Prop) (f : Nat → Int) (L : List Ob) (roots : List Int) (a : Option Addr) (N : Nat) (mv : Option Nat) : Prop :=
  z → N = (reachO f L roots).length ∧ ∃ mb T, mv = some mb ∧ GV w a (reachO f L roots).length T ∧ MapT w mb (reachO f L roots).length (reachO f L roots) idV ∧ ∀ i, i < (reachO f L roots).length → ∃ x, findO L (lf (reachO f L roots) i) = some x ∧ GSame (T i) (obG f x)

theorem InU2.below {w w' : World} {z : Prop} {f : Nat → Int} {L : List Ob} {roots : List Int} {a : Option Addr} {N : Nat} {mv : Option Nat} (h : InU2 w z f L roots a N mv) (hb : Below w.heap.size w w') : InU2 w' z f L roots a N mv := fun hz => by
  obtain ⟨h1, mb, T, h2, h3, h4, h5⟩ := h hz
  exact ⟨h1, mb, T, h2, h3.below hb, h4.below hb, h5⟩
end Go.Proofs.Ytbhjmomphajnnaa

namespace Go.Proofs.Ytbhjmomphajnnaa
open Go.RowKit Go.Maps
set_option linter.unusedVariables false

structure LA (W w : World) (P : Nat) (h ac bu : Int) (a : Option Addr) (n c : Nat) (f : Nat → Int) (ra : Option Addr) (l : List Int) (h' ac' bu' : Int) (a' : Option Addr) (n' c' : Nat) (f' : Nat → Int) (rb : Option Addr) (l' : List Int) : Prop where
  bel : Below W.heap.size W w
  ab : Blk w P [.int .i64 h, .slice a n c, .int .i64 ac, .int .i64 bu]
  bb : Blk w (P + 1) [.int .i64 h', .slice a' n' c', .int .i64 ac', .int .i64 bu']
  wa : Src w a n f
  ra : Src w ra l.length (lf l)
  wb : Src w a' n' f'
  rb : Src w rb l'.length (lf l')

section

variable {W w w' : World} {P : Nat} {h ac bu : Int} {a : Option Addr} {n c : Nat} {f : Nat → Int} {ra : Option Addr} {l : List Int} {h' ac' bu' : Int} {a' : Option Addr} {n' c' : Nat} {f' : Nat → Int} {rb : Option Addr} {l' : List Int}

theorem LA.below (d : LA W w P h ac bu a n c f ra l h' ac' bu' a' n' c' f' rb l') (hb : Below w.heap.size w w') : LA W w' P h ac bu a n c f ra l h' ac' bu' a' n' c' f' rb l' :=
  ⟨d.bel.trans (hb.mono d.bel.size), d.ab.below hb, d.bb.below hb, d.wa.below hb, d.ra.below hb, d.wb.below hb, d.rb.below hb⟩

theorem LA.drew (d : LA W w P h ac bu a n c f ra l h' ac' bu' a' n' c' f' rb l') : LA W w.drew P h ac bu a n c f ra l h' ac' bu' a' n' c' f' rb l' := d.below (Below.refl _ _).drew

end
end Go.Proofs.Ytbhjmomphajnnaa

namespace Go.Proofs.Ytbhjmomphajnnaa
open Go.RowKit
set_option linter.unusedVariables false

/-- A node in memory: as an object, with no owner. -/
def FivG (w : World) (b o : Nat) (t : GM) : Prop := w.cell? ⟨b, o, none⟩ = some (.int .i64 t.at_) ∧ w.cell? ⟨b, o + 1, none⟩ = some (.int .i64 t.s) ∧ w.cell? ⟨b, o + 2, none⟩ = some (.int .i64 t.m) ∧ w.cell? ⟨b, o + 3, none⟩ = some (.int .i64 t.h) ∧ w.cell? ⟨b, o + 4, none⟩ = some (.slice t.a t.n t.c)

def FivF (w : World) (b o : Nat) : Prop := w.frozen? ⟨b, o, none⟩ = false ∧ w.frozen? ⟨b, o + 1, none⟩ = false ∧ w.frozen? ⟨b, o + 2, none⟩ = false ∧ w.frozen? ⟨b, o + 3, none⟩ = false ∧ w.frozen? ⟨b, o + 4, none⟩ = false

theorem FivG.block {w w' : World} {b o : Nat} {t : GM} (h : FivG w b o t) (e : w'.heap[b]? = w.heap[b]?) : FivG w' b o t :=
  ⟨(World.cell?_of_block (w := w) (a := ⟨b, o, none⟩) e).trans h.1, (World.cell?_of_block (w := w) (a := ⟨b, o + 1, none⟩) e).trans h.2.1, (World.cell?_of_block (w := w) (a := ⟨b, o + 2, none⟩) e).trans h.2.2.1, (World.cell?_of_block (w := w) (a := ⟨b, o + 3, none⟩) e).trans h.2.2.2.1, (World.cell?_of_block (w := w) (a := ⟨b, o + 4, none⟩) e).trans h.2.2.2.2⟩

theorem FivF.block {w w' : World} {b o : Nat} (h : FivF w b o) (e : w'.heap[b]? = w.heap[b]?) : FivF w' b o :=
  ⟨(World.frozen?_of_block (w := w) (a := ⟨b, o, none⟩) e).trans h.1, (World.frozen?_of_block (w := w) (a := ⟨b, o + 1, none⟩) e).trans h.2.1, (World.frozen?_of_block (w := w) (a := ⟨b, o + 2, none⟩) e).trans h.2.2.1, (World.frozen?_of_block (w := w) (a := ⟨b, o + 3, none⟩) e).trans h.2.2.2.1, (World.frozen?_of_block (w := w) (a := ⟨b, o + 4, none⟩) e).trans h.2.2.2.2⟩

theorem FivG.below {w w' : World} {b o : Nat} {t : GM} (h : FivG w b o t) (hb : Below w.heap.size w w') (hl : b < w.heap.size) : FivG w' b o t := h.block (hb.block b hl)

theorem FivF.below {w w' : World} {b o : Nat} (h : FivF w b o) (hb : Below w.heap.size w w') (hl : b < w.heap.size) : FivF w' b o := h.block (hb.block b hl)

theorem FivG.keeps {w w' : World} {b o lo hi : Nat} {t : GM} (h : FivG w b o t) (hk : Keeps w w' lo hi) (hl : b < w.heap.size) (hd : b < lo ∨ hi ≤ b) : FivG w' b o t := h.block (hk.block b hl hd)

theorem FivF.keeps {w w' : World} {b o lo hi : Nat} (h : FivF w b o) (hk : Keeps w w' lo hi) (hl : b < w.heap.size) (hd : b < lo ∨ hi ≤ b) : FivF w' b o := h.block (hk.block b hl hd)

/-- A row of objects is read. -/
structure NSrc (w : World) (b q N : Nat) (T : Nat → GM) : Prop where
  lt : b < w.heap.size
  six : ∀ i, i < N → FivG w b (q + i * 5) (T i)
  flds : ∀ i, i < N → Src w (T i).a (T i).n (T i).f

/-- A row of objects of the call's own, in blocks from lo to hi. -/
structure NOwn (w : World) (lo hi b q N : Nat) (T : Nat → GM) : Prop where
  glo : lo ≤ b
  ghi : b < hi
  lt : b < w.heap.size
  six : ∀ i, i < N → FivG w b (q + i * 5) (T i)
  free : ∀ i, i < N → FivF w b (q + i * 5)
  flds : ∀ i, i < N → OwnIn w lo hi (T i).a (T i).n (T i).f
  off : ∀ i, i < N → (T i).n = 0 ∨ (T i).g ≠ b
  apart : ∀ i j, i < N → j < N → i ≠ j → (T i).n = 0 ∨ (T j).n = 0 ∨ (T i).g ≠ (T j).g

theorem NOwn.src {w : World} {lo hi b q N : Nat} {T : Nat → GM} (h : NOwn w lo hi b q N T) : NSrc w b q N T := ⟨h.lt, h.six, fun i hi => (h.flds i hi).src⟩

theorem NSrc.below {w w' : World} {b q N : Nat} {T : Nat → GM} (h : NSrc w b q N T) (hb : Below w.heap.size w w') : NSrc w' b q N T :=
  ⟨Nat.lt_of_lt_of_le h.lt hb.size, fun i hi => (h.six i hi).below hb h.lt, fun i hi => (h.flds i hi).below hb⟩

theorem NOwn.below {w w' : World} {lo hi b q N : Nat} {T : Nat → GM} (h : NOwn w lo hi b q N T) (hb : Below w.heap.size w w') : NOwn w' lo hi b q N T :=
  ⟨h.glo, h.ghi, Nat.lt_of_lt_of_le h.lt hb.size, fun i hi => (h.six i hi).below hb h.lt, fun i hi => (h.free i hi).below hb h.lt, fun i hi => (h.flds i hi).below hb, h.off, h.apart⟩

theorem NOwn.keeps {w w' : World} {lo hi lo' hi' b q N : Nat} {T : Nat → GM} (h : NOwn w lo hi b q N T) (hk : Keeps w w' lo' hi') (hd : hi ≤ lo' ∨ hi' ≤ lo) : NOwn w' lo hi b q N T := by
  have h1 := h.glo; have h2 := h.ghi
  exact ⟨h.glo, h.ghi, Nat.lt_of_lt_of_le h.lt hk.size, fun i hi => (h.six i hi).keeps hk h.lt (by omega), fun i hi => (h.free i hi).keeps hk h.lt (by omega), fun i hi => (h.flds i hi).keeps hk hd, h.off, h.apart⟩

theorem NSrc.keeps {w w' : World} {lo hi b q N : Nat} {T : Nat → GM} (h : NSrc w b q N T) (hk : Keeps w w' lo hi) (hd : b < lo ∨ hi ≤ b) (hf : ∀ i, i < N → (T i).n = 0 ∨ (T i).g < lo ∨ hi ≤ (T i).g) : NSrc w' b q N T := by
  refine ⟨Nat.lt_of_lt_of_le h.lt hk.size, fun i hi => (h.six i hi).keeps hk h.lt hd, fun i hi => ?_⟩
  rcases h.flds i hi with h0 | ⟨b', o', he, hl, hc⟩
  · exact .inl h0
  · rcases hf i hi with h0 | hf
    · exact .inl h0
    · have hg : (T i).g = b' := by simp [GM.g, he]
      have e := hk.block b' hl (by omega)
      exact .inr ⟨b', o', he, Nat.lt_of_lt_of_le hl hk.size, fun k hk' => (World.cell?_of_block (w := w) (a := ⟨b', o' + k, none⟩) e).trans (hc k hk')⟩

theorem NSrc.drew {w : World} {b q N : Nat} {T : Nat → GM} (h : NSrc w b q N T) : NSrc w.drew b q N T := h.below (Below.refl _ _).drew

theorem NSrc.alloc {w : World} {b q N : Nat} {T : Nat → GM} (h : NSrc w b q N T) (o : Obj) : NSrc (w.alloc o) b q N T := h.below ((Below.refl _ _).alloc (Nat.le_refl _) o)

theorem NOwn.drew {w : World} {lo hi b q N : Nat} {T : Nat → GM} (h : NOwn w lo hi b q N T) : NOwn w.drew lo hi b q N T := h.below (Below.refl _ _).drew

theorem NOwn.alloc {w : World} {lo hi b q N : Nat} {T : Nat → GM} (h : NOwn w lo hi b q N T) (o : Obj) : NOwn (w.alloc o) lo hi b q N T := h.below ((Below.refl _ _).alloc (Nat.le_refl _) o)
end Go.Proofs.Ytbhjmomphajnnaa

namespace Go.Proofs.Ytbhjmomphajnnaa
open Go.RowKit
set_option linter.unusedVariables false

def NV (w : World) (a : Option Addr) (N : Nat) (T : Nat → GM) : Prop := N = 0 ∨ ∃ b q, a = some ⟨b, q, none⟩ ∧ NSrc w b q N T

def NVO (w : World) (lo hi : Nat) (a : Option Addr) (N : Nat) (T : Nat → GM) : Prop := N = 0 ∨ ∃ b q, a = some ⟨b, q, none⟩ ∧ NOwn w lo hi b q N T

theorem NVO.src {w : World} {lo hi N : Nat} {a : Option Addr} {T : Nat → GM} (h : NVO w lo hi a N T) : NV w a N T := by
  rcases h with h0 | ⟨b, q, e, h⟩
  · exact .inl h0
  · exact .inr ⟨b, q, e, h.src⟩

theorem NV.below {w w' : World} {a : Option Addr} {N : Nat} {T : Nat → GM} (h : NV w a N T) (hb : Below w.heap.size w w') : NV w' a N T := by
  rcases h with h0 | ⟨b, q, e, h⟩
  · exact .inl h0
  · exact .inr ⟨b, q, e, h.below hb⟩

theorem NVO.below {w w' : World} {lo hi N : Nat} {a : Option Addr} {T : Nat → GM} (h : NVO w lo hi a N T) (hb : Below w.heap.size w w') : NVO w' lo hi a N T := by
  rcases h with h0 | ⟨b, q, e, h⟩
  · exact .inl h0
  · exact .inr ⟨b, q, e, h.below hb⟩

theorem NVO.keeps {w w' : World} {lo hi lo' hi' N : Nat} {a : Option Addr} {T : Nat → GM} (h : NVO w lo hi a N T) (hk : Keeps w w' lo' hi') (hd : hi ≤ lo' ∨ hi' ≤ lo) : NVO w' lo hi a N T := by
  rcases h with h0 | ⟨b, q, e, h⟩
  · exact .inl h0
  · exact .inr ⟨b, q, e, h.keeps hk hd⟩

theorem NV.drew {w : World} {a : Option Addr} {N : Nat} {T : Nat → GM} (h : NV w a N T) : NV w.drew a N T := h.below (Below.refl _ _).drew

theorem NV.alloc {w : World} {a : Option Addr} {N : Nat} {T : Nat → GM} (h : NV w a N T) (o : Obj) : NV (w.alloc o) a N T := h.below ((Below.refl _ _).alloc (Nat.le_refl _) o)

theorem NVO.drew {w : World} {lo hi N : Nat} {a : Option Addr} {T : Nat → GM} (h : NVO w lo hi a N T) : NVO w.drew lo hi a N T := h.below (Below.refl _ _).drew

theorem NVO.alloc {w : World} {lo hi N : Nat} {a : Option Addr} {T : Nat → GM} (h : NVO w lo hi a N T) (o : Obj) : NVO (w.alloc o) lo hi a N T := h.below ((Below.refl _ _).alloc (Nat.le_refl _) o)
end Go.Proofs.Ytbhjmomphajnnaa

namespace Go.Proofs.Ytbhjmomphajnnaa
open Go.RowKit
set_option linter.unusedVariables false

/-- A slot in memory. -/
structure SL where
  g : Int
  nd : Int

def TwoG (w : World) (b o : Nat) (t : SL) : Prop := w.cell? ⟨b, o, none⟩ = some (.int .i64 t.g) ∧ w.cell? ⟨b, o + 1, none⟩ = some (.int .i64 t.nd)

def TwoF (w : World) (b o : Nat) : Prop := w.frozen? ⟨b, o, none⟩ = false ∧ w.frozen? ⟨b, o + 1, none⟩ = false

theorem TwoG.block {w w' : World} {b o : Nat} {t : SL} (h : TwoG w b o t) (e : w'.heap[b]? = w.heap[b]?) : TwoG w' b o t :=
  ⟨(World.cell?_of_block (w := w) (a := ⟨b, o, none⟩) e).trans h.1, (World.cell?_of_block (w := w) (a := ⟨b, o + 1, none⟩) e).trans h.2⟩

theorem TwoF.block {w w' : World} {b o : Nat} (h : TwoF w b o) (e : w'.heap[b]? = w.heap[b]?) : TwoF w' b o :=
  ⟨(World.frozen?_of_block (w := w) (a := ⟨b, o, none⟩) e).trans h.1, (World.frozen?_of_block (w := w) (a := ⟨b, o + 1, none⟩) e).trans h.2⟩

/-- A row of slots is read. -/
structure PSrc (w : World) (b q N : Nat) (T : Nat → SL) : Prop where
  lt : b < w.heap.size
  two : ∀ i, i < N → TwoG w b (q + i * 2) (T i)

/-- A row of slots of the call's own. -/
structure POwn (w : World) (lo hi b q N : Nat) (T : Nat → SL) : Prop where
  glo : lo ≤ b
  ghi : b < hi
  lt : b < w.heap.size
  two : ∀ i, i < N → TwoG w b (q + i * 2) (T i)
  free : ∀ i, i < N → TwoF w b (q + i * 2)

theorem POwn.src {w : World} {lo hi b q N : Nat} {T : Nat → SL} (h : POwn w lo hi b q N T) : PSrc w b q N T := ⟨h.lt, h.two⟩

theorem PSrc.below {w w' : World} {b q N : Nat} {T : Nat → SL} (h : PSrc w b q N T) (hb : Below w.heap.size w w') : PSrc w' b q N T :=
  ⟨Nat.lt_of_lt_of_le h.lt hb.size, fun i hi => (h.two i hi).block (hb.block b h.lt)⟩

theorem POwn.below {w w' : World} {lo hi b q N : Nat} {T : Nat → SL} (h : POwn w lo hi b q N T) (hb : Below w.heap.size w w') : POwn w' lo hi b q N T :=
  ⟨h.glo, h.ghi, Nat.lt_of_lt_of_le h.lt hb.size, fun i hi => (h.two i hi).block (hb.block b h.lt), fun i hi => (h.free i hi).block (hb.block b h.lt)⟩

theorem PSrc.keeps {w w' : World} {lo hi b q N : Nat} {T : Nat → SL} (h : PSrc w b q N T) (hk : Keeps w w' lo hi) (hd : b < lo ∨ hi ≤ b) : PSrc w' b q N T :=
  ⟨Nat.lt_of_lt_of_le h.lt hk.size, fun i hi => (h.two i hi).block (hk.block b h.lt hd)⟩

theorem POwn.keeps {w w' : World} {lo hi lo' hi' b q N : Nat} {T : Nat → SL} (h : POwn w lo hi b q N T) (hk : Keeps w w' lo' hi') (hd : hi ≤ lo' ∨ hi' ≤ lo) : POwn w' lo hi b q N T := by
  have h1 := h.glo; have h2 := h.ghi
  exact ⟨h.glo, h.ghi, Nat.lt_of_lt_of_le h.lt hk.size, fun i hi => (h.two i hi).block (hk.block b h.lt (by omega)), fun i hi => (h.free i hi).block (hk.block b h.lt (by omega))⟩

theorem POwn.widen {w : World} {lo hi lo' hi' b q N : Nat} {T : Nat → SL} (h : POwn w lo hi b q N T) (h1 : lo' ≤ lo) (h2 : hi ≤ hi') : POwn w lo' hi' b q N T :=
  ⟨Nat.le_trans h1 h.glo, Nat.lt_of_lt_of_le h.ghi h2, h.lt, h.two, h.free⟩

def PV (w : World) (a : Option Addr) (N : Nat) (T : Nat → SL) : Prop := N = 0 ∨ ∃ b q, a = some ⟨b, q, none⟩ ∧ PSrc w b q N T

def PVO (w : World) (lo hi : Nat) (a : Option Addr) (N : Nat) (T : Nat → SL) : Prop := N = 0 ∨ ∃ b q, a = some ⟨b, q, none⟩ ∧ POwn w lo hi b q N T

theorem PVO.src {w : World} {lo hi N : Nat} {a : Option Addr} {T : Nat → SL} (h : PVO w lo hi a N T) : PV w a N T := by
  rcases h with h0 | ⟨b, q, ha, h⟩
  · exact .inl h0
  · exact .inr ⟨b, q, ha, h.src⟩

theorem PV.below {w w' : World} {N : Nat} {a : Option Addr} {T : Nat → SL} (h : PV w a N T) (hb : Below w.heap.size w w') : PV w' a N T := by
  rcases h with h0 | ⟨b, q, ha, h⟩
  · exact .inl h0
  · exact .inr ⟨b, q, ha, h.below hb⟩

theorem PVO.below {w w' : World} {lo hi N : Nat} {a : Option Addr} {T : Nat → SL} (h : PVO w lo hi a N T) (hb : Below w.heap.size w w') : PVO w' lo hi a N T := by
  rcases h with h0 | ⟨b, q, ha, h⟩
  · exact .inl h0
  · exact .inr ⟨b, q, ha, h.below hb⟩

theorem PVO.keeps {w w' : World} {lo hi lo' hi' N : Nat} {a : Option Addr} {T : Nat → SL} (h : PVO w lo hi a N T) (hk : Keeps w w' lo' hi') (hd : hi ≤ lo' ∨ hi' ≤ lo) : PVO w' lo hi a N T := by
  rcases h with h0 | ⟨b, q, ha, h⟩
  · exact .inl h0
  · exact .inr ⟨b, q, ha, h.keeps hk hd⟩

theorem PVO.widen {w : World} {lo hi lo' hi' N : Nat} {a : Option Addr} {T : Nat → SL} (h : PVO w lo hi a N T) (h1 : lo' ≤ lo) (h2 : hi ≤ hi') : PVO w lo' hi' a N T := by
  rcases h with h0 | ⟨b, q, ha, h⟩
  · exact .inl h0
  · exact .inr ⟨b, q, ha, h.widen h1 h2⟩

theorem PV.drew {w : World} {N : Nat} {a : Option Addr} {T : Nat → SL} (h : PV w a N T) : PV w.drew a N T := h.below (Below.refl _ _).drew

theorem PV.alloc {w : World} {N : Nat} {a : Option Addr} {T : Nat → SL} (h : PV w a N T) (o : Obj) : PV (w.alloc o) a N T := h.below ((Below.refl _ _).alloc (Nat.le_refl _) o)

theorem PVO.drew {w : World} {lo hi N : Nat} {a : Option Addr} {T : Nat → SL} (h : PVO w lo hi a N T) : PVO w.drew lo hi a N T := h.below (Below.refl _ _).drew

theorem PVO.alloc {w : World} {lo hi N : Nat} {a : Option Addr} {T : Nat → SL} (h : PVO w lo hi a N T) (o : Obj) : PVO (w.alloc o) lo hi a N T := h.below ((Below.refl _ _).alloc (Nat.le_refl _) o)
end Go.Proofs.Ytbhjmomphajnnaa

namespace Go.Proofs.Ytbhjmomphajnnaa
open Go.RowKit
set_option linter.unusedVariables false

theorem Try.infoSL : (Try.prog.info? 147).map (fun i => (i.zero, i.size, i.bytes)) = some (some (.agg #[.int .i64 0, .int .i64 0]), 2, 16) := by kernel_rfl

theorem Try.underlyingRSL : Try.prog.underlying 51 = some (.slice 147) := by kernel_rfl

/-- A row of zero slots. -/
theorem pown_made {w : World} {lo b N cap : Nat} (h : w.ownsRow lo 147 2 (.slice (some ⟨b, 0, none⟩) N cap) N (madeCells #[.int .i64 0, .int .i64 0] (N * 2)).toList) (hl : lo ≤ b) (hp : 0 < N) : POwn w lo w.heap.size b 0 N (fun _ => ⟨0, 0⟩) := by
  have hlt : b < w.heap.size := by
    rcases h.2 with ⟨h', _⟩ | ⟨g', cap', cur, h', _, hg, _⟩
    · cases h'
    · simp only [Value.slice.injEq, Option.some.injEq, Addr.mk.injEq, and_true, true_and] at h'
      obtain ⟨rfl, rfl⟩ := h'
      exact (Array.getElem?_eq_some_iff.mp hg).1
  have hc : ∀ i, i < N → ∀ j, j < 2 → w.cell? ⟨b, i * 2 + j, none⟩ = some (#[.int .i64 0, .int .i64 0] : Array Value)[(i * 2 + j) % 2]! := fun i hi j hj => by
    have := h.cellAt (i * 2 + j) (by omega)
    rw [made_get _ _ _ (by omega)] at this
    simpa using this
  refine ⟨hl, hlt, hlt, fun i hi => ?_, fun i hi => ?_⟩
  · have m : ∀ j, j < 2 → (i * 2 + j) % 2 = j := fun j hj => by omega
    rw [Nat.zero_add]
    have k0 := hc i hi 0 (by omega); have k1 := hc i hi 1 (by omega)
    rw [m 0 (by omega)] at k0; rw [m 1 (by omega)] at k1
    exact ⟨k0, k1⟩
  · rw [Nat.zero_add]
    exact ⟨h.frozenAt _, h.frozenAt _⟩
end Go.Proofs.Ytbhjmomphajnnaa

namespace Go.Proofs.Ytbhjmomphajnnaa
open Go.RowKit Go.Maps
set_option linter.unusedVariables false

/-- What is carried through the draw of alike: the source, the bytes, the two answers' blocks, the arena, its words, the roots. -/
structure DA (W w : World) (ca : Option Addr) (k kc : Nat) (B : Nat → Int) (t P : Nat) (h ac bu : Int) (a : Option Addr) (n c : Nat) (f : Nat → Int) (ra : Option Addr) (l : List Int) : Prop where
  bel : Below W.heap.size W w
  src : Blk w (W.heap.size + 2) [.slice ca k kc, .int .i64 (t : Int)]
  byt : SrcB w (W.heap.size + 2) ca k B
  r0 : Blk w W.heap.size [.int .i64 0, .slice none 0 0, .int .i64 0, .int .i64 0]
  r1 : Blk w (W.heap.size + 1) [.int .i64 0, .slice none 0 0, .int .i64 0, .int .i64 0]
  arn : Blk w P [.int .i64 h, .slice a n c, .int .i64 ac, .int .i64 bu]
  wrd : OwnIn w (W.heap.size + 3) P a n f
  rts : OwnIn w (W.heap.size + 3) P ra l.length (lf l)
  hP : W.heap.size + 3 ≤ P

theorem DA.below {W w w' : World} {ca : Option Addr} {k kc t P : Nat} {B : Nat → Int} {h ac bu : Int} {a : Option Addr} {n c : Nat} {f : Nat → Int} {ra : Option Addr} {l : List Int} (d : DA W w ca k kc B t P h ac bu a n c f ra l) (hb : Below w.heap.size w w') : DA W w' ca k kc B t P h ac bu a n c f ra l :=
  ⟨d.bel.trans (hb.mono d.bel.size), d.src.below hb, d.byt.below hb, d.r0.below hb, d.r1.below hb, d.arn.below hb, d.wrd.below hb, d.rts.below hb, d.hP⟩

/-- .. and the second arena and list. -/
structure DB (W w : World) (ca : Option Addr) (k kc : Nat) (B : Nat → Int) (t P : Nat) (h ac bu : Int) (a : Option Addr) (n c : Nat) (f : Nat → Int) (ra : Option Addr) (l : List Int) (Q : Nat) (h' ac' bu' : Int) (a' : Option Addr) (n' c' : Nat) (f' : Nat → Int) (rb : Option Addr) (rd md : Nat) (l' : List Int) : Prop where
  da : DA W w ca k kc B t P h ac bu a n c f ra l
  bb : Blk w Q [.int .i64 h', .slice a' n' c', .int .i64 ac', .int .i64 bu']
  wb : OwnIn w (P + 1) md a' n' f'
  row : w.ownsRow md 2 1 (.slice rb l'.length rd) l'.length (nums l'.length (lf l'))
  hmd : P + 1 ≤ md
  hQ : P + 1 ≤ Q

theorem DB.below {W w w' : World} {ca : Option Addr} {k kc t P : Nat} {B : Nat → Int} {h ac bu : Int} {a : Option Addr} {n c : Nat} {f : Nat → Int} {ra : Option Addr} {l : List Int} {Q : Nat} {h' ac' bu' : Int} {a' : Option Addr} {n' c' : Nat} {f' : Nat → Int} {rb : Option Addr} {rd md : Nat} {l' : List Int} (d : DB W w ca k kc B t P h ac bu a n c f ra l Q h' ac' bu' a' n' c' f' rb rd md l') (hb : Below w.heap.size w w') : DB W w' ca k kc B t P h ac bu a n c f ra l Q h' ac' bu' a' n' c' f' rb rd md l' :=
  ⟨d.da.below hb, d.bb.below hb, d.wb.below hb, ownsRow_below d.row hb, d.hmd, d.hQ⟩

theorem own_row {w : World} {B e n c : Nat} {a : Option Addr} {l : List Int} (h : w.ownsRow B e 1 (.slice a n c) l.length (nums l.length (lf l))) : n = l.length ∧ Own w B a l.length (lf l) := by
  obtain ⟨a', c', he, ho⟩ := own_of_row' h
  simp only [Value.slice.injEq] at he
  obtain ⟨rfl, rfl, rfl⟩ := he
  exact ⟨rfl, ho⟩

theorem DB.own {W w : World} {ca : Option Addr} {k kc t P : Nat} {B : Nat → Int} {h ac bu : Int} {a : Option Addr} {n c : Nat} {f : Nat → Int} {ra : Option Addr} {l : List Int} {Q : Nat} {h' ac' bu' : Int} {a' : Option Addr} {n' c' : Nat} {f' : Nat → Int} {rb : Option Addr} {rd md : Nat} {l' : List Int} (d : DB W w ca k kc B t P h ac bu a n c f ra l Q h' ac' bu' a' n' c' f' rb rd md l') : Own w (P + 1) rb l'.length (lf l') := (own_row d.row).2.mono d.hmd

theorem DA.keeps {W w w' : World} {ca : Option Addr} {k kc t P : Nat} {B : Nat → Int} {h ac bu : Int} {a : Option Addr} {n c : Nat} {f : Nat → Int} {ra : Option Addr} {l : List Int} {lo hi : Nat} (d : DA W w ca k kc B t P h ac bu a n c f ra l) (hk : Keeps w w' lo hi) (hl : P + 1 ≤ lo) : DA W w' ca k kc B t P h ac bu a n c f ra l := by
  have hP := d.hP
  have hPw := d.arn.1
  exact ⟨d.bel.trans (hk.below (by omega) d.bel.size), d.src.keeps hk (.inl (by omega)), d.byt.keeps hk (by omega), d.r0.keeps hk (.inl (by omega)), d.r1.keeps hk (.inl (by omega)), d.arn.keeps hk (.inl (by omega)), d.wrd.keeps hk (.inl (by omega)), d.rts.keeps hk (.inl (by omega)), d.hP⟩

theorem DB.two {W w : World} {ca : Option Addr} {k kc t P : Nat} {B : Nat → Int} {h ac bu : Int} {a : Option Addr} {n c : Nat} {f : Nat → Int} {ra : Option Addr} {l : List Int} {Q : Nat} {h' ac' bu' : Int} {a' : Option Addr} {n' c' : Nat} {f' : Nat → Int} {rb : Option Addr} {rd md : Nat} {l' : List Int} (d : DB W w ca k kc B t P h ac bu a n c f ra l Q h' ac' bu' a' n' c' f' rb rd md l') : w.cell? ⟨Q, 1, none⟩ = some (.slice a' n' c') ∧ w.cell? ⟨Q, 3, none⟩ = some (.int .i64 bu') := ⟨d.bb.at 1 rfl, d.bb.at 3 rfl⟩
end Go.Proofs.Ytbhjmomphajnnaa

namespace Go.Proofs.Ytbhjmomphajnnaa
open Go.RowKit
set_option linter.unusedVariables false

/-- What a handle is. -/
abbrev HaOk (t s g : Int) : Prop := (0 ≤ t ∧ t ≤ 3) ∧ (0 ≤ s ∧ s ≤ 7) ∧ (1 ≤ g ∧ g ≤ 99)

/-- What HandleWord answers. -/
def IsHW (t s g c v : Int) : Prop := (HaOk t s g ∧ c = 0 ∧ v = t + 4 * (s + 8 * g)) ∨ (¬ HaOk t s g ∧ c = 3 ∧ v = 0)

theorem isHW_some (t s g : Int) : ∃ c v, IsHW t s g c v := by
  by_cases x : HaOk t s g
  · exact ⟨0, _, .inl ⟨x, rfl, rfl⟩⟩
  · exact ⟨3, 0, .inr ⟨x, rfl, rfl⟩⟩

set_option maxRecDepth 100000 in
set_option maxHeartbeats 800000 in
theorem implHW_any (t s g c v : Int) (w : World) (hk : IsHW t s g c v) :
    Calls Try.prog 21 #[.agg #[.int .i64 t, .int .i64 s, .int .i64 g]] w (RetPair w c v) := by
  have HK := Lib.hid hk
  rcases hk with ⟨hx, rfl, rfl⟩ | ⟨hx, rfl, rfl⟩
  · have HX := Lib.hid hx
    obtain ⟨⟨g1, g2⟩, ⟨g3, g4⟩, g5, g6⟩ := hx
    go_enter Try.func21, Try.ntmps21
    go_wp2_with fail
    with_reducible refine ((isOut3 _ _ _ _ _ _ _ _ _ _ _ false (by simp) (.inl ⟨rfl, HX.out⟩))).mono ?_
    rintro e w1 ⟨rfl, hb⟩
    have HB : Hid (Below w.heap.size w w1) := ((((Below.refl _ _).alloc (Nat.le_refl _) _).alloc (by simp) _).alloc (by simp; omega) _).trans (hb.mono (by simp; try omega))
    have HH : Hid (Blk w1 w.heap.size [.int .i64 t, .int .i64 s, .int .i64 g]) := (((Blk.new_at (w.heap.size) rfl).alloc _).alloc _).below hb
    have HR : Hid (Blk w1 (w.heap.size + 1) [.int .i64 0, .int .i64 0]) := ((Blk.new_at (w.heap.size + 1) (by simp)).alloc _).below hb
    clear hb
    have lH := HH.out.1
    have c0 := HH.out.at 0 rfl
    have c1 := HH.out.at 1 rfl
    have c2 := HH.out.at 2 rfl
    have lR := HR.out.1; have r0 := HR.out.at 0 rfl; have r1 := HR.out.at 1 rfl; have f0 := HR.out.free 0 rfl; have f1 := HR.out.free 1 rfl
    go_wp2
    refine bodyPost_ret (v := .agg #[.int .i64 0, .int .i64 (t + 4 * (s + 8 * g))]) (by simp [results, Try.results21, go_sem, r0, r1]) rfl ⟨rfl, ?_⟩
    repeat (first | (with_reducible refine Below.setCell ?_ (by (try simp); (try omega)) _) | (with_reducible refine Below.alloc ?_ (by (try simp); (try omega)) _))
    exact HB.out
  · have HX := Lib.hid hx
    clear hx
    go_enter Try.func21, Try.ntmps21
    go_wp2_with fail
    with_reducible refine ((isOut3 _ _ _ _ _ _ _ _ _ _ _ true (by simp) (.inr ⟨rfl, HX.out⟩))).mono ?_
    rintro e w1 ⟨rfl, hb⟩
    have HB : Hid (Below w.heap.size w w1) := ((((Below.refl _ _).alloc (Nat.le_refl _) _).alloc (by simp) _).alloc (by simp; omega) _).trans (hb.mono (by simp; try omega))
    have HR : Hid (Blk w1 (w.heap.size + 1) [.int .i64 0, .int .i64 0]) := ((Blk.new_at (w.heap.size + 1) (by simp)).alloc _).below hb
    clear hb
    have lR := HR.out.1; have r0 := HR.out.at 0 rfl; have r1 := HR.out.at 1 rfl; have f0 := HR.out.free 0 rfl; have f1 := HR.out.free 1 rfl
    go_wp2
    refine bodyPost_ret (v := .agg #[.int .i64 3, .int .i64 0]) (by simp [results, Try.results21, go_sem, r0, r1]) rfl ⟨rfl, ?_⟩
    repeat (first | (with_reducible refine Below.setCell ?_ (by (try simp); (try omega)) _) | (with_reducible refine Below.alloc ?_ (by (try simp); (try omega)) _))
    exact HB.out

set_option maxRecDepth 100000 in
set_option maxHeartbeats 400000 in
theorem l5Word_at (b : Nat) (t s g : Int) (w : World) (hB : Blk w b [.int .i64 t, .int .i64 s, .int .i64 g]) (h : HaOk t s g) :
    Calls Try.prog 83 #[.pointer (some ⟨b, 0, none⟩)] w (RetInt w (t + 4 * (s + 8 * g))) := by
  obtain ⟨⟨g1, g2⟩, ⟨g3, g4⟩, g5, g6⟩ := h
  have c0 := hB.at 0 rfl; have c1 := hB.at 1 rfl; have c2 := hB.at 2 rfl; have l := hB.1
  clear hB
  go_enter Try.func83, Try.ntmps83
  go_wp2
  go_region
  go_wp2
  go_ret
  exact ⟨rfl, (Below.refl _ _).drew⟩

set_option maxRecDepth 100000 in
set_option maxHeartbeats 800000 in
theorem specHW_any (t s g c v : Int) (w : World) (hk : IsHW t s g c v) :
    Calls Try.prog 26 #[.agg #[.int .i64 t, .int .i64 s, .int .i64 g]] w (RetPair w c v) := by
  rcases hk with ⟨hx, rfl, rfl⟩ | ⟨hx, rfl, rfl⟩
  · have HX := Lib.hid hx
    obtain ⟨⟨g1, g2⟩, ⟨g3, g4⟩, g5, g6⟩ := hx
    go_enter Try.func26, Try.ntmps26
    go_wp2_with fail
    refine (l1In_yes t 0 3 _ g1 g2).mono ?_
    rintro e w' ⟨rfl, rfl⟩
    go_wp2_with fail
    refine (l1In_yes s 0 7 _ g3 g4).mono ?_
    rintro e w' ⟨rfl, rfl⟩
    go_wp2_with fail
    refine (l1In_yes g 1 99 _ g5 g6).mono ?_
    rintro e w' ⟨rfl, rfl⟩
    have X := Lib.hid (Blk.new_at (w := w) (cs := #[.int .i64 t, .int .i64 s, .int .i64 g]) (t := 42) w.heap.size rfl)
    go_wp2_with fail
    refine (l5Word_at w.heap.size t s g _ (X.out.alloc _) HX.out).mono ?_
    rintro e w1 ⟨rfl, hb⟩
    have HB : Hid (Below w.heap.size w w1) := (((Below.refl _ _).alloc (Nat.le_refl _) _).alloc (by simp) _).trans (hb.mono (by simp; try omega))
    have HR : Hid (Blk w1 (w.heap.size + 1) [.int .i64 0, .int .i64 0]) := (Blk.new_at (w.heap.size + 1) (by simp)).below hb
    clear hb
    have lR := HR.out.1; have r0 := HR.out.at 0 rfl; have r1 := HR.out.at 1 rfl; have f0 := HR.out.free 0 rfl; have f1 := HR.out.free 1 rfl
    go_wp2
    refine bodyPost_ret (v := .agg #[.int .i64 0, .int .i64 (t + 4 * (s + 8 * g))]) (by simp [results, Try.results26, go_sem, r0, r1]) rfl ⟨rfl, ?_⟩
    repeat (first | (with_reducible refine Below.setCell ?_ (by (try simp); (try omega)) _) | (with_reducible refine Below.alloc ?_ (by (try simp); (try omega)) _))
    exact HB.out
  · have HX := Lib.hid hx
    by_cases g1 : 0 ≤ t ∧ t ≤ 3
    · by_cases g2 : 0 ≤ s ∧ s ≤ 7
      · have g3 : ¬ (1 ≤ g ∧ g ≤ 99) := fun h => hx ⟨g1, g2, h⟩
        go_enter Try.func26, Try.ntmps26
        go_wp2_with fail
        refine (l1In_yes t 0 3 _ g1.1 g1.2).mono ?_
        rintro e w' ⟨rfl, rfl⟩
        go_wp2_with fail
        refine (l1In_yes s 0 7 _ g2.1 g2.2).mono ?_
        rintro e w' ⟨rfl, rfl⟩
        go_wp2_with fail
        refine (l1In_no g 1 99 _ g3).mono ?_
        rintro e w' ⟨rfl, rfl⟩
        go_wp2
        exact bodyPost_ret (v := .agg #[.int .i64 3, .int .i64 0]) (by simp [results, Try.results26, go_sem]) rfl ⟨rfl, ((Below.refl _ _).alloc (Nat.le_refl _) _).alloc (by simp) _⟩
      · go_enter Try.func26, Try.ntmps26
        go_wp2_with fail
        refine (l1In_yes t 0 3 _ g1.1 g1.2).mono ?_
        rintro e w' ⟨rfl, rfl⟩
        go_wp2_with fail
        refine (l1In_no s 0 7 _ g2).mono ?_
        rintro e w' ⟨rfl, rfl⟩
        go_wp2
        exact bodyPost_ret (v := .agg #[.int .i64 3, .int .i64 0]) (by simp [results, Try.results26, go_sem]) rfl ⟨rfl, ((Below.refl _ _).alloc (Nat.le_refl _) _).alloc (by simp) _⟩
    · go_enter Try.func26, Try.ntmps26
      go_wp2_with fail
      refine (l1In_no t 0 3 _ g1).mono ?_
      rintro e w' ⟨rfl, rfl⟩
      go_wp2
      exact bodyPost_ret (v := .agg #[.int .i64 3, .int .i64 0]) (by simp [results, Try.results26, go_sem]) rfl ⟨rfl, ((Below.refl _ _).alloc (Nat.le_refl _) _).alloc (by simp) _⟩
end Go.Proofs.Ytbhjmomphajnnaa

namespace Go.Proofs.Ytbhjmomphajnnaa
open Go.RowKit
set_option linter.unusedVariables false

theorem fld_ir0 (x y : Value) (w : World) : (Instr.field 38 (.agg #[x, y]) 0).run Try.prog w = .ok x w := by kernel_rfl

/-- What ReadHandle answers. -/
def IsRHa (x c t s g : Int) : Prop := ((0 ≤ x ∧ 1 ≤ x / 32 ∧ x / 32 ≤ 99) ∧ c = 0 ∧ t = x % 4 ∧ s = x / 4 % 8 ∧ g = x / 32) ∨ (¬ (0 ≤ x ∧ 1 ≤ x / 32 ∧ x / 32 ≤ 99) ∧ c = 6 ∧ t = 0 ∧ s = 0 ∧ g = 0)

theorem isRHa_some (x : Int) : ∃ c t s g, IsRHa x c t s g := by
  by_cases h : 0 ≤ x ∧ 1 ≤ x / 32 ∧ x / 32 ≤ 99
  · exact ⟨_, _, _, _, .inl ⟨h, rfl, rfl, rfl, rfl⟩⟩
  · exact ⟨_, _, _, _, .inr ⟨h, rfl, rfl, rfl, rfl⟩⟩

def RetRHa (W : World) (c t s g : Int) (e : Ending) (w' : World) : Prop := e = .returned (.agg #[.int .i64 c, .int .i64 t, .int .i64 s, .int .i64 g]) ∧ Below W.heap.size W w'

set_option maxRecDepth 100000 in
set_option maxHeartbeats 800000 in
theorem implRHa_any (x c t s g : Int) (w : World) (hx : I64 x) (hk : IsRHa x c t s g) :
    Calls Try.prog 23 #[.int .i64 x] w (RetRHa w c t s g) := by
  obtain ⟨hx1, hx2⟩ := hx
  obtain ⟨q, hq⟩ : ∃ q, x.tdiv 4 = q := ⟨_, rfl⟩
  obtain ⟨g', hg⟩ : ∃ g', q.tdiv 8 = g' := ⟨_, rfl⟩
  obtain ⟨s', hs⟩ : ∃ s', q.tmod 8 = s' := ⟨_, rfl⟩
  obtain ⟨t', ht⟩ : ∃ t', x.tmod 4 = t' := ⟨_, rfl⟩
  have hR : (0 ≤ x ∧ q = x / 4 ∧ g' = x / 32 ∧ s' = x / 4 % 8 ∧ t' = x % 4) ∨ (x < 0 ∧ g' ≤ 0 ∧ -2305843009213693952 ≤ q ∧ q ≤ 0 ∧ -2305843009213693952 ≤ g') := by
    by_cases h0 : 0 ≤ x
    · have e1 : x.tdiv 4 = x / 4 := Int.tdiv_eq_ediv_of_nonneg h0
      have e2 : q.tdiv 8 = q / 8 := Int.tdiv_eq_ediv_of_nonneg (by omega)
      have e3 : q.tmod 8 = q % 8 := Int.tmod_eq_emod_of_nonneg (by omega)
      have e4 : x.tmod 4 = x % 4 := Int.tmod_eq_emod_of_nonneg h0
      exact .inl ⟨h0, by omega, by omega, by omega, by omega⟩
    · obtain ⟨u, rfl⟩ : ∃ u, x = -u := ⟨-x, by omega⟩
      have e1 : (-u).tdiv 4 = -(u / 4) := by rw [Int.neg_tdiv, Int.tdiv_eq_ediv_of_nonneg (by omega)]
      have e2 : q.tdiv 8 = -((u / 4) / 8) := by rw [← hq, e1, Int.neg_tdiv, Int.tdiv_eq_ediv_of_nonneg (by omega)]
      exact .inr ⟨by omega, by omega, by omega, by omega, by omega⟩
  have HR := Lib.hid hR; have HK := Lib.hid hk
  have hq1 : (-2305843009213693952 ≤ q ∧ q ≤ 2305843009213693951) ∧ -2305843009213693952 ≤ g' ∧ g' ≤ 2305843009213693951 := by
    rcases hR with ⟨_, h, _⟩ | ⟨_, _, h1, h2, h3⟩ <;> omega
  obtain ⟨⟨q1, q2⟩, q3, q4⟩ := hq1
  obtain ⟨c', v', hk'⟩ := isHW_some t' s' g'
  have HK' := Lib.hid hk'
  clear hR hk hk'
  go_enter Try.func23, Try.ntmps23
  go_wp2_with fail
  refine (implHW_any t' s' g' c' v' _ HK'.out).mono ?_
  rintro e w1 ⟨rfl, hb⟩
  have HB1 := Lib.hid ((((Below.refl w.heap.size w).alloc (Nat.le_refl _) _).alloc (by simp) _).trans (hb.mono (by simp; omega)))
  have R_1 := Lib.hid ((((Blk.new_at (w := w) (cs := #[.int .i64 0, .int .i64 0, .int .i64 0, .int .i64 0]) (t := 47) w.heap.size rfl).alloc _)).below hb)
  have H_1 := Lib.hid ((Blk.new_at (w := w.alloc (.cells #[.int .i64 0, .int .i64 0, .int .i64 0, .int .i64 0] 47)) (cs := #[.int .i64 t', .int .i64 s', .int .i64 g']) (t := 42) (w.heap.size + 1) (by simp)).below hb)
  clear hb
  have z1 : w.heap.size + 2 ≤ w1.heap.size := by have := H_1.out.1; omega
  have r0 := R_1.out.at 0 rfl; have r1 := R_1.out.at 1 rfl; have r2 := R_1.out.at 2 rfl; have r3 := R_1.out.at 3 rfl; have f0 := R_1.out.free 0 rfl; have f1 := R_1.out.free 1 rfl; have f2 := R_1.out.free 2 rfl; have f3 := R_1.out.free 3 rfl; have lR := R_1.out.1
  have h0 := H_1.out.at 0 rfl; have h1 := H_1.out.at 1 rfl; have h2 := H_1.out.at 2 rfl; have lH := H_1.out.1
  have hfin : (c' = 0 ∧ c = 0 ∧ t = t' ∧ s = s' ∧ g = g') ∨ (c' = 3 ∧ c = 6 ∧ t = 0 ∧ s = 0 ∧ g = 0) := by
    rcases HK'.out with ⟨⟨⟨a1, a2⟩, ⟨a3, a4⟩, a5, a6⟩, rfl, _⟩ | ⟨hno, rfl, _⟩
    · left
      rcases HR.out with ⟨b1, b2, b3, b4, b5⟩ | ⟨b1, b2, _⟩
      · rcases HK.out with ⟨_, k1, k2, k3, k4⟩ | ⟨hn, _⟩
        · exact ⟨rfl, k1, by omega, by omega, by omega⟩
        · exact absurd ⟨b1, by omega, by omega⟩ hn
      · omega
    · right
      rcases HK.out with ⟨⟨k0, k1, k2⟩, _⟩ | ⟨_, k1, k2, k3, k4⟩
      · rcases HR.out with ⟨b1, b2, b3, b4, b5⟩ | ⟨b1, _⟩
        · exact absurd ⟨⟨by omega, by omega⟩, ⟨by omega, by omega⟩, by omega, by omega⟩ hno
        · omega
      · exact ⟨rfl, k1, k2, k3, k4⟩
  clear hq hg hs ht
  have hfi := fun a b => fld_ir0 (.int .i64 a) (.int .i64 b) w1
  rcases hfin with ⟨rfl, rfl, rfl, rfl, rfl⟩ | ⟨rfl, rfl, rfl, rfl, rfl⟩
  · go_wp2
    refine bodyPost_ret (v := .agg #[.int .i64 0, .int .i64 t, .int .i64 s, .int .i64 g]) (by simp [results, Try.results23, go_sem, r0, r1, r2, r3]) rfl ⟨rfl, ?_⟩
    repeat (first | (with_reducible refine Below.setCell ?_ (by (try simp); (try omega)) _) | (with_reducible refine Below.alloc ?_ (by (try simp); (try omega)) _) | (with_reducible refine Below.drew ?_))
    exact HB1.out
  · go_wp2
    refine bodyPost_ret (v := .agg #[.int .i64 6, .int .i64 0, .int .i64 0, .int .i64 0]) (by simp [results, Try.results23, go_sem, r0, r1, r2, r3]) rfl ⟨rfl, ?_⟩
    repeat (first | (with_reducible refine Below.setCell ?_ (by (try simp); (try omega)) _) | (with_reducible refine Below.alloc ?_ (by (try simp); (try omega)) _) | (with_reducible refine Below.drew ?_))
    exact HB1.out

set_option maxRecDepth 100000 in
set_option maxHeartbeats 800000 in
theorem l5Handle_any (x c t s g : Int) (r : Bool) (w : World) (hx : I64 x) (hk : IsRHa x c t s g) (hr : r = decide (c = 0)) :
    Calls Try.prog 84 #[.int .i64 x] w fun e w' => (∃ a b d, e = .returned (.tuple #[.agg #[.int .i64 a, .int .i64 b, .int .i64 d], .bool r]) ∧ (c = 0 → a = t ∧ b = s ∧ d = g)) ∧ Below w.heap.size w w' := by
  obtain ⟨hx1, hx2⟩ := hx
  by_cases h0 : 0 ≤ x
  · have e1 : x.tdiv 4 = x / 4 := Int.tdiv_eq_ediv_of_nonneg h0
    have e2 : x.tdiv 32 = x / 32 := Int.tdiv_eq_ediv_of_nonneg h0
    have e3 : (x / 4).tmod 8 = x / 4 % 8 := Int.tmod_eq_emod_of_nonneg (by omega)
    have e4 : x.tmod 4 = x % 4 := Int.tmod_eq_emod_of_nonneg h0
    have q1 : 0 ≤ x / 4 := by omega
    have q2 : x / 4 ≤ 2305843009213693951 := by omega
    have q3 : 0 ≤ x / 32 := by omega
    have q4 : x / 32 ≤ 2305843009213693951 := by omega
    have hn : ¬ x < 0 := by omega
    have HK := Lib.hid hk
    clear hk
    go_enter Try.func84, Try.ntmps84
    have H_1 := Lib.hid (Blk.new_at (w := w.alloc (.cells #[.int .i64 0, .int .i64 0, .int .i64 0] 42)) (cs := #[.int .i64 (x % 4), .int .i64 (x / 4 % 8), .int .i64 (x / 32)]) (t := 42) (w.heap.size + 1) (by simp))
    have R_1 := Lib.hid ((Blk.new_at (w := w) (cs := #[.int .i64 0, .int .i64 0, .int .i64 0]) (t := 42) w.heap.size rfl).alloc (.cells #[.int .i64 (x % 4), .int .i64 (x / 4 % 8), .int .i64 (x / 32)] 42))
    have HB1 := Lib.hid (((Below.refl w.heap.size w).alloc (Nat.le_refl _) (.cells #[.int .i64 0, .int .i64 0, .int .i64 0] 42)).alloc (by simp) (.cells #[.int .i64 (x % 4), .int .i64 (x / 4 % 8), .int .i64 (x / 32)] 42))
    go_wp2_with fail
    generalize (w.alloc (.cells #[.int .i64 0, .int .i64 0, .int .i64 0] 42)).alloc (.cells #[.int .i64 (x % 4), .int .i64 (x / 4 % 8), .int .i64 (x / 32)] 42) = w1 at *
    have H_d := Lib.hid H_1.out.drew; have R_d := Lib.hid R_1.out.drew; have HB_d := Lib.hid HB1.out.drew
    have f0 := R_d.out.free 0 rfl; have f1 := R_d.out.free 1 rfl; have f2 := R_d.out.free 2 rfl; have lR := R_d.out.1
    have r0 := R_d.out.at 0 rfl; have r1 := R_d.out.at 1 rfl; have r2 := R_d.out.at 2 rfl
    have e0 := R_1.out.free 0 rfl; have e1' := R_1.out.free 1 rfl; have e2' := R_1.out.free 2 rfl; have lR1 := R_1.out.1
    have s0 := R_1.out.at 0 rfl; have s1 := R_1.out.at 1 rfl; have s2 := R_1.out.at 2 rfl
    have hr' : r = decide (1 ≤ x / 32 ∧ x / 32 ≤ 99) := by
      rw [hr]
      rcases HK.out with ⟨⟨_, h1, h2⟩, rfl, _⟩ | ⟨hno, rfl, _⟩
      · simp [h1, h2]
      · have : ¬ (1 ≤ x / 32 ∧ x / 32 ≤ 99) := fun h => hno ⟨h0, h⟩
        simp only [this, decide_false]; rfl
    have hin : ∀ W, Calls Try.prog 82 #[.int .i64 (x / 32), .int .i64 1, .int .i64 99] W fun e w' => e = .returned (.bool r) ∧ W = w' := fun W => by
      by_cases h : 1 ≤ x / 32 ∧ x / 32 ≤ 99
      · rw [hr', decide_eq_true h]; exact l1In_yes _ _ _ _ h.1 h.2
      · rw [hr', decide_eq_false h]; exact l1In_no _ _ _ _ h
    have HIN := Lib.hid hin
    clear hr' hin
    go_region_held3 (fun w' => w'.cell? ⟨w.heap.size + 1, 0, none⟩ = some (.int .i64 (x % 4)) ∧ w'.cell? ⟨w.heap.size + 1, 1, none⟩ = some (.int .i64 (x / 4 % 8)) ∧ w'.cell? ⟨w.heap.size + 1, 2, none⟩ = some (.int .i64 (x / 32)))
      (first | (with_reducible exact ⟨H_1.out.at 0 rfl, H_1.out.at 1 rfl, H_1.out.at 2 rfl⟩) | (with_reducible exact ⟨H_d.out.at 0 rfl, H_d.out.at 1 rfl, H_d.out.at 2 rfl⟩) | (exact ⟨(((H_d.out.other (p := ⟨w.heap.size, 0, none⟩) (by simp) _).other (p := ⟨w.heap.size, 1, none⟩) (by simp) _).other (p := ⟨w.heap.size, 2, none⟩) (by simp) _).at 0 rfl, (((H_d.out.other (p := ⟨w.heap.size, 0, none⟩) (by simp) _).other (p := ⟨w.heap.size, 1, none⟩) (by simp) _).other (p := ⟨w.heap.size, 2, none⟩) (by simp) _).at 1 rfl, (((H_d.out.other (p := ⟨w.heap.size, 0, none⟩) (by simp) _).other (p := ⟨w.heap.size, 1, none⟩) (by simp) _).other (p := ⟨w.heap.size, 2, none⟩) (by simp) _).at 2 rfl⟩))
      (first | (go_at_call 82; refine (HIN.out _).mono ?_; rintro e w2 ⟨rfl, rfl⟩))
    go_wp2
    refine bodyPost_ret (v := .tuple #[.agg #[.int .i64 (x % 4), .int .i64 (x / 4 % 8), .int .i64 (x / 32)], .bool (decide (c = 0))]) (by simp [results, Try.results84, go_sem, s0, s1, s2]) rfl ⟨⟨x % 4, x / 4 % 8, x / 32, by rw [hr], fun h => ?_⟩, ?_⟩
    · rcases HK.out with ⟨_, _, k1, k2, k3⟩ | ⟨_, k, _⟩
      · exact ⟨k1.symm, k2.symm, k3.symm⟩
      · omega
    · repeat (first | (with_reducible refine Below.setCell ?_ (by (try simp); (try omega)) _) | (with_reducible refine Below.alloc ?_ (by (try simp); (try omega)) _) | (with_reducible refine Below.drew ?_))
      exact HB1.out
  · obtain rfl : c = 6 := by
      rcases hk with ⟨⟨h, _⟩, _⟩ | ⟨_, h, _⟩
      · exact absurd h h0
      · exact h
    obtain rfl : r = false := hr
    have hn : x < 0 := by omega
    clear hk
    go_enter Try.func84, Try.ntmps84
    go_wp2
    refine bodyPost_ret (v := .tuple #[.agg #[.int .i64 0, .int .i64 0, .int .i64 0], .bool false]) (by simp [results, Try.results84, go_sem]) rfl ⟨⟨0, 0, 0, rfl⟩, ?_⟩
    repeat (first | (with_reducible refine Below.setCell ?_ (by (try simp); (try omega)) _) | (with_reducible refine Below.alloc ?_ (by (try simp); (try omega)) _) | (with_reducible refine Below.drew ?_))
    exact Below.refl _ _

set_option maxRecDepth 100000 in
set_option maxHeartbeats 800000 in
theorem specRHa_any (x c t s g : Int) (w : World) (hx : I64 x) (hk : IsRHa x c t s g) :
    Calls Try.prog 27 #[.int .i64 x] w (RetRHa w c t s g) := by
  have HK := Lib.hid hk
  go_enter Try.func27, Try.ntmps27
  go_wp2_with fail
  refine (l5Handle_any x c t s g (decide (c = 0)) _ hx hk rfl).mono ?_
  rintro e w1 ⟨⟨a, b, d, rfl, hv⟩, hb⟩
  have HB1 := Lib.hid (thru1 (Below.refl w.heap.size w) hb)
  have R_1 := Lib.hid ((Blk.new_at (w := w) (cs := #[.int .i64 0, .int .i64 0, .int .i64 0, .int .i64 0]) (t := 47) w.heap.size rfl).below hb)
  have z1 : w.heap.size + 1 ≤ w1.heap.size := by have := R_1.out.1; omega
  clear hb hk
  have r0 := R_1.out.at 0 rfl; have r1 := R_1.out.at 1 rfl; have r2 := R_1.out.at 2 rfl; have r3 := R_1.out.at 3 rfl; have f0 := R_1.out.free 0 rfl; have f1 := R_1.out.free 1 rfl; have f2 := R_1.out.free 2 rfl; have f3 := R_1.out.free 3 rfl; have lR := R_1.out.1
  by_cases h0 : c = 0
  · obtain ⟨rfl, rfl, rfl⟩ := hv h0
    subst h0
    clear hv hx
    have hdc : decide ((0 : Int) = 0) = true := rfl
    rw [hdc]
    go_wp2
    refine bodyPost_ret (v := .agg #[.int .i64 0, .int .i64 a, .int .i64 b, .int .i64 d]) (by simp [results, Try.results27, go_sem, r0, r1, r2, r3, lR, World.cell?_alloc_past]) rfl ⟨rfl, ?_⟩
    repeat (first | (with_reducible refine Below.setCell ?_ (by (try simp); (try omega)) _) | (with_reducible refine Below.alloc ?_ (by (try simp); (try omega)) _) | (with_reducible refine Below.drew ?_))
    exact HB1.out
  · have hfin : c = 6 ∧ t = 0 ∧ s = 0 ∧ g = 0 := by
      rcases HK.out with ⟨_, k, _⟩ | ⟨_, k1, k2, k3, k4⟩
      · exact absurd k h0
      · exact ⟨k1, k2, k3, k4⟩
    obtain ⟨rfl, rfl, rfl, rfl⟩ := hfin
    clear hv hx h0
    have hdc : decide ((6 : Int) = 0) = false := rfl
    rw [hdc]
    go_wp2
    refine bodyPost_ret (v := .agg #[.int .i64 6, .int .i64 0, .int .i64 0, .int .i64 0]) (by simp [results, Try.results27, go_sem, r0, r1, r2, r3, lR, World.cell?_alloc_past]) rfl ⟨rfl, ?_⟩
    repeat (first | (with_reducible refine Below.setCell ?_ (by (try simp); (try omega)) _) | (with_reducible refine Below.alloc ?_ (by (try simp); (try omega)) _) | (with_reducible refine Below.drew ?_))
    exact HB1.out
end Go.Proofs.Ytbhjmomphajnnaa

namespace Go.Proofs.Ytbhjmomphajnnaa
open Go.RowKit
set_option linter.unusedVariables false

/-- A node whose numbers are right. -/
def Neat (t : GM) : Prop := (1 ≤ t.at_ ∧ t.at_ ≤ 9999) ∧ HOk t.s t.m 0 t.h

/-- The code of a node. -/
def IsNode (t : GM) (c : Int) : Prop :=
  (¬ Neat t ∧ c = 3) ∨ (Neat t ∧ ¬ (t.n : Int) = t.s ∧ c = 2) ∨ (Neat t ∧ (t.n : Int) = t.s ∧ ¬ (∀ k, k < t.n → Word (t.f k)) ∧ c = 3) ∨ (Neat t ∧ (t.n : Int) = t.s ∧ (∀ k, k < t.n → Word (t.f k)) ∧ c = 0)

theorem isNode_some (t : GM) : ∃ c, IsNode t c := by
  by_cases h1 : Neat t
  · by_cases h2 : (t.n : Int) = t.s
    · by_cases h3 : ∀ k, k < t.n → Word (t.f k)
      · exact ⟨0, .inr (.inr (.inr ⟨h1, h2, h3, rfl⟩))⟩
      · exact ⟨3, .inr (.inr (.inl ⟨h1, h2, h3, rfl⟩))⟩
    · exact ⟨2, .inr (.inl ⟨h1, h2, rfl⟩)⟩
  · exact ⟨3, .inl ⟨h1, rfl⟩⟩

theorem isNode_zero {t : GM} (h : IsNode t 0) : Neat t ∧ (t.n : Int) = t.s ∧ ∀ k, k < t.n → Word (t.f k) := by
  rcases h with ⟨_, h⟩ | ⟨_, _, h⟩ | ⟨_, _, _, h⟩ | ⟨h1, h2, h3, _⟩
  · omega
  · omega
  · omega
  · exact ⟨h1, h2, h3⟩

theorem isNode_one {t : GM} {c c' : Int} (h : IsNode t c) (h' : IsNode t c') : c = c' := by
  rcases h with ⟨a1, rfl⟩ | ⟨a1, a2, rfl⟩ | ⟨a1, a2, a3, rfl⟩ | ⟨a1, a2, a3, rfl⟩ <;> rcases h' with ⟨b1, rfl⟩ | ⟨b1, b2, rfl⟩ | ⟨b1, b2, b3, rfl⟩ | ⟨b1, b2, b3, rfl⟩ <;> first | rfl | exact absurd b1 a1 | exact absurd a1 b1 | exact absurd b2 a2 | exact absurd a2 b2 | exact absurd b3 a3 | exact absurd a3 b3

/-- The first code of a row of nodes, or none. -/
def IsNodes (T : Nat → GM) (K : Nat) (c : Int) : Prop := (c = 0 ∧ ∀ i, i < K → IsNode (T i) 0) ∨ (¬ c = 0 ∧ ∃ i, i < K ∧ (∀ j, j < i → IsNode (T j) 0) ∧ IsNode (T i) c)

theorem isNodes_some (T : Nat → GM) : ∀ K, ∃ c, IsNodes T K c
  | 0 => ⟨0, .inl ⟨rfl, fun i hi => by omega⟩⟩
  | K + 1 => by
    obtain ⟨c, ⟨rfl, h⟩ | ⟨hc, i, hi, h1, h2⟩⟩ := isNodes_some T K
    · obtain ⟨c, hc⟩ := isNode_some (T K)
      by_cases h0 : c = 0
      · subst h0
        refine ⟨0, .inl ⟨rfl, fun i hi => ?_⟩⟩
        rcases Nat.lt_succ_iff_lt_or_eq.mp hi with h1 | rfl
        · exact h i h1
        · exact hc
      · exact ⟨c, .inr ⟨h0, K, Nat.lt_succ_self K, h, hc⟩⟩
    · exact ⟨c, .inr ⟨hc, i, by omega, h1, h2⟩⟩

theorem isNodes_zero {T : Nat → GM} {K : Nat} (h : IsNodes T K 0) : ∀ i, i < K → IsNode (T i) 0 := by
  rcases h with ⟨_, h⟩ | ⟨h, _⟩
  · exact h
  · exact absurd rfl h

/-- The first node that is not right has the code. -/
theorem isNodes_hit {T : Nat → GM} {K i : Nat} {c c' : Int} (h : IsNodes T K c) (hi : i < K) (hp : ∀ j, j < i → IsNode (T j) 0) (h' : IsNode (T i) c') (h0 : ¬ c' = 0) : c = c' := by
  rcases h with ⟨rfl, h⟩ | ⟨hc, j, hj, h1, h2⟩
  · exact absurd (isNode_one h' (h i hi)) h0
  · rcases Nat.lt_trichotomy i j with hij | rfl | hij
    · exact absurd (isNode_one h' (h1 i hij)) h0
    · exact isNode_one h2 h'
    · exact absurd (isNode_one h2 (hp j hij)) hc

theorem isNodes_all {T : Nat → GM} {K : Nat} {c : Int} (h : IsNodes T K c) (hp : ∀ j, j < K → IsNode (T j) 0) : c = 0 := by
  rcases h with ⟨rfl, _⟩ | ⟨hc, j, hj, _, h2⟩
  · rfl
  · exact absurd (isNode_one h2 (hp j hj)) hc

def MNum (te qu ha : Int) : Prop := (0 ≤ te ∧ te ≤ 3) ∧ (2 ≤ qu ∧ qu ≤ 200) ∧ (0 ≤ ha ∧ ha ≤ 99999)

def MLen (M K : Nat) : Prop := (1 ≤ (M : Int) ∧ (M : Int) ≤ 8) ∧ (0 ≤ (K : Int) ∧ (K : Int) ≤ 150)

def MSlot (M : Nat) (S : Nat → SL) : Prop := ∀ i, i < M → (0 ≤ (S i).g ∧ (S i).g ≤ 99) ∧ (0 ≤ (S i).nd ∧ (S i).nd ≤ 9999)

def MRise (K : Nat) (T : Nat → GM) : Prop := ∀ i, i + 1 < K → (T i).at_ < (T (i + 1)).at_

/-- There is a node of this number. -/
def Has (K : Nat) (T : Nat → GM) (v : Int) : Prop := ∃ j, j < K ∧ (T j).at_ = v

/-- A field that is a pointer. -/
def IsP (t : GM) (k : Nat) : Prop := t.m / P2 (k : Int) % 2 = 1

def MLead (M : Nat) (S : Nat → SL) (K : Nat) (T : Nat → GM) : Prop := (∀ i, i < M → (S i).nd = 0 ∨ Has K T (S i).nd) ∧ ∀ i, i < K → ∀ k, k < (T i).n → IsP (T i) k → (T i).f k = 0 ∨ Has K T ((T i).f k)

def MGive (M : Nat) (S : Nat → SL) : Prop := ∀ i, i < M → (S i).nd = 0 ∨ ¬ (S i).g = 0

/-- The code of a machine. -/
def IsMF (te qu ha : Int) (M : Nat) (S : Nat → SL) (K : Nat) (T : Nat → GM) (c : Int) : Prop :=
  (¬ MNum te qu ha ∧ c = 3) ∨ (MNum te qu ha ∧ ((¬ MLen M K ∧ c = 2) ∨ (MLen M K ∧ ((¬ MSlot M S ∧ c = 3) ∨ (MSlot M S ∧ ((IsNodes T K c ∧ ¬ c = 0) ∨ (IsNodes T K 0 ∧ ((¬ MRise K T ∧ c = 1) ∨ (MRise K T ∧ ((¬ MLead M S K T ∧ c = 4) ∨ (MLead M S K T ∧ ((¬ MGive M S ∧ c = 8) ∨ (MGive M S ∧ c = 0)))))))))))))

theorem isMF_some (te qu ha : Int) (M : Nat) (S : Nat → SL) (K : Nat) (T : Nat → GM) : ∃ c, IsMF te qu ha M S K T c := by
  by_cases h1 : MNum te qu ha
  · by_cases h2 : MLen M K
    · by_cases h3 : MSlot M S
      · obtain ⟨c, h4⟩ := isNodes_some T K
        by_cases h0 : c = 0
        · subst h0
          by_cases h5 : MRise K T
          · by_cases h6 : MLead M S K T
            · by_cases h7 : MGive M S
              · exact ⟨0, .inr ⟨h1, .inr ⟨h2, .inr ⟨h3, .inr ⟨h4, .inr ⟨h5, .inr ⟨h6, .inr ⟨h7, rfl⟩⟩⟩⟩⟩⟩⟩⟩
              · exact ⟨8, .inr ⟨h1, .inr ⟨h2, .inr ⟨h3, .inr ⟨h4, .inr ⟨h5, .inr ⟨h6, .inl ⟨h7, rfl⟩⟩⟩⟩⟩⟩⟩⟩
            · exact ⟨4, .inr ⟨h1, .inr ⟨h2, .inr ⟨h3, .inr ⟨h4, .inr ⟨h5, .inl ⟨h6, rfl⟩⟩⟩⟩⟩⟩⟩
          · exact ⟨1, .inr ⟨h1, .inr ⟨h2, .inr ⟨h3, .inr ⟨h4, .inl ⟨h5, rfl⟩⟩⟩⟩⟩⟩
        · exact ⟨c, .inr ⟨h1, .inr ⟨h2, .inr ⟨h3, .inl ⟨h4, h0⟩⟩⟩⟩⟩
      · exact ⟨3, .inr ⟨h1, .inr ⟨h2, .inl ⟨h3, rfl⟩⟩⟩⟩
    · exact ⟨2, .inr ⟨h1, .inl ⟨h2, rfl⟩⟩⟩
  · exact ⟨3, .inl ⟨h1, rfl⟩⟩

/-- A machine that is right. -/
structure MOk (te qu ha : Int) (M : Nat) (S : Nat → SL) (K : Nat) (T : Nat → GM) : Prop where
  num : MNum te qu ha
  len : MLen M K
  slot : MSlot M S
  node : ∀ i, i < K → IsNode (T i) 0
  rise : MRise K T
  lead : MLead M S K T
  give : MGive M S

theorem isMF_zero {te qu ha : Int} {M : Nat} {S : Nat → SL} {K : Nat} {T : Nat → GM} (h : IsMF te qu ha M S K T 0) : MOk te qu ha M S K T := by
  rcases h with ⟨_, h⟩ | ⟨h1, ⟨_, h⟩ | ⟨h2, ⟨_, h⟩ | ⟨h3, ⟨_, h⟩ | ⟨h4, ⟨_, h⟩ | ⟨h5, ⟨_, h⟩ | ⟨h6, ⟨_, h⟩ | ⟨h7, _⟩⟩⟩⟩⟩⟩⟩
  · omega
  · omega
  · omega
  · exact absurd rfl h
  · omega
  · omega
  · omega
  · exact ⟨h1, h2, h3, isNodes_zero h4, h5, h6, h7⟩

theorem rise_lt {K : Nat} {T : Nat → GM} (h : MRise K T) : ∀ j i, i < j → j < K → (T i).at_ < (T j).at_
  | 0, i, hi, _ => by omega
  | j + 1, i, hi, hj => by
    have h1 := h j hj
    rcases Nat.lt_succ_iff_lt_or_eq.mp hi with h2 | rfl
    · have := rise_lt h j i h2 (by omega); omega
    · exact h1
end Go.Proofs.Ytbhjmomphajnnaa

namespace Go.Proofs.Ytbhjmomphajnnaa
open Go.RowKit
set_option linter.unusedVariables false

set_option maxRecDepth 100000 in
set_option maxHeartbeats 400000 in
theorem l5Head_any (b o : Nat) (t : GM) (w : World) (hB : FivG w b o t) (hl : b < w.heap.size) :
    Calls Try.prog 204 #[.pointer (some ⟨b, o, none⟩)] w fun e w' => e = .returned (.agg #[.int .i64 t.s, .int .i64 t.m, .int .i64 0, .int .i64 t.h]) ∧ Below w.heap.size w w' := by
  obtain ⟨x0, x1, x2, x3, x4⟩ := hB
  go_enter Try.func204, Try.ntmps204
  go_wp2
  go_region
  go_wp2
  refine bodyPost_ret (v := .agg #[.int .i64 t.s, .int .i64 t.m, .int .i64 0, .int .i64 t.h]) (by simp [results, Try.results204, go_sem]) rfl ⟨rfl, ?_⟩
  repeat (first | (with_reducible refine Below.setCell ?_ (by (try simp); (try omega)) _) | (with_reducible refine Below.alloc ?_ (by (try simp); (try omega)) _) | (with_reducible refine Below.drew ?_))
  exact Below.refl _ _

set_option maxRecDepth 100000 in
set_option maxHeartbeats 800000 in
theorem l5Node_id (b o : Nat) (t : GM) (w : World) (hB : FivG w b o t) (hl : b < w.heap.size) (h0 : ¬ (1 ≤ t.at_ ∧ t.at_ ≤ 9999)) :
    Calls Try.prog 152 #[.pointer (some ⟨b, o, none⟩)] w (RetInt w 3) := by
  obtain ⟨x0, x1, x2, x3, x4⟩ := hB
  have H0 := Lib.hid h0
  clear h0
  go_enter Try.func152, Try.ntmps152
  go_wp2_with fail
  refine (l1In_no t.at_ 1 9999 _ H0.out).mono ?_
  rintro e w' ⟨rfl, rfl⟩
  go_wp2
  go_ret
  exact ⟨rfl, Below.refl _ _⟩

set_option maxRecDepth 100000 in
set_option maxHeartbeats 1600000 in
theorem l5Node_head (b o : Nat) (t : GM) (c0 c : Int) (w : World) (hB : FivG w b o t) (hl : b < w.heap.size) (hs : Src w t.a t.n t.f) (hn : t.n ≤ 1048576) (h0 : 1 ≤ t.at_ ∧ t.at_ ≤ 9999) (hf : IsHF t.s t.m 0 t.h c0) (hk : IsNode t c) :
    Calls Try.prog 152 #[.pointer (some ⟨b, o, none⟩)] w (RetInt w c) := by
  have X1 := Lib.hid hB
  have X2 := Lib.hid (hB.below (Below.refl _ _).drew hl)
  have HK := Lib.hid hk; have HF := Lib.hid hf; have S1 := Lib.hid hs
  obtain ⟨x0, x1, x2, x3, x4⟩ := hB
  clear hk hf hs
  have HI := Lib.hid h0
  obtain ⟨g1, g2⟩ := h0
  go_enter Try.func152, Try.ntmps152
  go_wp2_with fail
  go_wp2_with fail
  refine (l1In_yes t.at_ 1 9999 _ g1 g2).mono ?_
  rintro e w' ⟨rfl, rfl⟩
  go_wp2_with fail
  refine (l5Head_any b o t _ X1.out hl).mono ?_
  rintro e w1 ⟨rfl, hb⟩
  have HB1 := Lib.hid hb
  have X3 := Lib.hid (X1.out.below hb hl)
  clear hb
  go_wp2_with fail
  refine (specHF_any t.s t.m 0 t.h c0 _ HF.out).mono ?_
  rintro e w2 ⟨rfl, hb⟩
  have HB2 := Lib.hid (thru0 HB1.out hb)
  have z1 := HB1.out.size
  have X4 := Lib.hid (X3.out.below hb (by omega))
  have S2 := Lib.hid (S1.out.below HB2.out)
  clear hb X3 X2 HB1
  by_cases h3 : c0 = 0
  · subst h3
    have HN : Hid (Neat t) := Lib.hid (by
      rcases HF.out with ⟨h, _⟩ | ⟨_, h⟩
      · exact ⟨HI.out, h⟩
      · omega)
    clear HF x0 x1 x2 x3 x4
    obtain ⟨x0, x1, x2, x3, x4⟩ := X4.out
    have l2 : b < w2.heap.size := by have := HB2.out.size; omega
    by_cases h4 : (t.n : Int) = t.s
    · have h4' : ((t.n : Int) != t.s) = false := by simpa using h4
      go_wp2
      go_region
      go_wp2
      have HB3 := Lib.hid HB2.out.drew
      have X5 := Lib.hid (X4.out.below (Below.refl _ _).drew l2)
      have S3 := Lib.hid (S2.out.below (Below.refl _ _).drew)
      clear HB2 X4 S2 x0 x1 x2 x3 x4 X1 S1
      have H4 := Lib.hid h4
      clear h4 h4'
      obtain ⟨ta, hta⟩ : ∃ ta, t.a = ta := ⟨_, rfl⟩
      have HTA := Lib.hid hta
      rw [hta]
      have S4 : Hid (Src w2.drew ta t.n t.f) := Lib.hid (by rw [← hta]; exact S3.out)
      clear hta S3
      go_loopw [2, 3] (fun _ p wr => ∃ i : Nat, i ≤ t.n ∧ p = .int .i64 (i : Int) ∧ Hid (Below w.heap.size w wr) ∧ Hid (FivG wr b o t) ∧ Hid (Src wr ta t.n t.f) ∧ Hid (∀ k, k < i → Word (t.f k)) ∧ b < wr.heap.size) (fun _ p _ => t.n - (intOf p).toNat)
      case atStart => exact ⟨0, Nat.zero_le _, rfl, HB3, X5, S4, fun k hk => by omega, by simpa using l2⟩
      case round =>
        obtain ⟨i, hi, rfl, HBr, XR, SR, HW, lr⟩ := hrel
        obtain ⟨x0, x1, x2, x3, x4⟩ := XR.out
        rw [HTA.out] at x4
        by_cases hlt : i < t.n
        · have hlt' : (i : Int) < (t.n : Int) := by omega
          have hi0 : (0 : Int) ≤ (i : Int) := by omega
          rcases SR.out with h0 | ⟨b', o', rfl, hb', hc'⟩
          · omega
          have hci := hc' i hlt
          by_cases hw : Word (t.f i)
          · have HW' : Hid (∀ k, k < i + 1 → Word (t.f k)) := Lib.hid fun k hk => by
              rcases Nat.lt_succ_iff_lt_or_eq.mp hk with h1 | h1
              · exact HW.out k h1
              · subst h1; exact hw
            clear HW
            go_wp2_with fail
            refine (l1Value_yes (t.f i) _ hw).mono ?_
            rintro e w' ⟨rfl, rfl⟩
            go_wp2
            go_roundw
            case rel => first | exact ⟨i + 1, by omega, by go_num, HBr, XR, SR, HW', lr⟩ | ((repeat apply Exists.intro); exact ⟨⟨i + 1, by omega, by go_num, HBr, XR, SR, HW', lr⟩, rfl⟩)
            case measure => simp [intOf]; omega
          · have HC : Hid (c = 3) := Lib.hid (by
              rcases HK.out with ⟨h, _⟩ | ⟨_, h, _⟩ | ⟨_, _, _, h⟩ | ⟨_, _, h, _⟩
              · exact absurd HN.out h
              · exact absurd H4.out h
              · exact h
              · exact absurd (h i hlt) hw)
            obtain rfl := HC.out
            clear HK HW
            go_wp2_with fail
            refine (l1Value_no (t.f i) _ hw).mono ?_
            rintro e w' ⟨rfl, rfl⟩
            go_wp2
            go_ret
            exact ⟨rfl, HBr.out⟩
        · have HC : Hid (c = 0) := Lib.hid (by
            rcases HK.out with ⟨h, _⟩ | ⟨_, h, _⟩ | ⟨_, _, h, _⟩ | ⟨_, _, _, h⟩
            · exact absurd HN.out h
            · exact absurd H4.out h
            · exact absurd (fun k hk => HW.out k (by omega)) h
            · exact h)
          obtain rfl := HC.out
          clear HK HW
          go_wp2
          go_ret
          exact ⟨rfl, HBr.out⟩
    · have h4' : ((t.n : Int) != t.s) = true := by simpa using h4
      have HC : Hid (c = 2) := Lib.hid (by
        rcases HK.out with ⟨h, _⟩ | ⟨_, _, h⟩ | ⟨_, h, _⟩ | ⟨_, h, _⟩
        · exact absurd HN.out h
        · exact h
        · exact absurd h h4
        · exact absurd h h4)
      obtain rfl := HC.out
      clear h4 HK
      go_wp2
      go_region
      go_wp2
      go_ret
      exact ⟨rfl, HB2.out.drew⟩
  · have HC : Hid (c = 3) := Lib.hid (by
      have hno : ¬ Neat t := fun h => by
        rcases HF.out with ⟨_, h5⟩ | ⟨h5, _⟩
        · exact h3 h5
        · exact h5 h.2
      rcases HK.out with ⟨_, h⟩ | ⟨h, _⟩ | ⟨h, _⟩ | ⟨h, _⟩
      · exact h
      · exact absurd h hno
      · exact absurd h hno
      · exact absurd h hno)
    have h3' : (c0 != 0) = true := by simpa using h3
    obtain rfl := HC.out
    clear HK HF
    go_wp2
    go_ret
    exact ⟨rfl, HB2.out⟩

/-- The code of a node of a row. -/
theorem l5Node_any (b o : Nat) (t : GM) (c : Int) (w : World) (hB : FivG w b o t) (hl : b < w.heap.size) (hs : Src w t.a t.n t.f) (hn : t.n ≤ 1048576) (hk : IsNode t c) :
    Calls Try.prog 152 #[.pointer (some ⟨b, o, none⟩)] w (RetInt w c) := by
  by_cases h0 : 1 ≤ t.at_ ∧ t.at_ ≤ 9999
  · obtain ⟨c0, hf⟩ := isHF_some t.s t.m 0 t.h
    exact l5Node_head b o t c0 c w hB hl hs hn h0 hf hk
  · obtain rfl : c = 3 := by
      have hno : ¬ Neat t := fun h => h0 h.1
      rcases hk with ⟨_, h⟩ | ⟨h, _⟩ | ⟨h, _⟩ | ⟨h, _⟩
      · exact h
      · exact absurd h hno
      · exact absurd h hno
      · exact absurd h hno
    exact l5Node_id b o t w hB hl h0
end Go.Proofs.Ytbhjmomphajnnaa

