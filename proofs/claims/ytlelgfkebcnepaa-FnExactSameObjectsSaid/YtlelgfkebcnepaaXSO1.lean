/- Texts merged: A1 to Q17. -/
import Derived.Test.YtlelgfkebcnepaaRows
import Derived.WalkKit
import Derived.WalkSpells
import Derived.WalkLawsBesides
import Derived.Deep.QuietTactic
import Derived.BigQuiet
import Derived.Deep.RegionHeld3
import Derived.Lib.Hide
import Derived.Laws.AppendOwnNone
import Derived.Lib.AppendZeros
import Derived.Lib.SliceRun
import Derived.Lib.Walk
import Derived.Deep.Cut
import Derived.Deep.Upon
import Derived.Defers
import Derived.Recover
import Derived.Laws.Pointers
import Derived.StillTailTactics
import Derived.Deep.RegionLaw
import Derived.ProofKit
import Derived.Lib.SmallJoins
import Derived.OpenShut
import Derived.Deep.AppendLies
import Derived.Deep.DeepCutAuto
import Derived.Deep.Slices
import Derived.Deep.LoopGhost
import Derived.Shelf.Abstract
import Derived.RangeFuncNested
import Derived.RangeFuncBound
import Derived.RangeFuncCalls
import Derived.RangeFuncLeaves
import Derived.Shelf.RegionOpen
import Derived.OwnWalkIn
import Derived.TacticsInMore
import Derived.LoopNIn
import Derived.LoopIn
import Derived.Maps.OwnIn
import Derived.Maps.AppendAt
namespace Go.Proofs.Ytlelgfkebcnepaa
open Go.RowKit
set_option linter.unusedVariables false

set_option maxRecDepth 100000 in
set_option maxHeartbeats 400000 in
theorem szInts_ok (a : Option Addr) (n cap : Nat) (l : Int) (w : World) (hl0 : 0 ≤ l) (hl : l ≤ 1048576) (hn : n ≤ maxLen) (h : n ≤ l) :
    Calls Try.prog 87 #[.slice a n cap, .int .i64 l] w fun e w' => e = .returned (.int .i64 (l - n)) ∧ w = w' := by
  unfold maxLen at hn
  go_enter Try.func87, Try.ntmps87
  go_wp2
  go_ret
  exact ⟨rfl, rfl⟩

set_option maxRecDepth 100000 in
set_option maxHeartbeats 400000 in
theorem szInts_no (a : Option Addr) (n cap : Nat) (l : Int) (w : World) (hl0 : 0 ≤ l) (hl : l ≤ 1048576) (hn : n ≤ maxLen) (h : l < n) :
    Calls Try.prog 87 #[.slice a n cap, .int .i64 l] w fun e w' => e = .returned (.int .i64 (-1)) ∧ w = w' := by
  unfold maxLen at hn
  go_enter Try.func87, Try.ntmps87
  go_wp2
  go_ret
  exact ⟨rfl, rfl⟩
end Go.Proofs.Ytlelgfkebcnepaa

namespace Go.Proofs.Ytlelgfkebcnepaa
open Go.RowKit
set_option linter.unusedVariables false

/-- The first n cells at a hold f. -/
def Src (w : World) (a : Option Addr) (n : Nat) (f : Nat → Int) : Prop :=
  n = 0 ∨ ∃ b off, a = some ⟨b, off, none⟩ ∧ b < w.heap.size ∧ ∀ i, i < n → w.cell? ⟨b, off + i, none⟩ = some (.int .i64 (f i))

/-- The same, in a block from B on, and not frozen. -/
def Own (w : World) (B : Nat) (a : Option Addr) (n : Nat) (f : Nat → Int) : Prop :=
  n = 0 ∨ ∃ b off, a = some ⟨b, off, none⟩ ∧ B ≤ b ∧ b < w.heap.size ∧ ∀ i, i < n → w.cell? ⟨b, off + i, none⟩ = some (.int .i64 (f i)) ∧ w.frozen? ⟨b, off + i, none⟩ = false

theorem Own.src {w : World} {B : Nat} {a : Option Addr} {n : Nat} {f : Nat → Int} (h : Own w B a n f) : Src w a n f := by
  rcases h with h | ⟨b, off, h1, _, h3, h4⟩
  · exact .inl h
  · exact .inr ⟨b, off, h1, h3, fun i hi => (h4 i hi).1⟩

theorem Src.below {w w' : World} {a : Option Addr} {n : Nat} {f : Nat → Int} (h : Src w a n f) (hb : Below w.heap.size w w') : Src w' a n f := by
  rcases h with h | ⟨b, off, h1, h3, h4⟩
  · exact .inl h
  · exact .inr ⟨b, off, h1, Nat.lt_of_lt_of_le h3 hb.size, fun i hi => (hb.cell (p := ⟨b, off + i, none⟩) h3).trans (h4 i hi)⟩

theorem Own.below {w w' : World} {B : Nat} {a : Option Addr} {n : Nat} {f : Nat → Int} (h : Own w B a n f) (hb : Below w.heap.size w w') : Own w' B a n f := by
  rcases h with h | ⟨b, off, h1, h2, h3, h4⟩
  · exact .inl h
  · exact .inr ⟨b, off, h1, h2, Nat.lt_of_lt_of_le h3 hb.size, fun i hi => ⟨(hb.cell (p := ⟨b, off + i, none⟩) h3).trans (h4 i hi).1, (hb.frozen (p := ⟨b, off + i, none⟩) h3).trans (h4 i hi).2⟩⟩

theorem Own.mono {w : World} {B B' : Nat} {a : Option Addr} {n : Nat} {f : Nat → Int} (h : Own w B a n f) (hB : B' ≤ B) : Own w B' a n f := by
  rcases h with h | ⟨b, off, h1, h2, h3⟩
  · exact .inl h
  · exact .inr ⟨b, off, h1, Nat.le_trans hB h2, h3⟩

theorem Src.at {w : World} {b off n : Nat} {f : Nat → Int} (h : Src w (some ⟨b, off, none⟩) n f) (i : Nat) (hi : i < n) : w.cell? ⟨b, off + i, none⟩ = some (.int .i64 (f i)) := by
  rcases h with h | ⟨b', off', h1, h3, h4⟩
  · omega
  · simp at h1; obtain ⟨rfl, rfl⟩ := h1; exact h4 i hi

theorem Src.congr {w : World} {a : Option Addr} {n : Nat} {f g : Nat → Int} (h : Src w a n f) (e : ∀ i, i < n → f i = g i) : Src w a n g := by
  rcases h with h | ⟨b, off, h1, h3, h4⟩
  · exact .inl h
  · exact .inr ⟨b, off, h1, h3, fun i hi => by rw [h4 i hi, e i hi]⟩

theorem Own.congr {w : World} {B : Nat} {a : Option Addr} {n : Nat} {f g : Nat → Int} (h : Own w B a n f) (e : ∀ i, i < n → f i = g i) : Own w B a n g := by
  rcases h with h | ⟨b, off, h1, h2, h3, h4⟩
  · exact .inl h
  · exact .inr ⟨b, off, h1, h2, h3, fun i hi => by rw [← e i hi]; exact h4 i hi⟩

theorem Src.alloc {w : World} {a : Option Addr} {n : Nat} {f : Nat → Int} (h : Src w a n f) (o : Obj) : Src (w.alloc o) a n f := h.below ((Below.refl _ _).alloc (Nat.le_refl _) o)

theorem Src.drew {w : World} {a : Option Addr} {n : Nat} {f : Nat → Int} (h : Src w a n f) : Src w.drew a n f := h.below (Below.refl _ _).drew

theorem Own.alloc {w : World} {B : Nat} {a : Option Addr} {n : Nat} {f : Nat → Int} (h : Own w B a n f) (o : Obj) : Own (w.alloc o) B a n f := h.below ((Below.refl _ _).alloc (Nat.le_refl _) o)

theorem Own.drew {w : World} {B : Nat} {a : Option Addr} {n : Nat} {f : Nat → Int} (h : Own w B a n f) : Own w.drew B a n f := h.below (Below.refl _ _).drew

theorem Own.setCell {w : World} {B : Nat} {a : Option Addr} {n : Nat} {f : Nat → Int} (h : Own w B a n f) {p : Addr} (hp : p.block < B) (u : Value) : Own (w.setCell p u) B a n f := by
  rcases h with h | ⟨b, off, h1, h2, h3, h4⟩
  · exact .inl h
  · refine .inr ⟨b, off, h1, h2, by simpa using h3, fun i hi => ?_⟩
    have e : (w.setCell p u).heap[b]? = w.heap[b]? := Below.heap_setCell w p u b (by omega)
    exact ⟨(World.cell?_of_block (w := w) (a := ⟨b, off + i, none⟩) e).trans (h4 i hi).1, (World.frozen?_of_block (w := w) (a := ⟨b, off + i, none⟩) e).trans (h4 i hi).2⟩

/-- The cells as a list. -/
def nums (n : Nat) (f : Nat → Int) : List Value := (List.range n).map fun j => .int .i64 (f j)

theorem nums_get (n : Nat) (f : Nat → Int) (j : Nat) (h : j < n) : (nums n f)[j]? = some (.int .i64 (f j)) := by simp [nums, h]

theorem nums_zero (n : Nat) : nums n (fun _ => 0) = List.replicate n (.int .i64 0) := by
  apply List.ext_getElem?
  intro j
  by_cases h : j < n <;> simp [nums, h]

theorem nums_set (n : Nat) (f : Nat → Int) (j : Nat) (v : Int) : (nums n f).set j (.int .i64 v) = nums n (fun i => if i = j then v else f i) := by
  apply List.ext_getElem?
  intro k
  by_cases hk : k < n
  · by_cases e : j = k
    · subst e; simp [nums, hk]
    · have e' : ¬ k = j := fun x => e x.symm
      rw [List.getElem?_set_ne e]; simp [nums, hk, e']
  · rw [List.getElem?_eq_none (by simp [nums]; omega), List.getElem?_eq_none (by simp [nums]; omega)]

theorem nums_congr {n : Nat} {f g : Nat → Int} (h : ∀ i, i < n → f i = g i) : nums n f = nums n g := by
  simp only [nums]; apply List.map_congr_left; intro j hj; simp at hj; rw [h j hj]

/-- Out of the kit's word for a row of the call's own. -/
theorem own_of_row {w : World} {B e n : Nat} {a : Option Addr} {cap : Nat} {f : Nat → Int} (h : w.ownsRow B e 1 (.slice a n cap) n (nums n f)) : Own w B a n f := by
  have h0 := h
  rcases h.2 with ⟨_, h2⟩ | ⟨g, cap', cur, h1, hB, hg, hnc, hcm, hcs, _⟩
  · exact .inl h2
  · simp at h1
    obtain ⟨rfl, rfl⟩ := h1
    refine .inr ⟨g, 0, rfl, hB, ?_, fun i hi => ?_⟩
    · have := Array.getElem?_eq_some_iff.mp hg; exact this.1
    · have := h0.cellAt i (by omega)
      rw [nums_get n f i hi] at this
      exact ⟨by simpa using this, by simpa using h0.frozenAt i⟩

/-- Its value is a slice. -/
theorem row_shape {w : World} {B e n : Nat} {v : Value} {xs : List Value} (h : w.ownsRow B e 1 v n xs) : ∃ a cap, v = .slice a n cap ∧ n ≤ cap ∧ cap ≤ maxLen ∧ (a = none → n = 0 ∧ cap = 0) := by
  rcases h.2 with ⟨h1, h2⟩ | ⟨g, cap', cur, h1, hB, hg, hnc, hcm, hcs, _⟩
  · exact ⟨none, 0, by rw [h1, h2], by omega, by simp [maxLen], fun _ => ⟨h2, rfl⟩⟩
  · exact ⟨_, cap', h1, hnc, hcm, fun h => by simp at h⟩

/-- A call hands back new numbers. -/
def RetInts (W : World) (n : Nat) (f : Nat → Int) (e : Ending) (w' : World) : Prop :=
  ∃ a cap, e = .returned (.slice a n cap) ∧ Own w' W.heap.size a n f ∧ Below W.heap.size W w' ∧ n ≤ cap ∧ cap ≤ maxLen ∧ (a = none → n = 0 ∧ cap = 0)

theorem retInts_of_row {W w' : World} {n : Nat} {f : Nat → Int} {v : Value} {e : Nat} (h : w'.ownsRow W.heap.size e 1 v n (nums n f)) (hb : Below W.heap.size W w') : RetInts W n f (.returned v) w' := by
  obtain ⟨a, cap, rfl, h1, h2, h3⟩ := row_shape h
  exact ⟨a, cap, rfl, own_of_row h, hb, h1, h2, h3⟩
end Go.Proofs.Ytlelgfkebcnepaa

namespace Go.Proofs.Ytlelgfkebcnepaa
open Go.RowKit
set_option linter.unusedVariables false

theorem Try.info2 : (Try.prog.info? 2).map (fun i => (i.zero, i.size, i.bytes)) = some (some (.int .i64 0), 1, 8) := by kernel_rfl

set_option maxRecDepth 100000 in
set_option maxHeartbeats 400000 in
theorem toInts_any (a : Option Addr) (n cap : Nat) (f : Nat → Int) (w : World) (hs : Src w a n f) (hn : n ≤ 1048576) :
    Calls Try.prog 88 #[.slice a n cap] w (RetInts w n f) := by
  obtain ⟨i0, hi, hz0, hz1, hz2⟩ := info_parts Try.info2
  have HS := Lib.hid hs
  clear hs
  go_enter Try.func88, Try.ntmps88
  go_wp2_with (at_make; refine wpList_make_full _ rfl _ _ 24 rfl w.heap.size 2 i0 (.int .i64 0) 1 Try.underlying24 hi hz0 hz1 .i64 .i64 n n n rfl rfl rfl rfl (by rw [hz2]; omega) (by unfold maxLen; omega) (Nat.le_refl _) ?_; intro w1 hown1 hgrow1)
  have hb1 : Below w.heap.size w w1 := (Below.refl _ _).grown hgrow1 (Nat.le_refl _) (by intro k hk; simp at hk)
  have ho1 : w1.ownsRow w.heap.size 2 1 (.slice (some ⟨w.heap.size, 0, none⟩) n n) n (nums n fun _ => 0) := by
    rw [nums_zero, ← toList_madeCells_one]; simpa [Value.cells] using hown1
  clear hown1 hgrow1
  have HB := Lib.hid hb1
  have HO := Lib.hid ho1
  clear hb1 ho1
  go_loopw [4] (fun k wr => ∃ i : Nat, i ≤ n ∧ k = .int .i64 i ∧ Hid (Below w.heap.size w wr) ∧ Hid (wr.ownsRow w.heap.size 2 1 (.slice (some ⟨w.heap.size, 0, none⟩) n n) n (nums n fun j => if j < i then f j else 0))) (fun k _ => n - (intOf k).toNat)
  case atStart => exact ⟨0, Nat.zero_le _, rfl, HB, by simpa using HO⟩
  case round =>
    obtain ⟨i, hi', rfl, HB1, HO1⟩ := hrel
    by_cases hlt : i < n
    · rcases HS.out with h0 | ⟨b, off, rfl, hb, hc⟩
      · omega
      · have c1 : wr.cell? ⟨b, off + i, none⟩ = some (.int .i64 (f i)) := (HB1.out.cell (p := ⟨b, off + i, none⟩) hb).trans (hc i hlt)
        have c2 : wr.frozen? ⟨w.heap.size, i, none⟩ = false := HO1.out.frozenAt i
        have c3 : wr.cell? ⟨w.heap.size, i, none⟩ = some (.int .i64 0) := by
          have := HO1.out.cellAt i (by omega)
          rw [nums_get _ _ _ hlt] at this; simpa using this
        clear hc
        go_wp2
        go_roundw
        case rel =>
          refine ⟨i + 1, by omega, by go_num, HB1.out.setCell (Nat.le_refl _) _, ?_⟩
          have := (HO1.out.stored i (.int .i64 (f i))).1
          rw [nums_set] at this
          have e : nums n (fun j => if j < i + 1 then f j else 0) = nums n (fun j => if j = i then f i else if j < i then f j else 0) :=
            nums_congr fun j hj => by
              by_cases h1 : j = i
              · subst h1; simp
              · have h2 : (j < i + 1) = (j < i) := by simp only [eq_iff_iff]; omega
                simp only [h1, if_false, h2]
          show _root_.Go.World.ownsRow _ _ _ _ _ _ _
          rw [e]; exact this
        case measure => simp [intOf]; omega
    · go_wp2
      go_ret
      obtain rfl : i = n := by omega
      have h := HO1.out
      refine retInts_of_row (f := f) (e := 2) ?_ HB1.out
      have e : nums i f = nums i (fun j => if j < i then f j else 0) := nums_congr fun j hj => by simp [hj]
      rw [e]; exact h
end Go.Proofs.Ytlelgfkebcnepaa

namespace Go.Proofs.Ytlelgfkebcnepaa
open Go.RowKit
set_option linter.unusedVariables false

theorem src_some {w : World} {a : Option Addr} {n : Nat} {f : Nat → Int} (h : Src w a n f) (hp : 0 < n) : ∃ b off, a = some ⟨b, off, none⟩ ∧ b < w.heap.size ∧ ∀ i, i < n → w.cell? ⟨b, off + i, none⟩ = some (.int .i64 (f i)) := by
  rcases h with h | h
  · omega
  · exact h
end Go.Proofs.Ytlelgfkebcnepaa

namespace Go.Proofs.Ytlelgfkebcnepaa
open Go.RowKit
set_option linter.unusedVariables false

/-- Are two rows the same? -/
def eqB (n m : Nat) (f g : Nat → Int) : Bool := decide (n = m ∧ ∀ i, i < n → f i = g i)

theorem eqB_no_len {n m : Nat} {f g : Nat → Int} (h : ¬ n = m) : eqB n m f g = false := by simp [eqB, h]

theorem eqB_no {n : Nat} {f g : Nat → Int} (i : Nat) (hi : i < n) (h : ¬ f i = g i) : eqB n n f g = false := by
  simp only [eqB, true_and, decide_eq_false_iff_not]; exact fun k => h (k i hi)

theorem eqB_yes {n : Nat} {f g : Nat → Int} (h : ∀ i, i < n → f i = g i) : eqB n n f g = true := by
  simp only [eqB, true_and, decide_eq_true_eq]; exact h

theorem eqB_true {n m : Nat} {f g : Nat → Int} (h : eqB n m f g = true) : n = m ∧ ∀ i, i < n → f i = g i := by simpa [eqB] using h

/-- A Bool comes back; nothing that was there is turned. -/
def RetBool (W : World) (r : Bool) (e : Ending) (w' : World) : Prop := e = .returned (.bool r) ∧ Below W.heap.size W w'

theorem below_drewN {B : Nat} {a w : World} (h : Below B a w) (k : Nat) : Below B a (w.drewN k) := h.trans ⟨rfl, rfl, rfl, Nat.le_refl _, fun _ _ => rfl⟩

set_option maxRecDepth 100000 in
set_option maxHeartbeats 400000 in
theorem eqInts_same (a1 a2 : Option Addr) (n c1 c2 : Nat) (f g : Nat → Int) (w : World) (s1 : Src w a1 n f) (s2 : Src w a2 n g) (hn : n ≤ 1048576) :
    Calls Try.prog 89 #[.slice a1 n c1, .slice a2 n c2] w (RetBool w (eqB n n f g)) := by
  have S1 := Lib.hid s1
  have S2 := Lib.hid s2
  clear s1 s2
  go_enter Try.func89, Try.ntmps89
  go_wp2
  go_loopw [5] (fun k wr => ∃ i : Nat, i ≤ n ∧ k = .int .i64 i ∧ Hid (Below w.heap.size w wr) ∧ Hid (∀ j, j < i → f j = g j)) (fun k _ => n - (intOf k).toNat)
  case atStart => exact ⟨0, Nat.zero_le _, rfl, Below.refl _ _, fun j hj => by omega⟩
  case round =>
    obtain ⟨i, hi, rfl, HB, HE⟩ := hrel
    by_cases hlt : i < n
    · obtain ⟨b1, o1, rfl, hb1, hc1⟩ := src_some (S1.out.below HB.out) (by omega)
      obtain ⟨b2, o2, rfl, hb2, hc2⟩ := src_some (S2.out.below HB.out) (by omega)
      have d1 := hc1 i hlt
      have d2 := hc2 i hlt
      have hlt' : (i : Int) < (n : Int) := by omega
      clear hc1 hc2
      by_cases he : f i = g i
      · go_wp2
        go_quiet (fail)
        go_wp2
        go_roundw
        case rel => exact ⟨i + 1, by omega, by go_num, below_drewN HB.out _, fun j hj => by
            rcases Nat.lt_succ_iff_lt_or_eq.mp hj with h | h
            · exact HE.out j h
            · subst h; exact he⟩
        case measure => simp [intOf]; omega
      · have hd2 : (f i != g i) = true := by simpa using he
        go_wp2
        go_quiet (fail)
        go_wp2
        go_ret
        exact ⟨by rw [eqB_no i hlt he]; rfl, below_drewN HB.out _⟩
    · go_wp2
      go_ret
      exact ⟨by rw [eqB_yes fun j hj => HE.out j (by omega)]; rfl, HB.out⟩

set_option maxRecDepth 100000 in
set_option maxHeartbeats 400000 in
theorem slEqual_lens (a1 a2 : Option Addr) (n m c1 c2 : Nat) (w : World) (h : ¬ n = m) :
    Calls Try.prog 72 #[.slice a1 n c1, .slice a2 m c2] w (RetBool w false) := by
  have hd : ((n : Int) == (m : Int)) = false := by simp; omega
  go_enter Try.func72, Try.ntmps72
  go_wp2
  go_ret
  exact ⟨rfl, Below.refl _ _⟩

set_option maxRecDepth 100000 in
set_option maxHeartbeats 400000 in
theorem slEqual_same (a1 a2 : Option Addr) (n c1 c2 : Nat) (f g : Nat → Int) (w : World) (s1 : Src w a1 n f) (s2 : Src w a2 n g) (hn : n ≤ 1048576) :
    Calls Try.prog 72 #[.slice a1 n c1, .slice a2 n c2] w (RetBool w (eqB n n f g)) := by
  have S1 := Lib.hid s1
  have S2 := Lib.hid s2
  clear s1 s2
  go_enter Try.func72, Try.ntmps72
  go_wp2
  go_loopw [13] (fun k wr => ∃ i : Nat, i ≤ n ∧ k = .int .i64 i ∧ Hid (Below w.heap.size w wr) ∧ Hid (∀ j, j < i → f j = g j)) (fun k _ => n - (intOf k).toNat)
  case atStart => exact ⟨0, Nat.zero_le _, rfl, Below.refl _ _, fun j hj => by omega⟩
  case round =>
    obtain ⟨i, hi, rfl, HB, HE⟩ := hrel
    by_cases hlt : i < n
    · obtain ⟨b1, o1, rfl, hb1, hc1⟩ := src_some (S1.out.below HB.out) (by omega)
      obtain ⟨b2, o2, rfl, hb2, hc2⟩ := src_some (S2.out.below HB.out) (by omega)
      have d1 := hc1 i hlt
      have d2 := hc2 i hlt
      have hlt' : (i : Int) < (n : Int) := by omega
      clear hc1 hc2
      by_cases he : f i = g i
      · go_wp2
        go_quiet (fail)
        go_wp2
        go_roundw
        case rel => exact ⟨i + 1, by omega, by go_num, below_drewN HB.out _, fun j hj => by
            rcases Nat.lt_succ_iff_lt_or_eq.mp hj with h | h
            · exact HE.out j h
            · subst h; exact he⟩
        case measure => simp [intOf]; omega
      · have hd2 : (f i != g i) = true := by simpa using he
        go_wp2
        go_quiet (fail)
        go_wp2
        go_ret
        exact ⟨by rw [eqB_no i hlt he]; rfl, below_drewN HB.out _⟩
    · go_wp2
      go_ret
      exact ⟨by rw [eqB_yes fun j hj => HE.out j (by omega)]; rfl, HB.out⟩
end Go.Proofs.Ytlelgfkebcnepaa

namespace Go.Proofs.Ytlelgfkebcnepaa
open Go.RowKit
set_option linter.unusedVariables false

/-- A block of the call's own, known cell by cell. -/
def Blk (w : World) (b : Nat) (cs : List Value) : Prop := b < w.heap.size ∧ ∀ i u, cs[i]? = some u → w.cell? ⟨b, i, none⟩ = some u ∧ w.frozen? ⟨b, i, none⟩ = false

theorem Blk.below {w w' : World} {b : Nat} {cs : List Value} (h : Blk w b cs) (hb : Below w.heap.size w w') : Blk w' b cs :=
  ⟨Nat.lt_of_lt_of_le h.1 hb.size, fun i u hu => ⟨(hb.cell (p := ⟨b, i, none⟩) h.1).trans (h.2 i u hu).1, (hb.frozen (p := ⟨b, i, none⟩) h.1).trans (h.2 i u hu).2⟩⟩

theorem Blk.alloc {w : World} {b : Nat} {cs : List Value} (h : Blk w b cs) (o : Obj) : Blk (w.alloc o) b cs := h.below ((Below.refl _ _).alloc (Nat.le_refl _) o)

theorem Blk.drew {w : World} {b : Nat} {cs : List Value} (h : Blk w b cs) : Blk w.drew b cs := h.below (Below.refl _ _).drew

theorem Blk.new (w : World) (cs : Array Value) (t : TypeId) : Blk (w.alloc (.cells cs t)) w.heap.size cs.toList := by
  refine ⟨by simp, fun i u hu => ?_⟩
  constructor
  · rw [World.cell?_alloc_at _ _ _ _ rfl]; simpa using hu
  · exact World.frozen?_alloc_at _ _ _ _ rfl

theorem Blk.new_at {w : World} {cs : Array Value} {t : TypeId} (b : Nat) (hb : b = w.heap.size) : Blk (w.alloc (.cells cs t)) b cs.toList := hb ▸ Blk.new w cs t

theorem Blk.at {w : World} {b : Nat} {cs : List Value} (h : Blk w b cs) (i : Nat) {u : Value} (hu : cs[i]? = some u) : w.cell? ⟨b, i, none⟩ = some u := (h.2 i u hu).1

theorem Blk.free {w : World} {b : Nat} {cs : List Value} (h : Blk w b cs) (i : Nat) {u : Value} (hu : cs[i]? = some u) : w.frozen? ⟨b, i, none⟩ = false := (h.2 i u hu).2
end Go.Proofs.Ytlelgfkebcnepaa

namespace Go.Proofs.Ytlelgfkebcnepaa
open Go.RowKit
set_option linter.unusedVariables false

/-- Three cells hold one bound. -/
def B3 (w : World) (b o : Nat) (v l g : Int) : Prop :=
  w.cell? ⟨b, o, none⟩ = some (.int .i64 v) ∧ w.cell? ⟨b, o + 1, none⟩ = some (.int .i64 l) ∧ w.cell? ⟨b, o + 2, none⟩ = some (.int .i64 g)

theorem B3.below {w w' : World} {b o : Nat} {v l g : Int} {B : Nat} (h : B3 w b o v l g) (hb : Below B w w') (hlt : b < B) : B3 w' b o v l g :=
  ⟨(hb.cell (p := ⟨b, o, none⟩) hlt).trans h.1, (hb.cell (p := ⟨b, o + 1, none⟩) hlt).trans h.2.1, (hb.cell (p := ⟨b, o + 2, none⟩) hlt).trans h.2.2⟩

-- All bounds hold.
end Go.Proofs.Ytlelgfkebcnepaa

namespace Go.Proofs.Ytlelgfkebcnepaa
open Go.RowKit
set_option linter.unusedVariables false

theorem thru0 {w w1 w2 : World} (h : Below w.heap.size w w1) (hb : Below w1.heap.size w1 w2) : Below w.heap.size w w2 := h.trans (hb.mono h.size)

theorem thru1 {w w1 w2 : World} {o : Obj} (h : Below w.heap.size w w1) (hb : Below (w1.alloc o).heap.size (w1.alloc o) w2) : Below w.heap.size w w2 := thru0 (h.alloc h.size o) hb

theorem thru2 {w w1 w2 : World} {o o' : Obj} (h : Below w.heap.size w w1) (hb : Below ((w1.alloc o).alloc o').heap.size ((w1.alloc o).alloc o') w2) : Below w.heap.size w w2 := thru1 (h.alloc h.size o) hb

theorem thru3 {w w1 w2 : World} {o o' o2 : Obj} (h : Below w.heap.size w w1) (hb : Below (((w1.alloc o).alloc o').alloc o2).heap.size (((w1.alloc o).alloc o').alloc o2) w2) : Below w.heap.size w w2 := thru2 (h.alloc h.size o) hb
end Go.Proofs.Ytlelgfkebcnepaa

namespace Go.Proofs.Ytlelgfkebcnepaa
open Go.RowKit
set_option linter.unusedVariables false

/-- Nothing that was there is turned, but in the blocks from lo to hi. -/
structure Keeps (w w' : World) (lo hi : Nat) : Prop where
  os : w'.os = w.os
  tape : w'.tape = w.tape
  output : w'.output = w.output
  size : w.heap.size ≤ w'.heap.size
  block : ∀ k, k < w.heap.size → (k < lo ∨ hi ≤ k) → w'.heap[k]? = w.heap[k]?

theorem Keeps.refl (w : World) (lo hi : Nat) : Keeps w w lo hi := ⟨rfl, rfl, rfl, Nat.le_refl _, fun _ _ _ => rfl⟩

theorem Keeps.trans {w w1 w2 : World} {lo hi : Nat} (h : Keeps w w1 lo hi) (k : Keeps w1 w2 lo hi) : Keeps w w2 lo hi :=
  ⟨k.os.trans h.os, k.tape.trans h.tape, k.output.trans h.output, Nat.le_trans h.size k.size, fun i hi h' => (k.block i (Nat.lt_of_lt_of_le hi h.size) h').trans (h.block i hi h')⟩

theorem keeps_of_below {w w' : World} (h : Below w.heap.size w w') (lo hi : Nat) : Keeps w w' lo hi := ⟨h.os, h.tape, h.output, h.size, fun k hk _ => h.block k hk⟩

theorem keeps_setCell {w : World} {lo hi : Nat} {p : Addr} (h1 : lo ≤ p.block) (h2 : p.block < hi) (u : Value) : Keeps w (w.setCell p u) lo hi := by
  have h : Below p.block w (w.setCell p u) := (Below.refl _ _).setCell (Nat.le_refl _) u
  exact ⟨h.os, h.tape, h.output, h.size, fun k _ hk' => Below.heap_setCell w p u k (by omega)⟩

theorem Keeps.below {w w' : World} {lo hi B : Nat} (h : Keeps w w' lo hi) (hB : B ≤ lo) (hs : B ≤ w.heap.size) : Below B w w' :=
  ⟨h.os, h.tape, h.output, h.size, fun k hk => h.block k (by omega) (.inl (by omega))⟩

theorem Blk.keeps {w w' : World} {b lo hi : Nat} {cs : List Value} (h : Blk w b cs) (hk : Keeps w w' lo hi) (hd : b < lo ∨ hi ≤ b) : Blk w' b cs := by
  have e := hk.block b h.1 hd
  exact ⟨Nat.lt_of_lt_of_le h.1 hk.size, fun i u hu => ⟨(World.cell?_of_block (w := w) (a := ⟨b, i, none⟩) e).trans (h.2 i u hu).1, (World.frozen?_of_block (w := w) (a := ⟨b, i, none⟩) e).trans (h.2 i u hu).2⟩⟩

/-- A row of the call's own, in a block from lo to hi. -/
def OwnIn (w : World) (lo hi : Nat) (a : Option Addr) (n : Nat) (f : Nat → Int) : Prop :=
  n = 0 ∨ ∃ b off, a = some ⟨b, off, none⟩ ∧ (lo ≤ b ∧ b < hi) ∧ b < w.heap.size ∧ ∀ i, i < n → w.cell? ⟨b, off + i, none⟩ = some (.int .i64 (f i)) ∧ w.frozen? ⟨b, off + i, none⟩ = false

theorem Own.into {w : World} {B : Nat} {a : Option Addr} {n : Nat} {f : Nat → Int} (h : Own w B a n f) : OwnIn w B w.heap.size a n f := by
  rcases h with h | ⟨b, off, h1, h2, h3, h4⟩
  · exact .inl h
  · exact .inr ⟨b, off, h1, ⟨h2, h3⟩, h3, h4⟩

theorem OwnIn.src {w : World} {lo hi : Nat} {a : Option Addr} {n : Nat} {f : Nat → Int} (h : OwnIn w lo hi a n f) : Src w a n f := by
  rcases h with h | ⟨b, off, h1, _, h3, h4⟩
  · exact .inl h
  · exact .inr ⟨b, off, h1, h3, fun i hi => (h4 i hi).1⟩

theorem OwnIn.keeps {w w' : World} {lo hi lo' hi' : Nat} {a : Option Addr} {n : Nat} {f : Nat → Int} (h : OwnIn w lo hi a n f) (hk : Keeps w w' lo' hi') (hd : hi ≤ lo' ∨ hi' ≤ lo) : OwnIn w' lo hi a n f := by
  rcases h with h | ⟨b, off, h1, h2, h3, h4⟩
  · exact .inl h
  · have e := hk.block b h3 (by omega)
    exact .inr ⟨b, off, h1, h2, Nat.lt_of_lt_of_le h3 hk.size, fun i hi => ⟨(World.cell?_of_block (w := w) (a := ⟨b, off + i, none⟩) e).trans (h4 i hi).1, (World.frozen?_of_block (w := w) (a := ⟨b, off + i, none⟩) e).trans (h4 i hi).2⟩⟩

theorem OwnIn.below {w w' : World} {lo hi : Nat} {a : Option Addr} {n : Nat} {f : Nat → Int} (h : OwnIn w lo hi a n f) (hb : Below w.heap.size w w') : OwnIn w' lo hi a n f := by
  rcases h with h | ⟨b, off, h1, h2, h3, h4⟩
  · exact .inl h
  · exact .inr ⟨b, off, h1, h2, Nat.lt_of_lt_of_le h3 hb.size, fun i hi => ⟨(hb.cell (p := ⟨b, off + i, none⟩) h3).trans (h4 i hi).1, (hb.frozen (p := ⟨b, off + i, none⟩) h3).trans (h4 i hi).2⟩⟩

theorem OwnIn.alloc {w : World} {lo hi : Nat} {a : Option Addr} {n : Nat} {f : Nat → Int} (h : OwnIn w lo hi a n f) (o : Obj) : OwnIn (w.alloc o) lo hi a n f := h.below ((Below.refl _ _).alloc (Nat.le_refl _) o)

theorem OwnIn.drew {w : World} {lo hi : Nat} {a : Option Addr} {n : Nat} {f : Nat → Int} (h : OwnIn w lo hi a n f) : OwnIn w.drew lo hi a n f := h.below (Below.refl _ _).drew

theorem OwnIn.congr {w : World} {lo hi : Nat} {a : Option Addr} {n : Nat} {f g : Nat → Int} (h : OwnIn w lo hi a n f) (e : ∀ i, i < n → f i = g i) : OwnIn w lo hi a n g := by
  rcases h with h | ⟨b, off, h1, h2, h3, h4⟩
  · exact .inl h
  · exact .inr ⟨b, off, h1, h2, h3, fun i hi => by rw [← e i hi]; exact h4 i hi⟩
end Go.Proofs.Ytlelgfkebcnepaa

namespace Go.Proofs.Ytlelgfkebcnepaa
open Go.RowKit
set_option linter.unusedVariables false

/-- Two halves of m words each, in blocks from lo to mid and from mid to hi: together F. -/
def Halves (w : World) (lo mid hi : Nat) (a1 a2 : Option Addr) (m : Nat) (F : Nat → Int) : Prop :=
  OwnIn w lo mid a1 m F ∧ OwnIn w mid hi a2 m (fun i => F (m + i))

theorem OwnIn.setCell {w : World} {lo hi : Nat} {a : Option Addr} {n : Nat} {f : Nat → Int} (h : OwnIn w lo hi a n f) {p : Addr} (hp : p.block < lo ∨ hi ≤ p.block) (u : Value) : OwnIn (w.setCell p u) lo hi a n f :=
  h.keeps (keeps_setCell (Nat.le_refl p.block) (Nat.lt_succ_self _) u) (by omega)

theorem OwnIn.out {w : World} {lo hi : Nat} {a : Option Addr} {n : Nat} {f : Nat → Int} (h : OwnIn w lo hi a n f) : Own w lo a n f := by
  rcases h with h | ⟨b, off, h1, h2, h3, h4⟩
  · exact .inl h
  · exact .inr ⟨b, off, h1, h2.1, h3, h4⟩

theorem OwnIn.widen {w : World} {lo hi lo' hi' : Nat} {a : Option Addr} {n : Nat} {f : Nat → Int} (h : OwnIn w lo hi a n f) (h1 : lo' ≤ lo) (h2 : hi ≤ hi') : OwnIn w lo' hi' a n f := by
  rcases h with h | ⟨b, off, g1, g2, g3, g4⟩
  · exact .inl h
  · exact .inr ⟨b, off, g1, by omega, g3, g4⟩

theorem Keeps.widen {w w' : World} {lo hi lo' hi' : Nat} (h : Keeps w w' lo hi) (h1 : lo' ≤ lo) (h2 : hi ≤ hi') : Keeps w w' lo' hi' :=
  ⟨h.os, h.tape, h.output, h.size, fun k hk hd => h.block k hk (by omega)⟩

theorem Halves.below {w w' : World} {lo mid hi : Nat} {a1 a2 : Option Addr} {m : Nat} {F : Nat → Int} (h : Halves w lo mid hi a1 a2 m F) (hb : Below w.heap.size w w') : Halves w' lo mid hi a1 a2 m F := ⟨h.1.below hb, h.2.below hb⟩

theorem Halves.alloc {w : World} {lo mid hi : Nat} {a1 a2 : Option Addr} {m : Nat} {F : Nat → Int} (h : Halves w lo mid hi a1 a2 m F) (o : Obj) : Halves (w.alloc o) lo mid hi a1 a2 m F := ⟨h.1.alloc o, h.2.alloc o⟩

theorem Src.keeps {w w' : World} {lo' hi' : Nat} {a : Option Addr} {n : Nat} {f : Nat → Int} (h : Src w a n f) (hk : Keeps w w' lo' hi') (hd : ∀ b off, a = some ⟨b, off, none⟩ → b < lo' ∨ hi' ≤ b) : Src w' a n f := by
  rcases h with h | ⟨b, off, h1, h3, h4⟩
  · exact .inl h
  · have e := hk.block b h3 (hd b off h1)
    exact .inr ⟨b, off, h1, Nat.lt_of_lt_of_le h3 hk.size, fun i hi => (World.cell?_of_block (w := w) (a := ⟨b, off + i, none⟩) e).trans (h4 i hi)⟩
end Go.Proofs.Ytlelgfkebcnepaa

namespace Go.Proofs.Ytlelgfkebcnepaa
open Go.RowKit
set_option linter.unusedVariables false

/-- A store into a known block. -/
theorem Blk.set {w : World} {b : Nat} {cs : List Value} (h : Blk w b cs) (i : Nat) (hi : i < cs.length) (v : Value) : Blk (w.setCell ⟨b, i, none⟩ v) b (cs.set i v) := by
  refine ⟨by simpa using h.1, fun j u hj => ?_⟩
  constructor
  · by_cases e : j = i
    · subst e
      rw [List.getElem?_set_self hi] at hj
      simp only [Option.some.injEq] at hj
      subst hj
      exact World.cell?_setCell_same w ⟨b, j, none⟩ v (h.2 j cs[j] (List.getElem?_eq_getElem hi)).1
    · rw [List.getElem?_set_ne (fun x => e x.symm)] at hj
      rw [World.cell?_setCell_other _ _ _ _ (by simp; try omega)]
      exact (h.2 j u hj).1
  · rw [World.frozen?_setCell]
    by_cases e : j = i
    · subst e; exact (h.2 j cs[j] (List.getElem?_eq_getElem hi)).2
    · rw [List.getElem?_set_ne (fun x => e x.symm)] at hj
      exact (h.2 j u hj).2

theorem Blk.other {w : World} {b : Nat} {cs : List Value} (h : Blk w b cs) {p : Addr} (hp : p.block ≠ b) (u : Value) : Blk (w.setCell p u) b cs :=
  h.keeps (keeps_setCell (Nat.le_refl p.block) (Nat.lt_succ_self _) u) (by omega)
end Go.Proofs.Ytlelgfkebcnepaa

namespace Go.Proofs.Ytlelgfkebcnepaa
open Go.RowKit
set_option linter.unusedVariables false

theorem Halves.congr {w : World} {lo mid hi : Nat} {a1 a2 : Option Addr} {m : Nat} {F G : Nat → Int} (h : Halves w lo mid hi a1 a2 m F) (e : ∀ i, i < 2 * m → F i = G i) : Halves w lo mid hi a1 a2 m G :=
  ⟨h.1.congr fun i hi => e i (by omega), h.2.congr fun i hi => e (m + i) (by omega)⟩
end Go.Proofs.Ytlelgfkebcnepaa

namespace Go.Proofs.Ytlelgfkebcnepaa
open Go.RowKit
set_option linter.unusedVariables false

theorem slEqual_is (r : Bool) (a1 a2 : Option Addr) (n m c1 c2 : Nat) (f g : Nat → Int) (w : World) (hr : eqB n m f g = r) (s1 : Src w a1 n f) (s2 : Src w a2 m g) (hn : n ≤ 1048576) (hm : m ≤ 1048576) :
    Calls Try.prog 72 #[.slice a1 n c1, .slice a2 m c2] w (RetBool w r) := by
  subst hr
  by_cases h : n = m
  · subst h; exact slEqual_same a1 a2 n c1 c2 f g w s1 s2 hn
  · rw [eqB_no_len h]; exact slEqual_lens a1 a2 n m c1 c2 w h
end Go.Proofs.Ytlelgfkebcnepaa

namespace Go.Proofs.Ytlelgfkebcnepaa
open Go.RowKit
set_option linter.unusedVariables false

/-- The bytes of a code, in a block below S. -/
def SrcB (w : World) (S : Nat) (a : Option Addr) (k : Nat) (B : Nat → Int) : Prop :=
  k = 0 ∨ ∃ b off, a = some ⟨b, off, none⟩ ∧ b < S ∧ b < w.heap.size ∧ ∀ i, i < k → w.cell? ⟨b, off + i, none⟩ = some (.int .u8 (B i)) ∧ 0 ≤ B i ∧ B i ≤ 255

theorem SrcB.keeps {w w' : World} {S lo hi : Nat} {a : Option Addr} {k : Nat} {B : Nat → Int} (h : SrcB w S a k B) (hk : Keeps w w' lo hi) (hS : S ≤ lo) : SrcB w' S a k B := by
  rcases h with h | ⟨b, off, h1, h2, h3, h4⟩
  · exact .inl h
  · have e := hk.block b h3 (.inl (by omega))
    exact .inr ⟨b, off, h1, h2, Nat.lt_of_lt_of_le h3 hk.size, fun i hi => ⟨(World.cell?_of_block (w := w) (a := ⟨b, off + i, none⟩) e).trans (h4 i hi).1, (h4 i hi).2⟩⟩

theorem SrcB.below {w w' : World} {S : Nat} {a : Option Addr} {k : Nat} {B : Nat → Int} (h : SrcB w S a k B) (hb : Below w.heap.size w w') : SrcB w' S a k B := by
  rcases h with h | ⟨b, off, h1, h2, h3, h4⟩
  · exact .inl h
  · exact .inr ⟨b, off, h1, h2, Nat.lt_of_lt_of_le h3 hb.size, fun i hi => ⟨(hb.cell (p := ⟨b, off + i, none⟩) h3).trans (h4 i hi).1, (h4 i hi).2⟩⟩

theorem SrcB.alloc {w : World} {S : Nat} {a : Option Addr} {k : Nat} {B : Nat → Int} (h : SrcB w S a k B) (o : Obj) : SrcB (w.alloc o) S a k B := h.below ((Below.refl _ _).alloc (Nat.le_refl _) o)

theorem SrcB.drew {w : World} {S : Nat} {a : Option Addr} {k : Nat} {B : Nat → Int} (h : SrcB w S a k B) : SrcB w.drew S a k B := h.below (Below.refl _ _).drew

theorem Keeps.alloc {w w1 : World} {lo hi : Nat} (h : Keeps w w1 lo hi) (o : Obj) : Keeps w (w1.alloc o) lo hi := h.trans (keeps_of_below ((Below.refl _ _).alloc (Nat.le_refl _) o) lo hi)

theorem Keeps.drew {w w1 : World} {lo hi : Nat} (h : Keeps w w1 lo hi) : Keeps w w1.drew lo hi := h.trans (keeps_of_below (Below.refl _ _).drew lo hi)

theorem SrcB.setCell {w : World} {S : Nat} {a : Option Addr} {k : Nat} {B : Nat → Int} (h : SrcB w S a k B) {p : Addr} (hp : S ≤ p.block) (u : Value) : SrcB (w.setCell p u) S a k B :=
  h.keeps (keeps_setCell (Nat.le_refl p.block) (Nat.lt_succ_self _) u) hp
end Go.Proofs.Ytlelgfkebcnepaa

namespace Go.Proofs.Ytlelgfkebcnepaa
open Go.RowKit
set_option linter.unusedVariables false

theorem SrcB.mono {w : World} {S S' : Nat} {a : Option Addr} {k : Nat} {B : Nat → Int} (h : SrcB w S a k B) (hS : S ≤ S') : SrcB w S' a k B := by
  rcases h with h | ⟨b, off, h1, h2, h3, h4⟩
  · exact .inl h
  · exact .inr ⟨b, off, h1, by omega, h3, h4⟩
end Go.Proofs.Ytlelgfkebcnepaa

namespace Go.Proofs.Ytlelgfkebcnepaa
open Go.RowKit
set_option linter.unusedVariables false

set_option maxRecDepth 100000 in
set_option maxHeartbeats 400000 in
theorem toHead_any (s m o h : Int) (w : World) :
    Calls Try.prog 43 #[.agg #[.int .i64 s, .int .i64 m, .int .i64 o, .int .i64 h]] w fun e w' => e = .returned (.agg #[.int .i64 s, .int .i64 m, .int .i64 o, .int .i64 h]) ∧ Below w.heap.size w w' := by
  go_enter Try.func43, Try.ntmps43
  go_wp2
  refine bodyPost_ret (v := .agg #[.int .i64 s, .int .i64 m, .int .i64 o, .int .i64 h]) (by simp [results, Try.results43, go_sem]) rfl ⟨rfl, ?_⟩
  exact ((((Below.refl _ _).alloc (Nat.le_refl _) _).alloc (by simp) _).alloc (by simp; try omega) _)
end Go.Proofs.Ytlelgfkebcnepaa

namespace Go.Proofs.Ytlelgfkebcnepaa
open Go.RowKit
set_option linter.unusedVariables false

set_option maxRecDepth 100000 in
set_option maxHeartbeats 400000 in
theorem eqHead_same (s m o h : Int) (w : World) : Calls Try.prog 126 #[.agg #[.int .i64 s, .int .i64 m, .int .i64 o, .int .i64 h], .agg #[.int .i64 s, .int .i64 m, .int .i64 o, .int .i64 h]] w (RetBool w true) := by
  go_enter Try.func126, Try.ntmps126
  go_wp2
  go_ret
  exact ⟨rfl, ((Below.refl _ _).alloc (Nat.le_refl _) _).alloc (by simp) _⟩
end Go.Proofs.Ytlelgfkebcnepaa

namespace Go.Proofs.Ytlelgfkebcnepaa
open Go.ChangeShapes Go.WideShapes Go.ChangeAt Go.RowKit Go.Joins
set_option linter.unusedVariables false
set_option maxRecDepth 100000

theorem Try.own : ownKnob Try.prog.godebug = none := by kernel_rfl

theorem Try.laidOut : laidOutB Try.prog = true := by kernel_rfl
end Go.Proofs.Ytlelgfkebcnepaa

namespace Go.Proofs.Ytlelgfkebcnepaa
open Go.RowKit
set_option linter.unusedVariables false

/-- An object as the model tells it: its place and its head. -/
structure Ob where
  at_ : Int
  s : Int
  m : Int
  o : Int
  h : Int

/-- An object in memory: where its fields are. -/
structure OM where
  x : Ob
  g : Nat
  c : Nat

def OM.cells (t : OM) : List Value := [.int .i64 t.x.at_, .int .i64 t.x.s, .int .i64 t.x.m, .int .i64 t.x.o, .int .i64 t.x.h, .slice (some ⟨t.g, 0, none⟩) t.x.s.toNat t.c]

/-- Each object's fields are a row of their own, in the order of the objects. -/
def Flds (w : World) (lo : Nat) (f : Nat → Int) (v : Value) (M : List OM) : Prop :=
  (∀ t ∈ M, lo ≤ t.g ∧ t.g < w.heap.size ∧ some t.g ≠ v.ownBlock ∧ ∀ k, k < t.x.s.toNat → w.cell? ⟨t.g, k, none⟩ = some (.int .i64 (f (t.x.at_.toNat + 2 + k))) ∧ w.frozen? ⟨t.g, k, none⟩ = false) ∧ M.Pairwise (fun t u => t.g < u.g)

theorem Flds.below {w w' : World} {lo : Nat} {f : Nat → Int} {v : Value} {M : List OM} (h : Flds w lo f v M) (hb : Below w.heap.size w w') : Flds w' lo f v M :=
  ⟨fun t ht => by
    obtain ⟨h1, h2, h3, h4⟩ := h.1 t ht
    exact ⟨h1, Nat.lt_of_lt_of_le h2 hb.size, h3, fun k hk => ⟨(hb.cell (p := ⟨t.g, k, none⟩) h2).trans (h4 k hk).1, (hb.frozen (p := ⟨t.g, k, none⟩) h2).trans (h4 k hk).2⟩⟩, h.2⟩
end Go.Proofs.Ytlelgfkebcnepaa

namespace Go.Proofs.Ytlelgfkebcnepaa
open Go.RowKit
set_option linter.unusedVariables false

/-- What a row of objects holds at a place. -/
def ObAt (w : World) (gb i : Nat) (t : OM) : Prop := ∀ j u, t.cells[j]? = some u → w.cell? ⟨gb, i * 6 + j, none⟩ = some u

/-- The fields of an object in memory. -/
theorem Flds.src {w : World} {lo : Nat} {f : Nat → Int} {v : Value} {M : List OM} (h : Flds w lo f v M) {t : OM} (ht : t ∈ M) : Src w (some ⟨t.g, 0, none⟩) t.x.s.toNat (fun k => f (t.x.at_.toNat + 2 + k)) := by
  obtain ⟨_, a2, _, a4⟩ := h.1 t ht
  exact .inr ⟨t.g, 0, rfl, a2, fun k hk => by rw [Nat.zero_add]; exact (a4 k hk).1⟩

theorem ObAt.below {w w' : World} {gb i : Nat} {t : OM} (h : ObAt w gb i t) (hb : Below w.heap.size w w') (hg : gb < w.heap.size) : ObAt w' gb i t := fun j u hu => (hb.cell (p := ⟨gb, i * 6 + j, none⟩) hg).trans (h j u hu)

/-- The six cells of an object, written out. -/
def Six (w : World) (gb o : Nat) (x : Ob) (g c : Nat) : Prop := w.cell? ⟨gb, o, none⟩ = some (.int .i64 x.at_) ∧ w.cell? ⟨gb, o + 1, none⟩ = some (.int .i64 x.s) ∧ w.cell? ⟨gb, o + 2, none⟩ = some (.int .i64 x.m) ∧ w.cell? ⟨gb, o + 3, none⟩ = some (.int .i64 x.o) ∧ w.cell? ⟨gb, o + 4, none⟩ = some (.int .i64 x.h) ∧ w.cell? ⟨gb, o + 5, none⟩ = some (.slice (some ⟨g, 0, none⟩) x.s.toNat c)

theorem ObAt.six {w : World} {gb i : Nat} {t : OM} (h : ObAt w gb i t) : Six w gb (i * 6) t.x t.g t.c :=
  ⟨h 0 _ rfl, h 1 _ rfl, h 2 _ rfl, h 3 _ rfl, h 4 _ rfl, h 5 _ rfl⟩

theorem Six.below {w w' : World} {gb o : Nat} {x : Ob} {g c : Nat} (h : Six w gb o x g c) (hb : Below w.heap.size w w') (hg : gb < w.heap.size) : Six w' gb o x g c :=
  ⟨(hb.cell (p := ⟨gb, o, none⟩) hg).trans h.1, (hb.cell (p := ⟨gb, o + 1, none⟩) hg).trans h.2.1, (hb.cell (p := ⟨gb, o + 2, none⟩) hg).trans h.2.2.1, (hb.cell (p := ⟨gb, o + 3, none⟩) hg).trans h.2.2.2.1, (hb.cell (p := ⟨gb, o + 4, none⟩) hg).trans h.2.2.2.2.1, (hb.cell (p := ⟨gb, o + 5, none⟩) hg).trans h.2.2.2.2.2⟩
end Go.Proofs.Ytlelgfkebcnepaa

namespace Go.Proofs.Ytlelgfkebcnepaa
open Go.RowKit
set_option linter.unusedVariables false

theorem Flds.mono {w : World} {lo lo' : Nat} {f : Nat → Int} {v : Value} {M : List OM} (h : Flds w lo f v M) (hl : lo' ≤ lo) : Flds w lo' f v M :=
  ⟨fun t ht => by obtain ⟨a1, a2⟩ := h.1 t ht; exact ⟨Nat.le_trans hl a1, a2⟩, h.2⟩

theorem Flds.other {w : World} {lo : Nat} {f : Nat → Int} {v : Value} {M : List OM} (h : Flds w lo f v M) {p : Addr} (hp : p.block < lo) (u : Value) : Flds (w.setCell p u) lo f v M :=
  ⟨fun t ht => by
    obtain ⟨a1, a2, a3, a4⟩ := h.1 t ht
    have e : (w.setCell p u).heap[t.g]? = w.heap[t.g]? := Below.heap_setCell w p u t.g (by omega)
    exact ⟨a1, by simpa using a2, a3, fun k hk => ⟨(World.cell?_of_block (w := w) (a := ⟨t.g, k, none⟩) e).trans (a4 k hk).1, (World.frozen?_of_block (w := w) (a := ⟨t.g, k, none⟩) e).trans (a4 k hk).2⟩⟩, h.2⟩
end Go.Proofs.Ytlelgfkebcnepaa

namespace Go.Proofs.Ytlelgfkebcnepaa
open Go.RowKit
set_option linter.unusedVariables false

theorem drewN_below (w : World) (q : Nat) : Below w.heap.size w (w.drewN q) := below_drewN (Below.refl _ _) q
end Go.Proofs.Ytlelgfkebcnepaa

namespace Go.Proofs.Ytlelgfkebcnepaa
open Go.RowKit
set_option linter.unusedVariables false

/-- An object in memory, whatever it holds. -/
structure GM where
  at_ : Int
  s : Int
  m : Int
  o : Int
  h : Int
  a : Option Addr
  n : Nat
  c : Nat
  f : Nat → Int

def GM.g (t : GM) : Nat := match t.a with | some p => p.block | none => 0

def SixG (w : World) (b o : Nat) (t : GM) : Prop := w.cell? ⟨b, o, none⟩ = some (.int .i64 t.at_) ∧ w.cell? ⟨b, o + 1, none⟩ = some (.int .i64 t.s) ∧ w.cell? ⟨b, o + 2, none⟩ = some (.int .i64 t.m) ∧ w.cell? ⟨b, o + 3, none⟩ = some (.int .i64 t.o) ∧ w.cell? ⟨b, o + 4, none⟩ = some (.int .i64 t.h) ∧ w.cell? ⟨b, o + 5, none⟩ = some (.slice t.a t.n t.c)

def SixF (w : World) (b o : Nat) : Prop := w.frozen? ⟨b, o, none⟩ = false ∧ w.frozen? ⟨b, o + 1, none⟩ = false ∧ w.frozen? ⟨b, o + 2, none⟩ = false ∧ w.frozen? ⟨b, o + 3, none⟩ = false ∧ w.frozen? ⟨b, o + 4, none⟩ = false ∧ w.frozen? ⟨b, o + 5, none⟩ = false

theorem SixG.block {w w' : World} {b o : Nat} {t : GM} (h : SixG w b o t) (e : w'.heap[b]? = w.heap[b]?) : SixG w' b o t :=
  ⟨(World.cell?_of_block (w := w) (a := ⟨b, o, none⟩) e).trans h.1, (World.cell?_of_block (w := w) (a := ⟨b, o + 1, none⟩) e).trans h.2.1, (World.cell?_of_block (w := w) (a := ⟨b, o + 2, none⟩) e).trans h.2.2.1, (World.cell?_of_block (w := w) (a := ⟨b, o + 3, none⟩) e).trans h.2.2.2.1, (World.cell?_of_block (w := w) (a := ⟨b, o + 4, none⟩) e).trans h.2.2.2.2.1, (World.cell?_of_block (w := w) (a := ⟨b, o + 5, none⟩) e).trans h.2.2.2.2.2⟩

theorem SixF.block {w w' : World} {b o : Nat} (h : SixF w b o) (e : w'.heap[b]? = w.heap[b]?) : SixF w' b o :=
  ⟨(World.frozen?_of_block (w := w) (a := ⟨b, o, none⟩) e).trans h.1, (World.frozen?_of_block (w := w) (a := ⟨b, o + 1, none⟩) e).trans h.2.1, (World.frozen?_of_block (w := w) (a := ⟨b, o + 2, none⟩) e).trans h.2.2.1, (World.frozen?_of_block (w := w) (a := ⟨b, o + 3, none⟩) e).trans h.2.2.2.1, (World.frozen?_of_block (w := w) (a := ⟨b, o + 4, none⟩) e).trans h.2.2.2.2.1, (World.frozen?_of_block (w := w) (a := ⟨b, o + 5, none⟩) e).trans h.2.2.2.2.2⟩

theorem SixG.below {w w' : World} {b o : Nat} {t : GM} (h : SixG w b o t) (hb : Below w.heap.size w w') (hl : b < w.heap.size) : SixG w' b o t := h.block (hb.block b hl)

theorem SixF.below {w w' : World} {b o : Nat} (h : SixF w b o) (hb : Below w.heap.size w w') (hl : b < w.heap.size) : SixF w' b o := h.block (hb.block b hl)

/-- A row of objects is read. -/
structure GSrc (w : World) (b q N : Nat) (T : Nat → GM) : Prop where
  lt : b < w.heap.size
  six : ∀ i, i < N → SixG w b (q + i * 6) (T i)
  flds : ∀ i, i < N → Src w (T i).a (T i).n (T i).f

/-- A row of objects of the call's own, in blocks from lo to hi. -/
structure GOwn (w : World) (lo hi b q N : Nat) (T : Nat → GM) : Prop where
  glo : lo ≤ b
  ghi : b < hi
  lt : b < w.heap.size
  six : ∀ i, i < N → SixG w b (q + i * 6) (T i)
  free : ∀ i, i < N → SixF w b (q + i * 6)
  flds : ∀ i, i < N → OwnIn w lo hi (T i).a (T i).n (T i).f
  off : ∀ i, i < N → (T i).n = 0 ∨ (T i).g ≠ b
  apart : ∀ i j, i < N → j < N → i ≠ j → (T i).n = 0 ∨ (T j).n = 0 ∨ (T i).g ≠ (T j).g

theorem GOwn.src {w : World} {lo hi b q N : Nat} {T : Nat → GM} (h : GOwn w lo hi b q N T) : GSrc w b q N T := ⟨h.lt, h.six, fun i hi => (h.flds i hi).src⟩

theorem GSrc.below {w w' : World} {b q N : Nat} {T : Nat → GM} (h : GSrc w b q N T) (hb : Below w.heap.size w w') : GSrc w' b q N T :=
  ⟨Nat.lt_of_lt_of_le h.lt hb.size, fun i hi => (h.six i hi).below hb h.lt, fun i hi => (h.flds i hi).below hb⟩

theorem GOwn.below {w w' : World} {lo hi b q N : Nat} {T : Nat → GM} (h : GOwn w lo hi b q N T) (hb : Below w.heap.size w w') : GOwn w' lo hi b q N T :=
  ⟨h.glo, h.ghi, Nat.lt_of_lt_of_le h.lt hb.size, fun i hi => (h.six i hi).below hb h.lt, fun i hi => (h.free i hi).below hb h.lt, fun i hi => (h.flds i hi).below hb, h.off, h.apart⟩

theorem GSrc.drew {w : World} {b q N : Nat} {T : Nat → GM} (h : GSrc w b q N T) : GSrc w.drew b q N T := h.below (Below.refl _ _).drew

theorem GSrc.alloc {w : World} {b q N : Nat} {T : Nat → GM} (h : GSrc w b q N T) (o : Obj) : GSrc (w.alloc o) b q N T := h.below ((Below.refl _ _).alloc (Nat.le_refl _) o)

theorem GOwn.drew {w : World} {lo hi b q N : Nat} {T : Nat → GM} (h : GOwn w lo hi b q N T) : GOwn w.drew lo hi b q N T := h.below (Below.refl _ _).drew

theorem GOwn.alloc {w : World} {lo hi b q N : Nat} {T : Nat → GM} (h : GOwn w lo hi b q N T) (o : Obj) : GOwn (w.alloc o) lo hi b q N T := h.below ((Below.refl _ _).alloc (Nat.le_refl _) o)

theorem GSrc.congr {w : World} {b q N : Nat} {T U : Nat → GM} (h : GSrc w b q N T) (e : ∀ i, i < N → T i = U i) : GSrc w b q N U :=
  ⟨h.lt, fun i hi => by rw [← e i hi]; exact h.six i hi, fun i hi => by rw [← e i hi]; exact h.flds i hi⟩

theorem GOwn.congr {w : World} {lo hi b q N : Nat} {T U : Nat → GM} (h : GOwn w lo hi b q N T) (e : ∀ i, i < N → T i = U i) : GOwn w lo hi b q N U :=
  ⟨h.glo, h.ghi, h.lt, fun i hi => by rw [← e i hi]; exact h.six i hi, h.free, fun i hi => by rw [← e i hi]; exact h.flds i hi, fun i hi => by rw [← e i hi]; exact h.off i hi, fun i j hi hj hij => by rw [← e i hi, ← e j hj]; exact h.apart i j hi hj hij⟩

theorem ownIn_at {w w' : World} {lo hi : Nat} {t : GM} (h : OwnIn w lo hi t.a t.n t.f) (he : t.n = 0 ∨ w'.heap[t.g]? = w.heap[t.g]?) (hs : w.heap.size ≤ w'.heap.size) : OwnIn w' lo hi t.a t.n t.f := by
  rcases h with h0 | ⟨b', o', ha, h1, hl, hc⟩
  · exact .inl h0
  · rcases he with h0 | e
    · exact .inl h0
    · rw [show t.g = b' by simp [GM.g, ha]] at e
      exact .inr ⟨b', o', ha, h1, Nat.lt_of_lt_of_le hl hs, fun k hk => ⟨(World.cell?_of_block (w := w) (a := ⟨b', o' + k, none⟩) e).trans (hc k hk).1, (World.frozen?_of_block (w := w) (a := ⟨b', o' + k, none⟩) e).trans (hc k hk).2⟩⟩
end Go.Proofs.Ytlelgfkebcnepaa

namespace Go.Proofs.Ytlelgfkebcnepaa
open Go.RowKit
set_option linter.unusedVariables false

/-- Two objects hold the same. -/
def GSame (t u : GM) : Prop := t.at_ = u.at_ ∧ t.s = u.s ∧ t.m = u.m ∧ t.o = u.o ∧ t.h = u.h ∧ t.n = u.n ∧ ∀ k, k < t.n → t.f k = u.f k

def GV (w : World) (a : Option Addr) (N : Nat) (T : Nat → GM) : Prop := N = 0 ∨ ∃ b q, a = some ⟨b, q, none⟩ ∧ GSrc w b q N T

def GVO (w : World) (lo hi : Nat) (a : Option Addr) (N : Nat) (T : Nat → GM) : Prop := N = 0 ∨ ∃ b q, a = some ⟨b, q, none⟩ ∧ GOwn w lo hi b q N T

theorem GVO.src {w : World} {lo hi N : Nat} {a : Option Addr} {T : Nat → GM} (h : GVO w lo hi a N T) : GV w a N T := by
  rcases h with h0 | ⟨b, q, e, h⟩
  · exact .inl h0
  · exact .inr ⟨b, q, e, h.src⟩

theorem GV.below {w w' : World} {a : Option Addr} {N : Nat} {T : Nat → GM} (h : GV w a N T) (hb : Below w.heap.size w w') : GV w' a N T := by
  rcases h with h0 | ⟨b, q, e, h⟩
  · exact .inl h0
  · exact .inr ⟨b, q, e, h.below hb⟩

theorem GVO.below {w w' : World} {lo hi N : Nat} {a : Option Addr} {T : Nat → GM} (h : GVO w lo hi a N T) (hb : Below w.heap.size w w') : GVO w' lo hi a N T := by
  rcases h with h0 | ⟨b, q, e, h⟩
  · exact .inl h0
  · exact .inr ⟨b, q, e, h.below hb⟩

theorem GV.drew {w : World} {a : Option Addr} {N : Nat} {T : Nat → GM} (h : GV w a N T) : GV w.drew a N T := h.below (Below.refl _ _).drew

theorem GV.alloc {w : World} {a : Option Addr} {N : Nat} {T : Nat → GM} (h : GV w a N T) (o : Obj) : GV (w.alloc o) a N T := h.below ((Below.refl _ _).alloc (Nat.le_refl _) o)

theorem GVO.drew {w : World} {lo hi N : Nat} {a : Option Addr} {T : Nat → GM} (h : GVO w lo hi a N T) : GVO w.drew lo hi a N T := h.below (Below.refl _ _).drew

theorem GVO.alloc {w : World} {lo hi N : Nat} {a : Option Addr} {T : Nat → GM} (h : GVO w lo hi a N T) (o : Obj) : GVO (w.alloc o) lo hi a N T := h.below ((Below.refl _ _).alloc (Nat.le_refl _) o)

set_option maxRecDepth 100000 in
set_option maxHeartbeats 800000 in
theorem eqObjG_same (t u : GM) (w : World) (he : GSame t u) (s1 : Src w t.a t.n t.f) (s2 : Src w u.a u.n u.f) (hn : t.n ≤ 1048576) :
    Calls Try.prog 93 #[.agg #[.int .i64 t.at_, .int .i64 t.s, .int .i64 t.m, .int .i64 t.o, .int .i64 t.h, .slice t.a t.n t.c], .agg #[.int .i64 u.at_, .int .i64 u.s, .int .i64 u.m, .int .i64 u.o, .int .i64 u.h, .slice u.a u.n u.c]] w (RetBool w true) := by
  obtain ⟨e1, e2, e3, e4, e5, e6, e7⟩ := he
  rw [← e6] at s2
  rw [← e1, ← e2, ← e3, ← e4, ← e5, ← e6]
  have S1 := Lib.hid s1; have S2 := Lib.hid s2; have E7 := Lib.hid e7
  clear s1 s2 e1 e2 e3 e4 e5 e6 e7
  go_enter Try.func93, Try.ntmps93
  go_wp2_with fail
  refine (eqHead_same _ _ _ _ _).mono ?_
  rintro e w1 ⟨rfl, hb⟩
  have HB1 := Lib.hid (thru2 (Below.refl _ _) hb)
  have X1 := Lib.hid ((((Blk.new_at (w := w) (cs := #[.int .i64 t.at_, .int .i64 t.s, .int .i64 t.m, .int .i64 t.o, .int .i64 t.h, .slice t.a t.n t.c]) (t := 42) (w.heap.size) rfl).alloc _)).below hb)
  have Y1 := Lib.hid ((Blk.new_at (w := w.alloc (.cells #[.int .i64 t.at_, .int .i64 t.s, .int .i64 t.m, .int .i64 t.o, .int .i64 t.h, .slice t.a t.n t.c] 42)) (cs := #[.int .i64 t.at_, .int .i64 t.s, .int .i64 t.m, .int .i64 t.o, .int .i64 t.h, .slice u.a t.n u.c]) (t := 42) (w.heap.size + 1) (by simp)).below hb)
  have S1' := Lib.hid (((S1.out.alloc _).alloc _).below hb)
  have S2' := Lib.hid (((S2.out.alloc _).alloc _).below hb)
  clear hb S1 S2
  have cX := X1.out.at 5 rfl
  have cY := Y1.out.at 5 rfl
  go_wp2_with fail
  refine (eqInts_same _ _ _ _ _ t.f u.f _ S1'.out S2'.out hn).mono ?_
  rw [eqB_yes E7.out]
  rintro e w2 ⟨rfl, hb⟩
  have HB2 := Lib.hid (thru0 HB1.out hb)
  clear hb cX cY
  go_wp2
  go_ret
  exact ⟨rfl, HB2.out⟩

theorem sixesG {w : World} {g1 g2 q1 q2 i : Nat} {t u : GM} (h1 : SixG w g1 (q1 + i * 6) t) (h2 : SixG w g2 (q2 + i * 6) u) : w.cell? ⟨g1, q1 + i * 6, none⟩ = some (.int .i64 t.at_) ∧ w.cell? ⟨g1, q1 + i * 6 + 1, none⟩ = some (.int .i64 t.s) ∧ w.cell? ⟨g1, q1 + i * 6 + 2, none⟩ = some (.int .i64 t.m) ∧ w.cell? ⟨g1, q1 + i * 6 + 3, none⟩ = some (.int .i64 t.o) ∧ w.cell? ⟨g1, q1 + i * 6 + 4, none⟩ = some (.int .i64 t.h) ∧ w.cell? ⟨g1, q1 + i * 6 + 5, none⟩ = some (.slice t.a t.n t.c) ∧ w.cell? ⟨g2, q2 + i * 6, none⟩ = some (.int .i64 u.at_) ∧ w.cell? ⟨g2, q2 + i * 6 + 1, none⟩ = some (.int .i64 u.s) ∧ w.cell? ⟨g2, q2 + i * 6 + 2, none⟩ = some (.int .i64 u.m) ∧ w.cell? ⟨g2, q2 + i * 6 + 3, none⟩ = some (.int .i64 u.o) ∧ w.cell? ⟨g2, q2 + i * 6 + 4, none⟩ = some (.int .i64 u.h) ∧ w.cell? ⟨g2, q2 + i * 6 + 5, none⟩ = some (.slice u.a u.n u.c) :=
  ⟨h1.1, h1.2.1, h1.2.2.1, h1.2.2.2.1, h1.2.2.2.2.1, h1.2.2.2.2.2, h2.1, h2.2.1, h2.2.2.1, h2.2.2.2.1, h2.2.2.2.2.1, h2.2.2.2.2.2⟩

set_option maxRecDepth 100000 in
set_option maxHeartbeats 1600000 in
theorem eqObjGS_same (g1 g2 q1 q2 N k1 k2 : Nat) (T U : Nat → GM) (w : World) (h1 : GSrc w g1 q1 N T) (h2 : GSrc w g2 q2 N U) (he : ∀ i, i < N → GSame (T i) (U i)) (hN : N ≤ 1048576) (hn : ∀ i, i < N → (T i).n ≤ 1048576) :
    Calls Try.prog 51 #[.slice (some ⟨g1, q1, none⟩) N k1, .slice (some ⟨g2, q2, none⟩) N k2] w (RetBool w true) := by
  have H1 := Lib.hid h1; have H2 := Lib.hid h2; have HE := Lib.hid he; have HN := Lib.hid hn
  clear h1 h2 he hn
  go_enter Try.func51, Try.ntmps51
  go_wp2
  go_loopw [5] (fun p wr => ∃ i : Nat, i ≤ N ∧ p = .int .i64 (i : Int) ∧ Hid (Below w.heap.size w wr)) (fun p _ => N - (intOf p).toNat)
  case atStart => exact ⟨0, Nat.zero_le _, rfl, Below.refl _ _⟩
  case round =>
    obtain ⟨i, hi, rfl, HBr⟩ := hrel
    by_cases hlt : i < N
    · have hlt' : (i : Int) < (N : Int) := by omega
      have hi0 : (0 : Int) ≤ (i : Int) := by omega
      have r1 := H1.out.below HBr.out; have r2 := H2.out.below HBr.out
      have X1 := Lib.hid (r1.six i hlt); have Y1 := Lib.hid (r2.six i hlt)
      have l1' := r1.lt; have l2' := r2.lt
      have S1 := Lib.hid (r1.flds i hlt); have S2 := Lib.hid (r2.flds i hlt)
      have hes := HE.out i hlt
      have hns := HN.out i hlt
      have hzr := HBr.out.size
      clear r1 r2
      generalize T i = t at *
      generalize U i = u at *
      have HES := Lib.hid hes
      clear hes
      have Xd := Lib.hid (X1.out.below (Below.refl _ _).drew l1'); have Yd := Lib.hid (Y1.out.below (Below.refl _ _).drew l2')
      go_wp2_with fail
      go_region_held3 (fun w' => w'.cell? ⟨g1, q1 + i * 6, none⟩ = some (.int .i64 t.at_) ∧ w'.cell? ⟨g1, q1 + i * 6 + 1, none⟩ = some (.int .i64 t.s) ∧ w'.cell? ⟨g1, q1 + i * 6 + 2, none⟩ = some (.int .i64 t.m) ∧ w'.cell? ⟨g1, q1 + i * 6 + 3, none⟩ = some (.int .i64 t.o) ∧ w'.cell? ⟨g1, q1 + i * 6 + 4, none⟩ = some (.int .i64 t.h) ∧ w'.cell? ⟨g1, q1 + i * 6 + 5, none⟩ = some (.slice t.a t.n t.c) ∧ w'.cell? ⟨g2, q2 + i * 6, none⟩ = some (.int .i64 u.at_) ∧ w'.cell? ⟨g2, q2 + i * 6 + 1, none⟩ = some (.int .i64 u.s) ∧ w'.cell? ⟨g2, q2 + i * 6 + 2, none⟩ = some (.int .i64 u.m) ∧ w'.cell? ⟨g2, q2 + i * 6 + 3, none⟩ = some (.int .i64 u.o) ∧ w'.cell? ⟨g2, q2 + i * 6 + 4, none⟩ = some (.int .i64 u.h) ∧ w'.cell? ⟨g2, q2 + i * 6 + 5, none⟩ = some (.slice u.a u.n u.c))
        (first | (with_reducible exact sixesG X1.out Y1.out) | (with_reducible exact sixesG Xd.out Yd.out) | (with_reducible exact sixesG X2.out Y2.out))
        (first | (go_at_call 93; refine (eqObjG_same t u _ HES.out (S1.out.below (Below.refl _ _).drew) (S2.out.below (Below.refl _ _).drew) hns).mono ?_; rintro e w2 ⟨rfl, hb⟩; have HB2 := Lib.hid (thru0 (Below.refl wr.heap.size wr).drew hb); have X2 := Lib.hid (X1.out.below HB2.out l1'); have Y2 := Lib.hid (Y1.out.below HB2.out l2'); clear hb))
      have HB3 := Lib.hid (HBr.out.trans (HB2.out.mono hzr))
      go_wp2
      go_roundw
      case rel => exact ⟨i + 1, by omega, by go_num, HB3⟩
      case measure => simp [intOf]; omega
    · go_wp2
      go_ret
      exact ⟨rfl, HBr.out⟩
end Go.Proofs.Ytlelgfkebcnepaa

namespace Go.Proofs.Ytlelgfkebcnepaa
open Go.RowKit
set_option linter.unusedVariables false

set_option maxRecDepth 100000 in
set_option maxHeartbeats 400000 in
theorem eqGV_same (a1 a2 : Option Addr) (N k1 k2 : Nat) (T U : Nat → GM) (w : World) (h1 : GV w a1 N T) (h2 : GV w a2 N U) (he : ∀ i, i < N → GSame (T i) (U i)) (hN : N ≤ 1048576) (hn : ∀ i, i < N → (T i).n ≤ 1048576) :
    Calls Try.prog 51 #[.slice a1 N k1, .slice a2 N k2] w (RetBool w true) := by
  rcases Nat.eq_zero_or_pos N with rfl | hp
  · clear h1 h2 he hn
    go_enter Try.func51, Try.ntmps51
    go_wp2
    go_loop [5] (fun p => p = .int .i64 0) (fun _ => 0)
    case atStart => rfl
    case round =>
      obtain rfl := hrel
      go_wp2
      go_ret
      exact ⟨rfl, Below.refl _ _⟩
  · rcases h1 with h0 | ⟨b1, q1, rfl, h1⟩
    · omega
    · rcases h2 with h0 | ⟨b2, q2, rfl, h2⟩
      · omega
      · exact eqObjGS_same b1 b2 q1 q2 N k1 k2 T U w h1 h2 he hN hn
end Go.Proofs.Ytlelgfkebcnepaa

namespace Go.Proofs.Ytlelgfkebcnepaa
open Go.RowKit
set_option linter.unusedVariables false

set_option maxRecDepth 100000 in
set_option maxHeartbeats 400000 in
theorem l1Same_quietS (a1 a2 : Option Addr) (n c1 c2 : Nat) (f g : Nat → Int) (w : World) (s1 : Src w a1 n f) (s2 : Src w a2 n g) (hn : n ≤ 1048576) :
    Calls Try.prog 86 #[.slice a1 n c1, .slice a2 n c2] w fun e w' => e = .returned (.bool (eqB n n f g)) ∧ ∃ q, w' = w.drewN q := by
  have S1 := Lib.hid s1
  have S2 := Lib.hid s2
  clear s1 s2
  go_enter Try.func86, Try.ntmps86
  go_wp2
  go_loopw [5] (fun k wr => ∃ i : Nat, i ≤ n ∧ k = .int .i64 i ∧ Hid (∃ q, wr = w.drewN q) ∧ Hid (∀ j, j < i → f j = g j)) (fun k _ => n - (intOf k).toNat)
  case atStart => exact ⟨0, Nat.zero_le _, rfl, Lib.hid ⟨0, rfl⟩, fun j hj => by omega⟩
  case round =>
    obtain ⟨i, hi, rfl, HQ, HE⟩ := hrel
    obtain ⟨q, hq⟩ := HQ.out
    have HB : Hid (Below w.heap.size w wr) := Lib.hid (by rw [hq]; exact drewN_below w q)
    have HQQ := Lib.hid hq
    clear hq
    have hnext : ∀ m, ∃ q', wr.drewN m = w.drewN q' := fun m => ⟨q + m, by rw [HQQ.out, World.drewN_drewN]⟩
    have HNX := Lib.hid hnext
    clear hnext
    by_cases hlt : i < n
    · obtain ⟨b1, o1, rfl, hb1, hc1⟩ := src_some (S1.out.below HB.out) (by omega)
      obtain ⟨b2, o2, rfl, hb2, hc2⟩ := src_some (S2.out.below HB.out) (by omega)
      have d1 := hc1 i hlt
      have d2 := hc2 i hlt
      have hlt' : (i : Int) < (n : Int) := by omega
      clear hc1 hc2
      by_cases he : f i = g i
      · go_wp2
        go_quiet (fail)
        go_wp2
        go_roundw
        case rel => exact ⟨i + 1, by omega, by go_num, Lib.hid (HNX.out _), fun j hj => by
            rcases Nat.lt_succ_iff_lt_or_eq.mp hj with h | h
            · exact HE.out j h
            · subst h; exact he⟩
        case measure => simp [intOf]; omega
      · have hd2 : (f i != g i) = true := by simpa using he
        go_wp2
        go_quiet (fail)
        go_wp2
        go_ret
        exact ⟨by rw [eqB_no i hlt he]; rfl, HNX.out _⟩
    · go_wp2
      go_ret
      exact ⟨by rw [eqB_yes fun j hj => HE.out j (by omega)]; rfl, HQ.out⟩

set_option maxRecDepth 100000 in
set_option maxHeartbeats 400000 in
theorem l1Same_quiet (r : Bool) (a1 a2 : Option Addr) (n m c1 c2 : Nat) (f g : Nat → Int) (w : World) (hr : eqB n m f g = r) (s1 : Src w a1 n f) (s2 : Src w a2 m g) (hn : n ≤ 1048576) :
    Calls Try.prog 86 #[.slice a1 n c1, .slice a2 m c2] w fun e w' => e = .returned (.bool r) ∧ ∃ q, w' = w.drewN q := by
  subst hr
  by_cases h : n = m
  · subst h; exact l1Same_quietS a1 a2 n c1 c2 f g w s1 s2 hn
  · rw [eqB_no_len h]
    have hd : ((n : Int) == (m : Int)) = false := by simp; omega
    clear s1 s2
    go_enter Try.func86, Try.ntmps86
    go_wp2
    go_ret
    exact ⟨rfl, 0, rfl⟩

set_option maxRecDepth 100000 in
set_option maxHeartbeats 1600000 in
theorem specSO_x (g1 g2 q1 q2 N k1 k2 : Nat) (T U : Nat → GM) (r : Bool) (w : World) (h1 : GSrc w g1 q1 N T) (h2 : GSrc w g2 q2 N U) (hr : r = true ↔ ∀ i, i < N → GSame (T i) (U i)) (hN : N ≤ 1048576) (hn : ∀ i, i < N → (T i).n ≤ 1048576 ∧ (U i).n ≤ 1048576) :
    Calls Try.prog 49 #[.slice (some ⟨g1, q1, none⟩) N k1, .slice (some ⟨g2, q2, none⟩) N k2] w (RetBool w r) := by
  have H1 := Lib.hid h1; have H2 := Lib.hid h2; have HR := Lib.hid hr; have HN := Lib.hid hn
  clear h1 h2 hr hn
  go_enter Try.func49, Try.ntmps49
  go_wp2
  go_loopw [5] (fun p wr => ∃ i : Nat, i ≤ N ∧ p = .int .i64 (i : Int) ∧ Hid (Below w.heap.size w wr) ∧ Hid (∀ j, j < i → GSame (T j) (U j))) (fun p _ => N - (intOf p).toNat)
  case atStart => exact ⟨0, Nat.zero_le _, rfl, Below.refl _ _, fun j hj => by omega⟩
  case round =>
    obtain ⟨i, hi, rfl, HBr, HE⟩ := hrel
    by_cases hlt : i < N
    · have hlt' : (i : Int) < (N : Int) := by omega
      have hi0 : (0 : Int) ≤ (i : Int) := by omega
      have r1 := H1.out.below HBr.out; have r2 := H2.out.below HBr.out
      obtain ⟨x0, x1, x2, x3, x4, x5⟩ := r1.six i hlt
      obtain ⟨y0, y1, y2, y3, y4, y5⟩ := r2.six i hlt
      have l1' := r1.lt; have l2' := r2.lt
      have S1 := Lib.hid (r1.flds i hlt); have S2 := Lib.hid (r2.flds i hlt)
      have hns := HN.out i hlt
      have hno : ¬ GSame (T i) (U i) → r = false := fun hn => by
        cases r with
        | false => rfl
        | true => exact absurd (HR.out.mp rfl i hlt) hn
      have HNO := Lib.hid hno
      clear r1 r2 hno
      have hTU : GSame (T i) (U i) ∨ ¬ GSame (T i) (U i) := Classical.em _
      have HGE := Lib.hid (show ∀ j, j < i → GSame (T j) (U j) from HE.out)
      have hnx : GSame (T i) (U i) → ∀ j, j < i + 1 → GSame (T j) (U j) := fun h j hj => by
        rcases Nat.lt_succ_iff_lt_or_eq.mp hj with h1 | h1
        · exact HGE.out j h1
        · subst h1; exact h
      have HNX := Lib.hid hnx
      clear hnx hTU
      generalize T i = t at *
      generalize U i = u at *
      have hns1 := hns.1; have hns2 := hns.2
      clear hns
      have X1 : Hid (SixG wr g1 (q1 + i * 6) t) := Lib.hid ⟨x0, x1, x2, x3, x4, x5⟩; have Y1 : Hid (SixG wr g2 (q2 + i * 6) u) := Lib.hid ⟨y0, y1, y2, y3, y4, y5⟩
      have Xd := Lib.hid (X1.out.below (Below.refl _ _).drew l1'); have Yd := Lib.hid (Y1.out.below (Below.refl _ _).drew l2')
      clear x0 x1 x2 x3 x4 x5 y0 y1 y2 y3 y4 y5
      have HBq : Hid (∀ m, Below w.heap.size w (wr.drewN m)) := Lib.hid fun m => below_drewN HBr.out m
      obtain ⟨x0, x1, x2, x3, x4, x5⟩ := X1.out
      obtain ⟨y0, y1, y2, y3, y4, y5⟩ := Y1.out
      by_cases e1 : t.at_ = u.at_
      · by_cases e2 : t.s = u.s ∧ t.m = u.m ∧ t.o = u.o ∧ t.h = u.h
        · obtain ⟨e2, e3, e4, e5⟩ := e2
          rw [← e1] at y0; rw [← e2] at y1; rw [← e3] at y2; rw [← e4] at y3; rw [← e5] at y4
          have S1' := Lib.hid S1.out.drew
          cases hb : eqB t.n u.n t.f u.f
          · have hrf : r = false := HNO.out fun h => by
              have h6 := h.2.2.2.2.2.1
              have h7 := h.2.2.2.2.2.2
              rw [← h6, eqB_yes h7] at hb
              cases hb
            subst hrf
            have HBB := Lib.hid hb
            clear hb
            have hc : ∀ m, Calls Try.prog 86 #[.slice t.a t.n t.c, .slice u.a u.n u.c] (wr.drewN m) fun e w' => e = .returned (.bool false) ∧ ∃ q, w' = (wr.drewN m).drewN q := fun m => l1Same_quiet false t.a u.a t.n u.n t.c u.c t.f u.f _ HBB.out (S1.out.below (drewN_below wr m)) (S2.out.below (drewN_below wr m)) hns1
            have HC := Lib.hid hc
            clear hc
            go_wp2_with fail
            go_quiet (exact Calls.quiet_of (HC.out _))
            go_wp2
            go_ret
            exact ⟨rfl, HBq.out _⟩
          · have hg : GSame t u := ⟨e1, e2, e3, e4, e5, eqB_true hb⟩
            have HG := Lib.hid (HNX.out hg)
            have HBB := Lib.hid hb
            clear hb
            have hc : ∀ m, Calls Try.prog 86 #[.slice t.a t.n t.c, .slice u.a u.n u.c] (wr.drewN m) fun e w' => e = .returned (.bool true) ∧ ∃ q, w' = (wr.drewN m).drewN q := fun m => l1Same_quiet true t.a u.a t.n u.n t.c u.c t.f u.f _ HBB.out (S1.out.below (drewN_below wr m)) (S2.out.below (drewN_below wr m)) hns1
            have HC := Lib.hid hc
            clear hc
            go_wp2_with fail
            go_quiet (exact Calls.quiet_of (HC.out _))
            go_wp2
            go_roundw
            case rel => first | exact ⟨i + 1, by omega, by go_num, HBq.out _, HG⟩ | ((repeat apply Exists.intro); exact ⟨⟨i + 1, by omega, by go_num, HBq.out _, HG⟩, rfl⟩)
            case measure => simp [intOf]; omega
        · have hrf : r = false := HNO.out fun h => e2 ⟨h.2.1, h.2.2.1, h.2.2.2.1, h.2.2.2.2.1⟩
          subst hrf
          have HE2 := Lib.hid e2
          clear e2
          rw [← e1] at y0
          by_cases d1 : t.s = u.s
          · rw [← d1] at y1
            by_cases d2 : t.m = u.m
            · rw [← d2] at y2
              by_cases d3 : t.o = u.o
              · rw [← d3] at y3
                have d4 : ¬ t.h = u.h := fun d4 => HE2.out ⟨d1, d2, d3, d4⟩
                have d4' : (t.h == u.h) = false := by simpa using d4
                go_wp2_with fail
                go_quiet (fail)
                go_wp2
                go_ret
                exact ⟨rfl, HBq.out _⟩
              · have d3' : (t.o == u.o) = false := by simpa using d3
                go_wp2_with fail
                go_quiet (fail)
                go_wp2
                go_ret
                exact ⟨rfl, HBq.out _⟩
            · have d2' : (t.m == u.m) = false := by simpa using d2
              go_wp2_with fail
              go_quiet (fail)
              go_wp2
              go_ret
              exact ⟨rfl, HBq.out _⟩
          · have d1' : (t.s == u.s) = false := by simpa using d1
            go_wp2_with fail
            go_quiet (fail)
            go_wp2
            go_ret
            exact ⟨rfl, HBq.out _⟩
      · have hd1 : (t.at_ != u.at_) = true := by simpa using e1
        have hrf : r = false := HNO.out fun h => e1 h.1
        subst hrf
        go_wp2_with fail
        go_quiet (fail)
        go_wp2
        go_ret
        exact ⟨rfl, HBq.out _⟩
    · have hr : r = true := HR.out.mpr fun j hj => HE.out j (by omega)
      subst hr
      go_wp2
      go_ret
      exact ⟨rfl, HBr.out⟩

set_option maxRecDepth 100000 in
set_option maxHeartbeats 400000 in
theorem specSO_any (a1 a2 : Option Addr) (N N' k1 k2 : Nat) (T U : Nat → GM) (r : Bool) (w : World) (h1 : GV w a1 N T) (h2 : GV w a2 N' U) (hr : r = true ↔ N = N' ∧ ∀ i, i < N → GSame (T i) (U i)) (hN : N ≤ 1048576) (hN' : N' ≤ 1048576) (hn : ∀ i, i < N → (T i).n ≤ 1048576) (hn' : ∀ i, i < N' → (U i).n ≤ 1048576) :
    Calls Try.prog 49 #[.slice a1 N k1, .slice a2 N' k2] w (RetBool w r) := by
  by_cases he : N = N'
  · subst he
    rcases Nat.eq_zero_or_pos N with rfl | hp
    · obtain rfl : r = true := hr.mpr ⟨rfl, fun i hi => by omega⟩
      clear h1 h2 hr hn hn'
      go_enter Try.func49, Try.ntmps49
      go_wp2
      go_loop [5] (fun p => p = .int .i64 0) (fun _ => 0)
      case atStart => rfl
      case round =>
        obtain rfl := hrel
        go_wp2
        go_ret
        exact ⟨rfl, Below.refl _ _⟩
    · rcases h1 with h0 | ⟨b1, q1, rfl, h1⟩
      · omega
      · rcases h2 with h0 | ⟨b2, q2, rfl, h2⟩
        · omega
        · exact specSO_x b1 b2 q1 q2 N k1 k2 T U r w h1 h2 ⟨fun h => (hr.mp h).2, fun h => hr.mpr ⟨rfl, h⟩⟩ hN fun i hi => ⟨hn i hi, hn' i hi⟩
  · obtain rfl : r = false := by
      cases r with
      | false => rfl
      | true => exact absurd (hr.mp rfl).1 he
    have hd : ((N : Int) != (N' : Int)) = true := by simp; omega
    clear h1 h2 hr hn hn'
    go_enter Try.func49, Try.ntmps49
    go_wp2
    go_ret
    exact ⟨rfl, Below.refl _ _⟩
end Go.Proofs.Ytlelgfkebcnepaa

namespace Go.Proofs.Ytlelgfkebcnepaa
open Go.RowKit
set_option linter.unusedVariables false

set_option maxRecDepth 100000 in
set_option maxHeartbeats 400000 in
theorem szObj_ok (t : GM) (l : Int) (w : World) (hl0 : 0 ≤ l) (hl : l ≤ 1048576) (hn : t.n ≤ maxLen) (hh : t.n ≤ l) :
    Calls Try.prog 97 #[.agg #[.int .i64 t.at_, .int .i64 t.s, .int .i64 t.m, .int .i64 t.o, .int .i64 t.h, .slice t.a t.n t.c], .int .i64 l] w fun e w' => e = .returned (.int .i64 (l - t.n)) ∧ Below w.heap.size w w' := by
  go_enter Try.func97, Try.ntmps97
  go_wp2_with (go_at_call 87; refine (szInts_ok _ _ _ _ _ hl0 hl hn hh).mono ?_; rintro e w' ⟨rfl, rfl⟩)
  go_ret
  exact ⟨rfl, (Below.refl _ _).alloc (Nat.le_refl _) _⟩

set_option maxRecDepth 100000 in
set_option maxHeartbeats 400000 in
theorem szObj_no (t : GM) (l : Int) (w : World) (hl0 : 0 ≤ l) (hl : l ≤ 1048576) (hn : t.n ≤ maxLen) (hh : l < t.n) :
    Calls Try.prog 97 #[.agg #[.int .i64 t.at_, .int .i64 t.s, .int .i64 t.m, .int .i64 t.o, .int .i64 t.h, .slice t.a t.n t.c], .int .i64 l] w fun e w' => e = .returned (.int .i64 (-1)) ∧ Below w.heap.size w w' := by
  go_enter Try.func97, Try.ntmps97
  go_wp2_with (go_at_call 87; refine (szInts_no _ _ _ _ _ hl0 hl hn hh).mono ?_; rintro e w' ⟨rfl, rfl⟩)
  go_ret
  exact ⟨rfl, (Below.refl _ _).alloc (Nat.le_refl _) _⟩

/-- The size of a row of objects: too great, or each part is within it. -/
def RetSz (W : World) (N : Nat) (T : Nat → GM) (l : Int) (e : Ending) (w' : World) : Prop :=
  Below W.heap.size W w' ∧ ∃ r : Int, e = .returned (.int .i64 r) ∧ r ≤ l ∧ (r = -1 ∨ (0 ≤ r ∧ (N : Int) ≤ l ∧ ∀ i, i < N → ((T i).n : Int) ≤ l))

set_option maxRecDepth 100000 in
set_option maxHeartbeats 1600000 in
theorem szObjS_any (a : Option Addr) (N c : Nat) (T : Nat → GM) (l : Int) (w : World) (h : GV w a N T) (hN : N ≤ maxLen) (hn : ∀ i, i < N → (T i).n ≤ maxLen) (hl0 : 0 ≤ l) (hl : l ≤ 1048576) :
    Calls Try.prog 48 #[.slice a N c, .int .i64 l] w (RetSz w N T l) := by
  have H := Lib.hid h; have HN := Lib.hid hn
  clear h hn
  unfold maxLen at hN
  by_cases hNl : (N : Int) ≤ l
  · go_enter Try.func48, Try.ntmps48
    go_wp2
    go_loopw [1, 5] (fun u p wr => ∃ (i : Nat) (x : Int), i ≤ N ∧ p = .int .i64 (i : Int) ∧ u = .int .i64 x ∧ 0 ≤ x ∧ x ≤ l - N ∧ Hid (Below w.heap.size w wr) ∧ Hid (∀ j, j < i → ((T j).n : Int) ≤ l)) (fun _ p _ => N - (intOf p).toNat)
    case atStart => exact ⟨0, l - N, Nat.zero_le _, rfl, rfl, by omega, by omega, Below.refl _ _, fun j hj => by omega⟩
    case round =>
      obtain ⟨i, x, hi, rfl, rfl, hx0, hx1, HBr, HE⟩ := hrel
      by_cases hlt : i < N
      · have hlt' : (i : Int) < (N : Int) := by omega
        have hi0 : (0 : Int) ≤ (i : Int) := by omega
        rcases H.out.below HBr.out with h0 | ⟨b, q, rfl, hg⟩
        · omega
        · have lt := hg.lt
          obtain ⟨x0, x1, x2, x3, x4, x5⟩ := hg.six i hlt
          have hnm := HN.out i hlt
          have HGE := Lib.hid (show ∀ j, j < i → ((T j).n : Int) ≤ l from HE.out)
          clear hg
          have hnx : ((T i).n : Int) ≤ l → ∀ j, j < i + 1 → ((T j).n : Int) ≤ l := fun h j hj => by
            rcases Nat.lt_succ_iff_lt_or_eq.mp hj with h1 | h1
            · exact HGE.out j h1
            · subst h1; exact h
          have HNX := Lib.hid hnx
          clear hnx
          by_cases hle : ((T i).n : Int) ≤ x
          · go_wp2_with fail
            refine (szObj_ok (T i) x _ hx0 (by omega) hnm hle).mono ?_
            rintro e w' ⟨rfl, hb⟩
            have HB2 := Lib.hid (thru0 HBr.out hb)
            have HX := Lib.hid (HNX.out (by omega))
            clear hb
            go_wp2
            go_roundw
            case rel => exact ⟨i + 1, x - (T i).n, by omega, by go_num, rfl, by omega, by omega, HB2, HX⟩
            case measure => simp [intOf]; omega
          · go_wp2_with fail
            refine (szObj_no (T i) x _ hx0 (by omega) hnm (by omega)).mono ?_
            rintro e w' ⟨rfl, hb⟩
            have HB2 := Lib.hid (thru0 HBr.out hb)
            clear hb
            go_wp2
            go_ret
            exact ⟨HB2.out, -1, rfl, by omega, .inl rfl⟩
      · obtain rfl : i = N := by omega
        go_wp2
        go_ret
        exact ⟨HBr.out, x, rfl, by omega, .inr ⟨hx0, hNl, HE.out⟩⟩
  · go_enter Try.func48, Try.ntmps48
    go_wp2
    go_ret
    exact ⟨Below.refl _ _, -1, rfl, by omega, .inl rfl⟩
end Go.Proofs.Ytlelgfkebcnepaa

namespace Go.Proofs.Ytlelgfkebcnepaa
open Go.RowKit
set_option linter.unusedVariables false

/-- A new object that holds the same. -/
def RetObj (W : World) (t : GM) (e : Ending) (w' : World) : Prop :=
  ∃ t' : GM, GSame t t' ∧ e = .returned (.agg #[.int .i64 t'.at_, .int .i64 t'.s, .int .i64 t'.m, .int .i64 t'.o, .int .i64 t'.h, .slice t'.a t'.n t'.c]) ∧ Own w' W.heap.size t'.a t'.n t'.f ∧ Below W.heap.size W w'

set_option maxRecDepth 100000 in
set_option maxHeartbeats 800000 in
theorem toObj_any (t : GM) (w : World) (hs : Src w t.a t.n t.f) (hn : t.n ≤ 1048576) :
    Calls Try.prog 98 #[.agg #[.int .i64 t.at_, .int .i64 t.s, .int .i64 t.m, .int .i64 t.o, .int .i64 t.h, .slice t.a t.n t.c]] w (RetObj w t) := by
  have HS := Lib.hid hs
  clear hs
  go_enter Try.func98, Try.ntmps98
  go_wp2_with fail
  refine (toHead_any _ _ _ _ _).mono ?_
  rintro e w1 ⟨rfl, hb⟩
  have HB1 := Lib.hid (thru3 (Below.refl _ _) hb)
  have A_1 := Lib.hid ((((Blk.new_at (w := w) (cs := #[.int .i64 t.at_, .int .i64 t.s, .int .i64 t.m, .int .i64 t.o, .int .i64 t.h, .slice t.a t.n t.c]) (t := 130) (w.heap.size) rfl).alloc _).alloc _).below hb)
  have R_1 := Lib.hid (((Blk.new_at (w := w.alloc (.cells #[.int .i64 t.at_, .int .i64 t.s, .int .i64 t.m, .int .i64 t.o, .int .i64 t.h, .slice t.a t.n t.c] 130)) (cs := #[.int .i64 0, .int .i64 0, .int .i64 0, .int .i64 0, .int .i64 0, .slice none 0 0]) (t := 42) (w.heap.size + 1) (by simp)).alloc _).below hb)
  have O_1 := Lib.hid ((Blk.new_at (w := (w.alloc (.cells #[.int .i64 t.at_, .int .i64 t.s, .int .i64 t.m, .int .i64 t.o, .int .i64 t.h, .slice t.a t.n t.c] 130)).alloc (.cells #[.int .i64 0, .int .i64 0, .int .i64 0, .int .i64 0, .int .i64 0, .slice none 0 0] 42)) (cs := #[.int .i64 t.at_,  .int .i64 0, .int .i64 0, .int .i64 0, .int .i64 0, .slice none 0 0]) (t := 42) (w.heap.size + 2) (by simp)).below hb)
  have z1 : w.heap.size + 3 ≤ w1.heap.size := by have := hb.size; simp at this; omega
  clear hb
  have lO := O_1.out.1; have cO0 := O_1.out.at 0 rfl; have fO0 := O_1.out.free 0 rfl; have cO1 := O_1.out.at 1 rfl; have fO1 := O_1.out.free 1 rfl; have cO2 := O_1.out.at 2 rfl; have fO2 := O_1.out.free 2 rfl; have cO3 := O_1.out.at 3 rfl; have fO3 := O_1.out.free 3 rfl; have cO4 := O_1.out.at 4 rfl; have fO4 := O_1.out.free 4 rfl; have cO5 := O_1.out.at 5 rfl; have fO5 := O_1.out.free 5 rfl
  have lR := R_1.out.1; have cR0 := R_1.out.at 0 rfl; have fR0 := R_1.out.free 0 rfl; have cR1 := R_1.out.at 1 rfl; have fR1 := R_1.out.free 1 rfl; have cR2 := R_1.out.at 2 rfl; have fR2 := R_1.out.free 2 rfl; have cR3 := R_1.out.at 3 rfl; have fR3 := R_1.out.free 3 rfl; have cR4 := R_1.out.at 4 rfl; have fR4 := R_1.out.free 4 rfl; have cR5 := R_1.out.at 5 rfl; have fR5 := R_1.out.free 5 rfl
  have lA := A_1.out.1; have cA5 := A_1.out.at 5 rfl
  go_wp2_with fail
  obtain ⟨ws, hws⟩ : ∃ ws, ws = ((((w1.setCell ⟨w.heap.size + 1 + 1, 1, none⟩ (.int .i64 t.s)).setCell ⟨w.heap.size + 1 + 1, 2, none⟩ (.int .i64 t.m)).setCell ⟨w.heap.size + 1 + 1, 3, none⟩ (.int .i64 t.o)).setCell ⟨w.heap.size + 1 + 1, 4, none⟩ (.int .i64 t.h)) := ⟨_, rfl⟩
  have HBs : Hid (Below w.heap.size w ws) := Lib.hid (by rw [hws]; exact ((((HB1.out.setCell (p := ⟨w.heap.size + 1 + 1, 1, none⟩) (by simp; omega) (.int .i64 t.s)).setCell (p := ⟨w.heap.size + 1 + 1, 2, none⟩) (by simp; omega) (.int .i64 t.m)).setCell (p := ⟨w.heap.size + 1 + 1, 3, none⟩) (by simp; omega) (.int .i64 t.o)).setCell (p := ⟨w.heap.size + 1 + 1, 4, none⟩) (by simp; omega) (.int .i64 t.h)))
  have O_s : Hid (Blk ws (w.heap.size + 2) [.int .i64 t.at_, .int .i64 t.s, .int .i64 t.m, .int .i64 t.o, .int .i64 t.h, .slice none 0 0]) := Lib.hid (by rw [hws]; exact ((((O_1.out.set 1 (by simp) (.int .i64 t.s)).set 2 (by simp) (.int .i64 t.m)).set 3 (by simp) (.int .i64 t.o)).set 4 (by simp) (.int .i64 t.h)))
  have R_s : Hid (Blk ws (w.heap.size + 1) [.int .i64 0, .int .i64 0, .int .i64 0, .int .i64 0, .int .i64 0, .slice none 0 0]) := Lib.hid (by rw [hws]; exact ((((R_1.out.other (p := ⟨w.heap.size + 1 + 1, 1, none⟩) (by simp) (.int .i64 t.s)).other (p := ⟨w.heap.size + 1 + 1, 2, none⟩) (by simp) (.int .i64 t.m)).other (p := ⟨w.heap.size + 1 + 1, 3, none⟩) (by simp) (.int .i64 t.o)).other (p := ⟨w.heap.size + 1 + 1, 4, none⟩) (by simp) (.int .i64 t.h)))
  have zs : w.heap.size + 3 ≤ ws.heap.size := by rw [hws]; simpa using z1
  rw [← hws]
  clear hws O_1 R_1 A_1 HB1 lA cA5 lO lR cO0 cO1 cO2 cO3 cO4 cO5 fO0 fO1 fO2 fO3 fO4 fO5 cR0 cR1 cR2 cR3 cR4 cR5 fR0 fR1 fR2 fR3 fR4 fR5
  refine (toInts_any t.a t.n t.c t.f _ (HS.out.below HBs.out) hn).mono ?_
  rintro e w2 ⟨u, cu, rfl, ho, hb, -, -, -⟩
  have HB2 := Lib.hid (thru0 HBs.out hb)
  have O_1 := Lib.hid (O_s.out.below hb); have R_1 := Lib.hid (R_s.out.below hb); have HO := Lib.hid ho
  have z2 : ws.heap.size ≤ w2.heap.size := hb.size
  clear hb ho O_s R_s HBs
  have lO := O_1.out.1; have cO0 := O_1.out.at 0 rfl; have fO0 := O_1.out.free 0 rfl; have cO1 := O_1.out.at 1 rfl; have fO1 := O_1.out.free 1 rfl; have cO2 := O_1.out.at 2 rfl; have fO2 := O_1.out.free 2 rfl; have cO3 := O_1.out.at 3 rfl; have fO3 := O_1.out.free 3 rfl; have cO4 := O_1.out.at 4 rfl; have fO4 := O_1.out.free 4 rfl; have cO5 := O_1.out.at 5 rfl; have fO5 := O_1.out.free 5 rfl
  have lR := R_1.out.1; have cR0 := R_1.out.at 0 rfl; have fR0 := R_1.out.free 0 rfl; have cR1 := R_1.out.at 1 rfl; have fR1 := R_1.out.free 1 rfl; have cR2 := R_1.out.at 2 rfl; have fR2 := R_1.out.free 2 rfl; have cR3 := R_1.out.at 3 rfl; have fR3 := R_1.out.free 3 rfl; have cR4 := R_1.out.at 4 rfl; have fR4 := R_1.out.free 4 rfl; have cR5 := R_1.out.at 5 rfl; have fR5 := R_1.out.free 5 rfl
  go_wp2
  refine bodyPost_ret (v := .agg #[.int .i64 t.at_, .int .i64 t.s, .int .i64 t.m, .int .i64 t.o, .int .i64 t.h, .slice u t.n cu]) (by simp [results, Try.results98, go_sem, cR0, cR1, cR2, cR3, cR4, cR5]) rfl ⟨⟨t.at_, t.s, t.m, t.o, t.h, u, t.n, cu, t.f⟩, ⟨rfl, rfl, rfl, rfl, rfl, rfl, fun _ _ => rfl⟩, rfl, ?_, ?_⟩
  · refine Own.mono (B := ws.heap.size) ?_ (by omega)
    repeat (with_reducible refine Own.setCell ?_ (by (try simp); (try omega)) _)
    exact HO.out
  · repeat (with_reducible refine Below.setCell ?_ (by (try simp); (try omega)) _)
    exact HB2.out
end Go.Proofs.Ytlelgfkebcnepaa

namespace Go.Proofs.Ytlelgfkebcnepaa
open Go.RowKit
set_option linter.unusedVariables false

def gz : GM := ⟨0, 0, 0, 0, 0, none, 0, 0, fun _ => 0⟩

theorem made_get (z : Array Value) (m k : Nat) (hk : k < m) : (madeCells z m).toList[k]? = some z[k % z.size]! := by
  simp [madeCells, hk]

/-- A row of zero objects. -/
theorem gown_made {w : World} {lo b N cap : Nat} (h : w.ownsRow lo 42 6 (.slice (some ⟨b, 0, none⟩) N cap) N (madeCells #[.int .i64 0, .int .i64 0, .int .i64 0, .int .i64 0, .int .i64 0, .slice none 0 0] (N * 6)).toList) (hl : lo ≤ b) (hp : 0 < N) : GOwn w lo w.heap.size b 0 N (fun _ => gz) := by
  have hlt : b < w.heap.size := by
    rcases h.2 with ⟨h', _⟩ | ⟨g', cap', cur, h', _, hg, _⟩
    · cases h'
    · simp only [Value.slice.injEq, Option.some.injEq, Addr.mk.injEq, and_true, true_and] at h'
      obtain ⟨rfl, rfl⟩ := h'
      exact (Array.getElem?_eq_some_iff.mp hg).1
  have hc : ∀ i, i < N → ∀ j, j < 6 → w.cell? ⟨b, i * 6 + j, none⟩ = some (#[.int .i64 0, .int .i64 0, .int .i64 0, .int .i64 0, .int .i64 0, .slice none 0 0] : Array Value)[(i * 6 + j) % 6]! := fun i hi j hj => by
    have := h.cellAt (i * 6 + j) (by omega)
    rw [made_get _ _ _ (by omega)] at this
    simpa using this
  refine ⟨hl, hlt, hlt, fun i hi => ?_, fun i hi => ?_, fun i hi => .inl rfl, fun i hi => .inl rfl, fun i j hi hj hij => .inl rfl⟩
  · have m : ∀ j, j < 6 → (i * 6 + j) % 6 = j := fun j hj => by omega
    rw [Nat.zero_add]
    have k0 := hc i hi 0 (by omega); have k1 := hc i hi 1 (by omega); have k2 := hc i hi 2 (by omega); have k3 := hc i hi 3 (by omega); have k4 := hc i hi 4 (by omega); have k5 := hc i hi 5 (by omega)
    rw [m 0 (by omega)] at k0; rw [m 1 (by omega)] at k1; rw [m 2 (by omega)] at k2; rw [m 3 (by omega)] at k3; rw [m 4 (by omega)] at k4; rw [m 5 (by omega)] at k5
    exact ⟨k0, k1, k2, k3, k4, k5⟩
  · rw [Nat.zero_add]
    exact ⟨h.frozenAt _, h.frozenAt _, h.frozenAt _, h.frozenAt _, h.frozenAt _, h.frozenAt _⟩

/-- The six cells of an object are written. -/
def sixW (w : World) (b o : Nat) (t : GM) : World := ((((((w.setCell ⟨b, o, none⟩ (.int .i64 t.at_)).setCell ⟨b, o + 1, none⟩ (.int .i64 t.s)).setCell ⟨b, o + 2, none⟩ (.int .i64 t.m)).setCell ⟨b, o + 3, none⟩ (.int .i64 t.o)).setCell ⟨b, o + 4, none⟩ (.int .i64 t.h)).setCell ⟨b, o + 5, none⟩ (.slice t.a t.n t.c))

theorem sixW_at {w : World} {b o : Nat} {t0 : GM} (h : SixG w b o t0) (t : GM) : SixG (sixW w b o t) b o t := by
  obtain ⟨x0, x1, x2, x3, x4, x5⟩ := h
  simp [sixW, SixG, x0, x1, x2, x3, x4, x5, World.cell?_setCell_other, World.cell?_setCell_same']

theorem sixW_other {w : World} {b o o' : Nat} {u : GM} (h : SixG w b o u) (hd : o + 6 ≤ o' ∨ o' + 6 ≤ o) (t : GM) : SixG (sixW w b o' t) b o u := by
  have g : ∀ x, x < 6 → ∀ y, y < 6 → (⟨b, o' + y, none⟩ : Addr) ≠ ⟨b, o + x, none⟩ := fun x hx y hy e => by simp at e; try omega
  have k : ∀ x, x < 6 → (sixW w b o' t).cell? ⟨b, o + x, none⟩ = w.cell? ⟨b, o + x, none⟩ := fun x hx => by
    unfold sixW
    rw [World.cell?_setCell_other _ _ _ _ (g x hx 5 (by omega)), World.cell?_setCell_other _ _ _ _ (g x hx 4 (by omega)), World.cell?_setCell_other _ _ _ _ (g x hx 3 (by omega)), World.cell?_setCell_other _ _ _ _ (g x hx 2 (by omega)), World.cell?_setCell_other _ _ _ _ (g x hx 1 (by omega)), World.cell?_setCell_other _ _ _ _ (show (⟨b, o', none⟩ : Addr) ≠ ⟨b, o + x, none⟩ from g x hx 0 (by omega))]
  exact ⟨(k 0 (by omega)).trans h.1, (k 1 (by omega)).trans h.2.1, (k 2 (by omega)).trans h.2.2.1, (k 3 (by omega)).trans h.2.2.2.1, (k 4 (by omega)).trans h.2.2.2.2.1, (k 5 (by omega)).trans h.2.2.2.2.2⟩

theorem sixW_frozen (w : World) (b o : Nat) (t : GM) (p : Addr) : (sixW w b o t).frozen? p = w.frozen? p := by simp [sixW, World.frozen?_setCell]

theorem sixW_keeps (w : World) (b o : Nat) (t : GM) : Keeps w (sixW w b o t) b (b + 1) := by
  unfold sixW
  refine Keeps.trans ?_ (keeps_setCell (p := ⟨b, o + 5, none⟩) (Nat.le_refl b) (Nat.lt_succ_self b) _)
  refine Keeps.trans ?_ (keeps_setCell (p := ⟨b, o + 4, none⟩) (Nat.le_refl b) (Nat.lt_succ_self b) _)
  refine Keeps.trans ?_ (keeps_setCell (p := ⟨b, o + 3, none⟩) (Nat.le_refl b) (Nat.lt_succ_self b) _)
  refine Keeps.trans ?_ (keeps_setCell (p := ⟨b, o + 2, none⟩) (Nat.le_refl b) (Nat.lt_succ_self b) _)
  refine Keeps.trans ?_ (keeps_setCell (p := ⟨b, o + 1, none⟩) (Nat.le_refl b) (Nat.lt_succ_self b) _)
  refine Keeps.trans ?_ (keeps_setCell (p := ⟨b, o, none⟩) (Nat.le_refl b) (Nat.lt_succ_self b) _)
  exact Keeps.refl _ _ _

theorem ownIn_six {w : World} {lo hi b o : Nat} {u : GM} (h : OwnIn w lo hi u.a u.n u.f) (hb : u.n = 0 ∨ u.g ≠ b) (t : GM) : OwnIn (sixW w b o t) lo hi u.a u.n u.f := by
  have k5 := sixW_keeps w b o t
  refine ownIn_at h ?_ k5.size
  rcases hb with h0 | hne
  · exact .inl h0
  · rcases h with h0 | ⟨b', o', ha, _, hx, _⟩
    · exact .inl h0
    · have e : u.g = b' := by simp [GM.g, ha]
      exact .inr (k5.block _ (by omega) (by omega))

/-- One object of a row is laid. -/
theorem gown_put {wr w2 : World} {lo b q N i : Nat} {U : Nat → GM} {t : GM} (h : GOwn wr lo wr.heap.size b q N U) (hi' : i < N) (hb : Below wr.heap.size wr w2) (ho : Own w2 wr.heap.size t.a t.n t.f) :
    GOwn (sixW w2 b (q + i * 6) t) lo (sixW w2 b (q + i * 6) t).heap.size b q N (fun j => if j = i then t else U j) ∧ Below lo w2 (sixW w2 b (q + i * 6) t) := by
  have h1 := h.glo; have h3 := h.lt
  have h' := h.below hb
  have k5 := sixW_keeps w2 b (q + i * 6) t
  have hs := hb.size; have hs5 := k5.size
  have hgt : t.n = 0 ∨ (wr.heap.size ≤ t.g ∧ t.g < w2.heap.size) := by
    rcases ho with h0 | ⟨b', o', ha, hx, hy, _⟩
    · exact .inl h0
    · have e : t.g = b' := by simp [GM.g, ha]
      exact .inr (by omega)
  have hgu : ∀ j, j < N → (U j).n = 0 ∨ (U j).g < wr.heap.size := fun j hj => by
    rcases h.flds j hj with h0 | ⟨b', o', ha, _, hy, _⟩
    · exact .inl h0
    · have e : (U j).g = b' := by simp [GM.g, ha]
      exact .inr (by omega)
  refine ⟨⟨h1, by omega, by omega, fun j hj => ?_, fun j hj => ?_, fun j hj => ?_, fun j hj => ?_, fun a c ha hc hac => ?_⟩, k5.below h1 (by omega)⟩
  · by_cases e : j = i
    · subst e; rw [if_pos rfl]; exact sixW_at (h'.six j hj) t
    · rw [if_neg e]; exact sixW_other (h'.six j hj) (by omega) t
  · have hf := h'.free j hj
    exact ⟨(sixW_frozen _ _ _ _ _).trans hf.1, (sixW_frozen _ _ _ _ _).trans hf.2.1, (sixW_frozen _ _ _ _ _).trans hf.2.2.1, (sixW_frozen _ _ _ _ _).trans hf.2.2.2.1, (sixW_frozen _ _ _ _ _).trans hf.2.2.2.2.1, (sixW_frozen _ _ _ _ _).trans hf.2.2.2.2.2⟩
  · by_cases e : j = i
    · subst e; rw [if_pos rfl]
      exact (ownIn_six (ho.into.widen (by omega) (Nat.le_refl _)) (by omega) t).widen (Nat.le_refl _) (by omega)
    · rw [if_neg e]
      exact (ownIn_six (h'.flds j hj) (h'.off j hj) t).widen (Nat.le_refl _) (by omega)
  · by_cases e : j = i
    · subst e; rw [if_pos rfl]; omega
    · rw [if_neg e]; exact h'.off j hj
  · by_cases ea : a = i
    · by_cases ec : c = i
      · exact absurd (ea.trans ec.symm) hac
      · rw [if_pos ea, if_neg ec]
        have := hgu c hc; omega
    · by_cases ec : c = i
      · rw [if_neg ea, if_pos ec]
        have := hgu a ha; omega
      · rw [if_neg ea, if_neg ec]; exact h'.apart a c ha hc hac

theorem Try.infoOB : (Try.prog.info? 42).map (fun i => (i.zero, i.size, i.bytes)) = some (some (.agg #[.int .i64 0, .int .i64 0, .int .i64 0, .int .i64 0, .int .i64 0, .slice none 0 0]), 6, 64) := by kernel_rfl

theorem Try.underlyingRO : Try.prog.underlying 35 = some (.slice 42) := by kernel_rfl

/-- A new row that holds the same. -/
def RetObjs (W : World) (N : Nat) (T : Nat → GM) (e : Ending) (w' : World) : Prop :=
  ∃ a c T', e = .returned (.slice a N c) ∧ GVO w' W.heap.size w'.heap.size a N T' ∧ (∀ i, i < N → GSame (T i) (T' i)) ∧ Below W.heap.size W w'

set_option maxRecDepth 100000 in
set_option maxHeartbeats 1600000 in
theorem toObjS_any (a : Option Addr) (N c : Nat) (T : Nat → GM) (w : World) (h : GV w a N T) (hN : N ≤ 1048576) (hn : ∀ i, i < N → (T i).n ≤ 1048576) :
    Calls Try.prog 50 #[.slice a N c] w (RetObjs w N T) := by
  obtain ⟨i0, hi, hz0, hz1, hz2⟩ := info_parts Try.infoOB
  have H := Lib.hid h; have HN := Lib.hid hn
  clear h hn
  go_enter Try.func50, Try.ntmps50
  go_wp2_with (at_make; refine wpList_make_full _ rfl _ _ 35 rfl w.heap.size 42 i0 (.agg #[.int .i64 0, .int .i64 0, .int .i64 0, .int .i64 0, .int .i64 0, .slice none 0 0]) 6 Try.underlyingRO hi hz0 hz1 .i64 .i64 N N N rfl rfl rfl rfl (by rw [hz2]; omega) (by unfold maxLen; omega) (Nat.le_refl _) ?_; intro w1 hown1 hgrow1)
  have hb1 : Below w.heap.size w w1 := (Below.refl _ _).grown hgrow1 (Nat.le_refl _) (by intro k hk; simp at hk)
  have HB1 := Lib.hid hb1
  rcases Nat.eq_zero_or_pos N with rfl | hp
  · clear hown1 hgrow1 hb1
    go_loop [4] (fun p => p = .int .i64 0) (fun _ => 0)
    case atStart => rfl
    case round =>
      obtain rfl := hrel
      go_wp2
      go_ret
      exact ⟨_, _, (fun _ => gz), rfl, .inl rfl, fun i hi => by omega, HB1.out⟩
  have hgm := gown_made (b := w.heap.size) (lo := w.heap.size) hown1 (Nat.le_refl _) hp
  have HG := Lib.hid hgm
  have hb2 := hb1.size
  clear hown1 hgrow1 hb1 hgm
  go_loopw [4] (fun p wr => ∃ (i : Nat) (T' : Nat → GM), i ≤ N ∧ p = .int .i64 (i : Int) ∧ Hid (Below w.heap.size w wr) ∧ Hid (GOwn wr w.heap.size wr.heap.size w.heap.size 0 N (fun j => if j < i then T' j else gz)) ∧ Hid (∀ j, j < i → GSame (T j) (T' j))) (fun p _ => N - (intOf p).toNat)
  case atStart => exact ⟨0, (fun _ => gz), Nat.zero_le _, rfl, HB1, by simpa using HG, fun j hj => by omega⟩
  case round =>
    obtain ⟨i, T', hi9, rfl, HBr, HR, HE⟩ := hrel
    by_cases hlt : i < N
    · have hlt' : (i : Int) < (N : Int) := by omega
      have hi0 : (0 : Int) ≤ (i : Int) := by omega
      rcases H.out.below HBr.out with h0 | ⟨b, q, rfl, hg⟩
      · omega
      · have lt := hg.lt
        obtain ⟨x0, x1, x2, x3, x4, x5⟩ := hg.six i hlt
        have hsr := hg.flds i hlt
        have HSR := Lib.hid hsr
        have hnm := HN.out i hlt
        obtain ⟨U, hU⟩ : ∃ U : Nat → GM, U = fun j => if j < i then T' j else gz := ⟨_, rfl⟩
        have hR : GOwn wr w.heap.size wr.heap.size w.heap.size 0 N U := by rw [hU]; exact HR.out
        have HRU := Lib.hid hR; have HU := Lib.hid hU
        have hzr := HBr.out.size
        have lR := hR.lt
        clear hg hsr hU hR HR
        go_wp2_with fail
        refine (toObj_any (T i) _ HSR.out hnm).mono ?_
        rintro e w2 ⟨t', hs', rfl, ho, hb⟩
        have hq := gown_put (i := i) HRU.out hlt hb ho
        have h6 := ((HRU.out.below hb).six i hlt); have h7 := ((HRU.out.below hb).free i hlt)
        rw [Nat.zero_add] at h6 h7 hq
        obtain ⟨y0, y1, y2, y3, y4, y5⟩ := h6
        obtain ⟨f0, f1, f2, f3, f4, f5⟩ := h7
        have l2 : w.heap.size < w2.heap.size := by have := hb.size; omega
        have HQ := Lib.hid hq; have HS' := Lib.hid hs'; have HB2 := Lib.hid (thru0 HBr.out hb)
        clear ho hb hq hs' x0 x1 x2 x3 x4 x5
        go_wp2
        go_roundw
        case rel =>
          refine ⟨i + 1, fun j => if j = i then t' else T' j, by omega, by go_num, HB2.out.trans HQ.out.2, HQ.out.1.congr fun j hj => ?_, fun j hj => ?_⟩
          · by_cases e : j = i
            · subst e; simp
            · have h2 : (j < i + 1) = (j < i) := by simp only [eq_iff_iff]; omega
              simp only [if_neg e, HU.out, h2]
          · by_cases e : j = i
            · subst e; simp only [if_true]; exact HS'.out
            · simp only [if_neg e]; exact HE.out j (by omega)
        case measure => simp [intOf]; omega
    · obtain rfl : i = N := by omega
      go_wp2
      go_ret
      exact ⟨_, _, T', rfl, .inr ⟨w.heap.size, 0, rfl, HR.out.congr fun j hj => by simp [hj]⟩, HE.out, HBr.out⟩
end Go.Proofs.Ytlelgfkebcnepaa

namespace Go.Proofs.Ytlelgfkebcnepaa
open Go.RowKit
set_option linter.unusedVariables false

def gzero : GM := ⟨0, 0, 0, 0, 0, none, 0, 0, fun _ => 0⟩

theorem GSame.tie {t u v : GM} (h1 : GSame t v) (h2 : GSame u v) : GSame t u := by
  obtain ⟨a1, a2, a3, a4, a5, a6, a7⟩ := h1
  obtain ⟨b1, b2, b3, b4, b5, b6, b7⟩ := h2
  exact ⟨a1.trans b1.symm, a2.trans b2.symm, a3.trans b3.symm, a4.trans b4.symm, a5.trans b5.symm, a6.trans b6.symm, fun k hk => (a7 k hk).trans (b7 k (by omega)).symm⟩

theorem GSame.refl (t : GM) : GSame t t := ⟨rfl, rfl, rfl, rfl, rfl, rfl, fun _ _ => rfl⟩

/-- What is owed of the program's function. -/
def ImplSO : Prop := ∀ (a1 a2 : Option Addr) (N N' k1 k2 : Nat) (T U : Nat → GM) (r : Bool) (w : World), GV w a1 N T → GV w a2 N' U → (r = true ↔ N = N' ∧ ∀ i, i < N → GSame (T i) (U i)) → N ≤ 1048576 → N' ≤ 1048576 → (∀ i, i < N → (T i).n ≤ 1048576) → (∀ i, i < N' → (U i).n ≤ 1048576) →
    Calls Try.prog 21 #[.slice a1 N k1, .slice a2 N' k2] w (RetBool w r)
end Go.Proofs.Ytlelgfkebcnepaa

namespace Go.Proofs.Ytlelgfkebcnepaa
open Go.ChangeShapes Go.WideShapes Go.ChangeAt Go.RowKit Go.Joins Go.Deep
set_option linter.unusedVariables false

theorem Try.cellsO130 : Try.prog.cellsOf 130 = 6 := by kernel_rfl

theorem Try.cellsO67 : Try.prog.cellsOf 67 = 4 := by kernel_rfl

theorem Try.cellsO24 : Try.prog.cellsOf 24 = 1 := by kernel_rfl

theorem Try.cellsO2 : Try.prog.cellsOf 2 = 1 := by kernel_rfl

instance : Inhabited GM := ⟨gzero⟩

theorem add_none (b off i : Nat) : (⟨b, off, none⟩ : Addr).add i = ⟨b, off + i, none⟩ := by
  rcases i with _ | i <;> simp [Addr.add]

theorem src_ints {W : World} {x : Addr} {l : Nat} {zs : List Int} (hlz : l ≤ zs.length) (hcell : ∀ i, i < zs.length → W.cell? (x.add i) = some (.int .i64 (zs.getD i 0))) : Src W (some x) l (fun i => zs.getD i 0) := by
  by_cases h0 : l = 0
  · exact .inl h0
  · right
    obtain ⟨b, off, spot⟩ := x
    have hc := hcell 0 (by omega)
    have hspot : spot = none := by simpa [Addr.add] using World.cell?_spot hc
    subst hspot
    refine ⟨b, off, rfl, World.block_lt_of_cell? W _ (by simpa [Addr.add] using hc), fun i hi => ?_⟩
    have := hcell i (by omega)
    rwa [add_none] at this

set_option maxRecDepth 100000 in
/-- One object, out of its six cells. -/
theorem open_object {H : Type} {enc : TypeId × Value → H} {W : World} {n : Nat} {cs : List Value} {y : DataW H × List MemPlace} (hlen : cs.length = 6) (h : DataW.trod enc Try.prog W 0 (fun _ => true) true n 130 cs = some y) :
    ∃ t : GM, cs = [.int .i64 t.at_, .int .i64 t.s, .int .i64 t.m, .int .i64 t.o, .int .i64 t.h, .slice t.a t.n t.c] ∧ Src W t.a t.n t.f ∧ t.n ≤ maxLen := by
  match cs, hlen with
  | [v0, v1, v2, v3, v4, v5], _ =>
    obtain ⟨xs, k, _, _, _, hxl, hf⟩ := DataW.trod_struct Try.underlying130 h
    have hxl : xs.length = 3 := hxl
    match xs, hxl with
    | [y0, y1, y2], _ =>
      have g0 := hf 0 _ rfl
      have g1 := hf 1 _ rfl
      have g2 := hf 2 _ rfl
      simp [Try.cellsO2] at g0
      simp [Try.cellsO67] at g1
      simp [Try.cellsO24] at g2
      obtain ⟨i0, e0, _, _⟩ := DataW.trod_int Try.underlying2 g0
      obtain ⟨xs', k', _, _, _, hxl', hf'⟩ := DataW.trod_struct Try.underlying67 g1
      have hxl' : xs'.length = 4 := hxl'
      match xs', hxl' with
      | [z0, z1, z2, z3], _ =>
        have k0 := hf' 0 _ rfl
        have k1 := hf' 1 _ rfl
        have k2 := hf' 2 _ rfl
        have k3 := hf' 3 _ rfl
        simp [Try.cellsO2] at k0 k1 k2 k3
        obtain ⟨i1, e1, _, _⟩ := DataW.trod_int Try.underlying2 k0
        obtain ⟨i2, e2, _, _⟩ := DataW.trod_int Try.underlying2 k1
        obtain ⟨i3, e3, _, _⟩ := DataW.trod_int Try.underlying2 k2
        obtain ⟨i4, e4, _, _⟩ := DataW.trod_int Try.underlying2 k3
        simp only [List.cons.injEq, and_true] at e0 e1 e2 e3 e4
        subst e0 e1 e2 e3 e4
        rcases open_ints Try.underlying24 Try.underlying2 (by kernel_rfl) g2 with ⟨hcs, _⟩ | ⟨x, l, c, zs, hcs, _, hl, hm, hz, _, hcell, _⟩
        · simp only [List.cons.injEq, and_true] at hcs
          subst hcs
          exact ⟨⟨i0, i1, i2, i3, i4, none, 0, 0, fun _ => 0⟩, rfl, .inl rfl, Nat.zero_le _⟩
        · simp only [List.cons.injEq, and_true] at hcs
          subst hcs
          have hlz : l ≤ zs.length := by
            rw [hz]; split
            · exact hl
            · exact Nat.le_refl _
          exact ⟨⟨i0, i1, i2, i3, i4, some x, l, c, fun i => zs.getD i 0⟩, rfl, src_ints hlz hcell, Nat.le_trans hl hm⟩

set_option maxRecDepth 100000 in
/-- What came in: a row of objects. -/
theorem open_objects {H : Type} {enc : TypeId × Value → H} {W : World} {base : Nat} {v0 : Value} {d0 : DataW H} {p0 : List MemPlace}
    (hv : Value.okWide Try.prog W .any base 75 v0) (h0 : DataW.Trod enc Try.prog W 0 (fun _ => true) true 75 v0 d0 p0) :
    ∃ (a : Option Addr) (N c : Nat) (T : Nat → GM), v0 = .slice a N c ∧ GV W a N T ∧ N ≤ maxLen ∧ ∀ i, i < N → (T i).n ≤ maxLen := by
  obtain ⟨a0, len0, cap0, rfl⟩ := okWide_slice Try.underlying75 hv
  obtain ⟨fuel, hf⟩ := h0
  rcases open_slice Try.underlying75 hf with ⟨hcs, _⟩ | ⟨x, l, c, m, n, D, Pl, hcs, _, hl, hm, hmm, _, hx⟩
  · simp [Value.cells] at hcs
    obtain ⟨rfl, rfl, rfl⟩ := hcs
    exact ⟨none, 0, 0, fun _ => gzero, rfl, .inl rfl, Nat.zero_le _, fun i hi => by omega⟩
  · simp [Value.cells] at hcs
    obtain ⟨rfl, rfl, rfl⟩ := hcs
    have hlm : len0 ≤ m := by
      rw [hmm]; split
      · exact hl
      · exact Nat.le_refl _
    have each : ∀ i, i < len0 → ∃ t : GM, (∀ j u, ([.int .i64 t.at_, .int .i64 t.s, .int .i64 t.m, .int .i64 t.o, .int .i64 t.h, .slice t.a t.n t.c] : List Value)[j]? = some u → W.cell? ((x.add (i * 6)).add j) = some u) ∧ Src W t.a t.n t.f ∧ t.n ≤ maxLen := fun i hi => by
      obtain ⟨cs', h1, h2⟩ := hx i (by omega)
      rw [Try.cellsO130] at h1
      obtain ⟨_, hlen, hat⟩ := World.cells?_some h1
      obtain ⟨t, rfl, h3, h4⟩ := open_object hlen h2
      refine ⟨t, fun j u hu => ?_, h3, h4⟩
      rw [hat j (List.getElem?_eq_some_iff.mp hu).1, hu]
    by_cases hz : len0 = 0
    · exact ⟨some x, len0, cap0, fun _ => gzero, rfl, .inl hz, by omega, fun i hi => by omega⟩
    obtain ⟨T, hT⟩ := Go.Deep.choose_lt each
    refine ⟨some x, len0, cap0, T, rfl, ?_, by omega, fun i hi => (hT i hi).2.2⟩
    obtain ⟨b, off, spot⟩ := x
    have hc := (hT 0 (by omega)).1 0 _ rfl
    have hspot : spot = none := by simpa [Addr.add] using World.cell?_spot hc
    subst hspot
    refine .inr ⟨b, off, rfl, World.block_lt_of_cell? W _ (by simpa [Addr.add] using hc), fun i hi => ?_, fun i hi => (hT i hi).2.1⟩
    have g := fun j u hu => (hT i hi).1 j u hu
    simp only [add_none] at g
    exact ⟨g 0 _ rfl, g 1 _ rfl, g 2 _ rfl, g 3 _ rfl, g 4 _ rfl, g 5 _ rfl⟩
end Go.Proofs.Ytlelgfkebcnepaa

namespace Go.Proofs.Ytlelgfkebcnepaa
open Go.RowKit
set_option linter.unusedVariables false

theorem GSame.swap {t u v x : GM} (h1 : GSame t v) (h2 : GSame u x) : GSame v x ↔ GSame t u := by
  obtain ⟨a1, a2, a3, a4, a5, a6, a7⟩ := h1
  obtain ⟨b1, b2, b3, b4, b5, b6, b7⟩ := h2
  constructor
  · rintro ⟨c1, c2, c3, c4, c5, c6, c7⟩
    exact ⟨by omega, by omega, by omega, by omega, by omega, by omega, fun k hk => by rw [a7 k hk, c7 k (by omega), b7 k (by omega)]⟩
  · rintro ⟨c1, c2, c3, c4, c5, c6, c7⟩
    exact ⟨by omega, by omega, by omega, by omega, by omega, by omega, fun k hk => by rw [← a7 k (by omega), c7 k (by omega), b7 k (by omega)]⟩

theorem same_swap {N N' : Nat} {T U T' U' : Nat → GM} {r : Bool} (hr : r = true ↔ N = N' ∧ ∀ i, i < N → GSame (T i) (U i)) (h1 : ∀ i, i < N → GSame (T i) (T' i)) (h2 : ∀ i, i < N' → GSame (U i) (U' i)) : r = true ↔ N = N' ∧ ∀ i, i < N → GSame (T' i) (U' i) := by
  rw [hr]
  constructor
  · rintro ⟨e, h⟩
    exact ⟨e, fun i hi => (GSame.swap (h1 i hi) (h2 i (by omega))).mpr (h i hi)⟩
  · rintro ⟨e, h⟩
    exact ⟨e, fun i hi => (GSame.swap (h1 i hi) (h2 i (by omega))).mp (h i hi)⟩

theorem same_n {N : Nat} {T T' : Nat → GM} (h : ∀ i, i < N → GSame (T i) (T' i)) (hn : ∀ i, i < N → (T i).n ≤ 1048576) : ∀ i, i < N → (T' i).n ≤ 1048576 := fun i hi => by rw [← (h i hi).2.2.2.2.2.1]; exact hn i hi

theorem GSame.symm {t u : GM} (h : GSame t u) : GSame u t := (GSame.refl u).tie h

theorem same_row {N : Nat} {T T1 T2 : Nat → GM} (h1 : ∀ i, i < N → GSame (T i) (T1 i)) (h2 : ∀ i, i < N → GSame (T i) (T2 i)) : ∀ i, i < N → GSame (T1 i) (T2 i) := fun i hi => (h1 i hi).symm.tie (h2 i hi).symm

theorem same_bool (N N' : Nat) (T U : Nat → GM) : ∃ r : Bool, r = true ↔ N = N' ∧ ∀ i, i < N → GSame (T i) (U i) := by
  by_cases h : N = N' ∧ ∀ i, i < N → GSame (T i) (U i)
  · exact ⟨true, ⟨fun _ => h, fun _ => rfl⟩⟩
  · exact ⟨false, ⟨fun e => (by cases e), fun e => absurd e h⟩⟩

set_option maxHeartbeats 3200000 in
theorem e11_any (HI : ImplSO) (a1 a2 : Option Addr) (N1 N2 c1 c2 : Nat) (T U : Nat → GM) (w : World) (hs1 : GV w a1 N1 T) (hs2 : GV w a2 N2 U) (hN1 : N1 ≤ maxLen) (hN2 : N2 ≤ maxLen) (hn1 : ∀ i, i < N1 → (T i).n ≤ maxLen) (hn2 : ∀ i, i < N2 → (U i).n ≤ maxLen) :
    Calls Try.prog 11 #[.slice a1 N1 c1, .slice a2 N2 c2] w (RetBool w true) := by
  obtain ⟨r, hr⟩ := same_bool N1 N2 T U
  have HR := Lib.hid hr
  have SA := Lib.hid hs1
  have SB := Lib.hid hs2
  have HN1 := Lib.hid hn1
  have HN2 := Lib.hid hn2
  have HM1 := Lib.hid hN1
  have HM2 := Lib.hid hN2
  clear hr hs1 hs2 hn1 hn2 hN1 hN2
  go_enter Try.func11, Try.ntmps11
  go_wp2_with fail
  refine (szObjS_any a1 N1 c1 T 1048576 _ SA.out HM1.out HN1.out (by omega) (by omega)).mono ?_
  rintro e w1 ⟨hb, r1, rfl, hle1, hc1⟩
  have HB1 := Lib.hid (thru0 (Below.refl _ _) hb); have SA_1 := Lib.hid (SA.out.below hb); have SB_1 := Lib.hid (SB.out.below hb); have z1 : w.heap.size ≤ w1.heap.size := hb.size
  clear hb SA SB
  rcases hc1 with rfl | ⟨hp1, hq1, hv1⟩
  · go_wp2
    go_ret
    exact ⟨rfl, HB1.out⟩
  · have HV1 := Lib.hid hv1
    clear hv1
    go_wp2_with fail
    refine (szObjS_any a2 N2 c2 U r1 _ SB_1.out HM2.out HN2.out hp1 (by omega)).mono ?_
    rintro e w2 ⟨hb, r2, rfl, hle2, hc2⟩
    have HB2 := Lib.hid (thru0 HB1.out hb); have SA_2 := Lib.hid (SA_1.out.below hb); have SB_2 := Lib.hid (SB_1.out.below hb); have z2 : w1.heap.size ≤ w2.heap.size := hb.size
    clear hb SA_1 SB_1 HB1
    rcases hc2 with rfl | ⟨hp2, hq2, hv2⟩
    · go_wp2
      go_ret
      exact ⟨rfl, HB2.out⟩
    · have HV2 := Lib.hid hv2
      clear hv2
      have hA : N1 ≤ 1048576 := by omega
      have hB : N2 ≤ 1048576 := by omega
      have HA := Lib.hid (show ∀ i, i < N1 → (T i).n ≤ 1048576 from fun i hi => by have := HV1.out i hi; omega)
      have HBn := Lib.hid (show ∀ i, i < N2 → (U i).n ≤ 1048576 from fun i hi => by have := HV2.out i hi; omega)
      go_wp2_with fail
      refine (toObjS_any _ N1 _ T _ SA_2.out hA HA.out).mono ?_
      rintro e w3 ⟨u3, c3k, T3, rfl, ho, hg3, hb⟩
      have HB3 : Hid (Below w.heap.size w w3) := thru0 HB2.out hb
      have z3 : w2.heap.size ≤ w3.heap.size := hb.size
      have SA_3 := Lib.hid (SA_2.out.below hb)
      have SB_3 := Lib.hid (SB_2.out.below hb)
      have RA_3 : Hid (GVO w3 w2.heap.size w3.heap.size u3 N1 T3) := ho
      have HG3 := Lib.hid hg3
      clear hg3
      clear hb SA_2 SB_2 HB2 ho
      go_wp2_with fail
      refine (toObjS_any _ N2 _ U _ SB_3.out hB HBn.out).mono ?_
      rintro e w4 ⟨u4, c4k, T4, rfl, ho, hg4, hb⟩
      have HB4 : Hid (Below w.heap.size w w4) := thru0 HB3.out hb
      have z4 : w3.heap.size ≤ w4.heap.size := hb.size
      have SA_4 := Lib.hid (SA_3.out.below hb)
      have SB_4 := Lib.hid (SB_3.out.below hb)
      have RA_4 := Lib.hid (RA_3.out.below hb)
      have RB_4 : Hid (GVO w4 w3.heap.size w4.heap.size u4 N2 T4) := ho
      have HG4 := Lib.hid hg4
      clear hg4
      clear hb SA_3 SB_3 RA_3 HB3 ho
      go_wp2_with fail
      refine (specSO_any _ _ N1 N2 _ _ T3 T4 r _ RA_4.out.src RB_4.out.src (same_swap HR.out HG3.out HG4.out) hA hB (same_n HG3.out HA.out) (same_n HG4.out HBn.out)).mono ?_
      rintro e w5 ⟨rfl, hb⟩
      have HB5 : Hid (Below w.heap.size w w5) := thru0 HB4.out hb
      have z5 : w4.heap.size ≤ w5.heap.size := hb.size
      have SA_5 := Lib.hid (SA_4.out.below hb)
      have SB_5 := Lib.hid (SB_4.out.below hb)
      have RA_5 := Lib.hid (RA_4.out.below hb)
      have RB_5 := Lib.hid (RB_4.out.below hb)
      clear hb SA_4 SB_4 RA_4 RB_4 HB4
      clear RA_5 RB_5
      go_wp2_with fail
      refine (toObjS_any _ N1 _ T _ SA_5.out hA HA.out).mono ?_
      rintro e w6 ⟨u6, c6k, T6, rfl, ho, hg6, hb⟩
      have HB6 : Hid (Below w.heap.size w w6) := thru0 HB5.out hb
      have z6 : w5.heap.size ≤ w6.heap.size := hb.size
      have SA_6 := Lib.hid (SA_5.out.below hb)
      have SB_6 := Lib.hid (SB_5.out.below hb)
      have RX_6 : Hid (GVO w6 w5.heap.size w6.heap.size u6 N1 T6) := ho
      have HG6 := Lib.hid hg6
      clear hg6
      clear hb SA_5 SB_5 HB5 ho
      go_wp2_with fail
      refine (toObjS_any _ N2 _ U _ SB_6.out hB HBn.out).mono ?_
      rintro e w7 ⟨u7, c7k, T7, rfl, ho, hg7, hb⟩
      have HB7 : Hid (Below w.heap.size w w7) := thru0 HB6.out hb
      have z7 : w6.heap.size ≤ w7.heap.size := hb.size
      have SA_7 := Lib.hid (SA_6.out.below hb)
      have SB_7 := Lib.hid (SB_6.out.below hb)
      have RX_7 := Lib.hid (RX_6.out.below hb)
      have RY_7 : Hid (GVO w7 w6.heap.size w7.heap.size u7 N2 T7) := ho
      have HG7 := Lib.hid hg7
      clear hg7
      clear hb SA_6 SB_6 RX_6 HB6 ho
      go_wp2_with fail
      refine (HI _ _ N1 N2 _ _ T6 T7 r _ RX_7.out.src RY_7.out.src (same_swap HR.out HG6.out HG7.out) hA hB (same_n HG6.out HA.out) (same_n HG7.out HBn.out)).mono ?_
      rintro e w8 ⟨rfl, hb⟩
      have HB8 : Hid (Below w.heap.size w w8) := thru0 HB7.out hb
      have z8 : w7.heap.size ≤ w8.heap.size := hb.size
      have SA_8 := Lib.hid (SA_7.out.below hb)
      have SB_8 := Lib.hid (SB_7.out.below hb)
      have RX_8 := Lib.hid (RX_7.out.below hb)
      have RY_8 := Lib.hid (RY_7.out.below hb)
      clear hb SA_7 SB_7 RX_7 RY_7 HB7
      go_wp2_with fail
      refine (toObjS_any _ N1 _ T _ SA_8.out hA HA.out).mono ?_
      rintro e w9 ⟨u9, c9k, T9, rfl, ho, hg9, hb⟩
      have HB9 : Hid (Below w.heap.size w w9) := thru0 HB8.out hb
      have z9 : w8.heap.size ≤ w9.heap.size := hb.size
      have SA_9 := Lib.hid (SA_8.out.below hb)
      have SB_9 := Lib.hid (SB_8.out.below hb)
      have RX_9 := Lib.hid (RX_8.out.below hb)
      have RY_9 := Lib.hid (RY_8.out.below hb)
      have RT_9 : Hid (GVO w9 w8.heap.size w9.heap.size u9 N1 T9) := ho
      have HG9 := Lib.hid hg9
      clear hg9
      clear hb SA_8 SB_8 RX_8 RY_8 HB8 ho
      go_wp2_with fail
      refine (eqGV_same _ _ N1 _ _ T6 T9 _ RX_9.out.src RT_9.out.src (same_row HG6.out HG9.out) hA (same_n HG6.out HA.out)).mono ?_
      rintro e w10 ⟨rfl, hb⟩
      have HB10 : Hid (Below w.heap.size w w10) := thru0 HB9.out hb
      have z10 : w9.heap.size ≤ w10.heap.size := hb.size
      have SA_10 := Lib.hid (SA_9.out.below hb)
      have SB_10 := Lib.hid (SB_9.out.below hb)
      have RX_10 := Lib.hid (RX_9.out.below hb)
      have RY_10 := Lib.hid (RY_9.out.below hb)
      have RT_10 := Lib.hid (RT_9.out.below hb)
      clear hb SA_9 SB_9 RX_9 RY_9 RT_9 HB9
      clear RT_10
      go_wp2_with fail
      refine (toObjS_any _ N2 _ U _ SB_10.out hB HBn.out).mono ?_
      rintro e w11 ⟨u11, c11k, T11, rfl, ho, hg11, hb⟩
      have HB11 : Hid (Below w.heap.size w w11) := thru0 HB10.out hb
      have z11 : w10.heap.size ≤ w11.heap.size := hb.size
      have SA_11 := Lib.hid (SA_10.out.below hb)
      have SB_11 := Lib.hid (SB_10.out.below hb)
      have RX_11 := Lib.hid (RX_10.out.below hb)
      have RY_11 := Lib.hid (RY_10.out.below hb)
      have RT_11 : Hid (GVO w11 w10.heap.size w11.heap.size u11 N2 T11) := ho
      have HG11 := Lib.hid hg11
      clear hg11
      clear hb SA_10 SB_10 RX_10 RY_10 HB10 ho
      go_wp2_with fail
      refine (eqGV_same _ _ N2 _ _ T7 T11 _ RY_11.out.src RT_11.out.src (same_row HG7.out HG11.out) hB (same_n HG7.out HBn.out)).mono ?_
      rintro e w12 ⟨rfl, hb⟩
      have HB12 : Hid (Below w.heap.size w w12) := thru0 HB11.out hb
      have z12 : w11.heap.size ≤ w12.heap.size := hb.size
      have SA_12 := Lib.hid (SA_11.out.below hb)
      have SB_12 := Lib.hid (SB_11.out.below hb)
      have RX_12 := Lib.hid (RX_11.out.below hb)
      have RY_12 := Lib.hid (RY_11.out.below hb)
      have RT_12 := Lib.hid (RT_11.out.below hb)
      clear hb SA_11 SB_11 RX_11 RY_11 RT_11 HB11
      go_wp2
      go_ret
      exact ⟨rfl, HB12.out⟩
end Go.Proofs.Ytlelgfkebcnepaa

namespace Go.Proofs.Ytlelgfkebcnepaa
open Go.RowKit
set_option linter.unusedVariables false

theorem GSame.trans {t u v : GM} (h1 : GSame t u) (h2 : GSame u v) : GSame t v := by
  obtain ⟨a1, a2, a3, a4, a5, a6, a7⟩ := h1
  obtain ⟨b1, b2, b3, b4, b5, b6, b7⟩ := h2
  exact ⟨a1.trans b1, a2.trans b2, a3.trans b3, a4.trans b4, a5.trans b5, a6.trans b6, fun k hk => (a7 k hk).trans (b7 k (by omega))⟩
end Go.Proofs.Ytlelgfkebcnepaa

namespace Go.Proofs.Ytlelgfkebcnepaa
open Go.RowKit
set_option linter.unusedVariables false

/-- Each object's fields are numbers of their own, later ones in later blocks. -/
def FldG (w : World) (lo : Nat) (v : Value) (M : List GM) : Prop :=
  (∀ t ∈ M, t.n = 0 ∨ (lo ≤ t.g ∧ t.g < w.heap.size ∧ some t.g ≠ v.ownBlock ∧ ∃ q, t.a = some ⟨t.g, q, none⟩ ∧ ∀ k, k < t.n → w.cell? ⟨t.g, q + k, none⟩ = some (.int .i64 (t.f k)) ∧ w.frozen? ⟨t.g, q + k, none⟩ = false)) ∧ M.Pairwise (fun t u => t.n = 0 ∨ u.n = 0 ∨ t.g < u.g)

theorem FldG.block {w w' : World} {lo : Nat} {v : Value} {M : List GM} (h : FldG w lo v M) (hz : w.heap.size ≤ w'.heap.size) (hb : ∀ b, lo ≤ b → b < w.heap.size → some b ≠ v.ownBlock → w'.heap[b]? = w.heap[b]?) : FldG w' lo v M :=
  ⟨fun t ht => by
    rcases h.1 t ht with h0 | ⟨h1, h2, h3, q, h4, h5⟩
    · exact .inl h0
    · have e := hb t.g h1 h2 h3
      exact .inr ⟨h1, Nat.lt_of_lt_of_le h2 hz, h3, q, h4, fun k hk => ⟨(World.cell?_of_block (w := w) (a := ⟨t.g, q + k, none⟩) e).trans (h5 k hk).1, (World.frozen?_of_block (w := w) (a := ⟨t.g, q + k, none⟩) e).trans (h5 k hk).2⟩⟩, h.2⟩

theorem FldG.below {w w' : World} {lo : Nat} {v : Value} {M : List GM} (h : FldG w lo v M) (hb : Below w.heap.size w w') : FldG w' lo v M := h.block hb.size fun b _ h2 _ => hb.block b h2
end Go.Proofs.Ytlelgfkebcnepaa

namespace Go.Proofs.Ytlelgfkebcnepaa
open Go.RowKit Go.Shelf
set_option linter.unusedVariables false

/-- What lay below B, and what holds cells, is as it was. -/
structure Turn (B : Nat) (V V' : World) : Prop where
  os : V'.os = V.os
  tape : V'.tape = V.tape
  output : V'.output = V.output
  size : V.heap.size ≤ V'.heap.size
  same : ∀ (k : Nat) (o : Obj), V.heap[k]? = some o → (k < B ∨ o.isCells = true) → V'.heap[k]? = some o

theorem Turn.trans {B : Nat} {V V' V'' : World} (h : Turn B V V') (h' : Turn B V' V'') : Turn B V V'' :=
  ⟨h'.os.trans h.os, h'.tape.trans h.tape, h'.output.trans h.output, Nat.le_trans h.size h'.size, fun k o hk hc => h'.same k o (h.same k o hk hc) hc⟩

theorem Turn.below {B n : Nat} {V V' : World} (h : Turn B V V') (hn : n ≤ B) (hz : n ≤ V.heap.size) : Below n V V' :=
  ⟨h.os, h.tape, h.output, h.size, fun k hk => by
    have hk' : V.heap[k]? = some (V.heap[k]'(by omega)) := Array.getElem?_eq_getElem (by omega)
    rw [hk']; exact h.same k _ hk' (.inl (by omega))⟩

theorem Turn.cell {B : Nat} {V V' : World} (h : Turn B V V') {p : Addr} {v : Value} (hc : V.cell? p = some v) : V'.cell? p = some v ∧ V'.frozen? p = V.frozen? p ∧ V'.heap[p.block]? = V.heap[p.block]? := by
  obtain ⟨o, ho, hcc⟩ := cells_of_cell hc
  have e : V'.heap[p.block]? = V.heap[p.block]? := (h.same _ o ho (.inr hcc)).trans ho.symm
  exact ⟨(World.cell?_of_block e).trans hc, World.frozen?_of_block e, e⟩

theorem Turn.own {B : Nat} {V V' : World} (h : Turn B V V') {lo n : Nat} {a : Option Addr} {f : Nat → Int} (ho : Own V lo a n f) : Own V' lo a n f := by
  rcases ho with h0 | ⟨b, off, he, h1, h2, h3⟩
  · exact .inl h0
  · exact .inr ⟨b, off, he, h1, Nat.lt_of_lt_of_le h2 h.size, fun k hk => by
      obtain ⟨e1, e2, _⟩ := h.cell (h3 k hk).1
      exact ⟨e1, e2.trans (h3 k hk).2⟩⟩
end Go.Proofs.Ytlelgfkebcnepaa

namespace Go.Proofs.Ytlelgfkebcnepaa
open Go.RowKit
set_option linter.unusedVariables false

theorem eqB_iff (n m : Nat) (f g : Nat → Int) : eqB n m f g = true ↔ n = m ∧ ∀ i, i < n → f i = g i := by
  by_cases h : n = m
  · subst h
    constructor
    · intro he
      refine ⟨rfl, fun i hi => ?_⟩
      rcases Decidable.em (f i = g i) with hx | hx
      · exact hx
      · rw [eqB_no i hi hx] at he; cases he
    · rintro ⟨_, hx⟩
      exact eqB_yes hx
  · rw [eqB_no_len h]
    exact ⟨fun hx => (by cases hx), fun hx => absurd hx.1 h⟩

set_option maxRecDepth 100000 in
set_option maxHeartbeats 1600000 in
theorem so1_any (t u : GM) (r : Bool) (w : World) (s1 : Src w t.a t.n t.f) (s2 : Src w u.a u.n u.f) (hn : t.n ≤ 1048576) (hm : u.n ≤ 1048576) (hr : r = true ↔ GSame t u) :
    Calls Try.prog 71 #[.agg #[.int .i64 t.at_, .int .i64 t.s, .int .i64 t.m, .int .i64 t.o, .int .i64 t.h, .slice t.a t.n t.c], .agg #[.int .i64 u.at_, .int .i64 u.s, .int .i64 u.m, .int .i64 u.o, .int .i64 u.h, .slice u.a u.n u.c]] w (RetBool w r) := by
  have S1 := Lib.hid s1; have S2 := Lib.hid s2; have HR := Lib.hid hr
  clear s1 s2 hr
  by_cases h1 : t.at_ = u.at_
  · by_cases h2 : t.s = u.s ∧ t.m = u.m ∧ t.o = u.o ∧ t.h = u.h
    · obtain ⟨e1, e2, e3, e4⟩ := h2
      have hre : Hid (eqB t.n u.n t.f u.f = r) := Lib.hid (by
        cases hq : eqB t.n u.n t.f u.f with
        | true =>
          obtain ⟨q1, q2⟩ := (eqB_iff _ _ _ _).1 hq
          exact (HR.out.2 ⟨h1, e1, e2, e3, e4, q1, q2⟩).symm
        | false =>
          cases r with
          | false => rfl
          | true =>
            obtain ⟨_, _, _, _, _, q1, q2⟩ := HR.out.1 rfl
            rw [(eqB_iff _ _ _ _).2 ⟨q1, q2⟩] at hq; cases hq)
      go_enter Try.func71, Try.ntmps71
      go_wp2_with fail
      refine (slEqual_is r t.a u.a t.n u.n _ _ t.f u.f _ hre.out ((S1.out.alloc _).alloc _) ((S2.out.alloc _).alloc _) hn hm).mono ?_
      rintro e w1 ⟨rfl, hb⟩
      have HB1 := Lib.hid (thru2 (Below.refl _ _) hb)
      clear hb
      go_wp2
      go_ret
      exact ⟨rfl, HB1.out⟩
    · have hrf : r = false := by
        cases r with
        | false => rfl
        | true => obtain ⟨_, q1, q2, q3, q4, _⟩ := HR.out.1 rfl; exact absurd ⟨q1, q2, q3, q4⟩ h2
      subst hrf
      go_enter Try.func71, Try.ntmps71
      go_wp2
      all_goals
        go_ret
        exact ⟨rfl, ((Below.refl _ _).alloc (Nat.le_refl _) _).alloc (by simp) _⟩
  · have hrf : r = false := by
      cases r with
      | false => rfl
      | true => exact absurd (HR.out.1 rfl).1 h1
    subst hrf
    go_enter Try.func71, Try.ntmps71
    go_wp2
    go_ret
    exact ⟨rfl, ((Below.refl _ _).alloc (Nat.le_refl _) _).alloc (by simp) _⟩

set_option maxRecDepth 100000 in
set_option maxHeartbeats 1600000 in
theorem ef_any (a1 a2 : Option Addr) (N N' k1 k2 : Nat) (T U : Nat → GM) (r : Bool) (w : World) (g1 : GV w a1 N T) (g2 : GV w a2 N' U) (hr : r = true ↔ N = N' ∧ ∀ i, i < N → GSame (T i) (U i)) (hn : N ≤ 1048576) (hn' : N' ≤ 1048576) (ht : ∀ i, i < N → (T i).n ≤ 1048576) (hu : ∀ i, i < N' → (U i).n ≤ 1048576) :
    Calls Try.prog 70 #[.slice a1 N k1, .slice a2 N' k2, .func (.func 71) #[] #[]] w (RetBool w r) := by
  have G1 := Lib.hid g1; have G2 := Lib.hid g2; have HR := Lib.hid hr; have HT := Lib.hid ht; have HU := Lib.hid hu
  clear g1 g2 hr ht hu
  have eg : ∀ args w, (callFunc 71 args).run Try.prog w = .ok (.enter 71 args) w := enters_of Try.func71 (by kernel_rfl) rfl
  by_cases hl : N = N'
  · subst hl
    go_enter Try.func70, Try.ntmps70
    go_wp2
    go_loopw [17] (fun p wr => ∃ i : Nat, i ≤ N ∧ p = .int .i64 (i : Int) ∧ Hid (Below w.heap.size w wr) ∧ Hid (∀ j, j < i → GSame (T j) (U j))) (fun p _ => N - (intOf p).toNat)
    case atStart => exact ⟨0, Nat.zero_le _, rfl, Below.refl _ _, Lib.hid (fun j hj => by omega)⟩
    case round =>
      obtain ⟨i, hi, rfl, HBr, HE⟩ := hrel
      by_cases hlt : i < N
      · have hlt' : (i : Int) < (N : Int) := by omega
        have hi0 : (0 : Int) ≤ (i : Int) := by omega
        obtain ⟨b1, q1, rfl, s1⟩ : ∃ b q, a1 = some ⟨b, q, none⟩ ∧ GSrc w b q N T := by
          rcases G1.out with h0 | h
          · omega
          · exact h
        obtain ⟨b2, q2, rfl, s2⟩ : ∃ b q, a2 = some ⟨b, q, none⟩ ∧ GSrc w b q N U := by
          rcases G2.out with h0 | h
          · omega
          · exact h
        have x1 := (s1.six i hlt).below HBr.out s1.lt
        have x2 := (s2.six i hlt).below HBr.out s2.lt
        have f1 := (s1.flds i hlt).below HBr.out
        have f2 := (s2.flds i hlt).below HBr.out
        have hl2 : b2 < wr.heap.size := Nat.lt_of_lt_of_le s2.lt HBr.out.size
        have htn := HT.out i hlt
        have hun := HU.out i hlt
        have hnext : Hid (GSame (T i) (U i) → ∀ j, j < i + 1 → GSame (T j) (U j)) := Lib.hid (fun hx j hj => by
          rcases Nat.lt_succ_iff_lt_or_eq.mp hj with h | h
          · exact HE.out j h
          · subst h; exact hx)
        have hbad : Hid (¬ GSame (T i) (U i) → r = false) := Lib.hid (fun hx => by
          cases r with
          | false => rfl
          | true => exact absurd ((HR.out.1 rfl).2 i hlt) hx)
        obtain ⟨t, hte⟩ : ∃ t, T i = t := ⟨_, rfl⟩
        obtain ⟨u, hue⟩ : ∃ u, U i = u := ⟨_, rfl⟩
        rw [hte] at x1 f1 htn hnext hbad
        rw [hue] at x2 f2 hun hnext hbad
        have ST := Lib.hid f1; have SU := Lib.hid f2; have X1 := Lib.hid x1; have X2 := Lib.hid x2
        clear hte hue s1 s2 x1 x2 f1 f2
        have Y2 := Lib.hid (X2.out.below ((Below.refl wr.heap.size wr).alloc (Nat.le_refl _) (.cells #[.int .i64 t.at_, .int .i64 t.s, .int .i64 t.m, .int .i64 t.o, .int .i64 t.h, .slice t.a t.n t.c] 42)) hl2)
        obtain ⟨p0, p1, p2, p3, p4, p5⟩ := X1.out
        obtain ⟨y0, y1, y2, y3, y4, y5⟩ := Y2.out
        by_cases hs : GSame t u
        · have HS := Lib.hid hs
          clear hs
          go_wp2_with (go_at_fn 71; refine (so1_any t u true _ (ST.out.below (((Below.refl wr.heap.size wr).alloc (Nat.le_refl _) _).alloc (by simp) _)) (SU.out.below (((Below.refl wr.heap.size wr).alloc (Nat.le_refl _) _).alloc (by simp) _)) htn hun ⟨fun _ => HS.out, fun _ => rfl⟩).mono ?_; rintro e w1 ⟨rfl, hb⟩; have HB1 := Lib.hid (thru2 HBr.out hb); clear hb)
          clear p0 p1 p2 p3 p4 p5 y0 y1 y2 y3 y4 y5
          have HN := Lib.hid (hnext.out HS.out)
          go_roundw
          case rel => exact ⟨i + 1, by omega, by go_num, HB1, HN⟩
          case measure => simp [intOf]; omega
        · have hrf := hbad.out hs
          subst hrf
          have HS := Lib.hid hs
          clear hs
          go_wp2_with (go_at_fn 71; refine (so1_any t u false _ (ST.out.below (((Below.refl wr.heap.size wr).alloc (Nat.le_refl _) _).alloc (by simp) _)) (SU.out.below (((Below.refl wr.heap.size wr).alloc (Nat.le_refl _) _).alloc (by simp) _)) htn hun ⟨fun hx => (by cases hx), fun hx => absurd hx HS.out⟩).mono ?_; rintro e w1 ⟨rfl, hb⟩; have HB1 := Lib.hid (thru2 HBr.out hb); clear hb)
          go_ret
          exact ⟨rfl, HB1.out⟩
      · have hlt' : ¬ (i : Int) < (N : Int) := by omega
        have hrt : r = true := HR.out.2 ⟨by first | rfl | trivial, fun j hj => HE.out j (by omega)⟩
        subst hrt
        go_wp2
        go_ret
        exact ⟨rfl, HBr.out⟩
  · have hrf : r = false := by
      cases r with
      | false => rfl
      | true => exact absurd (HR.out.1 rfl).1 hl
    subst hrf
    have hd : ((N : Int) == (N' : Int)) = false := by simp; omega
    go_enter Try.func70, Try.ntmps70
    go_wp2
    go_ret
    exact ⟨rfl, Below.refl _ _⟩

set_option maxRecDepth 100000 in
set_option maxHeartbeats 1600000 in
theorem implSO : ImplSO := fun a1 a2 N N' k1 k2 T U r w g1 g2 hr hn hn' ht hu => by
  have G1 := Lib.hid g1; have G2 := Lib.hid g2; have HR := Lib.hid hr; have HT := Lib.hid ht; have HU := Lib.hid hu
  clear g1 g2 hr ht hu
  go_enter Try.func21, Try.ntmps21
  go_wp2_with fail
  refine (ef_any a1 a2 N N' k1 k2 T U r _ G1.out G2.out HR.out hn hn' HT.out HU.out).mono ?_
  rintro e w1 ⟨rfl, hb⟩
  have HB1 := Lib.hid hb
  clear hb
  go_wp2
  go_ret
  exact ⟨rfl, HB1.out⟩
end Go.Proofs.Ytlelgfkebcnepaa

