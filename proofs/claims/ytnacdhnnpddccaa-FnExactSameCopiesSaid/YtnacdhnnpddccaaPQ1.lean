/- Texts merged: Mem to KTO. -/
import Derived.Test.YtnacdhnnpddccaaRows
import Derived.WalkKit
import Derived.WalkSpells
import Derived.WalkLawsBesides
import Derived.Deep.QuietTactic
import Derived.BigQuiet
import Derived.Deep.RegionHeld3
import Derived.Lib.Hide
import Derived.Laws.AppendOwnNone
import Derived.Lib.AppendZeros
import Derived.Lib.SliceRun
import Derived.Lib.Walk
import Derived.Deep.Cut
import Derived.Deep.Upon
import Derived.Defers
import Derived.Recover
import Derived.Laws.Pointers
import Derived.StillTailTactics
import Derived.Deep.RegionLaw
import Derived.ProofKit
import Derived.Lib.SmallJoins
import Derived.OpenShut
import Derived.Deep.AppendLies
import Derived.Deep.DeepCutAuto
import Derived.Deep.Slices
namespace Go.Proofs.Ytnacdhnnpddccaa
open Go.RowKit
set_option linter.unusedVariables false

/-- The first n cells at a hold f. -/
def Src (w : World) (a : Option Addr) (n : Nat) (f : Nat → Int) : Prop :=
  n = 0 ∨ ∃ b off, a = some ⟨b, off, none⟩ ∧ b < w.heap.size ∧ ∀ i, i < n → w.cell? ⟨b, off + i, none⟩ = some (.int .i64 (f i))

/-- The same, in a block from B on, and not frozen. -/
def Own (w : World) (B : Nat) (a : Option Addr) (n : Nat) (f : Nat → Int) : Prop :=
  n = 0 ∨ ∃ b off, a = some ⟨b, off, none⟩ ∧ B ≤ b ∧ b < w.heap.size ∧ ∀ i, i < n → w.cell? ⟨b, off + i, none⟩ = some (.int .i64 (f i)) ∧ w.frozen? ⟨b, off + i, none⟩ = false

theorem Own.src {w : World} {B : Nat} {a : Option Addr} {n : Nat} {f : Nat → Int} (h : Own w B a n f) : Src w a n f := by
  rcases h with h | ⟨b, off, h1, _, h3, h4⟩
  · exact .inl h
  · exact .inr ⟨b, off, h1, h3, fun i hi => (h4 i hi).1⟩

theorem Src.below {w w' : World} {a : Option Addr} {n : Nat} {f : Nat → Int} (h : Src w a n f) (hb : Below w.heap.size w w') : Src w' a n f := by
  rcases h with h | ⟨b, off, h1, h3, h4⟩
  · exact .inl h
  · exact .inr ⟨b, off, h1, Nat.lt_of_lt_of_le h3 hb.size, fun i hi => (hb.cell (p := ⟨b, off + i, none⟩) h3).trans (h4 i hi)⟩

theorem Own.below {w w' : World} {B : Nat} {a : Option Addr} {n : Nat} {f : Nat → Int} (h : Own w B a n f) (hb : Below w.heap.size w w') : Own w' B a n f := by
  rcases h with h | ⟨b, off, h1, h2, h3, h4⟩
  · exact .inl h
  · exact .inr ⟨b, off, h1, h2, Nat.lt_of_lt_of_le h3 hb.size, fun i hi => ⟨(hb.cell (p := ⟨b, off + i, none⟩) h3).trans (h4 i hi).1, (hb.frozen (p := ⟨b, off + i, none⟩) h3).trans (h4 i hi).2⟩⟩

theorem Own.mono {w : World} {B B' : Nat} {a : Option Addr} {n : Nat} {f : Nat → Int} (h : Own w B a n f) (hB : B' ≤ B) : Own w B' a n f := by
  rcases h with h | ⟨b, off, h1, h2, h3⟩
  · exact .inl h
  · exact .inr ⟨b, off, h1, Nat.le_trans hB h2, h3⟩

theorem Src.at {w : World} {b off n : Nat} {f : Nat → Int} (h : Src w (some ⟨b, off, none⟩) n f) (i : Nat) (hi : i < n) : w.cell? ⟨b, off + i, none⟩ = some (.int .i64 (f i)) := by
  rcases h with h | ⟨b', off', h1, h3, h4⟩
  · omega
  · simp at h1; obtain ⟨rfl, rfl⟩ := h1; exact h4 i hi

theorem Src.alloc {w : World} {a : Option Addr} {n : Nat} {f : Nat → Int} (h : Src w a n f) (o : Obj) : Src (w.alloc o) a n f := h.below ((Below.refl _ _).alloc (Nat.le_refl _) o)

theorem Src.drew {w : World} {a : Option Addr} {n : Nat} {f : Nat → Int} (h : Src w a n f) : Src w.drew a n f := h.below (Below.refl _ _).drew

theorem Own.alloc {w : World} {B : Nat} {a : Option Addr} {n : Nat} {f : Nat → Int} (h : Own w B a n f) (o : Obj) : Own (w.alloc o) B a n f := h.below ((Below.refl _ _).alloc (Nat.le_refl _) o)

theorem Own.drew {w : World} {B : Nat} {a : Option Addr} {n : Nat} {f : Nat → Int} (h : Own w B a n f) : Own w.drew B a n f := h.below (Below.refl _ _).drew

theorem Own.setCell {w : World} {B : Nat} {a : Option Addr} {n : Nat} {f : Nat → Int} (h : Own w B a n f) {p : Addr} (hp : p.block < B) (u : Value) : Own (w.setCell p u) B a n f := by
  rcases h with h | ⟨b, off, h1, h2, h3, h4⟩
  · exact .inl h
  · refine .inr ⟨b, off, h1, h2, by simpa using h3, fun i hi => ?_⟩
    have e : (w.setCell p u).heap[b]? = w.heap[b]? := Below.heap_setCell w p u b (by omega)
    exact ⟨(World.cell?_of_block (w := w) (a := ⟨b, off + i, none⟩) e).trans (h4 i hi).1, (World.frozen?_of_block (w := w) (a := ⟨b, off + i, none⟩) e).trans (h4 i hi).2⟩

/-- The cells as a list. -/
def nums (n : Nat) (f : Nat → Int) : List Value := (List.range n).map fun j => .int .i64 (f j)

theorem nums_get (n : Nat) (f : Nat → Int) (j : Nat) (h : j < n) : (nums n f)[j]? = some (.int .i64 (f j)) := by simp [nums, h]

theorem nums_zero (n : Nat) : nums n (fun _ => 0) = List.replicate n (.int .i64 0) := by
  apply List.ext_getElem?
  intro j
  by_cases h : j < n <;> simp [nums, h]

theorem nums_set (n : Nat) (f : Nat → Int) (j : Nat) (v : Int) : (nums n f).set j (.int .i64 v) = nums n (fun i => if i = j then v else f i) := by
  apply List.ext_getElem?
  intro k
  by_cases hk : k < n
  · by_cases e : j = k
    · subst e; simp [nums, hk]
    · have e' : ¬ k = j := fun x => e x.symm
      rw [List.getElem?_set_ne e]; simp [nums, hk, e']
  · rw [List.getElem?_eq_none (by simp [nums]; omega), List.getElem?_eq_none (by simp [nums]; omega)]

theorem nums_congr {n : Nat} {f g : Nat → Int} (h : ∀ i, i < n → f i = g i) : nums n f = nums n g := by
  simp only [nums]; apply List.map_congr_left; intro j hj; simp at hj; rw [h j hj]

/-- Out of the kit's word for a row of the call's own. -/
theorem own_of_row {w : World} {B e n : Nat} {a : Option Addr} {cap : Nat} {f : Nat → Int} (h : w.ownsRow B e 1 (.slice a n cap) n (nums n f)) : Own w B a n f := by
  have h0 := h
  rcases h.2 with ⟨_, h2⟩ | ⟨g, cap', cur, h1, hB, hg, hnc, hcm, hcs, _⟩
  · exact .inl h2
  · simp at h1
    obtain ⟨rfl, rfl⟩ := h1
    refine .inr ⟨g, 0, rfl, hB, ?_, fun i hi => ?_⟩
    · have := Array.getElem?_eq_some_iff.mp hg; exact this.1
    · have := h0.cellAt i (by omega)
      rw [nums_get n f i hi] at this
      exact ⟨by simpa using this, by simpa using h0.frozenAt i⟩

/-- Its value is a slice. -/
theorem row_shape {w : World} {B e n : Nat} {v : Value} {xs : List Value} (h : w.ownsRow B e 1 v n xs) : ∃ a cap, v = .slice a n cap ∧ n ≤ cap ∧ cap ≤ maxLen ∧ (a = none → n = 0 ∧ cap = 0) := by
  rcases h.2 with ⟨h1, h2⟩ | ⟨g, cap', cur, h1, hB, hg, hnc, hcm, hcs, _⟩
  · exact ⟨none, 0, by rw [h1, h2], by omega, by simp [maxLen], fun _ => ⟨h2, rfl⟩⟩
  · exact ⟨_, cap', h1, hnc, hcm, fun h => by simp at h⟩

/-- A call hands back new numbers. -/
def RetInts (W : World) (n : Nat) (f : Nat → Int) (e : Ending) (w' : World) : Prop :=
  ∃ a cap, e = .returned (.slice a n cap) ∧ Own w' W.heap.size a n f ∧ Below W.heap.size W w' ∧ n ≤ cap ∧ cap ≤ maxLen ∧ (a = none → n = 0 ∧ cap = 0)

theorem retInts_of_row {W w' : World} {n : Nat} {f : Nat → Int} {v : Value} {e : Nat} (h : w'.ownsRow W.heap.size e 1 v n (nums n f)) (hb : Below W.heap.size W w') : RetInts W n f (.returned v) w' := by
  obtain ⟨a, cap, rfl, h1, h2, h3⟩ := row_shape h
  exact ⟨a, cap, rfl, own_of_row h, hb, h1, h2, h3⟩
end Go.Proofs.Ytnacdhnnpddccaa

namespace Go.Proofs.Ytnacdhnnpddccaa
open Go.RowKit
set_option linter.unusedVariables false

theorem Try.info2 : (Try.prog.info? 2).map (fun i => (i.zero, i.size, i.bytes)) = some (some (.int .i64 0), 1, 8) := by kernel_rfl

set_option maxRecDepth 100000 in
set_option maxHeartbeats 400000 in
theorem toInts_any (a : Option Addr) (n cap : Nat) (f : Nat → Int) (w : World) (hs : Src w a n f) (hn : n ≤ 1048576) :
    Calls Try.prog 18 #[.slice a n cap] w (RetInts w n f) := by
  obtain ⟨i0, hi, hz0, hz1, hz2⟩ := info_parts Try.info2
  have HS := Lib.hid hs
  clear hs
  go_enter Try.func18, Try.ntmps18
  go_wp2_with (at_make; refine wpList_make_full _ rfl _ _ 22 rfl w.heap.size 2 i0 (.int .i64 0) 1 Try.underlying22 hi hz0 hz1 .i64 .i64 n n n rfl rfl rfl rfl (by rw [hz2]; omega) (by unfold maxLen; omega) (Nat.le_refl _) ?_; intro w1 hown1 hgrow1)
  have hb1 : Below w.heap.size w w1 := (Below.refl _ _).grown hgrow1 (Nat.le_refl _) (by intro k hk; simp at hk)
  have ho1 : w1.ownsRow w.heap.size 2 1 (.slice (some ⟨w.heap.size, 0, none⟩) n n) n (nums n fun _ => 0) := by
    rw [nums_zero, ← toList_madeCells_one]; simpa [Value.cells] using hown1
  clear hown1 hgrow1
  have HB := Lib.hid hb1
  have HO := Lib.hid ho1
  clear hb1 ho1
  go_loopw [4] (fun k wr => ∃ i : Nat, i ≤ n ∧ k = .int .i64 i ∧ Hid (Below w.heap.size w wr) ∧ Hid (wr.ownsRow w.heap.size 2 1 (.slice (some ⟨w.heap.size, 0, none⟩) n n) n (nums n fun j => if j < i then f j else 0))) (fun k _ => n - (intOf k).toNat)
  case atStart => exact ⟨0, Nat.zero_le _, rfl, HB, by simpa using HO⟩
  case round =>
    obtain ⟨i, hi', rfl, HB1, HO1⟩ := hrel
    by_cases hlt : i < n
    · rcases HS.out with h0 | ⟨b, off, rfl, hb, hc⟩
      · omega
      · have c1 : wr.cell? ⟨b, off + i, none⟩ = some (.int .i64 (f i)) := (HB1.out.cell (p := ⟨b, off + i, none⟩) hb).trans (hc i hlt)
        have c2 : wr.frozen? ⟨w.heap.size, i, none⟩ = false := HO1.out.frozenAt i
        have c3 : wr.cell? ⟨w.heap.size, i, none⟩ = some (.int .i64 0) := by
          have := HO1.out.cellAt i (by omega)
          rw [nums_get _ _ _ hlt] at this; simpa using this
        clear hc
        go_wp2
        go_roundw
        case rel =>
          refine ⟨i + 1, by omega, by go_num, HB1.out.setCell (Nat.le_refl _) _, ?_⟩
          have := (HO1.out.stored i (.int .i64 (f i))).1
          rw [nums_set] at this
          have e : nums n (fun j => if j < i + 1 then f j else 0) = nums n (fun j => if j = i then f i else if j < i then f j else 0) :=
            nums_congr fun j hj => by
              by_cases h1 : j = i
              · subst h1; simp
              · have h2 : (j < i + 1) = (j < i) := by simp only [eq_iff_iff]; omega
                simp only [h1, if_false, h2]
          show _root_.Go.World.ownsRow _ _ _ _ _ _ _
          rw [e]; exact this
        case measure => simp [intOf]; omega
    · go_wp2
      go_ret
      obtain rfl : i = n := by omega
      have h := HO1.out
      refine retInts_of_row (f := f) (e := 2) ?_ HB1.out
      have e : nums i f = nums i (fun j => if j < i then f j else 0) := nums_congr fun j hj => by simp [hj]
      rw [e]; exact h
end Go.Proofs.Ytnacdhnnpddccaa

namespace Go.Proofs.Ytnacdhnnpddccaa
open Go.RowKit
set_option linter.unusedVariables false

theorem src_some {w : World} {a : Option Addr} {n : Nat} {f : Nat → Int} (h : Src w a n f) (hp : 0 < n) : ∃ b off, a = some ⟨b, off, none⟩ ∧ b < w.heap.size ∧ ∀ i, i < n → w.cell? ⟨b, off + i, none⟩ = some (.int .i64 (f i)) := by
  rcases h with h | h
  · omega
  · exact h
end Go.Proofs.Ytnacdhnnpddccaa

namespace Go.Proofs.Ytnacdhnnpddccaa
open Go.RowKit
set_option linter.unusedVariables false

/-- Are two rows the same? -/
def eqB (n m : Nat) (f g : Nat → Int) : Bool := decide (n = m ∧ ∀ i, i < n → f i = g i)

theorem eqB_no_len {n m : Nat} {f g : Nat → Int} (h : ¬ n = m) : eqB n m f g = false := by simp [eqB, h]

theorem eqB_no {n : Nat} {f g : Nat → Int} (i : Nat) (hi : i < n) (h : ¬ f i = g i) : eqB n n f g = false := by
  simp only [eqB, true_and, decide_eq_false_iff_not]; exact fun k => h (k i hi)

theorem eqB_yes {n : Nat} {f g : Nat → Int} (h : ∀ i, i < n → f i = g i) : eqB n n f g = true := by
  simp only [eqB, true_and, decide_eq_true_eq]; exact h

/-- A Bool comes back; nothing that was there is turned. -/
def RetBool (W : World) (r : Bool) (e : Ending) (w' : World) : Prop := e = .returned (.bool r) ∧ Below W.heap.size W w'

theorem below_drewN {B : Nat} {a w : World} (h : Below B a w) (k : Nat) : Below B a (w.drewN k) := h.trans ⟨rfl, rfl, rfl, Nat.le_refl _, fun _ _ => rfl⟩

set_option maxRecDepth 100000 in
set_option maxHeartbeats 400000 in
theorem eqInts_same (a1 a2 : Option Addr) (n c1 c2 : Nat) (f g : Nat → Int) (w : World) (s1 : Src w a1 n f) (s2 : Src w a2 n g) (hn : n ≤ 1048576) :
    Calls Try.prog 21 #[.slice a1 n c1, .slice a2 n c2] w (RetBool w (eqB n n f g)) := by
  have S1 := Lib.hid s1
  have S2 := Lib.hid s2
  clear s1 s2
  go_enter Try.func21, Try.ntmps21
  go_wp2
  go_loopw [5] (fun k wr => ∃ i : Nat, i ≤ n ∧ k = .int .i64 i ∧ Hid (Below w.heap.size w wr) ∧ Hid (∀ j, j < i → f j = g j)) (fun k _ => n - (intOf k).toNat)
  case atStart => exact ⟨0, Nat.zero_le _, rfl, Below.refl _ _, fun j hj => by omega⟩
  case round =>
    obtain ⟨i, hi, rfl, HB, HE⟩ := hrel
    by_cases hlt : i < n
    · obtain ⟨b1, o1, rfl, hb1, hc1⟩ := src_some (S1.out.below HB.out) (by omega)
      obtain ⟨b2, o2, rfl, hb2, hc2⟩ := src_some (S2.out.below HB.out) (by omega)
      have d1 := hc1 i hlt
      have d2 := hc2 i hlt
      have hlt' : (i : Int) < (n : Int) := by omega
      clear hc1 hc2
      by_cases he : f i = g i
      · go_wp2
        go_quiet (fail)
        go_wp2
        go_roundw
        case rel => exact ⟨i + 1, by omega, by go_num, below_drewN HB.out _, fun j hj => by
            rcases Nat.lt_succ_iff_lt_or_eq.mp hj with h | h
            · exact HE.out j h
            · subst h; exact he⟩
        case measure => simp [intOf]; omega
      · have hd2 : (f i != g i) = true := by simpa using he
        go_wp2
        go_quiet (fail)
        go_wp2
        go_ret
        exact ⟨by rw [eqB_no i hlt he]; rfl, below_drewN HB.out _⟩
    · go_wp2
      go_ret
      exact ⟨by rw [eqB_yes fun j hj => HE.out j (by omega)]; rfl, HB.out⟩

set_option maxRecDepth 100000 in
set_option maxHeartbeats 400000 in
theorem slEqual_lens (a1 a2 : Option Addr) (n m c1 c2 : Nat) (w : World) (h : ¬ n = m) :
    Calls Try.prog 48 #[.slice a1 n c1, .slice a2 m c2] w (RetBool w false) := by
  have hd : ((n : Int) == (m : Int)) = false := by simp; omega
  go_enter Try.func48, Try.ntmps48
  go_wp2
  go_ret
  exact ⟨rfl, Below.refl _ _⟩

set_option maxRecDepth 100000 in
set_option maxHeartbeats 400000 in
theorem slEqual_same (a1 a2 : Option Addr) (n c1 c2 : Nat) (f g : Nat → Int) (w : World) (s1 : Src w a1 n f) (s2 : Src w a2 n g) (hn : n ≤ 1048576) :
    Calls Try.prog 48 #[.slice a1 n c1, .slice a2 n c2] w (RetBool w (eqB n n f g)) := by
  have S1 := Lib.hid s1
  have S2 := Lib.hid s2
  clear s1 s2
  go_enter Try.func48, Try.ntmps48
  go_wp2
  go_loopw [13] (fun k wr => ∃ i : Nat, i ≤ n ∧ k = .int .i64 i ∧ Hid (Below w.heap.size w wr) ∧ Hid (∀ j, j < i → f j = g j)) (fun k _ => n - (intOf k).toNat)
  case atStart => exact ⟨0, Nat.zero_le _, rfl, Below.refl _ _, fun j hj => by omega⟩
  case round =>
    obtain ⟨i, hi, rfl, HB, HE⟩ := hrel
    by_cases hlt : i < n
    · obtain ⟨b1, o1, rfl, hb1, hc1⟩ := src_some (S1.out.below HB.out) (by omega)
      obtain ⟨b2, o2, rfl, hb2, hc2⟩ := src_some (S2.out.below HB.out) (by omega)
      have d1 := hc1 i hlt
      have d2 := hc2 i hlt
      have hlt' : (i : Int) < (n : Int) := by omega
      clear hc1 hc2
      by_cases he : f i = g i
      · go_wp2
        go_quiet (fail)
        go_wp2
        go_roundw
        case rel => exact ⟨i + 1, by omega, by go_num, below_drewN HB.out _, fun j hj => by
            rcases Nat.lt_succ_iff_lt_or_eq.mp hj with h | h
            · exact HE.out j h
            · subst h; exact he⟩
        case measure => simp [intOf]; omega
      · have hd2 : (f i != g i) = true := by simpa using he
        go_wp2
        go_quiet (fail)
        go_wp2
        go_ret
        exact ⟨by rw [eqB_no i hlt he]; rfl, below_drewN HB.out _⟩
    · go_wp2
      go_ret
      exact ⟨by rw [eqB_yes fun j hj => HE.out j (by omega)]; rfl, HB.out⟩

set_option maxRecDepth 100000 in
set_option maxHeartbeats 400000 in
theorem l1Same_lens (a1 a2 : Option Addr) (n m c1 c2 : Nat) (w : World) (h : ¬ n = m) :
    Calls Try.prog 47 #[.slice a1 n c1, .slice a2 m c2] w (RetBool w false) := by
  have hd : ((n : Int) == (m : Int)) = false := by simp; omega
  go_enter Try.func47, Try.ntmps47
  go_wp2
  go_ret
  exact ⟨rfl, Below.refl _ _⟩

set_option maxRecDepth 100000 in
set_option maxHeartbeats 400000 in
theorem l1Same_same (a1 a2 : Option Addr) (n c1 c2 : Nat) (f g : Nat → Int) (w : World) (s1 : Src w a1 n f) (s2 : Src w a2 n g) (hn : n ≤ 1048576) :
    Calls Try.prog 47 #[.slice a1 n c1, .slice a2 n c2] w (RetBool w (eqB n n f g)) := by
  have S1 := Lib.hid s1
  have S2 := Lib.hid s2
  clear s1 s2
  go_enter Try.func47, Try.ntmps47
  go_wp2
  go_loopw [5] (fun k wr => ∃ i : Nat, i ≤ n ∧ k = .int .i64 i ∧ Hid (Below w.heap.size w wr) ∧ Hid (∀ j, j < i → f j = g j)) (fun k _ => n - (intOf k).toNat)
  case atStart => exact ⟨0, Nat.zero_le _, rfl, Below.refl _ _, fun j hj => by omega⟩
  case round =>
    obtain ⟨i, hi, rfl, HB, HE⟩ := hrel
    by_cases hlt : i < n
    · obtain ⟨b1, o1, rfl, hb1, hc1⟩ := src_some (S1.out.below HB.out) (by omega)
      obtain ⟨b2, o2, rfl, hb2, hc2⟩ := src_some (S2.out.below HB.out) (by omega)
      have d1 := hc1 i hlt
      have d2 := hc2 i hlt
      have hlt' : (i : Int) < (n : Int) := by omega
      clear hc1 hc2
      by_cases he : f i = g i
      · go_wp2
        go_quiet (fail)
        go_wp2
        go_roundw
        case rel => exact ⟨i + 1, by omega, by go_num, below_drewN HB.out _, fun j hj => by
            rcases Nat.lt_succ_iff_lt_or_eq.mp hj with h | h
            · exact HE.out j h
            · subst h; exact he⟩
        case measure => simp [intOf]; omega
      · have hd2 : (f i != g i) = true := by simpa using he
        go_wp2
        go_quiet (fail)
        go_wp2
        go_ret
        exact ⟨by rw [eqB_no i hlt he]; rfl, below_drewN HB.out _⟩
    · go_wp2
      go_ret
      exact ⟨by rw [eqB_yes fun j hj => HE.out j (by omega)]; rfl, HB.out⟩
end Go.Proofs.Ytnacdhnnpddccaa

namespace Go.Proofs.Ytnacdhnnpddccaa
open Go.RowKit
set_option linter.unusedVariables false

theorem bcell {W w1 : World} (hb : Below W.heap.size W w1) : (∀ b o, b < W.heap.size → w1.cell? ⟨b, o, none⟩ = W.cell? ⟨b, o, none⟩) ∧ (∀ b o, b < W.heap.size → w1.frozen? ⟨b, o, none⟩ = W.frozen? ⟨b, o, none⟩) :=
  ⟨fun b o h => hb.cell (p := ⟨b, o, none⟩) h, fun b o h => hb.frozen (p := ⟨b, o, none⟩) h⟩

/-- A block of the call's own, known cell by cell. -/
def Blk (w : World) (b : Nat) (cs : List Value) : Prop := b < w.heap.size ∧ ∀ i u, cs[i]? = some u → w.cell? ⟨b, i, none⟩ = some u ∧ w.frozen? ⟨b, i, none⟩ = false

theorem Blk.below {w w' : World} {b : Nat} {cs : List Value} (h : Blk w b cs) (hb : Below w.heap.size w w') : Blk w' b cs :=
  ⟨Nat.lt_of_lt_of_le h.1 hb.size, fun i u hu => ⟨(hb.cell (p := ⟨b, i, none⟩) h.1).trans (h.2 i u hu).1, (hb.frozen (p := ⟨b, i, none⟩) h.1).trans (h.2 i u hu).2⟩⟩

theorem Blk.alloc {w : World} {b : Nat} {cs : List Value} (h : Blk w b cs) (o : Obj) : Blk (w.alloc o) b cs := h.below ((Below.refl _ _).alloc (Nat.le_refl _) o)

theorem Blk.drew {w : World} {b : Nat} {cs : List Value} (h : Blk w b cs) : Blk w.drew b cs := h.below (Below.refl _ _).drew

theorem Blk.new (w : World) (cs : Array Value) (t : TypeId) : Blk (w.alloc (.cells cs t)) w.heap.size cs.toList := by
  refine ⟨by simp, fun i u hu => ?_⟩
  constructor
  · rw [World.cell?_alloc_at _ _ _ _ rfl]; simpa using hu
  · exact World.frozen?_alloc_at _ _ _ _ rfl

theorem Blk.new_at {w : World} {cs : Array Value} {t : TypeId} (b : Nat) (hb : b = w.heap.size) : Blk (w.alloc (.cells cs t)) b cs.toList := hb ▸ Blk.new w cs t

theorem Blk.at {w : World} {b : Nat} {cs : List Value} (h : Blk w b cs) (i : Nat) {u : Value} (hu : cs[i]? = some u) : w.cell? ⟨b, i, none⟩ = some u := (h.2 i u hu).1

theorem Blk.free {w : World} {b : Nat} {cs : List Value} (h : Blk w b cs) (i : Nat) {u : Value} (hu : cs[i]? = some u) : w.frozen? ⟨b, i, none⟩ = false := (h.2 i u hu).2
end Go.Proofs.Ytnacdhnnpddccaa

namespace Go.Proofs.Ytnacdhnnpddccaa
open Go.RowKit
set_option linter.unusedVariables false

/-- Three cells hold one bound. -/
def B3 (w : World) (b o : Nat) (v l g : Int) : Prop :=
  w.cell? ⟨b, o, none⟩ = some (.int .i64 v) ∧ w.cell? ⟨b, o + 1, none⟩ = some (.int .i64 l) ∧ w.cell? ⟨b, o + 2, none⟩ = some (.int .i64 g)

theorem B3.below {w w' : World} {b o : Nat} {v l g : Int} {B : Nat} (h : B3 w b o v l g) (hb : Below B w w') (hlt : b < B) : B3 w' b o v l g :=
  ⟨(hb.cell (p := ⟨b, o, none⟩) hlt).trans h.1, (hb.cell (p := ⟨b, o + 1, none⟩) hlt).trans h.2.1, (hb.cell (p := ⟨b, o + 2, none⟩) hlt).trans h.2.2⟩

-- All bounds hold.
end Go.Proofs.Ytnacdhnnpddccaa

namespace Go.Proofs.Ytnacdhnnpddccaa
open Go.RowKit
set_option linter.unusedVariables false

theorem thru0 {w w1 w2 : World} (h : Below w.heap.size w w1) (hb : Below w1.heap.size w1 w2) : Below w.heap.size w w2 := h.trans (hb.mono h.size)
end Go.Proofs.Ytnacdhnnpddccaa

namespace Go.Proofs.Ytnacdhnnpddccaa
open Go.RowKit
set_option linter.unusedVariables false

/-- Nothing that was there is turned, but in the blocks from lo to hi. -/
structure Keeps (w w' : World) (lo hi : Nat) : Prop where
  os : w'.os = w.os
  tape : w'.tape = w.tape
  output : w'.output = w.output
  size : w.heap.size ≤ w'.heap.size
  block : ∀ k, k < w.heap.size → (k < lo ∨ hi ≤ k) → w'.heap[k]? = w.heap[k]?

theorem Keeps.refl (w : World) (lo hi : Nat) : Keeps w w lo hi := ⟨rfl, rfl, rfl, Nat.le_refl _, fun _ _ _ => rfl⟩

theorem Keeps.trans {w w1 w2 : World} {lo hi : Nat} (h : Keeps w w1 lo hi) (k : Keeps w1 w2 lo hi) : Keeps w w2 lo hi :=
  ⟨k.os.trans h.os, k.tape.trans h.tape, k.output.trans h.output, Nat.le_trans h.size k.size, fun i hi h' => (k.block i (Nat.lt_of_lt_of_le hi h.size) h').trans (h.block i hi h')⟩

theorem keeps_of_below {w w' : World} (h : Below w.heap.size w w') (lo hi : Nat) : Keeps w w' lo hi := ⟨h.os, h.tape, h.output, h.size, fun k hk _ => h.block k hk⟩

theorem keeps_setCell {w : World} {lo hi : Nat} {p : Addr} (h1 : lo ≤ p.block) (h2 : p.block < hi) (u : Value) : Keeps w (w.setCell p u) lo hi := by
  have h : Below p.block w (w.setCell p u) := (Below.refl _ _).setCell (Nat.le_refl _) u
  exact ⟨h.os, h.tape, h.output, h.size, fun k _ hk' => Below.heap_setCell w p u k (by omega)⟩

theorem Keeps.below {w w' : World} {lo hi B : Nat} (h : Keeps w w' lo hi) (hB : B ≤ lo) (hs : B ≤ w.heap.size) : Below B w w' :=
  ⟨h.os, h.tape, h.output, h.size, fun k hk => h.block k (by omega) (.inl (by omega))⟩

theorem Blk.keeps {w w' : World} {b lo hi : Nat} {cs : List Value} (h : Blk w b cs) (hk : Keeps w w' lo hi) (hd : b < lo ∨ hi ≤ b) : Blk w' b cs := by
  have e := hk.block b h.1 hd
  exact ⟨Nat.lt_of_lt_of_le h.1 hk.size, fun i u hu => ⟨(World.cell?_of_block (w := w) (a := ⟨b, i, none⟩) e).trans (h.2 i u hu).1, (World.frozen?_of_block (w := w) (a := ⟨b, i, none⟩) e).trans (h.2 i u hu).2⟩⟩

/-- A row of the call's own, in a block from lo to hi. -/
def OwnIn (w : World) (lo hi : Nat) (a : Option Addr) (n : Nat) (f : Nat → Int) : Prop :=
  n = 0 ∨ ∃ b off, a = some ⟨b, off, none⟩ ∧ (lo ≤ b ∧ b < hi) ∧ b < w.heap.size ∧ ∀ i, i < n → w.cell? ⟨b, off + i, none⟩ = some (.int .i64 (f i)) ∧ w.frozen? ⟨b, off + i, none⟩ = false

theorem OwnIn.src {w : World} {lo hi : Nat} {a : Option Addr} {n : Nat} {f : Nat → Int} (h : OwnIn w lo hi a n f) : Src w a n f := by
  rcases h with h | ⟨b, off, h1, _, h3, h4⟩
  · exact .inl h
  · exact .inr ⟨b, off, h1, h3, fun i hi => (h4 i hi).1⟩

theorem OwnIn.keeps {w w' : World} {lo hi lo' hi' : Nat} {a : Option Addr} {n : Nat} {f : Nat → Int} (h : OwnIn w lo hi a n f) (hk : Keeps w w' lo' hi') (hd : hi ≤ lo' ∨ hi' ≤ lo) : OwnIn w' lo hi a n f := by
  rcases h with h | ⟨b, off, h1, h2, h3, h4⟩
  · exact .inl h
  · have e := hk.block b h3 (by omega)
    exact .inr ⟨b, off, h1, h2, Nat.lt_of_lt_of_le h3 hk.size, fun i hi => ⟨(World.cell?_of_block (w := w) (a := ⟨b, off + i, none⟩) e).trans (h4 i hi).1, (World.frozen?_of_block (w := w) (a := ⟨b, off + i, none⟩) e).trans (h4 i hi).2⟩⟩

theorem OwnIn.below {w w' : World} {lo hi : Nat} {a : Option Addr} {n : Nat} {f : Nat → Int} (h : OwnIn w lo hi a n f) (hb : Below w.heap.size w w') : OwnIn w' lo hi a n f := by
  rcases h with h | ⟨b, off, h1, h2, h3, h4⟩
  · exact .inl h
  · exact .inr ⟨b, off, h1, h2, Nat.lt_of_lt_of_le h3 hb.size, fun i hi => ⟨(hb.cell (p := ⟨b, off + i, none⟩) h3).trans (h4 i hi).1, (hb.frozen (p := ⟨b, off + i, none⟩) h3).trans (h4 i hi).2⟩⟩

theorem OwnIn.alloc {w : World} {lo hi : Nat} {a : Option Addr} {n : Nat} {f : Nat → Int} (h : OwnIn w lo hi a n f) (o : Obj) : OwnIn (w.alloc o) lo hi a n f := h.below ((Below.refl _ _).alloc (Nat.le_refl _) o)

theorem OwnIn.drew {w : World} {lo hi : Nat} {a : Option Addr} {n : Nat} {f : Nat → Int} (h : OwnIn w lo hi a n f) : OwnIn w.drew lo hi a n f := h.below (Below.refl _ _).drew
end Go.Proofs.Ytnacdhnnpddccaa

namespace Go.Proofs.Ytnacdhnnpddccaa
open Go.RowKit
set_option linter.unusedVariables false

/-- Two halves of m words each, in blocks from lo to mid and from mid to hi: together F. -/
def Halves (w : World) (lo mid hi : Nat) (a1 a2 : Option Addr) (m : Nat) (F : Nat → Int) : Prop :=
  OwnIn w lo mid a1 m F ∧ OwnIn w mid hi a2 m (fun i => F (m + i))

theorem OwnIn.setCell {w : World} {lo hi : Nat} {a : Option Addr} {n : Nat} {f : Nat → Int} (h : OwnIn w lo hi a n f) {p : Addr} (hp : p.block < lo ∨ hi ≤ p.block) (u : Value) : OwnIn (w.setCell p u) lo hi a n f :=
  h.keeps (keeps_setCell (Nat.le_refl p.block) (Nat.lt_succ_self _) u) (by omega)

theorem OwnIn.out {w : World} {lo hi : Nat} {a : Option Addr} {n : Nat} {f : Nat → Int} (h : OwnIn w lo hi a n f) : Own w lo a n f := by
  rcases h with h | ⟨b, off, h1, h2, h3, h4⟩
  · exact .inl h
  · exact .inr ⟨b, off, h1, h2.1, h3, h4⟩

theorem Halves.below {w w' : World} {lo mid hi : Nat} {a1 a2 : Option Addr} {m : Nat} {F : Nat → Int} (h : Halves w lo mid hi a1 a2 m F) (hb : Below w.heap.size w w') : Halves w' lo mid hi a1 a2 m F := ⟨h.1.below hb, h.2.below hb⟩

theorem Halves.alloc {w : World} {lo mid hi : Nat} {a1 a2 : Option Addr} {m : Nat} {F : Nat → Int} (h : Halves w lo mid hi a1 a2 m F) (o : Obj) : Halves (w.alloc o) lo mid hi a1 a2 m F := ⟨h.1.alloc o, h.2.alloc o⟩

theorem Src.keeps {w w' : World} {lo' hi' : Nat} {a : Option Addr} {n : Nat} {f : Nat → Int} (h : Src w a n f) (hk : Keeps w w' lo' hi') (hd : ∀ b off, a = some ⟨b, off, none⟩ → b < lo' ∨ hi' ≤ b) : Src w' a n f := by
  rcases h with h | ⟨b, off, h1, h3, h4⟩
  · exact .inl h
  · have e := hk.block b h3 (hd b off h1)
    exact .inr ⟨b, off, h1, Nat.lt_of_lt_of_le h3 hk.size, fun i hi => (World.cell?_of_block (w := w) (a := ⟨b, off + i, none⟩) e).trans (h4 i hi)⟩
end Go.Proofs.Ytnacdhnnpddccaa

namespace Go.Proofs.Ytnacdhnnpddccaa
open Go.RowKit
set_option linter.unusedVariables false

/-- The bytes of a code, in a block below S. -/
def SrcB (w : World) (S : Nat) (a : Option Addr) (k : Nat) (B : Nat → Int) : Prop :=
  k = 0 ∨ ∃ b off, a = some ⟨b, off, none⟩ ∧ b < S ∧ b < w.heap.size ∧ ∀ i, i < k → w.cell? ⟨b, off + i, none⟩ = some (.int .u8 (B i)) ∧ 0 ≤ B i ∧ B i ≤ 255

theorem SrcB.keeps {w w' : World} {S lo hi : Nat} {a : Option Addr} {k : Nat} {B : Nat → Int} (h : SrcB w S a k B) (hk : Keeps w w' lo hi) (hS : S ≤ lo) : SrcB w' S a k B := by
  rcases h with h | ⟨b, off, h1, h2, h3, h4⟩
  · exact .inl h
  · have e := hk.block b h3 (.inl (by omega))
    exact .inr ⟨b, off, h1, h2, Nat.lt_of_lt_of_le h3 hk.size, fun i hi => ⟨(World.cell?_of_block (w := w) (a := ⟨b, off + i, none⟩) e).trans (h4 i hi).1, (h4 i hi).2⟩⟩

theorem SrcB.below {w w' : World} {S : Nat} {a : Option Addr} {k : Nat} {B : Nat → Int} (h : SrcB w S a k B) (hb : Below w.heap.size w w') : SrcB w' S a k B := by
  rcases h with h | ⟨b, off, h1, h2, h3, h4⟩
  · exact .inl h
  · exact .inr ⟨b, off, h1, h2, Nat.lt_of_lt_of_le h3 hb.size, fun i hi => ⟨(hb.cell (p := ⟨b, off + i, none⟩) h3).trans (h4 i hi).1, (h4 i hi).2⟩⟩

theorem SrcB.alloc {w : World} {S : Nat} {a : Option Addr} {k : Nat} {B : Nat → Int} (h : SrcB w S a k B) (o : Obj) : SrcB (w.alloc o) S a k B := h.below ((Below.refl _ _).alloc (Nat.le_refl _) o)

theorem SrcB.drew {w : World} {S : Nat} {a : Option Addr} {k : Nat} {B : Nat → Int} (h : SrcB w S a k B) : SrcB w.drew S a k B := h.below (Below.refl _ _).drew

theorem Keeps.alloc {w w1 : World} {lo hi : Nat} (h : Keeps w w1 lo hi) (o : Obj) : Keeps w (w1.alloc o) lo hi := h.trans (keeps_of_below ((Below.refl _ _).alloc (Nat.le_refl _) o) lo hi)

theorem Keeps.drew {w w1 : World} {lo hi : Nat} (h : Keeps w w1 lo hi) : Keeps w w1.drew lo hi := h.trans (keeps_of_below (Below.refl _ _).drew lo hi)

theorem SrcB.setCell {w : World} {S : Nat} {a : Option Addr} {k : Nat} {B : Nat → Int} (h : SrcB w S a k B) {p : Addr} (hp : S ≤ p.block) (u : Value) : SrcB (w.setCell p u) S a k B :=
  h.keeps (keeps_setCell (Nat.le_refl p.block) (Nat.lt_succ_self _) u) hp
end Go.Proofs.Ytnacdhnnpddccaa

namespace Go.Proofs.Ytnacdhnnpddccaa
open Go.RowKit
set_option linter.unusedVariables false

theorem SrcB.mono {w : World} {S S' : Nat} {a : Option Addr} {k : Nat} {B : Nat → Int} (h : SrcB w S a k B) (hS : S ≤ S') : SrcB w S' a k B := by
  rcases h with h | ⟨b, off, h1, h2, h3, h4⟩
  · exact .inl h
  · exact .inr ⟨b, off, h1, by omega, h3, h4⟩
end Go.Proofs.Ytnacdhnnpddccaa

namespace Go.Proofs.Ytnacdhnnpddccaa
open Go.RowKit
set_option linter.unusedVariables false

theorem slEqual_is (r : Bool) (a1 a2 : Option Addr) (n m c1 c2 : Nat) (f g : Nat → Int) (w : World) (hr : eqB n m f g = r) (s1 : Src w a1 n f) (s2 : Src w a2 m g) (hn : n ≤ 1048576) (hm : m ≤ 1048576) :
    Calls Try.prog 48 #[.slice a1 n c1, .slice a2 m c2] w (RetBool w r) := by
  subst hr
  by_cases h : n = m
  · subst h; exact slEqual_same a1 a2 n c1 c2 f g w s1 s2 hn
  · rw [eqB_no_len h]; exact slEqual_lens a1 a2 n m c1 c2 w h

theorem l1Same_is (r : Bool) (a1 a2 : Option Addr) (n m c1 c2 : Nat) (f g : Nat → Int) (w : World) (hr : eqB n m f g = r) (s1 : Src w a1 n f) (s2 : Src w a2 m g) (hn : n ≤ 1048576) (hm : m ≤ 1048576) :
    Calls Try.prog 47 #[.slice a1 n c1, .slice a2 m c2] w (RetBool w r) := by
  subst hr
  by_cases h : n = m
  · subst h; exact l1Same_same a1 a2 n c1 c2 f g w s1 s2 hn
  · rw [eqB_no_len h]; exact l1Same_lens a1 a2 n m c1 c2 w h
end Go.Proofs.Ytnacdhnnpddccaa

namespace Go.Proofs.Ytnacdhnnpddccaa
open Go.RowKit
set_option linter.unusedVariables false

set_option maxRecDepth 100000 in
set_option maxHeartbeats 400000 in
theorem szInts_ok (a : Option Addr) (n cap : Nat) (l : Int) (w : World) (hl0 : 0 ≤ l) (hl : l ≤ 1048576) (hn : n ≤ maxLen) (h : n ≤ l) :
    Calls Try.prog 46 #[.slice a n cap, .int .i64 l] w fun e w' => e = .returned (.int .i64 (l - n)) ∧ w = w' := by
  unfold maxLen at hn
  go_enter Try.func46, Try.ntmps46
  go_wp2
  go_ret
  exact ⟨rfl, rfl⟩

set_option maxRecDepth 100000 in
set_option maxHeartbeats 400000 in
theorem szInts_no (a : Option Addr) (n cap : Nat) (l : Int) (w : World) (hl0 : 0 ≤ l) (hl : l ≤ 1048576) (hn : n ≤ maxLen) (h : l < n) :
    Calls Try.prog 46 #[.slice a n cap, .int .i64 l] w fun e w' => e = .returned (.int .i64 (-1)) ∧ w = w' := by
  unfold maxLen at hn
  go_enter Try.func46, Try.ntmps46
  go_wp2
  go_ret
  exact ⟨rfl, rfl⟩
end Go.Proofs.Ytnacdhnnpddccaa

namespace Go.Proofs.Ytnacdhnnpddccaa
open Go.RowKit
set_option linter.unusedVariables false

set_option maxRecDepth 100000 in
set_option maxHeartbeats 400000 in
theorem eqCT_same (co nx sc fr : Int) (d : Bool) (a a' : Option Addr) (n c c' : Nat) (f g : Nat → Int) (w : World) (s1 : Src w a n f) (s2 : Src w a' n g) (hn : n ≤ 1048576) (he : ∀ i, i < n → f i = g i) :
    Calls Try.prog 14 #[.agg #[.int .i64 co, .slice a n c, .int .i64 nx, .int .i64 sc, .int .i64 fr, .bool d], .agg #[.int .i64 co, .slice a' n c', .int .i64 nx, .int .i64 sc, .int .i64 fr, .bool d]] w (RetBool w true) := by
  have S1 := Lib.hid s1
  have S2 := Lib.hid s2
  have HE := Lib.hid he
  clear s1 s2 he
  go_enter Try.func14, Try.ntmps14
  have X_1 := Lib.hid ((Blk.new_at (w := w) (cs := #[.int .i64 co, .slice a n c, .int .i64 nx, .int .i64 sc, .int .i64 fr, .bool d]) (t := 27) w.heap.size rfl).alloc (.cells #[.int .i64 co, .slice a' n c', .int .i64 nx, .int .i64 sc, .int .i64 fr, .bool d] 27))
  have Y_1 := Lib.hid (Blk.new_at (w := w.alloc (.cells #[.int .i64 co, .slice a n c, .int .i64 nx, .int .i64 sc, .int .i64 fr, .bool d] 27)) (cs := #[.int .i64 co, .slice a' n c', .int .i64 nx, .int .i64 sc, .int .i64 fr, .bool d]) (t := 27) (w.heap.size + 1) (by simp))
  have HB0 : Hid (Below w.heap.size w ((w.alloc (.cells #[.int .i64 co, .slice a n c, .int .i64 nx, .int .i64 sc, .int .i64 fr, .bool d] 27)).alloc (.cells #[.int .i64 co, .slice a' n c', .int .i64 nx, .int .i64 sc, .int .i64 fr, .bool d] 27))) := Lib.hid (((Below.refl _ _).alloc (Nat.le_refl _) _).alloc (by simp) _)
  go_wp2_with fail
  refine (eqInts_same _ _ _ _ _ f g _ (S1.out.below HB0.out) (S2.out.below HB0.out) hn).mono ?_
  rw [eqB_yes HE.out]
  rintro e w1 ⟨rfl, hb⟩
  have X_2 := Lib.hid (X_1.out.below hb); have Y_2 := Lib.hid (Y_1.out.below hb); have HB1 := Lib.hid (thru0 HB0.out hb)
  clear hb
  have lx := X_2.out.1; have x0 := X_2.out.at 0 rfl; have xf0 := X_2.out.free 0 rfl; have x1 := X_2.out.at 1 rfl; have xf1 := X_2.out.free 1 rfl; have x2 := X_2.out.at 2 rfl; have xf2 := X_2.out.free 2 rfl; have x3 := X_2.out.at 3 rfl; have xf3 := X_2.out.free 3 rfl; have x4 := X_2.out.at 4 rfl; have xf4 := X_2.out.free 4 rfl; have x5 := X_2.out.at 5 rfl; have xf5 := X_2.out.free 5 rfl
  have ly := Y_2.out.1; have y0 := Y_2.out.at 0 rfl; have yf0 := Y_2.out.free 0 rfl; have y1 := Y_2.out.at 1 rfl; have yf1 := Y_2.out.free 1 rfl; have y2 := Y_2.out.at 2 rfl; have yf2 := Y_2.out.free 2 rfl; have y3 := Y_2.out.at 3 rfl; have yf3 := Y_2.out.free 3 rfl; have y4 := Y_2.out.at 4 rfl; have yf4 := Y_2.out.free 4 rfl; have y5 := Y_2.out.at 5 rfl; have yf5 := Y_2.out.free 5 rfl
  go_wp2
  go_ret
  exact ⟨rfl, HB1.out⟩
end Go.Proofs.Ytnacdhnnpddccaa

namespace Go.Proofs.Ytnacdhnnpddccaa
open Go.RowKit
set_option linter.unusedVariables false

/-- Whether two results are the same. -/
def eqT (co : Int) (n : Nat) (f : Nat → Int) (nx sc fr : Int) (d : Bool) (co' : Int) (n' : Nat) (g : Nat → Int) (nx' sc' fr' : Int) (d' : Bool) : Bool := (co == co') && ((nx == nx') && ((sc == sc') && ((fr == fr') && ((d == d') && eqB n n' f g))))

set_option maxRecDepth 100000 in
set_option maxHeartbeats 1600000 in
theorem implSC_c (co nx sc fr co' nx' sc' fr' : Int) (d d' : Bool) (a b : Option Addr) (n c n' c' : Nat) (f g : Nat → Int) (w : World) (s1 : Src w a n f) (s2 : Src w b n' g) (hn : n ≤ 1048576) (hn' : n' ≤ 1048576)  (ne : ¬ co = co') :
    Calls Try.prog 13 #[.agg #[.int .i64 co, .slice a n c, .int .i64 nx, .int .i64 sc, .int .i64 fr, .bool d], .agg #[.int .i64 co', .slice b n' c', .int .i64 nx', .int .i64 sc', .int .i64 fr', .bool d']] w (RetBool w false) := by
  have S1 := Lib.hid s1
  have S2 := Lib.hid s2
  clear s1 s2
  have dn : (co == co') = false := by simpa using ne
  clear ne
  go_enter Try.func13, Try.ntmps13
  go_wp2
  go_ret
  exact ⟨rfl, ((Below.refl _ _).alloc (Nat.le_refl _) _).alloc (by simp) _⟩

set_option maxRecDepth 100000 in
set_option maxHeartbeats 1600000 in
theorem implSC_n (co nx sc fr co' nx' sc' fr' : Int) (d d' : Bool) (a b : Option Addr) (n c n' c' : Nat) (f g : Nat → Int) (w : World) (s1 : Src w a n f) (s2 : Src w b n' g) (hn : n ≤ 1048576) (hn' : n' ≤ 1048576) (ec : co = co') (ne : ¬ nx = nx') :
    Calls Try.prog 13 #[.agg #[.int .i64 co, .slice a n c, .int .i64 nx, .int .i64 sc, .int .i64 fr, .bool d], .agg #[.int .i64 co', .slice b n' c', .int .i64 nx', .int .i64 sc', .int .i64 fr', .bool d']] w (RetBool w false) := by
  have S1 := Lib.hid s1
  have S2 := Lib.hid s2
  clear s1 s2
  subst ec
  have dn : (nx == nx') = false := by simpa using ne
  clear ne
  go_enter Try.func13, Try.ntmps13
  go_wp2
  go_ret
  exact ⟨rfl, ((Below.refl _ _).alloc (Nat.le_refl _) _).alloc (by simp) _⟩

set_option maxRecDepth 100000 in
set_option maxHeartbeats 1600000 in
theorem implSC_s (co nx sc fr co' nx' sc' fr' : Int) (d d' : Bool) (a b : Option Addr) (n c n' c' : Nat) (f g : Nat → Int) (w : World) (s1 : Src w a n f) (s2 : Src w b n' g) (hn : n ≤ 1048576) (hn' : n' ≤ 1048576) (ec : co = co') (en : nx = nx') (ne : ¬ sc = sc') :
    Calls Try.prog 13 #[.agg #[.int .i64 co, .slice a n c, .int .i64 nx, .int .i64 sc, .int .i64 fr, .bool d], .agg #[.int .i64 co', .slice b n' c', .int .i64 nx', .int .i64 sc', .int .i64 fr', .bool d']] w (RetBool w false) := by
  have S1 := Lib.hid s1
  have S2 := Lib.hid s2
  clear s1 s2
  subst ec
  subst en
  have dn : (sc == sc') = false := by simpa using ne
  clear ne
  go_enter Try.func13, Try.ntmps13
  go_wp2
  go_ret
  exact ⟨rfl, ((Below.refl _ _).alloc (Nat.le_refl _) _).alloc (by simp) _⟩

set_option maxRecDepth 100000 in
set_option maxHeartbeats 1600000 in
theorem implSC_f (co nx sc fr co' nx' sc' fr' : Int) (d d' : Bool) (a b : Option Addr) (n c n' c' : Nat) (f g : Nat → Int) (w : World) (s1 : Src w a n f) (s2 : Src w b n' g) (hn : n ≤ 1048576) (hn' : n' ≤ 1048576) (ec : co = co') (en : nx = nx') (es : sc = sc') (ne : ¬ fr = fr') :
    Calls Try.prog 13 #[.agg #[.int .i64 co, .slice a n c, .int .i64 nx, .int .i64 sc, .int .i64 fr, .bool d], .agg #[.int .i64 co', .slice b n' c', .int .i64 nx', .int .i64 sc', .int .i64 fr', .bool d']] w (RetBool w false) := by
  have S1 := Lib.hid s1
  have S2 := Lib.hid s2
  clear s1 s2
  subst ec
  subst en
  subst es
  have dn : (fr == fr') = false := by simpa using ne
  clear ne
  go_enter Try.func13, Try.ntmps13
  go_wp2
  go_ret
  exact ⟨rfl, ((Below.refl _ _).alloc (Nat.le_refl _) _).alloc (by simp) _⟩

set_option maxRecDepth 100000 in
set_option maxHeartbeats 1600000 in
theorem implSC_d (co nx sc fr co' nx' sc' fr' : Int) (d d' : Bool) (a b : Option Addr) (n c n' c' : Nat) (f g : Nat → Int) (w : World) (s1 : Src w a n f) (s2 : Src w b n' g) (hn : n ≤ 1048576) (hn' : n' ≤ 1048576) (ec : co = co') (en : nx = nx') (es : sc = sc') (ef : fr = fr') (ne : ¬ d = d') :
    Calls Try.prog 13 #[.agg #[.int .i64 co, .slice a n c, .int .i64 nx, .int .i64 sc, .int .i64 fr, .bool d], .agg #[.int .i64 co', .slice b n' c', .int .i64 nx', .int .i64 sc', .int .i64 fr', .bool d']] w (RetBool w false) := by
  have S1 := Lib.hid s1
  have S2 := Lib.hid s2
  clear s1 s2
  subst ec
  subst en
  subst es
  subst ef
  have hdd : (d = true ∧ d' = false) ∨ (d = false ∧ d' = true) := by cases d <;> cases d' <;> simp_all
  clear ne
  rcases hdd with ⟨rfl, rfl⟩ | ⟨rfl, rfl⟩
  · go_enter Try.func13, Try.ntmps13
    go_wp2
    go_ret
    exact ⟨rfl, ((Below.refl _ _).alloc (Nat.le_refl _) _).alloc (by simp) _⟩
  · go_enter Try.func13, Try.ntmps13
    go_wp2
    go_ret
    exact ⟨rfl, ((Below.refl _ _).alloc (Nat.le_refl _) _).alloc (by simp) _⟩

set_option maxRecDepth 100000 in
set_option maxHeartbeats 1600000 in
theorem implSC_y (co nx sc fr co' nx' sc' fr' : Int) (d d' : Bool) (a b : Option Addr) (n c n' c' : Nat) (f g : Nat → Int) (w : World) (s1 : Src w a n f) (s2 : Src w b n' g) (hn : n ≤ 1048576) (hn' : n' ≤ 1048576) (ec : co = co') (en : nx = nx') (es : sc = sc') (ef : fr = fr') (ed : d = d') :
    Calls Try.prog 13 #[.agg #[.int .i64 co, .slice a n c, .int .i64 nx, .int .i64 sc, .int .i64 fr, .bool d], .agg #[.int .i64 co', .slice b n' c', .int .i64 nx', .int .i64 sc', .int .i64 fr', .bool d']] w (RetBool w (eqB n n' f g)) := by
  have S1 := Lib.hid s1
  have S2 := Lib.hid s2
  clear s1 s2
  subst ec
  subst en
  subst es
  subst ef
  subst ed
  have X_1 := Lib.hid ((Blk.new_at (w := w) (cs := #[.int .i64 co, .slice a n c, .int .i64 nx, .int .i64 sc, .int .i64 fr, .bool d]) (t := 27) w.heap.size rfl).alloc (.cells #[.int .i64 co, .slice b n' c', .int .i64 nx, .int .i64 sc, .int .i64 fr, .bool d] 27))
  have Y_1 := Lib.hid (Blk.new_at (w := w.alloc (.cells #[.int .i64 co, .slice a n c, .int .i64 nx, .int .i64 sc, .int .i64 fr, .bool d] 27)) (cs := #[.int .i64 co, .slice b n' c', .int .i64 nx, .int .i64 sc, .int .i64 fr, .bool d]) (t := 27) (w.heap.size + 1) (by simp))
  have HB0 : Hid (Below w.heap.size w ((w.alloc (.cells #[.int .i64 co, .slice a n c, .int .i64 nx, .int .i64 sc, .int .i64 fr, .bool d] 27)).alloc (.cells #[.int .i64 co, .slice b n' c', .int .i64 nx, .int .i64 sc, .int .i64 fr, .bool d] 27))) := Lib.hid (((Below.refl _ _).alloc (Nat.le_refl _) _).alloc (by simp) _)
  go_enter Try.func13, Try.ntmps13
  go_wp2_with fail
  refine (slEqual_is _ _ _ _ _ _ _ f g _ rfl (S1.out.below HB0.out) (S2.out.below HB0.out) hn hn').mono ?_
  rintro e w1 ⟨rfl, hb⟩
  have X_2 := Lib.hid (X_1.out.below hb); have Y_2 := Lib.hid (Y_1.out.below hb); have HB1 := Lib.hid (thru0 HB0.out hb)
  clear hb
  have lx := X_2.out.1; have x0 := X_2.out.at 0 rfl; have xf0 := X_2.out.free 0 rfl; have x1 := X_2.out.at 1 rfl; have xf1 := X_2.out.free 1 rfl; have x2 := X_2.out.at 2 rfl; have xf2 := X_2.out.free 2 rfl; have x3 := X_2.out.at 3 rfl; have xf3 := X_2.out.free 3 rfl; have x4 := X_2.out.at 4 rfl; have xf4 := X_2.out.free 4 rfl; have x5 := X_2.out.at 5 rfl; have xf5 := X_2.out.free 5 rfl
  have ly := Y_2.out.1; have y0 := Y_2.out.at 0 rfl; have yf0 := Y_2.out.free 0 rfl; have y1 := Y_2.out.at 1 rfl; have yf1 := Y_2.out.free 1 rfl; have y2 := Y_2.out.at 2 rfl; have yf2 := Y_2.out.free 2 rfl; have y3 := Y_2.out.at 3 rfl; have yf3 := Y_2.out.free 3 rfl; have y4 := Y_2.out.at 4 rfl; have yf4 := Y_2.out.free 4 rfl; have y5 := Y_2.out.at 5 rfl; have yf5 := Y_2.out.free 5 rfl
  go_wp2
  go_ret
  exact ⟨rfl, HB1.out⟩

set_option maxRecDepth 100000 in
set_option maxHeartbeats 1600000 in
theorem specSC_c (co nx sc fr co' nx' sc' fr' : Int) (d d' : Bool) (a b : Option Addr) (n c n' c' : Nat) (f g : Nat → Int) (w : World) (s1 : Src w a n f) (s2 : Src w b n' g) (hn : n ≤ 1048576) (hn' : n' ≤ 1048576) (ne : ¬ co = co') :
    Calls Try.prog 11 #[.agg #[.int .i64 co, .slice a n c, .int .i64 nx, .int .i64 sc, .int .i64 fr, .bool d], .agg #[.int .i64 co', .slice b n' c', .int .i64 nx', .int .i64 sc', .int .i64 fr', .bool d']] w (RetBool w false) := by
  have S1 := Lib.hid s1
  have S2 := Lib.hid s2
  clear s1 s2
  have dn : (co == co') = false := by simpa using ne
  clear ne
  go_enter Try.func11, Try.ntmps11
  go_wp2
  go_ret
  exact ⟨rfl, ((Below.refl _ _).alloc (Nat.le_refl _) _).alloc (by simp) _⟩

set_option maxRecDepth 100000 in
set_option maxHeartbeats 1600000 in
theorem specSC_w (co nx sc fr co' nx' sc' fr' : Int) (d d' : Bool) (a b : Option Addr) (n c n' c' : Nat) (f g : Nat → Int) (w : World) (s1 : Src w a n f) (s2 : Src w b n' g) (hn : n ≤ 1048576) (hn' : n' ≤ 1048576) (ec : co = co') (eq : eqB n n' f g = false) :
    Calls Try.prog 11 #[.agg #[.int .i64 co, .slice a n c, .int .i64 nx, .int .i64 sc, .int .i64 fr, .bool d], .agg #[.int .i64 co', .slice b n' c', .int .i64 nx', .int .i64 sc', .int .i64 fr', .bool d']] w (RetBool w false) := by
  have S1 := Lib.hid s1
  have S2 := Lib.hid s2
  clear s1 s2
  subst ec
  have Heq := Lib.hid eq
  clear eq
  have X_1 := Lib.hid ((Blk.new_at (w := w) (cs := #[.int .i64 co, .slice a n c, .int .i64 nx, .int .i64 sc, .int .i64 fr, .bool d]) (t := 27) w.heap.size rfl).alloc (.cells #[.int .i64 co, .slice b n' c', .int .i64 nx', .int .i64 sc', .int .i64 fr', .bool d'] 27))
  have Y_1 := Lib.hid (Blk.new_at (w := w.alloc (.cells #[.int .i64 co, .slice a n c, .int .i64 nx, .int .i64 sc, .int .i64 fr, .bool d] 27)) (cs := #[.int .i64 co, .slice b n' c', .int .i64 nx', .int .i64 sc', .int .i64 fr', .bool d']) (t := 27) (w.heap.size + 1) (by simp))
  have HB0 : Hid (Below w.heap.size w ((w.alloc (.cells #[.int .i64 co, .slice a n c, .int .i64 nx, .int .i64 sc, .int .i64 fr, .bool d] 27)).alloc (.cells #[.int .i64 co, .slice b n' c', .int .i64 nx', .int .i64 sc', .int .i64 fr', .bool d'] 27))) := Lib.hid (((Below.refl _ _).alloc (Nat.le_refl _) _).alloc (by simp) _)
  go_enter Try.func11, Try.ntmps11
  go_wp2_with fail
  refine (l1Same_is false _ _ _ _ _ _ f g _ Heq.out (S1.out.below HB0.out) (S2.out.below HB0.out) hn hn').mono ?_
  rintro e w1 ⟨rfl, hb⟩
  have X_2 := Lib.hid (X_1.out.below hb); have Y_2 := Lib.hid (Y_1.out.below hb); have HB1 := Lib.hid (thru0 HB0.out hb)
  clear hb
  have lx := X_2.out.1; have x0 := X_2.out.at 0 rfl; have xf0 := X_2.out.free 0 rfl; have x1 := X_2.out.at 1 rfl; have xf1 := X_2.out.free 1 rfl; have x2 := X_2.out.at 2 rfl; have xf2 := X_2.out.free 2 rfl; have x3 := X_2.out.at 3 rfl; have xf3 := X_2.out.free 3 rfl; have x4 := X_2.out.at 4 rfl; have xf4 := X_2.out.free 4 rfl; have x5 := X_2.out.at 5 rfl; have xf5 := X_2.out.free 5 rfl
  have ly := Y_2.out.1; have y0 := Y_2.out.at 0 rfl; have yf0 := Y_2.out.free 0 rfl; have y1 := Y_2.out.at 1 rfl; have yf1 := Y_2.out.free 1 rfl; have y2 := Y_2.out.at 2 rfl; have yf2 := Y_2.out.free 2 rfl; have y3 := Y_2.out.at 3 rfl; have yf3 := Y_2.out.free 3 rfl; have y4 := Y_2.out.at 4 rfl; have yf4 := Y_2.out.free 4 rfl; have y5 := Y_2.out.at 5 rfl; have yf5 := Y_2.out.free 5 rfl
  go_wp2
  go_ret
  exact ⟨rfl, HB1.out⟩

set_option maxRecDepth 100000 in
set_option maxHeartbeats 1600000 in
theorem specSC_n (co nx sc fr co' nx' sc' fr' : Int) (d d' : Bool) (a b : Option Addr) (n c n' c' : Nat) (f g : Nat → Int) (w : World) (s1 : Src w a n f) (s2 : Src w b n' g) (hn : n ≤ 1048576) (hn' : n' ≤ 1048576) (ec : co = co') (eq : eqB n n' f g = true) (ne : ¬ nx = nx') :
    Calls Try.prog 11 #[.agg #[.int .i64 co, .slice a n c, .int .i64 nx, .int .i64 sc, .int .i64 fr, .bool d], .agg #[.int .i64 co', .slice b n' c', .int .i64 nx', .int .i64 sc', .int .i64 fr', .bool d']] w (RetBool w false) := by
  have S1 := Lib.hid s1
  have S2 := Lib.hid s2
  clear s1 s2
  subst ec
  have Heq := Lib.hid eq
  clear eq
  have dn : (nx == nx') = false := by simpa using ne
  clear ne
  have X_1 := Lib.hid ((Blk.new_at (w := w) (cs := #[.int .i64 co, .slice a n c, .int .i64 nx, .int .i64 sc, .int .i64 fr, .bool d]) (t := 27) w.heap.size rfl).alloc (.cells #[.int .i64 co, .slice b n' c', .int .i64 nx', .int .i64 sc', .int .i64 fr', .bool d'] 27))
  have Y_1 := Lib.hid (Blk.new_at (w := w.alloc (.cells #[.int .i64 co, .slice a n c, .int .i64 nx, .int .i64 sc, .int .i64 fr, .bool d] 27)) (cs := #[.int .i64 co, .slice b n' c', .int .i64 nx', .int .i64 sc', .int .i64 fr', .bool d']) (t := 27) (w.heap.size + 1) (by simp))
  have HB0 : Hid (Below w.heap.size w ((w.alloc (.cells #[.int .i64 co, .slice a n c, .int .i64 nx, .int .i64 sc, .int .i64 fr, .bool d] 27)).alloc (.cells #[.int .i64 co, .slice b n' c', .int .i64 nx', .int .i64 sc', .int .i64 fr', .bool d'] 27))) := Lib.hid (((Below.refl _ _).alloc (Nat.le_refl _) _).alloc (by simp) _)
  go_enter Try.func11, Try.ntmps11
  go_wp2_with fail
  refine (l1Same_is true _ _ _ _ _ _ f g _ Heq.out (S1.out.below HB0.out) (S2.out.below HB0.out) hn hn').mono ?_
  rintro e w1 ⟨rfl, hb⟩
  have X_2 := Lib.hid (X_1.out.below hb); have Y_2 := Lib.hid (Y_1.out.below hb); have HB1 := Lib.hid (thru0 HB0.out hb)
  clear hb
  have lx := X_2.out.1; have x0 := X_2.out.at 0 rfl; have xf0 := X_2.out.free 0 rfl; have x1 := X_2.out.at 1 rfl; have xf1 := X_2.out.free 1 rfl; have x2 := X_2.out.at 2 rfl; have xf2 := X_2.out.free 2 rfl; have x3 := X_2.out.at 3 rfl; have xf3 := X_2.out.free 3 rfl; have x4 := X_2.out.at 4 rfl; have xf4 := X_2.out.free 4 rfl; have x5 := X_2.out.at 5 rfl; have xf5 := X_2.out.free 5 rfl
  have ly := Y_2.out.1; have y0 := Y_2.out.at 0 rfl; have yf0 := Y_2.out.free 0 rfl; have y1 := Y_2.out.at 1 rfl; have yf1 := Y_2.out.free 1 rfl; have y2 := Y_2.out.at 2 rfl; have yf2 := Y_2.out.free 2 rfl; have y3 := Y_2.out.at 3 rfl; have yf3 := Y_2.out.free 3 rfl; have y4 := Y_2.out.at 4 rfl; have yf4 := Y_2.out.free 4 rfl; have y5 := Y_2.out.at 5 rfl; have yf5 := Y_2.out.free 5 rfl
  go_wp2
  go_ret
  exact ⟨rfl, HB1.out⟩

set_option maxRecDepth 100000 in
set_option maxHeartbeats 1600000 in
theorem specSC_s (co nx sc fr co' nx' sc' fr' : Int) (d d' : Bool) (a b : Option Addr) (n c n' c' : Nat) (f g : Nat → Int) (w : World) (s1 : Src w a n f) (s2 : Src w b n' g) (hn : n ≤ 1048576) (hn' : n' ≤ 1048576) (ec : co = co') (en : nx = nx') (eq : eqB n n' f g = true) (ne : ¬ sc = sc') :
    Calls Try.prog 11 #[.agg #[.int .i64 co, .slice a n c, .int .i64 nx, .int .i64 sc, .int .i64 fr, .bool d], .agg #[.int .i64 co', .slice b n' c', .int .i64 nx', .int .i64 sc', .int .i64 fr', .bool d']] w (RetBool w false) := by
  have S1 := Lib.hid s1
  have S2 := Lib.hid s2
  clear s1 s2
  subst ec
  subst en
  have Heq := Lib.hid eq
  clear eq
  have dn : (sc == sc') = false := by simpa using ne
  clear ne
  have X_1 := Lib.hid ((Blk.new_at (w := w) (cs := #[.int .i64 co, .slice a n c, .int .i64 nx, .int .i64 sc, .int .i64 fr, .bool d]) (t := 27) w.heap.size rfl).alloc (.cells #[.int .i64 co, .slice b n' c', .int .i64 nx, .int .i64 sc', .int .i64 fr', .bool d'] 27))
  have Y_1 := Lib.hid (Blk.new_at (w := w.alloc (.cells #[.int .i64 co, .slice a n c, .int .i64 nx, .int .i64 sc, .int .i64 fr, .bool d] 27)) (cs := #[.int .i64 co, .slice b n' c', .int .i64 nx, .int .i64 sc', .int .i64 fr', .bool d']) (t := 27) (w.heap.size + 1) (by simp))
  have HB0 : Hid (Below w.heap.size w ((w.alloc (.cells #[.int .i64 co, .slice a n c, .int .i64 nx, .int .i64 sc, .int .i64 fr, .bool d] 27)).alloc (.cells #[.int .i64 co, .slice b n' c', .int .i64 nx, .int .i64 sc', .int .i64 fr', .bool d'] 27))) := Lib.hid (((Below.refl _ _).alloc (Nat.le_refl _) _).alloc (by simp) _)
  go_enter Try.func11, Try.ntmps11
  go_wp2_with fail
  refine (l1Same_is true _ _ _ _ _ _ f g _ Heq.out (S1.out.below HB0.out) (S2.out.below HB0.out) hn hn').mono ?_
  rintro e w1 ⟨rfl, hb⟩
  have X_2 := Lib.hid (X_1.out.below hb); have Y_2 := Lib.hid (Y_1.out.below hb); have HB1 := Lib.hid (thru0 HB0.out hb)
  clear hb
  have lx := X_2.out.1; have x0 := X_2.out.at 0 rfl; have xf0 := X_2.out.free 0 rfl; have x1 := X_2.out.at 1 rfl; have xf1 := X_2.out.free 1 rfl; have x2 := X_2.out.at 2 rfl; have xf2 := X_2.out.free 2 rfl; have x3 := X_2.out.at 3 rfl; have xf3 := X_2.out.free 3 rfl; have x4 := X_2.out.at 4 rfl; have xf4 := X_2.out.free 4 rfl; have x5 := X_2.out.at 5 rfl; have xf5 := X_2.out.free 5 rfl
  have ly := Y_2.out.1; have y0 := Y_2.out.at 0 rfl; have yf0 := Y_2.out.free 0 rfl; have y1 := Y_2.out.at 1 rfl; have yf1 := Y_2.out.free 1 rfl; have y2 := Y_2.out.at 2 rfl; have yf2 := Y_2.out.free 2 rfl; have y3 := Y_2.out.at 3 rfl; have yf3 := Y_2.out.free 3 rfl; have y4 := Y_2.out.at 4 rfl; have yf4 := Y_2.out.free 4 rfl; have y5 := Y_2.out.at 5 rfl; have yf5 := Y_2.out.free 5 rfl
  go_wp2
  go_ret
  exact ⟨rfl, HB1.out⟩

set_option maxRecDepth 100000 in
set_option maxHeartbeats 1600000 in
theorem specSC_f (co nx sc fr co' nx' sc' fr' : Int) (d d' : Bool) (a b : Option Addr) (n c n' c' : Nat) (f g : Nat → Int) (w : World) (s1 : Src w a n f) (s2 : Src w b n' g) (hn : n ≤ 1048576) (hn' : n' ≤ 1048576) (ec : co = co') (en : nx = nx') (es : sc = sc') (eq : eqB n n' f g = true) (ne : ¬ fr = fr') :
    Calls Try.prog 11 #[.agg #[.int .i64 co, .slice a n c, .int .i64 nx, .int .i64 sc, .int .i64 fr, .bool d], .agg #[.int .i64 co', .slice b n' c', .int .i64 nx', .int .i64 sc', .int .i64 fr', .bool d']] w (RetBool w false) := by
  have S1 := Lib.hid s1
  have S2 := Lib.hid s2
  clear s1 s2
  subst ec
  subst en
  subst es
  have Heq := Lib.hid eq
  clear eq
  have dn : (fr == fr') = false := by simpa using ne
  clear ne
  have X_1 := Lib.hid ((Blk.new_at (w := w) (cs := #[.int .i64 co, .slice a n c, .int .i64 nx, .int .i64 sc, .int .i64 fr, .bool d]) (t := 27) w.heap.size rfl).alloc (.cells #[.int .i64 co, .slice b n' c', .int .i64 nx, .int .i64 sc, .int .i64 fr', .bool d'] 27))
  have Y_1 := Lib.hid (Blk.new_at (w := w.alloc (.cells #[.int .i64 co, .slice a n c, .int .i64 nx, .int .i64 sc, .int .i64 fr, .bool d] 27)) (cs := #[.int .i64 co, .slice b n' c', .int .i64 nx, .int .i64 sc, .int .i64 fr', .bool d']) (t := 27) (w.heap.size + 1) (by simp))
  have HB0 : Hid (Below w.heap.size w ((w.alloc (.cells #[.int .i64 co, .slice a n c, .int .i64 nx, .int .i64 sc, .int .i64 fr, .bool d] 27)).alloc (.cells #[.int .i64 co, .slice b n' c', .int .i64 nx, .int .i64 sc, .int .i64 fr', .bool d'] 27))) := Lib.hid (((Below.refl _ _).alloc (Nat.le_refl _) _).alloc (by simp) _)
  go_enter Try.func11, Try.ntmps11
  go_wp2_with fail
  refine (l1Same_is true _ _ _ _ _ _ f g _ Heq.out (S1.out.below HB0.out) (S2.out.below HB0.out) hn hn').mono ?_
  rintro e w1 ⟨rfl, hb⟩
  have X_2 := Lib.hid (X_1.out.below hb); have Y_2 := Lib.hid (Y_1.out.below hb); have HB1 := Lib.hid (thru0 HB0.out hb)
  clear hb
  have lx := X_2.out.1; have x0 := X_2.out.at 0 rfl; have xf0 := X_2.out.free 0 rfl; have x1 := X_2.out.at 1 rfl; have xf1 := X_2.out.free 1 rfl; have x2 := X_2.out.at 2 rfl; have xf2 := X_2.out.free 2 rfl; have x3 := X_2.out.at 3 rfl; have xf3 := X_2.out.free 3 rfl; have x4 := X_2.out.at 4 rfl; have xf4 := X_2.out.free 4 rfl; have x5 := X_2.out.at 5 rfl; have xf5 := X_2.out.free 5 rfl
  have ly := Y_2.out.1; have y0 := Y_2.out.at 0 rfl; have yf0 := Y_2.out.free 0 rfl; have y1 := Y_2.out.at 1 rfl; have yf1 := Y_2.out.free 1 rfl; have y2 := Y_2.out.at 2 rfl; have yf2 := Y_2.out.free 2 rfl; have y3 := Y_2.out.at 3 rfl; have yf3 := Y_2.out.free 3 rfl; have y4 := Y_2.out.at 4 rfl; have yf4 := Y_2.out.free 4 rfl; have y5 := Y_2.out.at 5 rfl; have yf5 := Y_2.out.free 5 rfl
  go_wp2
  go_ret
  exact ⟨rfl, HB1.out⟩

set_option maxRecDepth 100000 in
set_option maxHeartbeats 1600000 in
theorem specSC_d (co nx sc fr co' nx' sc' fr' : Int) (d d' : Bool) (a b : Option Addr) (n c n' c' : Nat) (f g : Nat → Int) (w : World) (s1 : Src w a n f) (s2 : Src w b n' g) (hn : n ≤ 1048576) (hn' : n' ≤ 1048576) (ec : co = co') (en : nx = nx') (es : sc = sc') (ef : fr = fr') (eq : eqB n n' f g = true) (ne : ¬ d = d') :
    Calls Try.prog 11 #[.agg #[.int .i64 co, .slice a n c, .int .i64 nx, .int .i64 sc, .int .i64 fr, .bool d], .agg #[.int .i64 co', .slice b n' c', .int .i64 nx', .int .i64 sc', .int .i64 fr', .bool d']] w (RetBool w false) := by
  have S1 := Lib.hid s1
  have S2 := Lib.hid s2
  clear s1 s2
  subst ec
  subst en
  subst es
  subst ef
  have Heq := Lib.hid eq
  clear eq
  have hdd : (d = true ∧ d' = false) ∨ (d = false ∧ d' = true) := by cases d <;> cases d' <;> simp_all
  clear ne
  rcases hdd with ⟨rfl, rfl⟩ | ⟨rfl, rfl⟩
  · have X_1 := Lib.hid ((Blk.new_at (w := w) (cs := #[.int .i64 co, .slice a n c, .int .i64 nx, .int .i64 sc, .int .i64 fr, .bool true]) (t := 27) w.heap.size rfl).alloc (.cells #[.int .i64 co, .slice b n' c', .int .i64 nx, .int .i64 sc, .int .i64 fr, .bool false] 27))
    have Y_1 := Lib.hid (Blk.new_at (w := w.alloc (.cells #[.int .i64 co, .slice a n c, .int .i64 nx, .int .i64 sc, .int .i64 fr, .bool true] 27)) (cs := #[.int .i64 co, .slice b n' c', .int .i64 nx, .int .i64 sc, .int .i64 fr, .bool false]) (t := 27) (w.heap.size + 1) (by simp))
    have HB0 : Hid (Below w.heap.size w ((w.alloc (.cells #[.int .i64 co, .slice a n c, .int .i64 nx, .int .i64 sc, .int .i64 fr, .bool true] 27)).alloc (.cells #[.int .i64 co, .slice b n' c', .int .i64 nx, .int .i64 sc, .int .i64 fr, .bool false] 27))) := Lib.hid (((Below.refl _ _).alloc (Nat.le_refl _) _).alloc (by simp) _)
    go_enter Try.func11, Try.ntmps11
    go_wp2_with fail
    refine (l1Same_is true _ _ _ _ _ _ f g _ Heq.out (S1.out.below HB0.out) (S2.out.below HB0.out) hn hn').mono ?_
    rintro e w1 ⟨rfl, hb⟩
    have X_2 := Lib.hid (X_1.out.below hb); have Y_2 := Lib.hid (Y_1.out.below hb); have HB1 := Lib.hid (thru0 HB0.out hb)
    clear hb
    have lx := X_2.out.1; have x0 := X_2.out.at 0 rfl; have xf0 := X_2.out.free 0 rfl; have x1 := X_2.out.at 1 rfl; have xf1 := X_2.out.free 1 rfl; have x2 := X_2.out.at 2 rfl; have xf2 := X_2.out.free 2 rfl; have x3 := X_2.out.at 3 rfl; have xf3 := X_2.out.free 3 rfl; have x4 := X_2.out.at 4 rfl; have xf4 := X_2.out.free 4 rfl; have x5 := X_2.out.at 5 rfl; have xf5 := X_2.out.free 5 rfl
    have ly := Y_2.out.1; have y0 := Y_2.out.at 0 rfl; have yf0 := Y_2.out.free 0 rfl; have y1 := Y_2.out.at 1 rfl; have yf1 := Y_2.out.free 1 rfl; have y2 := Y_2.out.at 2 rfl; have yf2 := Y_2.out.free 2 rfl; have y3 := Y_2.out.at 3 rfl; have yf3 := Y_2.out.free 3 rfl; have y4 := Y_2.out.at 4 rfl; have yf4 := Y_2.out.free 4 rfl; have y5 := Y_2.out.at 5 rfl; have yf5 := Y_2.out.free 5 rfl
    go_wp2
    go_ret
    exact ⟨rfl, HB1.out⟩
  · have X_1 := Lib.hid ((Blk.new_at (w := w) (cs := #[.int .i64 co, .slice a n c, .int .i64 nx, .int .i64 sc, .int .i64 fr, .bool false]) (t := 27) w.heap.size rfl).alloc (.cells #[.int .i64 co, .slice b n' c', .int .i64 nx, .int .i64 sc, .int .i64 fr, .bool true] 27))
    have Y_1 := Lib.hid (Blk.new_at (w := w.alloc (.cells #[.int .i64 co, .slice a n c, .int .i64 nx, .int .i64 sc, .int .i64 fr, .bool false] 27)) (cs := #[.int .i64 co, .slice b n' c', .int .i64 nx, .int .i64 sc, .int .i64 fr, .bool true]) (t := 27) (w.heap.size + 1) (by simp))
    have HB0 : Hid (Below w.heap.size w ((w.alloc (.cells #[.int .i64 co, .slice a n c, .int .i64 nx, .int .i64 sc, .int .i64 fr, .bool false] 27)).alloc (.cells #[.int .i64 co, .slice b n' c', .int .i64 nx, .int .i64 sc, .int .i64 fr, .bool true] 27))) := Lib.hid (((Below.refl _ _).alloc (Nat.le_refl _) _).alloc (by simp) _)
    go_enter Try.func11, Try.ntmps11
    go_wp2_with fail
    refine (l1Same_is true _ _ _ _ _ _ f g _ Heq.out (S1.out.below HB0.out) (S2.out.below HB0.out) hn hn').mono ?_
    rintro e w1 ⟨rfl, hb⟩
    have X_2 := Lib.hid (X_1.out.below hb); have Y_2 := Lib.hid (Y_1.out.below hb); have HB1 := Lib.hid (thru0 HB0.out hb)
    clear hb
    have lx := X_2.out.1; have x0 := X_2.out.at 0 rfl; have xf0 := X_2.out.free 0 rfl; have x1 := X_2.out.at 1 rfl; have xf1 := X_2.out.free 1 rfl; have x2 := X_2.out.at 2 rfl; have xf2 := X_2.out.free 2 rfl; have x3 := X_2.out.at 3 rfl; have xf3 := X_2.out.free 3 rfl; have x4 := X_2.out.at 4 rfl; have xf4 := X_2.out.free 4 rfl; have x5 := X_2.out.at 5 rfl; have xf5 := X_2.out.free 5 rfl
    have ly := Y_2.out.1; have y0 := Y_2.out.at 0 rfl; have yf0 := Y_2.out.free 0 rfl; have y1 := Y_2.out.at 1 rfl; have yf1 := Y_2.out.free 1 rfl; have y2 := Y_2.out.at 2 rfl; have yf2 := Y_2.out.free 2 rfl; have y3 := Y_2.out.at 3 rfl; have yf3 := Y_2.out.free 3 rfl; have y4 := Y_2.out.at 4 rfl; have yf4 := Y_2.out.free 4 rfl; have y5 := Y_2.out.at 5 rfl; have yf5 := Y_2.out.free 5 rfl
    go_wp2
    go_ret
    exact ⟨rfl, HB1.out⟩

set_option maxRecDepth 100000 in
set_option maxHeartbeats 1600000 in
theorem specSC_y (co nx sc fr co' nx' sc' fr' : Int) (d d' : Bool) (a b : Option Addr) (n c n' c' : Nat) (f g : Nat → Int) (w : World) (s1 : Src w a n f) (s2 : Src w b n' g) (hn : n ≤ 1048576) (hn' : n' ≤ 1048576) (ec : co = co') (en : nx = nx') (es : sc = sc') (ef : fr = fr') (ed : d = d') (eq : eqB n n' f g = true) :
    Calls Try.prog 11 #[.agg #[.int .i64 co, .slice a n c, .int .i64 nx, .int .i64 sc, .int .i64 fr, .bool d], .agg #[.int .i64 co', .slice b n' c', .int .i64 nx', .int .i64 sc', .int .i64 fr', .bool d']] w (RetBool w true) := by
  have S1 := Lib.hid s1
  have S2 := Lib.hid s2
  clear s1 s2
  subst ec
  subst en
  subst es
  subst ef
  subst ed
  have Heq := Lib.hid eq
  clear eq
  have X_1 := Lib.hid ((Blk.new_at (w := w) (cs := #[.int .i64 co, .slice a n c, .int .i64 nx, .int .i64 sc, .int .i64 fr, .bool d]) (t := 27) w.heap.size rfl).alloc (.cells #[.int .i64 co, .slice b n' c', .int .i64 nx, .int .i64 sc, .int .i64 fr, .bool d] 27))
  have Y_1 := Lib.hid (Blk.new_at (w := w.alloc (.cells #[.int .i64 co, .slice a n c, .int .i64 nx, .int .i64 sc, .int .i64 fr, .bool d] 27)) (cs := #[.int .i64 co, .slice b n' c', .int .i64 nx, .int .i64 sc, .int .i64 fr, .bool d]) (t := 27) (w.heap.size + 1) (by simp))
  have HB0 : Hid (Below w.heap.size w ((w.alloc (.cells #[.int .i64 co, .slice a n c, .int .i64 nx, .int .i64 sc, .int .i64 fr, .bool d] 27)).alloc (.cells #[.int .i64 co, .slice b n' c', .int .i64 nx, .int .i64 sc, .int .i64 fr, .bool d] 27))) := Lib.hid (((Below.refl _ _).alloc (Nat.le_refl _) _).alloc (by simp) _)
  go_enter Try.func11, Try.ntmps11
  go_wp2_with fail
  refine (l1Same_is true _ _ _ _ _ _ f g _ Heq.out (S1.out.below HB0.out) (S2.out.below HB0.out) hn hn').mono ?_
  rintro e w1 ⟨rfl, hb⟩
  have X_2 := Lib.hid (X_1.out.below hb); have Y_2 := Lib.hid (Y_1.out.below hb); have HB1 := Lib.hid (thru0 HB0.out hb)
  clear hb
  have lx := X_2.out.1; have x0 := X_2.out.at 0 rfl; have xf0 := X_2.out.free 0 rfl; have x1 := X_2.out.at 1 rfl; have xf1 := X_2.out.free 1 rfl; have x2 := X_2.out.at 2 rfl; have xf2 := X_2.out.free 2 rfl; have x3 := X_2.out.at 3 rfl; have xf3 := X_2.out.free 3 rfl; have x4 := X_2.out.at 4 rfl; have xf4 := X_2.out.free 4 rfl; have x5 := X_2.out.at 5 rfl; have xf5 := X_2.out.free 5 rfl
  have ly := Y_2.out.1; have y0 := Y_2.out.at 0 rfl; have yf0 := Y_2.out.free 0 rfl; have y1 := Y_2.out.at 1 rfl; have yf1 := Y_2.out.free 1 rfl; have y2 := Y_2.out.at 2 rfl; have yf2 := Y_2.out.free 2 rfl; have y3 := Y_2.out.at 3 rfl; have yf3 := Y_2.out.free 3 rfl; have y4 := Y_2.out.at 4 rfl; have yf4 := Y_2.out.free 4 rfl; have y5 := Y_2.out.at 5 rfl; have yf5 := Y_2.out.free 5 rfl
  go_wp2
  go_ret
  exact ⟨rfl, HB1.out⟩

theorem implSC_any (co nx sc fr co' nx' sc' fr' : Int) (d d' : Bool) (a b : Option Addr) (n c n' c' : Nat) (f g : Nat → Int) (w : World) (s1 : Src w a n f) (s2 : Src w b n' g) (hn : n ≤ 1048576) (hn' : n' ≤ 1048576) : Calls Try.prog 13 #[.agg #[.int .i64 co, .slice a n c, .int .i64 nx, .int .i64 sc, .int .i64 fr, .bool d], .agg #[.int .i64 co', .slice b n' c', .int .i64 nx', .int .i64 sc', .int .i64 fr', .bool d']] w (RetBool w (eqT co n f nx sc fr d co' n' g nx' sc' fr' d')) := by
  by_cases ec : co = co'
  · by_cases en : nx = nx'
    · by_cases es : sc = sc'
      · by_cases ef : fr = fr'
        · by_cases ed : d = d'
          · have this := implSC_y co nx sc fr co' nx' sc' fr' d d' a b n c n' c' f g w s1 s2 hn hn' ec en es ef ed
            have e : eqT co n f nx sc fr d co' n' g nx' sc' fr' d' = eqB n n' f g := by simp [eqT, ec, en, es, ef, ed]
            rw [e]; exact this
          · have this := implSC_d co nx sc fr co' nx' sc' fr' d d' a b n c n' c' f g w s1 s2 hn hn' ec en es ef ed
            have e : eqT co n f nx sc fr d co' n' g nx' sc' fr' d' = false := by simp [eqT, ed]
            rw [e]; exact this
        · have this := implSC_f co nx sc fr co' nx' sc' fr' d d' a b n c n' c' f g w s1 s2 hn hn' ec en es ef
          have e : eqT co n f nx sc fr d co' n' g nx' sc' fr' d' = false := by simp [eqT, ef]
          rw [e]; exact this
      · have this := implSC_s co nx sc fr co' nx' sc' fr' d d' a b n c n' c' f g w s1 s2 hn hn' ec en es
        have e : eqT co n f nx sc fr d co' n' g nx' sc' fr' d' = false := by simp [eqT, es]
        rw [e]; exact this
    · have this := implSC_n co nx sc fr co' nx' sc' fr' d d' a b n c n' c' f g w s1 s2 hn hn' ec en
      have e : eqT co n f nx sc fr d co' n' g nx' sc' fr' d' = false := by simp [eqT, en]
      rw [e]; exact this
  · have this := implSC_c co nx sc fr co' nx' sc' fr' d d' a b n c n' c' f g w s1 s2 hn hn'  ec
    have e : eqT co n f nx sc fr d co' n' g nx' sc' fr' d' = false := by simp [eqT, ec]
    rw [e]; exact this

theorem specSC_any (co nx sc fr co' nx' sc' fr' : Int) (d d' : Bool) (a b : Option Addr) (n c n' c' : Nat) (f g : Nat → Int) (w : World) (s1 : Src w a n f) (s2 : Src w b n' g) (hn : n ≤ 1048576) (hn' : n' ≤ 1048576) : Calls Try.prog 11 #[.agg #[.int .i64 co, .slice a n c, .int .i64 nx, .int .i64 sc, .int .i64 fr, .bool d], .agg #[.int .i64 co', .slice b n' c', .int .i64 nx', .int .i64 sc', .int .i64 fr', .bool d']] w (RetBool w (eqT co n f nx sc fr d co' n' g nx' sc' fr' d')) := by
  by_cases ec : co = co'
  · cases eq : eqB n n' f g
    · have this := specSC_w co nx sc fr co' nx' sc' fr' d d' a b n c n' c' f g w s1 s2 hn hn' ec eq
      have e : eqT co n f nx sc fr d co' n' g nx' sc' fr' d' = false := by simp [eqT, eq]
      rw [e]; exact this
    · by_cases en : nx = nx'
      · by_cases es : sc = sc'
        · by_cases ef : fr = fr'
          · by_cases ed : d = d'
            · have this := specSC_y co nx sc fr co' nx' sc' fr' d d' a b n c n' c' f g w s1 s2 hn hn' ec en es ef ed eq
              have e : eqT co n f nx sc fr d co' n' g nx' sc' fr' d' = true := by simp [eqT, ec, en, es, ef, ed, eq]
              rw [e]; exact this
            · have this := specSC_d co nx sc fr co' nx' sc' fr' d d' a b n c n' c' f g w s1 s2 hn hn' ec en es ef eq ed
              have e : eqT co n f nx sc fr d co' n' g nx' sc' fr' d' = false := by simp [eqT, ed]
              rw [e]; exact this
          · have this := specSC_f co nx sc fr co' nx' sc' fr' d d' a b n c n' c' f g w s1 s2 hn hn' ec en es eq ef
            have e : eqT co n f nx sc fr d co' n' g nx' sc' fr' d' = false := by simp [eqT, ef]
            rw [e]; exact this
        · have this := specSC_s co nx sc fr co' nx' sc' fr' d d' a b n c n' c' f g w s1 s2 hn hn' ec en eq es
          have e : eqT co n f nx sc fr d co' n' g nx' sc' fr' d' = false := by simp [eqT, es]
          rw [e]; exact this
      · have this := specSC_n co nx sc fr co' nx' sc' fr' d d' a b n c n' c' f g w s1 s2 hn hn' ec  eq en
        have e : eqT co n f nx sc fr d co' n' g nx' sc' fr' d' = false := by simp [eqT, en]
        rw [e]; exact this
  · have this := specSC_c co nx sc fr co' nx' sc' fr' d d' a b n c n' c' f g w s1 s2 hn hn' ec
    have e : eqT co n f nx sc fr d co' n' g nx' sc' fr' d' = false := by simp [eqT, ec]
    rw [e]; exact this

set_option maxRecDepth 100000 in
set_option maxHeartbeats 800000 in
theorem szCT_ok (co nx sc fr : Int) (d : Bool) (a : Option Addr) (n c : Nat) (l : Int) (w : World) (hl0 : 0 ≤ l) (hl : l ≤ 1048576) (hn : n ≤ maxLen) (hh : n ≤ l) :
    Calls Try.prog 10 #[.agg #[.int .i64 co, .slice a n c, .int .i64 nx, .int .i64 sc, .int .i64 fr, .bool d], .int .i64 l] w fun e w' => e = .returned (.int .i64 (l - n)) ∧ Below w.heap.size w w' := by
  go_enter Try.func10, Try.ntmps10
  go_wp2_with (go_at_call 46; refine (szInts_ok _ _ _ _ _ hl0 hl hn hh).mono ?_; rintro e w' ⟨rfl, rfl⟩)
  go_ret
  exact ⟨rfl, (Below.refl _ _).alloc (Nat.le_refl _) _⟩

set_option maxRecDepth 100000 in
set_option maxHeartbeats 800000 in
theorem szCT_no (co nx sc fr : Int) (d : Bool) (a : Option Addr) (n c : Nat) (l : Int) (w : World) (hl0 : 0 ≤ l) (hl : l ≤ 1048576) (hn : n ≤ maxLen) (hh : l < n) :
    Calls Try.prog 10 #[.agg #[.int .i64 co, .slice a n c, .int .i64 nx, .int .i64 sc, .int .i64 fr, .bool d], .int .i64 l] w fun e w' => e = .returned (.int .i64 (-1)) ∧ Below w.heap.size w w' := by
  go_enter Try.func10, Try.ntmps10
  go_wp2_with (go_at_call 46; refine (szInts_no _ _ _ _ _ hl0 hl hn hh).mono ?_; rintro e w' ⟨rfl, rfl⟩)
  go_ret
  exact ⟨rfl, (Below.refl _ _).alloc (Nat.le_refl _) _⟩

/-- A copy comes back. -/
def RetTCp (W : World) (co : Int) (n : Nat) (f : Nat → Int) (nx sc fr : Int) (d : Bool) (e : Ending) (w' : World) : Prop :=
  ∃ a c, e = .returned (.agg #[.int .i64 co, .slice a n c, .int .i64 nx, .int .i64 sc, .int .i64 fr, .bool d]) ∧ Src w' a n f ∧ Below W.heap.size W w'

set_option maxRecDepth 100000 in
set_option maxHeartbeats 1600000 in
theorem toCT_any (co nx sc fr : Int) (d : Bool) (a : Option Addr) (n c : Nat) (f : Nat → Int) (w : World) (hs : Src w a n f) (hn : n ≤ 1048576) :
    Calls Try.prog 12 #[.agg #[.int .i64 co, .slice a n c, .int .i64 nx, .int .i64 sc, .int .i64 fr, .bool d]] w (RetTCp w co n f nx sc fr d) := by
  have HS := Lib.hid hs
  clear hs
  go_enter Try.func12, Try.ntmps12
  go_wp2_with (go_at_call 18; refine (toInts_any _ _ _ f _ ?_ hn).mono ?_; exact HS.out.below ((((Below.refl _ _).alloc (Nat.le_refl _) _).alloc (by (try simp); (try omega)) _).alloc (by (try simp); (try omega)) _); rintro e w1 ⟨a1, c1, rfl, ho, hb, hc1, hc2, hc3⟩; obtain ⟨hc, hf⟩ := bcell hb; have HO := Lib.hid ho; have HB := Lib.hid hb; have hz := hb.size; clear ho hb hc3)
  have hz' : w.heap.size + 2 < w1.heap.size := by simp at hz; omega
  clear hz
  refine bodyPost_ret (v := .agg #[.int .i64 co, .slice a1 n c1, .int .i64 nx, .int .i64 sc, .int .i64 fr, .bool d]) (by simp [results, Try.results12, go_sem, hc]) rfl ⟨a1, c1, rfl, ?_, ?_⟩
  · have ho : Own w1 (w.heap.size + 3) a1 n f := HO.out.mono (by simp)
    refine Own.src (B := w.heap.size + 3) ?_
    repeat (with_reducible refine Own.setCell ?_ (by simp; try omega) _)
    exact ho
  · repeat (with_reducible refine Below.setCell ?_ (by simp; try omega) _)
    exact ((((Below.refl _ _).alloc (Nat.le_refl _) _).alloc (by simp) _).alloc (by simp; omega) _).trans (HB.out.mono (by simp; try omega))
end Go.Proofs.Ytnacdhnnpddccaa

namespace Go.Proofs.Ytnacdhnnpddccaa
open Go.RowKit
set_option linter.unusedVariables false

theorem cells66 {w : World} {b k : Nat} {v0 v1 v2 v3 v4 v5 u0 u1 u2 u3 u4 u5 : Value} (h : Blk w b [v0, v1, v2, v3, v4, v5]) (g : Blk w k [u0, u1, u2, u3, u4, u5]) : w.cell? ⟨b, 0, none⟩ = some v0 ∧ w.cell? ⟨b, 1, none⟩ = some v1 ∧ w.cell? ⟨b, 2, none⟩ = some v2 ∧ w.cell? ⟨b, 3, none⟩ = some v3 ∧ w.cell? ⟨b, 4, none⟩ = some v4 ∧ w.cell? ⟨b, 5, none⟩ = some v5 ∧ w.cell? ⟨k, 0, none⟩ = some u0 ∧ w.cell? ⟨k, 1, none⟩ = some u1 ∧ w.cell? ⟨k, 2, none⟩ = some u2 ∧ w.cell? ⟨k, 3, none⟩ = some u3 ∧ w.cell? ⟨k, 4, none⟩ = some u4 ∧ w.cell? ⟨k, 5, none⟩ = some u5 := ⟨h.at 0 rfl, h.at 1 rfl, h.at 2 rfl, h.at 3 rfl, h.at 4 rfl, h.at 5 rfl, g.at 0 rfl, g.at 1 rfl, g.at 2 rfl, g.at 3 rfl, g.at 4 rfl, g.at 5 rfl⟩

set_option maxRecDepth 100000 in
set_option maxHeartbeats 6400000 in
theorem e3_any (co : Int) (a : Option Addr) (n c : Nat) (f : Nat → Int) (nx sc fr : Int) (d : Bool) (co' : Int) (b : Option Addr) (n' c' : Nat) (g : Nat → Int) (nx' sc' fr' : Int) (d' : Bool) (w : World) (hs : Src w a n f) (hn : n ≤ maxLen) (hs' : Src w b n' g) (hn' : n' ≤ maxLen) :
    Calls Try.prog 3 #[.agg #[.int .i64 co, .slice a n c, .int .i64 nx, .int .i64 sc, .int .i64 fr, .bool d], .agg #[.int .i64 co', .slice b n' c', .int .i64 nx', .int .i64 sc', .int .i64 fr', .bool d']] w (RetBool w true) := by
  have S := Lib.hid hs; have T := Lib.hid hs'
  have A_0 := Lib.hid ((Blk.new_at (w := w) (cs := #[.int .i64 co, .slice a n c, .int .i64 nx, .int .i64 sc, .int .i64 fr, .bool d]) (t := 24) w.heap.size rfl).alloc (.cells #[.int .i64 co', .slice b n' c', .int .i64 nx', .int .i64 sc', .int .i64 fr', .bool d'] 24))
  have B_0 := Lib.hid (Blk.new_at (w := w.alloc (.cells #[.int .i64 co, .slice a n c, .int .i64 nx, .int .i64 sc, .int .i64 fr, .bool d] 24)) (cs := #[.int .i64 co', .slice b n' c', .int .i64 nx', .int .i64 sc', .int .i64 fr', .bool d']) (t := 24) (w.heap.size + 1) (by simp))
  have HB0 := Lib.hid (((Below.refl w.heap.size w).alloc (Nat.le_refl _) (.cells #[.int .i64 co, .slice a n c, .int .i64 nx, .int .i64 sc, .int .i64 fr, .bool d] 24)).alloc (by simp) (.cells #[.int .i64 co', .slice b n' c', .int .i64 nx', .int .i64 sc', .int .i64 fr', .bool d'] 24))
  clear hs hs'
  go_enter Try.func3, Try.ntmps3
  have lx := A_0.out.1; have x0 := A_0.out.at 0 rfl; have x1 := A_0.out.at 1 rfl; have x2 := A_0.out.at 2 rfl; have x3 := A_0.out.at 3 rfl; have x4 := A_0.out.at 4 rfl; have x5 := A_0.out.at 5 rfl
  have ly := B_0.out.1; have y0 := B_0.out.at 0 rfl; have y1 := B_0.out.at 1 rfl; have y2 := B_0.out.at 2 rfl; have y3 := B_0.out.at 3 rfl; have y4 := B_0.out.at 4 rfl; have y5 := B_0.out.at 5 rfl
  by_cases h1 : n ≤ 1048576
  · go_wp2_with fail
    refine (szCT_ok co nx sc fr d a n c _ _ (by omega) (by omega) hn (by omega)).mono ?_
    rintro e w1 ⟨rfl, hb⟩
    have HB1 := Lib.hid (thru0 HB0.out hb); have A_1 := Lib.hid (A_0.out.below hb); have B_1 := Lib.hid (B_0.out.below hb)
    clear hb lx x0 x1 x2 x3 x4 x5 ly y0 y1 y2 y3 y4 y5 A_0 B_0 HB0
    have ly := B_1.out.1; have y0 := B_1.out.at 0 rfl; have y1 := B_1.out.at 1 rfl; have y2 := B_1.out.at 2 rfl; have y3 := B_1.out.at 3 rfl; have y4 := B_1.out.at 4 rfl; have y5 := B_1.out.at 5 rfl
    have hl0 : ¬ ((1048576 : Int) - (n : Int) < 0) := by omega
    by_cases h2 : n + n' ≤ 1048576
    · go_wp2_with fail
      refine (szCT_ok co' nx' sc' fr' d' b n' c' _ _ (by omega) (by omega) hn' (by omega)).mono ?_
      rintro e w2 ⟨rfl, hb⟩
      have HB2 := Lib.hid (thru0 HB1.out hb); have A_2 := Lib.hid (A_1.out.below hb); have B_2 := Lib.hid (B_1.out.below hb)
      clear hb ly y0 y1 y2 y3 y4 y5 A_1 B_1 HB1
      have hl1 : ¬ ((1048576 : Int) - (n : Int) - (n' : Int) < 0) := by omega
      have hna : n ≤ 1048576 := by omega
      have hnb : n' ≤ 1048576 := by omega
      clear h1 h2 hn hn'
      have A_d := Lib.hid A_2.out.drew; have B_d := Lib.hid B_2.out.drew; have HB_d := Lib.hid HB2.out.drew
      have lA := A_2.out.1; have lB := B_2.out.1
      go_upto_region 8 with (fail)
      go_region_held3 (fun w' => w'.cell? ⟨w.heap.size, 0, none⟩ = some (.int .i64 co) ∧ w'.cell? ⟨w.heap.size, 1, none⟩ = some (.slice a n c) ∧ w'.cell? ⟨w.heap.size, 2, none⟩ = some (.int .i64 nx) ∧ w'.cell? ⟨w.heap.size, 3, none⟩ = some (.int .i64 sc) ∧ w'.cell? ⟨w.heap.size, 4, none⟩ = some (.int .i64 fr) ∧ w'.cell? ⟨w.heap.size, 5, none⟩ = some (.bool d) ∧ w'.cell? ⟨w.heap.size + 1, 0, none⟩ = some (.int .i64 co') ∧ w'.cell? ⟨w.heap.size + 1, 1, none⟩ = some (.slice b n' c') ∧ w'.cell? ⟨w.heap.size + 1, 2, none⟩ = some (.int .i64 nx') ∧ w'.cell? ⟨w.heap.size + 1, 3, none⟩ = some (.int .i64 sc') ∧ w'.cell? ⟨w.heap.size + 1, 4, none⟩ = some (.int .i64 fr') ∧ w'.cell? ⟨w.heap.size + 1, 5, none⟩ = some (.bool d'))
        (first | (with_reducible exact cells66 A_2.out B_2.out) | (with_reducible exact cells66 A_d.out B_d.out) | (with_reducible exact cells66 A_3.out B_3.out) | (with_reducible exact cells66 A_4.out B_4.out) | (with_reducible exact cells66 A_5.out B_5.out))
        (first | (go_at_call 12; (with_reducible refine (toCT_any co nx sc fr d a n c f _ (S.out.below HB_d.out) hna).mono ?_); rintro e w3 ⟨xa, xc, rfl, xo, hb⟩; have HB3 := Lib.hid (thru0 HB_d.out hb); have A_3 := Lib.hid (A_d.out.below hb); have B_3 := Lib.hid (B_d.out.below hb); have XO := Lib.hid xo; clear hb xo) | (go_at_call 12; (with_reducible refine (toCT_any co' nx' sc' fr' d' b n' c' g _ (T.out.below HB3.out) hnb).mono ?_); rintro e w4 ⟨ya, yc, rfl, yo, hb⟩; have HB4 := Lib.hid (thru0 HB3.out hb); have A_4 := Lib.hid (A_3.out.below hb); have B_4 := Lib.hid (B_3.out.below hb); have XO4 := Lib.hid (XO.out.below hb); have YO := Lib.hid yo; clear hb yo) | (go_at_call 11; (with_reducible refine (specSC_any co nx sc fr co' nx' sc' fr' d d' xa ya n xc n' yc f g _ XO4.out YO.out hna hnb).mono ?_); rintro e w5 ⟨rfl, hb⟩; have HB5 := Lib.hid (thru0 HB4.out hb); have A_5 := Lib.hid (A_4.out.below hb); have B_5 := Lib.hid (B_4.out.below hb); clear hb))
      clear A_2 B_2 A_d B_d A_3 B_3 A_4 B_4 HB2 HB_d HB3 HB4 lA lB
      have lx := A_5.out.1; have x0 := A_5.out.at 0 rfl; have x1 := A_5.out.at 1 rfl; have x2 := A_5.out.at 2 rfl; have x3 := A_5.out.at 3 rfl; have x4 := A_5.out.at 4 rfl; have x5 := A_5.out.at 5 rfl
      go_wp2_with fail
      refine (toCT_any co nx sc fr d a n c f _ (S.out.below HB5.out) hna).mono ?_
      rintro e w6 ⟨ga, gc, rfl, go, hb⟩
      have HB6 := Lib.hid ((thru0 HB5.out hb).alloc (thru0 HB5.out hb).size (.cells #[.int .i64 co, .slice ga n gc, .int .i64 nx, .int .i64 sc, .int .i64 fr, .bool d] 27))
      have A_6 := Lib.hid ((A_5.out.below hb).alloc (.cells #[.int .i64 co, .slice ga n gc, .int .i64 nx, .int .i64 sc, .int .i64 fr, .bool d] 27)); have B_6 := Lib.hid ((B_5.out.below hb).alloc (.cells #[.int .i64 co, .slice ga n gc, .int .i64 nx, .int .i64 sc, .int .i64 fr, .bool d] 27))
      have X_6 := Lib.hid (Blk.new_at (w := w6) (cs := #[.int .i64 co, .slice ga n gc, .int .i64 nx, .int .i64 sc, .int .i64 fr, .bool d]) (t := 27) w6.heap.size rfl)
      have GO := Lib.hid (go.alloc (.cells #[.int .i64 co, .slice ga n gc, .int .i64 nx, .int .i64 sc, .int .i64 fr, .bool d] 27))
      clear hb go A_5 B_5 HB5 lx x0 x1 x2 x3 x4 x5
      have ly := B_6.out.1; have y0 := B_6.out.at 0 rfl; have y1 := B_6.out.at 1 rfl; have y2 := B_6.out.at 2 rfl; have y3 := B_6.out.at 3 rfl; have y4 := B_6.out.at 4 rfl; have y5 := B_6.out.at 5 rfl
      go_wp2_with fail
      generalize w6.alloc (.cells #[.int .i64 co, .slice ga n gc, .int .i64 nx, .int .i64 sc, .int .i64 fr, .bool d] 27) = w7 at *
      generalize w6.heap.size = X0 at *
      refine (toCT_any co' nx' sc' fr' d' b n' c' g _ (T.out.below HB6.out) hnb).mono ?_
      rintro e w8 ⟨ka, kc, rfl, ko, hb⟩
      have HB8 := Lib.hid ((thru0 HB6.out hb).alloc (thru0 HB6.out hb).size (.cells #[.int .i64 co', .slice ka n' kc, .int .i64 nx', .int .i64 sc', .int .i64 fr', .bool d'] 27))
      have A_8 := Lib.hid ((A_6.out.below hb).alloc (.cells #[.int .i64 co', .slice ka n' kc, .int .i64 nx', .int .i64 sc', .int .i64 fr', .bool d'] 27)); have B_8 := Lib.hid ((B_6.out.below hb).alloc (.cells #[.int .i64 co', .slice ka n' kc, .int .i64 nx', .int .i64 sc', .int .i64 fr', .bool d'] 27)); have X_8 := Lib.hid ((X_6.out.below hb).alloc (.cells #[.int .i64 co', .slice ka n' kc, .int .i64 nx', .int .i64 sc', .int .i64 fr', .bool d'] 27))
      have K_8 := Lib.hid (Blk.new_at (w := w8) (cs := #[.int .i64 co', .slice ka n' kc, .int .i64 nx', .int .i64 sc', .int .i64 fr', .bool d']) (t := 27) w8.heap.size rfl)
      have GO8 := Lib.hid ((GO.out.below hb).alloc (.cells #[.int .i64 co', .slice ka n' kc, .int .i64 nx', .int .i64 sc', .int .i64 fr', .bool d'] 27))
      have KO := Lib.hid (ko.alloc (.cells #[.int .i64 co', .slice ka n' kc, .int .i64 nx', .int .i64 sc', .int .i64 fr', .bool d'] 27))
      clear hb ko A_6 B_6 X_6 GO HB6 ly y0 y1 y2 y3 y4 y5
      have lx := X_8.out.1; have x0 := X_8.out.at 0 rfl; have x1 := X_8.out.at 1 rfl; have x2 := X_8.out.at 2 rfl; have x3 := X_8.out.at 3 rfl; have x4 := X_8.out.at 4 rfl; have x5 := X_8.out.at 5 rfl
      go_wp2_with fail
      generalize w8.alloc (.cells #[.int .i64 co', .slice ka n' kc, .int .i64 nx', .int .i64 sc', .int .i64 fr', .bool d'] 27) = w9 at *
      generalize w8.heap.size = K0 at *
      refine (implSC_any co nx sc fr co' nx' sc' fr' d d' ga ka n gc n' kc f g _ GO8.out KO.out hna hnb).mono ?_
      rintro e wA ⟨rfl, hb⟩
      have HBA := Lib.hid (thru0 HB8.out hb); have A_A := Lib.hid (A_8.out.below hb); have B_A := Lib.hid (B_8.out.below hb); have X_A := Lib.hid (X_8.out.below hb); have K_A := Lib.hid (K_8.out.below hb)
      have GOA := Lib.hid (GO8.out.below hb); have KOA := Lib.hid (KO.out.below hb)
      clear hb A_8 B_8 X_8 K_8 GO8 KO HB8 lx x0 x1 x2 x3 x4 x5
      have lA := A_A.out.1; have lX := X_A.out.1
      go_upto_region 14 with (fail)
      have A_e := Lib.hid A_A.out.drew; have X_e := Lib.hid X_A.out.drew; have HB_e := Lib.hid HBA.out.drew
      go_region_held3 (fun w' => w'.cell? ⟨w.heap.size, 0, none⟩ = some (.int .i64 co) ∧ w'.cell? ⟨w.heap.size, 1, none⟩ = some (.slice a n c) ∧ w'.cell? ⟨w.heap.size, 2, none⟩ = some (.int .i64 nx) ∧ w'.cell? ⟨w.heap.size, 3, none⟩ = some (.int .i64 sc) ∧ w'.cell? ⟨w.heap.size, 4, none⟩ = some (.int .i64 fr) ∧ w'.cell? ⟨w.heap.size, 5, none⟩ = some (.bool d) ∧ w'.cell? ⟨X0, 0, none⟩ = some (.int .i64 co) ∧ w'.cell? ⟨X0, 1, none⟩ = some (.slice ga n gc) ∧ w'.cell? ⟨X0, 2, none⟩ = some (.int .i64 nx) ∧ w'.cell? ⟨X0, 3, none⟩ = some (.int .i64 sc) ∧ w'.cell? ⟨X0, 4, none⟩ = some (.int .i64 fr) ∧ w'.cell? ⟨X0, 5, none⟩ = some (.bool d))
        (first | (with_reducible exact cells66 A_A.out X_A.out) | (with_reducible exact cells66 A_e.out X_e.out) | (with_reducible exact cells66 A_f.out X_f.out) | (with_reducible exact cells66 A_g.out X_g.out))
        (first | (go_at_call 12; (with_reducible refine (toCT_any co nx sc fr d a n c f _ (S.out.below HB_e.out) hna).mono ?_); rintro e wf ⟨xa, xc, rfl, xo, hb⟩; have E_f := Lib.hid (thru0 (Below.refl wA.heap.size wA).drew hb); have A_f := Lib.hid (A_e.out.below hb); have X_f := Lib.hid (X_e.out.below hb); have GOf := Lib.hid (GOA.out.below E_f.out); have FO := Lib.hid xo; clear hb xo) | (go_at_call 14; (with_reducible refine (eqCT_same co nx sc fr d ga xa n gc xc f f _ GOf.out FO.out hna (fun _ _ => rfl)).mono ?_); rintro e wg ⟨rfl, hb⟩; have E_g := Lib.hid (thru0 E_f.out hb); have A_g := Lib.hid (A_f.out.below hb); have X_g := Lib.hid (X_f.out.below hb); clear hb))
      have HBG := Lib.hid (thru0 HBA.out E_g.out)
      have B_g := Lib.hid (B_A.out.below E_g.out); have K_g := Lib.hid (K_A.out.below E_g.out); have KOg := Lib.hid (KOA.out.below E_g.out)
      clear A_A X_A A_e X_e A_f X_f A_g X_g HB_e HBA B_A K_A KOA GOA E_f E_g GOf FO lA lX
      have lB := B_g.out.1; have lK := K_g.out.1
      go_upto_region 16 with (fail)
      have B_h := Lib.hid B_g.out.drew; have K_h := Lib.hid K_g.out.drew; have HB_h := Lib.hid HBG.out.drew
      go_region_held3 (fun w' => w'.cell? ⟨w.heap.size + 1, 0, none⟩ = some (.int .i64 co') ∧ w'.cell? ⟨w.heap.size + 1, 1, none⟩ = some (.slice b n' c') ∧ w'.cell? ⟨w.heap.size + 1, 2, none⟩ = some (.int .i64 nx') ∧ w'.cell? ⟨w.heap.size + 1, 3, none⟩ = some (.int .i64 sc') ∧ w'.cell? ⟨w.heap.size + 1, 4, none⟩ = some (.int .i64 fr') ∧ w'.cell? ⟨w.heap.size + 1, 5, none⟩ = some (.bool d') ∧ w'.cell? ⟨K0, 0, none⟩ = some (.int .i64 co') ∧ w'.cell? ⟨K0, 1, none⟩ = some (.slice ka n' kc) ∧ w'.cell? ⟨K0, 2, none⟩ = some (.int .i64 nx') ∧ w'.cell? ⟨K0, 3, none⟩ = some (.int .i64 sc') ∧ w'.cell? ⟨K0, 4, none⟩ = some (.int .i64 fr') ∧ w'.cell? ⟨K0, 5, none⟩ = some (.bool d'))
        (first | (with_reducible exact cells66 B_g.out K_g.out) | (with_reducible exact cells66 B_h.out K_h.out) | (with_reducible exact cells66 B_i.out K_i.out) | (with_reducible exact cells66 B_j.out K_j.out))
        (first | (go_at_call 12; (with_reducible refine (toCT_any co' nx' sc' fr' d' b n' c' g _ (T.out.below HB_h.out) hnb).mono ?_); rintro e wi ⟨ya, yc, rfl, yo, hb⟩; have HB_i := Lib.hid (thru0 HB_h.out hb); have B_i := Lib.hid (B_h.out.below hb); have K_i := Lib.hid (K_h.out.below hb); have KOi := Lib.hid (KOg.out.drew.below hb); have JO := Lib.hid yo; clear hb yo) | (go_at_call 14; (with_reducible refine (eqCT_same co' nx' sc' fr' d' ka ya n' kc yc g g _ KOi.out JO.out hnb (fun _ _ => rfl)).mono ?_); rintro e wj ⟨rfl, hb⟩; have HB_j := Lib.hid (thru0 HB_i.out hb); have B_j := Lib.hid (B_i.out.below hb); have K_j := Lib.hid (K_i.out.below hb); clear hb))
      go_wp2
      go_ret
      exact ⟨rfl, HB_j.out⟩
    · go_wp2_with fail
      refine (szCT_no co' nx' sc' fr' d' b n' c' _ _ (by omega) (by omega) hn' (by omega)).mono ?_
      rintro e w2 ⟨rfl, hb⟩
      have HB2 := Lib.hid (thru0 HB1.out hb)
      clear hb
      go_wp2
      go_ret
      exact ⟨rfl, HB2.out⟩
  · go_wp2_with fail
    refine (szCT_no co nx sc fr d a n c _ _ (by omega) (by omega) hn (by omega)).mono ?_
    rintro e w1 ⟨rfl, hb⟩
    have HB1 := Lib.hid (thru0 HB0.out hb)
    clear hb
    go_wp2
    go_ret
    exact ⟨rfl, HB1.out⟩
end Go.Proofs.Ytnacdhnnpddccaa

namespace Go.Proofs.Ytnacdhnnpddccaa
open Go.RowKit
set_option linter.unusedVariables false

/-- An object as the model tells it: its place and its head. -/
structure Ob where
  at_ : Int
  s : Int
  m : Int
  o : Int
  h : Int

/-- An object in memory: where its fields are. -/
structure OM where
  x : Ob
  g : Nat
  c : Nat

def OM.cells (t : OM) : List Value := [.int .i64 t.x.at_, .int .i64 t.x.s, .int .i64 t.x.m, .int .i64 t.x.o, .int .i64 t.x.h, .slice (some ⟨t.g, 0, none⟩) t.x.s.toNat t.c]

/-- Each object's fields are a row of their own, in the order of the objects. -/
def Flds (w : World) (lo : Nat) (f : Nat → Int) (v : Value) (M : List OM) : Prop :=
  (∀ t ∈ M, lo ≤ t.g ∧ t.g < w.heap.size ∧ some t.g ≠ v.ownBlock ∧ ∀ k, k < t.x.s.toNat → w.cell? ⟨t.g, k, none⟩ = some (.int .i64 (f (t.x.at_.toNat + 2 + k))) ∧ w.frozen? ⟨t.g, k, none⟩ = false) ∧ M.Pairwise (fun t u => t.g < u.g)
end Go.Proofs.Ytnacdhnnpddccaa

namespace Go.Proofs.Ytnacdhnnpddccaa
open Go.RowKit
set_option linter.unusedVariables false

theorem Flds.mono {w : World} {lo lo' : Nat} {f : Nat → Int} {v : Value} {M : List OM} (h : Flds w lo f v M) (hl : lo' ≤ lo) : Flds w lo' f v M :=
  ⟨fun t ht => by obtain ⟨a1, a2⟩ := h.1 t ht; exact ⟨Nat.le_trans hl a1, a2⟩, h.2⟩
end Go.Proofs.Ytnacdhnnpddccaa

namespace Go.Proofs.Ytnacdhnnpddccaa
open Go.RowKit
set_option linter.unusedVariables false

/-- An object in memory, whatever it holds. -/
structure GM where
  at_ : Int
  s : Int
  m : Int
  o : Int
  h : Int
  a : Option Addr
  n : Nat
  c : Nat
  f : Nat → Int

def SixG (w : World) (b o : Nat) (t : GM) : Prop := w.cell? ⟨b, o, none⟩ = some (.int .i64 t.at_) ∧ w.cell? ⟨b, o + 1, none⟩ = some (.int .i64 t.s) ∧ w.cell? ⟨b, o + 2, none⟩ = some (.int .i64 t.m) ∧ w.cell? ⟨b, o + 3, none⟩ = some (.int .i64 t.o) ∧ w.cell? ⟨b, o + 4, none⟩ = some (.int .i64 t.h) ∧ w.cell? ⟨b, o + 5, none⟩ = some (.slice t.a t.n t.c)

def SixF (w : World) (b o : Nat) : Prop := w.frozen? ⟨b, o, none⟩ = false ∧ w.frozen? ⟨b, o + 1, none⟩ = false ∧ w.frozen? ⟨b, o + 2, none⟩ = false ∧ w.frozen? ⟨b, o + 3, none⟩ = false ∧ w.frozen? ⟨b, o + 4, none⟩ = false ∧ w.frozen? ⟨b, o + 5, none⟩ = false

theorem SixG.block {w w' : World} {b o : Nat} {t : GM} (h : SixG w b o t) (e : w'.heap[b]? = w.heap[b]?) : SixG w' b o t :=
  ⟨(World.cell?_of_block (w := w) (a := ⟨b, o, none⟩) e).trans h.1, (World.cell?_of_block (w := w) (a := ⟨b, o + 1, none⟩) e).trans h.2.1, (World.cell?_of_block (w := w) (a := ⟨b, o + 2, none⟩) e).trans h.2.2.1, (World.cell?_of_block (w := w) (a := ⟨b, o + 3, none⟩) e).trans h.2.2.2.1, (World.cell?_of_block (w := w) (a := ⟨b, o + 4, none⟩) e).trans h.2.2.2.2.1, (World.cell?_of_block (w := w) (a := ⟨b, o + 5, none⟩) e).trans h.2.2.2.2.2⟩

theorem SixF.block {w w' : World} {b o : Nat} (h : SixF w b o) (e : w'.heap[b]? = w.heap[b]?) : SixF w' b o :=
  ⟨(World.frozen?_of_block (w := w) (a := ⟨b, o, none⟩) e).trans h.1, (World.frozen?_of_block (w := w) (a := ⟨b, o + 1, none⟩) e).trans h.2.1, (World.frozen?_of_block (w := w) (a := ⟨b, o + 2, none⟩) e).trans h.2.2.1, (World.frozen?_of_block (w := w) (a := ⟨b, o + 3, none⟩) e).trans h.2.2.2.1, (World.frozen?_of_block (w := w) (a := ⟨b, o + 4, none⟩) e).trans h.2.2.2.2.1, (World.frozen?_of_block (w := w) (a := ⟨b, o + 5, none⟩) e).trans h.2.2.2.2.2⟩
end Go.Proofs.Ytnacdhnnpddccaa

namespace Go.Proofs.Ytnacdhnnpddccaa
open Go.ChangeShapes Go.WideShapes Go.ChangeAt Go.RowKit Go.Joins Go.Deep
set_option linter.unusedVariables false

theorem add_none (b off i : Nat) : (⟨b, off, none⟩ : Addr).add i = ⟨b, off + i, none⟩ := by
  rcases i with _ | i <;> simp [Addr.add]

theorem src_ints {W : World} {x : Addr} {l : Nat} {zs : List Int} (hlz : l ≤ zs.length) (hcell : ∀ i, i < zs.length → W.cell? (x.add i) = some (.int .i64 (zs.getD i 0))) : Src W (some x) l (fun i => zs.getD i 0) := by
  by_cases h0 : l = 0
  · exact .inl h0
  · right
    obtain ⟨b, off, spot⟩ := x
    have hc := hcell 0 (by omega)
    have hspot : spot = none := by simpa [Addr.add] using World.cell?_spot hc
    subst hspot
    refine ⟨b, off, rfl, World.block_lt_of_cell? W _ (by simpa [Addr.add] using hc), fun i hi => ?_⟩
    have := hcell i (by omega)
    rwa [add_none] at this
end Go.Proofs.Ytnacdhnnpddccaa

namespace Go.Proofs.Ytnacdhnnpddccaa
open Go.ChangeShapes Go.WideShapes Go.ChangeAt Go.RowKit Go.Joins
set_option linter.unusedVariables false
set_option maxRecDepth 100000

theorem Try.own : ownKnob Try.prog.godebug = none := by kernel_rfl

theorem Try.laidOut : laidOutB Try.prog = true := by kernel_rfl
end Go.Proofs.Ytnacdhnnpddccaa

namespace Go.Proofs.Ytnacdhnnpddccaa
open Go.ChangeShapes Go.WideShapes Go.ChangeAt Go.RowKit Go.Joins Go.Deep
set_option linter.unusedVariables false

theorem Try.cellsQ4 : Try.prog.cellsOf 4 = 1 := by kernel_rfl

theorem Try.cellsQ24 : Try.prog.cellsOf 24 = 6 := by kernel_rfl

theorem Try.cellsQ2 : Try.prog.cellsOf 2 = 1 := by kernel_rfl

theorem Try.cellsQ22 : Try.prog.cellsOf 22 = 1 := by kernel_rfl

set_option maxRecDepth 100000 in
theorem open_ints1q {H : Type} {enc : TypeId × Value → H} {W : World} {fuel : Nat} {cs : List Value} {y : DataW H × List MemPlace} (hf : DataW.trod enc Try.prog W 0 (fun _ => true) true fuel 22 cs = some y) :
    ∃ (a : Option Addr) (n c : Nat) (f : Nat → Int), cs = [.slice a n c] ∧ Src W a n f ∧ n ≤ maxLen := by
  rcases open_ints Try.underlying22 Try.underlying2 (by kernel_rfl) hf with ⟨hcs, _⟩ | ⟨x, l, c, zs, hcs, _, hl, hm, hz, _, hcell, _⟩
  · exact ⟨none, 0, 0, fun _ => 0, hcs, .inl rfl, Nat.zero_le _⟩
  · have hlz : l ≤ zs.length := by
      rw [hz]; split
      · exact hl
      · exact Nat.le_refl _
    exact ⟨some x, l, c, fun i => zs.getD i 0, hcs, src_ints hlz hcell, Nat.le_trans hl hm⟩

set_option maxRecDepth 100000 in
/-- What came in: an answer of a copying. -/
theorem open_ct {H : Type} {enc : TypeId × Value → H} {W : World} {base : Nat} {v0 : Value} {d0 : DataW H} {p0 : List MemPlace}
    (hv : Value.okWide Try.prog W .any base 24 v0) (h0 : DataW.Trod enc Try.prog W 0 (fun _ => true) true 24 v0 d0 p0) :
    ∃ (co : Int) (a : Option Addr) (n c : Nat) (f : Nat → Int) (nx sc fr : Int) (d : Bool), v0 = .agg #[.int .i64 co, .slice a n c, .int .i64 nx, .int .i64 sc, .int .i64 fr, .bool d] ∧ Src W a n f ∧ n ≤ maxLen := by
  obtain ⟨cs, rfl, hsz⟩ := okWide_struct Try.underlying24 hv
  have hsz : cs.size = 6 := hsz.trans Try.cellsQ24
  obtain ⟨fuel, hf0⟩ := h0
  obtain ⟨ls⟩ := cs
  match ls, hsz with
  | [v0, v1, v2, v3, v4, v5], _ =>
    obtain ⟨xs, k, _, _, _, hxl, hf⟩ := DataW.trod_struct Try.underlying24 hf0
    have hxl : xs.length = 6 := hxl
    match xs, hxl with
    | [y0, y1, y2, y3, y4, y5], _ =>
      have g0 := hf 0 _ rfl
      have g1 := hf 1 _ rfl
      have g2 := hf 2 _ rfl
      have g3 := hf 3 _ rfl
      have g4 := hf 4 _ rfl
      have g5 := hf 5 _ rfl
      simp [Value.cells, Try.cellsQ2, Try.cellsQ22] at g0 g1 g2 g3 g4
      simp [Value.cells, Try.cellsQ4] at g5
      obtain ⟨i0, e0, _, _⟩ := DataW.trod_int Try.underlying2 g0
      obtain ⟨qa, Q, qc, qf, e1, s1, hq⟩ := open_ints1q g1
      obtain ⟨i2, e2, _, _⟩ := DataW.trod_int Try.underlying2 g2
      obtain ⟨i3, e3, _, _⟩ := DataW.trod_int Try.underlying2 g3
      obtain ⟨i4, e4, _, _⟩ := DataW.trod_int Try.underlying2 g4
      obtain ⟨b5, e5, _⟩ := DataW.trod_bool Try.underlying4 g5
      simp only [List.cons.injEq, and_true] at e0 e1 e2 e3 e4 e5
      subst e0 e1 e2 e3 e4 e5
      exact ⟨i0, qa, Q, qc, qf, i2, i3, i4, b5, rfl, s1, hq⟩
end Go.Proofs.Ytnacdhnnpddccaa

