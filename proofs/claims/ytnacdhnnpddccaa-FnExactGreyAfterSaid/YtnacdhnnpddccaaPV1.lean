/- Texts merged: Mem to K6. -/
import Derived.Test.YtnacdhnnpddccaaRows
import Derived.WalkKit
import Derived.WalkSpells
import Derived.WalkLawsBesides
import Derived.Deep.QuietTactic
import Derived.BigQuiet
import Derived.Deep.RegionHeld3
import Derived.Lib.Hide
import Derived.Laws.AppendOwnNone
import Derived.Lib.AppendZeros
import Derived.Lib.SliceRun
import Derived.Lib.Walk
import Derived.Deep.Cut
import Derived.Deep.Upon
import Derived.Defers
import Derived.Recover
import Derived.Laws.Pointers
import Derived.StillTailTactics
import Derived.Deep.RegionLaw
import Derived.ProofKit
import Derived.Lib.SmallJoins
import Derived.OpenShut
import Derived.Deep.AppendLies
import Derived.Deep.DeepCutAuto
namespace Go.Proofs.Ytnacdhnnpddccaa
open Go.RowKit
set_option linter.unusedVariables false

/-- The first n cells at a hold f. -/
def Src (w : World) (a : Option Addr) (n : Nat) (f : Nat → Int) : Prop :=
  n = 0 ∨ ∃ b off, a = some ⟨b, off, none⟩ ∧ b < w.heap.size ∧ ∀ i, i < n → w.cell? ⟨b, off + i, none⟩ = some (.int .i64 (f i))

/-- The same, in a block from B on, and not frozen. -/
def Own (w : World) (B : Nat) (a : Option Addr) (n : Nat) (f : Nat → Int) : Prop :=
  n = 0 ∨ ∃ b off, a = some ⟨b, off, none⟩ ∧ B ≤ b ∧ b < w.heap.size ∧ ∀ i, i < n → w.cell? ⟨b, off + i, none⟩ = some (.int .i64 (f i)) ∧ w.frozen? ⟨b, off + i, none⟩ = false

theorem Own.src {w : World} {B : Nat} {a : Option Addr} {n : Nat} {f : Nat → Int} (h : Own w B a n f) : Src w a n f := by
  rcases h with h | ⟨b, off, h1, _, h3, h4⟩
  · exact .inl h
  · exact .inr ⟨b, off, h1, h3, fun i hi => (h4 i hi).1⟩

theorem Src.below {w w' : World} {a : Option Addr} {n : Nat} {f : Nat → Int} (h : Src w a n f) (hb : Below w.heap.size w w') : Src w' a n f := by
  rcases h with h | ⟨b, off, h1, h3, h4⟩
  · exact .inl h
  · exact .inr ⟨b, off, h1, Nat.lt_of_lt_of_le h3 hb.size, fun i hi => (hb.cell (p := ⟨b, off + i, none⟩) h3).trans (h4 i hi)⟩

theorem Own.below {w w' : World} {B : Nat} {a : Option Addr} {n : Nat} {f : Nat → Int} (h : Own w B a n f) (hb : Below w.heap.size w w') : Own w' B a n f := by
  rcases h with h | ⟨b, off, h1, h2, h3, h4⟩
  · exact .inl h
  · exact .inr ⟨b, off, h1, h2, Nat.lt_of_lt_of_le h3 hb.size, fun i hi => ⟨(hb.cell (p := ⟨b, off + i, none⟩) h3).trans (h4 i hi).1, (hb.frozen (p := ⟨b, off + i, none⟩) h3).trans (h4 i hi).2⟩⟩

theorem Own.mono {w : World} {B B' : Nat} {a : Option Addr} {n : Nat} {f : Nat → Int} (h : Own w B a n f) (hB : B' ≤ B) : Own w B' a n f := by
  rcases h with h | ⟨b, off, h1, h2, h3⟩
  · exact .inl h
  · exact .inr ⟨b, off, h1, Nat.le_trans hB h2, h3⟩

theorem Src.at {w : World} {b off n : Nat} {f : Nat → Int} (h : Src w (some ⟨b, off, none⟩) n f) (i : Nat) (hi : i < n) : w.cell? ⟨b, off + i, none⟩ = some (.int .i64 (f i)) := by
  rcases h with h | ⟨b', off', h1, h3, h4⟩
  · omega
  · simp at h1; obtain ⟨rfl, rfl⟩ := h1; exact h4 i hi

theorem Src.congr {w : World} {a : Option Addr} {n : Nat} {f g : Nat → Int} (h : Src w a n f) (e : ∀ i, i < n → f i = g i) : Src w a n g := by
  rcases h with h | ⟨b, off, h1, h3, h4⟩
  · exact .inl h
  · exact .inr ⟨b, off, h1, h3, fun i hi => by rw [h4 i hi, e i hi]⟩

theorem Own.congr {w : World} {B : Nat} {a : Option Addr} {n : Nat} {f g : Nat → Int} (h : Own w B a n f) (e : ∀ i, i < n → f i = g i) : Own w B a n g := by
  rcases h with h | ⟨b, off, h1, h2, h3, h4⟩
  · exact .inl h
  · exact .inr ⟨b, off, h1, h2, h3, fun i hi => by rw [← e i hi]; exact h4 i hi⟩

theorem Src.alloc {w : World} {a : Option Addr} {n : Nat} {f : Nat → Int} (h : Src w a n f) (o : Obj) : Src (w.alloc o) a n f := h.below ((Below.refl _ _).alloc (Nat.le_refl _) o)

theorem Src.drew {w : World} {a : Option Addr} {n : Nat} {f : Nat → Int} (h : Src w a n f) : Src w.drew a n f := h.below (Below.refl _ _).drew

theorem Own.alloc {w : World} {B : Nat} {a : Option Addr} {n : Nat} {f : Nat → Int} (h : Own w B a n f) (o : Obj) : Own (w.alloc o) B a n f := h.below ((Below.refl _ _).alloc (Nat.le_refl _) o)

theorem Own.drew {w : World} {B : Nat} {a : Option Addr} {n : Nat} {f : Nat → Int} (h : Own w B a n f) : Own w.drew B a n f := h.below (Below.refl _ _).drew

theorem Own.setCell {w : World} {B : Nat} {a : Option Addr} {n : Nat} {f : Nat → Int} (h : Own w B a n f) {p : Addr} (hp : p.block < B) (u : Value) : Own (w.setCell p u) B a n f := by
  rcases h with h | ⟨b, off, h1, h2, h3, h4⟩
  · exact .inl h
  · refine .inr ⟨b, off, h1, h2, by simpa using h3, fun i hi => ?_⟩
    have e : (w.setCell p u).heap[b]? = w.heap[b]? := Below.heap_setCell w p u b (by omega)
    exact ⟨(World.cell?_of_block (w := w) (a := ⟨b, off + i, none⟩) e).trans (h4 i hi).1, (World.frozen?_of_block (w := w) (a := ⟨b, off + i, none⟩) e).trans (h4 i hi).2⟩

/-- The cells as a list. -/
def nums (n : Nat) (f : Nat → Int) : List Value := (List.range n).map fun j => .int .i64 (f j)

theorem nums_length (n : Nat) (f : Nat → Int) : (nums n f).length = n := by simp [nums]

theorem nums_get (n : Nat) (f : Nat → Int) (j : Nat) (h : j < n) : (nums n f)[j]? = some (.int .i64 (f j)) := by simp [nums, h]

theorem nums_one (n : Nat) (f : Nat → Int) : ∀ u ∈ nums n f, u.oneCell' = true := by
  intro u hu; simp [nums] at hu; obtain ⟨j, _, rfl⟩ := hu; rfl

theorem nums_zero (n : Nat) : nums n (fun _ => 0) = List.replicate n (.int .i64 0) := by
  apply List.ext_getElem?
  intro j
  by_cases h : j < n <;> simp [nums, h]

theorem nums_set (n : Nat) (f : Nat → Int) (j : Nat) (v : Int) : (nums n f).set j (.int .i64 v) = nums n (fun i => if i = j then v else f i) := by
  apply List.ext_getElem?
  intro k
  by_cases hk : k < n
  · by_cases e : j = k
    · subst e; simp [nums, hk]
    · have e' : ¬ k = j := fun x => e x.symm
      rw [List.getElem?_set_ne e]; simp [nums, hk, e']
  · rw [List.getElem?_eq_none (by simp [nums]; omega), List.getElem?_eq_none (by simp [nums]; omega)]

theorem nums_congr {n : Nat} {f g : Nat → Int} (h : ∀ i, i < n → f i = g i) : nums n f = nums n g := by
  simp only [nums]; apply List.map_congr_left; intro j hj; simp at hj; rw [h j hj]

/-- Out of the kit's word for a row of the call's own. -/
theorem own_of_row {w : World} {B e n : Nat} {a : Option Addr} {cap : Nat} {f : Nat → Int} (h : w.ownsRow B e 1 (.slice a n cap) n (nums n f)) : Own w B a n f := by
  have h0 := h
  rcases h.2 with ⟨_, h2⟩ | ⟨g, cap', cur, h1, hB, hg, hnc, hcm, hcs, _⟩
  · exact .inl h2
  · simp at h1
    obtain ⟨rfl, rfl⟩ := h1
    refine .inr ⟨g, 0, rfl, hB, ?_, fun i hi => ?_⟩
    · have := Array.getElem?_eq_some_iff.mp hg; exact this.1
    · have := h0.cellAt i (by omega)
      rw [nums_get n f i hi] at this
      exact ⟨by simpa using this, by simpa using h0.frozenAt i⟩

/-- Its value is a slice. -/
theorem row_shape {w : World} {B e n : Nat} {v : Value} {xs : List Value} (h : w.ownsRow B e 1 v n xs) : ∃ a cap, v = .slice a n cap ∧ n ≤ cap ∧ cap ≤ maxLen ∧ (a = none → n = 0 ∧ cap = 0) := by
  rcases h.2 with ⟨h1, h2⟩ | ⟨g, cap', cur, h1, hB, hg, hnc, hcm, hcs, _⟩
  · exact ⟨none, 0, by rw [h1, h2], by omega, by simp [maxLen], fun _ => ⟨h2, rfl⟩⟩
  · exact ⟨_, cap', h1, hnc, hcm, fun h => by simp at h⟩

/-- A call hands back new numbers. -/
def RetInts (W : World) (n : Nat) (f : Nat → Int) (e : Ending) (w' : World) : Prop :=
  ∃ a cap, e = .returned (.slice a n cap) ∧ Own w' W.heap.size a n f ∧ Below W.heap.size W w' ∧ n ≤ cap ∧ cap ≤ maxLen ∧ (a = none → n = 0 ∧ cap = 0)

theorem retInts_of_row {W w' : World} {n : Nat} {f : Nat → Int} {v : Value} {e : Nat} (h : w'.ownsRow W.heap.size e 1 v n (nums n f)) (hb : Below W.heap.size W w') : RetInts W n f (.returned v) w' := by
  obtain ⟨a, cap, rfl, h1, h2, h3⟩ := row_shape h
  exact ⟨a, cap, rfl, own_of_row h, hb, h1, h2, h3⟩
end Go.Proofs.Ytnacdhnnpddccaa

namespace Go.Proofs.Ytnacdhnnpddccaa
open Go.RowKit
set_option linter.unusedVariables false

theorem Try.info2 : (Try.prog.info? 2).map (fun i => (i.zero, i.size, i.bytes)) = some (some (.int .i64 0), 1, 8) := by kernel_rfl

set_option maxRecDepth 100000 in
set_option maxHeartbeats 400000 in
theorem toInts_any (a : Option Addr) (n cap : Nat) (f : Nat → Int) (w : World) (hs : Src w a n f) (hn : n ≤ 1048576) :
    Calls Try.prog 18 #[.slice a n cap] w (RetInts w n f) := by
  obtain ⟨i0, hi, hz0, hz1, hz2⟩ := info_parts Try.info2
  have HS := Lib.hid hs
  clear hs
  go_enter Try.func18, Try.ntmps18
  go_wp2_with (at_make; refine wpList_make_full _ rfl _ _ 22 rfl w.heap.size 2 i0 (.int .i64 0) 1 Try.underlying22 hi hz0 hz1 .i64 .i64 n n n rfl rfl rfl rfl (by rw [hz2]; omega) (by unfold maxLen; omega) (Nat.le_refl _) ?_; intro w1 hown1 hgrow1)
  have hb1 : Below w.heap.size w w1 := (Below.refl _ _).grown hgrow1 (Nat.le_refl _) (by intro k hk; simp at hk)
  have ho1 : w1.ownsRow w.heap.size 2 1 (.slice (some ⟨w.heap.size, 0, none⟩) n n) n (nums n fun _ => 0) := by
    rw [nums_zero, ← toList_madeCells_one]; simpa [Value.cells] using hown1
  clear hown1 hgrow1
  have HB := Lib.hid hb1
  have HO := Lib.hid ho1
  clear hb1 ho1
  go_loopw [4] (fun k wr => ∃ i : Nat, i ≤ n ∧ k = .int .i64 i ∧ Hid (Below w.heap.size w wr) ∧ Hid (wr.ownsRow w.heap.size 2 1 (.slice (some ⟨w.heap.size, 0, none⟩) n n) n (nums n fun j => if j < i then f j else 0))) (fun k _ => n - (intOf k).toNat)
  case atStart => exact ⟨0, Nat.zero_le _, rfl, HB, by simpa using HO⟩
  case round =>
    obtain ⟨i, hi', rfl, HB1, HO1⟩ := hrel
    by_cases hlt : i < n
    · rcases HS.out with h0 | ⟨b, off, rfl, hb, hc⟩
      · omega
      · have c1 : wr.cell? ⟨b, off + i, none⟩ = some (.int .i64 (f i)) := (HB1.out.cell (p := ⟨b, off + i, none⟩) hb).trans (hc i hlt)
        have c2 : wr.frozen? ⟨w.heap.size, i, none⟩ = false := HO1.out.frozenAt i
        have c3 : wr.cell? ⟨w.heap.size, i, none⟩ = some (.int .i64 0) := by
          have := HO1.out.cellAt i (by omega)
          rw [nums_get _ _ _ hlt] at this; simpa using this
        clear hc
        go_wp2
        go_roundw
        case rel =>
          refine ⟨i + 1, by omega, by go_num, HB1.out.setCell (Nat.le_refl _) _, ?_⟩
          have := (HO1.out.stored i (.int .i64 (f i))).1
          rw [nums_set] at this
          have e : nums n (fun j => if j < i + 1 then f j else 0) = nums n (fun j => if j = i then f i else if j < i then f j else 0) :=
            nums_congr fun j hj => by
              by_cases h1 : j = i
              · subst h1; simp
              · have h2 : (j < i + 1) = (j < i) := by simp only [eq_iff_iff]; omega
                simp only [h1, if_false, h2]
          show _root_.Go.World.ownsRow _ _ _ _ _ _ _
          rw [e]; exact this
        case measure => simp [intOf]; omega
    · go_wp2
      go_ret
      obtain rfl : i = n := by omega
      have h := HO1.out
      refine retInts_of_row (f := f) (e := 2) ?_ HB1.out
      have e : nums i f = nums i (fun j => if j < i then f j else 0) := nums_congr fun j hj => by simp [hj]
      rw [e]; exact h
end Go.Proofs.Ytnacdhnnpddccaa

namespace Go.Proofs.Ytnacdhnnpddccaa
open Go.RowKit
set_option linter.unusedVariables false

theorem src_some {w : World} {a : Option Addr} {n : Nat} {f : Nat → Int} (h : Src w a n f) (hp : 0 < n) : ∃ b off, a = some ⟨b, off, none⟩ ∧ b < w.heap.size ∧ ∀ i, i < n → w.cell? ⟨b, off + i, none⟩ = some (.int .i64 (f i)) := by
  rcases h with h | h
  · omega
  · exact h

theorem news_at {w : World} {b off n : Nat} {f : Nat → Int} (hc : ∀ i, i < n → w.cell? ⟨b, off + i, none⟩ = some (.int .i64 (f i))) : ∀ (j : Nat) (u : Value), (nums n f)[j]? = some u → w.cell? ((⟨b, off, none⟩ : Addr).add j) = some u := by
  intro j u h
  by_cases hj : j < n
  · rw [nums_get _ _ _ hj] at h
    simp only [Option.some.injEq] at h
    subst h
    rcases j with _ | j
    · simpa [Addr.add] using hc 0 hj
    · simpa [Addr.add] using hc (j + 1) hj
  · rw [List.getElem?_eq_none (by simp [nums]; omega)] at h; simp at h

set_option maxRecDepth 100000 in
set_option maxHeartbeats 400000 in
theorem l1Ints_any (a : Option Addr) (n cap : Nat) (f : Nat → Int) (w : World) (hs : Src w a n f) (hp : 0 < n) (hn : n ≤ 1048576) :
    Calls Try.prog 88 #[.slice a n cap] w (RetInts w n f) := by
  obtain ⟨i0, hi, hz0, hz1, hz2⟩ := info_parts Try.info2
  obtain ⟨b, off, rfl, hb, hc⟩ := src_some hs hp
  have hc' : ∀ (j : Nat) (u : Value), (nums n f)[j]? = some u → (w.alloc (.cells #[] 2)).cell? ((⟨b, off, none⟩ : Addr).add j) = some u := fun j u h => by
    have := news_at hc j u h
    exact (((Below.refl w.heap.size w).alloc (Nat.le_refl _) _).cell (p := (⟨b, off, none⟩ : Addr).add j) (by rcases j with _ | j <;> simpa [Addr.add] using hb)).trans this
  have HC := Lib.hid hc'
  clear hc' hc hs
  go_enter Try.func88, Try.ntmps88
  go_wp2_with (at_builtin; refine wpList_append_own _ rfl _ _ 22 rfl w.heap.size 2 i0 (.int .i64 0) 1 8 Try.underlying22 hi hz0 hz1 hz2 rfl (by decide) _ 0 [] rfl (World.ownsRow_lit w #[] 0 (Nat.le_refl _) (by simp [maxLen]) rfl) ⟨b, off, none⟩ n cap (nums n f) rfl (by simp [nums]) HC.out (nums_one n f) (by unfold maxLen; omega) (by omega) (by simp) ?_; intro v' w1 hown hgrow _)
  go_ret
  exact retInts_of_row (e := 2) (by simpa using hown) (((Below.refl _ _).alloc (Nat.le_refl _) _).grown hgrow (by simp) (by intro k hk; cases hk; exact Nat.le_refl _))

set_option maxRecDepth 100000 in
set_option maxHeartbeats 400000 in
theorem clone_any (a : Option Addr) (n cap : Nat) (f : Nat → Int) (w : World) (hs : Src w a n f) (hp : 0 < n) (hn : n ≤ 1048576) :
    Calls Try.prog 85 #[.slice a n cap] w (RetInts w n f) := by
  obtain ⟨i0, hi, hz0, hz1, hz2⟩ := info_parts Try.info2
  obtain ⟨b, off, rfl, hb, hc⟩ := src_some hs hp
  have hc' : ∀ (j : Nat) (u : Value), (nums n f)[j]? = some u → (w.alloc (.cells #[] 2)).cell? ((⟨b, off, none⟩ : Addr).add j) = some u := fun j u h => by
    have := news_at hc j u h
    exact (((Below.refl w.heap.size w).alloc (Nat.le_refl _) _).cell (p := (⟨b, off, none⟩ : Addr).add j) (by rcases j with _ | j <;> simpa [Addr.add] using hb)).trans this
  have HC := Lib.hid hc'
  clear hc' hc hs
  have hnil := fun (w : World) (a : Option Addr) (n c : Nat) => Lib.run_eql_slice_nil (P := Try.prog) w 22 2 a n c 0 0 Try.underlying22
  go_enter Try.func85, Try.ntmps85
  go_wp2_with (at_builtin; refine wpList_append_own _ rfl _ _ 22 rfl w.heap.size 2 i0 (.int .i64 0) 1 8 Try.underlying22 hi hz0 hz1 hz2 rfl (by decide) _ 0 [] rfl (World.ownsRow_lit w #[] 0 (Nat.le_refl _) (by simp [maxLen]) rfl) ⟨b, off, none⟩ n cap (nums n f) rfl (by simp [nums]) HC.out (nums_one n f) (by unfold maxLen; omega) (by omega) (by simp) ?_; intro v' w1 hown hgrow _)
  go_ret
  exact retInts_of_row (e := 2) (by simpa using hown) (((Below.refl _ _).alloc (Nat.le_refl _) _).grown hgrow (by simp) (by intro k hk; cases hk; exact Nat.le_refl _))
end Go.Proofs.Ytnacdhnnpddccaa

namespace Go.Proofs.Ytnacdhnnpddccaa
open Go.RowKit
set_option linter.unusedVariables false

/-- Are two rows the same? -/
def eqB (n m : Nat) (f g : Nat → Int) : Bool := decide (n = m ∧ ∀ i, i < n → f i = g i)

theorem eqB_no {n : Nat} {f g : Nat → Int} (i : Nat) (hi : i < n) (h : ¬ f i = g i) : eqB n n f g = false := by
  simp only [eqB, true_and, decide_eq_false_iff_not]; exact fun k => h (k i hi)

theorem eqB_yes {n : Nat} {f g : Nat → Int} (h : ∀ i, i < n → f i = g i) : eqB n n f g = true := by
  simp only [eqB, true_and, decide_eq_true_eq]; exact h

/-- A Bool comes back; nothing that was there is turned. -/
def RetBool (W : World) (r : Bool) (e : Ending) (w' : World) : Prop := e = .returned (.bool r) ∧ Below W.heap.size W w'

theorem below_drewN {B : Nat} {a w : World} (h : Below B a w) (k : Nat) : Below B a (w.drewN k) := h.trans ⟨rfl, rfl, rfl, Nat.le_refl _, fun _ _ => rfl⟩

set_option maxRecDepth 100000 in
set_option maxHeartbeats 400000 in
theorem eqInts_same (a1 a2 : Option Addr) (n c1 c2 : Nat) (f g : Nat → Int) (w : World) (s1 : Src w a1 n f) (s2 : Src w a2 n g) (hn : n ≤ 1048576) :
    Calls Try.prog 21 #[.slice a1 n c1, .slice a2 n c2] w (RetBool w (eqB n n f g)) := by
  have S1 := Lib.hid s1
  have S2 := Lib.hid s2
  clear s1 s2
  go_enter Try.func21, Try.ntmps21
  go_wp2
  go_loopw [5] (fun k wr => ∃ i : Nat, i ≤ n ∧ k = .int .i64 i ∧ Hid (Below w.heap.size w wr) ∧ Hid (∀ j, j < i → f j = g j)) (fun k _ => n - (intOf k).toNat)
  case atStart => exact ⟨0, Nat.zero_le _, rfl, Below.refl _ _, fun j hj => by omega⟩
  case round =>
    obtain ⟨i, hi, rfl, HB, HE⟩ := hrel
    by_cases hlt : i < n
    · obtain ⟨b1, o1, rfl, hb1, hc1⟩ := src_some (S1.out.below HB.out) (by omega)
      obtain ⟨b2, o2, rfl, hb2, hc2⟩ := src_some (S2.out.below HB.out) (by omega)
      have d1 := hc1 i hlt
      have d2 := hc2 i hlt
      have hlt' : (i : Int) < (n : Int) := by omega
      clear hc1 hc2
      by_cases he : f i = g i
      · go_wp2
        go_quiet (fail)
        go_wp2
        go_roundw
        case rel => exact ⟨i + 1, by omega, by go_num, below_drewN HB.out _, fun j hj => by
            rcases Nat.lt_succ_iff_lt_or_eq.mp hj with h | h
            · exact HE.out j h
            · subst h; exact he⟩
        case measure => simp [intOf]; omega
      · have hd2 : (f i != g i) = true := by simpa using he
        go_wp2
        go_quiet (fail)
        go_wp2
        go_ret
        exact ⟨by rw [eqB_no i hlt he]; rfl, below_drewN HB.out _⟩
    · go_wp2
      go_ret
      exact ⟨by rw [eqB_yes fun j hj => HE.out j (by omega)]; rfl, HB.out⟩
end Go.Proofs.Ytnacdhnnpddccaa

namespace Go.Proofs.Ytnacdhnnpddccaa
open Go.RowKit
set_option linter.unusedVariables false

theorem bcell {W w1 : World} (hb : Below W.heap.size W w1) : (∀ b o, b < W.heap.size → w1.cell? ⟨b, o, none⟩ = W.cell? ⟨b, o, none⟩) ∧ (∀ b o, b < W.heap.size → w1.frozen? ⟨b, o, none⟩ = W.frozen? ⟨b, o, none⟩) :=
  ⟨fun b o h => hb.cell (p := ⟨b, o, none⟩) h, fun b o h => hb.frozen (p := ⟨b, o, none⟩) h⟩

/-- A block of the call's own, known cell by cell. -/
def Blk (w : World) (b : Nat) (cs : List Value) : Prop := b < w.heap.size ∧ ∀ i u, cs[i]? = some u → w.cell? ⟨b, i, none⟩ = some u ∧ w.frozen? ⟨b, i, none⟩ = false

theorem Blk.below {w w' : World} {b : Nat} {cs : List Value} (h : Blk w b cs) (hb : Below w.heap.size w w') : Blk w' b cs :=
  ⟨Nat.lt_of_lt_of_le h.1 hb.size, fun i u hu => ⟨(hb.cell (p := ⟨b, i, none⟩) h.1).trans (h.2 i u hu).1, (hb.frozen (p := ⟨b, i, none⟩) h.1).trans (h.2 i u hu).2⟩⟩

theorem Blk.alloc {w : World} {b : Nat} {cs : List Value} (h : Blk w b cs) (o : Obj) : Blk (w.alloc o) b cs := h.below ((Below.refl _ _).alloc (Nat.le_refl _) o)

theorem Blk.drew {w : World} {b : Nat} {cs : List Value} (h : Blk w b cs) : Blk w.drew b cs := h.below (Below.refl _ _).drew

theorem Blk.new (w : World) (cs : Array Value) (t : TypeId) : Blk (w.alloc (.cells cs t)) w.heap.size cs.toList := by
  refine ⟨by simp, fun i u hu => ?_⟩
  constructor
  · rw [World.cell?_alloc_at _ _ _ _ rfl]; simpa using hu
  · exact World.frozen?_alloc_at _ _ _ _ rfl

theorem Blk.new_at {w : World} {cs : Array Value} {t : TypeId} (b : Nat) (hb : b = w.heap.size) : Blk (w.alloc (.cells cs t)) b cs.toList := hb ▸ Blk.new w cs t

theorem Blk.at {w : World} {b : Nat} {cs : List Value} (h : Blk w b cs) (i : Nat) {u : Value} (hu : cs[i]? = some u) : w.cell? ⟨b, i, none⟩ = some u := (h.2 i u hu).1

theorem Blk.free {w : World} {b : Nat} {cs : List Value} (h : Blk w b cs) (i : Nat) {u : Value} (hu : cs[i]? = some u) : w.frozen? ⟨b, i, none⟩ = false := (h.2 i u hu).2

/-- An arena comes back, its words in new memory. -/
def RetArena (W : World) (h : Int) (n : Nat) (f : Nat → Int) (ac bu : Int) (e : Ending) (w' : World) : Prop :=
  ∃ a c, e = .returned (.agg #[.int .i64 h, .slice a n c, .int .i64 ac, .int .i64 bu]) ∧ Own w' W.heap.size a n f ∧ Below W.heap.size W w' ∧ n ≤ c ∧ c ≤ maxLen ∧ (a = none → n = 0 ∧ c = 0)

set_option maxRecDepth 100000 in
set_option maxHeartbeats 400000 in
theorem toArena_any (h ac bu : Int) (a : Option Addr) (n c : Nat) (f : Nat → Int) (w : World) (hs : Src w a n f) (hn : n ≤ 1048576) :
    Calls Try.prog 17 #[.agg #[.int .i64 h, .slice a n c, .int .i64 ac, .int .i64 bu]] w (RetArena w h n f ac bu) := by
  have HS := Lib.hid hs
  clear hs
  go_enter Try.func17, Try.ntmps17
  go_wp2_with (go_at_call 18; refine (toInts_any _ _ _ f _ (((HS.out.alloc _).alloc _).alloc _) hn).mono ?_; rintro e w1 ⟨a1, c1, rfl, ho, hb, hc1, hc2, hc3⟩; obtain ⟨hc, hf⟩ := bcell hb; have HO := Lib.hid ho; have HB := Lib.hid hb; have HN := Lib.hid hc3; have hz := hb.size; clear ho hb hc3)
  have hz' : w.heap.size + 2 < w1.heap.size := by simp at hz; omega
  clear hz
  refine bodyPost_ret (v := .agg #[.int .i64 h, .slice a1 n c1, .int .i64 ac, .int .i64 bu]) (by simp [results, Try.results17, go_sem, hc]) rfl ⟨a1, c1, rfl, ?_, ?_, hc1, hc2, HN.out⟩
  · have ho : Own w1 (w.heap.size + 3) a1 n f := HO.out.mono (by simp)
    refine Own.mono (B := w.heap.size + 3) ?_ (by omega)
    repeat (with_reducible refine Own.setCell ?_ (by simp; try omega) _)
    exact ho
  · have hb : Below w.heap.size w w1 := ((((Below.refl _ _).alloc (Nat.le_refl _) _).alloc (by simp) _).alloc (by simp; try omega) _).trans (HB.out.mono (by simp; try omega))
    repeat (with_reducible refine Below.setCell ?_ (by simp; try omega) _)
    exact hb

set_option maxRecDepth 100000 in
set_option maxHeartbeats 400000 in
theorem eqArena_same (h ac bu : Int) (a a' : Option Addr) (n c c' : Nat) (f g : Nat → Int) (w : World) (s1 : Src w a n f) (s2 : Src w a' n g) (hn : n ≤ 1048576) (he : ∀ i, i < n → f i = g i) :
    Calls Try.prog 20 #[.agg #[.int .i64 h, .slice a n c, .int .i64 ac, .int .i64 bu], .agg #[.int .i64 h, .slice a' n c', .int .i64 ac, .int .i64 bu]] w (RetBool w true) := by
  have S1 := Lib.hid s1
  have S2 := Lib.hid s2
  have HE := Lib.hid he
  clear s1 s2 he
  go_enter Try.func20, Try.ntmps20
  go_wp2_with (go_at_call 21; refine (eqInts_same _ _ _ _ _ f g _ ((S1.out.alloc _).alloc _) ((S2.out.alloc _).alloc _) hn).mono ?_; rw [eqB_yes HE.out]; rintro e w1 ⟨rfl, hb⟩; obtain ⟨hc, hf⟩ := bcell hb; have HB := Lib.hid hb; have hz := hb.size; clear hb)
  go_ret
  exact ⟨rfl, (((Below.refl _ _).alloc (Nat.le_refl _) _).alloc (by simp) _).trans (HB.out.mono (by simp; try omega))⟩
end Go.Proofs.Ytnacdhnnpddccaa

namespace Go.Proofs.Ytnacdhnnpddccaa
open Go.RowKit
set_option linter.unusedVariables false

/-- Three cells hold one bound. -/
def B3 (w : World) (b o : Nat) (v l g : Int) : Prop :=
  w.cell? ⟨b, o, none⟩ = some (.int .i64 v) ∧ w.cell? ⟨b, o + 1, none⟩ = some (.int .i64 l) ∧ w.cell? ⟨b, o + 2, none⟩ = some (.int .i64 g)

theorem B3.below {w w' : World} {b o : Nat} {v l g : Int} {B : Nat} (h : B3 w b o v l g) (hb : Below B w w') (hlt : b < B) : B3 w' b o v l g :=
  ⟨(hb.cell (p := ⟨b, o, none⟩) hlt).trans h.1, (hb.cell (p := ⟨b, o + 1, none⟩) hlt).trans h.2.1, (hb.cell (p := ⟨b, o + 2, none⟩) hlt).trans h.2.2⟩

-- All bounds hold.

set_option maxRecDepth 100000 in
set_option maxHeartbeats 400000 in
theorem isOut_no (b n : Nat) (v l g : Nat → Int) (w : World) (hn : n ≤ 3) (hb : b < w.heap.size)
   (h0 : ∀ i, i < n → B3 w b (i * 3) (v i) (l i) (g i)) (h1 : ∀ i, i < n → l i ≤ v i ∧ v i ≤ g i) :
    Calls Try.prog 78 #[.slice (some ⟨b, 0, none⟩) n n] w fun e w' => e = .returned (.bool false) ∧ Below w.heap.size w w' := by
  go_enter Try.func78, Try.ntmps78
  go_wp2
  go_loopw [7] (fun k wr => ∃ i : Nat, i ≤ n ∧ k = .int .i64 i ∧ Below w.heap.size w wr) (fun k _ => n - (intOf k).toNat)
  case atStart => exact ⟨0, Nat.zero_le _, rfl, Below.refl _ _⟩
  case round =>
    obtain ⟨i, hi, rfl, hbel⟩ := hrel
    by_cases hlt : i < n
    · obtain ⟨c1, c2, c3⟩ := (h0 i hlt).below hbel hb
      obtain ⟨d1, d2⟩ := h1 i hlt
      have hs := hbel.size
      clear h0 h1
      go_wp2
      go_roundw
      case rel => exact ⟨i + 1, by omega, by go_num, hbel.alloc hs _⟩
      case measure => simp [intOf]; omega
    · clear h0 h1
      go_wp2
      go_ret
      exact ⟨rfl, hbel⟩

-- Some bound does not hold.

set_option maxRecDepth 100000 in
set_option maxHeartbeats 400000 in
theorem isOut_yes (b n : Nat) (v l g : Nat → Int) (w : World) (hn : n ≤ 3) (hb : b < w.heap.size)
   (h0 : ∀ i, i < n → B3 w b (i * 3) (v i) (l i) (g i)) (h1 : ∃ i, i < n ∧ ¬ (l i ≤ v i ∧ v i ≤ g i)) :
    Calls Try.prog 78 #[.slice (some ⟨b, 0, none⟩) n n] w fun e w' => e = .returned (.bool true) ∧ Below w.heap.size w w' := by
  have H1 := Lib.hid h1
  clear h1
  go_enter Try.func78, Try.ntmps78
  go_wp2
  go_loopw [7] (fun k wr => ∃ i : Nat, i ≤ n ∧ k = .int .i64 i ∧ Below w.heap.size w wr ∧ Hid (∀ j, j < i → l j ≤ v j ∧ v j ≤ g j)) (fun k _ => n - (intOf k).toNat)
  case atStart => exact ⟨0, Nat.zero_le _, rfl, Below.refl _ _, fun j hj => by omega⟩
  case round =>
    obtain ⟨i, hi, rfl, hbel, hH⟩ := hrel
    by_cases hlt : i < n
    · obtain ⟨c1, c2, c3⟩ := (h0 i hlt).below hbel hb
      have hs := hbel.size
      clear h0
      by_cases e1 : v i < l i
      · go_wp2
        go_ret
        exact ⟨rfl, hbel.alloc hs _⟩
      · by_cases e2 : g i < v i
        · go_wp2
          go_ret
          exact ⟨rfl, hbel.alloc hs _⟩
        · go_wp2
          go_roundw
          case rel => exact ⟨i + 1, by omega, by go_num, hbel.alloc hs _, fun j hj => by
            rcases Nat.lt_succ_iff_lt_or_eq.mp hj with h | h
            · exact hH.out j h
            · subst h; omega⟩
          case measure => simp [intOf]; omega
    · exfalso
      obtain ⟨j, hj, hj'⟩ := H1.out
      exact hj' (hH.out j (by omega))
end Go.Proofs.Ytnacdhnnpddccaa

namespace Go.Proofs.Ytnacdhnnpddccaa
open Go.RowKit
set_option linter.unusedVariables false

def Word (v : Int) : Prop := -1000000000 ≤ v ∧ v ≤ 1000000000

def HeadOk (h ac bu : Int) : Prop := (8 ≤ h ∧ h ≤ 200) ∧ (0 ≤ ac ∧ ac ≤ 1) ∧ (0 ≤ bu ∧ bu ≤ h)

/-- The code of an arena. -/
def IsFault (h : Int) (n : Nat) (f : Nat → Int) (ac bu k : Int) : Prop :=
  (¬ HeadOk h ac bu ∧ k = 3) ∨ (HeadOk h ac bu ∧ ¬ (n : Int) = 2 * h ∧ k = 2) ∨ (HeadOk h ac bu ∧ (n : Int) = 2 * h ∧ (∃ i, i < n ∧ ¬ Word (f i)) ∧ k = 3) ∨
  (HeadOk h ac bu ∧ (n : Int) = 2 * h ∧ (∀ i, i < n → Word (f i)) ∧ k = 0)

theorem isFault_some (h : Int) (n : Nat) (f : Nat → Int) (ac bu : Int) : ∃ k, IsFault h n f ac bu k := by
  by_cases h1 : HeadOk h ac bu
  · by_cases h2 : (n : Int) = 2 * h
    · by_cases h3 : ∀ i, i < n → Word (f i)
      · exact ⟨0, .inr (.inr (.inr ⟨h1, h2, h3, rfl⟩))⟩
      · refine ⟨3, .inr (.inr (.inl ⟨h1, h2, ?_, rfl⟩))⟩
        apply Classical.byContradiction; intro hn
        exact h3 fun i hi => Classical.byContradiction fun hw => hn ⟨i, hi, hw⟩
    · exact ⟨2, .inr (.inl ⟨h1, h2, rfl⟩)⟩
  · exact ⟨3, .inl ⟨h1, rfl⟩⟩

/-- An integer comes back; nothing that was there is turned. -/
def RetInt (W : World) (r : Int) (e : Ending) (w' : World) : Prop := e = .returned (.int .i64 r) ∧ Below W.heap.size W w'

set_option maxRecDepth 100000 in
set_option maxHeartbeats 400000 in
theorem l1In_yes (v l g : Int) (w : World) (h1 : l ≤ v) (h2 : v ≤ g) : Calls Try.prog 75 #[.int .i64 v, .int .i64 l, .int .i64 g] w fun e w' => e = .returned (.bool true) ∧ w = w' := by
  go_enter Try.func75, Try.ntmps75
  go_wp2
  go_ret
  exact ⟨rfl, rfl⟩

set_option maxRecDepth 100000 in
set_option maxHeartbeats 400000 in
theorem l1In_no (v l g : Int) (w : World) (h : ¬ (l ≤ v ∧ v ≤ g)) : Calls Try.prog 75 #[.int .i64 v, .int .i64 l, .int .i64 g] w fun e w' => e = .returned (.bool false) ∧ w = w' := by
  by_cases h1 : l ≤ v
  · have h2 : ¬ v ≤ g := fun k => h ⟨h1, k⟩
    clear h
    go_enter Try.func75, Try.ntmps75
    go_wp2
    go_ret
    exact ⟨rfl, rfl⟩
  · clear h
    go_enter Try.func75, Try.ntmps75
    go_wp2
    go_ret
    exact ⟨rfl, rfl⟩

set_option maxRecDepth 100000 in
set_option maxHeartbeats 400000 in
theorem l1Value_yes (v : Int) (w : World) (h : Word v) : Calls Try.prog 129 #[.int .i64 v] w fun e w' => e = .returned (.bool true) ∧ w = w' := by
  obtain ⟨h1, h2⟩ := h
  go_enter Try.func129, Try.ntmps129
  go_wp2_with (go_at_call 75; (with_reducible refine (l1In_yes _ _ _ _ h1 h2).mono ?_); rintro e w' ⟨rfl, rfl⟩)
  go_ret
  exact ⟨rfl, rfl⟩

set_option maxRecDepth 100000 in
set_option maxHeartbeats 400000 in
theorem l1Value_no (v : Int) (w : World) (h : ¬ Word v) : Calls Try.prog 129 #[.int .i64 v] w fun e w' => e = .returned (.bool false) ∧ w = w' := by
  have H := Lib.hid h
  clear h
  go_enter Try.func129, Try.ntmps129
  go_wp2_with (go_at_call 75; (with_reducible refine (l1In_no _ _ _ _ (by have := H.out; unfold Word at this; omega)).mono ?_); rintro e w' ⟨rfl, rfl⟩)
  go_ret
  exact ⟨rfl, rfl⟩

set_option maxRecDepth 100000 in
set_option maxHeartbeats 400000 in
theorem specFault_head (h ac bu : Int) (a : Option Addr) (n c : Nat) (w : World) (h0 : ¬ HeadOk h ac bu) :
    Calls Try.prog 119 #[.agg #[.int .i64 h, .slice a n c, .int .i64 ac, .int .i64 bu]] w (RetInt w 3) := by
  by_cases c1 : 8 ≤ h ∧ h ≤ 200
  · by_cases c2 : 0 ≤ ac ∧ ac ≤ 1
    · have c3 : ¬ (0 ≤ bu ∧ bu ≤ h) := fun x => h0 ⟨c1, c2, x⟩
      have C3 := Lib.hid c3
      obtain ⟨c11, c12⟩ := c1
      obtain ⟨c21, c22⟩ := c2
      clear h0 c3
      go_enter Try.func119, Try.ntmps119
      go_wp2_with (first | (go_at_call 75; (with_reducible refine (l1In_yes _ _ _ _ (by omega) (by omega)).mono ?_); rintro e w' ⟨rfl, rfl⟩) | (go_at_call 75; (with_reducible refine (l1In_no _ _ _ _ (by have := C3.out; omega)).mono ?_); rintro e w' ⟨rfl, rfl⟩))
      go_ret
      exact ⟨rfl, (Below.refl _ _).alloc (Nat.le_refl _) _⟩
    · have C3 := Lib.hid c2
      obtain ⟨c11, c12⟩ := c1
      clear h0 c2
      go_enter Try.func119, Try.ntmps119
      go_wp2_with (first | (go_at_call 75; (with_reducible refine (l1In_no _ _ _ _ (by have := C3.out; omega)).mono ?_); rintro e w' ⟨rfl, rfl⟩) | (go_at_call 75; (with_reducible refine (l1In_yes _ _ _ _ (by omega) (by omega)).mono ?_); rintro e w' ⟨rfl, rfl⟩))
      go_ret
      exact ⟨rfl, (Below.refl _ _).alloc (Nat.le_refl _) _⟩
  · have C3 := Lib.hid c1
    clear h0 c1
    go_enter Try.func119, Try.ntmps119
    go_wp2_with (go_at_call 75; (with_reducible refine (l1In_no _ _ _ _ (by have := C3.out; omega)).mono ?_); rintro e w' ⟨rfl, rfl⟩)
    go_ret
    exact ⟨rfl, (Below.refl _ _).alloc (Nat.le_refl _) _⟩

set_option maxRecDepth 100000 in
set_option maxHeartbeats 400000 in
theorem specFault_many (h ac bu : Int) (a : Option Addr) (n c : Nat) (w : World) (h0 : HeadOk h ac bu) (hm : ¬ (n : Int) = 2 * h) :
    Calls Try.prog 119 #[.agg #[.int .i64 h, .slice a n c, .int .i64 ac, .int .i64 bu]] w (RetInt w 2) := by
  obtain ⟨⟨c11, c12⟩, ⟨c21, c22⟩, c31, c32⟩ := h0
  have hd : ((n : Int) != 2 * h) = true := by simpa using hm
  clear hm
  go_enter Try.func119, Try.ntmps119
  go_wp2_with (first | (go_at_call 75; (with_reducible refine (l1In_yes _ _ _ _ (by omega) (by omega)).mono ?_); rintro e w' ⟨rfl, rfl⟩))
  go_ret
  exact ⟨rfl, (Below.refl _ _).alloc (Nat.le_refl _) _⟩

set_option maxRecDepth 100000 in
set_option maxHeartbeats 400000 in
theorem specFault_words (h ac bu : Int) (a : Option Addr) (n c : Nat) (f : Nat → Int) (k : Int) (w : World) (hs : Src w a n f) (h0 : HeadOk h ac bu) (hm : (n : Int) = 2 * h)
    (hk : (k = 0 ∧ ∀ i, i < n → Word (f i)) ∨ (k = 3 ∧ ∃ i, i < n ∧ ¬ Word (f i))) :
    Calls Try.prog 119 #[.agg #[.int .i64 h, .slice a n c, .int .i64 ac, .int .i64 bu]] w (RetInt w k) := by
  obtain ⟨⟨c11, c12⟩, ⟨c21, c22⟩, c31, c32⟩ := h0
  have hd : ((n : Int) != 2 * h) = false := by simpa using hm
  have HS := Lib.hid hs
  have HK := Lib.hid hk
  have hn : n ≤ 400 := by omega
  clear hm hk hs
  go_enter Try.func119, Try.ntmps119
  go_wp2_with (first | (go_at_call 75; (with_reducible refine (l1In_yes _ _ _ _ (by omega) (by omega)).mono ?_); rintro e w' ⟨rfl, rfl⟩))
  go_loopw [3] (fun k' wr => ∃ i : Nat, i ≤ n ∧ k' = .int .i64 i ∧ wr = w.alloc (.cells #[.int .i64 h, .slice a n c, .int .i64 ac, .int .i64 bu] 34) ∧ Hid (∀ j, j < i → Word (f j))) (fun k' _ => n - (intOf k').toNat)
  case atStart => exact ⟨0, Nat.zero_le _, rfl, rfl, fun j hj => by omega⟩
  case round =>
    obtain ⟨i, hi, rfl, rfl, HE⟩ := hrel
    by_cases hlt : i < n
    · obtain ⟨b1, o1, rfl, hb1, hc1⟩ := src_some HS.out (by omega)
      have d1 := hc1 i hlt
      have hlt' : (i : Int) < (n : Int) := by omega
      clear hc1
      by_cases hw : Word (f i)
      · have HW := Lib.hid hw
        clear hw
        go_wp2_with (go_at_call 129; (with_reducible refine (l1Value_yes _ _ HW.out).mono ?_); rintro e w' ⟨rfl, rfl⟩)
        go_roundw
        case rel => exact ⟨i + 1, by omega, by go_num, trivial, fun j hj => by
            rcases Nat.lt_succ_iff_lt_or_eq.mp hj with h | h
            · exact HE.out j h
            · subst h; exact HW.out⟩
        case measure => simp [intOf]; omega
      · have HW := Lib.hid hw
        clear hw
        go_wp2_with (go_at_call 129; (with_reducible refine (l1Value_no _ _ HW.out).mono ?_); rintro e w' ⟨rfl, rfl⟩)
        go_ret
        rcases HK.out with ⟨_, hk⟩ | ⟨hk, _⟩
        · exact absurd (hk i hlt) HW.out
        · subst hk; exact ⟨rfl, (Below.refl _ _).alloc (Nat.le_refl _) _⟩
    · go_wp2
      go_ret
      rcases HK.out with ⟨hk, _⟩ | ⟨_, j, hj, hk⟩
      · subst hk; exact ⟨rfl, (Below.refl _ _).alloc (Nat.le_refl _) _⟩
      · exact absurd (HE.out j (by omega)) hk

theorem specFault_any (h ac bu : Int) (a : Option Addr) (n c : Nat) (f : Nat → Int) (k : Int) (w : World) (hs : Src w a n f) (hk : IsFault h n f ac bu k) :
    Calls Try.prog 119 #[.agg #[.int .i64 h, .slice a n c, .int .i64 ac, .int .i64 bu]] w (RetInt w k) := by
  rcases hk with ⟨h1, rfl⟩ | ⟨h1, h2, rfl⟩ | ⟨h1, h2, h3, rfl⟩ | ⟨h1, h2, h3, rfl⟩
  · exact specFault_head h ac bu a n c w h1
  · exact specFault_many h ac bu a n c w h1 h2
  · exact specFault_words h ac bu a n c f 3 w hs h1 h2 (.inr ⟨rfl, h3⟩)
  · exact specFault_words h ac bu a n c f 0 w hs h1 h2 (.inl ⟨rfl, h3⟩)

set_option maxRecDepth 100000 in
set_option maxHeartbeats 400000 in
theorem wordBound_any (v : Int) (w : World) : Calls Try.prog 106 #[.int .i64 v] w fun e w' => e = .returned (.agg #[.int .i64 v, .int .i64 (-1000000000), .int .i64 1000000000]) ∧ Below w.heap.size w w' := by
  go_enter Try.func106, Try.ntmps106
  go_wp2
  exact bodyPost_ret (v := .agg #[.int .i64 v, .int .i64 (-1000000000), .int .i64 1000000000]) (by simp [results, Try.results106, go_sem]) rfl ⟨rfl, (Below.refl _ _).alloc (Nat.le_refl _) _⟩

theorem b3_new {W : World} {cs : Array Value} {t : TypeId} {o : Nat} {v l g : Int} (h1 : cs[o]? = some (.int .i64 v)) (h2 : cs[o + 1]? = some (.int .i64 l)) (h3 : cs[o + 2]? = some (.int .i64 g)) : B3 (W.alloc (.cells cs t)) W.heap.size o v l g := by
  refine ⟨?_, ?_, ?_⟩ <;> (rw [World.cell?_alloc_at _ _ _ _ rfl]; assumption)

/-- isOutside, of bounds that were laid just ahead of the call. -/
def pick3 (a b c : Int) : Nat → Int := fun i => if i = 0 then a else if i = 1 then b else c

theorem isOut1 (B : Nat) (W : World) (v l g : Int) (r : Bool) (hB : B = W.heap.size) (hr : (r = false ∧ (l ≤ v ∧ v ≤ g)) ∨ (r = true ∧ ¬ (l ≤ v ∧ v ≤ g))) :
    Calls Try.prog 78 #[.slice (some ⟨B, 0, none⟩) 1 1] (W.alloc (.cells #[.int .i64 v, .int .i64 l, .int .i64 g] 111)) (RetBool (W.alloc (.cells #[.int .i64 v, .int .i64 l, .int .i64 g] 111)) r) := by
  subst hB
  rcases hr with ⟨rfl, hr⟩ | ⟨rfl, hr⟩
  · refine isOut_no W.heap.size 1 (fun _ => v) (fun _ => l) (fun _ => g) _ (by omega) (by simp) (fun i hi => ?_) (fun _ _ => hr)
    obtain rfl : i = 0 := by omega
    exact b3_new rfl rfl rfl
  · refine isOut_yes W.heap.size 1 (fun _ => v) (fun _ => l) (fun _ => g) _ (by omega) (by simp) (fun i hi => ?_) ⟨0, by omega, hr⟩
    obtain rfl : i = 0 := by omega
    exact b3_new rfl rfl rfl

theorem isOut3 (B : Nat) (W : World) (v0 l0 g0 v1 l1 g1 v2 l2 g2 : Int) (r : Bool) (hB : B = W.heap.size)
    (hr : (r = false ∧ (l0 ≤ v0 ∧ v0 ≤ g0) ∧ (l1 ≤ v1 ∧ v1 ≤ g1) ∧ (l2 ≤ v2 ∧ v2 ≤ g2)) ∨ (r = true ∧ ¬ ((l0 ≤ v0 ∧ v0 ≤ g0) ∧ (l1 ≤ v1 ∧ v1 ≤ g1) ∧ (l2 ≤ v2 ∧ v2 ≤ g2)))) :
    Calls Try.prog 78 #[.slice (some ⟨B, 0, none⟩) 3 3] (W.alloc (.cells #[.int .i64 v0, .int .i64 l0, .int .i64 g0, .int .i64 v1, .int .i64 l1, .int .i64 g1, .int .i64 v2, .int .i64 l2, .int .i64 g2] 111))
      (RetBool (W.alloc (.cells #[.int .i64 v0, .int .i64 l0, .int .i64 g0, .int .i64 v1, .int .i64 l1, .int .i64 g1, .int .i64 v2, .int .i64 l2, .int .i64 g2] 111)) r) := by
  subst hB
  have hB3 : ∀ i, i < 3 → B3 (W.alloc (.cells #[.int .i64 v0, .int .i64 l0, .int .i64 g0, .int .i64 v1, .int .i64 l1, .int .i64 g1, .int .i64 v2, .int .i64 l2, .int .i64 g2] 111)) W.heap.size (i * 3) (pick3 v0 v1 v2 i) (pick3 l0 l1 l2 i) (pick3 g0 g1 g2 i) := by
    intro i hi
    match i, hi with
    | 0, _ => exact b3_new rfl rfl rfl
    | 1, _ => exact b3_new rfl rfl rfl
    | 2, _ => exact b3_new rfl rfl rfl
  rcases hr with ⟨rfl, hr⟩ | ⟨rfl, hr⟩
  · refine isOut_no W.heap.size 3 _ _ _ _ (by omega) (by simp) hB3 (fun i hi => ?_)
    match i, hi with
    | 0, _ => exact hr.1
    | 1, _ => exact hr.2.1
    | 2, _ => exact hr.2.2
  · refine isOut_yes W.heap.size 3 _ _ _ _ (by omega) (by simp) hB3 ?_
    by_cases h0 : l0 ≤ v0 ∧ v0 ≤ g0
    · by_cases h1 : l1 ≤ v1 ∧ v1 ≤ g1
      · exact ⟨2, by omega, fun h2 => hr ⟨h0, h1, h2⟩⟩
      · exact ⟨1, by omega, h1⟩
    · exact ⟨0, by omega, h0⟩

set_option maxRecDepth 100000 in
set_option maxHeartbeats 400000 in
theorem implFault_head (h ac bu : Int) (a : Option Addr) (n c : Nat) (w : World) (h0 : ¬ HeadOk h ac bu) :
    Calls Try.prog 89 #[.agg #[.int .i64 h, .slice a n c, .int .i64 ac, .int .i64 bu]] w (RetInt w 3) := by
  have H0 : Hid (¬ ((8 ≤ h ∧ h ≤ 200) ∧ (0 ≤ ac ∧ ac ≤ 1) ∧ (0 ≤ bu ∧ bu ≤ h))) := h0
  clear h0
  go_enter Try.func89, Try.ntmps89
  go_wp2_with (go_at_call 78; (with_reducible refine (isOut3 _ _ _ _ _ _ _ _ _ _ _ true (by simp) (.inr ⟨rfl, H0.out⟩)).mono ?_); rintro e w1 ⟨rfl, hb⟩; obtain ⟨hc, hf⟩ := bcell hb; have HB := Lib.hid hb; have hz := hb.size; clear hb)
  go_ret
  exact ⟨rfl, (((Below.refl _ _).alloc (Nat.le_refl _) _).alloc (by simp) _).trans (HB.out.mono (by simp; try omega))⟩

set_option maxRecDepth 100000 in
set_option maxHeartbeats 400000 in
theorem implFault_many (h ac bu : Int) (a : Option Addr) (n c : Nat) (w : World) (h0 : HeadOk h ac bu) (hm : ¬ (n : Int) = 2 * h) :
    Calls Try.prog 89 #[.agg #[.int .i64 h, .slice a n c, .int .i64 ac, .int .i64 bu]] w (RetInt w 2) := by
  have H0 : Hid ((8 ≤ h ∧ h ≤ 200) ∧ (0 ≤ ac ∧ ac ≤ 1) ∧ (0 ≤ bu ∧ bu ≤ h)) := h0
  have hd : ((n : Int) != 2 * h) = true := by simpa using hm
  obtain ⟨⟨c11, c12⟩, ⟨c21, c22⟩, c31, c32⟩ := h0
  clear hm
  go_enter Try.func89, Try.ntmps89
  go_wp2_with (go_at_call 78; (with_reducible refine (isOut3 _ _ _ _ _ _ _ _ _ _ _ false (by simp) (.inl ⟨rfl, H0.out⟩)).mono ?_); rintro e w1 ⟨rfl, hb⟩; obtain ⟨hc, hf⟩ := bcell hb; have HB := Lib.hid hb; have hz := hb.size; clear hb)
  go_ret
  exact ⟨rfl, (((Below.refl _ _).alloc (Nat.le_refl _) _).alloc (by simp) _).trans (HB.out.mono (by simp; try omega))⟩

set_option maxRecDepth 100000 in
set_option maxHeartbeats 800000 in
theorem implFault_words (h ac bu : Int) (a : Option Addr) (n c : Nat) (f : Nat → Int) (k : Int) (w : World) (hs : Src w a n f) (h0 : HeadOk h ac bu) (hm : (n : Int) = 2 * h)
    (hk : (k = 0 ∧ ∀ i, i < n → Word (f i)) ∨ (k = 3 ∧ ∃ i, i < n ∧ ¬ Word (f i))) :
    Calls Try.prog 89 #[.agg #[.int .i64 h, .slice a n c, .int .i64 ac, .int .i64 bu]] w (RetInt w k) := by
  have H0 : Hid ((8 ≤ h ∧ h ≤ 200) ∧ (0 ≤ ac ∧ ac ≤ 1) ∧ (0 ≤ bu ∧ bu ≤ h)) := h0
  obtain ⟨⟨c11, c12⟩, ⟨c21, c22⟩, c31, c32⟩ := h0
  have hd : ((n : Int) != 2 * h) = false := by simpa using hm
  have HS := Lib.hid hs
  have HK := Lib.hid hk
  have hn : n ≤ 400 := by omega
  clear hm hk hs
  go_enter Try.func89, Try.ntmps89
  go_wp2_with (go_at_call 78; (with_reducible refine (isOut3 _ _ _ _ _ _ _ _ _ _ _ false (by simp) (.inl ⟨rfl, H0.out⟩)).mono ?_); rintro e w1 ⟨rfl, hb⟩; obtain ⟨hc, hf⟩ := bcell hb; have HB := Lib.hid hb; have hz := hb.size; clear hb)
  have HB1 : Hid (Below w.heap.size w w1) := (((Below.refl _ _).alloc (Nat.le_refl _) _).alloc (by simp) _).trans (HB.out.mono (by simp; try omega))
  clear hc hf hz HB
  go_loopw [28] (fun k' wr => ∃ i : Nat, i ≤ n ∧ k' = .int .i64 i ∧ Hid (Below w.heap.size w wr) ∧ Hid (∀ j, j < i → Word (f j))) (fun k' _ => n - (intOf k').toNat)
  case atStart => exact ⟨0, Nat.zero_le _, rfl, HB1, fun j hj => by omega⟩
  case round =>
    obtain ⟨i, hi, rfl, HBr, HE⟩ := hrel
    by_cases hlt : i < n
    · obtain ⟨b1, o1, rfl, hb1, hc1⟩ := src_some (HS.out.below HBr.out) (by omega)
      have d1 := hc1 i hlt
      have hlt' : (i : Int) < (n : Int) := by omega
      have hz := HBr.out.size
      clear hc1 HB1
      by_cases hw : Word (f i)
      · have HW : Hid (-1000000000 ≤ f i ∧ f i ≤ 1000000000) := hw
        clear hw
        go_wp2_with (first | (go_at_call 106; (with_reducible refine (wordBound_any _ _).mono ?_); rintro e w2 ⟨rfl, hb2⟩; have HB2 := Lib.hid hb2; have hz2 := hb2.size; clear hb2) | (go_at_call 78; (with_reducible refine (isOut1 _ _ _ _ _ false (by simp) (.inl ⟨rfl, HW.out⟩)).mono ?_); rintro e w3 ⟨rfl, hb3⟩; have HB3 := Lib.hid hb3; have hz3 := hb3.size; clear hb3))
        go_roundw
        case rel => exact ⟨i + 1, by omega, by go_num, ((HBr.out.trans (HB2.out.mono (by omega))).alloc (by omega) _).trans (HB3.out.mono (by simp; omega)), fun j hj => by
            rcases Nat.lt_succ_iff_lt_or_eq.mp hj with h | h
            · exact HE.out j h
            · subst h; exact HW.out⟩
        case measure => simp [intOf]; omega
      · have HW : Hid (¬ (-1000000000 ≤ f i ∧ f i ≤ 1000000000)) := hw
        clear hw
        go_wp2_with (first | (go_at_call 106; (with_reducible refine (wordBound_any _ _).mono ?_); rintro e w2 ⟨rfl, hb2⟩; have HB2 := Lib.hid hb2; have hz2 := hb2.size; clear hb2) | (go_at_call 78; (with_reducible refine (isOut1 _ _ _ _ _ true (by simp) (.inr ⟨rfl, HW.out⟩)).mono ?_); rintro e w3 ⟨rfl, hb3⟩; have HB3 := Lib.hid hb3; have hz3 := hb3.size; clear hb3))
        go_ret
        rcases HK.out with ⟨_, hk⟩ | ⟨hk, _⟩
        · exact absurd (hk i hlt) HW.out
        · subst hk; exact ⟨rfl, ((HBr.out.trans (HB2.out.mono (by omega))).alloc (by omega) _).trans (HB3.out.mono (by simp; omega))⟩
    · go_wp2
      go_ret
      rcases HK.out with ⟨hk, _⟩ | ⟨_, j, hj, hk⟩
      · subst hk; exact ⟨rfl, HBr.out⟩
      · exact absurd (HE.out j (by omega)) hk

theorem implFault_any (h ac bu : Int) (a : Option Addr) (n c : Nat) (f : Nat → Int) (k : Int) (w : World) (hs : Src w a n f) (hk : IsFault h n f ac bu k) :
    Calls Try.prog 89 #[.agg #[.int .i64 h, .slice a n c, .int .i64 ac, .int .i64 bu]] w (RetInt w k) := by
  rcases hk with ⟨h1, rfl⟩ | ⟨h1, h2, rfl⟩ | ⟨h1, h2, h3, rfl⟩ | ⟨h1, h2, h3, rfl⟩
  · exact implFault_head h ac bu a n c w h1
  · exact implFault_many h ac bu a n c w h1 h2
  · exact implFault_words h ac bu a n c f 3 w hs h1 h2 (.inr ⟨rfl, h3⟩)
  · exact implFault_words h ac bu a n c f 0 w hs h1 h2 (.inl ⟨rfl, h3⟩)
end Go.Proofs.Ytnacdhnnpddccaa

namespace Go.Proofs.Ytnacdhnnpddccaa
open Go.RowKit
set_option linter.unusedVariables false

theorem isFault_ok {h : Int} {n : Nat} {f : Nat → Int} {ac bu : Int} (hk : IsFault h n f ac bu 0) : HeadOk h ac bu ∧ (n : Int) = 2 * h ∧ ∀ i, i < n → Word (f i) := by
  rcases hk with ⟨_, hk⟩ | ⟨_, _, hk⟩ | ⟨_, _, _, hk⟩ | ⟨h1, h2, h3, _⟩
  · omega
  · omega
  · omega
  · exact ⟨h1, h2, h3⟩

/-- A pair of numbers comes back; nothing that was there is turned. -/
def RetPair (W : World) (c v : Int) (e : Ending) (w' : World) : Prop := e = .returned (.agg #[.int .i64 c, .int .i64 v]) ∧ Below W.heap.size W w'

theorem thru0 {w w1 w2 : World} (h : Below w.heap.size w w1) (hb : Below w1.heap.size w1 w2) : Below w.heap.size w w2 := h.trans (hb.mono h.size)

theorem thru1 {w w1 w2 : World} {o : Obj} (h : Below w.heap.size w w1) (hb : Below (w1.alloc o).heap.size (w1.alloc o) w2) : Below w.heap.size w w2 := thru0 (h.alloc h.size o) hb

theorem thru2 {w w1 w2 : World} {o o' : Obj} (h : Below w.heap.size w w1) (hb : Below ((w1.alloc o).alloc o').heap.size ((w1.alloc o).alloc o') w2) : Below w.heap.size w w2 := thru1 (h.alloc h.size o) hb
end Go.Proofs.Ytnacdhnnpddccaa

namespace Go.Proofs.Ytnacdhnnpddccaa
open Go.RowKit
set_option linter.unusedVariables false

/-- Nothing that was there is turned, but in the blocks from lo to hi. -/
structure Keeps (w w' : World) (lo hi : Nat) : Prop where
  os : w'.os = w.os
  tape : w'.tape = w.tape
  output : w'.output = w.output
  size : w.heap.size ≤ w'.heap.size
  block : ∀ k, k < w.heap.size → (k < lo ∨ hi ≤ k) → w'.heap[k]? = w.heap[k]?

theorem Keeps.refl (w : World) (lo hi : Nat) : Keeps w w lo hi := ⟨rfl, rfl, rfl, Nat.le_refl _, fun _ _ _ => rfl⟩

theorem Keeps.trans {w w1 w2 : World} {lo hi : Nat} (h : Keeps w w1 lo hi) (k : Keeps w1 w2 lo hi) : Keeps w w2 lo hi :=
  ⟨k.os.trans h.os, k.tape.trans h.tape, k.output.trans h.output, Nat.le_trans h.size k.size, fun i hi h' => (k.block i (Nat.lt_of_lt_of_le hi h.size) h').trans (h.block i hi h')⟩

theorem keeps_of_below {w w' : World} (h : Below w.heap.size w w') (lo hi : Nat) : Keeps w w' lo hi := ⟨h.os, h.tape, h.output, h.size, fun k hk _ => h.block k hk⟩

theorem keeps_setCell {w : World} {lo hi : Nat} {p : Addr} (h1 : lo ≤ p.block) (h2 : p.block < hi) (u : Value) : Keeps w (w.setCell p u) lo hi := by
  have h : Below p.block w (w.setCell p u) := (Below.refl _ _).setCell (Nat.le_refl _) u
  exact ⟨h.os, h.tape, h.output, h.size, fun k _ hk' => Below.heap_setCell w p u k (by omega)⟩

theorem Keeps.below {w w' : World} {lo hi B : Nat} (h : Keeps w w' lo hi) (hB : B ≤ lo) (hs : B ≤ w.heap.size) : Below B w w' :=
  ⟨h.os, h.tape, h.output, h.size, fun k hk => h.block k (by omega) (.inl (by omega))⟩

theorem Blk.keeps {w w' : World} {b lo hi : Nat} {cs : List Value} (h : Blk w b cs) (hk : Keeps w w' lo hi) (hd : b < lo ∨ hi ≤ b) : Blk w' b cs := by
  have e := hk.block b h.1 hd
  exact ⟨Nat.lt_of_lt_of_le h.1 hk.size, fun i u hu => ⟨(World.cell?_of_block (w := w) (a := ⟨b, i, none⟩) e).trans (h.2 i u hu).1, (World.frozen?_of_block (w := w) (a := ⟨b, i, none⟩) e).trans (h.2 i u hu).2⟩⟩

/-- A row of the call's own, in a block from lo to hi. -/
def OwnIn (w : World) (lo hi : Nat) (a : Option Addr) (n : Nat) (f : Nat → Int) : Prop :=
  n = 0 ∨ ∃ b off, a = some ⟨b, off, none⟩ ∧ (lo ≤ b ∧ b < hi) ∧ b < w.heap.size ∧ ∀ i, i < n → w.cell? ⟨b, off + i, none⟩ = some (.int .i64 (f i)) ∧ w.frozen? ⟨b, off + i, none⟩ = false

theorem Own.into {w : World} {B : Nat} {a : Option Addr} {n : Nat} {f : Nat → Int} (h : Own w B a n f) : OwnIn w B w.heap.size a n f := by
  rcases h with h | ⟨b, off, h1, h2, h3, h4⟩
  · exact .inl h
  · exact .inr ⟨b, off, h1, ⟨h2, h3⟩, h3, h4⟩

theorem OwnIn.src {w : World} {lo hi : Nat} {a : Option Addr} {n : Nat} {f : Nat → Int} (h : OwnIn w lo hi a n f) : Src w a n f := by
  rcases h with h | ⟨b, off, h1, _, h3, h4⟩
  · exact .inl h
  · exact .inr ⟨b, off, h1, h3, fun i hi => (h4 i hi).1⟩

theorem OwnIn.keeps {w w' : World} {lo hi lo' hi' : Nat} {a : Option Addr} {n : Nat} {f : Nat → Int} (h : OwnIn w lo hi a n f) (hk : Keeps w w' lo' hi') (hd : hi ≤ lo' ∨ hi' ≤ lo) : OwnIn w' lo hi a n f := by
  rcases h with h | ⟨b, off, h1, h2, h3, h4⟩
  · exact .inl h
  · have e := hk.block b h3 (by omega)
    exact .inr ⟨b, off, h1, h2, Nat.lt_of_lt_of_le h3 hk.size, fun i hi => ⟨(World.cell?_of_block (w := w) (a := ⟨b, off + i, none⟩) e).trans (h4 i hi).1, (World.frozen?_of_block (w := w) (a := ⟨b, off + i, none⟩) e).trans (h4 i hi).2⟩⟩

theorem OwnIn.below {w w' : World} {lo hi : Nat} {a : Option Addr} {n : Nat} {f : Nat → Int} (h : OwnIn w lo hi a n f) (hb : Below w.heap.size w w') : OwnIn w' lo hi a n f := by
  rcases h with h | ⟨b, off, h1, h2, h3, h4⟩
  · exact .inl h
  · exact .inr ⟨b, off, h1, h2, Nat.lt_of_lt_of_le h3 hb.size, fun i hi => ⟨(hb.cell (p := ⟨b, off + i, none⟩) h3).trans (h4 i hi).1, (hb.frozen (p := ⟨b, off + i, none⟩) h3).trans (h4 i hi).2⟩⟩

theorem OwnIn.alloc {w : World} {lo hi : Nat} {a : Option Addr} {n : Nat} {f : Nat → Int} (h : OwnIn w lo hi a n f) (o : Obj) : OwnIn (w.alloc o) lo hi a n f := h.below ((Below.refl _ _).alloc (Nat.le_refl _) o)

theorem OwnIn.drew {w : World} {lo hi : Nat} {a : Option Addr} {n : Nat} {f : Nat → Int} (h : OwnIn w lo hi a n f) : OwnIn w.drew lo hi a n f := h.below (Below.refl _ _).drew

theorem OwnIn.congr {w : World} {lo hi : Nat} {a : Option Addr} {n : Nat} {f g : Nat → Int} (h : OwnIn w lo hi a n f) (e : ∀ i, i < n → f i = g i) : OwnIn w lo hi a n g := by
  rcases h with h | ⟨b, off, h1, h2, h3, h4⟩
  · exact .inl h
  · exact .inr ⟨b, off, h1, h2, h3, fun i hi => by rw [← e i hi]; exact h4 i hi⟩

/-- A store into the row. -/
theorem OwnIn.stored {w : World} {lo hi b off n : Nat} {f : Nat → Int} (h : OwnIn w lo hi (some ⟨b, off, none⟩) n f) (i : Nat) (hi' : i < n) (v : Int) :
    OwnIn (w.setCell ⟨b, off + i, none⟩ (.int .i64 v)) lo hi (some ⟨b, off, none⟩) n (fun j => if j = i then v else f j) ∧ Keeps w (w.setCell ⟨b, off + i, none⟩ (.int .i64 v)) lo hi := by
  rcases h with h | ⟨b', off', h1, h2, h3, h4⟩
  · omega
  · simp only [Option.some.injEq, Addr.mk.injEq, and_true] at h1
    obtain ⟨rfl, rfl⟩ := h1
    refine ⟨.inr ⟨b, off, rfl, h2, by simpa using h3, fun j hj => ⟨?_, ?_⟩⟩, keeps_setCell h2.1 h2.2 _⟩
    · by_cases e : j = i
      · subst e
        simpa using World.cell?_setCell_same w ⟨b, off + j, none⟩ (.int .i64 v) (h4 j hj).1
      · rw [World.cell?_setCell_other _ _ _ _ (by simp; try omega), (h4 j hj).1]; simp [e]
    · rw [World.frozen?_setCell]; exact (h4 j hj).2

def RetMark (W : World) (lo hi : Nat) (a : Option Addr) (n : Nat) (k : Int) (e : Ending) (w' : World) : Prop :=
  e = .returned (.int .i64 (k + n)) ∧ OwnIn w' lo hi a n (fun i => k + i) ∧ Keeps W w' lo hi

set_option maxRecDepth 100000 in
set_option maxHeartbeats 400000 in
theorem markInts_any (a : Option Addr) (n c lo hi : Nat) (f : Nat → Int) (k : Int) (w : World) (ho : OwnIn w lo hi a n f) (hn : n ≤ 1048576) (hk0 : 0 ≤ k) (hk1 : k ≤ 1048576) :
    Calls Try.prog 23 #[.slice a n c, .int .i64 k] w (RetMark w lo hi a n k) := by
  have HO := Lib.hid ho
  clear ho
  go_enter Try.func23, Try.ntmps23
  go_wp2
  go_loopw [1, 5] (fun q p wr => ∃ i : Nat, i ≤ n ∧ p = .int .i64 i ∧ q = .int .i64 (k + i) ∧ Hid (Keeps w wr lo hi) ∧ Hid (OwnIn wr lo hi a n (fun j => if j < i then k + j else f j))) (fun _ p _ => n - (intOf p).toNat)
  case atStart => exact ⟨0, Nat.zero_le _, rfl, by simp, Keeps.refl _ _ _, by simpa using HO⟩
  case round =>
    obtain ⟨i, hi', rfl, rfl, HK, HR⟩ := hrel
    by_cases hlt : i < n
    · obtain ⟨b, off, rfl, hb, hc⟩ := src_some HR.out.src (by omega)
      have c1 := hc i hlt
      have hfz : wr.frozen? ⟨b, off + i, none⟩ = false := by
        rcases HR.out with h | ⟨b', off', h1, _, _, h4⟩
        · omega
        · simp only [Option.some.injEq, Addr.mk.injEq, and_true] at h1
          obtain ⟨rfl, rfl⟩ := h1
          exact (h4 i hlt).2
      have hst := Lib.hid (HR.out.stored i hlt (k + i))
      have hlt' : (i : Int) < (n : Int) := by omega
      clear hc
      go_wp2
      go_roundw
      case rel =>
        refine ⟨i + 1, by omega, by go_num, by go_num, HK.out.trans hst.out.2, hst.out.1.congr fun j hj => ?_⟩
        by_cases h1 : j = i
        · subst h1; simp
        · have h2 : (j < i + 1) = (j < i) := by simp only [eq_iff_iff]; omega
          simp only [h1, if_false, h2]
      case measure => simp [intOf]; omega
    · go_wp2
      go_ret
      obtain rfl : i = n := by omega
      exact ⟨rfl, HR.out.congr fun j hj => by simp [hj], HK.out⟩

set_option maxRecDepth 100000 in
set_option maxHeartbeats 400000 in
theorem heldInts_any (a : Option Addr) (n c : Nat) (k : Int) (w : World) (hs : Src w a n (fun i => k + i)) (hn : n ≤ 1048576) (hk0 : 0 ≤ k) (hk1 : k ≤ 1048576) :
    Calls Try.prog 54 #[.slice a n c, .int .i64 k] w fun e w' => e = .returned (.int .i64 (k + n)) ∧ w = w' := by
  have HS := Lib.hid hs
  clear hs
  go_enter Try.func54, Try.ntmps54
  go_wp2
  go_loop [1, 5] (fun q p => ∃ i : Nat, i ≤ n ∧ p = .int .i64 i ∧ q = .int .i64 (k + i)) (fun _ p => n - (intOf p).toNat)
  case atStart => exact ⟨0, Nat.zero_le _, rfl, by simp⟩
  case round =>
    obtain ⟨i, hi', rfl, rfl⟩ := hrel
    by_cases hlt : i < n
    · obtain ⟨b, off, rfl, hb, hc⟩ := src_some HS.out (by omega)
      have c1 := hc i hlt
      have hlt' : (i : Int) < (n : Int) := by omega
      clear hc
      go_wp2
      go_round
      case rel => exact ⟨i + 1, by omega, by go_num, by go_num⟩
      case measure => simp [intOf]; omega
    · go_wp2
      go_ret
      obtain rfl : i = n := by omega
      exact ⟨rfl, rfl⟩

set_option maxRecDepth 100000 in
set_option maxHeartbeats 400000 in
theorem markArena_any (h ac bu : Int) (a : Option Addr) (n c lo hi : Nat) (f : Nat → Int) (k : Int) (w : World) (ho : OwnIn w lo hi a n f) (hn : n ≤ 1048576) (hk0 : 0 ≤ k) (hk1 : k ≤ 1048576) :
    Calls Try.prog 22 #[.agg #[.int .i64 h, .slice a n c, .int .i64 ac, .int .i64 bu], .int .i64 k] w (RetMark w lo hi a n k) := by
  have HO := Lib.hid ho
  clear ho
  go_enter Try.func22, Try.ntmps22
  go_wp2_with (go_at_call 23; (with_reducible refine (markInts_any _ _ _ _ _ _ _ _ (HO.out.alloc _) hn hk0 hk1).mono ?_); rintro e w1 ⟨rfl, ho1, hk⟩; have HO1 := Lib.hid ho1; have HK1 := Lib.hid hk; clear ho1 hk)
  go_ret
  exact ⟨rfl, HO1.out, (keeps_of_below ((Below.refl _ _).alloc (Nat.le_refl _) _) lo hi).trans HK1.out⟩
end Go.Proofs.Ytnacdhnnpddccaa

namespace Go.Proofs.Ytnacdhnnpddccaa
open Go.RowKit
set_option linter.unusedVariables false

set_option maxRecDepth 100000 in
set_option maxHeartbeats 400000 in
theorem l1Copy_any (b : Nat) (h ac bu : Int) (a : Option Addr) (n c : Nat) (f : Nat → Int) (w : World) (hB : Blk w b [.int .i64 h, .slice a n c, .int .i64 ac, .int .i64 bu]) (hs : Src w a n f) (hp : 0 < n) (hn : n ≤ 1048576) :
    Calls Try.prog 69 #[.pointer (some ⟨b, 0, none⟩)] w (RetArena w h n f ac bu) := by
  have p0 := hB.at 0 rfl
  have p1 := hB.at 1 rfl
  have p2 := hB.at 2 rfl
  have p3 := hB.at 3 rfl
  have lp := hB.1
  have HS := Lib.hid hs
  have HP := Lib.hid hB
  clear hs hB
  go_enter Try.func69, Try.ntmps69
  go_wp2_with fail
  refine (l1Ints_any _ _ _ f _ ((HS.out.alloc _).alloc _) hp hn).mono ?_
  rintro e w1 ⟨u, cu, rfl, ho, hb, hcu, hcm, hnu⟩
  have HB1 : Hid (Below w.heap.size w w1) := thru2 (Below.refl _ _) hb
  have HO : Hid (Own w1 (w.heap.size + 2) u n f) := ho.mono (by simp)
  have HN := Lib.hid hnu
  have HR := Lib.hid (((Blk.new_at (w.heap.size) rfl).alloc _).below hb)
  have HT := Lib.hid ((Blk.new_at (w.heap.size + 1) (by simp)).below hb)
  clear hb ho hnu p0 p1 p2 p3
  have cR0 := HR.out.at 0 rfl; have cR1 := HR.out.at 1 rfl; have cR2 := HR.out.at 2 rfl; have cR3 := HR.out.at 3 rfl; have fR0 := HR.out.free 0 rfl; have fR1 := HR.out.free 1 rfl; have fR2 := HR.out.free 2 rfl; have fR3 := HR.out.free 3 rfl
  have cT0 := HT.out.at 0 rfl; have cT1 := HT.out.at 1 rfl; have cT2 := HT.out.at 2 rfl; have cT3 := HT.out.at 3 rfl; have fT1 := HT.out.free 1 rfl
  go_wp2
  refine bodyPost_ret (v := .agg #[.int .i64 h, .slice u n cu, .int .i64 ac, .int .i64 bu]) (by simp [results, Try.results69, go_sem, cR0, cR1, cR2, cR3]) rfl ⟨u, cu, rfl, ?_, ?_, hcu, hcm, HN.out⟩
  · refine Own.mono (B := w.heap.size + 2) ?_ (by omega)
    repeat (with_reducible refine Own.setCell ?_ (by (try simp); (try omega)) _)
    exact HO.out
  · repeat (with_reducible refine Below.setCell ?_ (by (try simp); (try omega)) _)
    exact HB1.out

/-- Two halves of m words each, in blocks from lo to mid and from mid to hi: together F. -/
def Halves (w : World) (lo mid hi : Nat) (a1 a2 : Option Addr) (m : Nat) (F : Nat → Int) : Prop :=
  OwnIn w lo mid a1 m F ∧ OwnIn w mid hi a2 m (fun i => F (m + i))

theorem OwnIn.setCell {w : World} {lo hi : Nat} {a : Option Addr} {n : Nat} {f : Nat → Int} (h : OwnIn w lo hi a n f) {p : Addr} (hp : p.block < lo ∨ hi ≤ p.block) (u : Value) : OwnIn (w.setCell p u) lo hi a n f :=
  h.keeps (keeps_setCell (Nat.le_refl p.block) (Nat.lt_succ_self _) u) (by omega)

theorem OwnIn.out {w : World} {lo hi : Nat} {a : Option Addr} {n : Nat} {f : Nat → Int} (h : OwnIn w lo hi a n f) : Own w lo a n f := by
  rcases h with h | ⟨b, off, h1, h2, h3, h4⟩
  · exact .inl h
  · exact .inr ⟨b, off, h1, h2.1, h3, h4⟩

theorem OwnIn.widen {w : World} {lo hi lo' hi' : Nat} {a : Option Addr} {n : Nat} {f : Nat → Int} (h : OwnIn w lo hi a n f) (h1 : lo' ≤ lo) (h2 : hi ≤ hi') : OwnIn w lo' hi' a n f := by
  rcases h with h | ⟨b, off, g1, g2, g3, g4⟩
  · exact .inl h
  · exact .inr ⟨b, off, g1, by omega, g3, g4⟩

def upd (f : Nat → Int) (k : Nat) (v : Int) : Nat → Int := fun i => if i = k then v else f i

theorem Keeps.widen {w w' : World} {lo hi lo' hi' : Nat} (h : Keeps w w' lo hi) (h1 : lo' ≤ lo) (h2 : hi ≤ hi') : Keeps w w' lo' hi' :=
  ⟨h.os, h.tape, h.output, h.size, fun k hk hd => h.block k hk (by omega)⟩

theorem Halves.below {w w' : World} {lo mid hi : Nat} {a1 a2 : Option Addr} {m : Nat} {F : Nat → Int} (h : Halves w lo mid hi a1 a2 m F) (hb : Below w.heap.size w w') : Halves w' lo mid hi a1 a2 m F := ⟨h.1.below hb, h.2.below hb⟩

theorem Halves.alloc {w : World} {lo mid hi : Nat} {a1 a2 : Option Addr} {m : Nat} {F : Nat → Int} (h : Halves w lo mid hi a1 a2 m F) (o : Obj) : Halves (w.alloc o) lo mid hi a1 a2 m F := ⟨h.1.alloc o, h.2.alloc o⟩

theorem Src.keeps {w w' : World} {lo' hi' : Nat} {a : Option Addr} {n : Nat} {f : Nat → Int} (h : Src w a n f) (hk : Keeps w w' lo' hi') (hd : ∀ b off, a = some ⟨b, off, none⟩ → b < lo' ∨ hi' ≤ b) : Src w' a n f := by
  rcases h with h | ⟨b, off, h1, h3, h4⟩
  · exact .inl h
  · have e := hk.block b h3 (hd b off h1)
    exact .inr ⟨b, off, h1, Nat.lt_of_lt_of_le h3 hk.size, fun i hi => (World.cell?_of_block (w := w) (a := ⟨b, off + i, none⟩) e).trans (h4 i hi)⟩
end Go.Proofs.Ytnacdhnnpddccaa

namespace Go.Proofs.Ytnacdhnnpddccaa
open Go.RowKit
set_option linter.unusedVariables false

/-- The bytes of a code, in a block below S. -/
def SrcB (w : World) (S : Nat) (a : Option Addr) (k : Nat) (B : Nat → Int) : Prop :=
  k = 0 ∨ ∃ b off, a = some ⟨b, off, none⟩ ∧ b < S ∧ b < w.heap.size ∧ ∀ i, i < k → w.cell? ⟨b, off + i, none⟩ = some (.int .u8 (B i)) ∧ 0 ≤ B i ∧ B i ≤ 255

theorem SrcB.keeps {w w' : World} {S lo hi : Nat} {a : Option Addr} {k : Nat} {B : Nat → Int} (h : SrcB w S a k B) (hk : Keeps w w' lo hi) (hS : S ≤ lo) : SrcB w' S a k B := by
  rcases h with h | ⟨b, off, h1, h2, h3, h4⟩
  · exact .inl h
  · have e := hk.block b h3 (.inl (by omega))
    exact .inr ⟨b, off, h1, h2, Nat.lt_of_lt_of_le h3 hk.size, fun i hi => ⟨(World.cell?_of_block (w := w) (a := ⟨b, off + i, none⟩) e).trans (h4 i hi).1, (h4 i hi).2⟩⟩

theorem SrcB.below {w w' : World} {S : Nat} {a : Option Addr} {k : Nat} {B : Nat → Int} (h : SrcB w S a k B) (hb : Below w.heap.size w w') : SrcB w' S a k B := by
  rcases h with h | ⟨b, off, h1, h2, h3, h4⟩
  · exact .inl h
  · exact .inr ⟨b, off, h1, h2, Nat.lt_of_lt_of_le h3 hb.size, fun i hi => ⟨(hb.cell (p := ⟨b, off + i, none⟩) h3).trans (h4 i hi).1, (h4 i hi).2⟩⟩

theorem SrcB.alloc {w : World} {S : Nat} {a : Option Addr} {k : Nat} {B : Nat → Int} (h : SrcB w S a k B) (o : Obj) : SrcB (w.alloc o) S a k B := h.below ((Below.refl _ _).alloc (Nat.le_refl _) o)

theorem SrcB.drew {w : World} {S : Nat} {a : Option Addr} {k : Nat} {B : Nat → Int} (h : SrcB w S a k B) : SrcB w.drew S a k B := h.below (Below.refl _ _).drew

theorem Keeps.alloc {w w1 : World} {lo hi : Nat} (h : Keeps w w1 lo hi) (o : Obj) : Keeps w (w1.alloc o) lo hi := h.trans (keeps_of_below ((Below.refl _ _).alloc (Nat.le_refl _) o) lo hi)

theorem Keeps.drew {w w1 : World} {lo hi : Nat} (h : Keeps w w1 lo hi) : Keeps w w1.drew lo hi := h.trans (keeps_of_below (Below.refl _ _).drew lo hi)

theorem SrcB.setCell {w : World} {S : Nat} {a : Option Addr} {k : Nat} {B : Nat → Int} (h : SrcB w S a k B) {p : Addr} (hp : S ≤ p.block) (u : Value) : SrcB (w.setCell p u) S a k B :=
  h.keeps (keeps_setCell (Nat.le_refl p.block) (Nat.lt_succ_self _) u) hp
end Go.Proofs.Ytnacdhnnpddccaa

namespace Go.Proofs.Ytnacdhnnpddccaa
open Go.RowKit
set_option linter.unusedVariables false

theorem SrcB.mono {w : World} {S S' : Nat} {a : Option Addr} {k : Nat} {B : Nat → Int} (h : SrcB w S a k B) (hS : S ≤ S') : SrcB w S' a k B := by
  rcases h with h | ⟨b, off, h1, h2, h3, h4⟩
  · exact .inl h
  · exact .inr ⟨b, off, h1, by omega, h3, h4⟩
end Go.Proofs.Ytnacdhnnpddccaa

namespace Go.Proofs.Ytnacdhnnpddccaa
open Go.RowKit
set_option linter.unusedVariables false

/-- 2 to the power of a number. -/
def P2 (s : Int) : Int := 2 ^ s.toNat

theorem P2_succ (i : Nat) : P2 ((i : Int) + 1) = P2 i * 2 := by
  unfold P2
  have : ((i : Int) + 1).toNat = (i : Int).toNat + 1 := by omega
  rw [this, Int.pow_succ]

theorem P2_pos (s : Int) : 1 ≤ P2 s := by
  unfold P2
  have : (0 : Int) < 2 ^ s.toNat := Int.pow_pos (by omega)
  omega

theorem P2_le {s : Int} (h : s ≤ 12) : P2 s ≤ 4096 := by
  unfold P2
  have h1 : s.toNat ≤ 12 := by omega
  have : (2 : Nat) ^ s.toNat ≤ 2 ^ 12 := Nat.pow_le_pow_right (by omega) h1
  have e : ((2 ^ s.toNat : Nat) : Int) = (2 : Int) ^ s.toNat := by simp
  rw [← e]; omega

set_option maxRecDepth 100000 in
set_option maxHeartbeats 400000 in
theorem power_any (n : Nat) (w : World) (hn : n ≤ 12) :
    Calls Try.prog 113 #[.int .i64 (n : Int)] w fun e w' => e = .returned (.int .i64 (P2 n)) ∧ w = w' := by
  go_enter Try.func113, Try.ntmps113
  go_wp2
  go_loop [3, 0] (fun q p => ∃ i : Nat, i ≤ n ∧ q = .int .i64 (P2 i) ∧ p = .int .i64 ((n : Int) - i)) (fun _ p => (intOf p).toNat)
  case atStart => exact ⟨0, Nat.zero_le _, rfl, by simp⟩
  case round =>
    obtain ⟨i, hi, rfl, rfl⟩ := hrel
    by_cases hlt : i < n
    · have h1 : 0 < (n : Int) - (i : Int) := by omega
      have h2 := P2_pos i
      have h3 := P2_le (s := (i : Int)) (by omega)
      go_wp2
      go_round
      case rel => exact ⟨i + 1, by omega, by rw [Int.natCast_succ, P2_succ], by simp; omega⟩
      case measure => simp [intOf]; omega
    · obtain rfl : i = n := by omega
      go_wp2
      go_ret
      exact ⟨rfl, rfl⟩
end Go.Proofs.Ytnacdhnnpddccaa

namespace Go.Proofs.Ytnacdhnnpddccaa
open Go.RowKit
set_option linter.unusedVariables false

theorem b3_blk {V : World} {B o : Nat} {cs : List Value} {v l g : Int} (hB : Blk V B cs) (h1 : cs[o]? = some (.int .i64 v)) (h2 : cs[o + 1]? = some (.int .i64 l)) (h3 : cs[o + 2]? = some (.int .i64 g)) : B3 V B o v l g :=
  ⟨hB.at o h1, hB.at (o + 1) h2, hB.at (o + 2) h3⟩

/-- isOutside, of three bounds in a block that is known. -/
theorem isOut3b (B : Nat) (V : World) (v0 l0 g0 v1 l1 g1 v2 l2 g2 : Int) (r : Bool) (hB : Blk V B [.int .i64 v0, .int .i64 l0, .int .i64 g0, .int .i64 v1, .int .i64 l1, .int .i64 g1, .int .i64 v2, .int .i64 l2, .int .i64 g2])
    (hr : (r = false ∧ (l0 ≤ v0 ∧ v0 ≤ g0) ∧ (l1 ≤ v1 ∧ v1 ≤ g1) ∧ (l2 ≤ v2 ∧ v2 ≤ g2)) ∨ (r = true ∧ ¬ ((l0 ≤ v0 ∧ v0 ≤ g0) ∧ (l1 ≤ v1 ∧ v1 ≤ g1) ∧ (l2 ≤ v2 ∧ v2 ≤ g2)))) :
    Calls Try.prog 78 #[.slice (some ⟨B, 0, none⟩) 3 3] V (RetBool V r) := by
  have hB3 : ∀ i, i < 3 → B3 V B (i * 3) (pick3 v0 v1 v2 i) (pick3 l0 l1 l2 i) (pick3 g0 g1 g2 i) := by
    intro i hi
    match i, hi with
    | 0, _ => exact b3_blk hB rfl rfl rfl
    | 1, _ => exact b3_blk hB rfl rfl rfl
    | 2, _ => exact b3_blk hB rfl rfl rfl
  rcases hr with ⟨rfl, hr⟩ | ⟨rfl, hr⟩
  · refine isOut_no B 3 _ _ _ _ (by omega) hB.1 hB3 (fun i hi => ?_)
    match i, hi with
    | 0, _ => exact hr.1
    | 1, _ => exact hr.2.1
    | 2, _ => exact hr.2.2
  · refine isOut_yes B 3 _ _ _ _ (by omega) hB.1 hB3 ?_
    by_cases h0 : l0 ≤ v0 ∧ v0 ≤ g0
    · by_cases h1 : l1 ≤ v1 ∧ v1 ≤ g1
      · exact ⟨2, by omega, fun h2 => hr ⟨h0, h1, h2⟩⟩
      · exact ⟨1, by omega, h1⟩
    · exact ⟨0, by omega, h0⟩

/-- What a head is. -/
def HOk (s m o h : Int) : Prop := (0 ≤ s ∧ s ≤ 12) ∧ (0 ≤ m ∧ m ≤ P2 s - 1) ∧ (0 ≤ o ∧ o ≤ 3) ∧ (0 ≤ h ∧ h ≤ 99999)

def IsHF (s m o h k : Int) : Prop := (HOk s m o h ∧ k = 0) ∨ (¬ HOk s m o h ∧ k = 3)

set_option maxRecDepth 100000 in
set_option maxHeartbeats 400000 in
theorem implHF_size (s m o h : Int) (w : World) (h0 : ¬ (0 ≤ s ∧ s ≤ 12)) :
    Calls Try.prog 126 #[.agg #[.int .i64 s, .int .i64 m, .int .i64 o, .int .i64 h]] w (RetInt w 3) := by
  have H0 := Lib.hid h0
  clear h0
  go_enter Try.func126, Try.ntmps126
  go_wp2_with (go_at_call 78; (with_reducible refine (isOut1 _ _ _ _ _ true (by simp) (.inr ⟨rfl, H0.out⟩)).mono ?_); rintro e w1 ⟨rfl, hb⟩; obtain ⟨hc, hf⟩ := bcell hb; have HB := Lib.hid hb; have hz := hb.size; clear hb)
  go_ret
  exact ⟨rfl, (((Below.refl _ _).alloc (Nat.le_refl _) _).alloc (by simp) _).trans (HB.out.mono (by simp; try omega))⟩

set_option maxRecDepth 100000 in
set_option maxHeartbeats 800000 in
theorem implHF_rest (s m o h : Int) (r : Bool) (k : Int) (w : World) (h0 : 0 ≤ s ∧ s ≤ 12)
    (hr : (r = false ∧ (0 ≤ m ∧ m ≤ P2 s - 1) ∧ (0 ≤ o ∧ o ≤ 3) ∧ (0 ≤ h ∧ h ≤ 99999)) ∨ (r = true ∧ ¬ ((0 ≤ m ∧ m ≤ P2 s - 1) ∧ (0 ≤ o ∧ o ≤ 3) ∧ (0 ≤ h ∧ h ≤ 99999)))) (hk : k = if r then 3 else 0) :
    Calls Try.prog 126 #[.agg #[.int .i64 s, .int .i64 m, .int .i64 o, .int .i64 h]] w (RetInt w k) := by
  have H0 := Lib.hid h0
  have p1 := P2_pos s
  have p2 := P2_le h0.2
  have hwr : IntKind.i64.wrap (IntKind.i64.wrap (P2 s) - 1) = P2 s - 1 := by
    rw [IntWalk.i64_in (P2 s) (by omega), IntWalk.i64_in _ (by omega)]
  have HR : Hid ((r = false ∧ (0 ≤ m ∧ m ≤ IntKind.i64.wrap (IntKind.i64.wrap (P2 s) - 1)) ∧ (0 ≤ o ∧ o ≤ 3) ∧ (0 ≤ h ∧ h ≤ 99999)) ∨ (r = true ∧ ¬ ((0 ≤ m ∧ m ≤ IntKind.i64.wrap (IntKind.i64.wrap (P2 s) - 1)) ∧ (0 ≤ o ∧ o ≤ 3) ∧ (0 ≤ h ∧ h ≤ 99999)))) := by rw [hwr]; exact hr
  have HK := Lib.hid hk
  obtain ⟨q1, q2⟩ := h0
  have hmin : min s.toNat 64 = s.toNat := by omega
  have hpow : (2 : Int) ^ s.toNat = P2 s := rfl
  clear hr hk hwr
  go_enter Try.func126, Try.ntmps126
  go_wp2_with (go_at_call 78; (with_reducible refine (isOut1 _ _ _ _ _ false (by simp) (.inl ⟨rfl, H0.out⟩)).mono ?_); rintro e w1 ⟨rfl, hb⟩; have HB : Hid (Below w.heap.size w w1) := (((Below.refl _ _).alloc (Nat.le_refl _) _).alloc (by simp) _).trans (hb.mono (by simp; try omega)); have HH : Hid (Blk w1 w.heap.size [.int .i64 s, .int .i64 m, .int .i64 o, .int .i64 h]) := ((Blk.new_at (w.heap.size) rfl).alloc _).below hb; clear hb)
  have lH := HH.out.1
  have HHd := Lib.hid HH.out.drew
  have HBz : w.heap.size ≤ w1.heap.size := HB.out.size
  go_region_held3 (fun w' => w'.cell? ⟨w.heap.size, 0, none⟩ = some (.int .i64 s) ∧ w'.cell? ⟨w.heap.size, 1, none⟩ = some (.int .i64 m) ∧ w'.cell? ⟨w.heap.size, 2, none⟩ = some (.int .i64 o) ∧ w'.cell? ⟨w.heap.size, 3, none⟩ = some (.int .i64 h))
    (first | (with_reducible exact ⟨(HH.out).at 0 rfl, (HH.out).at 1 rfl, (HH.out).at 2 rfl, (HH.out).at 3 rfl⟩) | (with_reducible exact ⟨(HHd.out).at 0 rfl, (HHd.out).at 1 rfl, (HHd.out).at 2 rfl, (HHd.out).at 3 rfl⟩) | (with_reducible exact ⟨((HH.out.alloc _).drew).at 0 rfl, ((HH.out.alloc _).drew).at 1 rfl, ((HH.out.alloc _).drew).at 2 rfl, ((HH.out.alloc _).drew).at 3 rfl⟩) | (with_reducible exact ⟨(HH2.out).at 0 rfl, (HH2.out).at 1 rfl, (HH2.out).at 2 rfl, (HH2.out).at 3 rfl⟩))
    (first | (go_at_call 78; (with_reducible refine (isOut3b _ _ _ _ _ _ _ _ _ _ _ r (Blk.new_at (w1.heap.size) rfl).drew HR.out).mono ?_); rintro e w2 ⟨rfl, hb⟩; have HB2 : Hid (Below w.heap.size w w2) := ((HB.out.alloc HBz _).drew).trans (hb.mono (by simp; omega)); have HH2 := Lib.hid (((HH.out.alloc _).drew).below hb); clear hb))
  cases r
  · have hk : k = 0 := HK.out
    subst hk
    go_wp2
    go_ret
    exact ⟨rfl, HB2.out⟩
  · have hk : k = 3 := HK.out
    subst hk
    go_wp2
    go_ret
    exact ⟨rfl, HB2.out⟩

theorem implHF_any (s m o h k : Int) (w : World) (hk : IsHF s m o h k) : Calls Try.prog 126 #[.agg #[.int .i64 s, .int .i64 m, .int .i64 o, .int .i64 h]] w (RetInt w k) := by
  by_cases h0 : 0 ≤ s ∧ s ≤ 12
  · rcases hk with ⟨⟨_, h1⟩, rfl⟩ | ⟨h1, rfl⟩
    · exact implHF_rest s m o h false 0 w h0 (.inl ⟨rfl, h1⟩) rfl
    · exact implHF_rest s m o h true 3 w h0 (.inr ⟨rfl, fun x => h1 ⟨h0, x⟩⟩) rfl
  · rcases hk with ⟨⟨h1, _⟩, _⟩ | ⟨_, rfl⟩
    · exact absurd h1 h0
    · exact implHF_size s m o h w h0

set_option maxRecDepth 100000 in
set_option maxHeartbeats 800000 in
theorem specHF_s (s m o h : Int) (w : World) (hs : ¬ (0 ≤ s ∧ s ≤ 12)) : Calls Try.prog 105 #[.agg #[.int .i64 s, .int .i64 m, .int .i64 o, .int .i64 h]] w (RetInt w 3) := by
  go_enter Try.func105, Try.ntmps105
  go_wp2_with fail
  go_quiet (first | (with_reducible exact Calls.quiet_of_same (Calls.mono (l1In_no s 0 12 _ hs) fun _ _ hh => ⟨hh.1, hh.2.symm⟩)))
  go_wp2
  go_ret
  exact ⟨rfl, below_drewN ((Below.refl _ _).alloc (Nat.le_refl _) _) _⟩

set_option maxRecDepth 100000 in
set_option maxHeartbeats 800000 in
theorem specHF_m (S : Nat) (m o h : Int) (w : World) (hS : S ≤ 12) (hm : ¬ (0 ≤ m ∧ m ≤ P2 S - 1)) : Calls Try.prog 105 #[.agg #[.int .i64 (S : Int), .int .i64 m, .int .i64 o, .int .i64 h]] w (RetInt w 3) := by
  have p1 := P2_pos (S : Int)
  have p2 := P2_le (s := (S : Int)) (by omega)
  have hwr : IntKind.i64.wrap (P2 (S : Int) - 1) = P2 S - 1 := IntWalk.i64_in _ (by omega)
  go_enter Try.func105, Try.ntmps105
  go_wp2_with fail
  go_quiet (first | (with_reducible exact Calls.quiet_of_same (Calls.mono (l1In_yes (S : Int) 0 12 _ (by omega) (by omega)) fun _ _ hh => ⟨hh.1, hh.2.symm⟩)) | (with_reducible exact Calls.quiet_of_same (Calls.mono (l1In_no m 0 (P2 (S : Int) - 1) _ hm) fun _ _ hh => ⟨hh.1, hh.2.symm⟩)) | (with_reducible exact Calls.quiet_of_same (Calls.mono (power_any S _ hS) fun _ _ hh => ⟨hh.1, hh.2.symm⟩)))
  go_wp2
  go_ret
  exact ⟨rfl, below_drewN ((Below.refl _ _).alloc (Nat.le_refl _) _) _⟩

set_option maxRecDepth 100000 in
set_option maxHeartbeats 800000 in
theorem specHF_o (S : Nat) (m o h : Int) (w : World) (hS : S ≤ 12) (hm : 0 ≤ m ∧ m ≤ P2 S - 1) (ho : ¬ (0 ≤ o ∧ o ≤ 3)) : Calls Try.prog 105 #[.agg #[.int .i64 (S : Int), .int .i64 m, .int .i64 o, .int .i64 h]] w (RetInt w 3) := by
  have p1 := P2_pos (S : Int)
  have p2 := P2_le (s := (S : Int)) (by omega)
  have hwr : IntKind.i64.wrap (P2 (S : Int) - 1) = P2 S - 1 := IntWalk.i64_in _ (by omega)
  go_enter Try.func105, Try.ntmps105
  go_wp2_with fail
  go_quiet (first | (with_reducible exact Calls.quiet_of_same (Calls.mono (l1In_yes (S : Int) 0 12 _ (by omega) (by omega)) fun _ _ hh => ⟨hh.1, hh.2.symm⟩)) | (with_reducible exact Calls.quiet_of_same (Calls.mono (l1In_yes m 0 (P2 (S : Int) - 1) _ hm.1 hm.2) fun _ _ hh => ⟨hh.1, hh.2.symm⟩)) | (with_reducible exact Calls.quiet_of_same (Calls.mono (l1In_no o 0 3 _ ho) fun _ _ hh => ⟨hh.1, hh.2.symm⟩)) | (with_reducible exact Calls.quiet_of_same (Calls.mono (power_any S _ hS) fun _ _ hh => ⟨hh.1, hh.2.symm⟩)))
  go_wp2
  go_ret
  exact ⟨rfl, below_drewN ((Below.refl _ _).alloc (Nat.le_refl _) _) _⟩

set_option maxRecDepth 100000 in
set_option maxHeartbeats 800000 in
theorem specHF_h (S : Nat) (m o h : Int) (w : World) (hS : S ≤ 12) (hm : 0 ≤ m ∧ m ≤ P2 S - 1) (ho : 0 ≤ o ∧ o ≤ 3) (hh : ¬ (0 ≤ h ∧ h ≤ 99999)) : Calls Try.prog 105 #[.agg #[.int .i64 (S : Int), .int .i64 m, .int .i64 o, .int .i64 h]] w (RetInt w 3) := by
  have p1 := P2_pos (S : Int)
  have p2 := P2_le (s := (S : Int)) (by omega)
  have hwr : IntKind.i64.wrap (P2 (S : Int) - 1) = P2 S - 1 := IntWalk.i64_in _ (by omega)
  go_enter Try.func105, Try.ntmps105
  go_wp2_with fail
  go_quiet (first | (with_reducible exact Calls.quiet_of_same (Calls.mono (l1In_yes (S : Int) 0 12 _ (by omega) (by omega)) fun _ _ hh => ⟨hh.1, hh.2.symm⟩)) | (with_reducible exact Calls.quiet_of_same (Calls.mono (l1In_yes m 0 (P2 (S : Int) - 1) _ hm.1 hm.2) fun _ _ hh => ⟨hh.1, hh.2.symm⟩)) | (with_reducible exact Calls.quiet_of_same (Calls.mono (l1In_yes o 0 3 _ ho.1 ho.2) fun _ _ hh => ⟨hh.1, hh.2.symm⟩)) | (with_reducible exact Calls.quiet_of_same (Calls.mono (l1In_no h 0 99999 _ hh) fun _ _ hh => ⟨hh.1, hh.2.symm⟩)) | (with_reducible exact Calls.quiet_of_same (Calls.mono (power_any S _ hS) fun _ _ hh => ⟨hh.1, hh.2.symm⟩)))
  go_wp2
  go_ret
  exact ⟨rfl, below_drewN ((Below.refl _ _).alloc (Nat.le_refl _) _) _⟩

set_option maxRecDepth 100000 in
set_option maxHeartbeats 800000 in
theorem specHF_ok (S : Nat) (m o h : Int) (w : World) (hS : S ≤ 12) (hm : 0 ≤ m ∧ m ≤ P2 S - 1) (ho : 0 ≤ o ∧ o ≤ 3) (hh : 0 ≤ h ∧ h ≤ 99999) : Calls Try.prog 105 #[.agg #[.int .i64 (S : Int), .int .i64 m, .int .i64 o, .int .i64 h]] w (RetInt w 0) := by
  have p1 := P2_pos (S : Int)
  have p2 := P2_le (s := (S : Int)) (by omega)
  have hwr : IntKind.i64.wrap (P2 (S : Int) - 1) = P2 S - 1 := IntWalk.i64_in _ (by omega)
  go_enter Try.func105, Try.ntmps105
  go_wp2_with fail
  go_quiet (first | (with_reducible exact Calls.quiet_of_same (Calls.mono (l1In_yes (S : Int) 0 12 _ (by omega) (by omega)) fun _ _ hh => ⟨hh.1, hh.2.symm⟩)) | (with_reducible exact Calls.quiet_of_same (Calls.mono (l1In_yes m 0 (P2 (S : Int) - 1) _ hm.1 hm.2) fun _ _ hh => ⟨hh.1, hh.2.symm⟩)) | (with_reducible exact Calls.quiet_of_same (Calls.mono (l1In_yes o 0 3 _ ho.1 ho.2) fun _ _ hh => ⟨hh.1, hh.2.symm⟩)) | (with_reducible exact Calls.quiet_of_same (Calls.mono (l1In_yes h 0 99999 _ hh.1 hh.2) fun _ _ hh => ⟨hh.1, hh.2.symm⟩)) | (with_reducible exact Calls.quiet_of_same (Calls.mono (power_any S _ hS) fun _ _ hh => ⟨hh.1, hh.2.symm⟩)))
  go_wp2
  go_ret
  exact ⟨rfl, below_drewN ((Below.refl _ _).alloc (Nat.le_refl _) _) _⟩

theorem specHF_any (s m o h k : Int) (w : World) (hk : IsHF s m o h k) : Calls Try.prog 105 #[.agg #[.int .i64 s, .int .i64 m, .int .i64 o, .int .i64 h]] w (RetInt w k) := by
  by_cases h0 : 0 ≤ s ∧ s ≤ 12
  · obtain ⟨S, rfl⟩ : ∃ S : Nat, s = S := ⟨s.toNat, by omega⟩
    have hS : S ≤ 12 := by omega
    rcases hk with ⟨⟨_, h1, h2, h3⟩, rfl⟩ | ⟨hn, rfl⟩
    · exact specHF_ok S m o h w hS h1 h2 h3
    · by_cases h1 : 0 ≤ m ∧ m ≤ P2 S - 1
      · by_cases h2 : 0 ≤ o ∧ o ≤ 3
        · exact specHF_h S m o h w hS h1 h2 (fun h3 => hn ⟨h0, h1, h2, h3⟩)
        · exact specHF_o S m o h w hS h1 h2
      · exact specHF_m S m o h w hS h1
  · rcases hk with ⟨⟨h1, _⟩, _⟩ | ⟨_, rfl⟩
    · exact absurd h1 h0
    · exact specHF_s s m o h w h0
end Go.Proofs.Ytnacdhnnpddccaa

namespace Go.Proofs.Ytnacdhnnpddccaa
open Go.RowKit
set_option linter.unusedVariables false

/-- What WordsOf answers. -/
def IsWO (s m o h c v : Int) : Prop := (HOk s m o h ∧ c = 0 ∧ v = s + 2) ∨ (¬ HOk s m o h ∧ c = 3 ∧ v = 0)

/-- What ForwardWord answers. -/
def IsFW (at_ c v : Int) : Prop := ((0 ≤ at_ ∧ at_ ≤ 399) ∧ c = 0 ∧ v = 2 * at_ + 2) ∨ (¬ (0 ≤ at_ ∧ at_ ≤ 399) ∧ c = 3 ∧ v = 0)

set_option maxRecDepth 100000 in
set_option maxHeartbeats 400000 in
theorem l2Words_any (b : Nat) (s m o h : Int) (w : World) (hB : Blk w b [.int .i64 s, .int .i64 m, .int .i64 o, .int .i64 h]) (h0 : 0 ≤ s ∧ s ≤ 12) :
    Calls Try.prog 87 #[.pointer (some ⟨b, 0, none⟩)] w fun e w' => e = .returned (.int .i64 (s + 2)) ∧ w = w' := by
  have c0 := hB.at 0 rfl
  obtain ⟨h1, h2⟩ := h0
  clear hB
  go_enter Try.func87, Try.ntmps87
  go_wp2
  go_ret
  exact ⟨rfl, rfl⟩

set_option maxRecDepth 100000 in
set_option maxHeartbeats 800000 in
theorem implWO_no (s m o h : Int) (w : World) (hk : ¬ HOk s m o h) :
    Calls Try.prog 114 #[.agg #[.int .i64 s, .int .i64 m, .int .i64 o, .int .i64 h]] w (RetPair w 3 0) := by
  have hk' : IsHF s m o h 3 := .inr ⟨hk, rfl⟩
  have HK := Lib.hid hk'
  clear hk'
  go_enter Try.func114, Try.ntmps114
  go_wp2_with fail
  refine (implHF_any s m o h 3 _ HK.out).mono ?_
  rintro e w1 ⟨rfl, hb⟩
  have HB1 : Hid (Below w.heap.size w w1) := thru2 (Below.refl _ _) hb
  have z1 : w.heap.size + 2 ≤ w1.heap.size := by have := hb.size; simp at this; omega
  have H_1 := Lib.hid (((Blk.new_at (w.heap.size) (by simp)).alloc _).below hb)
  have R_1 := Lib.hid ((Blk.new_at (w.heap.size + 1) (by simp)).below hb)
  clear hb
  have lR := R_1.out.1
  have cR0 := R_1.out.at 0 rfl
  have cR1 := R_1.out.at 1 rfl
  have fR0 := R_1.out.free 0 rfl
  have fR1 := R_1.out.free 1 rfl
  go_wp2
  have hz := HB1.out.size
  refine bodyPost_ret (v := .agg #[.int .i64 3, .int .i64 0]) (by simp [results, Try.results114, go_sem, cR0, cR1]) rfl ⟨rfl, ?_⟩
  repeat (with_reducible refine Below.setCell ?_ (by (try simp); (try omega)) _)
  exact HB1.out

set_option maxRecDepth 100000 in
set_option maxHeartbeats 800000 in
theorem implWO_yes (s m o h : Int) (w : World) (hk : HOk s m o h) :
    Calls Try.prog 114 #[.agg #[.int .i64 s, .int .i64 m, .int .i64 o, .int .i64 h]] w (RetPair w 0 (s + 2)) := by
  have hk' : IsHF s m o h 0 := .inl ⟨hk, rfl⟩
  have h0 := hk.1
  have h1 := h0.1
  have h2 := h0.2
  have HK := Lib.hid hk'
  clear hk'
  go_enter Try.func114, Try.ntmps114
  go_wp2_with fail
  refine (implHF_any s m o h 0 _ HK.out).mono ?_
  rintro e w1 ⟨rfl, hb⟩
  have HB1 : Hid (Below w.heap.size w w1) := thru2 (Below.refl _ _) hb
  have z1 : w.heap.size + 2 ≤ w1.heap.size := by have := hb.size; simp at this; omega
  have H_1 := Lib.hid (((Blk.new_at (w.heap.size) (by simp)).alloc _).below hb)
  have R_1 := Lib.hid ((Blk.new_at (w.heap.size + 1) (by simp)).below hb)
  clear hb
  have lR := R_1.out.1
  have cR0 := R_1.out.at 0 rfl
  have cR1 := R_1.out.at 1 rfl
  have lH := H_1.out.1
  have cH0 := H_1.out.at 0 rfl
  have fR0 := R_1.out.free 0 rfl
  have fR1 := R_1.out.free 1 rfl
  go_wp2
  have hz := HB1.out.size
  refine bodyPost_ret (v := .agg #[.int .i64 0, .int .i64 (s + 2)]) (by simp [results, Try.results114, go_sem, cR0, cR1]) rfl ⟨rfl, ?_⟩
  repeat (with_reducible refine Below.setCell ?_ (by (try simp); (try omega)) _)
  exact HB1.out

theorem implWO_any (s m o h c v : Int) (w : World) (hk : IsWO s m o h c v) : Calls Try.prog 114 #[.agg #[.int .i64 s, .int .i64 m, .int .i64 o, .int .i64 h]] w (RetPair w c v) := by
  rcases hk with ⟨h1, rfl, rfl⟩ | ⟨h1, rfl, rfl⟩
  · exact implWO_yes s m o h w h1
  · exact implWO_no s m o h w h1

set_option maxRecDepth 100000 in
set_option maxHeartbeats 800000 in
theorem implFW_yes (a : Int) (w : World) (h0 : 0 ≤ a ∧ a ≤ 399) :
    Calls Try.prog 109 #[.int .i64 a] w (RetPair w 0 (2 * a + 2)) := by
  have H0 := Lib.hid h0
  obtain ⟨h1, h2⟩ := h0
  go_enter Try.func109, Try.ntmps109
  go_wp2_with fail
  refine (isOut1 _ _ _ _ _ false (by simp) (.inl ⟨rfl, H0.out⟩)).mono ?_
  rintro e w1 ⟨rfl, hb⟩
  have HB1 : Hid (Below w.heap.size w w1) := thru2 (Below.refl _ _) hb
  have z1 : w.heap.size + 2 ≤ w1.heap.size := by have := hb.size; simp at this; omega
  have R_1 := Lib.hid (((Blk.new_at (w.heap.size) (by simp)).alloc _).below hb)
  clear hb
  have lR := R_1.out.1
  have cR0 := R_1.out.at 0 rfl
  have cR1 := R_1.out.at 1 rfl
  have fR0 := R_1.out.free 0 rfl
  have fR1 := R_1.out.free 1 rfl
  go_wp2
  have hz := HB1.out.size
  refine bodyPost_ret (v := .agg #[.int .i64 0, .int .i64 (2 * a + 2)]) (by simp [results, Try.results109, go_sem, cR0, cR1]) rfl ⟨rfl, ?_⟩
  repeat (with_reducible refine Below.setCell ?_ (by (try simp); (try omega)) _)
  exact HB1.out

set_option maxRecDepth 100000 in
set_option maxHeartbeats 800000 in
theorem implFW_no (a : Int) (w : World) (h0 : ¬ (0 ≤ a ∧ a ≤ 399)) :
    Calls Try.prog 109 #[.int .i64 a] w (RetPair w 3 0) := by
  have H0 := Lib.hid h0
  clear h0
  go_enter Try.func109, Try.ntmps109
  go_wp2_with fail
  refine (isOut1 _ _ _ _ _ true (by simp) (.inr ⟨rfl, H0.out⟩)).mono ?_
  rintro e w1 ⟨rfl, hb⟩
  have HB1 : Hid (Below w.heap.size w w1) := thru2 (Below.refl _ _) hb
  have z1 : w.heap.size + 2 ≤ w1.heap.size := by have := hb.size; simp at this; omega
  have R_1 := Lib.hid (((Blk.new_at (w.heap.size) (by simp)).alloc _).below hb)
  clear hb
  have lR := R_1.out.1
  have cR0 := R_1.out.at 0 rfl
  have cR1 := R_1.out.at 1 rfl
  have fR0 := R_1.out.free 0 rfl
  have fR1 := R_1.out.free 1 rfl
  go_wp2
  have hz := HB1.out.size
  refine bodyPost_ret (v := .agg #[.int .i64 3, .int .i64 0]) (by simp [results, Try.results109, go_sem, cR0, cR1]) rfl ⟨rfl, ?_⟩
  repeat (with_reducible refine Below.setCell ?_ (by (try simp); (try omega)) _)
  exact HB1.out

theorem implFW_any (a c v : Int) (w : World) (hk : IsFW a c v) : Calls Try.prog 109 #[.int .i64 a] w (RetPair w c v) := by
  rcases hk with ⟨h1, rfl, rfl⟩ | ⟨h1, rfl, rfl⟩
  · exact implFW_yes a w h1
  · exact implFW_no a w h1
end Go.Proofs.Ytnacdhnnpddccaa

namespace Go.Proofs.Ytnacdhnnpddccaa
open Go.RowKit
set_option linter.unusedVariables false

/-- What ReadForward answers. -/
def RFOk (a : Int) : Prop := 2 ≤ a ∧ a ≤ 800 ∧ a % 2 = 0

def IsRF (a c v : Int) : Prop := (RFOk a ∧ c = 0 ∧ v = a / 2 - 1) ∨ (¬ RFOk a ∧ c = 1 ∧ v = 0)

def I64 (a : Int) : Prop := -9223372036854775808 ≤ a ∧ a ≤ 9223372036854775807

set_option maxRecDepth 100000 in
set_option maxHeartbeats 800000 in
theorem implRF_range (a : Int) (w : World) (hw1 : -9223372036854775808 ≤ a) (hw2 : a ≤ 9223372036854775807) (h0 : ¬ (0 ≤ a / 2 - 1 ∧ a / 2 - 1 ≤ 399)) :
    Calls Try.prog 91 #[.int .i64 a] w (RetPair w 1 0) := by
  have H0 := Lib.hid h0
  clear h0
  go_enter Try.func91, Try.ntmps91
  go_wp2_with fail
  refine (implFW_any (a / 2 - 1) 3 0 _ (.inr ⟨H0.out, rfl, rfl⟩)).mono ?_
  rintro e w1 ⟨rfl, hb⟩
  have HB1 : Hid (Below w.heap.size w w1) := thru1 (Below.refl _ _) hb
  have z1 : w.heap.size + 1 ≤ w1.heap.size := by have := hb.size; simp at this; omega
  have R_1 := Lib.hid ((Blk.new_at (w.heap.size) (by simp)).below hb)
  clear hb
  have lR := R_1.out.1
  have cR0 := R_1.out.at 0 rfl
  have cR1 := R_1.out.at 1 rfl
  have fR0 := R_1.out.free 0 rfl
  have fR1 := R_1.out.free 1 rfl
  go_wp2
  have hz := HB1.out.size
  refine bodyPost_ret (v := .agg #[.int .i64 1, .int .i64 0]) (by simp [results, Try.results91, go_sem, cR0, cR1, lR, World.cell?_alloc_past]) rfl ⟨rfl, ?_⟩
  repeat (first | (with_reducible refine Below.setCell ?_ (by (try simp); (try omega)) _) | (with_reducible refine Below.alloc ?_ (by (try simp); (try omega)) _))
  exact HB1.out

set_option maxRecDepth 100000 in
set_option maxHeartbeats 800000 in
theorem implRF_odd (a : Int) (w : World) (hw1 : -9223372036854775808 ≤ a) (hw2 : a ≤ 9223372036854775807) (h0 : 0 ≤ a / 2 - 1 ∧ a / 2 - 1 ≤ 399) (h1 : ¬ a % 2 = 0) :
    Calls Try.prog 91 #[.int .i64 a] w (RetPair w 1 0) := by
  have hd : (2 * (a / 2 - 1) + 2 != a) = true := by simp; omega
  have H0 := Lib.hid h0
  clear h0
  go_enter Try.func91, Try.ntmps91
  go_wp2_with fail
  refine (implFW_any (a / 2 - 1) 0 (2 * (a / 2 - 1) + 2) _ (.inl ⟨H0.out, rfl, rfl⟩)).mono ?_
  rintro e w1 ⟨rfl, hb⟩
  have HB1 : Hid (Below w.heap.size w w1) := thru1 (Below.refl _ _) hb
  have z1 : w.heap.size + 1 ≤ w1.heap.size := by have := hb.size; simp at this; omega
  have R_1 := Lib.hid ((Blk.new_at (w.heap.size) (by simp)).below hb)
  clear hb
  have lR := R_1.out.1
  have cR0 := R_1.out.at 0 rfl
  have cR1 := R_1.out.at 1 rfl
  have fR0 := R_1.out.free 0 rfl
  have fR1 := R_1.out.free 1 rfl
  go_wp2
  have hz := HB1.out.size
  refine bodyPost_ret (v := .agg #[.int .i64 1, .int .i64 0]) (by simp [results, Try.results91, go_sem, cR0, cR1, lR, World.cell?_alloc_past]) rfl ⟨rfl, ?_⟩
  repeat (first | (with_reducible refine Below.setCell ?_ (by (try simp); (try omega)) _) | (with_reducible refine Below.alloc ?_ (by (try simp); (try omega)) _))
  exact HB1.out

set_option maxRecDepth 100000 in
set_option maxHeartbeats 800000 in
theorem implRF_ok (a : Int) (w : World) (hw1 : -9223372036854775808 ≤ a) (hw2 : a ≤ 9223372036854775807) (h0 : 0 ≤ a / 2 - 1 ∧ a / 2 - 1 ≤ 399) (h1 : a % 2 = 0) :
    Calls Try.prog 91 #[.int .i64 a] w (RetPair w 0 (a / 2 - 1)) := by
  have hd : (2 * (a / 2 - 1) + 2 != a) = false := by simp; omega
  have H0 := Lib.hid h0
  clear h0
  go_enter Try.func91, Try.ntmps91
  go_wp2_with fail
  refine (implFW_any (a / 2 - 1) 0 (2 * (a / 2 - 1) + 2) _ (.inl ⟨H0.out, rfl, rfl⟩)).mono ?_
  rintro e w1 ⟨rfl, hb⟩
  have HB1 : Hid (Below w.heap.size w w1) := thru1 (Below.refl _ _) hb
  have z1 : w.heap.size + 1 ≤ w1.heap.size := by have := hb.size; simp at this; omega
  have R_1 := Lib.hid ((Blk.new_at (w.heap.size) (by simp)).below hb)
  clear hb
  have lR := R_1.out.1
  have cR0 := R_1.out.at 0 rfl
  have cR1 := R_1.out.at 1 rfl
  have fR0 := R_1.out.free 0 rfl
  have fR1 := R_1.out.free 1 rfl
  go_wp2
  have hz := HB1.out.size
  refine bodyPost_ret (v := .agg #[.int .i64 0, .int .i64 (a / 2 - 1)]) (by simp [results, Try.results91, go_sem, cR0, cR1, lR, World.cell?_alloc_past]) rfl ⟨rfl, ?_⟩
  repeat (first | (with_reducible refine Below.setCell ?_ (by (try simp); (try omega)) _) | (with_reducible refine Below.alloc ?_ (by (try simp); (try omega)) _))
  exact HB1.out

theorem implRF_any (a c v : Int) (w : World) (hw : I64 a) (hk : IsRF a c v) : Calls Try.prog 91 #[.int .i64 a] w (RetPair w c v) := by
  rcases hk with ⟨⟨h1, h2, h3⟩, rfl, rfl⟩ | ⟨h1, rfl, rfl⟩
  · exact implRF_ok a w hw.1 hw.2 (by omega) h3
  · by_cases h0 : 0 ≤ a / 2 - 1 ∧ a / 2 - 1 ≤ 399
    · exact implRF_odd a w hw.1 hw.2 h0 (fun h3 => h1 ⟨by omega, by omega, h3⟩)
    · exact implRF_range a w hw.1 hw.2 h0

set_option maxRecDepth 100000 in
set_option maxHeartbeats 800000 in
theorem specRF_small (a : Int) (w : World) (hw1 : -9223372036854775808 ≤ a) (hw2 : a ≤ 9223372036854775807) (h0 : a < 2) :
    Calls Try.prog 60 #[.int .i64 a] w (RetPair w 1 0) := by
  go_enter Try.func60, Try.ntmps60
  go_wp2
  exact bodyPost_ret (v := .agg #[.int .i64 1, .int .i64 0]) (by simp [results, Try.results60, go_sem]) rfl ⟨rfl, (Below.refl _ _).alloc (Nat.le_refl _) _⟩

set_option maxRecDepth 100000 in
set_option maxHeartbeats 800000 in
theorem specRF_odd (a : Int) (w : World) (hw1 : -9223372036854775808 ≤ a) (hw2 : a ≤ 9223372036854775807) (h0 : ¬ a < 2) (h1 : ¬ a % 2 = 0) :
    Calls Try.prog 60 #[.int .i64 a] w (RetPair w 1 0) := by
  have ht : a.tmod 2 = a % 2 := Int.tmod_eq_emod_of_nonneg (by omega)
  have hd : (a % 2 != 0) = true := by simpa using h1
  go_enter Try.func60, Try.ntmps60
  go_wp2
  exact bodyPost_ret (v := .agg #[.int .i64 1, .int .i64 0]) (by simp [results, Try.results60, go_sem]) rfl ⟨rfl, (Below.refl _ _).alloc (Nat.le_refl _) _⟩

set_option maxRecDepth 100000 in
set_option maxHeartbeats 800000 in
theorem specRF_great (a : Int) (w : World) (hw1 : -9223372036854775808 ≤ a) (hw2 : a ≤ 9223372036854775807) (h0 : ¬ a < 2) (h1 : a % 2 = 0) (h2 : 399 < a / 2 - 1) :
    Calls Try.prog 60 #[.int .i64 a] w (RetPair w 1 0) := by
  have ht : a.tmod 2 = a % 2 := Int.tmod_eq_emod_of_nonneg (by omega)
  have ht2 : a.tdiv 2 = a / 2 := Int.tdiv_eq_ediv_of_nonneg (by omega)
  have hd : (a % 2 != 0) = false := by simpa using h1
  go_enter Try.func60, Try.ntmps60
  go_wp2
  exact bodyPost_ret (v := .agg #[.int .i64 1, .int .i64 0]) (by simp [results, Try.results60, go_sem]) rfl ⟨rfl, (Below.refl _ _).alloc (Nat.le_refl _) _⟩

set_option maxRecDepth 100000 in
set_option maxHeartbeats 800000 in
theorem specRF_ok (a : Int) (w : World) (hw1 : -9223372036854775808 ≤ a) (hw2 : a ≤ 9223372036854775807) (h0 : ¬ a < 2) (h1 : a % 2 = 0) (h2 : ¬ 399 < a / 2 - 1) :
    Calls Try.prog 60 #[.int .i64 a] w (RetPair w 0 (a / 2 - 1)) := by
  have ht : a.tmod 2 = a % 2 := Int.tmod_eq_emod_of_nonneg (by omega)
  have ht2 : a.tdiv 2 = a / 2 := Int.tdiv_eq_ediv_of_nonneg (by omega)
  have hd : (a % 2 != 0) = false := by simpa using h1
  go_enter Try.func60, Try.ntmps60
  go_wp2
  exact bodyPost_ret (v := .agg #[.int .i64 0, .int .i64 (a / 2 - 1)]) (by simp [results, Try.results60, go_sem]) rfl ⟨rfl, (Below.refl _ _).alloc (Nat.le_refl _) _⟩

theorem specRF_any (a c v : Int) (w : World) (hw : I64 a) (hk : IsRF a c v) : Calls Try.prog 60 #[.int .i64 a] w (RetPair w c v) := by
  rcases hk with ⟨⟨h1, h2, h3⟩, rfl, rfl⟩ | ⟨h1, rfl, rfl⟩
  · exact specRF_ok a w hw.1 hw.2 (by omega) h3 (by omega)
  · by_cases h0 : a < 2
    · exact specRF_small a w hw.1 hw.2 h0
    · by_cases h2 : a % 2 = 0
      · exact specRF_great a w hw.1 hw.2 h0 h2 (Int.not_le.mp fun h3 => h1 ⟨by omega, by omega, h2⟩)
      · exact specRF_odd a w hw.1 hw.2 h0 h2
end Go.Proofs.Ytnacdhnnpddccaa

namespace Go.Proofs.Ytnacdhnnpddccaa
open Go.RowKit
set_option linter.unusedVariables false
set_option maxRecDepth 100000

theorem i64_of_wf {x : Int} (h : (Lit.int .i64 x).wf = true) : I64 x := by
  simp only [Lit.wf, Bool.and_eq_true, decide_eq_true_eq] at h
  exact ⟨h.1, h.2⟩
end Go.Proofs.Ytnacdhnnpddccaa

namespace Go.Proofs.Ytnacdhnnpddccaa
open Go.ChangeShapes Go.WideShapes Go.ChangeAt Go.RowKit Go.Joins
set_option linter.unusedVariables false
set_option maxRecDepth 100000

/-- What came in: a row of numbers. -/
theorem open_row64 {H : Type} {enc : TypeId × Value → H} {W : World} {base : Nat} {v0 : Value} {d0 : DataW H} {p0 : List MemPlace}
    (hv : Value.okWide Try.prog W .any base 22 v0) (h0 : DataW.Trod enc Try.prog W 0 (fun _ => true) true 22 v0 d0 p0) :
    ∃ (a : Option Addr) (n c : Nat) (f : Nat → Int), v0 = .slice a n c ∧ Src W a n f ∧ n ≤ maxLen ∧ ∀ i, i < n → I64 (f i) := by
  obtain ⟨a0, len0, cap0, rfl⟩ := okWide_slice Try.underlying22 hv
  obtain ⟨fuel, hf⟩ := h0
  rcases open_ints Try.underlying22 Try.underlying2 (by kernel_rfl) hf with ⟨hcs, _⟩ | ⟨x, l, c, zs, hcs, _, hl, hm, hz, _, hcell, hwz⟩
  · simp [Value.cells] at hcs
    obtain ⟨rfl, rfl, rfl⟩ := hcs
    exact ⟨none, 0, 0, fun _ => 0, rfl, .inl rfl, Nat.zero_le _, fun i hi => by omega⟩
  · simp [Value.cells] at hcs
    obtain ⟨rfl, rfl, rfl⟩ := hcs
    refine ⟨some x, len0, cap0, fun i => zs.getD i 0, rfl, ?_, by omega, fun i hi => ?_⟩
    · by_cases h0 : len0 = 0
      · exact .inl h0
      right
      have hlz : len0 ≤ zs.length := by
        rw [hz]; split
        · exact hl
        · exact Nat.le_refl _
      obtain ⟨b, off, spot⟩ := x
      have hc := hcell 0 (by omega)
      have hspot : spot = none := by simpa [Addr.add] using World.cell?_spot hc
      subst hspot
      refine ⟨b, off, rfl, World.block_lt_of_cell? W _ (by simpa [Addr.add] using hc), fun i hi => ?_⟩
      have := hcell i (by omega)
      rcases i with _ | i
      · simpa [Addr.add] using this
      · simpa [Addr.add] using this

    · have hlz : len0 ≤ zs.length := by
        rw [hz]; split
        · exact hl
        · exact Nat.le_refl _
      have hmem : zs.getD i 0 ∈ zs := by
        rw [List.getD_eq_getElem?_getD, List.getElem?_eq_getElem (by omega)]
        exact List.getElem_mem _
      exact i64_of_wf (hwz _ hmem)
end Go.Proofs.Ytnacdhnnpddccaa

namespace Go.Proofs.Ytnacdhnnpddccaa
open Go.RowKit
set_option linter.unusedVariables false

/-- The base of the half in use. -/
def baseI (ac h : Int) : Int := if ac = 0 then 0 else h

theorem baseI_mul {ac h : Int} (h1 : 0 ≤ ac) (h2 : ac ≤ 1) : baseI ac h = ac * h := by
  rcases (by omega : ac = 0 ∨ ac = 1) with rfl | rfl <;> simp [baseI]

theorem baseI_bd {ac h : Int} (h1 : 8 ≤ h) : 0 ≤ baseI ac h ∧ baseI ac h ≤ h := by
  unfold baseI; split <;> omega

/-- The same world, or one block more. -/
def Ext (w W : World) : Prop := W = w ∨ ∃ o, W = w.alloc o

theorem Blk.ext {w W : World} {b : Nat} {cs : List Value} (h : Blk w b cs) (e : Ext w W) : Blk W b cs := by
  rcases e with rfl | ⟨o, rfl⟩
  · exact h
  · exact h.alloc o

theorem Src.ext {w W : World} {a : Option Addr} {n : Nat} {f : Nat → Int} (h : Src w a n f) (e : Ext w W) : Src W a n f := by
  rcases e with rfl | ⟨o, rfl⟩
  · exact h
  · exact h.alloc o

theorem OwnIn.ext {w W : World} {lo hi : Nat} {a : Option Addr} {n : Nat} {f : Nat → Int} (h : OwnIn w lo hi a n f) (e : Ext w W) : OwnIn W lo hi a n f := by
  rcases e with rfl | ⟨o, rfl⟩
  · exact h
  · exact h.alloc o

theorem below_ext {w0 w W : World} (h : Below w0.heap.size w0 w) (e : Ext w W) : Below w0.heap.size w0 W := by
  rcases e with rfl | ⟨o, rfl⟩
  · exact h
  · exact h.alloc h.size o

/-- A store into a known block. -/
theorem Blk.set {w : World} {b : Nat} {cs : List Value} (h : Blk w b cs) (i : Nat) (hi : i < cs.length) (v : Value) : Blk (w.setCell ⟨b, i, none⟩ v) b (cs.set i v) := by
  refine ⟨by simpa using h.1, fun j u hj => ?_⟩
  constructor
  · by_cases e : j = i
    · subst e
      rw [List.getElem?_set_self hi] at hj
      simp only [Option.some.injEq] at hj
      subst hj
      exact World.cell?_setCell_same w ⟨b, j, none⟩ v (h.2 j cs[j] (List.getElem?_eq_getElem hi)).1
    · rw [List.getElem?_set_ne (fun x => e x.symm)] at hj
      rw [World.cell?_setCell_other _ _ _ _ (by simp; try omega)]
      exact (h.2 j u hj).1
  · rw [World.frozen?_setCell]
    by_cases e : j = i
    · subst e; exact (h.2 j cs[j] (List.getElem?_eq_getElem hi)).2
    · rw [List.getElem?_set_ne (fun x => e x.symm)] at hj
      exact (h.2 j u hj).2

theorem Blk.other {w : World} {b : Nat} {cs : List Value} (h : Blk w b cs) {p : Addr} (hp : p.block ≠ b) (u : Value) : Blk (w.setCell p u) b cs :=
  h.keeps (keeps_setCell (Nat.le_refl p.block) (Nat.lt_succ_self _) u) (by omega)

set_option maxRecDepth 100000 in
set_option maxHeartbeats 400000 in
theorem baseOf_any (h ac bu : Int) (a : Option Addr) (n c : Nat) (w : World) (h1 : 8 ≤ h) (h2 : h ≤ 200) (h3 : 0 ≤ ac) (h4 : ac ≤ 1) :
    Calls Try.prog 73 #[.agg #[.int .i64 h, .slice a n c, .int .i64 ac, .int .i64 bu]] w (RetInt w (baseI ac h)) := by
  rcases (by omega : ac = 0 ∨ ac = 1) with rfl | rfl
  all_goals
    go_enter Try.func73, Try.ntmps73
    go_wp2
    go_ret
    exact ⟨rfl, (Below.refl _ _).alloc (Nat.le_refl _) _⟩

set_option maxRecDepth 100000 in
set_option maxHeartbeats 400000 in
theorem l1Base_any (b : Nat) (h ac bu : Int) (a : Option Addr) (n c : Nat) (w : World) (hB : Blk w b [.int .i64 h, .slice a n c, .int .i64 ac, .int .i64 bu]) (h1 : 8 ≤ h) (h2 : h ≤ 200) (h3 : 0 ≤ ac) (h4 : ac ≤ 1) :
    Calls Try.prog 71 #[.pointer (some ⟨b, 0, none⟩)] w (RetInt w (baseI ac h)) := by
  have p0 := hB.at 0 rfl
  have p2 := hB.at 2 rfl
  clear hB
  rcases (by omega : ac = 0 ∨ ac = 1) with rfl | rfl
  all_goals
    go_enter Try.func71, Try.ntmps71
    go_wp2
    go_quiet (fail)
    go_wp2
    go_ret
    exact ⟨rfl, below_drewN (Below.refl _ _) _⟩
end Go.Proofs.Ytnacdhnnpddccaa

namespace Go.Proofs.Ytnacdhnnpddccaa
open Go.RowKit
set_option linter.unusedVariables false

theorem ext_drew (w : World) (o : Obj) : Ext w.drew (w.alloc o).drew := .inr ⟨o, rfl⟩

/-- The world of a state that goes on is named, with what is known of it. -/
theorem then_named {K : Act → World → Prop} {Q : Exit → Act → World → Prop} {e : Exit} {a : Act} {W : World} (p : World → Prop) (hp : p W) (h : ∀ w', p w' → Exit.then K Q e a w') : Exit.then K Q e a W := h W hp
end Go.Proofs.Ytnacdhnnpddccaa

namespace Go.Proofs.Ytnacdhnnpddccaa
open Go.RowKit
set_option linter.unusedVariables false

/-- The low bits of a number. -/
theorem bits_and_low (j : Nat) (hj : j ≤ 20) (x : Int) : bits .and .i64 x ((2 ^ j - 1 : Nat) : Int) = x % ((2 ^ j : Nat) : Int) := by
  have hp : (2 : Nat) ^ j ≤ 2 ^ 20 := Nat.pow_le_pow_right (by omega) hj
  have hp0 : 0 < (2 : Nat) ^ j := Nat.two_pow_pos j
  have hdv : ((2 ^ j : Nat) : Int) ∣ (2 : Int) ^ 64 := ⟨((2 ^ (64 - j) : Nat) : Int), by rw [← Int.natCast_mul, ← Nat.pow_add]; rw [show j + (64 - j) = 64 by omega]; rfl⟩
  have e1 : (BitVec.ofInt 64 x).toNat = (x % 2 ^ 64).toNat := by simp [BitVec.toNat_ofInt]
  have e2 : (BitVec.ofInt 64 ((2 ^ j - 1 : Nat) : Int)).toNat = 2 ^ j - 1 := by
    rw [BitVec.toNat_ofInt]; omega
  have e3 : (BitVec.ofInt 64 x &&& BitVec.ofInt 64 ((2 ^ j - 1 : Nat) : Int)).toNat = (x % 2 ^ 64).toNat % 2 ^ j := by
    rw [BitVec.toNat_and, e1, e2, Nat.and_two_pow_sub_one_eq_mod]
  have e4 : (((x % 2 ^ 64).toNat % 2 ^ j : Nat) : Int) = x % ((2 ^ j : Nat) : Int) := by
    rw [Int.natCast_emod, Int.toNat_of_nonneg (Int.emod_nonneg _ (by decide)), Int.emod_emod_of_dvd _ hdv]
  have e5 : bits .and .i64 x ((2 ^ j - 1 : Nat) : Int) = IntKind.i64.wrap (((x % 2 ^ 64).toNat % 2 ^ j : Nat) : Int) := by rw [← e3]; rfl
  rw [e5, e4, IntWalk.i64_in _ (by have := Int.emod_nonneg x (b := ((2 ^ j : Nat) : Int)) (by omega); have := Int.emod_lt_of_pos x (b := ((2 ^ j : Nat) : Int)) (by omega); omega)]

theorem bits_and_1 (x : Int) : bits .and .i64 x 1 = x % 2 := bits_and_low 1 (by omega) x

theorem bits_and_15 (x : Int) : bits .and .i64 x 15 = x % 16 := bits_and_low 4 (by omega) x

theorem bits_and_4095 (x : Int) : bits .and .i64 x 4095 = x % 4096 := bits_and_low 12 (by omega) x
end Go.Proofs.Ytnacdhnnpddccaa

namespace Go.Proofs.Ytnacdhnnpddccaa
open Go.RowKit
set_option linter.unusedVariables false

/-- Two words are those of a head. -/
def ROk (a b : Int) : Prop := a % 2 = 1 ∧ HOk (a / 2 % 16) (a / 32 % 4096) (a / 131072) b

/-- A call panics with a value that is no nil; nothing that was there is turned. -/
def Panics (W : World) (e : Ending) (w' : World) : Prop := (∃ pv, e = .panicked [{ v := .iface 9 pv, recovered := false }]) ∧ Below W.heap.size W w'

set_option maxRecDepth 100000 in
set_option maxHeartbeats 1600000 in
theorem unpack_ok (a b : Int) (w : World) (hk : ROk a b) :
    Calls Try.prog 135 #[.int .i64 a, .int .i64 b] w (fun e w' => e = .returned (.agg #[.int .i64 (a / 2 % 16), .int .i64 (a / 32 % 4096), .int .i64 (a / 131072), .int .i64 b]) ∧ Below w.heap.size w w') := by
  have e1 := bits_and_15 (a / 2)
  have e2 := bits_and_4095 (a / 32)
  have e3 := bits_and_1 a
  have hd : (a % 2 == 0) = false := by rw [hk.1]; rfl
  have hk' : IsHF (a / 2 % 16) (a / 32 % 4096) (a / 131072) b 0 := .inl ⟨hk.2, rfl⟩
  clear hk
  have HK := Lib.hid hk'
  clear hk'
  go_enter Try.func135, Try.ntmps135
  go_wp2_with fail
  refine (implHF_any (a / 2 % 16) (a / 32 % 4096) (a / 131072) b 0 _ HK.out).mono ?_
  rintro e w1 ⟨rfl, hb⟩
  have HB1 : Hid (Below w.heap.size w w1) := thru2 (Below.refl _ _) hb
  have z1 : w.heap.size + 2 ≤ w1.heap.size := by have := hb.size; simp at this; omega
  have R_1 := Lib.hid (((Blk.new_at (w.heap.size) (by simp)).alloc _).below hb)
  have U_1 := Lib.hid ((Blk.new_at (w.heap.size + 1) (by simp)).below hb)
  clear hb
  have lR := R_1.out.1
  have cR0 := R_1.out.at 0 rfl
  have cR1 := R_1.out.at 1 rfl
  have cR2 := R_1.out.at 2 rfl
  have cR3 := R_1.out.at 3 rfl
  have lU := U_1.out.1
  have cU0 := U_1.out.at 0 rfl
  have cU1 := U_1.out.at 1 rfl
  have cU2 := U_1.out.at 2 rfl
  have cU3 := U_1.out.at 3 rfl
  have fR0 := R_1.out.free 0 rfl
  have fR1 := R_1.out.free 1 rfl
  have fR2 := R_1.out.free 2 rfl
  have fR3 := R_1.out.free 3 rfl
  go_wp2
  have hz := HB1.out.size
  refine bodyPost_ret (v := .agg #[.int .i64 (a / 2 % 16), .int .i64 (a / 32 % 4096), .int .i64 (a / 131072), .int .i64 b]) (by simp [results, Try.results135, go_sem, cR0, cR1, cR2, cR3]) rfl ⟨rfl, ?_⟩
  repeat (first | (with_reducible refine Below.setCell ?_ (by (try simp); (try omega)) _) | (with_reducible refine Below.alloc ?_ (by (try simp); (try omega)) _))
  exact HB1.out

set_option maxRecDepth 100000 in
set_option maxHeartbeats 1600000 in
theorem unpack_bad (a b : Int) (w : World) (h1 : a % 2 = 1) (hk : ¬ HOk (a / 2 % 16) (a / 32 % 4096) (a / 131072) b) :
    Calls Try.prog 135 #[.int .i64 a, .int .i64 b] w (Panics w) := by
  have e1 := bits_and_15 (a / 2)
  have e2 := bits_and_4095 (a / 32)
  have e3 := bits_and_1 a
  have hd : (a % 2 == 0) = false := by rw [h1]; rfl
  have hk' : IsHF (a / 2 % 16) (a / 32 % 4096) (a / 131072) b 3 := .inr ⟨hk, rfl⟩
  clear hk
  have HK := Lib.hid hk'
  clear hk'
  go_enter Try.func135, Try.ntmps135
  go_wp2_with fail
  refine (implHF_any (a / 2 % 16) (a / 32 % 4096) (a / 131072) b 3 _ HK.out).mono ?_
  rintro e w1 ⟨rfl, hb⟩
  have HB1 : Hid (Below w.heap.size w w1) := thru2 (Below.refl _ _) hb
  have z1 : w.heap.size + 2 ≤ w1.heap.size := by have := hb.size; simp at this; omega
  have R_1 := Lib.hid (((Blk.new_at (w.heap.size) (by simp)).alloc _).below hb)
  have U_1 := Lib.hid ((Blk.new_at (w.heap.size + 1) (by simp)).below hb)
  clear hb
  go_wp2
  exact ⟨rfl, ⟨_, rfl⟩, HB1.out⟩

set_option maxRecDepth 100000 in
set_option maxHeartbeats 1600000 in
theorem unpack_even (a b : Int) (w : World) (h1 : a % 2 = 0) :
    Calls Try.prog 135 #[.int .i64 a, .int .i64 b] w (Panics w) := by
  have e1 := bits_and_15 (a / 2)
  have e2 := bits_and_4095 (a / 32)
  have e3 := bits_and_1 a
  have hd : (a % 2 == 0) = true := by rw [h1]; rfl
  go_enter Try.func135, Try.ntmps135
  go_wp2
  exact ⟨rfl, ⟨_, rfl⟩, ((Below.refl _ _).alloc (Nat.le_refl _) _).alloc (by simp) _⟩

theorem unpack_no (a b : Int) (w : World) (hk : ¬ ROk a b) : Calls Try.prog 135 #[.int .i64 a, .int .i64 b] w (Panics w) := by
  by_cases h1 : a % 2 = 1
  · exact unpack_bad a b w h1 (fun x => hk ⟨h1, x⟩)
  · exact unpack_even a b w (by omega)
end Go.Proofs.Ytnacdhnnpddccaa

namespace Go.Proofs.Ytnacdhnnpddccaa
open Go.RowKit
set_option linter.unusedVariables false

/-- What l2Read answers. -/
def RetRead (W : World) (a b : Int) (r : Bool) (e : Ending) (w' : World) : Prop :=
  ∃ s m o h, e = .returned (.tuple #[.agg #[.int .i64 s, .int .i64 m, .int .i64 o, .int .i64 h], .bool r]) ∧ Below W.heap.size W w' ∧ (r = true → s = a / 2 % 16 ∧ m = a / 32 % 4096 ∧ o = a / 131072 ∧ h = b)

set_option maxRecDepth 100000 in
set_option maxHeartbeats 800000 in
theorem l2Read_small (a b : Int) (w : World) (h0 : a < 1) :
    Calls Try.prog 86 #[.int .i64 a, .int .i64 b] w (RetRead w a b false) := by
  go_enter Try.func86, Try.ntmps86
  go_wp2
  exact bodyPost_ret (v := .tuple #[.agg #[.int .i64 0, .int .i64 0, .int .i64 0, .int .i64 0], .bool false]) (by simp [results, Try.results86, go_sem]) rfl ⟨0, 0, 0, 0, rfl, (Below.refl _ _).alloc (Nat.le_refl _) _, fun h => by cases h⟩

set_option maxRecDepth 100000 in
set_option maxHeartbeats 800000 in
theorem l2Read_even (a b : Int) (w : World) (h0 : ¬ a < 1) (h1 : a % 2 = 0) :
    Calls Try.prog 86 #[.int .i64 a, .int .i64 b] w (RetRead w a b false) := by
  have ht : a.tmod 2 = a % 2 := Int.tmod_eq_emod_of_nonneg (by omega)
  have hd : (a % 2 == 0) = true := by rw [h1]; rfl
  go_enter Try.func86, Try.ntmps86
  go_wp2
  exact bodyPost_ret (v := .tuple #[.agg #[.int .i64 0, .int .i64 0, .int .i64 0, .int .i64 0], .bool false]) (by simp [results, Try.results86, go_sem]) rfl ⟨0, 0, 0, 0, rfl, (Below.refl _ _).alloc (Nat.le_refl _) _, fun h => by cases h⟩

set_option maxRecDepth 100000 in
set_option maxHeartbeats 3200000 in
theorem l2Read_true (a b : Int) (w : World) (h0 : ¬ a < 1) (h1 : ¬ a % 2 = 0) (hb64 : a ≤ 9223372036854775807) (hk : HOk (a / 2 % 16) (a / 32 % 4096) (a / 131072) b) :
    Calls Try.prog 86 #[.int .i64 a, .int .i64 b] w (RetRead w a b true) := by
  have ht : a.tmod 2 = a % 2 := Int.tmod_eq_emod_of_nonneg (by omega)
  have hd : (a % 2 == 0) = false := by simpa using h1
  have hq : a.tdiv 2 = a / 2 := Int.tdiv_eq_ediv_of_nonneg (by omega)
  have g0 : 0 ≤ a / 2 := by omega
  have e1 : (a / 2).tmod 16 = a / 2 % 16 := Int.tmod_eq_emod_of_nonneg (by omega)
  have e2 : (a / 2).tdiv 16 = a / 32 := by rw [Int.tdiv_eq_ediv_of_nonneg (by omega)]; omega
  have e3 : (a / 32).tmod 4096 = a / 32 % 4096 := Int.tmod_eq_emod_of_nonneg (by omega)
  have e4 : (a / 2).tdiv 65536 = a / 131072 := by rw [Int.tdiv_eq_ediv_of_nonneg (by omega)]; omega
  have hk' : IsHF (a / 2 % 16) (a / 32 % 4096) (a / 131072) b 0 := .inl ⟨hk, rfl⟩
  clear hk
  have HK := Lib.hid hk'
  clear hk'
  go_enter Try.func86, Try.ntmps86
  go_upto_region 5 with (fail)
  have HB0 : Hid (Below w.heap.size w ((w.alloc (.cells #[.int .i64 0, .int .i64 0, .int .i64 0, .int .i64 0] 85)).alloc (.cells #[.int .i64 (a / 2 % 16), .int .i64 (a / 32 % 4096), .int .i64 (a / 131072), .int .i64 b] 85))) := ((Below.refl _ _).alloc (Nat.le_refl _) _).alloc (by simp) _
  have R0 : Hid (Blk ((w.alloc (.cells #[.int .i64 0, .int .i64 0, .int .i64 0, .int .i64 0] 85)).alloc (.cells #[.int .i64 (a / 2 % 16), .int .i64 (a / 32 % 4096), .int .i64 (a / 131072), .int .i64 b] 85)) w.heap.size [.int .i64 0, .int .i64 0, .int .i64 0, .int .i64 0]) := (Blk.new_at (w.heap.size) rfl).alloc _
  have U0 : Hid (Blk ((w.alloc (.cells #[.int .i64 0, .int .i64 0, .int .i64 0, .int .i64 0] 85)).alloc (.cells #[.int .i64 (a / 2 % 16), .int .i64 (a / 32 % 4096), .int .i64 (a / 131072), .int .i64 b] 85)) (w.heap.size + 1) [.int .i64 (a / 2 % 16), .int .i64 (a / 32 % 4096), .int .i64 (a / 131072), .int .i64 b]) := Blk.new_at (w.heap.size + 1) (by simp)
  generalize (w.alloc (.cells #[.int .i64 0, .int .i64 0, .int .i64 0, .int .i64 0] 85)).alloc (.cells #[.int .i64 (a / 2 % 16), .int .i64 (a / 32 % 4096), .int .i64 (a / 131072), .int .i64 b] 85) = w0 at *
  have HBd := Lib.hid HB0.out.drew
  have Rd := Lib.hid R0.out.drew
  have Ud := Lib.hid U0.out.drew
  clear ht hd hq e1 e2 e3 e4 hb64
  go_region_held3 (fun w' => w'.cell? ⟨w.heap.size + 1, 0, none⟩ = some (.int .i64 (a / 2 % 16)) ∧ w'.cell? ⟨w.heap.size + 1, 1, none⟩ = some (.int .i64 (a / 32 % 4096)) ∧ w'.cell? ⟨w.heap.size + 1, 2, none⟩ = some (.int .i64 (a / 131072)) ∧ w'.cell? ⟨w.heap.size + 1, 3, none⟩ = some (.int .i64 b))
    (first | (with_reducible exact ⟨(U0.out).at 0 rfl, (U0.out).at 1 rfl, (U0.out).at 2 rfl, (U0.out).at 3 rfl⟩) | (with_reducible exact ⟨(Ud.out).at 0 rfl, (Ud.out).at 1 rfl, (Ud.out).at 2 rfl, (Ud.out).at 3 rfl⟩) | (with_reducible exact ⟨(U1.out).at 0 rfl, (U1.out).at 1 rfl, (U1.out).at 2 rfl, (U1.out).at 3 rfl⟩) | (exact ⟨(((((U1.out.other (by (try simp); (try omega)) _).other (by (try simp); (try omega)) _).other (by (try simp); (try omega)) _).other (by (try simp); (try omega)) _)).at 0 rfl, (((((U1.out.other (by (try simp); (try omega)) _).other (by (try simp); (try omega)) _).other (by (try simp); (try omega)) _).other (by (try simp); (try omega)) _)).at 1 rfl, (((((U1.out.other (by (try simp); (try omega)) _).other (by (try simp); (try omega)) _).other (by (try simp); (try omega)) _).other (by (try simp); (try omega)) _)).at 2 rfl, (((((U1.out.other (by (try simp); (try omega)) _).other (by (try simp); (try omega)) _).other (by (try simp); (try omega)) _).other (by (try simp); (try omega)) _)).at 3 rfl⟩))
    (first | (go_at_call 105; refine (specHF_any (a / 2 % 16) (a / 32 % 4096) (a / 131072) b 0 _ HK.out).mono ?_; rintro e w1 ⟨rfl, hb⟩; have HB1 := Lib.hid (thru0 HBd.out hb); have R1 := Lib.hid (Rd.out.below hb); have U1 := Lib.hid (Ud.out.below hb); have hz := HB1.out.size; have lR := R1.out.1; clear hb; have cR0 := R1.out.at 0 rfl; have fR0 := R1.out.free 0 rfl; have cR1 := R1.out.at 1 rfl; have fR1 := R1.out.free 1 rfl; have cR2 := R1.out.at 2 rfl; have fR2 := R1.out.free 2 rfl; have cR3 := R1.out.at 3 rfl; have fR3 := R1.out.free 3 rfl))
  go_wp2
  refine bodyPost_ret (v := .tuple #[.agg #[.int .i64 (a / 2 % 16), .int .i64 (a / 32 % 4096), .int .i64 (a / 131072), .int .i64 b], .bool true]) (by simp [results, Try.results86, go_sem, cR0, cR1, cR2, cR3]) rfl ⟨_, _, _, _, rfl, ?_, fun _ => ⟨rfl, rfl, rfl, rfl⟩⟩
  repeat (with_reducible refine Below.setCell ?_ (by (try simp); (try omega)) _)
  exact HB1.out

set_option maxRecDepth 100000 in
set_option maxHeartbeats 3200000 in
theorem l2Read_false (a b : Int) (w : World) (h0 : ¬ a < 1) (h1 : ¬ a % 2 = 0) (hb64 : a ≤ 9223372036854775807) (hk : ¬ HOk (a / 2 % 16) (a / 32 % 4096) (a / 131072) b) :
    Calls Try.prog 86 #[.int .i64 a, .int .i64 b] w (RetRead w a b false) := by
  have ht : a.tmod 2 = a % 2 := Int.tmod_eq_emod_of_nonneg (by omega)
  have hd : (a % 2 == 0) = false := by simpa using h1
  have hq : a.tdiv 2 = a / 2 := Int.tdiv_eq_ediv_of_nonneg (by omega)
  have g0 : 0 ≤ a / 2 := by omega
  have e1 : (a / 2).tmod 16 = a / 2 % 16 := Int.tmod_eq_emod_of_nonneg (by omega)
  have e2 : (a / 2).tdiv 16 = a / 32 := by rw [Int.tdiv_eq_ediv_of_nonneg (by omega)]; omega
  have e3 : (a / 32).tmod 4096 = a / 32 % 4096 := Int.tmod_eq_emod_of_nonneg (by omega)
  have e4 : (a / 2).tdiv 65536 = a / 131072 := by rw [Int.tdiv_eq_ediv_of_nonneg (by omega)]; omega
  have hk' : IsHF (a / 2 % 16) (a / 32 % 4096) (a / 131072) b 3 := .inr ⟨hk, rfl⟩
  clear hk
  have HK := Lib.hid hk'
  clear hk'
  go_enter Try.func86, Try.ntmps86
  go_upto_region 5 with (fail)
  have HB0 : Hid (Below w.heap.size w ((w.alloc (.cells #[.int .i64 0, .int .i64 0, .int .i64 0, .int .i64 0] 85)).alloc (.cells #[.int .i64 (a / 2 % 16), .int .i64 (a / 32 % 4096), .int .i64 (a / 131072), .int .i64 b] 85))) := ((Below.refl _ _).alloc (Nat.le_refl _) _).alloc (by simp) _
  have R0 : Hid (Blk ((w.alloc (.cells #[.int .i64 0, .int .i64 0, .int .i64 0, .int .i64 0] 85)).alloc (.cells #[.int .i64 (a / 2 % 16), .int .i64 (a / 32 % 4096), .int .i64 (a / 131072), .int .i64 b] 85)) w.heap.size [.int .i64 0, .int .i64 0, .int .i64 0, .int .i64 0]) := (Blk.new_at (w.heap.size) rfl).alloc _
  have U0 : Hid (Blk ((w.alloc (.cells #[.int .i64 0, .int .i64 0, .int .i64 0, .int .i64 0] 85)).alloc (.cells #[.int .i64 (a / 2 % 16), .int .i64 (a / 32 % 4096), .int .i64 (a / 131072), .int .i64 b] 85)) (w.heap.size + 1) [.int .i64 (a / 2 % 16), .int .i64 (a / 32 % 4096), .int .i64 (a / 131072), .int .i64 b]) := Blk.new_at (w.heap.size + 1) (by simp)
  generalize (w.alloc (.cells #[.int .i64 0, .int .i64 0, .int .i64 0, .int .i64 0] 85)).alloc (.cells #[.int .i64 (a / 2 % 16), .int .i64 (a / 32 % 4096), .int .i64 (a / 131072), .int .i64 b] 85) = w0 at *
  have HBd := Lib.hid HB0.out.drew
  have Rd := Lib.hid R0.out.drew
  have Ud := Lib.hid U0.out.drew
  clear ht hd hq e1 e2 e3 e4 hb64
  go_region_held3 (fun w' => w'.cell? ⟨w.heap.size + 1, 0, none⟩ = some (.int .i64 (a / 2 % 16)) ∧ w'.cell? ⟨w.heap.size + 1, 1, none⟩ = some (.int .i64 (a / 32 % 4096)) ∧ w'.cell? ⟨w.heap.size + 1, 2, none⟩ = some (.int .i64 (a / 131072)) ∧ w'.cell? ⟨w.heap.size + 1, 3, none⟩ = some (.int .i64 b))
    (first | (with_reducible exact ⟨(U0.out).at 0 rfl, (U0.out).at 1 rfl, (U0.out).at 2 rfl, (U0.out).at 3 rfl⟩) | (with_reducible exact ⟨(Ud.out).at 0 rfl, (Ud.out).at 1 rfl, (Ud.out).at 2 rfl, (Ud.out).at 3 rfl⟩) | (with_reducible exact ⟨(U1.out).at 0 rfl, (U1.out).at 1 rfl, (U1.out).at 2 rfl, (U1.out).at 3 rfl⟩) | (exact ⟨(((((U1.out.other (by (try simp); (try omega)) _).other (by (try simp); (try omega)) _).other (by (try simp); (try omega)) _).other (by (try simp); (try omega)) _)).at 0 rfl, (((((U1.out.other (by (try simp); (try omega)) _).other (by (try simp); (try omega)) _).other (by (try simp); (try omega)) _).other (by (try simp); (try omega)) _)).at 1 rfl, (((((U1.out.other (by (try simp); (try omega)) _).other (by (try simp); (try omega)) _).other (by (try simp); (try omega)) _).other (by (try simp); (try omega)) _)).at 2 rfl, (((((U1.out.other (by (try simp); (try omega)) _).other (by (try simp); (try omega)) _).other (by (try simp); (try omega)) _).other (by (try simp); (try omega)) _)).at 3 rfl⟩))
    (first | (go_at_call 105; refine (specHF_any (a / 2 % 16) (a / 32 % 4096) (a / 131072) b 3 _ HK.out).mono ?_; rintro e w1 ⟨rfl, hb⟩; have HB1 := Lib.hid (thru0 HBd.out hb); have R1 := Lib.hid (Rd.out.below hb); have U1 := Lib.hid (Ud.out.below hb); have hz := HB1.out.size; have lR := R1.out.1; clear hb; have cR0 := R1.out.at 0 rfl; have fR0 := R1.out.free 0 rfl; have cR1 := R1.out.at 1 rfl; have fR1 := R1.out.free 1 rfl; have cR2 := R1.out.at 2 rfl; have fR2 := R1.out.free 2 rfl; have cR3 := R1.out.at 3 rfl; have fR3 := R1.out.free 3 rfl))
  go_wp2
  refine bodyPost_ret (v := .tuple #[.agg #[.int .i64 (a / 2 % 16), .int .i64 (a / 32 % 4096), .int .i64 (a / 131072), .int .i64 b], .bool false]) (by simp [results, Try.results86, go_sem, cR0, cR1, cR2, cR3]) rfl ⟨_, _, _, _, rfl, ?_, fun _ => ⟨rfl, rfl, rfl, rfl⟩⟩
  repeat (with_reducible refine Below.setCell ?_ (by (try simp); (try omega)) _)
  exact HB1.out

theorem l2Read_yes (a b : Int) (w : World) (hb64 : a ≤ 9223372036854775807) (hk : ROk a b) : Calls Try.prog 86 #[.int .i64 a, .int .i64 b] w (RetRead w a b true) := by
  obtain ⟨h1, h2⟩ := hk
  have h3 := h2.2.2.1.1
  exact l2Read_true a b w (by omega) (by omega) hb64 h2

theorem l2Read_no (a b : Int) (w : World) (hb64 : a ≤ 9223372036854775807) (hk : ¬ ROk a b) : Calls Try.prog 86 #[.int .i64 a, .int .i64 b] w (RetRead w a b false) := by
  by_cases h0 : a < 1
  · exact l2Read_small a b w h0
  · by_cases h1 : a % 2 = 0
    · exact l2Read_even a b w h0 h1
    · exact l2Read_false a b w h0 h1 hb64 (fun h => hk ⟨by omega, h⟩)
end Go.Proofs.Ytnacdhnnpddccaa

namespace Go.Proofs.Ytnacdhnnpddccaa
open Go.RowKit
set_option linter.unusedVariables false

/-- The five cells of a HeadResult. -/
def R5 (w : World) (b : Nat) (c s m o h : Int) : Prop := Blk w b [.int .i64 c, .int .i64 s, .int .i64 m, .int .i64 o, .int .i64 h]

theorem catch_panicking (b : Nat) (c s m o h : Int) (u : TypeId) (pv : Value) (older : List PanicEntry) (w : World) (hB : R5 w b c s m o h) :
    CallsD Try.prog 134 #[.pointer (some ⟨b, 0, none⟩)] (.panicking ({ v := .iface u pv, recovered := false } :: older)) w fun e u' w' =>
      e = .returned (.tuple #[]) ∧ u' = .panicking ({ v := .iface u pv, recovered := true } :: older) ∧ R5 w' b 1 0 0 0 0 ∧ Below b w w' := by
  have c0 := hB.at 0 rfl; have c1 := hB.at 1 rfl; have c2 := hB.at 2 rfl; have c3 := hB.at 3 rfl; have c4 := hB.at 4 rfl
  have f0 := hB.free 0 rfl; have f1 := hB.free 1 rfl; have f2 := hB.free 2 rfl; have f3 := hB.free 3 rfl; have f4 := hB.free 4 rfl
  have HB : Hid (Blk w b [.int .i64 c, .int .i64 s, .int .i64 m, .int .i64 o, .int .i64 h]) := hB
  clear hB
  refine callsD_of_wpS Try.func134 rfl fun c₀ cs hu => ?_
  apply wpS_seq
  apply wpS_region
  simp [wpOpsS, go_sem, recoverD, hu, Try.ntmps134, Exit.thenS]
  refine wpS_cond (t := true) (by simp [Act.eval, Array.replicate]) ?_
  simp only [if_true]
  apply wpS_region
  simp [wpOpsS, go_sem, c0, c1, c2, c3, c4, f0, f1, f2, f3, f4, bodyPostS, results, Try.results134]
  exact ⟨((((HB.out.set 0 (by simp) _).set 1 (by simp) _).set 2 (by simp) _).set 3 (by simp) _).set 4 (by simp) _,
    Below.setCell (Below.setCell (Below.setCell (Below.setCell (Below.setCell (Below.refl b w) (by simp) _) (by simp) _) (by simp) _) (by simp) _) (by simp) _⟩

theorem catch_idle (p : Addr) (w : World) :
    CallsD Try.prog 134 #[.pointer (some p)] .returning w fun e u' w' => e = .returned (.tuple #[]) ∧ u' = .returning ∧ w' = w := by
  refine callsD_of_wpS Try.func134 rfl fun c₀ cs hu => ?_
  apply wpS_seq
  apply wpS_region
  simp [wpOpsS, go_sem, recoverD, hu, Try.ntmps134, Exit.thenS]
  refine wpS_cond (t := false) (by simp [Act.eval, Array.replicate]) ?_
  simp only [Bool.false_eq_true, if_false]
  refine wpS_of_wp (wp_skip ?_)
  cases c₀
  simp_all [bodyPostS, results, Try.results134]

/-- A HeadResult comes back. -/
def RetHR (W : World) (c s m o h : Int) (e : Ending) (w' : World) : Prop := e = .returned (.agg #[.int .i64 c, .int .i64 s, .int .i64 m, .int .i64 o, .int .i64 h]) ∧ Below W.heap.size W w'

set_option maxRecDepth 100000 in
set_option maxHeartbeats 800000 in
theorem implRH_many (a : Option Addr) (n c : Nat) (w : World) (hn : n ≤ 1048576) (h2 : ¬ n = 2) :
    Calls Try.prog 123 #[.slice a n c] w (RetHR w 2 0 0 0 0) := by
  have hd : ((n : Int) != 2) = true := by simp; omega
  go_enter_defers Try.func123, Try.ntmps123
  go_wp2
  exact ⟨.agg #[.int .i64 2, .int .i64 0, .int .i64 0, .int .i64 0, .int .i64 0], by simp [results, Try.results123, go_sem], rfl, (Below.refl _ _).alloc (Nat.le_refl _) _⟩

set_option maxRecDepth 100000 in
set_option maxHeartbeats 800000 in
theorem implRH_ok (a : Option Addr) (c : Nat) (f : Nat → Int) (w : World) (hs : Src w a 2 f) (hk : ROk (f 0) (f 1)) :
    Calls Try.prog 123 #[.slice a 2 c] w (RetHR w 0 (f 0 / 2 % 16) (f 0 / 32 % 4096) (f 0 / 131072) (f 1)) := by
  have hmf : ∀ (fn : Fn) (first cap : Array Value) (w : World), (Instr.makeFunc fn first cap).run Try.prog w = .ok (.func fn first cap) w := fun _ _ _ _ => rfl
  obtain ⟨ab, ao, rfl, hab, hac⟩ := src_some hs (by omega)
  have c0 := hac 0 (by omega)
  have c1 := hac 1 (by omega)
  simp only [Nat.add_zero] at c0
  have HK := Lib.hid hk
  clear hac hk
  have hs' := hs
  clear hs
  have HS := Lib.hid hs'
  clear hs'
  go_enter_defers Try.func123, Try.ntmps123
  go_wp2_with fail
  have HB0 : Hid (Below w.heap.size w (w.alloc (.cells #[.int .i64 0, .int .i64 0, .int .i64 0, .int .i64 0, .int .i64 0] 161))) := (Below.refl _ _).alloc (Nat.le_refl _) _
  have HR0 : Hid (Blk (w.alloc (.cells #[.int .i64 0, .int .i64 0, .int .i64 0, .int .i64 0, .int .i64 0] 161)) w.heap.size [.int .i64 0, .int .i64 0, .int .i64 0, .int .i64 0, .int .i64 0]) := Blk.new_at (w.heap.size) rfl
  have d0 := (HB0.out.cell (p := ⟨ab, ao, none⟩) hab).trans c0
  have d1 := (HB0.out.cell (p := ⟨ab, ao + 1, none⟩) hab).trans c1
  clear c0 c1
  generalize w.alloc (.cells #[.int .i64 0, .int .i64 0, .int .i64 0, .int .i64 0, .int .i64 0] 161) = w0 at *
  go_still_tail 6, (by kernel_rfl)
  change wpList _ _ _ _ _ w0.drew
  have HB1 := Lib.hid HB0.out.drew
  have HR1 := Lib.hid HR0.out.drew
  clear d0 d1 HB0 HR0
  generalize w0.drew = w1 at *
  go_wp2_with fail
  refine (unpack_ok (f 0) (f 1) _ HK.out).mono ?_
  rintro e w2 ⟨rfl, hb⟩
  have HB2 := Lib.hid (thru0 HB1.out hb)
  have R := Lib.hid (HR1.out.below hb)
  clear hb HB1 HR1
  have hz := HB2.out.size
  have lR := R.out.1
  have cR0 := R.out.at 0 rfl; have cR1 := R.out.at 1 rfl; have cR2 := R.out.at 2 rfl; have cR3 := R.out.at 3 rfl; have cR4 := R.out.at 4 rfl
  have fR0 := R.out.free 0 rfl; have fR1 := R.out.free 1 rfl; have fR2 := R.out.free 2 rfl; have fR3 := R.out.free 3 rfl; have fR4 := R.out.free 4 rfl
  go_wp2
  refine leaves_cons (f := 134) (args := #[.pointer (some ⟨w.heap.size, 0, none⟩)]) (by simp) (by simp [go_sem]) ?_
  refine (catch_idle ⟨w.heap.size, 0, none⟩ _).mono ?_
  rintro e u' w'' ⟨rfl, rfl, rfl⟩
  refine ⟨.agg #[.int .i64 0, .int .i64 (f 0 / 2 % 16), .int .i64 (f 0 / 32 % 4096), .int .i64 (f 0 / 131072), .int .i64 (f 1)], by simp [results, Try.results123, go_sem, cR0, cR1, cR2, cR3, cR4], rfl, ?_⟩
  repeat (with_reducible refine Below.setCell ?_ (by (try simp); (try omega)) _)
  exact HB2.out

set_option maxRecDepth 100000 in
set_option maxHeartbeats 800000 in
theorem implRH_bad (a : Option Addr) (c : Nat) (f : Nat → Int) (w : World) (hs : Src w a 2 f) (hk : ¬ ROk (f 0) (f 1)) :
    Calls Try.prog 123 #[.slice a 2 c] w (RetHR w 1 0 0 0 0) := by
  have hmf : ∀ (fn : Fn) (first cap : Array Value) (w : World), (Instr.makeFunc fn first cap).run Try.prog w = .ok (.func fn first cap) w := fun _ _ _ _ => rfl
  obtain ⟨ab, ao, rfl, hab, hac⟩ := src_some hs (by omega)
  have c0 := hac 0 (by omega)
  have c1 := hac 1 (by omega)
  simp only [Nat.add_zero] at c0
  have HK := Lib.hid hk
  clear hac hk
  have hs' := hs
  clear hs
  have HS := Lib.hid hs'
  clear hs'
  go_enter_defers Try.func123, Try.ntmps123
  go_wp2_with fail
  have HB0 : Hid (Below w.heap.size w (w.alloc (.cells #[.int .i64 0, .int .i64 0, .int .i64 0, .int .i64 0, .int .i64 0] 161))) := (Below.refl _ _).alloc (Nat.le_refl _) _
  have HR0 : Hid (Blk (w.alloc (.cells #[.int .i64 0, .int .i64 0, .int .i64 0, .int .i64 0, .int .i64 0] 161)) w.heap.size [.int .i64 0, .int .i64 0, .int .i64 0, .int .i64 0, .int .i64 0]) := Blk.new_at (w.heap.size) rfl
  have d0 := (HB0.out.cell (p := ⟨ab, ao, none⟩) hab).trans c0
  have d1 := (HB0.out.cell (p := ⟨ab, ao + 1, none⟩) hab).trans c1
  clear c0 c1
  generalize w.alloc (.cells #[.int .i64 0, .int .i64 0, .int .i64 0, .int .i64 0, .int .i64 0] 161) = w0 at *
  go_still_tail 6, (by kernel_rfl)
  change wpList _ _ _ _ _ w0.drew
  have HB1 := Lib.hid HB0.out.drew
  have HR1 := Lib.hid HR0.out.drew
  clear d0 d1 HB0 HR0
  generalize w0.drew = w1 at *
  go_wp2_with fail
  refine (unpack_no (f 0) (f 1) _ HK.out).mono ?_
  rintro e w2 ⟨⟨pv, rfl⟩, hb⟩
  have HB2 := Lib.hid (thru0 HB1.out hb)
  have R := Lib.hid (HR1.out.below hb)
  clear hb HB1 HR1
  go_wp2
  refine leaves_cons (f := 134) (args := #[.pointer (some ⟨w.heap.size, 0, none⟩)]) (by simp) (by simp [go_sem]) ?_
  refine (catch_panicking w.heap.size 0 0 0 0 0 9 pv [] _ R.out).mono ?_
  rintro e u' w'' ⟨rfl, rfl, hr, hb⟩
  have cR0 := hr.at 0 rfl; have cR1 := hr.at 1 rfl; have cR2 := hr.at 2 rfl; have cR3 := hr.at 3 rfl; have cR4 := hr.at 4 rfl
  exact ⟨.agg #[.int .i64 1, .int .i64 0, .int .i64 0, .int .i64 0, .int .i64 0], by simp [results, Try.results123, go_sem, cR0, cR1, cR2, cR3, cR4], rfl, HB2.out.trans hb⟩
end Go.Proofs.Ytnacdhnnpddccaa

namespace Go.Proofs.Ytnacdhnnpddccaa
open Go.RowKit
set_option linter.unusedVariables false

theorem src_other {w : World} {ab ao n : Nat} {f : Nat → Int} (h : Src w (some ⟨ab, ao, none⟩) n f) {p : Addr} (hp : p.block ≠ ab) (u : Value) : Src (w.setCell p u) (some ⟨ab, ao, none⟩) n f :=
  h.keeps (keeps_setCell (Nat.le_refl p.block) (Nat.lt_succ_self _) u) (fun b off h => by simp only [Option.some.injEq, Addr.mk.injEq, and_true] at h; omega)

/-- What ReadHead answers. -/
def IsRH (n : Nat) (f : Nat → Int) (c s m o h : Int) : Prop :=
  (¬ n = 2 ∧ c = 2 ∧ s = 0 ∧ m = 0 ∧ o = 0 ∧ h = 0) ∨ (n = 2 ∧ ROk (f 0) (f 1) ∧ c = 0 ∧ s = f 0 / 2 % 16 ∧ m = f 0 / 32 % 4096 ∧ o = f 0 / 131072 ∧ h = f 1) ∨ (n = 2 ∧ ¬ ROk (f 0) (f 1) ∧ c = 1 ∧ s = 0 ∧ m = 0 ∧ o = 0 ∧ h = 0)

theorem implRH_any (a : Option Addr) (n cap : Nat) (f : Nat → Int) (c s m o h : Int) (w : World) (hs : Src w a n f) (hn : n ≤ 1048576) (hk : IsRH n f c s m o h) : Calls Try.prog 123 #[.slice a n cap] w (RetHR w c s m o h) := by
  rcases hk with ⟨h2, rfl, rfl, rfl, rfl, rfl⟩ | ⟨rfl, x, rfl, rfl, rfl, rfl, rfl⟩ | ⟨rfl, x, rfl, rfl, rfl, rfl, rfl⟩
  · exact implRH_many a n cap w hn h2
  · exact implRH_ok a cap f w hs x
  · exact implRH_bad a cap f w hs x
end Go.Proofs.Ytnacdhnnpddccaa

namespace Go.Proofs.Ytnacdhnnpddccaa
open Go.RowKit
set_option linter.unusedVariables false

theorem Halves.congr {w : World} {lo mid hi : Nat} {a1 a2 : Option Addr} {m : Nat} {F G : Nat → Int} (h : Halves w lo mid hi a1 a2 m F) (e : ∀ i, i < 2 * m → F i = G i) : Halves w lo mid hi a1 a2 m G :=
  ⟨h.1.congr fun i hi => e i (by omega), h.2.congr fun i hi => e (m + i) (by omega)⟩
end Go.Proofs.Ytnacdhnnpddccaa

namespace Go.Proofs.Ytnacdhnnpddccaa
open Go.RowKit
set_option linter.unusedVariables false

/-- An object as the model tells it: its place and its head. -/
structure Ob where
  at_ : Int
  s : Int
  m : Int
  o : Int
  h : Int

def szOf (f : Nat → Int) (a : Nat) : Nat := (f a / 2 % 16).toNat

def objAt (f : Nat → Int) (a : Nat) : Ob := ⟨(a : Int), f a / 2 % 16, f a / 32 % 4096, f a / 131072, f (a + 1)⟩

/-- There is an object at a place, that ends at e at the latest. -/
def Good (f : Nat → Int) (e a : Nat) : Prop := a + 2 ≤ e ∧ ROk (f a) (f (a + 1)) ∧ a + 2 + szOf f a ≤ e

instance (a b : Int) : Decidable (ROk a b) := by unfold ROk HOk; exact inferInstance

instance (f : Nat → Int) (e a : Nat) : Decidable (Good f e a) := by unfold Good; exact inferInstance

/-- The objects from a place on, up to e; none: something is no object. -/
def parse (f : Nat → Int) (e a : Nat) : Option (List Ob) :=
  if _h : a < e then
    if Good f e a then (parse f e (a + 2 + szOf f a)).map (objAt f a :: ·) else none
  else some []
termination_by e - a
decreasing_by omega

theorem parse_stop {f : Nat → Int} {e a : Nat} (h : ¬ a < e) : parse f e a = some [] := by rw [parse, dif_neg h]

theorem parse_bad {f : Nat → Int} {e a : Nat} (h : a < e) (hb : ¬ Good f e a) : parse f e a = none := by rw [parse, dif_pos h, if_neg hb]

theorem parse_good {f : Nat → Int} {e a : Nat} (h : a < e) (hb : Good f e a) : parse f e a = (parse f e (a + 2 + szOf f a)).map (objAt f a :: ·) := by
  rw [parse, dif_pos h, if_pos hb]

theorem good_size {f : Nat → Int} {e a : Nat} (hb : Good f e a) : 0 ≤ f a / 2 % 16 ∧ f a / 2 % 16 ≤ 12 ∧ ((szOf f a : Nat) : Int) = f a / 2 % 16 := by
  have h := hb.2.1.2.1
  refine ⟨h.1, h.2, ?_⟩
  unfold szOf; omega

/-- Some objects have been told: what is told in all. -/
theorem parse_step {f : Nat → Int} {e b a : Nat} {L : List Ob} (hp : parse f e b = (parse f e a).map (L ++ ·)) (h : a < e) (hb : Good f e a) :
    parse f e b = (parse f e (a + 2 + szOf f a)).map ((L ++ [objAt f a]) ++ ·) := by
  rw [hp, parse_good h hb, Option.map_map]
  congr 1
  funext l
  simp

/-- An object in memory: where its fields are. -/
structure OM where
  x : Ob
  g : Nat
  c : Nat

def OM.cells (t : OM) : List Value := [.int .i64 t.x.at_, .int .i64 t.x.s, .int .i64 t.x.m, .int .i64 t.x.o, .int .i64 t.x.h, .slice (some ⟨t.g, 0, none⟩) t.x.s.toNat t.c]

def rowCells (M : List OM) : List Value := M.flatMap OM.cells

theorem rowCells_snoc (M : List OM) (t : OM) : rowCells (M ++ [t]) = rowCells M ++ t.cells := by simp [rowCells]

/-- Each object's fields are a row of their own, in the order of the objects. -/
def Flds (w : World) (lo : Nat) (f : Nat → Int) (v : Value) (M : List OM) : Prop :=
  (∀ t ∈ M, lo ≤ t.g ∧ t.g < w.heap.size ∧ some t.g ≠ v.ownBlock ∧ ∀ k, k < t.x.s.toNat → w.cell? ⟨t.g, k, none⟩ = some (.int .i64 (f (t.x.at_.toNat + 2 + k))) ∧ w.frozen? ⟨t.g, k, none⟩ = false) ∧ M.Pairwise (fun t u => t.g < u.g)

theorem ownsRow_below {w w' : World} {base e size n : Nat} {v : Value} {xs : List Value} (h : w.ownsRow base e size v n xs) (hb : Below w.heap.size w w') : w'.ownsRow base e size v n xs := by
  refine ⟨h.1, ?_⟩
  rcases h.2 with h0 | ⟨g, cap, cur, h1, h2, h3, h4⟩
  · exact .inl h0
  · have hg : g < w.heap.size := by
      rcases Nat.lt_or_ge g w.heap.size with hlt | hge
      · exact hlt
      · rw [Array.getElem?_eq_none hge] at h3; cases h3
    exact .inr ⟨g, cap, cur, h1, h2, (hb.block g hg).trans h3, h4⟩

theorem Flds.below {w w' : World} {lo : Nat} {f : Nat → Int} {v : Value} {M : List OM} (h : Flds w lo f v M) (hb : Below w.heap.size w w') : Flds w' lo f v M :=
  ⟨fun t ht => by
    obtain ⟨h1, h2, h3, h4⟩ := h.1 t ht
    exact ⟨h1, Nat.lt_of_lt_of_le h2 hb.size, h3, fun k hk => ⟨(hb.cell (p := ⟨t.g, k, none⟩) h2).trans (h4 k hk).1, (hb.frozen (p := ⟨t.g, k, none⟩) h2).trans (h4 k hk).2⟩⟩, h.2⟩

/-- A row is copied into memory of the call's own, at a block that is named. -/
def RetCopy (W : World) (n : Nat) (f : Nat → Int) (e : Ending) (w' : World) : Prop :=
  ∃ g cap, e = .returned (.slice (some ⟨g, 0, none⟩) n cap) ∧ W.heap.size ≤ g ∧ g < w'.heap.size ∧ (∀ k, k < n → w'.cell? ⟨g, k, none⟩ = some (.int .i64 (f k)) ∧ w'.frozen? ⟨g, k, none⟩ = false) ∧ Below W.heap.size W w' ∧ n ≤ cap ∧ cap ≤ maxLen

theorem retCopy_of {W w' : World} {n : Nat} {f : Nat → Int} {v : Value} (h : w'.ownsRow W.heap.size 2 1 v n (nums n f)) (hne : v ≠ .slice none 0 0) (hb : Below W.heap.size W w') : RetCopy W n f (.returned v) w' := by
  have h0 := h
  rcases h.2 with ⟨h1, _⟩ | ⟨g, cap, cur, h1, hB, hg, hnc, hcm, _⟩
  · exact absurd h1 hne
  · subst h1
    refine ⟨g, cap, rfl, hB, ?_, fun k hk => ?_, hb, hnc, hcm⟩
    · rcases Nat.lt_or_ge g w'.heap.size with hlt | hge
      · exact hlt
      · rw [Array.getElem?_eq_none hge] at hg; cases hg
    · have := h0.cellAt k (by omega)
      rw [nums_get n f k hk] at this
      exact ⟨by simpa using this, by simpa using h0.frozenAt k⟩

set_option maxHeartbeats 400000 in
theorem l1Ints_all (ad : Addr) (n cap : Nat) (f : Nat → Int) (w : World) (hs : Src w (some ad) n f) (hn : n ≤ 1048576) :
    Calls Try.prog 88 #[.slice (some ad) n cap] w (RetCopy w n f) := by
  obtain ⟨i0, hi, hz0, hz1, hz2⟩ := info_parts Try.info2
  have hc' : ∀ (j : Nat) (u : Value), (nums n f)[j]? = some u → (w.alloc (.cells #[] 2)).cell? (ad.add j) = some u := fun j u h => by
    by_cases hp : 0 < n
    · obtain ⟨b, off, he, hb, hc⟩ := src_some hs hp
      cases he
      have := news_at hc j u h
      exact (((Below.refl w.heap.size w).alloc (Nat.le_refl _) _).cell (p := (⟨b, off, none⟩ : Addr).add j) (by rcases j with _ | j <;> simpa [Addr.add] using hb)).trans this
    · obtain rfl : n = 0 := by omega
      simp [nums] at h
  have HC := Lib.hid hc'
  clear hc' hs
  go_enter Try.func88, Try.ntmps88
  go_wp2_with (at_builtin; refine wpList_append_own _ rfl _ _ 22 rfl w.heap.size 2 i0 (.int .i64 0) 1 8 Try.underlying22 hi hz0 hz1 hz2 rfl (by decide) _ 0 [] rfl (World.ownsRow_lit w #[] 0 (Nat.le_refl _) (by simp [maxLen]) rfl) ad n cap (nums n f) rfl (by simp [nums]) HC.out (nums_one n f) (by unfold maxLen; omega) (by omega) (by simp) ?_; intro v' w1 hown hgrow hnil)
  go_ret
  exact retCopy_of (by simpa using hown) (fun h => by cases (hnil.mp h).1) (((Below.refl _ _).alloc (Nat.le_refl _) _).grown hgrow (by simp) (by intro k hk; cases hk; exact Nat.le_refl _))
end Go.Proofs.Ytnacdhnnpddccaa

namespace Go.Proofs.Ytnacdhnnpddccaa
open Go.RowKit
set_option linter.unusedVariables false

/-- What l3Objects answers: nothing, or the objects in memory of the call's own. -/
def RetObs (W : World) (f : Nat → Int) (r : Option (List Ob)) (e : Ending) (w' : World) : Prop :=
  Below W.heap.size W w' ∧ ((r = none ∧ e = .returned (.tuple #[.slice none 0 0, .bool false])) ∨
    ∃ v M, r = some (M.map OM.x) ∧ e = .returned (.tuple #[v, .bool true]) ∧ w'.ownsRow W.heap.size 87 6 v M.length (rowCells M) ∧ Flds w' W.heap.size f v M)

theorem l1Base_eq (X : Int) (b : Nat) (h ac bu : Int) (a : Option Addr) (n c : Nat) (w : World) (hX : baseI ac h = X) (hB : Blk w b [.int .i64 h, .slice a n c, .int .i64 ac, .int .i64 bu]) (h1 : 8 ≤ h) (h2 : h ≤ 200) (h3 : 0 ≤ ac) (h4 : ac ≤ 1) :
    Calls Try.prog 71 #[.pointer (some ⟨b, 0, none⟩)] w (RetInt w X) := by
  subst hX
  exact l1Base_any b h ac bu a n c w hB h1 h2 h3 h4

theorem ownBlock_lt {w : World} {base e size n : Nat} {v : Value} {xs : List Value} (h : w.ownsRow base e size v n xs) {g : Nat} (hg : v.ownBlock = some g) : g < w.heap.size := by
  rcases h.2 with ⟨rfl, _⟩ | ⟨g', cap, cur, rfl, _, hg', _⟩
  · simp [Value.ownBlock] at hg
  · simp only [Value.ownBlock, Option.some.injEq] at hg
    subst hg
    rcases Nat.lt_or_ge g' w.heap.size with hlt | hge
    · exact hlt
    · rw [Array.getElem?_eq_none hge] at hg'; cases hg'

theorem Try.info87 : (Try.prog.info? 87).map (fun i => (i.zero, i.size, i.bytes)) = some (some (.agg #[.int .i64 0, .int .i64 0, .int .i64 0, .int .i64 0, .int .i64 0, .slice none 0 0]), 6, 64) := by kernel_rfl

theorem src_w0 {w : World} {ab ao n : Nat} {f : Nat → Int} (h : Src w (some ⟨ab, ao, none⟩) n f) (i : Nat) (hi : i < n) : w.cell? ⟨ab, ao + i, none⟩ = some (.int .i64 (f i)) := h.at i hi

theorem src_w1 {w : World} {ab ao n : Nat} {f : Nat → Int} (h : Src w (some ⟨ab, ao, none⟩) n f) (i : Nat) (hi : i + 1 < n) : w.cell? ⟨ab, ao + (i + 1), none⟩ = some (.int .i64 (f (i + 1))) := h.at (i + 1) hi

theorem src_sub {w : World} {ab ao n m d : Nat} {f : Nat → Int} (h : Src w (some ⟨ab, ao, none⟩) n f) (hd : d + m ≤ n) : Src w (some ⟨ab, ao + d, none⟩) m (fun k => f (d + k)) := by
  rcases h with h | ⟨b', o', he, hb, hc⟩
  · exact .inl (by omega)
  · cases he
    exact .inr ⟨ab, ao + d, rfl, hb, fun i hi => by have := hc (d + i) (by omega); rw [Nat.add_assoc]; exact this⟩

theorem ownBlock_ge {w : World} {base e size n : Nat} {v : Value} {xs : List Value} (h : w.ownsRow base e size v n xs) {g : Nat} (hg : v.ownBlock = some g) : base ≤ g := by
  rcases h.2 with ⟨rfl, _⟩ | ⟨g', cap, cur, rfl, hb, _⟩
  · simp [Value.ownBlock] at hg
  · simp only [Value.ownBlock, Option.some.injEq] at hg
    omega

/-- One object more. -/
theorem flds_append {w0 w1 w2 : World} {lo : Nat} {f : Nat → Int} {v : Value} {M : List OM} {g2 n2 cap2 : Nat} (x : Ob) (g c : Nat) (h : Flds w0 lo f v M) (hb : Below w0.heap.size w0 w1) (hg : w1.grownBy w2 v.ownBlock)
    (hat : v.ownBlock = some g2 ∨ g2 = w1.heap.size) (hgl : w0.heap.size ≤ g) (hgu : g < w1.heap.size) (hlo : lo ≤ w0.heap.size) (hv : ∀ k, v.ownBlock = some k → k < w0.heap.size)
    (hc : ∀ k, k < x.s.toNat → w1.cell? ⟨g, k, none⟩ = some (.int .i64 (f (x.at_.toNat + 2 + k))) ∧ w1.frozen? ⟨g, k, none⟩ = false) :
    Flds w2 lo f (.slice (some ⟨g2, 0, none⟩) n2 cap2) (M ++ [⟨x, g, c⟩]) := by
  have hz := hb.size
  refine ⟨fun t ht => ?_, ?_⟩
  · rcases List.mem_append.mp ht with ht | ht
    · obtain ⟨a1, a2, a3, a4⟩ := h.1 t ht
      refine ⟨a1, Nat.lt_of_lt_of_le (Nat.lt_of_lt_of_le a2 hz) hg.size, ?_, fun k hk => ?_⟩
      · intro he
        simp only [Value.ownBlock, Option.some.injEq] at he
        rcases hat with hat | hat
        · exact a3 (by rw [hat, he])
        · omega
      · obtain ⟨b1, b2⟩ := a4 k hk
        have e1 := hg.cell_far ⟨t.g, k, none⟩ (Nat.lt_of_lt_of_le a2 hz) a3
        have e2 := hg.frozen_far ⟨t.g, k, none⟩ (Nat.lt_of_lt_of_le a2 hz) a3
        exact ⟨e1.trans ((hb.cell (p := ⟨t.g, k, none⟩) a2).trans b1), e2.trans ((hb.frozen (p := ⟨t.g, k, none⟩) a2).trans b2)⟩
    · simp only [List.mem_singleton] at ht
      subst ht
      have hne : some g ≠ v.ownBlock := fun he => by have := hv g he.symm; omega
      refine ⟨Nat.le_trans hlo hgl, Nat.lt_of_lt_of_le hgu hg.size, ?_, fun k hk => ?_⟩
      · intro he
        simp only [Value.ownBlock, Option.some.injEq] at he
        rcases hat with hat | hat
        · exact hne (by rw [hat, he])
        · omega
      · obtain ⟨b1, b2⟩ := hc k hk
        exact ⟨(hg.cell_far ⟨g, k, none⟩ hgu hne).trans b1, (hg.frozen_far ⟨g, k, none⟩ hgu hne).trans b2⟩
  · rw [List.pairwise_append]
    refine ⟨h.2, by simp, fun t ht u hu => ?_⟩
    simp only [List.mem_singleton] at hu
    subst hu
    exact Nat.lt_of_lt_of_le (h.1 t ht).2.1 hgl

set_option maxRecDepth 100000 in
set_option maxHeartbeats 6400000 in
theorem l3Objects_any (b P U : Nat) (h ac : Int) (ab ao n c : Nat) (f : Nat → Int) (w : World) (hB : Blk w b [.int .i64 h, .slice (some ⟨ab, ao, none⟩) n c, .int .i64 ac, .int .i64 (U : Int)]) (hs : Src w (some ⟨ab, ao, none⟩) n f) (h1 : 8 ≤ h) (h2 : h ≤ 200) (h3 : 0 ≤ ac) (h4 : ac ≤ 1) (hP : baseI ac h = (P : Int)) (hU : P + U ≤ n) (hn : n ≤ 400) (hcn : n ≤ c) (hcm : c ≤ maxLen) (hf : ∀ i, i < n → f i ≤ 9223372036854775807) :
    Calls Try.prog 59 #[.pointer (some ⟨b, 0, none⟩)] w (RetObs w f (parse f (P + U) P)) := by
  have HB0 := Lib.hid hB
  have HS0 := Lib.hid hs
  have lb := hB.1
  have HF := Lib.hid hf
  have HCM := Lib.hid hcm
  clear hB hs hf hcm
  go_enter Try.func59, Try.ntmps59
  go_wp2_with fail
  have HBa : Hid (Below w.heap.size w (w.alloc (.cells #[] 87))) := (Below.refl _ _).alloc (Nat.le_refl _) _
  have OWa : Hid ((w.alloc (.cells #[] 87)).ownsRow w.heap.size 87 6 (.slice (some ⟨w.heap.size, 0, none⟩) 0 0) 0 []) := World.ownsRow_lit w #[] 0 (Nat.le_refl _) (by simp [maxLen]) rfl
  have za : w.heap.size + 1 ≤ (w.alloc (.cells #[] 87)).heap.size := by simp
  generalize w.alloc (.cells #[] 87) = wa at *
  have BA_a := Lib.hid (HB0.out.below HBa.out)
  have BA_d := Lib.hid BA_a.out.drew
  have HBd := Lib.hid HBa.out.drew
  have hza := HBa.out.size
  have OWd := Lib.hid (ownsRow_below OWa.out (Below.refl _ _).drew)
  have hw : IntKind.i64.wrap ((P : Int) + (U : Int)) = ((P + U : Nat) : Int) := by rw [IntWalk.i64_in _ (by omega)]; omega
  go_region_held3 (fun w' => w'.cell? ⟨b, 0, none⟩ = some (.int .i64 h) ∧ w'.cell? ⟨b, 1, none⟩ = some (.slice (some ⟨ab, ao, none⟩) n c) ∧ w'.cell? ⟨b, 2, none⟩ = some (.int .i64 ac) ∧ w'.cell? ⟨b, 3, none⟩ = some (.int .i64 (U : Int)))
    (first | (with_reducible exact ⟨(BA_a.out).at 0 rfl, (BA_a.out).at 1 rfl, (BA_a.out).at 2 rfl, (BA_a.out).at 3 rfl⟩) | (with_reducible exact ⟨(BA_d.out).at 0 rfl, (BA_d.out).at 1 rfl, (BA_d.out).at 2 rfl, (BA_d.out).at 3 rfl⟩) | (with_reducible exact ⟨(BA_1.out).at 0 rfl, (BA_1.out).at 1 rfl, (BA_1.out).at 2 rfl, (BA_1.out).at 3 rfl⟩))
    (first | (go_at_call 71; refine (l1Base_eq (P : Int) b h ac (U : Int) (some ⟨ab, ao, none⟩) n c _ hP BA_d.out h1 h2 h3 h4).mono ?_; rintro e w1 ⟨rfl, hb⟩; have HB1 := Lib.hid (HBd.out.trans (hb.mono (by simpa using hza))); have BA_1 := Lib.hid (BA_d.out.below hb); have OW1 := Lib.hid (ownsRow_below OWd.out hb); clear hb))
  clear HBa OWa BA_a BA_d HBd OWd
  go_wp2_with fail
  refine (l1Base_eq (P : Int) b h ac (U : Int) (some ⟨ab, ao, none⟩) n c _ hP BA_1.out h1 h2 h3 h4).mono ?_
  rintro e w2 ⟨rfl, hb⟩
  have hz1 := HB1.out.size
  have HB2 := Lib.hid (HB1.out.trans (hb.mono hz1))
  have OW2 := Lib.hid (ownsRow_below OW1.out hb)
  clear hb HB1 OW1 BA_1
  have z2 := HB2.out.size
  have z3 : w.heap.size + 1 ≤ w2.heap.size := ownBlock_lt OW2.out rfl
  go_wp2
  go_loopw [4, 6] (fun v q wr => ∃ (i : Nat) (M : List OM), i ≤ P + U ∧ q = .int .i64 (i : Int) ∧ Hid (Below w.heap.size w wr) ∧ w.heap.size + 1 ≤ wr.heap.size ∧ Hid (wr.ownsRow w.heap.size 87 6 v M.length (rowCells M)) ∧ Hid (Flds wr w.heap.size f v M) ∧ Hid (parse f (P + U) P = (parse f (P + U) i).map (M.map OM.x ++ ·)) ∧ M.length + M.length ≤ i) (fun _ q _ => P + U - (intOf q).toNat)
  case atStart => exact ⟨P, [], by omega, rfl, HB2, z3, OW2, ⟨(by intro t ht; cases ht), List.Pairwise.nil⟩, Lib.hid (by simp), by simp⟩
  case round =>
    obtain ⟨i, M, hi, rfl, HB_r, zr, OW_r, FL_r, HPA, hml⟩ := hrel
    clear HB2 OW2 z2 z3
    have BA_r := Lib.hid (HB0.out.below HB_r.out)
    have hzr := HB_r.out.size
    by_cases hlt : i < P + U
    · have hlt' : (i : Int) < ((P + U : Nat) : Int) := by omega
      by_cases h2e : i + 2 ≤ P + U
      · have h2e' : ¬ ((P + U : Nat) : Int) < (i : Int) + 2 := by omega
        have hi0 : (0 : Int) ≤ (i : Int) := by omega
        have hi1 : (i : Int) < (n : Int) := by omega
        have hi2 : (i : Int) + 1 < (n : Int) := by omega
        have hi3 : (0 : Int) ≤ (i : Int) + 1 := by omega
        have ht1 : ((i : Int) + 1).toNat = i + 1 := by omega
        have hwi : IntKind.i64.wrap ((i : Int) + 1) = (i : Int) + 1 := IntWalk.i64_in _ (by omega)
        go_wp2_with fail
        have SA_r := Lib.hid (HS0.out.below HB_r.out)
        have BA_d := Lib.hid BA_r.out.drew
        have SA_d := Lib.hid SA_r.out.drew
        obtain ⟨hab, hac⟩ : ab < wr.heap.size ∧ True := ⟨by rcases SA_r.out with h0 | ⟨b', o', he, hb', _⟩; omega; cases he; exact hb', trivial⟩
        have lbr : b < wr.heap.size := by omega
        have HFi := Lib.hid (HF.out i (by omega))
        by_cases hro : ROk (f i) (f (i + 1))
        · have HRO := Lib.hid hro
          have hs12 := hro.2.1
          obtain ⟨sN, hS⟩ : ∃ sN : Nat, f i / 2 % 16 = (sN : Int) := ⟨(f i / 2 % 16).toNat, by omega⟩
          have hsz : szOf f i = sN := by unfold szOf; omega
          have hs13 : sN ≤ 12 := by omega
          have HS0' := Lib.hid hS
          clear hS hs12
          go_region_held3 (fun w' => w'.cell? ⟨b, 1, none⟩ = some (.slice (some ⟨ab, ao, none⟩) n c) ∧ w'.cell? ⟨ab, ao + i, none⟩ = some (.int .i64 (f i)) ∧ w'.cell? ⟨ab, ao + (i + 1), none⟩ = some (.int .i64 (f (i + 1))))
            (first | (with_reducible exact ⟨(BA_r.out).at 1 rfl, src_w0 (SA_r.out) i (by omega), src_w1 (SA_r.out) i (by omega)⟩) | (with_reducible exact ⟨(BA_d.out).at 1 rfl, src_w0 (SA_d.out) i (by omega), src_w1 (SA_d.out) i (by omega)⟩) | (with_reducible exact ⟨((BA_r.out.alloc _).drew).at 1 rfl, src_w0 ((SA_r.out.alloc _).drew) i (by omega), src_w1 ((SA_r.out.alloc _).drew) i (by omega)⟩) | (with_reducible exact ⟨(BA_5.out).at 1 rfl, src_w0 (SA_5.out) i (by omega), src_w1 (SA_5.out) i (by omega)⟩) | (with_reducible exact ⟨(BA_5.out.alloc _).at 1 rfl, src_w0 (SA_5.out.alloc _) i (by omega), src_w1 (SA_5.out.alloc _) i (by omega)⟩) | (exact ⟨(((((BA_5.out.other (by (try simp); (try omega)) _).other (by (try simp); (try omega)) _).other (by (try simp); (try omega)) _).other (by (try simp); (try omega)) _)).at 1 rfl, src_w0 (src_other (src_other (src_other (src_other SA_5.out (by (try simp); (try omega)) _) (by (try simp); (try omega)) _) (by (try simp); (try omega)) _) (by (try simp); (try omega)) _) i (by omega), src_w1 (src_other (src_other (src_other (src_other SA_5.out (by (try simp); (try omega)) _) (by (try simp); (try omega)) _) (by (try simp); (try omega)) _) (by (try simp); (try omega)) _) i (by omega)⟩))
            (first | (go_at_call 86; refine (l2Read_yes (f i) (f (i + 1)) _ HFi.out HRO.out).mono ?_; rintro e w5 ⟨s1, m1, o1, h5, rfl, hb, hv⟩; obtain ⟨rfl, rfl, rfl, rfl⟩ := hv (by trivial); have HB5 := Lib.hid (thru0 (below_ext (Below.refl wr.heap.size wr).drew (by first | exact .inl rfl | exact ext_drew _ _ | exact .inr ⟨_, rfl⟩)) hb); have SA_5 := Lib.hid ((SA_d.out.ext (by first | exact .inl rfl | exact ext_drew _ _ | exact .inr ⟨_, rfl⟩)).below hb); have BA_5 := Lib.hid ((BA_d.out.ext (by first | exact .inl rfl | exact ext_drew _ _ | exact .inr ⟨_, rfl⟩)).below hb); have z5 : wr.heap.size ≤ w5.heap.size := (by have := hb.size; simp at this; omega); (first | (have T5 := Lib.hid ((Blk.new_at (w := wr) (cs := #[.int .i64 0, .int .i64 0, .int .i64 0, .int .i64 0]) (t := 85) (wr.heap.size) rfl).drew.below hb)) | skip); clear hb; (first | (have lT := T5.out.1; have cT0 := T5.out.at 0 rfl; have fT0 := T5.out.free 0 rfl; have cT1 := T5.out.at 1 rfl; have fT1 := T5.out.free 1 rfl; have cT2 := T5.out.at 2 rfl; have fT2 := T5.out.free 2 rfl; have cT3 := T5.out.at 3 rfl; have fT3 := T5.out.free 3 rfl) | skip)))
          all_goals have hS := HS0'.out
          · refine then_named (fun w6 => Hid (Below wr.heap.size wr w6) ∧ Hid (Blk w6 (w5.heap.size) [.int .i64 (f i / 2 % 16), .int .i64 (f i / 32 % 4096), .int .i64 (f i / 131072), .int .i64 (f (i + 1))])) ⟨HB5.out.alloc HB5.out.size _, Blk.new_at _ rfl⟩ (fun w6 hF => ?_)
            obtain ⟨HB6, T6⟩ := hF
            clear HB5 SA_5 BA_5 SA_d BA_d
            rw [hS] at T6
            have z6 := HB6.out.size
            have lT6 := T6.out.1
            by_cases hfit : i + 2 + sN ≤ P + U
            · have hft : ¬ (P : Int) + (U : Int) < (i : Int) + ((sN : Int) + 2) := by omega
              go_wp2_with fail
              refine (l2Words_any _ (sN : Int) _ _ _ _ T6.out ⟨by omega, by omega⟩).mono ?_
              rintro e w' ⟨rfl, rfl⟩
              go_wp2_with fail
              refine (l2Words_any _ (sN : Int) _ _ _ _ T6.out ⟨by omega, by omega⟩).mono ?_
              rintro e w' ⟨rfl, rfl⟩
              go_wp2_with fail
              have BA6 := Lib.hid (BA_r.out.below HB6.out)
              have SA6 := Lib.hid (SA_r.out.below HB6.out)
              have OW6 := Lib.hid (ownsRow_below OW_r.out HB6.out)
              have FL6 := Lib.hid (FL_r.out.below HB6.out)
              have HB7 := Lib.hid (HB_r.out.trans (HB6.out.mono hzr))
              have hz7 := HB7.out.size
              have cB1 := BA6.out.at 1 rfl
              have cT0 := T6.out.at 0 rfl; have cT1 := T6.out.at 1 rfl; have cT2 := T6.out.at 2 rfl; have cT3 := T6.out.at 3 rfl
              have lb6 : b < w6.heap.size := by omega
              have hwj : IntKind.i64.wrap ((i : Int) + 2) = (i : Int) + 2 := IntWalk.i64_in _ (by omega)
              have hl0 : (0 : Int) ≤ (i : Int) + 2 := by omega
              have hl1 : (i : Int) + 2 ≤ (i : Int) + ((sN : Int) + 2) := by omega
              have hl2 : (i : Int) + ((sN : Int) + 2) ≤ (c : Int) := by omega
              have hl3 : ¬ (c : Int) < (i : Int) + ((sN : Int) + 2) := by omega
              have hl4 : ¬ (i : Int) + ((sN : Int) + 2) < (i : Int) + 2 := by omega
              have hl5 : ((i : Int) + 2).toNat = i + 2 := by omega
              have hl6 : ((i : Int) + ((sN : Int) + 2)).toNat = i + (sN + 2) := by omega
              have hl7 : i + (sN + 2) - (i + 2) = sN := by omega
              obtain ⟨ad, hif, hsrc⟩ : ∃ ad, (if c = i + 2 then some (⟨ab, ao, none⟩ : Addr) else some ⟨ab, ao + (i + 2), none⟩) = some ad ∧ Hid (Src w6 (some ad) sN (fun k => f (i + 2 + k))) := by
                by_cases hc2 : c = i + 2
                · exact ⟨_, by rw [if_pos hc2], Lib.hid (.inl (by omega))⟩
                · exact ⟨_, by rw [if_neg hc2], Lib.hid (src_sub SA6.out (by omega))⟩
              obtain ⟨j0, hj, hj0, hj1, hj2⟩ := info_parts Try.info87
              have hv4 : Hid (∀ k, Value.ownBlock u4 = some k → k < w6.heap.size) := Lib.hid (fun k hk => ownBlock_lt OW6.out hk)
              have hv5 : Hid (∀ k, Value.ownBlock u4 = some k → w.heap.size ≤ k) := Lib.hid (fun k hk => ownBlock_ge OW6.out hk)
              go_region_law (first | (go_simp; go_at_call 88; refine (l1Ints_all ad sN _ (fun k => f (i + 2 + k)) _ hsrc.out.drew (by omega)).mono ?_; rintro e w8 ⟨g, cap, rfl, hg1, hg2, hcl, hb, hca1, hca2⟩; have hg3 : w6.heap.size ≤ g := (by simpa using hg1); have HB8 := Lib.hid (thru0 (Below.refl w6.heap.size w6).drew hb); have z8 : w6.heap.size ≤ w8.heap.size := (by have := hb.size; simpa using this); have OW8 := Lib.hid (ownsRow_below OW6.out HB8.out); have HC8 := Lib.hid hcl; have T8 := Lib.hid (T6.out.below HB8.out); have dT0 := T8.out.at 0 rfl; have dT1 := T8.out.at 1 rfl; have dT2 := T8.out.at 2 rfl; have dT3 := T8.out.at 3 rfl; clear hb hcl hg1) | (refine step_append_lies _ rfl (.tmp 58) (.tmp 71) 76 rfl w.heap.size 87 j0 _ 6 64 Try.underlying76 hj hj0 hj1 hj2 rfl (by decide) u4 M.length (rowCells M) rfl (ownsRow_below OW8.out ((Below.refl _ _).alloc (Nat.le_refl _) _)) ⟨w8.heap.size, 0, none⟩ 1 1 [.int .i64 (i : Int), .int .i64 (sN : Int), .int .i64 (f i / 32 % 4096), .int .i64 (f i / 131072), .int .i64 (f (i + 1)), .slice (some ⟨g, 0, none⟩) sN cap] rfl rfl (fun j u hu => (by have := (Blk.new_at (w := w8) (cs := #[.int .i64 (i : Int), .int .i64 (sN : Int), .int .i64 (f i / 32 % 4096), .int .i64 (f i / 131072), .int .i64 (f (i + 1)), .slice (some ⟨g, 0, none⟩) sN cap]) (t := 87) (w8.heap.size) rfl).at j hu; rcases j with _ | j <;> simpa [Addr.add] using this)) (by intro u hu; simp only [List.mem_cons, List.mem_nil_iff, or_false] at hu; rcases hu with rfl | rfl | rfl | rfl | rfl | rfl <;> rfl) (by omega) (by unfold maxLen; omega) (by omega) (by simp; omega) (w8.heap.size + 1) (by simp) ?_; intro g2 cap2 w9 hown hgrow hat hlt9))
              all_goals have HB9 : Hid (Below w.heap.size w w9) := ((HB7.out.trans (HB8.out.mono hz7)).alloc (by omega) _).grown hgrow (by simp; omega) (fun k hk => hv5.out k hk)
              all_goals have z9 : w.heap.size + 1 ≤ w9.heap.size := by have := hgrow.size; simp at this; omega
              all_goals have heq : OM.cells ⟨objAt f i, g, cap⟩ = [.int .i64 (i : Int), .int .i64 (sN : Int), .int .i64 (f i / 32 % 4096), .int .i64 (f i / 131072), .int .i64 (f (i + 1)), .slice (some ⟨g, 0, none⟩) sN cap] := by simp [OM.cells, objAt, hS]
              all_goals have OW9 : Hid (w9.ownsRow w.heap.size 87 6 (.slice (some ⟨g2, 0, none⟩) (M.length + 1) cap2) (M ++ [(⟨objAt f i, g, cap⟩ : OM)]).length (rowCells (M ++ [(⟨objAt f i, g, cap⟩ : OM)]))) := Lib.hid (by have e : (M ++ [(⟨objAt f i, g, cap⟩ : OM)]).length = M.length + 1 := (by simp); rw [e, rowCells_snoc, heq]; exact hown)
              all_goals have FL9 : Hid (Flds w9 w.heap.size f (.slice (some ⟨g2, 0, none⟩) (M.length + 1) cap2) (M ++ [(⟨objAt f i, g, cap⟩ : OM)])) := Lib.hid (flds_append (objAt f i) g cap FL6.out (HB8.out.alloc HB8.out.size _) hgrow (by simpa using hat) hg3 (by simp; omega) hz7 hv4.out (fun k hk => by have hk' : k < sN := (by have : (objAt f i).s.toNat = sN := (by simp [objAt, hS]); omega); have hal := (Below.refl w8.heap.size w8).alloc (Nat.le_refl _) (.cells #[.int .i64 (i : Int), .int .i64 (sN : Int), .int .i64 (f i / 32 % 4096), .int .i64 (f i / 131072), .int .i64 (f (i + 1)), .slice (some ⟨g, 0, none⟩) sN cap] 87); exact ⟨(hal.cell (p := ⟨g, k, none⟩) hg2).trans (HC8.out k hk').1, (hal.frozen (p := ⟨g, k, none⟩) hg2).trans (HC8.out k hk').2⟩))
              all_goals have HPA9 : Hid (parse f (P + U) P = (parse f (P + U) (i + 2 + sN)).map ((M ++ [(⟨objAt f i, g, cap⟩ : OM)]).map OM.x ++ ·)) := Lib.hid (by have hg := parse_step HPA.out hlt ⟨by omega, hro, by rw [hsz]; omega⟩; rw [hsz] at hg; rw [List.map_append]; exact hg)
              all_goals clear hown hgrow hat HB8 OW8 HC8 T8 BA6 SA6 OW6 FL6 hsrc hv4 hv5 hif HPA FL_r OW_r
              all_goals go_wp2
              all_goals go_roundw
              all_goals first | exact ⟨i + 2 + sN, M ++ [⟨objAt f i, g, cap⟩], by omega, by congr 1; omega, HB9, z9, OW9, FL9, HPA9, by simp; omega⟩ | ((repeat apply Exists.intro); exact ⟨⟨i + 2 + sN, M ++ [⟨objAt f i, g, cap⟩], by omega, by congr 1; omega, HB9, z9, OW9, FL9, HPA9, by simp; omega⟩, rfl⟩) | (simp [intOf]; omega)
            · have hft : (P : Int) + (U : Int) < (i : Int) + ((sN : Int) + 2) := by omega
              have HPN : Hid (parse f (P + U) P = none) := Lib.hid (by rw [HPA.out, parse_bad hlt (fun hg => hfit (by have := hg.2.2; rw [hsz] at this; exact this))]; rfl)
              have HB7 := Lib.hid (HB_r.out.trans (HB6.out.mono hzr))
              go_wp2_with fail
              refine (l2Words_any _ (sN : Int) _ _ _ _ T6.out ⟨by omega, by omega⟩).mono ?_
              rintro e w' ⟨rfl, rfl⟩
              go_wp2
              exact bodyPost_ret (v := .tuple #[.slice none 0 0, .bool false]) (by simp [results, Try.results59, go_sem]) rfl ⟨HB7.out, .inl ⟨HPN.out, rfl⟩⟩
          · refine then_named (fun w6 => Hid (Below wr.heap.size wr w6) ∧ Hid (Blk w6 (wr.heap.size) [.int .i64 (f i / 2 % 16), .int .i64 (f i / 32 % 4096), .int .i64 (f i / 131072), .int .i64 (f (i + 1))])) ⟨((((HB5.out.setCell (by (try simp); (try omega)) _).setCell (by (try simp); (try omega)) _).setCell (by (try simp); (try omega)) _).setCell (by (try simp); (try omega)) _), ((((T5.out.set 0 (by simp) _).set 1 (by simp) _).set 2 (by simp) _).set 3 (by simp) _)⟩ (fun w6 hF => ?_)
            obtain ⟨HB6, T6⟩ := hF
            clear HB5 SA_5 BA_5 SA_d BA_d T5 lT cT0 fT0 cT1 fT1 cT2 fT2 cT3 fT3
            rw [hS] at T6
            have z6 := HB6.out.size
            have lT6 := T6.out.1
            by_cases hfit : i + 2 + sN ≤ P + U
            · have hft : ¬ (P : Int) + (U : Int) < (i : Int) + ((sN : Int) + 2) := by omega
              go_wp2_with fail
              refine (l2Words_any _ (sN : Int) _ _ _ _ T6.out ⟨by omega, by omega⟩).mono ?_
              rintro e w' ⟨rfl, rfl⟩
              go_wp2_with fail
              refine (l2Words_any _ (sN : Int) _ _ _ _ T6.out ⟨by omega, by omega⟩).mono ?_
              rintro e w' ⟨rfl, rfl⟩
              go_wp2_with fail
              have BA6 := Lib.hid (BA_r.out.below HB6.out)
              have SA6 := Lib.hid (SA_r.out.below HB6.out)
              have OW6 := Lib.hid (ownsRow_below OW_r.out HB6.out)
              have FL6 := Lib.hid (FL_r.out.below HB6.out)
              have HB7 := Lib.hid (HB_r.out.trans (HB6.out.mono hzr))
              have hz7 := HB7.out.size
              have cB1 := BA6.out.at 1 rfl
              have cT0 := T6.out.at 0 rfl; have cT1 := T6.out.at 1 rfl; have cT2 := T6.out.at 2 rfl; have cT3 := T6.out.at 3 rfl
              have lb6 : b < w6.heap.size := by omega
              have hwj : IntKind.i64.wrap ((i : Int) + 2) = (i : Int) + 2 := IntWalk.i64_in _ (by omega)
              have hl0 : (0 : Int) ≤ (i : Int) + 2 := by omega
              have hl1 : (i : Int) + 2 ≤ (i : Int) + ((sN : Int) + 2) := by omega
              have hl2 : (i : Int) + ((sN : Int) + 2) ≤ (c : Int) := by omega
              have hl3 : ¬ (c : Int) < (i : Int) + ((sN : Int) + 2) := by omega
              have hl4 : ¬ (i : Int) + ((sN : Int) + 2) < (i : Int) + 2 := by omega
              have hl5 : ((i : Int) + 2).toNat = i + 2 := by omega
              have hl6 : ((i : Int) + ((sN : Int) + 2)).toNat = i + (sN + 2) := by omega
              have hl7 : i + (sN + 2) - (i + 2) = sN := by omega
              obtain ⟨ad, hif, hsrc⟩ : ∃ ad, (if c = i + 2 then some (⟨ab, ao, none⟩ : Addr) else some ⟨ab, ao + (i + 2), none⟩) = some ad ∧ Hid (Src w6 (some ad) sN (fun k => f (i + 2 + k))) := by
                by_cases hc2 : c = i + 2
                · exact ⟨_, by rw [if_pos hc2], Lib.hid (.inl (by omega))⟩
                · exact ⟨_, by rw [if_neg hc2], Lib.hid (src_sub SA6.out (by omega))⟩
              obtain ⟨j0, hj, hj0, hj1, hj2⟩ := info_parts Try.info87
              have hv4 : Hid (∀ k, Value.ownBlock u4 = some k → k < w6.heap.size) := Lib.hid (fun k hk => ownBlock_lt OW6.out hk)
              have hv5 : Hid (∀ k, Value.ownBlock u4 = some k → w.heap.size ≤ k) := Lib.hid (fun k hk => ownBlock_ge OW6.out hk)
              go_region_law (first | (go_simp; go_at_call 88; refine (l1Ints_all ad sN _ (fun k => f (i + 2 + k)) _ hsrc.out.drew (by omega)).mono ?_; rintro e w8 ⟨g, cap, rfl, hg1, hg2, hcl, hb, hca1, hca2⟩; have hg3 : w6.heap.size ≤ g := (by simpa using hg1); have HB8 := Lib.hid (thru0 (Below.refl w6.heap.size w6).drew hb); have z8 : w6.heap.size ≤ w8.heap.size := (by have := hb.size; simpa using this); have OW8 := Lib.hid (ownsRow_below OW6.out HB8.out); have HC8 := Lib.hid hcl; have T8 := Lib.hid (T6.out.below HB8.out); have dT0 := T8.out.at 0 rfl; have dT1 := T8.out.at 1 rfl; have dT2 := T8.out.at 2 rfl; have dT3 := T8.out.at 3 rfl; clear hb hcl hg1) | (refine step_append_lies _ rfl (.tmp 58) (.tmp 71) 76 rfl w.heap.size 87 j0 _ 6 64 Try.underlying76 hj hj0 hj1 hj2 rfl (by decide) u4 M.length (rowCells M) rfl (ownsRow_below OW8.out ((Below.refl _ _).alloc (Nat.le_refl _) _)) ⟨w8.heap.size, 0, none⟩ 1 1 [.int .i64 (i : Int), .int .i64 (sN : Int), .int .i64 (f i / 32 % 4096), .int .i64 (f i / 131072), .int .i64 (f (i + 1)), .slice (some ⟨g, 0, none⟩) sN cap] rfl rfl (fun j u hu => (by have := (Blk.new_at (w := w8) (cs := #[.int .i64 (i : Int), .int .i64 (sN : Int), .int .i64 (f i / 32 % 4096), .int .i64 (f i / 131072), .int .i64 (f (i + 1)), .slice (some ⟨g, 0, none⟩) sN cap]) (t := 87) (w8.heap.size) rfl).at j hu; rcases j with _ | j <;> simpa [Addr.add] using this)) (by intro u hu; simp only [List.mem_cons, List.mem_nil_iff, or_false] at hu; rcases hu with rfl | rfl | rfl | rfl | rfl | rfl <;> rfl) (by omega) (by unfold maxLen; omega) (by omega) (by simp; omega) (w8.heap.size + 1) (by simp) ?_; intro g2 cap2 w9 hown hgrow hat hlt9))
              all_goals have HB9 : Hid (Below w.heap.size w w9) := ((HB7.out.trans (HB8.out.mono hz7)).alloc (by omega) _).grown hgrow (by simp; omega) (fun k hk => hv5.out k hk)
              all_goals have z9 : w.heap.size + 1 ≤ w9.heap.size := by have := hgrow.size; simp at this; omega
              all_goals have heq : OM.cells ⟨objAt f i, g, cap⟩ = [.int .i64 (i : Int), .int .i64 (sN : Int), .int .i64 (f i / 32 % 4096), .int .i64 (f i / 131072), .int .i64 (f (i + 1)), .slice (some ⟨g, 0, none⟩) sN cap] := by simp [OM.cells, objAt, hS]
              all_goals have OW9 : Hid (w9.ownsRow w.heap.size 87 6 (.slice (some ⟨g2, 0, none⟩) (M.length + 1) cap2) (M ++ [(⟨objAt f i, g, cap⟩ : OM)]).length (rowCells (M ++ [(⟨objAt f i, g, cap⟩ : OM)]))) := Lib.hid (by have e : (M ++ [(⟨objAt f i, g, cap⟩ : OM)]).length = M.length + 1 := (by simp); rw [e, rowCells_snoc, heq]; exact hown)
              all_goals have FL9 : Hid (Flds w9 w.heap.size f (.slice (some ⟨g2, 0, none⟩) (M.length + 1) cap2) (M ++ [(⟨objAt f i, g, cap⟩ : OM)])) := Lib.hid (flds_append (objAt f i) g cap FL6.out (HB8.out.alloc HB8.out.size _) hgrow (by simpa using hat) hg3 (by simp; omega) hz7 hv4.out (fun k hk => by have hk' : k < sN := (by have : (objAt f i).s.toNat = sN := (by simp [objAt, hS]); omega); have hal := (Below.refl w8.heap.size w8).alloc (Nat.le_refl _) (.cells #[.int .i64 (i : Int), .int .i64 (sN : Int), .int .i64 (f i / 32 % 4096), .int .i64 (f i / 131072), .int .i64 (f (i + 1)), .slice (some ⟨g, 0, none⟩) sN cap] 87); exact ⟨(hal.cell (p := ⟨g, k, none⟩) hg2).trans (HC8.out k hk').1, (hal.frozen (p := ⟨g, k, none⟩) hg2).trans (HC8.out k hk').2⟩))
              all_goals have HPA9 : Hid (parse f (P + U) P = (parse f (P + U) (i + 2 + sN)).map ((M ++ [(⟨objAt f i, g, cap⟩ : OM)]).map OM.x ++ ·)) := Lib.hid (by have hg := parse_step HPA.out hlt ⟨by omega, hro, by rw [hsz]; omega⟩; rw [hsz] at hg; rw [List.map_append]; exact hg)
              all_goals clear hown hgrow hat HB8 OW8 HC8 T8 BA6 SA6 OW6 FL6 hsrc hv4 hv5 hif HPA FL_r OW_r
              all_goals go_wp2
              all_goals go_roundw
              all_goals first | exact ⟨i + 2 + sN, M ++ [⟨objAt f i, g, cap⟩], by omega, by congr 1; omega, HB9, z9, OW9, FL9, HPA9, by simp; omega⟩ | ((repeat apply Exists.intro); exact ⟨⟨i + 2 + sN, M ++ [⟨objAt f i, g, cap⟩], by omega, by congr 1; omega, HB9, z9, OW9, FL9, HPA9, by simp; omega⟩, rfl⟩) | (simp [intOf]; omega)
            · have hft : (P : Int) + (U : Int) < (i : Int) + ((sN : Int) + 2) := by omega
              have HPN : Hid (parse f (P + U) P = none) := Lib.hid (by rw [HPA.out, parse_bad hlt (fun hg => hfit (by have := hg.2.2; rw [hsz] at this; exact this))]; rfl)
              have HB7 := Lib.hid (HB_r.out.trans (HB6.out.mono hzr))
              go_wp2_with fail
              refine (l2Words_any _ (sN : Int) _ _ _ _ T6.out ⟨by omega, by omega⟩).mono ?_
              rintro e w' ⟨rfl, rfl⟩
              go_wp2
              exact bodyPost_ret (v := .tuple #[.slice none 0 0, .bool false]) (by simp [results, Try.results59, go_sem]) rfl ⟨HB7.out, .inl ⟨HPN.out, rfl⟩⟩
        · have HRO := Lib.hid hro
          have hpn0 : Hid (parse f (P + U) P = none) := Lib.hid (by rw [HPA.out, parse_bad hlt (fun hg => hro hg.2.1)]; rfl)
          go_region_held3 (fun w' => w'.cell? ⟨b, 1, none⟩ = some (.slice (some ⟨ab, ao, none⟩) n c) ∧ w'.cell? ⟨ab, ao + i, none⟩ = some (.int .i64 (f i)) ∧ w'.cell? ⟨ab, ao + (i + 1), none⟩ = some (.int .i64 (f (i + 1))))
            (first | (with_reducible exact ⟨(BA_r.out).at 1 rfl, src_w0 (SA_r.out) i (by omega), src_w1 (SA_r.out) i (by omega)⟩) | (with_reducible exact ⟨(BA_d.out).at 1 rfl, src_w0 (SA_d.out) i (by omega), src_w1 (SA_d.out) i (by omega)⟩) | (with_reducible exact ⟨((BA_r.out.alloc _).drew).at 1 rfl, src_w0 ((SA_r.out.alloc _).drew) i (by omega), src_w1 ((SA_r.out.alloc _).drew) i (by omega)⟩) | (with_reducible exact ⟨(BA_5.out).at 1 rfl, src_w0 (SA_5.out) i (by omega), src_w1 (SA_5.out) i (by omega)⟩) | (with_reducible exact ⟨(BA_5.out.alloc _).at 1 rfl, src_w0 (SA_5.out.alloc _) i (by omega), src_w1 (SA_5.out.alloc _) i (by omega)⟩) | (exact ⟨(((((BA_5.out.other (by (try simp); (try omega)) _).other (by (try simp); (try omega)) _).other (by (try simp); (try omega)) _).other (by (try simp); (try omega)) _)).at 1 rfl, src_w0 (src_other (src_other (src_other (src_other SA_5.out (by (try simp); (try omega)) _) (by (try simp); (try omega)) _) (by (try simp); (try omega)) _) (by (try simp); (try omega)) _) i (by omega), src_w1 (src_other (src_other (src_other (src_other SA_5.out (by (try simp); (try omega)) _) (by (try simp); (try omega)) _) (by (try simp); (try omega)) _) (by (try simp); (try omega)) _) i (by omega)⟩))
            (first | (go_at_call 86; refine (l2Read_no (f i) (f (i + 1)) _ HFi.out HRO.out).mono ?_; rintro e w5 ⟨s1, m1, o1, h5, rfl, hb, hv⟩; clear hv; have HB5 := Lib.hid (thru0 (below_ext (Below.refl wr.heap.size wr).drew (by first | exact .inl rfl | exact ext_drew _ _ | exact .inr ⟨_, rfl⟩)) hb); have SA_5 := Lib.hid ((SA_d.out.ext (by first | exact .inl rfl | exact ext_drew _ _ | exact .inr ⟨_, rfl⟩)).below hb); have BA_5 := Lib.hid ((BA_d.out.ext (by first | exact .inl rfl | exact ext_drew _ _ | exact .inr ⟨_, rfl⟩)).below hb); have z5 : wr.heap.size ≤ w5.heap.size := (by have := hb.size; simp at this; omega); (first | (have T5 := Lib.hid ((Blk.new_at (w := wr) (cs := #[.int .i64 0, .int .i64 0, .int .i64 0, .int .i64 0]) (t := 85) (wr.heap.size) rfl).drew.below hb)) | skip); clear hb; (first | (have lT := T5.out.1; have cT0 := T5.out.at 0 rfl; have fT0 := T5.out.free 0 rfl; have cT1 := T5.out.at 1 rfl; have fT1 := T5.out.free 1 rfl; have cT2 := T5.out.at 2 rfl; have fT2 := T5.out.free 2 rfl; have cT3 := T5.out.at 3 rfl; have fT3 := T5.out.free 3 rfl) | skip)))
          · refine then_named (fun w6 => Hid (Below wr.heap.size wr w6) ∧ Hid (Blk w6 (w5.heap.size) [.int .i64 s1, .int .i64 m1, .int .i64 o1, .int .i64 h5])) ⟨HB5.out.alloc HB5.out.size _, Blk.new_at _ rfl⟩ (fun w6 hF => ?_)
            obtain ⟨HB6, T6⟩ := hF
            clear HB5 SA_5 BA_5 SA_d BA_d
            have hpn := hpn0.out
            have HB7 := Lib.hid (HB_r.out.trans (HB6.out.mono hzr))
            have HPN := Lib.hid hpn
            clear hpn
            go_wp2
            exact bodyPost_ret (v := .tuple #[.slice none 0 0, .bool false]) (by simp [results, Try.results59, go_sem]) rfl ⟨HB7.out, .inl ⟨HPN.out, rfl⟩⟩
          · refine then_named (fun w6 => Hid (Below wr.heap.size wr w6) ∧ Hid (Blk w6 (wr.heap.size) [.int .i64 s1, .int .i64 m1, .int .i64 o1, .int .i64 h5])) ⟨((((HB5.out.setCell (by (try simp); (try omega)) _).setCell (by (try simp); (try omega)) _).setCell (by (try simp); (try omega)) _).setCell (by (try simp); (try omega)) _), ((((T5.out.set 0 (by simp) _).set 1 (by simp) _).set 2 (by simp) _).set 3 (by simp) _)⟩ (fun w6 hF => ?_)
            obtain ⟨HB6, T6⟩ := hF
            clear HB5 SA_5 BA_5 SA_d BA_d T5 lT cT0 fT0 cT1 fT1 cT2 fT2 cT3 fT3
            have hpn := hpn0.out
            have HB7 := Lib.hid (HB_r.out.trans (HB6.out.mono hzr))
            have HPN := Lib.hid hpn
            clear hpn
            go_wp2
            exact bodyPost_ret (v := .tuple #[.slice none 0 0, .bool false]) (by simp [results, Try.results59, go_sem]) rfl ⟨HB7.out, .inl ⟨HPN.out, rfl⟩⟩
      · have h2e' : ((P + U : Nat) : Int) < (i : Int) + 2 := by omega
        have hpn : Hid (parse f (P + U) P = none) := Lib.hid (by rw [HPA.out, parse_bad hlt (fun hg => h2e (by have := hg.1; omega))]; rfl)
        go_wp2
        exact bodyPost_ret (v := .tuple #[.slice none 0 0, .bool false]) (by simp [results, Try.results59, go_sem]) rfl ⟨HB_r.out, .inl ⟨hpn.out, rfl⟩⟩
    · have hlt' : ¬ (i : Int) < ((P + U : Nat) : Int) := by omega
      have hpn : Hid (parse f (P + U) P = some (M.map OM.x)) := Lib.hid (by rw [HPA.out, parse_stop hlt]; simp)
      go_wp2
      exact bodyPost_ret (v := .tuple #[u4, .bool true]) (by simp [results, Try.results59, go_sem]) rfl ⟨HB_r.out, .inr ⟨_, M, hpn.out, rfl, OW_r.out, FL_r.out⟩⟩
end Go.Proofs.Ytnacdhnnpddccaa

namespace Go.Proofs.Ytnacdhnnpddccaa
open Go.RowKit
set_option linter.unusedVariables false

theorem rowCells_get : ∀ (M : List OM) (i : Nat) (t : OM), M[i]? = some t → ∀ j, j < 6 → (rowCells M)[i * 6 + j]? = t.cells[j]?
  | [], i, t, h, j, hj => by simp at h
  | u :: M, 0, t, h, j, hj => by
    simp only [List.getElem?_cons_zero, Option.some.injEq] at h
    subst h
    simp only [rowCells, List.flatMap_cons, Nat.zero_mul, Nat.zero_add]
    rw [List.getElem?_append_left (by simp [OM.cells]; omega)]
  | u :: M, i + 1, t, h, j, hj => by
    have ih := rowCells_get M i t (by simpa using h) j hj
    simp only [rowCells, List.flatMap_cons] at ih ⊢
    rw [List.getElem?_append_right (by simp [OM.cells]; omega)]
    have e : (i + 1) * 6 + j - u.cells.length = i * 6 + j := by simp [OM.cells]; omega
    rw [e]; exact ih

/-- What a row of objects holds at a place. -/
def ObAt (w : World) (gb i : Nat) (t : OM) : Prop := ∀ j u, t.cells[j]? = some u → w.cell? ⟨gb, i * 6 + j, none⟩ = some u

theorem row_form {w : World} {base : Nat} {v : Value} {M : List OM} (h : w.ownsRow base 87 6 v M.length (rowCells M)) (h0 : 0 < M.length) :
    ∃ gb cap, v = .slice (some ⟨gb, 0, none⟩) M.length cap ∧ base ≤ gb ∧ gb < w.heap.size ∧ ∀ i t, M[i]? = some t → ObAt w gb i t := by
  obtain ⟨gb, cap, rfl, hb, hlt⟩ := h.form h0
  refine ⟨gb, cap, rfl, hb, hlt, fun i t ht j u hu => ?_⟩
  have hi : i < M.length := (List.getElem?_eq_some_iff.mp ht).1
  have hj : j < 6 := by
    have := (List.getElem?_eq_some_iff.mp hu).1
    simpa [OM.cells] using this
  have hc := h.cellAt (i * 6 + j) (by omega)
  rw [rowCells_get M i t ht j hj, hu] at hc
  simpa using hc

theorem row_nil {w : World} {base : Nat} {v : Value} {M : List OM} (h : w.ownsRow base 87 6 v M.length (rowCells M)) : ∃ a cap, v = .slice a M.length cap := by
  rcases h.2 with ⟨h1, h2⟩ | ⟨g, cap, cur, h1, _⟩
  · exact ⟨none, 0, by rw [h1, h2]⟩
  · exact ⟨_, cap, h1⟩

/-- The fields of an object in memory. -/
theorem Flds.src {w : World} {lo : Nat} {f : Nat → Int} {v : Value} {M : List OM} (h : Flds w lo f v M) {t : OM} (ht : t ∈ M) : Src w (some ⟨t.g, 0, none⟩) t.x.s.toNat (fun k => f (t.x.at_.toNat + 2 + k)) := by
  obtain ⟨_, a2, _, a4⟩ := h.1 t ht
  exact .inr ⟨t.g, 0, rfl, a2, fun k hk => by rw [Nat.zero_add]; exact (a4 k hk).1⟩

theorem ObAt.below {w w' : World} {gb i : Nat} {t : OM} (h : ObAt w gb i t) (hb : Below w.heap.size w w') (hg : gb < w.heap.size) : ObAt w' gb i t := fun j u hu => (hb.cell (p := ⟨gb, i * 6 + j, none⟩) hg).trans (h j u hu)

/-- The six cells of an object, written out. -/
def Six (w : World) (gb o : Nat) (x : Ob) (g c : Nat) : Prop := w.cell? ⟨gb, o, none⟩ = some (.int .i64 x.at_) ∧ w.cell? ⟨gb, o + 1, none⟩ = some (.int .i64 x.s) ∧ w.cell? ⟨gb, o + 2, none⟩ = some (.int .i64 x.m) ∧ w.cell? ⟨gb, o + 3, none⟩ = some (.int .i64 x.o) ∧ w.cell? ⟨gb, o + 4, none⟩ = some (.int .i64 x.h) ∧ w.cell? ⟨gb, o + 5, none⟩ = some (.slice (some ⟨g, 0, none⟩) x.s.toNat c)

theorem ObAt.six {w : World} {gb i : Nat} {t : OM} (h : ObAt w gb i t) : Six w gb (i * 6) t.x t.g t.c :=
  ⟨h 0 _ rfl, h 1 _ rfl, h 2 _ rfl, h 3 _ rfl, h 4 _ rfl, h 5 _ rfl⟩

theorem Six.below {w w' : World} {gb o : Nat} {x : Ob} {g c : Nat} (h : Six w gb o x g c) (hb : Below w.heap.size w w') (hg : gb < w.heap.size) : Six w' gb o x g c :=
  ⟨(hb.cell (p := ⟨gb, o, none⟩) hg).trans h.1, (hb.cell (p := ⟨gb, o + 1, none⟩) hg).trans h.2.1, (hb.cell (p := ⟨gb, o + 2, none⟩) hg).trans h.2.2.1, (hb.cell (p := ⟨gb, o + 3, none⟩) hg).trans h.2.2.2.1, (hb.cell (p := ⟨gb, o + 4, none⟩) hg).trans h.2.2.2.2.1, (hb.cell (p := ⟨gb, o + 5, none⟩) hg).trans h.2.2.2.2.2⟩
end Go.Proofs.Ytnacdhnnpddccaa

namespace Go.Proofs.Ytnacdhnnpddccaa
open Go.RowKit
set_option linter.unusedVariables false

/-- A code and objects come back, in memory of the call's own. -/
def RetOR (W : World) (f : Nat → Int) (co : Int) (L : List Ob) (e : Ending) (w' : World) : Prop :=
  ∃ v M, e = .returned (.agg #[.int .i64 co, v]) ∧ M.map OM.x = L ∧ w'.ownsRow W.heap.size 87 6 v M.length (rowCells M) ∧ Flds w' W.heap.size f v M ∧ Below W.heap.size W w'

/-- What ObjectsIn answers. -/
def IsOI (h : Int) (n : Nat) (f : Nat → Int) (ac bu co : Int) (L : List Ob) : Prop :=
  (∃ k, IsFault h n f ac bu k ∧ ¬ k = 0 ∧ co = k ∧ L = []) ∨
  (IsFault h n f ac bu 0 ∧ parse f ((baseI ac h).toNat + bu.toNat) (baseI ac h).toNat = none ∧ co = 1 ∧ L = []) ∨
  (IsFault h n f ac bu 0 ∧ parse f ((baseI ac h).toNat + bu.toNat) (baseI ac h).toNat = some L ∧ co = 0)

theorem isOI_some (h : Int) (n : Nat) (f : Nat → Int) (ac bu : Int) : ∃ co L, IsOI h n f ac bu co L := by
  obtain ⟨k, hk⟩ := isFault_some h n f ac bu
  by_cases h0 : k = 0
  · subst h0
    cases hp : parse f ((baseI ac h).toNat + bu.toNat) (baseI ac h).toNat with
    | none => exact ⟨1, [], .inr (.inl ⟨hk, hp, rfl, rfl⟩)⟩
    | some L => exact ⟨0, L, .inr (.inr ⟨hk, hp, rfl⟩)⟩
  · exact ⟨k, [], .inl ⟨k, hk, h0, rfl, rfl⟩⟩

theorem ownsRow_mono {w : World} {base base' e size n : Nat} {v : Value} {xs : List Value} (h : w.ownsRow base e size v n xs) (hb : base' ≤ base) : w.ownsRow base' e size v n xs := by
  refine ⟨h.1, ?_⟩
  rcases h.2 with h0 | ⟨g, cap, cur, h1, h2, h3⟩
  · exact .inl h0
  · exact .inr ⟨g, cap, cur, h1, by omega, h3⟩

theorem ownsRow_other {w : World} {base e size n : Nat} {v : Value} {xs : List Value} (h : w.ownsRow base e size v n xs) {p : Addr} (hp : p.block < base) (u : Value) : (w.setCell p u).ownsRow base e size v n xs := by
  refine ⟨h.1, ?_⟩
  rcases h.2 with h0 | ⟨g, cap, cur, h1, h2, h3, h4⟩
  · exact .inl h0
  · exact .inr ⟨g, cap, cur, h1, h2, (Below.heap_setCell w p u g (by omega)).trans h3, h4⟩

theorem Flds.mono {w : World} {lo lo' : Nat} {f : Nat → Int} {v : Value} {M : List OM} (h : Flds w lo f v M) (hl : lo' ≤ lo) : Flds w lo' f v M :=
  ⟨fun t ht => by obtain ⟨a1, a2⟩ := h.1 t ht; exact ⟨Nat.le_trans hl a1, a2⟩, h.2⟩

theorem Flds.other {w : World} {lo : Nat} {f : Nat → Int} {v : Value} {M : List OM} (h : Flds w lo f v M) {p : Addr} (hp : p.block < lo) (u : Value) : Flds (w.setCell p u) lo f v M :=
  ⟨fun t ht => by
    obtain ⟨a1, a2, a3, a4⟩ := h.1 t ht
    have e : (w.setCell p u).heap[t.g]? = w.heap[t.g]? := Below.heap_setCell w p u t.g (by omega)
    exact ⟨a1, by simpa using a2, a3, fun k hk => ⟨(World.cell?_of_block (w := w) (a := ⟨t.g, k, none⟩) e).trans (a4 k hk).1, (World.frozen?_of_block (w := w) (a := ⟨t.g, k, none⟩) e).trans (a4 k hk).2⟩⟩, h.2⟩

theorem flds_nil (w : World) (lo : Nat) (f : Nat → Int) (v : Value) : Flds w lo f v [] := ⟨fun t ht => (by cases ht), List.Pairwise.nil⟩

theorem retOR_err {W w' : World} {f : Nat → Int} {co : Int} (hb : Below W.heap.size W w') : RetOR W f co [] (.returned (.agg #[.int .i64 co, .slice none 0 0])) w' :=
  ⟨.slice none 0 0, [], rfl, rfl, ⟨rfl, .inl ⟨rfl, rfl⟩⟩, flds_nil _ _ _ _, hb⟩

/-- No object of an arena has more than twelve fields. -/
theorem parse_sizes {f : Nat → Int} {e : Nat} : ∀ (d a : Nat) (L : List Ob), e - a ≤ d → parse f e a = some L → ∀ x ∈ L, 0 ≤ x.s ∧ x.s ≤ 12
  | 0, a, L, hd, hp, x, hx => by
    rw [parse_stop (by omega)] at hp
    cases hp; cases hx
  | d + 1, a, L, hd, hp, x, hx => by
    by_cases h : a < e
    · by_cases hg : Good f e a
      · rw [parse_good h hg] at hp
        obtain ⟨L', hp', rfl⟩ := Option.map_eq_some_iff.mp hp
        rcases List.mem_cons.mp hx with rfl | hx
        · have := good_size hg; exact ⟨this.1, this.2.1⟩
        · exact parse_sizes d _ L' (by omega) hp' x hx
      · rw [parse_bad h hg] at hp; cases hp
    · rw [parse_stop h] at hp
      cases hp; cases hx

theorem parse_length {f : Nat → Int} {e : Nat} : ∀ (d a : Nat) (L : List Ob), e - a ≤ d → parse f e a = some L → L.length ≤ e - a
  | 0, a, L, hd, hp => by
    rw [parse_stop (by omega)] at hp
    cases hp; simp
  | d + 1, a, L, hd, hp => by
    by_cases h : a < e
    · by_cases hg : Good f e a
      · rw [parse_good h hg] at hp
        obtain ⟨L', hp', rfl⟩ := Option.map_eq_some_iff.mp hp
        have ih := parse_length d _ L' (by omega) hp'
        simp only [List.length_cons]; omega
      · rw [parse_bad h hg] at hp; cases hp
    · rw [parse_stop h] at hp
      cases hp; simp

set_option maxHeartbeats 800000 in
theorem specOI_fault (h ac bu : Int) (a : Option Addr) (n c : Nat) (f : Nat → Int) (k : Int) (w : World) (hs : Src w a n f) (hcn : n ≤ c) (hcm : c ≤ maxLen) (hk : IsFault h n f ac bu k) (h0 : ¬ k = 0) :
    Calls Try.prog 101 #[.agg #[.int .i64 h, .slice a n c, .int .i64 ac, .int .i64 bu]] w (RetOR w f k []) := by
  have hd : (k != 0) = true := by simpa using h0
  have HS := Lib.hid hs
  have HK := Lib.hid hk
  clear hs hk
  go_enter Try.func101, Try.ntmps101
  go_wp2_with fail
  refine (specFault_any _ _ _ _ _ _ f k _ ((HS.out.alloc _).alloc _) HK.out).mono ?_
  rintro e w1 ⟨rfl, hb⟩
  have HB1 : Hid (Below w.heap.size w w1) := thru2 (Below.refl _ _) hb
  have z1 : w.heap.size + 2 ≤ w1.heap.size := by have := hb.size; simp at this; omega
  have HS_1 := Lib.hid (((HS.out.alloc _).alloc _).below hb)
  have H_1 := Lib.hid (((Blk.new_at (w.heap.size) (by simp)).alloc _).below hb)
  have R_1 := Lib.hid ((Blk.new_at (w.heap.size + 1) (by simp)).below hb)
  clear hb HS
  have lR := R_1.out.1
  have cR0 := R_1.out.at 0 rfl
  have cR1 := R_1.out.at 1 rfl
  have fR0 := R_1.out.free 0 rfl
  have fR1 := R_1.out.free 1 rfl
  go_wp2
  have hz := HB1.out.size
  refine bodyPost_ret (v := .agg #[.int .i64 k, .slice none 0 0]) (by simp [results, Try.results101, go_sem, cR0, cR1]) rfl (retOR_err ?_)
  repeat (with_reducible refine Below.setCell ?_ (by (try simp); (try omega)) _)
  exact HB1.out

set_option maxHeartbeats 1600000 in
theorem specOI_none (h ac : Int) (P U : Nat) (ab ao n c : Nat) (f : Nat → Int) (L : List Ob) (w : World) (hs : Src w (some ⟨ab, ao, none⟩) n f) (hcn : n ≤ c) (hcm : c ≤ maxLen) (hk : IsFault h n f ac (U : Int) 0) (hP : baseI ac h = (P : Int)) (hp : parse f (P + U) P = none) :
    Calls Try.prog 101 #[.agg #[.int .i64 h, .slice (some ⟨ab, ao, none⟩) n c, .int .i64 ac, .int .i64 (U : Int)]] w (RetOR w f 1 []) := by
  obtain ⟨⟨⟨g1, g2⟩, ⟨g3, g4⟩, g5, g6⟩, gn, gw⟩ := isFault_ok hk
  have HWD : Hid (∀ i, i < n → f i ≤ 9223372036854775807) := Lib.hid (fun i hi => by have := gw i hi; unfold Word at this; omega)
  have hPU : P + U ≤ n := by rcases (by omega : ac = 0 ∨ ac = 1) with rfl | rfl <;> simp [baseI] at hP <;> omega
  have hn4 : n ≤ 400 := by omega
  clear gn gw
  have HS := Lib.hid hs
  have HK := Lib.hid hk
  have HPP := Lib.hid hp
  have HCM := Lib.hid hcm
  clear hs hk hp hcm
  go_enter Try.func101, Try.ntmps101
  go_wp2_with fail
  refine (specFault_any _ _ _ _ _ _ f 0 _ ((HS.out.alloc _).alloc _) HK.out).mono ?_
  rintro e w1 ⟨rfl, hb⟩
  have HB1 : Hid (Below w.heap.size w w1) := thru2 (Below.refl _ _) hb
  have z1 : w.heap.size + 2 ≤ w1.heap.size := by have := hb.size; simp at this; omega
  have HS_1 := Lib.hid (((HS.out.alloc _).alloc _).below hb)
  have H_1 := Lib.hid (((Blk.new_at (w.heap.size) (by simp)).alloc _).below hb)
  have R_1 := Lib.hid ((Blk.new_at (w.heap.size + 1) (by simp)).below hb)
  clear hb HS
  go_wp2_with fail
  refine (l3Objects_any (w.heap.size) P U h ac ab ao n c f _ H_1.out HS_1.out g1 g2 g3 g4 hP hPU hn4 hcn HCM.out HWD.out).mono ?_
  rintro e w2 ⟨hb, hr⟩
  rw [HPP.out] at hr
  have HB2 := Lib.hid (thru0 HB1.out hb)
  have R_2 := Lib.hid (R_1.out.below hb)
  have hz12 : w1.heap.size ≤ w2.heap.size := hb.size
  clear hb R_1 H_1 HS_1
  obtain ⟨_, rfl⟩ | ⟨v, M, hx, _⟩ := hr
  case inr => cases hx
  have cR0 := R_2.out.at 0 rfl; have cR1 := R_2.out.at 1 rfl; have fR0 := R_2.out.free 0 rfl; have fR1 := R_2.out.free 1 rfl; have lR := R_2.out.1
  go_wp2
  have hz := HB2.out.size
  refine bodyPost_ret (v := .agg #[.int .i64 1, .slice none 0 0]) (by simp [results, Try.results101, go_sem, cR0, cR1]) rfl (retOR_err ?_)
  repeat (with_reducible refine Below.setCell ?_ (by (try simp); (try omega)) _)
  exact HB2.out

set_option maxHeartbeats 1600000 in
theorem specOI_some (h ac : Int) (P U : Nat) (ab ao n c : Nat) (f : Nat → Int) (L : List Ob) (w : World) (hs : Src w (some ⟨ab, ao, none⟩) n f) (hcn : n ≤ c) (hcm : c ≤ maxLen) (hk : IsFault h n f ac (U : Int) 0) (hP : baseI ac h = (P : Int)) (hp : parse f (P + U) P = some L) :
    Calls Try.prog 101 #[.agg #[.int .i64 h, .slice (some ⟨ab, ao, none⟩) n c, .int .i64 ac, .int .i64 (U : Int)]] w (RetOR w f 0 L) := by
  obtain ⟨⟨⟨g1, g2⟩, ⟨g3, g4⟩, g5, g6⟩, gn, gw⟩ := isFault_ok hk
  have HWD : Hid (∀ i, i < n → f i ≤ 9223372036854775807) := Lib.hid (fun i hi => by have := gw i hi; unfold Word at this; omega)
  have hPU : P + U ≤ n := by rcases (by omega : ac = 0 ∨ ac = 1) with rfl | rfl <;> simp [baseI] at hP <;> omega
  have hn4 : n ≤ 400 := by omega
  clear gn gw
  have HS := Lib.hid hs
  have HK := Lib.hid hk
  have HPP := Lib.hid hp
  have HCM := Lib.hid hcm
  clear hs hk hp hcm
  go_enter Try.func101, Try.ntmps101
  go_wp2_with fail
  refine (specFault_any _ _ _ _ _ _ f 0 _ ((HS.out.alloc _).alloc _) HK.out).mono ?_
  rintro e w1 ⟨rfl, hb⟩
  have HB1 : Hid (Below w.heap.size w w1) := thru2 (Below.refl _ _) hb
  have z1 : w.heap.size + 2 ≤ w1.heap.size := by have := hb.size; simp at this; omega
  have HS_1 := Lib.hid (((HS.out.alloc _).alloc _).below hb)
  have H_1 := Lib.hid (((Blk.new_at (w.heap.size) (by simp)).alloc _).below hb)
  have R_1 := Lib.hid ((Blk.new_at (w.heap.size + 1) (by simp)).below hb)
  clear hb HS
  go_wp2_with fail
  refine (l3Objects_any (w.heap.size) P U h ac ab ao n c f _ H_1.out HS_1.out g1 g2 g3 g4 hP hPU hn4 hcn HCM.out HWD.out).mono ?_
  rintro e w2 ⟨hb, hr⟩
  rw [HPP.out] at hr
  have HB2 := Lib.hid (thru0 HB1.out hb)
  have R_2 := Lib.hid (R_1.out.below hb)
  have hz12 : w1.heap.size ≤ w2.heap.size := hb.size
  clear hb R_1 H_1 HS_1
  obtain ⟨hx, _⟩ | ⟨v, M, hx, rfl, hown, hfl⟩ := hr
  case inl => cases hx
  simp only [Option.some.injEq] at hx
  subst hx
  have OW2 := Lib.hid hown
  have FL2 := Lib.hid hfl
  clear hown hfl HPP
  obtain ⟨av, kv, hv⟩ := row_nil OW2.out
  have HV := Lib.hid hv
  clear hv
  have cR0 := R_2.out.at 0 rfl; have cR1 := R_2.out.at 1 rfl; have fR0 := R_2.out.free 0 rfl; have fR1 := R_2.out.free 1 rfl; have lR := R_2.out.1
  have hz := HB2.out.size
  have hv0 := HV.out
  generalize hm : M.length = mm at hv0
  subst hv0
  go_wp2
  refine bodyPost_ret (v := .agg #[.int .i64 0, .slice av mm kv]) (by simp [results, Try.results101, go_sem, cR0, cR1]) rfl ⟨.slice av mm kv, M, rfl, rfl, ?_, ?_, ?_⟩
  · refine ownsRow_mono (base := w1.heap.size) ?_ (by omega)
    repeat (with_reducible refine ownsRow_other ?_ (by (try simp); (try omega)) _)
    exact OW2.out
  · refine Flds.mono (lo := w1.heap.size) ?_ (by omega)
    repeat (with_reducible refine Flds.other ?_ (by (try simp); (try omega)) _)
    exact FL2.out
  · repeat (with_reducible refine Below.setCell ?_ (by (try simp); (try omega)) _)
    exact HB2.out

theorem specOI_any (h ac bu : Int) (a : Option Addr) (n c : Nat) (f : Nat → Int) (co : Int) (L : List Ob) (w : World) (hs : Src w a n f) (hcn : n ≤ c) (hcm : c ≤ maxLen) (hk : IsOI h n f ac bu co L) : Calls Try.prog 101 #[.agg #[.int .i64 h, .slice a n c, .int .i64 ac, .int .i64 bu]] w (RetOR w f co L) := by
  rcases hk with ⟨k, h1, h2, rfl, rfl⟩ | ⟨h1, h2, rfl, rfl⟩ | ⟨h1, h2, rfl⟩
  · exact specOI_fault h ac bu a n c f co w hs hcn hcm h1 h2
  · obtain ⟨⟨⟨g1, g2⟩, ⟨g3, g4⟩, g5, g6⟩, gn, gw⟩ := isFault_ok h1
    have hb := baseI_bd (ac := ac) g1
    obtain ⟨P, hP⟩ : ∃ P : Nat, baseI ac h = (P : Int) := ⟨(baseI ac h).toNat, by omega⟩
    obtain ⟨U, rfl⟩ : ∃ U : Nat, bu = (U : Int) := ⟨bu.toNat, by omega⟩
    obtain ⟨ab, ao, rfl, hab, hac⟩ := src_some hs (by omega)
    rw [hP, Int.toNat_natCast, Int.toNat_natCast] at h2
    exact specOI_none h ac P U ab ao n c f [] w hs hcn hcm h1 hP h2
  · obtain ⟨⟨⟨g1, g2⟩, ⟨g3, g4⟩, g5, g6⟩, gn, gw⟩ := isFault_ok h1
    have hb := baseI_bd (ac := ac) g1
    obtain ⟨P, hP⟩ : ∃ P : Nat, baseI ac h = (P : Int) := ⟨(baseI ac h).toNat, by omega⟩
    obtain ⟨U, rfl⟩ : ∃ U : Nat, bu = (U : Int) := ⟨bu.toNat, by omega⟩
    obtain ⟨ab, ao, rfl, hab, hac⟩ := src_some hs (by omega)
    rw [hP, Int.toNat_natCast, Int.toNat_natCast] at h2
    exact specOI_some h ac P U ab ao n c f L w hs hcn hcm h1 hP h2
end Go.Proofs.Ytnacdhnnpddccaa

namespace Go.Proofs.Ytnacdhnnpddccaa
open Go.RowKit
set_option linter.unusedVariables false

/-- The object at a place. -/
def findO (L : List Ob) (a : Int) : Option Ob := L.find? (fun x => x.at_ == a)

theorem findO_drop {L : List Ob} {a : Int} {i : Nat} {x : Ob} (hx : L[i]? = some x) : findO (L.drop i) a = if x.at_ == a then some x else findO (L.drop (i + 1)) a := by
  obtain ⟨hi, he⟩ := List.getElem?_eq_some_iff.mp hx
  rw [List.drop_eq_getElem_cons hi, he, findO, List.find?_cons]
  split <;> simp_all [findO]

/-- A pointer of an owner leads to an object of its own, or nowhere. -/
def leadsB (L : List Ob) (owner value : Int) : Bool := if value = 0 then true else match findO L (value - 1) with | some x => x.o == owner | none => false

def RetFind (W : World) (L : List Ob) (a : Int) (e : Ending) (w' : World) : Prop :=
  W = w' ∧ ((findO L a = none ∧ e = .returned (.int .i64 (-1))) ∨ ∃ (i : Nat) (x : Ob), findO L a = some x ∧ L[i]? = some x ∧ e = .returned (.int .i64 (i : Int)))

set_option maxRecDepth 100000 in
set_option maxHeartbeats 800000 in
theorem l3Find_any (v : Value) (M : List OM) (base : Nat) (a : Int) (w : World) (h : w.ownsRow base 87 6 v M.length (rowCells M)) (hl : M.length ≤ 400) :
    Calls Try.prog 82 #[v, .int .i64 a] w (RetFind w (M.map OM.x) a) := by
  have H := Lib.hid h
  obtain ⟨a1, k1, rfl⟩ := row_nil h
  clear h
  go_enter Try.func82, Try.ntmps82
  go_wp2
  go_loop [5] (fun p => ∃ i : Nat, i ≤ M.length ∧ p = .int .i64 (i : Int) ∧ Hid (findO (M.map OM.x) a = findO ((M.map OM.x).drop i) a)) (fun p => M.length - (intOf p).toNat)
  case atStart => exact ⟨0, Nat.zero_le _, rfl, Lib.hid (by simp)⟩
  case round =>
    obtain ⟨i, hi, rfl, HD⟩ := hrel
    by_cases hlt : i < M.length
    · have hlt' : (i : Int) < (M.length : Int) := by omega
      have hi0 : (0 : Int) ≤ (i : Int) := by omega
      obtain ⟨g1, c1, e1, _, l1, o1⟩ := row_form H.out (by omega)
      simp only [Value.slice.injEq] at e1
      obtain ⟨rfl, -, rfl⟩ := e1
      have ht := (o1 i M[i] (List.getElem?_eq_getElem hlt)).six
      have hx : (M.map OM.x)[i]? = some M[i].x := by simp [hlt]
      have hd := findO_drop (a := a) hx
      generalize M[i] = t at *
      have x0 := ht.1
      have HT := Lib.hid ht; have HX := Lib.hid hx; have HDD := Lib.hid hd
      clear o1 ht hx hd
      by_cases hat : t.x.at_ = a
      · have hb : (t.x.at_ == a) = true := by simpa using hat
        go_wp2
        go_ret
        exact ⟨rfl, .inr ⟨i, t.x, by rw [HD.out, HDD.out, if_pos hb], HX.out, rfl⟩⟩
      · have hb : (t.x.at_ == a) = false := by simpa using hat
        go_wp2
        go_round
        case rel => exact ⟨i + 1, by omega, by go_num, Lib.hid (by rw [HD.out, HDD.out, hb]; rfl)⟩
        case measure => simp [intOf]; omega
    · have hlt' : ¬ (i : Int) < (M.length : Int) := by omega
      go_wp2
      go_ret
      exact ⟨rfl, .inl ⟨by rw [HD.out, List.drop_eq_nil_of_le (by simp; omega)]; rfl, rfl⟩⟩

set_option maxRecDepth 100000 in
set_option maxHeartbeats 800000 in
theorem l3Leads_any (v : Value) (M : List OM) (base : Nat) (owner value : Int) (w : World) (h : w.ownsRow base 87 6 v M.length (rowCells M)) (hl : M.length ≤ 400) (hv : -1000000000 ≤ value ∧ value ≤ 1000000000) :
    Calls Try.prog 120 #[v, .int .i64 owner, .int .i64 value] w fun e w' => e = .returned (.bool (leadsB (M.map OM.x) owner value)) ∧ w = w' := by
  have H := Lib.hid h
  obtain ⟨hv1, hv2⟩ := hv
  obtain ⟨a1, k1, rfl⟩ := row_nil h
  clear h
  by_cases h0 : value = 0
  · have hb : (value == 0) = true := by simpa using h0
    have hr : leadsB (M.map OM.x) owner value = true := by simp [leadsB, h0]
    have HR := Lib.hid hr
    clear hr
    go_enter Try.func120, Try.ntmps120
    go_wp2
    go_ret
    exact ⟨by rw [HR.out]; rfl, rfl⟩
  · have hb : (value == 0) = false := by simpa using h0
    go_enter Try.func120, Try.ntmps120
    go_wp2_with fail
    refine (l3Find_any _ M base (value - 1) _ H.out hl).mono ?_
    rintro e w' ⟨rfl, hf⟩
    rcases hf with ⟨hf, rfl⟩ | ⟨i, x, hf, hx, rfl⟩
    · have hr : leadsB (M.map OM.x) owner value = false := by simp [leadsB, h0, hf]
      have HR := Lib.hid hr
      clear hr hf
      go_wp2
      go_ret
      exact ⟨by rw [HR.out]; rfl, rfl⟩
    · have hr : leadsB (M.map OM.x) owner value = (x.o == owner) := by simp [leadsB, h0, hf]
      have HR := Lib.hid hr
      have hlt : i < M.length := by have := (List.getElem?_eq_some_iff.mp hx).1; simpa using this
      have hlt' : (i : Int) < (M.length : Int) := by omega
      have hi0 : (0 : Int) ≤ (i : Int) := by omega
      obtain ⟨g1, c1, e1, _, l1, o1⟩ := row_form H.out (by omega)
      simp only [Value.slice.injEq] at e1
      obtain ⟨rfl, -, rfl⟩ := e1
      have ht := (o1 i M[i] (List.getElem?_eq_getElem hlt)).six
      have hx' : M[i].x = x := by simpa [hlt] using hx
      rw [hx'] at ht
      have x3 := ht.2.2.2.1
      clear hr hf hx hx' ht o1
      go_wp2
      go_ret
      exact ⟨by rw [HR.out]; rfl, rfl⟩
end Go.Proofs.Ytnacdhnnpddccaa

namespace Go.Proofs.Ytnacdhnnpddccaa
open Go.RowKit
set_option linter.unusedVariables false

/-- All pointers lead where they may. -/
def Points (f : Nat → Int) (L : List Ob) : Prop := ∀ x ∈ L, ∀ k : Nat, (k : Int) < x.s → x.m / P2 k % 2 = 1 → leadsB L x.o (f (x.at_.toNat + 2 + k)) = true

/-- What is not taken is nothing. -/
def Rest (f : Nat → Int) (n P U : Nat) : Prop := ∀ i, i < n → ¬ (P ≤ i ∧ i < P + U) → f i = 0

def IsShape (f : Nat → Int) (n P U : Nat) (L : List Ob) (r : Bool) : Prop := (Points f L ∧ Rest f n P U ∧ r = true) ∨ (¬ (Points f L ∧ Rest f n P U) ∧ r = false)

set_option maxHeartbeats 800000 in
theorem l2Pointer_at (b off I : Nat) (m : Int) (r : Bool) (w : World) (c1 : w.cell? ⟨b, off + 1, none⟩ = some (.int .i64 m)) (hm : 0 ≤ m ∧ m ≤ 4095) (hI : I ≤ 12) (hr : r = (m / P2 I % 2 == 1)) :
    Calls Try.prog 98 #[.pointer (some ⟨b, off, none⟩), .int .i64 (I : Int)] w fun e w' => e = .returned (.bool r) ∧ ∃ q, w' = w.drewN q := by
  subst hr
  obtain ⟨m1, m2⟩ := hm
  have p1 := P2_pos (I : Int)
  have p2 := P2_le (s := (I : Int)) (by omega)
  have hne : ¬ P2 (I : Int) = 0 := by omega
  have hq : m.tdiv (P2 I) = m / P2 I := Int.tdiv_eq_ediv_of_nonneg m1
  have g1 : 0 ≤ m / P2 I := Int.ediv_nonneg m1 (by omega)
  have g2 : m / P2 I ≤ m := Int.ediv_le_self _ m1
  have hr : (m / P2 I).tmod 2 = m / P2 I % 2 := Int.tmod_eq_emod_of_nonneg g1
  go_enter Try.func98, Try.ntmps98
  go_wp2
  go_quiet (with_reducible exact Calls.quiet_of_same (Calls.mono (power_any I _ hI) fun _ _ hh => ⟨hh.1, hh.2.symm⟩))
  go_wp2
  go_ret
  exact ⟨rfl, _, rfl⟩

theorem drewN_below (w : World) (q : Nat) : Below w.heap.size w (w.drewN q) := below_drewN (Below.refl _ _) q

set_option maxRecDepth 100000 in
set_option maxHeartbeats 3200000 in
theorem l3Shape_any (b P U : Nat) (h ac : Int) (ab ao n c : Nat) (f : Nat → Int) (v : Value) (M : List OM) (base lo : Nat) (r : Bool) (w : World) (hB : Blk w b [.int .i64 h, .slice (some ⟨ab, ao, none⟩) n c, .int .i64 ac, .int .i64 (U : Int)]) (hs : Src w (some ⟨ab, ao, none⟩) n f) (h1 : 8 ≤ h) (h2 : h ≤ 200) (h3 : 0 ≤ ac) (h4 : ac ≤ 1) (hP : baseI ac h = (P : Int)) (hn : (n : Int) = 2 * h) (hU : P + U ≤ n)
    (how : w.ownsRow base 87 6 v M.length (rowCells M)) (hfl : Flds w lo f v M) (hl : M.length ≤ 400) (hok : ∀ t ∈ M, (0 ≤ t.x.s ∧ t.x.s ≤ 12) ∧ (0 ≤ t.x.m ∧ t.x.m ≤ 4095) ∧ ∀ k, k < t.x.s.toNat → -1000000000 ≤ f (t.x.at_.toNat + 2 + k) ∧ f (t.x.at_.toNat + 2 + k) ≤ 1000000000) (hr : IsShape f n P U (M.map OM.x) r) :
    Calls Try.prog 102 #[.pointer (some ⟨b, 0, none⟩), v] w (RetBool w r) := by
  have H := Lib.hid how; have FL := Lib.hid hfl; have HOK := Lib.hid hok; have HR := Lib.hid hr; have HB0 := Lib.hid hB; have HS0 := Lib.hid hs; have HN := Lib.hid hn
  have lb := hB.1
  obtain ⟨a1, k1, rfl⟩ := row_nil how
  clear how hfl hok hr hB hs hn
  go_enter Try.func102, Try.ntmps102
  go_wp2
  go_loopw [5] (fun p wr => ∃ i : Nat, i ≤ M.length ∧ p = .int .i64 (i : Int) ∧ Hid (Below w.heap.size w wr) ∧ Hid (∀ j x, j < i → (M.map OM.x)[j]? = some x → ∀ k : Nat, (k : Int) < x.s → x.m / P2 k % 2 = 1 → leadsB (M.map OM.x) x.o (f (x.at_.toNat + 2 + k)) = true)) (fun p _ => M.length - (intOf p).toNat)
  case atStart => exact ⟨0, Nat.zero_le _, rfl, Below.refl _ _, Lib.hid (fun j x hj => by omega)⟩
  case round =>
    obtain ⟨i, hi, rfl, HBr, HPT⟩ := hrel
    by_cases hlt : i < M.length
    · have hlt' : (i : Int) < (M.length : Int) := by omega
      have hi0 : (0 : Int) ≤ (i : Int) := by omega
      obtain ⟨g1, c1, e1, _, l1, o1⟩ := row_form H.out (by omega)
      simp only [Value.slice.injEq] at e1
      obtain ⟨rfl, -, rfl⟩ := e1
      have ht := (o1 i M[i] (List.getElem?_eq_getElem hlt)).six
      have hx : (M.map OM.x)[i]? = some M[i].x := by simp [hlt]
      have hs := FL.out.1 M[i] (List.getElem_mem hlt)
      have hk := HOK.out M[i] (List.getElem_mem hlt)
      generalize M[i] = t at *
      obtain ⟨⟨s0, s1⟩, hm, hwd⟩ := hk
      obtain ⟨_, lg, _, hfc⟩ := hs
      have HX := Lib.hid hx; have HWD := Lib.hid hwd; have HFC := Lib.hid hfc; have HT := Lib.hid ht
      clear o1 hx hwd hfc ht
      have z0 := HBr.out.size
      go_wp2
      go_loopw [7] (fun p wq => ∃ k : Nat, (k : Int) ≤ t.x.s ∧ p = .int .i64 (k : Int) ∧ Hid (Below w.heap.size w wq) ∧ Hid (∀ k' : Nat, k' < k → t.x.m / P2 k' % 2 = 1 → leadsB (M.map OM.x) t.x.o (f (t.x.at_.toNat + 2 + k')) = true)) (fun p _ => t.x.s.toNat - (intOf p).toNat)
      case atStart => exact ⟨0, by omega, rfl, HBr, Lib.hid (fun k' hk' => by omega)⟩
      case round =>
        obtain ⟨k, hk, rfl, HBq, HPK⟩ := hrel
        have T1 := Lib.hid (HT.out.below HBq.out l1)
        have zq := HBq.out.size
        have x1 := T1.out.2.1
        by_cases hks : (k : Int) < t.x.s
        · have hk0 : (0 : Int) ≤ (k : Int) := by omega
          have hkt : k < t.x.s.toNat := by omega
          have hkn : (k : Int) < (t.x.s.toNat : Int) := by omega
          have x2 := T1.out.2.2.1; have x3 := T1.out.2.2.2.1; have x5 := T1.out.2.2.2.2.2
          have fk := (HBq.out.cell (p := ⟨t.g, k, none⟩) lg).trans (HFC.out k hkt).1
          have hwk := HWD.out k hkt
          have l1q : g1 < wr.heap.size := by omega
          have HQ9 := Lib.hid (fun q => below_drewN HBq.out q)
          have hdd : t.x.m / P2 k % 2 = 1 ∨ t.x.m / P2 k % 2 = 0 := by omega
          rcases hdd with hd | hd
          · cases hle : leadsB (M.map OM.x) t.x.o (f (t.x.at_.toNat + 2 + k))
            · have hrf : Hid (r = false) := Lib.hid (by
                rcases HR.out with ⟨hp, _, _⟩ | ⟨_, hp⟩
                · have := hp t.x (List.mem_of_getElem? HX.out) k hks hd
                  rw [hle] at this; cases this
                · exact hp)
              go_wp2_with fail
              go_quiet (first | exact Calls.quiet_of (l2Pointer_at g1 (i * 6 + 1) k t.x.m true _ (((drewN_below wr _).cell (p := ⟨g1, i * 6 + 1 + 1, none⟩) l1q).trans x2) hm (by omega) (by rw [hd]; rfl)) | exact Calls.quiet_of_same (Calls.mono (l3Leads_any _ M base t.x.o (f (t.x.at_.toNat + 2 + k)) _ (ownsRow_below (ownsRow_below H.out HBq.out) (drewN_below wr _)) hl hwk) fun _ _ hh => ⟨by rw [hh.1, hle], hh.2.symm⟩))
              go_wp2
              go_ret
              exact ⟨by rw [hrf.out]; rfl, HQ9.out _⟩
            · have HLE := Lib.hid hle
              go_wp2_with fail
              go_quiet (first | exact Calls.quiet_of (l2Pointer_at g1 (i * 6 + 1) k t.x.m true _ (((drewN_below wr _).cell (p := ⟨g1, i * 6 + 1 + 1, none⟩) l1q).trans x2) hm (by omega) (by rw [hd]; rfl)) | exact Calls.quiet_of_same (Calls.mono (l3Leads_any _ M base t.x.o (f (t.x.at_.toNat + 2 + k)) _ (ownsRow_below (ownsRow_below H.out HBq.out) (drewN_below wr _)) hl hwk) fun _ _ hh => ⟨by rw [hh.1, hle], hh.2.symm⟩))
              have HDD := Lib.hid hd
              clear hle hd
              go_wp2
              go_roundw
              case rel => first | exact ⟨k + 1, by omega, by go_num, HQ9.out _, Lib.hid (fun k' hk' hb' => by rcases Nat.lt_succ_iff_lt_or_eq.mp hk' with h' | h'; exact HPK.out k' h' hb'; subst h'; exact HLE.out)⟩ | ((repeat apply Exists.intro); exact ⟨⟨k + 1, by omega, by go_num, HQ9.out _, Lib.hid (fun k' hk' hb' => by rcases Nat.lt_succ_iff_lt_or_eq.mp hk' with h' | h'; exact HPK.out k' h' hb'; subst h'; exact HLE.out)⟩, rfl⟩)
              case measure => simp [intOf]; omega
          · have hle : True := trivial
            go_wp2_with fail
            go_quiet (first | exact Calls.quiet_of (l2Pointer_at g1 (i * 6 + 1) k t.x.m false _ (((drewN_below wr _).cell (p := ⟨g1, i * 6 + 1 + 1, none⟩) l1q).trans x2) hm (by omega) (by rw [hd]; rfl)))
            have HDD := Lib.hid hd
            clear hd
            go_wp2
            go_roundw
            case rel => first | exact ⟨k + 1, by omega, by go_num, HQ9.out _, Lib.hid (fun k' hk' hb' => by rcases Nat.lt_succ_iff_lt_or_eq.mp hk' with h' | h'; exact HPK.out k' h' hb'; subst h'; have := HDD.out; omega)⟩ | ((repeat apply Exists.intro); exact ⟨⟨k + 1, by omega, by go_num, HQ9.out _, Lib.hid (fun k' hk' hb' => by rcases Nat.lt_succ_iff_lt_or_eq.mp hk' with h' | h'; exact HPK.out k' h' hb'; subst h'; have := HDD.out; omega)⟩, rfl⟩)
            case measure => simp [intOf]; omega
        · go_wp2
          go_roundw
          case rel => first | exact ⟨i + 1, by omega, by go_num, HBq, Lib.hid (fun j x hj hx k' hk' hb' => by rcases Nat.lt_succ_iff_lt_or_eq.mp hj with h' | h'; exact HPT.out j x h' hx k' hk' hb'; subst h'; rw [HX.out] at hx; cases hx; exact HPK.out k' (by omega) hb')⟩ | ((repeat apply Exists.intro); exact ⟨⟨i + 1, by omega, by go_num, HBq, Lib.hid (fun j x hj hx k' hk' hb' => by rcases Nat.lt_succ_iff_lt_or_eq.mp hj with h' | h'; exact HPT.out j x h' hx k' hk' hb'; subst h'; rw [HX.out] at hx; cases hx; exact HPK.out k' (by omega) hb')⟩, rfl⟩)
          case measure => simp [intOf]; omega
    · have HPS : Hid (Points f (M.map OM.x)) := Lib.hid (fun x hx k hk hb => by
        obtain ⟨j, hj, rfl⟩ := List.getElem_of_mem hx
        have hj' : j < M.length := by simpa using hj
        exact HPT.out j _ (by omega) (List.getElem?_eq_getElem hj) k hk hb)
      have hlt' : ¬ (i : Int) < (M.length : Int) := by omega
      have BA := Lib.hid (HB0.out.below HBr.out)
      have zr := HBr.out.size
      go_wp2_with fail
      refine (l1Base_eq (P : Int) b h ac (U : Int) (some ⟨ab, ao, none⟩) n c _ hP BA.out h1 h2 h3 h4).mono ?_
      rintro e w2 ⟨rfl, hb⟩
      have HB2 := Lib.hid (HBr.out.trans (hb.mono zr))
      clear hb BA HBr zr HPT
      have hnn := HN.out
      have hPUn : (P : Int) + (U : Int) ≤ 400 := by omega
      clear hnn
      go_wp2
      go_loopw [9] (fun p wr => ∃ j : Nat, j ≤ n ∧ p = .int .i64 (j : Int) ∧ Hid (Below w.heap.size w wr) ∧ Hid (∀ k, k < j → ¬ (P ≤ k ∧ k < P + U) → f k = 0)) (fun p _ => n - (intOf p).toNat)
      case atStart => exact ⟨0, Nat.zero_le _, rfl, HB2, Lib.hid (fun k hk => by omega)⟩
      case round =>
        obtain ⟨j, hj, rfl, HBr, HRS⟩ := hrel
        clear HB2
        have BA := Lib.hid (HB0.out.below HBr.out)
        have SA := Lib.hid (HS0.out.below HBr.out)
        have zr := HBr.out.size
        have lbr : b < wr.heap.size := by omega
        have b0 := BA.out.at 0 rfl; have b1 := BA.out.at 1 rfl; have b3 := BA.out.at 3 rfl
        by_cases hjn : j < n
        · have hjn' : (j : Int) < 2 * h := by have := HN.out; omega
          have hj0 : (0 : Int) ≤ (j : Int) := by omega
          have hjn2 : (j : Int) < (n : Int) := by omega
          by_cases hin : P ≤ j ∧ j < P + U
          · have HI := Lib.hid hin
            go_wp2_with fail
            refine (l1In_yes (j : Int) (P : Int) ((P : Int) + (U : Int) - 1) _ (by have := HI.out; omega) (by have := HI.out; omega)).mono ?_
            rintro e w' ⟨rfl, rfl⟩
            go_wp2
            go_roundw
            case rel => first | exact ⟨j + 1, by omega, by go_num, HBr, Lib.hid (fun k hk hb => by rcases Nat.lt_succ_iff_lt_or_eq.mp hk with h' | h'; exact HRS.out k h' hb; subst h'; exact absurd HI.out hb)⟩ | ((repeat apply Exists.intro); exact ⟨⟨j + 1, by omega, by go_num, HBr, Lib.hid (fun k hk hb => by rcases Nat.lt_succ_iff_lt_or_eq.mp hk with h' | h'; exact HRS.out k h' hb; subst h'; exact absurd HI.out hb)⟩, rfl⟩)
            case measure => simp [intOf]; omega
          · have HI := Lib.hid hin
            have fj := SA.out.at j hjn
            by_cases hfz : f j = 0
            · have hd : (f j != 0) = false := by simpa using hfz
              have HZ := Lib.hid hfz
              clear hfz hin
              go_wp2_with fail
              refine (l1In_no (j : Int) (P : Int) ((P : Int) + (U : Int) - 1) _ (fun x => HI.out ⟨by omega, by omega⟩)).mono ?_
              rintro e w' ⟨rfl, rfl⟩
              go_wp2
              go_roundw
              case rel => first | exact ⟨j + 1, by omega, by go_num, HBr, Lib.hid (fun k hk hb => by rcases Nat.lt_succ_iff_lt_or_eq.mp hk with h' | h'; exact HRS.out k h' hb; subst h'; exact HZ.out)⟩ | ((repeat apply Exists.intro); exact ⟨⟨j + 1, by omega, by go_num, HBr, Lib.hid (fun k hk hb => by rcases Nat.lt_succ_iff_lt_or_eq.mp hk with h' | h'; exact HRS.out k h' hb; subst h'; exact HZ.out)⟩, rfl⟩)
              case measure => simp [intOf]; omega
            · have hd : (f j != 0) = true := by simpa using hfz
              have hrf : Hid (r = false) := Lib.hid (by
                rcases HR.out with ⟨_, hp, _⟩ | ⟨_, hp⟩
                · exact absurd (hp j hjn hin) hfz
                · exact hp)
              clear hfz hin
              go_wp2_with fail
              refine (l1In_no (j : Int) (P : Int) ((P : Int) + (U : Int) - 1) _ (fun x => HI.out ⟨by omega, by omega⟩)).mono ?_
              rintro e w' ⟨rfl, rfl⟩
              go_wp2
              go_ret
              exact ⟨by rw [hrf.out]; rfl, HBr.out⟩
        · have hjn' : ¬ (j : Int) < 2 * h := by have := HN.out; omega
          have hrt : Hid (r = true) := Lib.hid (by
            rcases HR.out with ⟨_, _, hp⟩ | ⟨hp, _⟩
            · exact hp
            · exact absurd ⟨HPS.out, fun k hk hb => HRS.out k (by omega) hb⟩ hp)
          go_wp2
          go_ret
          exact ⟨by rw [hrt.out]; rfl, HBr.out⟩
end Go.Proofs.Ytnacdhnnpddccaa

