/- Texts merged: A1 to K1. -/
import Derived.Test.YtnpklnpicelcmaaGreatRows
import Derived.WalkKit
import Derived.WalkSpells
import Derived.WalkLawsBesides
import Derived.Deep.QuietTactic
import Derived.BigQuiet
import Derived.Deep.RegionHeld3
import Derived.Lib.Hide
import Derived.Laws.AppendOwnNone
import Derived.Lib.AppendZeros
import Derived.Lib.SliceRun
import Derived.Lib.Walk
import Derived.Deep.Cut
import Derived.Deep.Upon
import Derived.Defers
import Derived.Recover
import Derived.Laws.Pointers
import Derived.StillTailTactics
import Derived.Deep.RegionLaw
import Derived.ProofKit
import Derived.Lib.SmallJoins
import Derived.OpenShut
import Derived.Deep.AppendLies
import Derived.Deep.DeepCutAuto
namespace Go.Proofs.YtnpklnpicelcmaaGreat
open Go.RowKit
set_option linter.unusedVariables false

set_option maxRecDepth 100000 in
set_option maxHeartbeats 400000 in
theorem szInts_ok (a : Option Addr) (n cap : Nat) (l : Int) (w : World) (hl0 : 0 ≤ l) (hl : l ≤ 1048576) (hn : n ≤ maxLen) (h : n ≤ l) :
    Calls Tryz.prog 35 #[.slice a n cap, .int .i64 l] w fun e w' => e = .returned (.int .i64 (l - n)) ∧ w = w' := by
  unfold maxLen at hn
  go_enter Tryz.func35, Tryz.ntmps35
  go_wp2
  go_ret
  exact ⟨rfl, rfl⟩

set_option maxRecDepth 100000 in
set_option maxHeartbeats 400000 in
theorem szInts_no (a : Option Addr) (n cap : Nat) (l : Int) (w : World) (hl0 : 0 ≤ l) (hl : l ≤ 1048576) (hn : n ≤ maxLen) (h : l < n) :
    Calls Tryz.prog 35 #[.slice a n cap, .int .i64 l] w fun e w' => e = .returned (.int .i64 (-1)) ∧ w = w' := by
  unfold maxLen at hn
  go_enter Tryz.func35, Tryz.ntmps35
  go_wp2
  go_ret
  exact ⟨rfl, rfl⟩

set_option maxRecDepth 100000 in
set_option maxHeartbeats 400000 in
theorem szArena_ok (h ac bu : Int) (a : Option Addr) (n cap : Nat) (l : Int) (w : World) (hl0 : 0 ≤ l) (hl : l ≤ 1048576) (hn : n ≤ maxLen) (hh : n ≤ l) :
    Calls Tryz.prog 13 #[.agg #[.int .i64 h, .slice a n cap, .int .i64 ac, .int .i64 bu], .int .i64 l] w fun e w' => e = .returned (.int .i64 (l - n)) ∧ Below w.heap.size w w' := by
  go_enter Tryz.func13, Tryz.ntmps13
  go_wp2_with (go_at_call 35; refine (szInts_ok _ _ _ _ _ hl0 hl hn hh).mono ?_; rintro e w' ⟨rfl, rfl⟩)
  go_ret
  exact ⟨rfl, (Below.refl _ _).alloc (Nat.le_refl _) _⟩

set_option maxRecDepth 100000 in
set_option maxHeartbeats 400000 in
theorem szArena_no (h ac bu : Int) (a : Option Addr) (n cap : Nat) (l : Int) (w : World) (hl0 : 0 ≤ l) (hl : l ≤ 1048576) (hn : n ≤ maxLen) (hh : l < n) :
    Calls Tryz.prog 13 #[.agg #[.int .i64 h, .slice a n cap, .int .i64 ac, .int .i64 bu], .int .i64 l] w fun e w' => e = .returned (.int .i64 (-1)) ∧ Below w.heap.size w w' := by
  go_enter Tryz.func13, Tryz.ntmps13
  go_wp2_with (go_at_call 35; refine (szInts_no _ _ _ _ _ hl0 hl hn hh).mono ?_; rintro e w' ⟨rfl, rfl⟩)
  go_ret
  exact ⟨rfl, (Below.refl _ _).alloc (Nat.le_refl _) _⟩
end Go.Proofs.YtnpklnpicelcmaaGreat

namespace Go.Proofs.YtnpklnpicelcmaaGreat
open Go.RowKit
set_option linter.unusedVariables false

/-- The first n cells at a hold f. -/
def Src (w : World) (a : Option Addr) (n : Nat) (f : Nat → Int) : Prop :=
  n = 0 ∨ ∃ b off, a = some ⟨b, off, none⟩ ∧ b < w.heap.size ∧ ∀ i, i < n → w.cell? ⟨b, off + i, none⟩ = some (.int .i64 (f i))

/-- The same, in a block from B on, and not frozen. -/
def Own (w : World) (B : Nat) (a : Option Addr) (n : Nat) (f : Nat → Int) : Prop :=
  n = 0 ∨ ∃ b off, a = some ⟨b, off, none⟩ ∧ B ≤ b ∧ b < w.heap.size ∧ ∀ i, i < n → w.cell? ⟨b, off + i, none⟩ = some (.int .i64 (f i)) ∧ w.frozen? ⟨b, off + i, none⟩ = false

theorem Own.src {w : World} {B : Nat} {a : Option Addr} {n : Nat} {f : Nat → Int} (h : Own w B a n f) : Src w a n f := by
  rcases h with h | ⟨b, off, h1, _, h3, h4⟩
  · exact .inl h
  · exact .inr ⟨b, off, h1, h3, fun i hi => (h4 i hi).1⟩

theorem Src.below {w w' : World} {a : Option Addr} {n : Nat} {f : Nat → Int} (h : Src w a n f) (hb : Below w.heap.size w w') : Src w' a n f := by
  rcases h with h | ⟨b, off, h1, h3, h4⟩
  · exact .inl h
  · exact .inr ⟨b, off, h1, Nat.lt_of_lt_of_le h3 hb.size, fun i hi => (hb.cell (p := ⟨b, off + i, none⟩) h3).trans (h4 i hi)⟩

theorem Own.below {w w' : World} {B : Nat} {a : Option Addr} {n : Nat} {f : Nat → Int} (h : Own w B a n f) (hb : Below w.heap.size w w') : Own w' B a n f := by
  rcases h with h | ⟨b, off, h1, h2, h3, h4⟩
  · exact .inl h
  · exact .inr ⟨b, off, h1, h2, Nat.lt_of_lt_of_le h3 hb.size, fun i hi => ⟨(hb.cell (p := ⟨b, off + i, none⟩) h3).trans (h4 i hi).1, (hb.frozen (p := ⟨b, off + i, none⟩) h3).trans (h4 i hi).2⟩⟩

theorem Own.mono {w : World} {B B' : Nat} {a : Option Addr} {n : Nat} {f : Nat → Int} (h : Own w B a n f) (hB : B' ≤ B) : Own w B' a n f := by
  rcases h with h | ⟨b, off, h1, h2, h3⟩
  · exact .inl h
  · exact .inr ⟨b, off, h1, Nat.le_trans hB h2, h3⟩

theorem Src.at {w : World} {b off n : Nat} {f : Nat → Int} (h : Src w (some ⟨b, off, none⟩) n f) (i : Nat) (hi : i < n) : w.cell? ⟨b, off + i, none⟩ = some (.int .i64 (f i)) := by
  rcases h with h | ⟨b', off', h1, h3, h4⟩
  · omega
  · simp at h1; obtain ⟨rfl, rfl⟩ := h1; exact h4 i hi

theorem Src.congr {w : World} {a : Option Addr} {n : Nat} {f g : Nat → Int} (h : Src w a n f) (e : ∀ i, i < n → f i = g i) : Src w a n g := by
  rcases h with h | ⟨b, off, h1, h3, h4⟩
  · exact .inl h
  · exact .inr ⟨b, off, h1, h3, fun i hi => by rw [h4 i hi, e i hi]⟩

theorem Own.congr {w : World} {B : Nat} {a : Option Addr} {n : Nat} {f g : Nat → Int} (h : Own w B a n f) (e : ∀ i, i < n → f i = g i) : Own w B a n g := by
  rcases h with h | ⟨b, off, h1, h2, h3, h4⟩
  · exact .inl h
  · exact .inr ⟨b, off, h1, h2, h3, fun i hi => by rw [← e i hi]; exact h4 i hi⟩

theorem Src.alloc {w : World} {a : Option Addr} {n : Nat} {f : Nat → Int} (h : Src w a n f) (o : Obj) : Src (w.alloc o) a n f := h.below ((Below.refl _ _).alloc (Nat.le_refl _) o)

theorem Src.drew {w : World} {a : Option Addr} {n : Nat} {f : Nat → Int} (h : Src w a n f) : Src w.drew a n f := h.below (Below.refl _ _).drew

theorem Own.alloc {w : World} {B : Nat} {a : Option Addr} {n : Nat} {f : Nat → Int} (h : Own w B a n f) (o : Obj) : Own (w.alloc o) B a n f := h.below ((Below.refl _ _).alloc (Nat.le_refl _) o)

theorem Own.drew {w : World} {B : Nat} {a : Option Addr} {n : Nat} {f : Nat → Int} (h : Own w B a n f) : Own w.drew B a n f := h.below (Below.refl _ _).drew

theorem Own.setCell {w : World} {B : Nat} {a : Option Addr} {n : Nat} {f : Nat → Int} (h : Own w B a n f) {p : Addr} (hp : p.block < B) (u : Value) : Own (w.setCell p u) B a n f := by
  rcases h with h | ⟨b, off, h1, h2, h3, h4⟩
  · exact .inl h
  · refine .inr ⟨b, off, h1, h2, by simpa using h3, fun i hi => ?_⟩
    have e : (w.setCell p u).heap[b]? = w.heap[b]? := Below.heap_setCell w p u b (by omega)
    exact ⟨(World.cell?_of_block (w := w) (a := ⟨b, off + i, none⟩) e).trans (h4 i hi).1, (World.frozen?_of_block (w := w) (a := ⟨b, off + i, none⟩) e).trans (h4 i hi).2⟩

/-- The cells as a list. -/
def nums (n : Nat) (f : Nat → Int) : List Value := (List.range n).map fun j => .int .i64 (f j)

theorem nums_length (n : Nat) (f : Nat → Int) : (nums n f).length = n := by simp [nums]

theorem nums_get (n : Nat) (f : Nat → Int) (j : Nat) (h : j < n) : (nums n f)[j]? = some (.int .i64 (f j)) := by simp [nums, h]

theorem nums_one (n : Nat) (f : Nat → Int) : ∀ u ∈ nums n f, u.oneCell' = true := by
  intro u hu; simp [nums] at hu; obtain ⟨j, _, rfl⟩ := hu; rfl

theorem nums_zero (n : Nat) : nums n (fun _ => 0) = List.replicate n (.int .i64 0) := by
  apply List.ext_getElem?
  intro j
  by_cases h : j < n <;> simp [nums, h]

theorem nums_set (n : Nat) (f : Nat → Int) (j : Nat) (v : Int) : (nums n f).set j (.int .i64 v) = nums n (fun i => if i = j then v else f i) := by
  apply List.ext_getElem?
  intro k
  by_cases hk : k < n
  · by_cases e : j = k
    · subst e; simp [nums, hk]
    · have e' : ¬ k = j := fun x => e x.symm
      rw [List.getElem?_set_ne e]; simp [nums, hk, e']
  · rw [List.getElem?_eq_none (by simp [nums]; omega), List.getElem?_eq_none (by simp [nums]; omega)]

theorem nums_append (n m : Nat) (f g : Nat → Int) : nums n f ++ nums m g = nums (n + m) (fun i => if i < n then f i else g (i - n)) := by
  apply List.ext_getElem?
  intro k
  by_cases hk : k < n
  · rw [List.getElem?_append_left (by simpa [nums] using hk), nums_get _ _ _ hk, nums_get _ _ _ (by omega)]; simp [hk]
  · rw [List.getElem?_append_right (by simp [nums]; omega), nums_length]
    by_cases hk2 : k < n + m
    · rw [nums_get _ _ _ (by omega), nums_get _ _ _ hk2]; simp [hk]
    · rw [List.getElem?_eq_none (by simp [nums]; omega), List.getElem?_eq_none (by simp [nums]; omega)]

theorem nums_congr {n : Nat} {f g : Nat → Int} (h : ∀ i, i < n → f i = g i) : nums n f = nums n g := by
  simp only [nums]; apply List.map_congr_left; intro j hj; simp at hj; rw [h j hj]

/-- Out of the kit's word for a row of the call's own. -/
theorem own_of_row {w : World} {B e n : Nat} {a : Option Addr} {cap : Nat} {f : Nat → Int} (h : w.ownsRow B e 1 (.slice a n cap) n (nums n f)) : Own w B a n f := by
  have h0 := h
  rcases h.2 with ⟨_, h2⟩ | ⟨g, cap', cur, h1, hB, hg, hnc, hcm, hcs, _⟩
  · exact .inl h2
  · simp at h1
    obtain ⟨rfl, rfl⟩ := h1
    refine .inr ⟨g, 0, rfl, hB, ?_, fun i hi => ?_⟩
    · have := Array.getElem?_eq_some_iff.mp hg; exact this.1
    · have := h0.cellAt i (by omega)
      rw [nums_get n f i hi] at this
      exact ⟨by simpa using this, by simpa using h0.frozenAt i⟩

/-- Its value is a slice. -/
theorem row_shape {w : World} {B e n : Nat} {v : Value} {xs : List Value} (h : w.ownsRow B e 1 v n xs) : ∃ a cap, v = .slice a n cap ∧ n ≤ cap ∧ cap ≤ maxLen ∧ (a = none → n = 0 ∧ cap = 0) := by
  rcases h.2 with ⟨h1, h2⟩ | ⟨g, cap', cur, h1, hB, hg, hnc, hcm, hcs, _⟩
  · exact ⟨none, 0, by rw [h1, h2], by omega, by simp [maxLen], fun _ => ⟨h2, rfl⟩⟩
  · exact ⟨_, cap', h1, hnc, hcm, fun h => by simp at h⟩

/-- A call hands back new numbers. -/
def RetInts (W : World) (n : Nat) (f : Nat → Int) (e : Ending) (w' : World) : Prop :=
  ∃ a cap, e = .returned (.slice a n cap) ∧ Own w' W.heap.size a n f ∧ Below W.heap.size W w' ∧ n ≤ cap ∧ cap ≤ maxLen ∧ (a = none → n = 0 ∧ cap = 0)

theorem retInts_of_row {W w' : World} {n : Nat} {f : Nat → Int} {v : Value} {e : Nat} (h : w'.ownsRow W.heap.size e 1 v n (nums n f)) (hb : Below W.heap.size W w') : RetInts W n f (.returned v) w' := by
  obtain ⟨a, cap, rfl, h1, h2, h3⟩ := row_shape h
  exact ⟨a, cap, rfl, own_of_row h, hb, h1, h2, h3⟩
end Go.Proofs.YtnpklnpicelcmaaGreat

namespace Go.Proofs.YtnpklnpicelcmaaGreat
open Go.RowKit
set_option linter.unusedVariables false

theorem Tryz.info2 : (Tryz.prog.info? 2).map (fun i => (i.zero, i.size, i.bytes)) = some (some (.int .i64 0), 1, 8) := by kernel_rfl

set_option maxRecDepth 100000 in
set_option maxHeartbeats 400000 in
theorem toInts_any (a : Option Addr) (n cap : Nat) (f : Nat → Int) (w : World) (hs : Src w a n f) (hn : n ≤ 1048576) :
    Calls Tryz.prog 44 #[.slice a n cap] w (RetInts w n f) := by
  obtain ⟨i0, hi, hz0, hz1, hz2⟩ := info_parts Tryz.info2
  have HS := Lib.hid hs
  clear hs
  go_enter Tryz.func44, Tryz.ntmps44
  go_wp2_with (at_make; refine wpList_make_full _ rfl _ _ 22 rfl w.heap.size 2 i0 (.int .i64 0) 1 Tryz.underlying22 hi hz0 hz1 .i64 .i64 n n n rfl rfl rfl rfl (by rw [hz2]; omega) (by unfold maxLen; omega) (Nat.le_refl _) ?_; intro w1 hown1 hgrow1)
  have hb1 : Below w.heap.size w w1 := (Below.refl _ _).grown hgrow1 (Nat.le_refl _) (by intro k hk; simp at hk)
  have ho1 : w1.ownsRow w.heap.size 2 1 (.slice (some ⟨w.heap.size, 0, none⟩) n n) n (nums n fun _ => 0) := by
    rw [nums_zero, ← toList_madeCells_one]; simpa [Value.cells] using hown1
  clear hown1 hgrow1
  have HB := Lib.hid hb1
  have HO := Lib.hid ho1
  clear hb1 ho1
  go_loopw [4] (fun k wr => ∃ i : Nat, i ≤ n ∧ k = .int .i64 i ∧ Hid (Below w.heap.size w wr) ∧ Hid (wr.ownsRow w.heap.size 2 1 (.slice (some ⟨w.heap.size, 0, none⟩) n n) n (nums n fun j => if j < i then f j else 0))) (fun k _ => n - (intOf k).toNat)
  case atStart => exact ⟨0, Nat.zero_le _, rfl, HB, by simpa using HO⟩
  case round =>
    obtain ⟨i, hi', rfl, HB1, HO1⟩ := hrel
    by_cases hlt : i < n
    · rcases HS.out with h0 | ⟨b, off, rfl, hb, hc⟩
      · omega
      · have c1 : wr.cell? ⟨b, off + i, none⟩ = some (.int .i64 (f i)) := (HB1.out.cell (p := ⟨b, off + i, none⟩) hb).trans (hc i hlt)
        have c2 : wr.frozen? ⟨w.heap.size, i, none⟩ = false := HO1.out.frozenAt i
        have c3 : wr.cell? ⟨w.heap.size, i, none⟩ = some (.int .i64 0) := by
          have := HO1.out.cellAt i (by omega)
          rw [nums_get _ _ _ hlt] at this; simpa using this
        clear hc
        go_wp2
        go_roundw
        case rel =>
          refine ⟨i + 1, by omega, by go_num, HB1.out.setCell (Nat.le_refl _) _, ?_⟩
          have := (HO1.out.stored i (.int .i64 (f i))).1
          rw [nums_set] at this
          have e : nums n (fun j => if j < i + 1 then f j else 0) = nums n (fun j => if j = i then f i else if j < i then f j else 0) :=
            nums_congr fun j hj => by
              by_cases h1 : j = i
              · subst h1; simp
              · have h2 : (j < i + 1) = (j < i) := by simp only [eq_iff_iff]; omega
                simp only [h1, if_false, h2]
          show _root_.Go.World.ownsRow _ _ _ _ _ _ _
          rw [e]; exact this
        case measure => simp [intOf]; omega
    · go_wp2
      go_ret
      obtain rfl : i = n := by omega
      have h := HO1.out
      refine retInts_of_row (f := f) (e := 2) ?_ HB1.out
      have e : nums i f = nums i (fun j => if j < i then f j else 0) := nums_congr fun j hj => by simp [hj]
      rw [e]; exact h
end Go.Proofs.YtnpklnpicelcmaaGreat

namespace Go.Proofs.YtnpklnpicelcmaaGreat
open Go.RowKit
set_option linter.unusedVariables false

theorem src_some {w : World} {a : Option Addr} {n : Nat} {f : Nat → Int} (h : Src w a n f) (hp : 0 < n) : ∃ b off, a = some ⟨b, off, none⟩ ∧ b < w.heap.size ∧ ∀ i, i < n → w.cell? ⟨b, off + i, none⟩ = some (.int .i64 (f i)) := by
  rcases h with h | h
  · omega
  · exact h

theorem src_at {w : World} {b off n : Nat} {f : Nat → Int} (h : Src w (some ⟨b, off, none⟩) n f) : ∀ i, i < n → w.cell? ⟨b, off + i, none⟩ = some (.int .i64 (f i)) := fun i hi => h.at i hi

theorem news_at {w : World} {b off n : Nat} {f : Nat → Int} (hc : ∀ i, i < n → w.cell? ⟨b, off + i, none⟩ = some (.int .i64 (f i))) : ∀ (j : Nat) (u : Value), (nums n f)[j]? = some u → w.cell? ((⟨b, off, none⟩ : Addr).add j) = some u := by
  intro j u h
  by_cases hj : j < n
  · rw [nums_get _ _ _ hj] at h
    simp only [Option.some.injEq] at h
    subst h
    rcases j with _ | j
    · simpa [Addr.add] using hc 0 hj
    · simpa [Addr.add] using hc (j + 1) hj
  · rw [List.getElem?_eq_none (by simp [nums]; omega)] at h; simp at h

set_option maxRecDepth 100000 in
set_option maxHeartbeats 400000 in
theorem l1Ints_any (a : Option Addr) (n cap : Nat) (f : Nat → Int) (w : World) (hs : Src w a n f) (hp : 0 < n) (hn : n ≤ 1048576) :
    Calls Tryz.prog 74 #[.slice a n cap] w (RetInts w n f) := by
  obtain ⟨i0, hi, hz0, hz1, hz2⟩ := info_parts Tryz.info2
  obtain ⟨b, off, rfl, hb, hc⟩ := src_some hs hp
  have hc' : ∀ (j : Nat) (u : Value), (nums n f)[j]? = some u → (w.alloc (.cells #[] 2)).cell? ((⟨b, off, none⟩ : Addr).add j) = some u := fun j u h => by
    have := news_at hc j u h
    exact (((Below.refl w.heap.size w).alloc (Nat.le_refl _) _).cell (p := (⟨b, off, none⟩ : Addr).add j) (by rcases j with _ | j <;> simpa [Addr.add] using hb)).trans this
  have HC := Lib.hid hc'
  clear hc' hc hs
  go_enter Tryz.func74, Tryz.ntmps74
  go_wp2_with (at_builtin; refine wpList_append_own _ rfl _ _ 22 rfl w.heap.size 2 i0 (.int .i64 0) 1 8 Tryz.underlying22 hi hz0 hz1 hz2 rfl (by decide) _ 0 [] rfl (World.ownsRow_lit w #[] 0 (Nat.le_refl _) (by simp [maxLen]) rfl) ⟨b, off, none⟩ n cap (nums n f) rfl (by simp [nums]) HC.out (nums_one n f) (by unfold maxLen; omega) (by omega) (by simp) ?_; intro v' w1 hown hgrow _)
  go_ret
  exact retInts_of_row (e := 2) (by simpa using hown) (((Below.refl _ _).alloc (Nat.le_refl _) _).grown hgrow (by simp) (by intro k hk; cases hk; exact Nat.le_refl _))

set_option maxRecDepth 100000 in
set_option maxHeartbeats 400000 in
theorem clone_any (a : Option Addr) (n cap : Nat) (f : Nat → Int) (w : World) (hs : Src w a n f) (hp : 0 < n) (hn : n ≤ 1048576) :
    Calls Tryz.prog 57 #[.slice a n cap] w (RetInts w n f) := by
  obtain ⟨i0, hi, hz0, hz1, hz2⟩ := info_parts Tryz.info2
  obtain ⟨b, off, rfl, hb, hc⟩ := src_some hs hp
  have hc' : ∀ (j : Nat) (u : Value), (nums n f)[j]? = some u → (w.alloc (.cells #[] 2)).cell? ((⟨b, off, none⟩ : Addr).add j) = some u := fun j u h => by
    have := news_at hc j u h
    exact (((Below.refl w.heap.size w).alloc (Nat.le_refl _) _).cell (p := (⟨b, off, none⟩ : Addr).add j) (by rcases j with _ | j <;> simpa [Addr.add] using hb)).trans this
  have HC := Lib.hid hc'
  clear hc' hc hs
  have hnil := fun (w : World) (a : Option Addr) (n c : Nat) => Lib.run_eql_slice_nil (P := Tryz.prog) w 22 2 a n c 0 0 Tryz.underlying22
  go_enter Tryz.func57, Tryz.ntmps57
  go_wp2_with (at_builtin; refine wpList_append_own _ rfl _ _ 22 rfl w.heap.size 2 i0 (.int .i64 0) 1 8 Tryz.underlying22 hi hz0 hz1 hz2 rfl (by decide) _ 0 [] rfl (World.ownsRow_lit w #[] 0 (Nat.le_refl _) (by simp [maxLen]) rfl) ⟨b, off, none⟩ n cap (nums n f) rfl (by simp [nums]) HC.out (nums_one n f) (by unfold maxLen; omega) (by omega) (by simp) ?_; intro v' w1 hown hgrow _)
  go_ret
  exact retInts_of_row (e := 2) (by simpa using hown) (((Below.refl _ _).alloc (Nat.le_refl _) _).grown hgrow (by simp) (by intro k hk; cases hk; exact Nat.le_refl _))

/-- Grow of nothing: an empty row with room. -/
def RetEmpty (W : World) (e : Ending) (w' : World) : Prop :=
  ∃ v, e = .returned v ∧ w'.ownsRow W.heap.size 2 1 v 0 [] ∧ v.ownBlock = some W.heap.size ∧ Below W.heap.size W w' ∧ W.heap.size < w'.heap.size

set_option maxRecDepth 100000 in
set_option maxHeartbeats 400000 in
theorem grow_any (n : Nat) (w : World) (hp : 0 < n) (hn : n ≤ 1048576) :
    Calls Tryz.prog 98 #[.slice none 0 0, .int .i64 n] w (RetEmpty w) := by
  obtain ⟨i0, hi, hz0, hz1, hz2⟩ := info_parts Tryz.info2
  have hr := fun ty => Lib.run_append_nil_zeros (P := Tryz.prog) w 22 3 ty 2 i0 (.int .i64 0) .i64 .i64 Tryz.underlying22 Tryz.underlying3 hi hz0 n hp (by omega) (by omega) (by rw [hz2]; omega)
  have hg := grownCap_ge w n 0 2
  have hm := grownCap_le_maxLen w n 0 2 (by unfold maxLen; omega)
  obtain ⟨G, hG⟩ : ∃ G, G = grownCap w n 0 2 := ⟨_, rfl⟩
  rw [← hG] at hr hg hm
  unfold maxLen at hm
  clear hG
  have hg0 : 0 < G := by omega
  go_enter Tryz.func98, Tryz.ntmps98
  go_wp2_with (at_builtin; refine Lib.wpList_append_run _ rfl _ _ _ _ rfl _ _ rfl rfl _ _ (hr _) ?_)
  go_ret
  refine ⟨_, rfl, ?_, ?_, (Below.refl _ _).drew.alloc (Nat.le_refl _) _, by simp⟩
  · exact World.ownsRow_made w.drew _ G (Nat.le_refl _) (by unfold maxLen; omega) (by simp [size_zeroCells]; omega)
  · rfl

/-- Both rows, one behind the other. -/
def cat (n : Nat) (f g : Nat → Int) : Nat → Int := fun i => if i < n then f i else g (i - n)

set_option maxRecDepth 100000 in
set_option maxHeartbeats 800000 in
theorem concat_any (b : Nat) (a1 a2 : Option Addr) (n1 n2 c1 c2 : Nat) (f g : Nat → Int) (w : World) (hb : b < w.heap.size)
    (h1 : w.cell? ⟨b, 0, none⟩ = some (.slice a1 n1 c1)) (h2 : w.cell? ⟨b, 1, none⟩ = some (.slice a2 n2 c2))
    (s1 : Src w a1 n1 f) (s2 : Src w a2 n2 g) (hp1 : 0 < n1) (hp2 : 0 < n2) (hn1 : n1 ≤ 524288) (hn2 : n2 ≤ 524288) :
    Calls Tryz.prog 53 #[.slice (some ⟨b, 0, none⟩) 2 2] w (RetInts w (n1 + n2) (cat n1 f g)) := by
  obtain ⟨i0, hi, hz0, hz1, hz2⟩ := info_parts Tryz.info2
  obtain ⟨b1, o1, rfl, hb1, hc1⟩ := src_some s1 hp1
  obtain ⟨b2, o2, rfl, hb2, hc2⟩ := src_some s2 hp2
  have S1 := Lib.hid s1
  have S2 := Lib.hid s2
  clear s1 s2 hc1 hc2
  go_enter Tryz.func53, Tryz.ntmps53
  go_wp2
  refine wp_loop_rounds 3 ?_
  rw [rounds_succ]
  go_wp2
  rw [rounds_succ]
  go_wp2
  rw [rounds_succ]
  go_wp2_with (go_at_call 98; refine (grow_any (n1 + n2) _ (by omega) (by omega)).mono ?_; rintro e w1 ⟨v, rfl, ho, hbk, hbel, hsz⟩)
  have HO := Lib.hid ho
  have HBK := Lib.hid hbk
  have h1' := (hbel.cell (p := ⟨b, 0, none⟩) hb).trans h1
  have h2' := (hbel.cell (p := ⟨b, 1, none⟩) hb).trans h2
  have HB := Lib.hid hbel
  have hsz' : w.heap.size ≤ w1.heap.size := by omega
  clear ho hbk h1 hbel
  have S1' := Lib.hid (news_at (src_at (S1.out.below HB.out)))
  refine wp_loop_rounds 3 ?_
  rw [rounds_succ]
  go_wp2_with (at_builtin; refine wpList_append_own _ rfl (.tmp 31) (.tmp 32) 22 rfl w.heap.size 2 i0 (.int .i64 0) 1 8 Tryz.underlying22 hi hz0 hz1 hz2 rfl (by decide) v 0 [] rfl HO.out ⟨b1, o1, none⟩ n1 c1 (nums n1 f) rfl (by simp [nums]) S1'.out (nums_one n1 f) (by unfold maxLen; omega) (by omega) hsz' ?_; intro v2 w2 hown hgrow _)
  have hbel2 : Below w.heap.size w w2 := HB.out.grown hgrow hsz' (by intro k hk; rw [HBK.out] at hk; cases hk; exact Nat.le_refl _)
  simp only [Nat.zero_add, List.nil_append] at hown
  have S2' := Lib.hid (news_at (src_at (S2.out.below hbel2)))
  have h2'' := (hbel2.cell (p := ⟨b, 1, none⟩) hb).trans h2
  have hsz2 : w.heap.size ≤ w2.heap.size := hbel2.size
  have HO2 := Lib.hid hown
  have HB2 := Lib.hid hbel2
  clear hown hgrow hbel2 h1' h2' h2
  rw [rounds_succ]
  go_wp2_with (at_builtin; refine wpList_append_own _ rfl (.tmp 31) (.tmp 32) 22 rfl w.heap.size 2 i0 (.int .i64 0) 1 8 Tryz.underlying22 hi hz0 hz1 hz2 rfl (by decide) v2 n1 (nums n1 f) rfl HO2.out ⟨b2, o2, none⟩ n2 c2 (nums n2 g) rfl (by simp [nums]) S2'.out (nums_one n2 g) (by unfold maxLen; omega) (by omega) hsz2 ?_; intro v3 w3 hown hgrow _)
  have hbel3 : Below w.heap.size w w3 := HB2.out.grown hgrow hsz2 (fun k hk => (HO2.out.lt k hk).1)
  have HO3 := Lib.hid hown
  have HB3 := Lib.hid hbel3
  clear hown hgrow hbel3 h2''
  rw [rounds_succ]
  go_wp2
  go_ret
  have h := HO3.out
  rw [nums_append] at h
  exact retInts_of_row (e := 2) h HB3.out
end Go.Proofs.YtnpklnpicelcmaaGreat

namespace Go.Proofs.YtnpklnpicelcmaaGreat
open Go.RowKit
set_option linter.unusedVariables false

/-- Are two rows the same? -/
def eqB (n m : Nat) (f g : Nat → Int) : Bool := decide (n = m ∧ ∀ i, i < n → f i = g i)

theorem eqB_no {n : Nat} {f g : Nat → Int} (i : Nat) (hi : i < n) (h : ¬ f i = g i) : eqB n n f g = false := by
  simp only [eqB, true_and, decide_eq_false_iff_not]; exact fun k => h (k i hi)

theorem eqB_yes {n : Nat} {f g : Nat → Int} (h : ∀ i, i < n → f i = g i) : eqB n n f g = true := by
  simp only [eqB, true_and, decide_eq_true_eq]; exact h

/-- A Bool comes back; nothing that was there is turned. -/
def RetBool (W : World) (r : Bool) (e : Ending) (w' : World) : Prop := e = .returned (.bool r) ∧ Below W.heap.size W w'

theorem below_drewN {B : Nat} {a w : World} (h : Below B a w) (k : Nat) : Below B a (w.drewN k) := h.trans ⟨rfl, rfl, rfl, Nat.le_refl _, fun _ _ => rfl⟩

set_option maxRecDepth 100000 in
set_option maxHeartbeats 400000 in
theorem eqInts_same (a1 a2 : Option Addr) (n c1 c2 : Nat) (f g : Nat → Int) (w : World) (s1 : Src w a1 n f) (s2 : Src w a2 n g) (hn : n ≤ 1048576) :
    Calls Tryz.prog 25 #[.slice a1 n c1, .slice a2 n c2] w (RetBool w (eqB n n f g)) := by
  have S1 := Lib.hid s1
  have S2 := Lib.hid s2
  clear s1 s2
  go_enter Tryz.func25, Tryz.ntmps25
  go_wp2
  go_loopw [5] (fun k wr => ∃ i : Nat, i ≤ n ∧ k = .int .i64 i ∧ Hid (Below w.heap.size w wr) ∧ Hid (∀ j, j < i → f j = g j)) (fun k _ => n - (intOf k).toNat)
  case atStart => exact ⟨0, Nat.zero_le _, rfl, Below.refl _ _, fun j hj => by omega⟩
  case round =>
    obtain ⟨i, hi, rfl, HB, HE⟩ := hrel
    by_cases hlt : i < n
    · obtain ⟨b1, o1, rfl, hb1, hc1⟩ := src_some (S1.out.below HB.out) (by omega)
      obtain ⟨b2, o2, rfl, hb2, hc2⟩ := src_some (S2.out.below HB.out) (by omega)
      have d1 := hc1 i hlt
      have d2 := hc2 i hlt
      have hlt' : (i : Int) < (n : Int) := by omega
      clear hc1 hc2
      by_cases he : f i = g i
      · go_wp2
        go_quiet (fail)
        go_wp2
        go_roundw
        case rel => exact ⟨i + 1, by omega, by go_num, below_drewN HB.out _, fun j hj => by
            rcases Nat.lt_succ_iff_lt_or_eq.mp hj with h | h
            · exact HE.out j h
            · subst h; exact he⟩
        case measure => simp [intOf]; omega
      · have hd2 : (f i != g i) = true := by simpa using he
        go_wp2
        go_quiet (fail)
        go_wp2
        go_ret
        exact ⟨by rw [eqB_no i hlt he]; rfl, below_drewN HB.out _⟩
    · go_wp2
      go_ret
      exact ⟨by rw [eqB_yes fun j hj => HE.out j (by omega)]; rfl, HB.out⟩
end Go.Proofs.YtnpklnpicelcmaaGreat

namespace Go.Proofs.YtnpklnpicelcmaaGreat
open Go.RowKit
set_option linter.unusedVariables false

theorem bcell {W w1 : World} (hb : Below W.heap.size W w1) : (∀ b o, b < W.heap.size → w1.cell? ⟨b, o, none⟩ = W.cell? ⟨b, o, none⟩) ∧ (∀ b o, b < W.heap.size → w1.frozen? ⟨b, o, none⟩ = W.frozen? ⟨b, o, none⟩) :=
  ⟨fun b o h => hb.cell (p := ⟨b, o, none⟩) h, fun b o h => hb.frozen (p := ⟨b, o, none⟩) h⟩

/-- A block of the call's own, known cell by cell. -/
def Blk (w : World) (b : Nat) (cs : List Value) : Prop := b < w.heap.size ∧ ∀ i u, cs[i]? = some u → w.cell? ⟨b, i, none⟩ = some u ∧ w.frozen? ⟨b, i, none⟩ = false

theorem Blk.below {w w' : World} {b : Nat} {cs : List Value} (h : Blk w b cs) (hb : Below w.heap.size w w') : Blk w' b cs :=
  ⟨Nat.lt_of_lt_of_le h.1 hb.size, fun i u hu => ⟨(hb.cell (p := ⟨b, i, none⟩) h.1).trans (h.2 i u hu).1, (hb.frozen (p := ⟨b, i, none⟩) h.1).trans (h.2 i u hu).2⟩⟩

theorem Blk.alloc {w : World} {b : Nat} {cs : List Value} (h : Blk w b cs) (o : Obj) : Blk (w.alloc o) b cs := h.below ((Below.refl _ _).alloc (Nat.le_refl _) o)

theorem Blk.drew {w : World} {b : Nat} {cs : List Value} (h : Blk w b cs) : Blk w.drew b cs := h.below (Below.refl _ _).drew

theorem Blk.new (w : World) (cs : Array Value) (t : TypeId) : Blk (w.alloc (.cells cs t)) w.heap.size cs.toList := by
  refine ⟨by simp, fun i u hu => ?_⟩
  constructor
  · rw [World.cell?_alloc_at _ _ _ _ rfl]; simpa using hu
  · exact World.frozen?_alloc_at _ _ _ _ rfl

theorem Blk.new_at {w : World} {cs : Array Value} {t : TypeId} (b : Nat) (hb : b = w.heap.size) : Blk (w.alloc (.cells cs t)) b cs.toList := hb ▸ Blk.new w cs t

theorem Blk.at {w : World} {b : Nat} {cs : List Value} (h : Blk w b cs) (i : Nat) {u : Value} (hu : cs[i]? = some u) : w.cell? ⟨b, i, none⟩ = some u := (h.2 i u hu).1

theorem Blk.free {w : World} {b : Nat} {cs : List Value} (h : Blk w b cs) (i : Nat) {u : Value} (hu : cs[i]? = some u) : w.frozen? ⟨b, i, none⟩ = false := (h.2 i u hu).2

/-- An arena comes back, its words in new memory. -/
def RetArena (W : World) (h : Int) (n : Nat) (f : Nat → Int) (ac bu : Int) (e : Ending) (w' : World) : Prop :=
  ∃ a c, e = .returned (.agg #[.int .i64 h, .slice a n c, .int .i64 ac, .int .i64 bu]) ∧ Own w' W.heap.size a n f ∧ Below W.heap.size W w' ∧ n ≤ c ∧ c ≤ maxLen ∧ (a = none → n = 0 ∧ c = 0)

set_option maxRecDepth 100000 in
set_option maxHeartbeats 400000 in
theorem toArena_any (h ac bu : Int) (a : Option Addr) (n c : Nat) (f : Nat → Int) (w : World) (hs : Src w a n f) (hn : n ≤ 1048576) :
    Calls Tryz.prog 18 #[.agg #[.int .i64 h, .slice a n c, .int .i64 ac, .int .i64 bu]] w (RetArena w h n f ac bu) := by
  have HS := Lib.hid hs
  clear hs
  go_enter Tryz.func18, Tryz.ntmps18
  go_wp2_with (go_at_call 44; refine (toInts_any _ _ _ f _ (((HS.out.alloc _).alloc _).alloc _) hn).mono ?_; rintro e w1 ⟨a1, c1, rfl, ho, hb, hc1, hc2, hc3⟩; obtain ⟨hc, hf⟩ := bcell hb; have HO := Lib.hid ho; have HB := Lib.hid hb; have HN := Lib.hid hc3; have hz := hb.size; clear ho hb hc3)
  have hz' : w.heap.size + 2 < w1.heap.size := by simp at hz; omega
  clear hz
  refine bodyPost_ret (v := .agg #[.int .i64 h, .slice a1 n c1, .int .i64 ac, .int .i64 bu]) (by simp [results, Tryz.results18, go_sem, hc]) rfl ⟨a1, c1, rfl, ?_, ?_, hc1, hc2, HN.out⟩
  · have ho : Own w1 (w.heap.size + 3) a1 n f := HO.out.mono (by simp)
    refine Own.mono (B := w.heap.size + 3) ?_ (by omega)
    repeat (with_reducible refine Own.setCell ?_ (by simp; try omega) _)
    exact ho
  · have hb : Below w.heap.size w w1 := ((((Below.refl _ _).alloc (Nat.le_refl _) _).alloc (by simp) _).alloc (by simp; try omega) _).trans (HB.out.mono (by simp; try omega))
    repeat (with_reducible refine Below.setCell ?_ (by simp; try omega) _)
    exact hb

set_option maxRecDepth 100000 in
set_option maxHeartbeats 400000 in
theorem eqArena_same (h ac bu : Int) (a a' : Option Addr) (n c c' : Nat) (f g : Nat → Int) (w : World) (s1 : Src w a n f) (s2 : Src w a' n g) (hn : n ≤ 1048576) (he : ∀ i, i < n → f i = g i) :
    Calls Tryz.prog 26 #[.agg #[.int .i64 h, .slice a n c, .int .i64 ac, .int .i64 bu], .agg #[.int .i64 h, .slice a' n c', .int .i64 ac, .int .i64 bu]] w (RetBool w true) := by
  have S1 := Lib.hid s1
  have S2 := Lib.hid s2
  have HE := Lib.hid he
  clear s1 s2 he
  go_enter Tryz.func26, Tryz.ntmps26
  go_wp2_with (go_at_call 25; refine (eqInts_same _ _ _ _ _ f g _ ((S1.out.alloc _).alloc _) ((S2.out.alloc _).alloc _) hn).mono ?_; rw [eqB_yes HE.out]; rintro e w1 ⟨rfl, hb⟩; obtain ⟨hc, hf⟩ := bcell hb; have HB := Lib.hid hb; have hz := hb.size; clear hb)
  go_ret
  exact ⟨rfl, (((Below.refl _ _).alloc (Nat.le_refl _) _).alloc (by simp) _).trans (HB.out.mono (by simp; try omega))⟩
end Go.Proofs.YtnpklnpicelcmaaGreat

namespace Go.Proofs.YtnpklnpicelcmaaGreat
open Go.RowKit
set_option linter.unusedVariables false

/-- Three cells hold one bound. -/
def B3 (w : World) (b o : Nat) (v l g : Int) : Prop :=
  w.cell? ⟨b, o, none⟩ = some (.int .i64 v) ∧ w.cell? ⟨b, o + 1, none⟩ = some (.int .i64 l) ∧ w.cell? ⟨b, o + 2, none⟩ = some (.int .i64 g)

theorem B3.below {w w' : World} {b o : Nat} {v l g : Int} {B : Nat} (h : B3 w b o v l g) (hb : Below B w w') (hlt : b < B) : B3 w' b o v l g :=
  ⟨(hb.cell (p := ⟨b, o, none⟩) hlt).trans h.1, (hb.cell (p := ⟨b, o + 1, none⟩) hlt).trans h.2.1, (hb.cell (p := ⟨b, o + 2, none⟩) hlt).trans h.2.2⟩

-- All bounds hold.

set_option maxRecDepth 100000 in
set_option maxHeartbeats 400000 in
theorem isOut_no (b n : Nat) (v l g : Nat → Int) (w : World) (hn : n ≤ 3) (hb : b < w.heap.size)
   (h0 : ∀ i, i < n → B3 w b (i * 3) (v i) (l i) (g i)) (h1 : ∀ i, i < n → l i ≤ v i ∧ v i ≤ g i) :
    Calls Tryz.prog 87 #[.slice (some ⟨b, 0, none⟩) n n] w fun e w' => e = .returned (.bool false) ∧ Below w.heap.size w w' := by
  go_enter Tryz.func87, Tryz.ntmps87
  go_wp2
  go_loopw [7] (fun k wr => ∃ i : Nat, i ≤ n ∧ k = .int .i64 i ∧ Below w.heap.size w wr) (fun k _ => n - (intOf k).toNat)
  case atStart => exact ⟨0, Nat.zero_le _, rfl, Below.refl _ _⟩
  case round =>
    obtain ⟨i, hi, rfl, hbel⟩ := hrel
    by_cases hlt : i < n
    · obtain ⟨c1, c2, c3⟩ := (h0 i hlt).below hbel hb
      obtain ⟨d1, d2⟩ := h1 i hlt
      have hs := hbel.size
      clear h0 h1
      go_wp2
      go_roundw
      case rel => exact ⟨i + 1, by omega, by go_num, hbel.alloc hs _⟩
      case measure => simp [intOf]; omega
    · clear h0 h1
      go_wp2
      go_ret
      exact ⟨rfl, hbel⟩

-- Some bound does not hold.

set_option maxRecDepth 100000 in
set_option maxHeartbeats 400000 in
theorem isOut_yes (b n : Nat) (v l g : Nat → Int) (w : World) (hn : n ≤ 3) (hb : b < w.heap.size)
   (h0 : ∀ i, i < n → B3 w b (i * 3) (v i) (l i) (g i)) (h1 : ∃ i, i < n ∧ ¬ (l i ≤ v i ∧ v i ≤ g i)) :
    Calls Tryz.prog 87 #[.slice (some ⟨b, 0, none⟩) n n] w fun e w' => e = .returned (.bool true) ∧ Below w.heap.size w w' := by
  have H1 := Lib.hid h1
  clear h1
  go_enter Tryz.func87, Tryz.ntmps87
  go_wp2
  go_loopw [7] (fun k wr => ∃ i : Nat, i ≤ n ∧ k = .int .i64 i ∧ Below w.heap.size w wr ∧ Hid (∀ j, j < i → l j ≤ v j ∧ v j ≤ g j)) (fun k _ => n - (intOf k).toNat)
  case atStart => exact ⟨0, Nat.zero_le _, rfl, Below.refl _ _, fun j hj => by omega⟩
  case round =>
    obtain ⟨i, hi, rfl, hbel, hH⟩ := hrel
    by_cases hlt : i < n
    · obtain ⟨c1, c2, c3⟩ := (h0 i hlt).below hbel hb
      have hs := hbel.size
      clear h0
      by_cases e1 : v i < l i
      · go_wp2
        go_ret
        exact ⟨rfl, hbel.alloc hs _⟩
      · by_cases e2 : g i < v i
        · go_wp2
          go_ret
          exact ⟨rfl, hbel.alloc hs _⟩
        · go_wp2
          go_roundw
          case rel => exact ⟨i + 1, by omega, by go_num, hbel.alloc hs _, fun j hj => by
            rcases Nat.lt_succ_iff_lt_or_eq.mp hj with h | h
            · exact hH.out j h
            · subst h; omega⟩
          case measure => simp [intOf]; omega
    · exfalso
      obtain ⟨j, hj, hj'⟩ := H1.out
      exact hj' (hH.out j (by omega))
end Go.Proofs.YtnpklnpicelcmaaGreat

namespace Go.Proofs.YtnpklnpicelcmaaGreat
open Go.RowKit
set_option linter.unusedVariables false

def Word (v : Int) : Prop := -1000000000 ≤ v ∧ v ≤ 1000000000

def HeadOk (h ac bu : Int) : Prop := (8 ≤ h ∧ h ≤ 200) ∧ (0 ≤ ac ∧ ac ≤ 1) ∧ (0 ≤ bu ∧ bu ≤ h)

/-- The code of an arena. -/
def IsFault (h : Int) (n : Nat) (f : Nat → Int) (ac bu k : Int) : Prop :=
  (¬ HeadOk h ac bu ∧ k = 3) ∨ (HeadOk h ac bu ∧ ¬ (n : Int) = 2 * h ∧ k = 2) ∨ (HeadOk h ac bu ∧ (n : Int) = 2 * h ∧ (∃ i, i < n ∧ ¬ Word (f i)) ∧ k = 3) ∨
  (HeadOk h ac bu ∧ (n : Int) = 2 * h ∧ (∀ i, i < n → Word (f i)) ∧ k = 0)

theorem isFault_some (h : Int) (n : Nat) (f : Nat → Int) (ac bu : Int) : ∃ k, IsFault h n f ac bu k := by
  by_cases h1 : HeadOk h ac bu
  · by_cases h2 : (n : Int) = 2 * h
    · by_cases h3 : ∀ i, i < n → Word (f i)
      · exact ⟨0, .inr (.inr (.inr ⟨h1, h2, h3, rfl⟩))⟩
      · refine ⟨3, .inr (.inr (.inl ⟨h1, h2, ?_, rfl⟩))⟩
        apply Classical.byContradiction; intro hn
        exact h3 fun i hi => Classical.byContradiction fun hw => hn ⟨i, hi, hw⟩
    · exact ⟨2, .inr (.inl ⟨h1, h2, rfl⟩)⟩
  · exact ⟨3, .inl ⟨h1, rfl⟩⟩

/-- An integer comes back; nothing that was there is turned. -/
def RetInt (W : World) (r : Int) (e : Ending) (w' : World) : Prop := e = .returned (.int .i64 r) ∧ Below W.heap.size W w'

set_option maxRecDepth 100000 in
set_option maxHeartbeats 400000 in
theorem l1In_yes (v l g : Int) (w : World) (h1 : l ≤ v) (h2 : v ≤ g) : Calls Tryz.prog 75 #[.int .i64 v, .int .i64 l, .int .i64 g] w fun e w' => e = .returned (.bool true) ∧ w = w' := by
  go_enter Tryz.func75, Tryz.ntmps75
  go_wp2
  go_ret
  exact ⟨rfl, rfl⟩

set_option maxRecDepth 100000 in
set_option maxHeartbeats 400000 in
theorem l1In_no (v l g : Int) (w : World) (h : ¬ (l ≤ v ∧ v ≤ g)) : Calls Tryz.prog 75 #[.int .i64 v, .int .i64 l, .int .i64 g] w fun e w' => e = .returned (.bool false) ∧ w = w' := by
  by_cases h1 : l ≤ v
  · have h2 : ¬ v ≤ g := fun k => h ⟨h1, k⟩
    clear h
    go_enter Tryz.func75, Tryz.ntmps75
    go_wp2
    go_ret
    exact ⟨rfl, rfl⟩
  · clear h
    go_enter Tryz.func75, Tryz.ntmps75
    go_wp2
    go_ret
    exact ⟨rfl, rfl⟩

set_option maxRecDepth 100000 in
set_option maxHeartbeats 400000 in
theorem l1Value_yes (v : Int) (w : World) (h : Word v) : Calls Tryz.prog 118 #[.int .i64 v] w fun e w' => e = .returned (.bool true) ∧ w = w' := by
  obtain ⟨h1, h2⟩ := h
  go_enter Tryz.func118, Tryz.ntmps118
  go_wp2_with (go_at_call 75; (with_reducible refine (l1In_yes _ _ _ _ h1 h2).mono ?_); rintro e w' ⟨rfl, rfl⟩)
  go_ret
  exact ⟨rfl, rfl⟩

set_option maxRecDepth 100000 in
set_option maxHeartbeats 400000 in
theorem l1Value_no (v : Int) (w : World) (h : ¬ Word v) : Calls Tryz.prog 118 #[.int .i64 v] w fun e w' => e = .returned (.bool false) ∧ w = w' := by
  have H := Lib.hid h
  clear h
  go_enter Tryz.func118, Tryz.ntmps118
  go_wp2_with (go_at_call 75; (with_reducible refine (l1In_no _ _ _ _ (by have := H.out; unfold Word at this; omega)).mono ?_); rintro e w' ⟨rfl, rfl⟩)
  go_ret
  exact ⟨rfl, rfl⟩

set_option maxRecDepth 100000 in
set_option maxHeartbeats 400000 in
theorem specFault_head (h ac bu : Int) (a : Option Addr) (n c : Nat) (w : World) (h0 : ¬ HeadOk h ac bu) :
    Calls Tryz.prog 102 #[.agg #[.int .i64 h, .slice a n c, .int .i64 ac, .int .i64 bu]] w (RetInt w 3) := by
  by_cases c1 : 8 ≤ h ∧ h ≤ 200
  · by_cases c2 : 0 ≤ ac ∧ ac ≤ 1
    · have c3 : ¬ (0 ≤ bu ∧ bu ≤ h) := fun x => h0 ⟨c1, c2, x⟩
      have C3 := Lib.hid c3
      obtain ⟨c11, c12⟩ := c1
      obtain ⟨c21, c22⟩ := c2
      clear h0 c3
      go_enter Tryz.func102, Tryz.ntmps102
      go_wp2_with (first | (go_at_call 75; (with_reducible refine (l1In_yes _ _ _ _ (by omega) (by omega)).mono ?_); rintro e w' ⟨rfl, rfl⟩) | (go_at_call 75; (with_reducible refine (l1In_no _ _ _ _ (by have := C3.out; omega)).mono ?_); rintro e w' ⟨rfl, rfl⟩))
      go_ret
      exact ⟨rfl, (Below.refl _ _).alloc (Nat.le_refl _) _⟩
    · have C3 := Lib.hid c2
      obtain ⟨c11, c12⟩ := c1
      clear h0 c2
      go_enter Tryz.func102, Tryz.ntmps102
      go_wp2_with (first | (go_at_call 75; (with_reducible refine (l1In_no _ _ _ _ (by have := C3.out; omega)).mono ?_); rintro e w' ⟨rfl, rfl⟩) | (go_at_call 75; (with_reducible refine (l1In_yes _ _ _ _ (by omega) (by omega)).mono ?_); rintro e w' ⟨rfl, rfl⟩))
      go_ret
      exact ⟨rfl, (Below.refl _ _).alloc (Nat.le_refl _) _⟩
  · have C3 := Lib.hid c1
    clear h0 c1
    go_enter Tryz.func102, Tryz.ntmps102
    go_wp2_with (go_at_call 75; (with_reducible refine (l1In_no _ _ _ _ (by have := C3.out; omega)).mono ?_); rintro e w' ⟨rfl, rfl⟩)
    go_ret
    exact ⟨rfl, (Below.refl _ _).alloc (Nat.le_refl _) _⟩

set_option maxRecDepth 100000 in
set_option maxHeartbeats 400000 in
theorem specFault_many (h ac bu : Int) (a : Option Addr) (n c : Nat) (w : World) (h0 : HeadOk h ac bu) (hm : ¬ (n : Int) = 2 * h) :
    Calls Tryz.prog 102 #[.agg #[.int .i64 h, .slice a n c, .int .i64 ac, .int .i64 bu]] w (RetInt w 2) := by
  obtain ⟨⟨c11, c12⟩, ⟨c21, c22⟩, c31, c32⟩ := h0
  have hd : ((n : Int) != 2 * h) = true := by simpa using hm
  clear hm
  go_enter Tryz.func102, Tryz.ntmps102
  go_wp2_with (first | (go_at_call 75; (with_reducible refine (l1In_yes _ _ _ _ (by omega) (by omega)).mono ?_); rintro e w' ⟨rfl, rfl⟩))
  go_ret
  exact ⟨rfl, (Below.refl _ _).alloc (Nat.le_refl _) _⟩

set_option maxRecDepth 100000 in
set_option maxHeartbeats 400000 in
theorem specFault_words (h ac bu : Int) (a : Option Addr) (n c : Nat) (f : Nat → Int) (k : Int) (w : World) (hs : Src w a n f) (h0 : HeadOk h ac bu) (hm : (n : Int) = 2 * h)
    (hk : (k = 0 ∧ ∀ i, i < n → Word (f i)) ∨ (k = 3 ∧ ∃ i, i < n ∧ ¬ Word (f i))) :
    Calls Tryz.prog 102 #[.agg #[.int .i64 h, .slice a n c, .int .i64 ac, .int .i64 bu]] w (RetInt w k) := by
  obtain ⟨⟨c11, c12⟩, ⟨c21, c22⟩, c31, c32⟩ := h0
  have hd : ((n : Int) != 2 * h) = false := by simpa using hm
  have HS := Lib.hid hs
  have HK := Lib.hid hk
  have hn : n ≤ 400 := by omega
  clear hm hk hs
  go_enter Tryz.func102, Tryz.ntmps102
  go_wp2_with (first | (go_at_call 75; (with_reducible refine (l1In_yes _ _ _ _ (by omega) (by omega)).mono ?_); rintro e w' ⟨rfl, rfl⟩))
  go_loopw [3] (fun k' wr => ∃ i : Nat, i ≤ n ∧ k' = .int .i64 i ∧ wr = w.alloc (.cells #[.int .i64 h, .slice a n c, .int .i64 ac, .int .i64 bu] 29) ∧ Hid (∀ j, j < i → Word (f j))) (fun k' _ => n - (intOf k').toNat)
  case atStart => exact ⟨0, Nat.zero_le _, rfl, rfl, fun j hj => by omega⟩
  case round =>
    obtain ⟨i, hi, rfl, rfl, HE⟩ := hrel
    by_cases hlt : i < n
    · obtain ⟨b1, o1, rfl, hb1, hc1⟩ := src_some HS.out (by omega)
      have d1 := hc1 i hlt
      have hlt' : (i : Int) < (n : Int) := by omega
      clear hc1
      by_cases hw : Word (f i)
      · have HW := Lib.hid hw
        clear hw
        go_wp2_with (go_at_call 118; (with_reducible refine (l1Value_yes _ _ HW.out).mono ?_); rintro e w' ⟨rfl, rfl⟩)
        go_roundw
        case rel => exact ⟨i + 1, by omega, by go_num, trivial, fun j hj => by
            rcases Nat.lt_succ_iff_lt_or_eq.mp hj with h | h
            · exact HE.out j h
            · subst h; exact HW.out⟩
        case measure => simp [intOf]; omega
      · have HW := Lib.hid hw
        clear hw
        go_wp2_with (go_at_call 118; (with_reducible refine (l1Value_no _ _ HW.out).mono ?_); rintro e w' ⟨rfl, rfl⟩)
        go_ret
        rcases HK.out with ⟨_, hk⟩ | ⟨hk, _⟩
        · exact absurd (hk i hlt) HW.out
        · subst hk; exact ⟨rfl, (Below.refl _ _).alloc (Nat.le_refl _) _⟩
    · go_wp2
      go_ret
      rcases HK.out with ⟨hk, _⟩ | ⟨_, j, hj, hk⟩
      · subst hk; exact ⟨rfl, (Below.refl _ _).alloc (Nat.le_refl _) _⟩
      · exact absurd (HE.out j (by omega)) hk

theorem specFault_any (h ac bu : Int) (a : Option Addr) (n c : Nat) (f : Nat → Int) (k : Int) (w : World) (hs : Src w a n f) (hk : IsFault h n f ac bu k) :
    Calls Tryz.prog 102 #[.agg #[.int .i64 h, .slice a n c, .int .i64 ac, .int .i64 bu]] w (RetInt w k) := by
  rcases hk with ⟨h1, rfl⟩ | ⟨h1, h2, rfl⟩ | ⟨h1, h2, h3, rfl⟩ | ⟨h1, h2, h3, rfl⟩
  · exact specFault_head h ac bu a n c w h1
  · exact specFault_many h ac bu a n c w h1 h2
  · exact specFault_words h ac bu a n c f 3 w hs h1 h2 (.inr ⟨rfl, h3⟩)
  · exact specFault_words h ac bu a n c f 0 w hs h1 h2 (.inl ⟨rfl, h3⟩)

set_option maxRecDepth 100000 in
set_option maxHeartbeats 400000 in
theorem wordBound_any (v : Int) (w : World) : Calls Tryz.prog 116 #[.int .i64 v] w fun e w' => e = .returned (.agg #[.int .i64 v, .int .i64 (-1000000000), .int .i64 1000000000]) ∧ Below w.heap.size w w' := by
  go_enter Tryz.func116, Tryz.ntmps116
  go_wp2
  exact bodyPost_ret (v := .agg #[.int .i64 v, .int .i64 (-1000000000), .int .i64 1000000000]) (by simp [results, Tryz.results116, go_sem]) rfl ⟨rfl, (Below.refl _ _).alloc (Nat.le_refl _) _⟩

theorem b3_new {W : World} {cs : Array Value} {t : TypeId} {o : Nat} {v l g : Int} (h1 : cs[o]? = some (.int .i64 v)) (h2 : cs[o + 1]? = some (.int .i64 l)) (h3 : cs[o + 2]? = some (.int .i64 g)) : B3 (W.alloc (.cells cs t)) W.heap.size o v l g := by
  refine ⟨?_, ?_, ?_⟩ <;> (rw [World.cell?_alloc_at _ _ _ _ rfl]; assumption)

/-- isOutside, of bounds that were laid just ahead of the call. -/
def pick3 (a b c : Int) : Nat → Int := fun i => if i = 0 then a else if i = 1 then b else c

theorem isOut1 (B : Nat) (W : World) (v l g : Int) (r : Bool) (hB : B = W.heap.size) (hr : (r = false ∧ (l ≤ v ∧ v ≤ g)) ∨ (r = true ∧ ¬ (l ≤ v ∧ v ≤ g))) :
    Calls Tryz.prog 87 #[.slice (some ⟨B, 0, none⟩) 1 1] (W.alloc (.cells #[.int .i64 v, .int .i64 l, .int .i64 g] 141)) (RetBool (W.alloc (.cells #[.int .i64 v, .int .i64 l, .int .i64 g] 141)) r) := by
  subst hB
  rcases hr with ⟨rfl, hr⟩ | ⟨rfl, hr⟩
  · refine isOut_no W.heap.size 1 (fun _ => v) (fun _ => l) (fun _ => g) _ (by omega) (by simp) (fun i hi => ?_) (fun _ _ => hr)
    obtain rfl : i = 0 := by omega
    exact b3_new rfl rfl rfl
  · refine isOut_yes W.heap.size 1 (fun _ => v) (fun _ => l) (fun _ => g) _ (by omega) (by simp) (fun i hi => ?_) ⟨0, by omega, hr⟩
    obtain rfl : i = 0 := by omega
    exact b3_new rfl rfl rfl

theorem isOut2 (B : Nat) (W : World) (v0 l0 g0 v1 l1 g1 : Int) (r : Bool) (hB : B = W.heap.size)
    (hr : (r = false ∧ (l0 ≤ v0 ∧ v0 ≤ g0) ∧ (l1 ≤ v1 ∧ v1 ≤ g1)) ∨ (r = true ∧ ¬ ((l0 ≤ v0 ∧ v0 ≤ g0) ∧ (l1 ≤ v1 ∧ v1 ≤ g1)))) :
    Calls Tryz.prog 87 #[.slice (some ⟨B, 0, none⟩) 2 2] (W.alloc (.cells #[.int .i64 v0, .int .i64 l0, .int .i64 g0, .int .i64 v1, .int .i64 l1, .int .i64 g1] 141))
      (RetBool (W.alloc (.cells #[.int .i64 v0, .int .i64 l0, .int .i64 g0, .int .i64 v1, .int .i64 l1, .int .i64 g1] 141)) r) := by
  subst hB
  have hB3 : ∀ i, i < 2 → B3 (W.alloc (.cells #[.int .i64 v0, .int .i64 l0, .int .i64 g0, .int .i64 v1, .int .i64 l1, .int .i64 g1] 141)) W.heap.size (i * 3) (pick3 v0 v1 0 i) (pick3 l0 l1 0 i) (pick3 g0 g1 0 i) := by
    intro i hi
    match i, hi with
    | 0, _ => exact b3_new rfl rfl rfl
    | 1, _ => exact b3_new rfl rfl rfl
  rcases hr with ⟨rfl, hr⟩ | ⟨rfl, hr⟩
  · refine isOut_no W.heap.size 2 _ _ _ _ (by omega) (by simp) hB3 (fun i hi => ?_)
    match i, hi with
    | 0, _ => exact hr.1
    | 1, _ => exact hr.2
  · refine isOut_yes W.heap.size 2 _ _ _ _ (by omega) (by simp) hB3 ?_
    by_cases h0 : l0 ≤ v0 ∧ v0 ≤ g0
    · exact ⟨1, by omega, fun h1 => hr ⟨h0, h1⟩⟩
    · exact ⟨0, by omega, h0⟩

theorem isOut3 (B : Nat) (W : World) (v0 l0 g0 v1 l1 g1 v2 l2 g2 : Int) (r : Bool) (hB : B = W.heap.size)
    (hr : (r = false ∧ (l0 ≤ v0 ∧ v0 ≤ g0) ∧ (l1 ≤ v1 ∧ v1 ≤ g1) ∧ (l2 ≤ v2 ∧ v2 ≤ g2)) ∨ (r = true ∧ ¬ ((l0 ≤ v0 ∧ v0 ≤ g0) ∧ (l1 ≤ v1 ∧ v1 ≤ g1) ∧ (l2 ≤ v2 ∧ v2 ≤ g2)))) :
    Calls Tryz.prog 87 #[.slice (some ⟨B, 0, none⟩) 3 3] (W.alloc (.cells #[.int .i64 v0, .int .i64 l0, .int .i64 g0, .int .i64 v1, .int .i64 l1, .int .i64 g1, .int .i64 v2, .int .i64 l2, .int .i64 g2] 141))
      (RetBool (W.alloc (.cells #[.int .i64 v0, .int .i64 l0, .int .i64 g0, .int .i64 v1, .int .i64 l1, .int .i64 g1, .int .i64 v2, .int .i64 l2, .int .i64 g2] 141)) r) := by
  subst hB
  have hB3 : ∀ i, i < 3 → B3 (W.alloc (.cells #[.int .i64 v0, .int .i64 l0, .int .i64 g0, .int .i64 v1, .int .i64 l1, .int .i64 g1, .int .i64 v2, .int .i64 l2, .int .i64 g2] 141)) W.heap.size (i * 3) (pick3 v0 v1 v2 i) (pick3 l0 l1 l2 i) (pick3 g0 g1 g2 i) := by
    intro i hi
    match i, hi with
    | 0, _ => exact b3_new rfl rfl rfl
    | 1, _ => exact b3_new rfl rfl rfl
    | 2, _ => exact b3_new rfl rfl rfl
  rcases hr with ⟨rfl, hr⟩ | ⟨rfl, hr⟩
  · refine isOut_no W.heap.size 3 _ _ _ _ (by omega) (by simp) hB3 (fun i hi => ?_)
    match i, hi with
    | 0, _ => exact hr.1
    | 1, _ => exact hr.2.1
    | 2, _ => exact hr.2.2
  · refine isOut_yes W.heap.size 3 _ _ _ _ (by omega) (by simp) hB3 ?_
    by_cases h0 : l0 ≤ v0 ∧ v0 ≤ g0
    · by_cases h1 : l1 ≤ v1 ∧ v1 ≤ g1
      · exact ⟨2, by omega, fun h2 => hr ⟨h0, h1, h2⟩⟩
      · exact ⟨1, by omega, h1⟩
    · exact ⟨0, by omega, h0⟩

set_option maxRecDepth 100000 in
set_option maxHeartbeats 400000 in
theorem implFault_head (h ac bu : Int) (a : Option Addr) (n c : Nat) (w : World) (h0 : ¬ HeadOk h ac bu) :
    Calls Tryz.prog 93 #[.agg #[.int .i64 h, .slice a n c, .int .i64 ac, .int .i64 bu]] w (RetInt w 3) := by
  have H0 : Hid (¬ ((8 ≤ h ∧ h ≤ 200) ∧ (0 ≤ ac ∧ ac ≤ 1) ∧ (0 ≤ bu ∧ bu ≤ h))) := h0
  clear h0
  go_enter Tryz.func93, Tryz.ntmps93
  go_wp2_with (go_at_call 87; (with_reducible refine (isOut3 _ _ _ _ _ _ _ _ _ _ _ true (by simp) (.inr ⟨rfl, H0.out⟩)).mono ?_); rintro e w1 ⟨rfl, hb⟩; obtain ⟨hc, hf⟩ := bcell hb; have HB := Lib.hid hb; have hz := hb.size; clear hb)
  go_ret
  exact ⟨rfl, (((Below.refl _ _).alloc (Nat.le_refl _) _).alloc (by simp) _).trans (HB.out.mono (by simp; try omega))⟩

set_option maxRecDepth 100000 in
set_option maxHeartbeats 400000 in
theorem implFault_many (h ac bu : Int) (a : Option Addr) (n c : Nat) (w : World) (h0 : HeadOk h ac bu) (hm : ¬ (n : Int) = 2 * h) :
    Calls Tryz.prog 93 #[.agg #[.int .i64 h, .slice a n c, .int .i64 ac, .int .i64 bu]] w (RetInt w 2) := by
  have H0 : Hid ((8 ≤ h ∧ h ≤ 200) ∧ (0 ≤ ac ∧ ac ≤ 1) ∧ (0 ≤ bu ∧ bu ≤ h)) := h0
  have hd : ((n : Int) != 2 * h) = true := by simpa using hm
  obtain ⟨⟨c11, c12⟩, ⟨c21, c22⟩, c31, c32⟩ := h0
  clear hm
  go_enter Tryz.func93, Tryz.ntmps93
  go_wp2_with (go_at_call 87; (with_reducible refine (isOut3 _ _ _ _ _ _ _ _ _ _ _ false (by simp) (.inl ⟨rfl, H0.out⟩)).mono ?_); rintro e w1 ⟨rfl, hb⟩; obtain ⟨hc, hf⟩ := bcell hb; have HB := Lib.hid hb; have hz := hb.size; clear hb)
  go_ret
  exact ⟨rfl, (((Below.refl _ _).alloc (Nat.le_refl _) _).alloc (by simp) _).trans (HB.out.mono (by simp; try omega))⟩

set_option maxRecDepth 100000 in
set_option maxHeartbeats 800000 in
theorem implFault_words (h ac bu : Int) (a : Option Addr) (n c : Nat) (f : Nat → Int) (k : Int) (w : World) (hs : Src w a n f) (h0 : HeadOk h ac bu) (hm : (n : Int) = 2 * h)
    (hk : (k = 0 ∧ ∀ i, i < n → Word (f i)) ∨ (k = 3 ∧ ∃ i, i < n ∧ ¬ Word (f i))) :
    Calls Tryz.prog 93 #[.agg #[.int .i64 h, .slice a n c, .int .i64 ac, .int .i64 bu]] w (RetInt w k) := by
  have H0 : Hid ((8 ≤ h ∧ h ≤ 200) ∧ (0 ≤ ac ∧ ac ≤ 1) ∧ (0 ≤ bu ∧ bu ≤ h)) := h0
  obtain ⟨⟨c11, c12⟩, ⟨c21, c22⟩, c31, c32⟩ := h0
  have hd : ((n : Int) != 2 * h) = false := by simpa using hm
  have HS := Lib.hid hs
  have HK := Lib.hid hk
  have hn : n ≤ 400 := by omega
  clear hm hk hs
  go_enter Tryz.func93, Tryz.ntmps93
  go_wp2_with (go_at_call 87; (with_reducible refine (isOut3 _ _ _ _ _ _ _ _ _ _ _ false (by simp) (.inl ⟨rfl, H0.out⟩)).mono ?_); rintro e w1 ⟨rfl, hb⟩; obtain ⟨hc, hf⟩ := bcell hb; have HB := Lib.hid hb; have hz := hb.size; clear hb)
  have HB1 : Hid (Below w.heap.size w w1) := (((Below.refl _ _).alloc (Nat.le_refl _) _).alloc (by simp) _).trans (HB.out.mono (by simp; try omega))
  clear hc hf hz HB
  go_loopw [28] (fun k' wr => ∃ i : Nat, i ≤ n ∧ k' = .int .i64 i ∧ Hid (Below w.heap.size w wr) ∧ Hid (∀ j, j < i → Word (f j))) (fun k' _ => n - (intOf k').toNat)
  case atStart => exact ⟨0, Nat.zero_le _, rfl, HB1, fun j hj => by omega⟩
  case round =>
    obtain ⟨i, hi, rfl, HBr, HE⟩ := hrel
    by_cases hlt : i < n
    · obtain ⟨b1, o1, rfl, hb1, hc1⟩ := src_some (HS.out.below HBr.out) (by omega)
      have d1 := hc1 i hlt
      have hlt' : (i : Int) < (n : Int) := by omega
      have hz := HBr.out.size
      clear hc1 HB1
      by_cases hw : Word (f i)
      · have HW : Hid (-1000000000 ≤ f i ∧ f i ≤ 1000000000) := hw
        clear hw
        go_wp2_with (first | (go_at_call 116; (with_reducible refine (wordBound_any _ _).mono ?_); rintro e w2 ⟨rfl, hb2⟩; have HB2 := Lib.hid hb2; have hz2 := hb2.size; clear hb2) | (go_at_call 87; (with_reducible refine (isOut1 _ _ _ _ _ false (by simp) (.inl ⟨rfl, HW.out⟩)).mono ?_); rintro e w3 ⟨rfl, hb3⟩; have HB3 := Lib.hid hb3; have hz3 := hb3.size; clear hb3))
        go_roundw
        case rel => exact ⟨i + 1, by omega, by go_num, ((HBr.out.trans (HB2.out.mono (by omega))).alloc (by omega) _).trans (HB3.out.mono (by simp; omega)), fun j hj => by
            rcases Nat.lt_succ_iff_lt_or_eq.mp hj with h | h
            · exact HE.out j h
            · subst h; exact HW.out⟩
        case measure => simp [intOf]; omega
      · have HW : Hid (¬ (-1000000000 ≤ f i ∧ f i ≤ 1000000000)) := hw
        clear hw
        go_wp2_with (first | (go_at_call 116; (with_reducible refine (wordBound_any _ _).mono ?_); rintro e w2 ⟨rfl, hb2⟩; have HB2 := Lib.hid hb2; have hz2 := hb2.size; clear hb2) | (go_at_call 87; (with_reducible refine (isOut1 _ _ _ _ _ true (by simp) (.inr ⟨rfl, HW.out⟩)).mono ?_); rintro e w3 ⟨rfl, hb3⟩; have HB3 := Lib.hid hb3; have hz3 := hb3.size; clear hb3))
        go_ret
        rcases HK.out with ⟨_, hk⟩ | ⟨hk, _⟩
        · exact absurd (hk i hlt) HW.out
        · subst hk; exact ⟨rfl, ((HBr.out.trans (HB2.out.mono (by omega))).alloc (by omega) _).trans (HB3.out.mono (by simp; omega))⟩
    · go_wp2
      go_ret
      rcases HK.out with ⟨hk, _⟩ | ⟨_, j, hj, hk⟩
      · subst hk; exact ⟨rfl, HBr.out⟩
      · exact absurd (HE.out j (by omega)) hk

theorem implFault_any (h ac bu : Int) (a : Option Addr) (n c : Nat) (f : Nat → Int) (k : Int) (w : World) (hs : Src w a n f) (hk : IsFault h n f ac bu k) :
    Calls Tryz.prog 93 #[.agg #[.int .i64 h, .slice a n c, .int .i64 ac, .int .i64 bu]] w (RetInt w k) := by
  rcases hk with ⟨h1, rfl⟩ | ⟨h1, h2, rfl⟩ | ⟨h1, h2, h3, rfl⟩ | ⟨h1, h2, h3, rfl⟩
  · exact implFault_head h ac bu a n c w h1
  · exact implFault_many h ac bu a n c w h1 h2
  · exact implFault_words h ac bu a n c f 3 w hs h1 h2 (.inr ⟨rfl, h3⟩)
  · exact implFault_words h ac bu a n c f 0 w hs h1 h2 (.inl ⟨rfl, h3⟩)
end Go.Proofs.YtnpklnpicelcmaaGreat

namespace Go.Proofs.YtnpklnpicelcmaaGreat
open Go.RowKit
set_option linter.unusedVariables false

theorem isFault_ok {h : Int} {n : Nat} {f : Nat → Int} {ac bu : Int} (hk : IsFault h n f ac bu 0) : HeadOk h ac bu ∧ (n : Int) = 2 * h ∧ ∀ i, i < n → Word (f i) := by
  rcases hk with ⟨_, hk⟩ | ⟨_, _, hk⟩ | ⟨_, _, _, hk⟩ | ⟨h1, h2, h3, _⟩
  · omega
  · omega
  · omega
  · exact ⟨h1, h2, h3⟩

/-- A pair of numbers comes back; nothing that was there is turned. -/
def RetPair (W : World) (c v : Int) (e : Ending) (w' : World) : Prop := e = .returned (.agg #[.int .i64 c, .int .i64 v]) ∧ Below W.heap.size W w'

theorem thru0 {w w1 w2 : World} (h : Below w.heap.size w w1) (hb : Below w1.heap.size w1 w2) : Below w.heap.size w w2 := h.trans (hb.mono h.size)

theorem thru1 {w w1 w2 : World} {o : Obj} (h : Below w.heap.size w w1) (hb : Below (w1.alloc o).heap.size (w1.alloc o) w2) : Below w.heap.size w w2 := thru0 (h.alloc h.size o) hb

theorem thru2 {w w1 w2 : World} {o o' : Obj} (h : Below w.heap.size w w1) (hb : Below ((w1.alloc o).alloc o').heap.size ((w1.alloc o).alloc o') w2) : Below w.heap.size w w2 := thru1 (h.alloc h.size o) hb

theorem thru3 {w w1 w2 : World} {o o' o2 : Obj} (h : Below w.heap.size w w1) (hb : Below (((w1.alloc o).alloc o').alloc o2).heap.size (((w1.alloc o).alloc o').alloc o2) w2) : Below w.heap.size w w2 := thru2 (h.alloc h.size o) hb

theorem thru4 {w w1 w2 : World} {o o' o2 o3 : Obj} (h : Below w.heap.size w w1) (hb : Below ((((w1.alloc o).alloc o').alloc o2).alloc o3).heap.size ((((w1.alloc o).alloc o').alloc o2).alloc o3) w2) : Below w.heap.size w w2 := thru3 (h.alloc h.size o) hb
end Go.Proofs.YtnpklnpicelcmaaGreat

namespace Go.Proofs.YtnpklnpicelcmaaGreat
open Go.RowKit
set_option linter.unusedVariables false

/-- Nothing that was there is turned, but in the blocks from lo to hi. -/
structure Keeps (w w' : World) (lo hi : Nat) : Prop where
  os : w'.os = w.os
  tape : w'.tape = w.tape
  output : w'.output = w.output
  size : w.heap.size ≤ w'.heap.size
  block : ∀ k, k < w.heap.size → (k < lo ∨ hi ≤ k) → w'.heap[k]? = w.heap[k]?

theorem Keeps.refl (w : World) (lo hi : Nat) : Keeps w w lo hi := ⟨rfl, rfl, rfl, Nat.le_refl _, fun _ _ _ => rfl⟩

theorem Keeps.trans {w w1 w2 : World} {lo hi : Nat} (h : Keeps w w1 lo hi) (k : Keeps w1 w2 lo hi) : Keeps w w2 lo hi :=
  ⟨k.os.trans h.os, k.tape.trans h.tape, k.output.trans h.output, Nat.le_trans h.size k.size, fun i hi h' => (k.block i (Nat.lt_of_lt_of_le hi h.size) h').trans (h.block i hi h')⟩

theorem keeps_of_below {w w' : World} (h : Below w.heap.size w w') (lo hi : Nat) : Keeps w w' lo hi := ⟨h.os, h.tape, h.output, h.size, fun k hk _ => h.block k hk⟩

theorem keeps_setCell {w : World} {lo hi : Nat} {p : Addr} (h1 : lo ≤ p.block) (h2 : p.block < hi) (u : Value) : Keeps w (w.setCell p u) lo hi := by
  have h : Below p.block w (w.setCell p u) := (Below.refl _ _).setCell (Nat.le_refl _) u
  exact ⟨h.os, h.tape, h.output, h.size, fun k _ hk' => Below.heap_setCell w p u k (by omega)⟩

theorem Keeps.below {w w' : World} {lo hi B : Nat} (h : Keeps w w' lo hi) (hB : B ≤ lo) (hs : B ≤ w.heap.size) : Below B w w' :=
  ⟨h.os, h.tape, h.output, h.size, fun k hk => h.block k (by omega) (.inl (by omega))⟩

theorem Blk.keeps {w w' : World} {b lo hi : Nat} {cs : List Value} (h : Blk w b cs) (hk : Keeps w w' lo hi) (hd : b < lo ∨ hi ≤ b) : Blk w' b cs := by
  have e := hk.block b h.1 hd
  exact ⟨Nat.lt_of_lt_of_le h.1 hk.size, fun i u hu => ⟨(World.cell?_of_block (w := w) (a := ⟨b, i, none⟩) e).trans (h.2 i u hu).1, (World.frozen?_of_block (w := w) (a := ⟨b, i, none⟩) e).trans (h.2 i u hu).2⟩⟩

/-- A row of the call's own, in a block from lo to hi. -/
def OwnIn (w : World) (lo hi : Nat) (a : Option Addr) (n : Nat) (f : Nat → Int) : Prop :=
  n = 0 ∨ ∃ b off, a = some ⟨b, off, none⟩ ∧ (lo ≤ b ∧ b < hi) ∧ b < w.heap.size ∧ ∀ i, i < n → w.cell? ⟨b, off + i, none⟩ = some (.int .i64 (f i)) ∧ w.frozen? ⟨b, off + i, none⟩ = false

theorem Own.into {w : World} {B : Nat} {a : Option Addr} {n : Nat} {f : Nat → Int} (h : Own w B a n f) : OwnIn w B w.heap.size a n f := by
  rcases h with h | ⟨b, off, h1, h2, h3, h4⟩
  · exact .inl h
  · exact .inr ⟨b, off, h1, ⟨h2, h3⟩, h3, h4⟩

theorem OwnIn.src {w : World} {lo hi : Nat} {a : Option Addr} {n : Nat} {f : Nat → Int} (h : OwnIn w lo hi a n f) : Src w a n f := by
  rcases h with h | ⟨b, off, h1, _, h3, h4⟩
  · exact .inl h
  · exact .inr ⟨b, off, h1, h3, fun i hi => (h4 i hi).1⟩

theorem OwnIn.keeps {w w' : World} {lo hi lo' hi' : Nat} {a : Option Addr} {n : Nat} {f : Nat → Int} (h : OwnIn w lo hi a n f) (hk : Keeps w w' lo' hi') (hd : hi ≤ lo' ∨ hi' ≤ lo) : OwnIn w' lo hi a n f := by
  rcases h with h | ⟨b, off, h1, h2, h3, h4⟩
  · exact .inl h
  · have e := hk.block b h3 (by omega)
    exact .inr ⟨b, off, h1, h2, Nat.lt_of_lt_of_le h3 hk.size, fun i hi => ⟨(World.cell?_of_block (w := w) (a := ⟨b, off + i, none⟩) e).trans (h4 i hi).1, (World.frozen?_of_block (w := w) (a := ⟨b, off + i, none⟩) e).trans (h4 i hi).2⟩⟩

theorem OwnIn.below {w w' : World} {lo hi : Nat} {a : Option Addr} {n : Nat} {f : Nat → Int} (h : OwnIn w lo hi a n f) (hb : Below w.heap.size w w') : OwnIn w' lo hi a n f := by
  rcases h with h | ⟨b, off, h1, h2, h3, h4⟩
  · exact .inl h
  · exact .inr ⟨b, off, h1, h2, Nat.lt_of_lt_of_le h3 hb.size, fun i hi => ⟨(hb.cell (p := ⟨b, off + i, none⟩) h3).trans (h4 i hi).1, (hb.frozen (p := ⟨b, off + i, none⟩) h3).trans (h4 i hi).2⟩⟩

theorem OwnIn.alloc {w : World} {lo hi : Nat} {a : Option Addr} {n : Nat} {f : Nat → Int} (h : OwnIn w lo hi a n f) (o : Obj) : OwnIn (w.alloc o) lo hi a n f := h.below ((Below.refl _ _).alloc (Nat.le_refl _) o)

theorem OwnIn.drew {w : World} {lo hi : Nat} {a : Option Addr} {n : Nat} {f : Nat → Int} (h : OwnIn w lo hi a n f) : OwnIn w.drew lo hi a n f := h.below (Below.refl _ _).drew

theorem OwnIn.congr {w : World} {lo hi : Nat} {a : Option Addr} {n : Nat} {f g : Nat → Int} (h : OwnIn w lo hi a n f) (e : ∀ i, i < n → f i = g i) : OwnIn w lo hi a n g := by
  rcases h with h | ⟨b, off, h1, h2, h3, h4⟩
  · exact .inl h
  · exact .inr ⟨b, off, h1, h2, h3, fun i hi => by rw [← e i hi]; exact h4 i hi⟩

/-- A store into the row. -/
theorem OwnIn.stored {w : World} {lo hi b off n : Nat} {f : Nat → Int} (h : OwnIn w lo hi (some ⟨b, off, none⟩) n f) (i : Nat) (hi' : i < n) (v : Int) :
    OwnIn (w.setCell ⟨b, off + i, none⟩ (.int .i64 v)) lo hi (some ⟨b, off, none⟩) n (fun j => if j = i then v else f j) ∧ Keeps w (w.setCell ⟨b, off + i, none⟩ (.int .i64 v)) lo hi := by
  rcases h with h | ⟨b', off', h1, h2, h3, h4⟩
  · omega
  · simp only [Option.some.injEq, Addr.mk.injEq, and_true] at h1
    obtain ⟨rfl, rfl⟩ := h1
    refine ⟨.inr ⟨b, off, rfl, h2, by simpa using h3, fun j hj => ⟨?_, ?_⟩⟩, keeps_setCell h2.1 h2.2 _⟩
    · by_cases e : j = i
      · subst e
        simpa using World.cell?_setCell_same w ⟨b, off + j, none⟩ (.int .i64 v) (h4 j hj).1
      · rw [World.cell?_setCell_other _ _ _ _ (by simp; try omega), (h4 j hj).1]; simp [e]
    · rw [World.frozen?_setCell]; exact (h4 j hj).2

def RetMark (W : World) (lo hi : Nat) (a : Option Addr) (n : Nat) (k : Int) (e : Ending) (w' : World) : Prop :=
  e = .returned (.int .i64 (k + n)) ∧ OwnIn w' lo hi a n (fun i => k + i) ∧ Keeps W w' lo hi

set_option maxRecDepth 100000 in
set_option maxHeartbeats 400000 in
theorem markInts_any (a : Option Addr) (n c lo hi : Nat) (f : Nat → Int) (k : Int) (w : World) (ho : OwnIn w lo hi a n f) (hn : n ≤ 1048576) (hk0 : 0 ≤ k) (hk1 : k ≤ 1048576) :
    Calls Tryz.prog 31 #[.slice a n c, .int .i64 k] w (RetMark w lo hi a n k) := by
  have HO := Lib.hid ho
  clear ho
  go_enter Tryz.func31, Tryz.ntmps31
  go_wp2
  go_loopw [1, 5] (fun q p wr => ∃ i : Nat, i ≤ n ∧ p = .int .i64 i ∧ q = .int .i64 (k + i) ∧ Hid (Keeps w wr lo hi) ∧ Hid (OwnIn wr lo hi a n (fun j => if j < i then k + j else f j))) (fun _ p _ => n - (intOf p).toNat)
  case atStart => exact ⟨0, Nat.zero_le _, rfl, by simp, Keeps.refl _ _ _, by simpa using HO⟩
  case round =>
    obtain ⟨i, hi', rfl, rfl, HK, HR⟩ := hrel
    by_cases hlt : i < n
    · obtain ⟨b, off, rfl, hb, hc⟩ := src_some HR.out.src (by omega)
      have c1 := hc i hlt
      have hfz : wr.frozen? ⟨b, off + i, none⟩ = false := by
        rcases HR.out with h | ⟨b', off', h1, _, _, h4⟩
        · omega
        · simp only [Option.some.injEq, Addr.mk.injEq, and_true] at h1
          obtain ⟨rfl, rfl⟩ := h1
          exact (h4 i hlt).2
      have hst := Lib.hid (HR.out.stored i hlt (k + i))
      have hlt' : (i : Int) < (n : Int) := by omega
      clear hc
      go_wp2
      go_roundw
      case rel =>
        refine ⟨i + 1, by omega, by go_num, by go_num, HK.out.trans hst.out.2, hst.out.1.congr fun j hj => ?_⟩
        by_cases h1 : j = i
        · subst h1; simp
        · have h2 : (j < i + 1) = (j < i) := by simp only [eq_iff_iff]; omega
          simp only [h1, if_false, h2]
      case measure => simp [intOf]; omega
    · go_wp2
      go_ret
      obtain rfl : i = n := by omega
      exact ⟨rfl, HR.out.congr fun j hj => by simp [hj], HK.out⟩

set_option maxRecDepth 100000 in
set_option maxHeartbeats 400000 in
theorem heldInts_any (a : Option Addr) (n c : Nat) (k : Int) (w : World) (hs : Src w a n (fun i => k + i)) (hn : n ≤ 1048576) (hk0 : 0 ≤ k) (hk1 : k ≤ 1048576) :
    Calls Tryz.prog 34 #[.slice a n c, .int .i64 k] w fun e w' => e = .returned (.int .i64 (k + n)) ∧ w = w' := by
  have HS := Lib.hid hs
  clear hs
  go_enter Tryz.func34, Tryz.ntmps34
  go_wp2
  go_loop [1, 5] (fun q p => ∃ i : Nat, i ≤ n ∧ p = .int .i64 i ∧ q = .int .i64 (k + i)) (fun _ p => n - (intOf p).toNat)
  case atStart => exact ⟨0, Nat.zero_le _, rfl, by simp⟩
  case round =>
    obtain ⟨i, hi', rfl, rfl⟩ := hrel
    by_cases hlt : i < n
    · obtain ⟨b, off, rfl, hb, hc⟩ := src_some HS.out (by omega)
      have c1 := hc i hlt
      have hlt' : (i : Int) < (n : Int) := by omega
      clear hc
      go_wp2
      go_round
      case rel => exact ⟨i + 1, by omega, by go_num, by go_num⟩
      case measure => simp [intOf]; omega
    · go_wp2
      go_ret
      obtain rfl : i = n := by omega
      exact ⟨rfl, rfl⟩

set_option maxRecDepth 100000 in
set_option maxHeartbeats 400000 in
theorem markArena_any (h ac bu : Int) (a : Option Addr) (n c lo hi : Nat) (f : Nat → Int) (k : Int) (w : World) (ho : OwnIn w lo hi a n f) (hn : n ≤ 1048576) (hk0 : 0 ≤ k) (hk1 : k ≤ 1048576) :
    Calls Tryz.prog 28 #[.agg #[.int .i64 h, .slice a n c, .int .i64 ac, .int .i64 bu], .int .i64 k] w (RetMark w lo hi a n k) := by
  have HO := Lib.hid ho
  clear ho
  go_enter Tryz.func28, Tryz.ntmps28
  go_wp2_with (go_at_call 31; (with_reducible refine (markInts_any _ _ _ _ _ _ _ _ (HO.out.alloc _) hn hk0 hk1).mono ?_); rintro e w1 ⟨rfl, ho1, hk⟩; have HO1 := Lib.hid ho1; have HK1 := Lib.hid hk; clear ho1 hk)
  go_ret
  exact ⟨rfl, HO1.out, (keeps_of_below ((Below.refl _ _).alloc (Nat.le_refl _) _) lo hi).trans HK1.out⟩

set_option maxRecDepth 100000 in
set_option maxHeartbeats 400000 in
theorem heldArena_any (h ac bu : Int) (a : Option Addr) (n c : Nat) (k : Int) (w : World) (hs : Src w a n (fun i => k + i)) (hn : n ≤ 1048576) (hk0 : 0 ≤ k) (hk1 : k ≤ 1048576) :
    Calls Tryz.prog 66 #[.agg #[.int .i64 h, .slice a n c, .int .i64 ac, .int .i64 bu], .int .i64 k] w (RetInt w (k + n)) := by
  have HS := Lib.hid hs
  clear hs
  go_enter Tryz.func66, Tryz.ntmps66
  go_wp2_with (go_at_call 34; (with_reducible refine (heldInts_any _ _ _ _ _ (HS.out.alloc _) hn hk0 hk1).mono ?_); rintro e w1 ⟨rfl, rfl⟩)
  go_ret
  exact ⟨rfl, (Below.refl _ _).alloc (Nat.le_refl _) _⟩
end Go.Proofs.YtnpklnpicelcmaaGreat

namespace Go.Proofs.YtnpklnpicelcmaaGreat
open Go.RowKit
set_option linter.unusedVariables false

/-- What an arena's function hands back, as data. -/
structure AR where
  co : Int
  h : Int
  n : Nat
  f : Nat → Int
  ac : Int
  bu : Int
  at_ : Int

def errAR (k : Int) : AR := ⟨k, 0, 0, fun _ => 0, 0, 0, 0⟩

/-- An arena's result comes back, its words in new memory. -/
def RetRes (W : World) (r : AR) (e : Ending) (w' : World) : Prop :=
  ∃ a c, e = .returned (.agg #[.int .i64 r.co, .int .i64 r.h, .slice a r.n c, .int .i64 r.ac, .int .i64 r.bu, .int .i64 r.at_]) ∧ Own w' W.heap.size a r.n r.f ∧ Below W.heap.size W w'

set_option maxRecDepth 100000 in
set_option maxHeartbeats 400000 in
theorem withHalves_any (h ac bu : Int) (a a1 a2 : Option Addr) (n c n1 n2 c1 c2 : Nat) (f g : Nat → Int) (w : World) (s1 : Src w a1 n1 f) (s2 : Src w a2 n2 g) (hp1 : 0 < n1) (hp2 : 0 < n2) (hn1 : n1 ≤ 524288) (hn2 : n2 ≤ 524288) :
    Calls Tryz.prog 95 #[.agg #[.int .i64 h, .slice a n c, .int .i64 ac, .int .i64 bu], .agg #[.slice a1 n1 c1, .slice a2 n2 c2]] w (RetArena w h (n1 + n2) (cat n1 f g) ac bu) := by
  have S1 := Lib.hid s1
  have S2 := Lib.hid s2
  clear s1 s2
  go_enter Tryz.func95, Tryz.ntmps95
  go_wp2_with fail
  have q0 := (Blk.new_at (w := ((w.alloc (.cells #[.int .i64 h, .slice a n c, .int .i64 ac, .int .i64 bu] 29)).alloc (.cells #[.slice a1 n1 c1, .slice a2 n2 c2] 150)).alloc (.cells #[.int .i64 0, .slice none 0 0, .int .i64 0, .int .i64 0] 29)) (cs := #[.slice a1 n1 c1, .slice a2 n2 c2]) (t := 22) (w.heap.size + 1 + 1 + 1) (by simp))
  refine (concat_any _ _ _ _ _ _ _ f g _ (by simp) (q0.at 0 rfl) (q0.at 1 rfl) ((((S1.out.alloc _).alloc _).alloc _).alloc _) ((((S2.out.alloc _).alloc _).alloc _).alloc _) hp1 hp2 hn1 hn2).mono ?_
  rintro e w1 ⟨u, cu, rfl, ho, hb, hcu, hcm, hnu⟩
  have HB1 : Hid (Below w.heap.size w w1) := thru4 (Below.refl _ _) hb
  have A_1 := Lib.hid (((((Blk.new_at (w.heap.size) (by simp)).alloc _).alloc _).alloc _).below hb)
  have R_1 := Lib.hid (((Blk.new_at (w.heap.size + 1 + 1) (by simp)).alloc _).below hb)
  have HO : Hid (Own w1 (w.heap.size + 4) u (n1 + n2) (cat n1 f g)) := ho.mono (by simp)
  have HN := Lib.hid hnu
  clear ho hnu q0
  clear hb
  have cA0 := A_1.out.at 0 rfl
  have cA1 := A_1.out.at 1 rfl
  have cA2 := A_1.out.at 2 rfl
  have cA3 := A_1.out.at 3 rfl
  have cR0 := R_1.out.at 0 rfl
  have cR1 := R_1.out.at 1 rfl
  have cR2 := R_1.out.at 2 rfl
  have cR3 := R_1.out.at 3 rfl
  have fA1 := A_1.out.free 1 rfl
  have fR0 := R_1.out.free 0 rfl
  have fR1 := R_1.out.free 1 rfl
  have fR2 := R_1.out.free 2 rfl
  have fR3 := R_1.out.free 3 rfl
  go_wp2
  have hz := HB1.out.size
  refine bodyPost_ret (v := .agg #[.int .i64 h, .slice u (n1 + n2) cu, .int .i64 ac, .int .i64 bu]) (by simp [results, Tryz.results95, go_sem, cR0, cR1, cR2, cR3]) rfl ⟨u, cu, rfl, ?_, ?_, hcu, hcm, HN.out⟩
  · refine Own.mono (B := w.heap.size + 4) ?_ (by omega)
    repeat (with_reducible refine Own.setCell ?_ (by (try simp); (try omega)) _)
    exact HO.out
  · repeat (with_reducible refine Below.setCell ?_ (by (try simp); (try omega)) _)
    exact HB1.out

theorem run_mk (m : Nat) (hm : m ≤ 1048576) (w : World) : (Instr.makeSlice 22 (.int .i64 (m : Int)) (.int .i64 (m : Int))).run Tryz.prog w = .ok (.slice (some ⟨w.heap.size, 0, none⟩) m m) (w.alloc (.cells (madeCells #[.int .i64 0] m) 2)) := by
  obtain ⟨i0, hi, hz0, hz1, hz2⟩ := info_parts Tryz.info2
  have h := run_make (P := Tryz.prog) w 22 2 i0 (.int .i64 0) Tryz.underlying22 hi hz0 .i64 .i64 (m : Int) (m : Int) (by omega) (Int.le_refl _) (by rw [hz2]; omega) (by omega)
  rw [hz1] at h
  simpa [Value.cells] using h

/-- A row of zeros that was just made. -/
theorem own_made (w : World) (m : Nat) (b : Nat) (hb : b = w.heap.size) : Own (w.alloc (.cells (madeCells #[.int .i64 0] m) 2)) w.heap.size (some ⟨b, 0, none⟩) m (fun _ => 0) := by
  subst hb
  refine .inr ⟨w.heap.size, 0, rfl, Nat.le_refl _, by simp, fun i hi => ⟨?_, World.frozen?_alloc_at _ _ _ _ rfl⟩⟩
  rw [World.cell?_alloc_at _ _ _ _ rfl]
  have h := toList_madeCells_one (.int .i64 0) m
  have h2 : (madeCells #[Value.int .i64 0] m)[0 + i]? = (madeCells #[Value.int .i64 0] m).toList[0 + i]? := by simp
  rw [h2, h]; simp [hi]

set_option maxRecDepth 100000 in
set_option maxHeartbeats 400000 in
theorem l1New_any (m : Nat) (w : World) (hm : m ≤ 200) : Calls Tryz.prog 80 #[.int .i64 (m : Int)] w (RetArena w m (2 * m) (fun _ => 0) 0 0) := by
  have hmk := run_mk (2 * m) (by omega)
  simp only [Int.natCast_mul, Int.cast_ofNat_Int] at hmk
  go_enter Tryz.func80, Tryz.ntmps80
  go_wp2
  refine bodyPost_ret (v := .agg #[.int .i64 (m : Int), .slice (some ⟨w.heap.size + 1, 0, none⟩) (2 * m) (2 * m), .int .i64 0, .int .i64 0]) (by simp [results, Tryz.results80, go_sem]) rfl
    ⟨some ⟨w.heap.size + 1, 0, none⟩, 2 * m, rfl, (own_made (w.alloc _) (2 * m) _ (by simp)).mono (by simp), ((Below.refl _ _).alloc (Nat.le_refl _) _).alloc (by simp) _, Nat.le_refl _, by unfold maxLen; omega, fun x => by simp at x⟩
end Go.Proofs.YtnpklnpicelcmaaGreat

namespace Go.Proofs.YtnpklnpicelcmaaGreat
open Go.RowKit
set_option linter.unusedVariables false

set_option maxRecDepth 100000 in
set_option maxHeartbeats 400000 in
theorem l1Copy_any (b : Nat) (h ac bu : Int) (a : Option Addr) (n c : Nat) (f : Nat → Int) (w : World) (hB : Blk w b [.int .i64 h, .slice a n c, .int .i64 ac, .int .i64 bu]) (hs : Src w a n f) (hp : 0 < n) (hn : n ≤ 1048576) :
    Calls Tryz.prog 41 #[.pointer (some ⟨b, 0, none⟩)] w (RetArena w h n f ac bu) := by
  have p0 := hB.at 0 rfl
  have p1 := hB.at 1 rfl
  have p2 := hB.at 2 rfl
  have p3 := hB.at 3 rfl
  have lp := hB.1
  have HS := Lib.hid hs
  have HP := Lib.hid hB
  clear hs hB
  go_enter Tryz.func41, Tryz.ntmps41
  go_wp2_with fail
  refine (l1Ints_any _ _ _ f _ ((HS.out.alloc _).alloc _) hp hn).mono ?_
  rintro e w1 ⟨u, cu, rfl, ho, hb, hcu, hcm, hnu⟩
  have HB1 : Hid (Below w.heap.size w w1) := thru2 (Below.refl _ _) hb
  have HO : Hid (Own w1 (w.heap.size + 2) u n f) := ho.mono (by simp)
  have HN := Lib.hid hnu
  have HR := Lib.hid (((Blk.new_at (w.heap.size) rfl).alloc _).below hb)
  have HT := Lib.hid ((Blk.new_at (w.heap.size + 1) (by simp)).below hb)
  clear hb ho hnu p0 p1 p2 p3
  have cR0 := HR.out.at 0 rfl; have cR1 := HR.out.at 1 rfl; have cR2 := HR.out.at 2 rfl; have cR3 := HR.out.at 3 rfl; have fR0 := HR.out.free 0 rfl; have fR1 := HR.out.free 1 rfl; have fR2 := HR.out.free 2 rfl; have fR3 := HR.out.free 3 rfl
  have cT0 := HT.out.at 0 rfl; have cT1 := HT.out.at 1 rfl; have cT2 := HT.out.at 2 rfl; have cT3 := HT.out.at 3 rfl; have fT1 := HT.out.free 1 rfl
  go_wp2
  refine bodyPost_ret (v := .agg #[.int .i64 h, .slice u n cu, .int .i64 ac, .int .i64 bu]) (by simp [results, Tryz.results41, go_sem, cR0, cR1, cR2, cR3]) rfl ⟨u, cu, rfl, ?_, ?_, hcu, hcm, HN.out⟩
  · refine Own.mono (B := w.heap.size + 2) ?_ (by omega)
    repeat (with_reducible refine Own.setCell ?_ (by (try simp); (try omega)) _)
    exact HO.out
  · repeat (with_reducible refine Below.setCell ?_ (by (try simp); (try omega)) _)
    exact HB1.out

/-- Two halves of m words each, in blocks from lo to mid and from mid to hi: together F. -/
def Halves (w : World) (lo mid hi : Nat) (a1 a2 : Option Addr) (m : Nat) (F : Nat → Int) : Prop :=
  OwnIn w lo mid a1 m F ∧ OwnIn w mid hi a2 m (fun i => F (m + i))

def RetHalves (W : World) (m : Nat) (F : Nat → Int) (e : Ending) (w' : World) : Prop :=
  ∃ a1 c1 a2 c2 mid, e = .returned (.agg #[.slice a1 m c1, .slice a2 m c2]) ∧ Halves w' W.heap.size mid w'.heap.size a1 a2 m F ∧ Below W.heap.size W w' ∧ mid ≤ w'.heap.size ∧ W.heap.size ≤ mid

theorem OwnIn.setCell {w : World} {lo hi : Nat} {a : Option Addr} {n : Nat} {f : Nat → Int} (h : OwnIn w lo hi a n f) {p : Addr} (hp : p.block < lo ∨ hi ≤ p.block) (u : Value) : OwnIn (w.setCell p u) lo hi a n f :=
  h.keeps (keeps_setCell (Nat.le_refl p.block) (Nat.lt_succ_self _) u) (by omega)

theorem OwnIn.out {w : World} {lo hi : Nat} {a : Option Addr} {n : Nat} {f : Nat → Int} (h : OwnIn w lo hi a n f) : Own w lo a n f := by
  rcases h with h | ⟨b, off, h1, h2, h3, h4⟩
  · exact .inl h
  · exact .inr ⟨b, off, h1, h2.1, h3, h4⟩

theorem OwnIn.widen {w : World} {lo hi lo' hi' : Nat} {a : Option Addr} {n : Nat} {f : Nat → Int} (h : OwnIn w lo hi a n f) (h1 : lo' ≤ lo) (h2 : hi ≤ hi') : OwnIn w lo' hi' a n f := by
  rcases h with h | ⟨b, off, g1, g2, g3, g4⟩
  · exact .inl h
  · exact .inr ⟨b, off, g1, by omega, g3, g4⟩

theorem src_head {w : World} {a : Option Addr} {n : Nat} {F : Nat → Int} (h : Src w a n F) (m : Nat) (hm : m ≤ n) : Src w a m F := by
  rcases h with h | ⟨b, off, h1, h3, h4⟩
  · exact .inl (by omega)
  · exact .inr ⟨b, off, h1, h3, fun i hi => h4 i (by omega)⟩

theorem src_tail {w : World} {b off n : Nat} {F : Nat → Int} (h : Src w (some ⟨b, off, none⟩) n F) (m k : Nat) (hm : m + k ≤ n) (hk : 0 < k) : Src w (some ⟨b, off + m, none⟩) k (fun i => F (m + i)) := by
  rcases h with h | ⟨b', off', h1, h3, h4⟩
  · omega
  · simp only [Option.some.injEq, Addr.mk.injEq, and_true] at h1
    obtain ⟨rfl, rfl⟩ := h1
    exact .inr ⟨b, off + m, rfl, h3, fun i hi => by rw [Nat.add_assoc]; exact h4 (m + i) (by omega)⟩

set_option maxRecDepth 100000 in
set_option maxHeartbeats 800000 in
theorem halvesOf_any (ac bu : Int) (b off m c : Nat) (F : Nat → Int) (w : World) (hs : Src w (some ⟨b, off, none⟩) (2 * m) F) (hm0 : 8 ≤ m) (hm : m ≤ 200) (hc : 2 * m ≤ c) (hcm : c ≤ maxLen) :
    Calls Tryz.prog 94 #[.agg #[.int .i64 (m : Int), .slice (some ⟨b, off, none⟩) (2 * m) c, .int .i64 ac, .int .i64 bu]] w (RetHalves w m F) := by
  unfold maxLen at hcm
  have HS := Lib.hid hs
  have q1 : (m : Int) ≤ (c : Int) := by omega
  have q2 : (m : Int) ≤ (2 : Int) * (m : Int) := by omega
  have q3 : (0 : Int) ≤ (m : Int) := by omega
  have q4 : ¬ c = m := by omega
  have q5 : 2 * m - m = m := by omega
  clear hs
  go_enter Tryz.func94, Tryz.ntmps94
  go_wp2_with fail
  have HA := Lib.hid ((Blk.new w #[.int .i64 (m : Int), .slice (some ⟨b, off, none⟩) (2 * m) c, .int .i64 ac, .int .i64 bu] 29).alloc (.cells #[.slice none 0 0, .slice none 0 0] 150)).drew
  have HR := Lib.hid ((Blk.new_at (w := w.alloc (.cells #[.int .i64 (m : Int), .slice (some ⟨b, off, none⟩) (2 * m) c, .int .i64 ac, .int .i64 bu] 29)) (cs := #[.slice none 0 0, .slice none 0 0]) (t := 150) (w.heap.size + 1) (by simp))).drew
  have HS1 := Lib.hid (src_head ((HS.out.alloc (.cells #[.int .i64 (m : Int), .slice (some ⟨b, off, none⟩) (2 * m) c, .int .i64 ac, .int .i64 bu] 29)).alloc (.cells #[.slice none 0 0, .slice none 0 0] 150)).drew m (by omega))
  have HS2 := Lib.hid (src_tail ((HS.out.alloc (.cells #[.int .i64 (m : Int), .slice (some ⟨b, off, none⟩) (2 * m) c, .int .i64 ac, .int .i64 bu] 29)).alloc (.cells #[.slice none 0 0, .slice none 0 0] 150)).drew m m (by omega) (by omega))
  have HB0 : Hid (Below w.heap.size w ((w.alloc (.cells #[.int .i64 (m : Int), .slice (some ⟨b, off, none⟩) (2 * m) c, .int .i64 ac, .int .i64 bu] 29)).alloc (.cells #[.slice none 0 0, .slice none 0 0] 150)).drew) := (((Below.refl _ _).alloc (Nat.le_refl _) _).alloc (by simp) _).drew
  have lR := HR.out.1; have cR0 := HR.out.at 0 rfl; have cR1 := HR.out.at 1 rfl; have fR0 := HR.out.free 0 rfl; have fR1 := HR.out.free 1 rfl
  go_region_held3 (fun w' => w'.cell? ⟨w.heap.size, 0, none⟩ = some (.int .i64 (m : Int)) ∧ w'.cell? ⟨w.heap.size, 1, none⟩ = some (.slice (some ⟨b, off, none⟩) (2 * m) c))
    (first | exact ⟨HA.out.at 0 rfl, HA.out.at 1 rfl⟩ | exact ⟨HA1.out.at 0 rfl, HA1.out.at 1 rfl⟩ | exact ⟨HA2.out.at 0 rfl, HA2.out.at 1 rfl⟩ | exact ⟨by simp [HA2.out.at 0 rfl], by simp [HA2.out.at 1 rfl]⟩ | go_keep)
    (first
      | (go_at_call 57; (with_reducible refine (clone_any _ _ _ F _ HS1.out (by omega) (by omega)).mono ?_); rintro e w1 ⟨u1, c1, rfl, ho, hb, hc1, hcm1, hn1⟩; have HB1 := Lib.hid (thru0 HB0.out hb); have HA1 := Lib.hid (HA.out.below hb); have HR1 := Lib.hid (HR.out.below hb); have HS21 := Lib.hid (HS2.out.below hb); have HO1 : Hid (OwnIn w1 (w.heap.size + 2) w1.heap.size u1 m F) := (ho.mono (by simp)).into; have z1 : w.heap.size + 2 ≤ w1.heap.size := (by have := hb.size; simp at this; omega); clear hb ho hn1)
      | (go_at_call 57; (with_reducible refine (clone_any _ _ _ (fun i => F (m + i)) _ HS21.out (by omega) (by omega)).mono ?_); rintro e w2 ⟨u2, c2, rfl, ho, hb, hc2, hcm2, hn2⟩; have HB2 := Lib.hid (thru0 HB1.out hb); have HA2 := Lib.hid (HA1.out.below hb); have HR2 := Lib.hid (HR1.out.below hb); have HO12 := Lib.hid (HO1.out.below hb); have HO2 : Hid (OwnIn w2 w1.heap.size w2.heap.size u2 m (fun i => F (m + i))) := ho.into; have z2 := hb.size; clear hb ho hn2; have cR0 := HR2.out.at 0 rfl; have cR1 := HR2.out.at 1 rfl; have fR0 := HR2.out.free 0 rfl; have fR1 := HR2.out.free 1 rfl; have d0 := HA2.out.at 0 rfl; have d1 := HA2.out.at 1 rfl))
  go_wp2
  refine bodyPost_ret (v := .agg #[.slice u1 m c1, .slice u2 m c2]) (by simp [results, Tryz.results94, go_sem, cR0, cR1]) rfl ⟨u1, c1, u2, c2, w1.heap.size, rfl, ⟨?_, ?_⟩, ?_, ?_, by omega⟩
  · exact ((HO12.out.setCell (.inl (by simp)) _).setCell (.inl (by simp)) _).widen (by omega) (Nat.le_refl _)
  · rw [show ((w2.setCell ⟨w.heap.size + 1, 0, none⟩ (.slice u1 m c1)).setCell ⟨w.heap.size + 1, 1, none⟩ (.slice u2 m c2)).heap.size = w2.heap.size by simp]
    exact (HO2.out.setCell (.inl (by simp; omega)) _).setCell (.inl (by simp; omega)) _
  · exact (HB2.out.setCell (by simp) _).setCell (by simp) _
  · simp; omega

def upd (f : Nat → Int) (k : Nat) (v : Int) : Nat → Int := fun i => if i = k then v else f i

theorem Keeps.widen {w w' : World} {lo hi lo' hi' : Nat} (h : Keeps w w' lo hi) (h1 : lo' ≤ lo) (h2 : hi ≤ hi') : Keeps w w' lo' hi' :=
  ⟨h.os, h.tape, h.output, h.size, fun k hk hd => h.block k hk (by omega)⟩

theorem ownIn_some {w : World} {lo hi : Nat} {a : Option Addr} {n : Nat} {f : Nat → Int} (h : OwnIn w lo hi a n f) (hp : 0 < n) : ∃ b off, a = some ⟨b, off, none⟩ ∧ (lo ≤ b ∧ b < hi) ∧ b < w.heap.size ∧ ∀ i, i < n → w.cell? ⟨b, off + i, none⟩ = some (.int .i64 (f i)) ∧ w.frozen? ⟨b, off + i, none⟩ = false := by
  rcases h with h | h
  · omega
  · exact h

theorem Halves.below {w w' : World} {lo mid hi : Nat} {a1 a2 : Option Addr} {m : Nat} {F : Nat → Int} (h : Halves w lo mid hi a1 a2 m F) (hb : Below w.heap.size w w') : Halves w' lo mid hi a1 a2 m F := ⟨h.1.below hb, h.2.below hb⟩

theorem Halves.alloc {w : World} {lo mid hi : Nat} {a1 a2 : Option Addr} {m : Nat} {F : Nat → Int} (h : Halves w lo mid hi a1 a2 m F) (o : Obj) : Halves (w.alloc o) lo mid hi a1 a2 m F := ⟨h.1.alloc o, h.2.alloc o⟩

theorem Src.keeps {w w' : World} {lo' hi' : Nat} {a : Option Addr} {n : Nat} {f : Nat → Int} (h : Src w a n f) (hk : Keeps w w' lo' hi') (hd : ∀ b off, a = some ⟨b, off, none⟩ → b < lo' ∨ hi' ≤ b) : Src w' a n f := by
  rcases h with h | ⟨b, off, h1, h3, h4⟩
  · exact .inl h
  · have e := hk.block b h3 (hd b off h1)
    exact .inr ⟨b, off, h1, Nat.lt_of_lt_of_le h3 hk.size, fun i hi => (World.cell?_of_block (w := w) (a := ⟨b, off + i, none⟩) e).trans (h4 i hi)⟩
end Go.Proofs.YtnpklnpicelcmaaGreat

namespace Go.Proofs.YtnpklnpicelcmaaGreat
open Go.RowKit
set_option linter.unusedVariables false

theorem fault_small {h : Int} {n : Nat} {f : Nat → Int} {ac bu : Int} (hk : IsFault h n f ac bu 0) : n ≤ 400 := by
  obtain ⟨⟨⟨_, _⟩, _, _⟩, gn, _⟩ := isFault_ok hk; omega
end Go.Proofs.YtnpklnpicelcmaaGreat

namespace Go.Proofs.YtnpklnpicelcmaaGreat
open Go.RowKit
set_option linter.unusedVariables false

/-- The base of the half in use. -/
def baseI (ac h : Int) : Int := if ac = 0 then 0 else h

theorem baseI_bd {ac h : Int} (h1 : 8 ≤ h) : 0 ≤ baseI ac h ∧ baseI ac h ≤ h := by
  unfold baseI; split <;> omega

/-- The same world, or one block more. -/
def Ext (w W : World) : Prop := W = w ∨ ∃ o, W = w.alloc o

theorem Blk.ext {w W : World} {b : Nat} {cs : List Value} (h : Blk w b cs) (e : Ext w W) : Blk W b cs := by
  rcases e with rfl | ⟨o, rfl⟩
  · exact h
  · exact h.alloc o

theorem Src.ext {w W : World} {a : Option Addr} {n : Nat} {f : Nat → Int} (h : Src w a n f) (e : Ext w W) : Src W a n f := by
  rcases e with rfl | ⟨o, rfl⟩
  · exact h
  · exact h.alloc o

theorem OwnIn.ext {w W : World} {lo hi : Nat} {a : Option Addr} {n : Nat} {f : Nat → Int} (h : OwnIn w lo hi a n f) (e : Ext w W) : OwnIn W lo hi a n f := by
  rcases e with rfl | ⟨o, rfl⟩
  · exact h
  · exact h.alloc o

theorem below_ext {w0 w W : World} (h : Below w0.heap.size w0 w) (e : Ext w W) : Below w0.heap.size w0 W := by
  rcases e with rfl | ⟨o, rfl⟩
  · exact h
  · exact h.alloc h.size o

/-- A store into a known block. -/
theorem Blk.set {w : World} {b : Nat} {cs : List Value} (h : Blk w b cs) (i : Nat) (hi : i < cs.length) (v : Value) : Blk (w.setCell ⟨b, i, none⟩ v) b (cs.set i v) := by
  refine ⟨by simpa using h.1, fun j u hj => ?_⟩
  constructor
  · by_cases e : j = i
    · subst e
      rw [List.getElem?_set_self hi] at hj
      simp only [Option.some.injEq] at hj
      subst hj
      exact World.cell?_setCell_same w ⟨b, j, none⟩ v (h.2 j cs[j] (List.getElem?_eq_getElem hi)).1
    · rw [List.getElem?_set_ne (fun x => e x.symm)] at hj
      rw [World.cell?_setCell_other _ _ _ _ (by simp; try omega)]
      exact (h.2 j u hj).1
  · rw [World.frozen?_setCell]
    by_cases e : j = i
    · subst e; exact (h.2 j cs[j] (List.getElem?_eq_getElem hi)).2
    · rw [List.getElem?_set_ne (fun x => e x.symm)] at hj
      exact (h.2 j u hj).2

theorem Blk.other {w : World} {b : Nat} {cs : List Value} (h : Blk w b cs) {p : Addr} (hp : p.block ≠ b) (u : Value) : Blk (w.setCell p u) b cs :=
  h.keeps (keeps_setCell (Nat.le_refl p.block) (Nat.lt_succ_self _) u) (by omega)

set_option maxRecDepth 100000 in
set_option maxHeartbeats 400000 in
theorem baseOf_any (h ac bu : Int) (a : Option Addr) (n c : Nat) (w : World) (h1 : 8 ≤ h) (h2 : h ≤ 200) (h3 : 0 ≤ ac) (h4 : ac ≤ 1) :
    Calls Tryz.prog 51 #[.agg #[.int .i64 h, .slice a n c, .int .i64 ac, .int .i64 bu]] w (RetInt w (baseI ac h)) := by
  rcases (by omega : ac = 0 ∨ ac = 1) with rfl | rfl
  all_goals
    go_enter Tryz.func51, Tryz.ntmps51
    go_wp2
    go_ret
    exact ⟨rfl, (Below.refl _ _).alloc (Nat.le_refl _) _⟩

set_option maxRecDepth 100000 in
set_option maxHeartbeats 400000 in
theorem l1Base_any (b : Nat) (h ac bu : Int) (a : Option Addr) (n c : Nat) (w : World) (hB : Blk w b [.int .i64 h, .slice a n c, .int .i64 ac, .int .i64 bu]) (h1 : 8 ≤ h) (h2 : h ≤ 200) (h3 : 0 ≤ ac) (h4 : ac ≤ 1) :
    Calls Tryz.prog 71 #[.pointer (some ⟨b, 0, none⟩)] w (RetInt w (baseI ac h)) := by
  have p0 := hB.at 0 rfl
  have p2 := hB.at 2 rfl
  clear hB
  rcases (by omega : ac = 0 ∨ ac = 1) with rfl | rfl
  all_goals
    go_enter Tryz.func71, Tryz.ntmps71
    go_wp2
    go_quiet (fail)
    go_wp2
    go_ret
    exact ⟨rfl, below_drewN (Below.refl _ _) _⟩

def zeroR (F : Nat → Int) (p q : Nat) : Nat → Int := fun i => if p ≤ i ∧ i < p + q then 0 else F i
end Go.Proofs.YtnpklnpicelcmaaGreat

namespace Go.Proofs.YtnpklnpicelcmaaGreat
open Go.RowKit
set_option linter.unusedVariables false

theorem ext_drew (w : World) (o : Obj) : Ext w.drew (w.alloc o).drew := .inr ⟨o, rfl⟩

/-- The world of a state that goes on is named, with what is known of it. -/
theorem then_named {K : Act → World → Prop} {Q : Exit → Act → World → Prop} {e : Exit} {a : Act} {W : World} (p : World → Prop) (hp : p W) (h : ∀ w', p w' → Exit.then K Q e a w') : Exit.then K Q e a W := h W hp
end Go.Proofs.YtnpklnpicelcmaaGreat

namespace Go.Proofs.YtnpklnpicelcmaaGreat
open Go.RowKit
set_option linter.unusedVariables false

theorem size_setCells (b : Nat) : ∀ (vs : List Value) (o : Nat) (w : World), (w.setCells b o vs).heap.size = w.heap.size
  | [], _, _ => rfl
  | v :: r, o, w => by rw [World.setCells, size_setCells b r]; simp

theorem below_setCells (b : Nat) {B : Nat} : ∀ (vs : List Value) (o : Nat) (w w0 : World), B ≤ b → Below B w0 w → Below B w0 (w.setCells b o vs)
  | [], _, _, _, _, h => h
  | v :: r, o, w, w0, hb, h => by rw [World.setCells]; exact below_setCells b r (o + 1) _ w0 hb (h.setCell hb v)

theorem OwnIn.cleared {w : World} {lo hi b off n : Nat} {f : Nat → Int} (h : OwnIn w lo hi (some ⟨b, off, none⟩) n f) (hp : 0 < n) :
    OwnIn (w.setCells b off (List.replicate n (.int .i64 0))) lo hi (some ⟨b, off, none⟩) n (fun _ => 0) ∧ Keeps w (w.setCells b off (List.replicate n (.int .i64 0))) lo hi := by
  rcases h with h | ⟨b', off', h1, h2, h3, h4⟩
  · omega
  · simp only [Option.some.injEq, Addr.mk.injEq, and_true] at h1
    obtain ⟨rfl, rfl⟩ := h1
    have hb := below_setCells b (List.replicate n (.int .i64 0)) off w w (Nat.le_refl b) (Below.refl b w)
    refine ⟨.inr ⟨b, off, rfl, h2, by rw [size_setCells]; exact h3, fun i hi => ⟨?_, ?_⟩⟩, ⟨hb.os, hb.tape, hb.output, hb.size, fun k hk hd => World.heap_setCells_other w b off _ hk (by omega)⟩⟩
    · rw [World.cell?_setCells_in b (List.replicate n (.int .i64 0)) off w (fun j hj => by rw [(h4 j (by simpa using hj)).1]; rfl) i (by simpa using hi)]
      simp
    · rw [World.frozen?_setCells]; exact (h4 i hi).2

theorem wpList_clear {P : Program} (w : World) {ops : Array Oper} {rest : List Oper} {o : Oper} {a : Act} {Q : Exit → Act → World → Prop} (hgd : o.guard = none) (s : Operand) (t : TypeId)
    (ho : o.op = .call { callee := .builtin .clear, args := #[s], argTypes := #[t] }) (vs : Value) (hs : a.eval s = vs)
    (v' : Value) (w' : World) (hr : (Builtin.clear_ #[t] o.type #[vs]).run P w = .ok v' w') (h : wpList P ops Q rest (a.put o.dst v') w') : wpList P ops Q (o :: rest) a w :=
  wpList_plain hgd fun _ hK => by
    unfold Oper.wp execOp
    simp only [ho, resolve, invoke, builtin, Sem.run_bind, Sem.run_pure, Result.andThen_ok, List.map_toArray, List.map_cons, List.map_nil, hs, hr]
    exact hK _ _ h

theorem run_clr (w : World) (ty : TypeId) (b off n c : Nat) (lo hi : Nat) (f : Nat → Int) (hn : 0 < n) (h : OwnIn w lo hi (some ⟨b, off, none⟩) n f) :
    (Builtin.clear_ #[22] ty #[.slice (some ⟨b, off, none⟩) n c]).run Tryz.prog w = .ok (.tuple #[]) (w.setCells b off (List.replicate n (.int .i64 0))) := by
  obtain ⟨b', o', h1, _, _, h4⟩ := ownIn_some h hn
  simp only [Option.some.injEq, Addr.mk.injEq, and_true] at h1
  obtain ⟨rfl, rfl⟩ := h1
  exact Lib.run_clear_slice w 22 2 ty (.int .i64 0) Tryz.underlying22 (fun w => by kernel_rfl) rfl rfl b off n c hn (fun j hj => by rw [(h4 j hj).1]; rfl) (fun j hj => (h4 j hj).2)

/-- What FlipArena answers. -/
def IsFlip (h : Int) (n : Nat) (f : Nat → Int) (ac bu : Int) (r : AR) : Prop :=
  (∃ k, IsFault h n f ac bu k ∧ ¬ k = 0 ∧ r = errAR k) ∨ (IsFault h n f ac bu 0 ∧ r = ⟨0, h, n, zeroR f (baseI ac h).toNat h.toNat, 1 - ac, 0, 0⟩)

set_option maxRecDepth 100000 in
set_option maxHeartbeats 400000 in
theorem implFlip_fault (h ac bu : Int) (a : Option Addr) (n c : Nat) (f : Nat → Int) (k : Int) (w : World) (hs : Src w a n f) (hcn : n ≤ c) (hcm : c ≤ maxLen) (hk : IsFault h n f ac bu k) (h0 : ¬ k = 0) :
    Calls Tryz.prog 49 #[.agg #[.int .i64 h, .slice a n c, .int .i64 ac, .int .i64 bu]] w (RetRes w (errAR k)) := by
  have HS := Lib.hid hs
  have HK := Lib.hid hk
  clear hs hk
  have hd : (k != 0) = true := by simpa using h0
  go_enter Tryz.func49, Tryz.ntmps49
  go_wp2_with fail
  refine (implFault_any _ _ _ _ _ _ f k _ ((HS.out.alloc _).alloc _) HK.out).mono ?_
  rintro e w1 ⟨rfl, hb⟩
  have HB1 : Hid (Below w.heap.size w w1) := thru2 (Below.refl _ _) hb
  have z1 : w.heap.size + 2 ≤ w1.heap.size := by have := hb.size; simp at this; omega
  have HS_1 := Lib.hid (((HS.out.alloc _).alloc _).below hb)
  have R_1 := Lib.hid ((Blk.new_at (w.heap.size + 1) (by simp)).below hb)
  clear hb HS
  have lR := R_1.out.1
  have cR0 := R_1.out.at 0 rfl
  have cR1 := R_1.out.at 1 rfl
  have cR2 := R_1.out.at 2 rfl
  have cR3 := R_1.out.at 3 rfl
  have cR4 := R_1.out.at 4 rfl
  have cR5 := R_1.out.at 5 rfl
  have fR0 := R_1.out.free 0 rfl
  have fR1 := R_1.out.free 1 rfl
  have fR2 := R_1.out.free 2 rfl
  have fR3 := R_1.out.free 3 rfl
  have fR4 := R_1.out.free 4 rfl
  have fR5 := R_1.out.free 5 rfl
  go_wp2
  have hz := HB1.out.size
  refine bodyPost_ret (v := .agg #[.int .i64 k, .int .i64 0, .slice none 0 0, .int .i64 0, .int .i64 0, .int .i64 0]) (by simp [results, Tryz.results49, go_sem, cR0, cR1, cR2, cR3, cR4, cR5]) rfl ⟨none, 0, rfl, .inl rfl, ?_⟩
  repeat (with_reducible refine Below.setCell ?_ (by (try simp); (try omega)) _)
  exact HB1.out
end Go.Proofs.YtnpklnpicelcmaaGreat

namespace Go.Proofs.YtnpklnpicelcmaaGreat
open Go.RowKit
set_option linter.unusedVariables false

/-- An arena's result comes back; where there is no code, what is known of its words' room. -/
def RetResC (W : World) (r : AR) (e : Ending) (w' : World) : Prop :=
  ∃ a c, e = .returned (.agg #[.int .i64 r.co, .int .i64 r.h, .slice a r.n c, .int .i64 r.ac, .int .i64 r.bu, .int .i64 r.at_]) ∧ Own w' W.heap.size a r.n r.f ∧ Below W.heap.size W w' ∧ (r.co = 0 → r.n ≤ c ∧ c ≤ maxLen)

theorem retFlipC {w w' : World} {m : Nat} {F G K : Nat → Int} {h ac bu at_ : Int} {u : Option Addr} {cu : Nat} (hg : ∀ i, i < 2 * m → cat m F G i = K i) (hc : m + m ≤ cu) (hcm : cu ≤ maxLen) (ho : Own w' w.heap.size u (m + m) (cat m F G)) (hb : Below w.heap.size w w') :
    RetResC w ⟨0, h, 2 * m, K, ac, bu, at_⟩ (.returned (.agg #[.int .i64 0, .int .i64 h, .slice u (m + m) cu, .int .i64 ac, .int .i64 bu, .int .i64 at_])) w' := by
  have e : m + m = 2 * m := by omega
  refine ⟨u, cu, by rw [e], ?_, hb, fun _ => ⟨by show 2 * m ≤ cu; omega, hcm⟩⟩
  show Own w' w.heap.size u (2 * m) K
  rw [← e]
  exact ho.congr fun i hi => hg i (by omega)

set_option maxRecDepth 100000 in
set_option maxHeartbeats 1600000 in
theorem implFlipC_ok0 (m : Nat) (bu : Int) (a : Option Addr) (c : Nat) (f : Nat → Int) (w : World) (hs : Src w a (2 * m) f) (hcn : 2 * m ≤ c) (hcm : c ≤ maxLen) (hk : IsFault (m : Int) (2 * m) f 0 bu 0) :
    Calls Tryz.prog 49 #[.agg #[.int .i64 (m : Int), .slice a (2 * m) c, .int .i64 0, .int .i64 bu]] w (RetResC w ⟨0, m, 2 * m, zeroR f 0 m, 1, 0, 0⟩) := by
  obtain ⟨⟨⟨g1, g2⟩, _, g5, g6⟩, _, _⟩ := isFault_ok hk
  obtain ⟨ab, ao, rfl, hab, hac⟩ := src_some hs (by omega)
  clear hac
  have HS := Lib.hid hs
  have HK := Lib.hid hk
  have HCM := Lib.hid hcm
  clear hs hk hcm
  go_enter Tryz.func49, Tryz.ntmps49
  go_wp2_with fail
  refine (implFault_any _ _ _ _ _ _ f 0 _ ((HS.out.alloc _).alloc _) HK.out).mono ?_
  rintro e w1 ⟨rfl, hb⟩
  have HB1 : Hid (Below w.heap.size w w1) := thru2 (Below.refl _ _) hb
  have z1 : w.heap.size + 2 ≤ w1.heap.size := by have := hb.size; simp at this; omega
  have HS_1 := Lib.hid (((HS.out.alloc _).alloc _).below hb)
  have A_1 := Lib.hid (((Blk.new_at (w.heap.size) (by simp)).alloc _).below hb)
  have R_1 := Lib.hid ((Blk.new_at (w.heap.size + 1) (by simp)).below hb)
  clear hb HS
  have lA := A_1.out.1
  have cA0 := A_1.out.at 0 rfl
  have cA1 := A_1.out.at 1 rfl
  have cA2 := A_1.out.at 2 rfl
  have cA3 := A_1.out.at 3 rfl
  go_wp2_with fail
  refine (halvesOf_any _ _ _ _ _ _ f _ HS_1.out (by omega) (by omega) hcn HCM.out).mono ?_
  rintro e w2 ⟨u1, e1, u2, e2, mid, rfl, ho, hb, hm1, hm2⟩
  have HB2 : Hid (Below w.heap.size w w2) := thru0 HB1.out hb
  have z2 : w1.heap.size ≤ w2.heap.size := hb.size
  have HS_2 := Lib.hid (HS_1.out.below hb)
  have A_2 := Lib.hid (A_1.out.below hb)
  have R_2 := Lib.hid (R_1.out.below hb)
  have HL_2 : Hid (Halves w2 w1.heap.size mid w2.heap.size u1 u2 m f) := ho
  clear hb lA cA0 cA1 cA2 cA3 HS_1 A_1 R_1 HB1 ho
  obtain ⟨b1, o1, rfl, _, _, _⟩ := ownIn_some HL_2.out.1 (by omega)
  obtain ⟨b2, o2, rfl, _, _, _⟩ := ownIn_some HL_2.out.2 (by omega)
  have lA := A_2.out.1
  have lA := A_2.out.1
  have cA0 := A_2.out.at 0 rfl
  have cA1 := A_2.out.at 1 rfl
  have cA2 := A_2.out.at 2 rfl
  have cA3 := A_2.out.at 3 rfl
  go_upto_region 6 with (refine wpList_clear _ rfl (.tmp 17) 22 rfl _ rfl _ _ (run_clr _ _ b1 o1 m _ _ _ f (by omega) (HL_2.out.1.alloc _)) ?_)
  have st := (HL_2.out.1.alloc (.cells #[.slice (some ⟨b1, o1, none⟩) m e1, .slice (some ⟨b2, o2, none⟩) m e2] 150)).cleared (by omega)
  have HB3 : Hid (Below w.heap.size w ((w2.alloc (.cells #[.slice (some ⟨b1, o1, none⟩) m e1, .slice (some ⟨b2, o2, none⟩) m e2] 150)).setCells b1 o1 (List.replicate m (.int .i64 0)))) := (HB2.out.alloc HB2.out.size _).trans (st.2.below (by omega) (by simp; omega))
  have A_3 : Hid (Blk ((w2.alloc (.cells #[.slice (some ⟨b1, o1, none⟩) m e1, .slice (some ⟨b2, o2, none⟩) m e2] 150)).setCells b1 o1 (List.replicate m (.int .i64 0))) w.heap.size [.int .i64 (m : Int), .slice (some ⟨ab, ao, none⟩) (2 * m) c, .int .i64 0, .int .i64 bu]) := (A_2.out.alloc _).keeps st.2 (by omega)
  have R_3 : Hid (Blk ((w2.alloc (.cells #[.slice (some ⟨b1, o1, none⟩) m e1, .slice (some ⟨b2, o2, none⟩) m e2] 150)).setCells b1 o1 (List.replicate m (.int .i64 0))) (w.heap.size + 1) [.int .i64 0, .int .i64 0, .slice none 0 0, .int .i64 0, .int .i64 0, .int .i64 0]) := (R_2.out.alloc _).keeps st.2 (by omega)
  have H_3 : Hid (Blk ((w2.alloc (.cells #[.slice (some ⟨b1, o1, none⟩) m e1, .slice (some ⟨b2, o2, none⟩) m e2] 150)).setCells b1 o1 (List.replicate m (.int .i64 0))) w2.heap.size [.slice (some ⟨b1, o1, none⟩) m e1, .slice (some ⟨b2, o2, none⟩) m e2]) := (Blk.new_at (w2.heap.size) rfl).keeps st.2 (by omega)
  have z3 : w2.heap.size + 1 ≤ ((w2.alloc (.cells #[.slice (some ⟨b1, o1, none⟩) m e1, .slice (some ⟨b2, o2, none⟩) m e2] 150)).setCells b1 o1 (List.replicate m (.int .i64 0))).heap.size := by rw [size_setCells]; simp
  have L_3 : Hid (OwnIn ((w2.alloc (.cells #[.slice (some ⟨b1, o1, none⟩) m e1, .slice (some ⟨b2, o2, none⟩) m e2] 150)).setCells b1 o1 (List.replicate m (.int .i64 0))) w1.heap.size mid (some ⟨b1, o1, none⟩) m (fun _ => 0)) := st.1
  have M_3 : Hid (OwnIn ((w2.alloc (.cells #[.slice (some ⟨b1, o1, none⟩) m e1, .slice (some ⟨b2, o2, none⟩) m e2] 150)).setCells b1 o1 (List.replicate m (.int .i64 0))) mid w2.heap.size (some ⟨b2, o2, none⟩) m (fun i => f (m + i))) := (HL_2.out.2.alloc _).keeps st.2 (.inr (Nat.le_refl _))
  clear st HB2 A_2 R_2 HL_2 HS_2 lA cA0 cA1 cA2 cA3
  generalize (w2.alloc (.cells #[.slice (some ⟨b1, o1, none⟩) m e1, .slice (some ⟨b2, o2, none⟩) m e2] 150)).setCells b1 o1 (List.replicate m (.int .i64 0)) = w3 at *
  have lA := A_3.out.1
  have cA0 := A_3.out.at 0 rfl
  have cA1 := A_3.out.at 1 rfl
  have cA2 := A_3.out.at 2 rfl
  have cA3 := A_3.out.at 3 rfl
  have lH := H_3.out.1
  have cH0 := H_3.out.at 0 rfl
  have cH1 := H_3.out.at 1 rfl
  go_wp2_with fail
  refine (withHalves_any _ _ _ _ _ _ _ _ m m _ _ (fun _ => 0) (fun i => f (m + i)) _ L_3.out.src M_3.out.src (by omega) (by omega) (by omega) (by omega)).mono ?_
  rintro e w4 ⟨u4, e4, rfl, ho, hb, hc4, hcm4, hn4⟩
  have HB4 : Hid (Below w.heap.size w w4) := thru0 HB3.out hb
  have z4 : w3.heap.size ≤ w4.heap.size := hb.size
  have A_4 := Lib.hid (A_3.out.below hb)
  have R_4 := Lib.hid (R_3.out.below hb)
  have H_4 := Lib.hid (H_3.out.below hb)
  have L_4 := Lib.hid (L_3.out.below hb)
  have M_4 := Lib.hid (M_3.out.below hb)
  have RW_4 : Hid (OwnIn w4 w3.heap.size w4.heap.size u4 (m + m) (cat m (fun _ => 0) (fun i => f (m + i)))) := ho.into
  clear hb lA cA0 cA1 cA2 cA3 lH cH0 cH1 A_3 R_3 H_3 L_3 M_3 HB3 ho
  clear L_4 M_4 H_4
  have lA := A_4.out.1
  have cA0 := A_4.out.at 0 rfl
  have cA1 := A_4.out.at 1 rfl
  have cA2 := A_4.out.at 2 rfl
  have cA3 := A_4.out.at 3 rfl
  go_upto_region 9 with (fail)
  have HB5 : Hid (Below w.heap.size w (w4.alloc (.cells #[.int .i64 (m : Int), .slice u4 (m + m) e4, .int .i64 1, .int .i64 0] 29))) := HB4.out.alloc HB4.out.size _
  have R_5 : Hid (Blk (w4.alloc (.cells #[.int .i64 (m : Int), .slice u4 (m + m) e4, .int .i64 1, .int .i64 0] 29)) (w.heap.size + 1) [.int .i64 0, .int .i64 0, .slice none 0 0, .int .i64 0, .int .i64 0, .int .i64 0]) := R_4.out.alloc _
  have T_5 : Hid (Blk (w4.alloc (.cells #[.int .i64 (m : Int), .slice u4 (m + m) e4, .int .i64 1, .int .i64 0] 29)) w4.heap.size [.int .i64 (m : Int), .slice u4 (m + m) e4, .int .i64 1, .int .i64 0]) := Blk.new_at (w4.heap.size) rfl
  have RW_5 : Hid (OwnIn (w4.alloc (.cells #[.int .i64 (m : Int), .slice u4 (m + m) e4, .int .i64 1, .int .i64 0] 29)) w3.heap.size w4.heap.size u4 (m + m) (cat m (fun _ => 0) (fun i => f (m + i)))) := RW_4.out.alloc _
  clear HB4 R_4 A_4 RW_4 lA cA0 cA1 cA2 cA3
  generalize w4.alloc (.cells #[.int .i64 (m : Int), .slice u4 (m + m) e4, .int .i64 1, .int .i64 0] 29) = w5 at *
  have lT := T_5.out.1
  have cT0 := T_5.out.at 0 rfl
  have cT1 := T_5.out.at 1 rfl
  have cT2 := T_5.out.at 2 rfl
  have cT3 := T_5.out.at 3 rfl
  have lR := R_5.out.1
  have cR0 := R_5.out.at 0 rfl
  have cR1 := R_5.out.at 1 rfl
  have cR2 := R_5.out.at 2 rfl
  have cR3 := R_5.out.at 3 rfl
  have cR4 := R_5.out.at 4 rfl
  have cR5 := R_5.out.at 5 rfl
  have fR0 := R_5.out.free 0 rfl
  have fR1 := R_5.out.free 1 rfl
  have fR2 := R_5.out.free 2 rfl
  have fR3 := R_5.out.free 3 rfl
  have fR4 := R_5.out.free 4 rfl
  have fR5 := R_5.out.free 5 rfl
  have hg : ∀ i, i < 2 * m → cat m (fun _ => 0) (fun i => f (m + i)) i = zeroR f 0 m i := by
    intro i hi
    simp only [cat, zeroR]
    by_cases h : i < m
    · rw [if_pos h, if_pos (by omega)]
    · rw [if_neg h, if_neg (by omega)]; congr 1; omega
  have HG := Lib.hid hg
  clear hg
  go_wp2
  have hz := HB5.out.size
  refine bodyPost_ret (v := .agg #[.int .i64 0, .int .i64 (m : Int), .slice u4 (m + m) e4, .int .i64 1, .int .i64 0, .int .i64 0]) (by simp [results, Tryz.results49, go_sem, cR0, cR1, cR2, cR3, cR4, cR5]) rfl (retFlipC HG.out hc4 hcm4 ?_ ?_)
  · refine Own.mono (B := w.heap.size + 2) ?_ (by omega)
    repeat (with_reducible refine Own.setCell ?_ (by (try simp); (try omega)) _)
    exact (RW_5.out.widen (by omega) (Nat.le_refl _)).out
  · repeat (with_reducible refine Below.setCell ?_ (by (try simp); (try omega)) _)
    exact HB5.out

set_option maxRecDepth 100000 in
set_option maxHeartbeats 1600000 in
theorem implFlipC_ok1 (m : Nat) (bu : Int) (a : Option Addr) (c : Nat) (f : Nat → Int) (w : World) (hs : Src w a (2 * m) f) (hcn : 2 * m ≤ c) (hcm : c ≤ maxLen) (hk : IsFault (m : Int) (2 * m) f 1 bu 0) :
    Calls Tryz.prog 49 #[.agg #[.int .i64 (m : Int), .slice a (2 * m) c, .int .i64 1, .int .i64 bu]] w (RetResC w ⟨0, m, 2 * m, zeroR f m m, 0, 0, 0⟩) := by
  obtain ⟨⟨⟨g1, g2⟩, _, g5, g6⟩, _, _⟩ := isFault_ok hk
  obtain ⟨ab, ao, rfl, hab, hac⟩ := src_some hs (by omega)
  clear hac
  have HS := Lib.hid hs
  have HK := Lib.hid hk
  have HCM := Lib.hid hcm
  clear hs hk hcm
  go_enter Tryz.func49, Tryz.ntmps49
  go_wp2_with fail
  refine (implFault_any _ _ _ _ _ _ f 0 _ ((HS.out.alloc _).alloc _) HK.out).mono ?_
  rintro e w1 ⟨rfl, hb⟩
  have HB1 : Hid (Below w.heap.size w w1) := thru2 (Below.refl _ _) hb
  have z1 : w.heap.size + 2 ≤ w1.heap.size := by have := hb.size; simp at this; omega
  have HS_1 := Lib.hid (((HS.out.alloc _).alloc _).below hb)
  have A_1 := Lib.hid (((Blk.new_at (w.heap.size) (by simp)).alloc _).below hb)
  have R_1 := Lib.hid ((Blk.new_at (w.heap.size + 1) (by simp)).below hb)
  clear hb HS
  have lA := A_1.out.1
  have cA0 := A_1.out.at 0 rfl
  have cA1 := A_1.out.at 1 rfl
  have cA2 := A_1.out.at 2 rfl
  have cA3 := A_1.out.at 3 rfl
  go_wp2_with fail
  refine (halvesOf_any _ _ _ _ _ _ f _ HS_1.out (by omega) (by omega) hcn HCM.out).mono ?_
  rintro e w2 ⟨u1, e1, u2, e2, mid, rfl, ho, hb, hm1, hm2⟩
  have HB2 : Hid (Below w.heap.size w w2) := thru0 HB1.out hb
  have z2 : w1.heap.size ≤ w2.heap.size := hb.size
  have HS_2 := Lib.hid (HS_1.out.below hb)
  have A_2 := Lib.hid (A_1.out.below hb)
  have R_2 := Lib.hid (R_1.out.below hb)
  have HL_2 : Hid (Halves w2 w1.heap.size mid w2.heap.size u1 u2 m f) := ho
  clear hb lA cA0 cA1 cA2 cA3 HS_1 A_1 R_1 HB1 ho
  obtain ⟨b1, o1, rfl, _, _, _⟩ := ownIn_some HL_2.out.1 (by omega)
  obtain ⟨b2, o2, rfl, _, _, _⟩ := ownIn_some HL_2.out.2 (by omega)
  have lA := A_2.out.1
  have lA := A_2.out.1
  have cA0 := A_2.out.at 0 rfl
  have cA1 := A_2.out.at 1 rfl
  have cA2 := A_2.out.at 2 rfl
  have cA3 := A_2.out.at 3 rfl
  go_upto_region 6 with (refine wpList_clear _ rfl (.tmp 17) 22 rfl _ rfl _ _ (run_clr _ _ b2 o2 m _ _ _ (fun i => f (m + i)) (by omega) (HL_2.out.2.alloc _)) ?_)
  have st := (HL_2.out.2.alloc (.cells #[.slice (some ⟨b1, o1, none⟩) m e1, .slice (some ⟨b2, o2, none⟩) m e2] 150)).cleared (by omega)
  have HB3 : Hid (Below w.heap.size w ((w2.alloc (.cells #[.slice (some ⟨b1, o1, none⟩) m e1, .slice (some ⟨b2, o2, none⟩) m e2] 150)).setCells b2 o2 (List.replicate m (.int .i64 0)))) := (HB2.out.alloc HB2.out.size _).trans (st.2.below (by omega) (by simp; omega))
  have A_3 : Hid (Blk ((w2.alloc (.cells #[.slice (some ⟨b1, o1, none⟩) m e1, .slice (some ⟨b2, o2, none⟩) m e2] 150)).setCells b2 o2 (List.replicate m (.int .i64 0))) w.heap.size [.int .i64 (m : Int), .slice (some ⟨ab, ao, none⟩) (2 * m) c, .int .i64 1, .int .i64 bu]) := (A_2.out.alloc _).keeps st.2 (by omega)
  have R_3 : Hid (Blk ((w2.alloc (.cells #[.slice (some ⟨b1, o1, none⟩) m e1, .slice (some ⟨b2, o2, none⟩) m e2] 150)).setCells b2 o2 (List.replicate m (.int .i64 0))) (w.heap.size + 1) [.int .i64 0, .int .i64 0, .slice none 0 0, .int .i64 0, .int .i64 0, .int .i64 0]) := (R_2.out.alloc _).keeps st.2 (by omega)
  have H_3 : Hid (Blk ((w2.alloc (.cells #[.slice (some ⟨b1, o1, none⟩) m e1, .slice (some ⟨b2, o2, none⟩) m e2] 150)).setCells b2 o2 (List.replicate m (.int .i64 0))) w2.heap.size [.slice (some ⟨b1, o1, none⟩) m e1, .slice (some ⟨b2, o2, none⟩) m e2]) := (Blk.new_at (w2.heap.size) rfl).keeps st.2 (by omega)
  have z3 : w2.heap.size + 1 ≤ ((w2.alloc (.cells #[.slice (some ⟨b1, o1, none⟩) m e1, .slice (some ⟨b2, o2, none⟩) m e2] 150)).setCells b2 o2 (List.replicate m (.int .i64 0))).heap.size := by rw [size_setCells]; simp
  have L_3 : Hid (OwnIn ((w2.alloc (.cells #[.slice (some ⟨b1, o1, none⟩) m e1, .slice (some ⟨b2, o2, none⟩) m e2] 150)).setCells b2 o2 (List.replicate m (.int .i64 0))) w1.heap.size mid (some ⟨b1, o1, none⟩) m f) := (HL_2.out.1.alloc _).keeps st.2 (.inl (Nat.le_refl _))
  have M_3 : Hid (OwnIn ((w2.alloc (.cells #[.slice (some ⟨b1, o1, none⟩) m e1, .slice (some ⟨b2, o2, none⟩) m e2] 150)).setCells b2 o2 (List.replicate m (.int .i64 0))) mid w2.heap.size (some ⟨b2, o2, none⟩) m (fun _ => 0)) := st.1
  clear st HB2 A_2 R_2 HL_2 HS_2 lA cA0 cA1 cA2 cA3
  generalize (w2.alloc (.cells #[.slice (some ⟨b1, o1, none⟩) m e1, .slice (some ⟨b2, o2, none⟩) m e2] 150)).setCells b2 o2 (List.replicate m (.int .i64 0)) = w3 at *
  have lA := A_3.out.1
  have cA0 := A_3.out.at 0 rfl
  have cA1 := A_3.out.at 1 rfl
  have cA2 := A_3.out.at 2 rfl
  have cA3 := A_3.out.at 3 rfl
  have lH := H_3.out.1
  have cH0 := H_3.out.at 0 rfl
  have cH1 := H_3.out.at 1 rfl
  go_wp2_with fail
  refine (withHalves_any _ _ _ _ _ _ _ _ m m _ _ f (fun _ => 0) _ L_3.out.src M_3.out.src (by omega) (by omega) (by omega) (by omega)).mono ?_
  rintro e w4 ⟨u4, e4, rfl, ho, hb, hc4, hcm4, hn4⟩
  have HB4 : Hid (Below w.heap.size w w4) := thru0 HB3.out hb
  have z4 : w3.heap.size ≤ w4.heap.size := hb.size
  have A_4 := Lib.hid (A_3.out.below hb)
  have R_4 := Lib.hid (R_3.out.below hb)
  have H_4 := Lib.hid (H_3.out.below hb)
  have L_4 := Lib.hid (L_3.out.below hb)
  have M_4 := Lib.hid (M_3.out.below hb)
  have RW_4 : Hid (OwnIn w4 w3.heap.size w4.heap.size u4 (m + m) (cat m f (fun _ => 0))) := ho.into
  clear hb lA cA0 cA1 cA2 cA3 lH cH0 cH1 A_3 R_3 H_3 L_3 M_3 HB3 ho
  clear L_4 M_4 H_4
  have lA := A_4.out.1
  have cA0 := A_4.out.at 0 rfl
  have cA1 := A_4.out.at 1 rfl
  have cA2 := A_4.out.at 2 rfl
  have cA3 := A_4.out.at 3 rfl
  go_upto_region 9 with (fail)
  have HB5 : Hid (Below w.heap.size w (w4.alloc (.cells #[.int .i64 (m : Int), .slice u4 (m + m) e4, .int .i64 0, .int .i64 0] 29))) := HB4.out.alloc HB4.out.size _
  have R_5 : Hid (Blk (w4.alloc (.cells #[.int .i64 (m : Int), .slice u4 (m + m) e4, .int .i64 0, .int .i64 0] 29)) (w.heap.size + 1) [.int .i64 0, .int .i64 0, .slice none 0 0, .int .i64 0, .int .i64 0, .int .i64 0]) := R_4.out.alloc _
  have T_5 : Hid (Blk (w4.alloc (.cells #[.int .i64 (m : Int), .slice u4 (m + m) e4, .int .i64 0, .int .i64 0] 29)) w4.heap.size [.int .i64 (m : Int), .slice u4 (m + m) e4, .int .i64 0, .int .i64 0]) := Blk.new_at (w4.heap.size) rfl
  have RW_5 : Hid (OwnIn (w4.alloc (.cells #[.int .i64 (m : Int), .slice u4 (m + m) e4, .int .i64 0, .int .i64 0] 29)) w3.heap.size w4.heap.size u4 (m + m) (cat m f (fun _ => 0))) := RW_4.out.alloc _
  clear HB4 R_4 A_4 RW_4 lA cA0 cA1 cA2 cA3
  generalize w4.alloc (.cells #[.int .i64 (m : Int), .slice u4 (m + m) e4, .int .i64 0, .int .i64 0] 29) = w5 at *
  have lT := T_5.out.1
  have cT0 := T_5.out.at 0 rfl
  have cT1 := T_5.out.at 1 rfl
  have cT2 := T_5.out.at 2 rfl
  have cT3 := T_5.out.at 3 rfl
  have lR := R_5.out.1
  have cR0 := R_5.out.at 0 rfl
  have cR1 := R_5.out.at 1 rfl
  have cR2 := R_5.out.at 2 rfl
  have cR3 := R_5.out.at 3 rfl
  have cR4 := R_5.out.at 4 rfl
  have cR5 := R_5.out.at 5 rfl
  have fR0 := R_5.out.free 0 rfl
  have fR1 := R_5.out.free 1 rfl
  have fR2 := R_5.out.free 2 rfl
  have fR3 := R_5.out.free 3 rfl
  have fR4 := R_5.out.free 4 rfl
  have fR5 := R_5.out.free 5 rfl
  have hg : ∀ i, i < 2 * m → cat m f (fun _ => 0) i = zeroR f m m i := by
    intro i hi
    simp only [cat, zeroR]
    by_cases h : i < m
    · rw [if_pos h, if_neg (by omega)]
    · rw [if_neg h, if_pos (by omega)]
  have HG := Lib.hid hg
  clear hg
  go_wp2
  have hz := HB5.out.size
  refine bodyPost_ret (v := .agg #[.int .i64 0, .int .i64 (m : Int), .slice u4 (m + m) e4, .int .i64 0, .int .i64 0, .int .i64 0]) (by simp [results, Tryz.results49, go_sem, cR0, cR1, cR2, cR3, cR4, cR5]) rfl (retFlipC HG.out hc4 hcm4 ?_ ?_)
  · refine Own.mono (B := w.heap.size + 2) ?_ (by omega)
    repeat (with_reducible refine Own.setCell ?_ (by (try simp); (try omega)) _)
    exact (RW_5.out.widen (by omega) (Nat.le_refl _)).out
  · repeat (with_reducible refine Below.setCell ?_ (by (try simp); (try omega)) _)
    exact HB5.out

theorem implFlipC_any (h ac bu : Int) (a : Option Addr) (n c : Nat) (f : Nat → Int) (r : AR) (w : World) (hs : Src w a n f) (hcn : n ≤ c) (hcm : c ≤ maxLen) (hr : IsFlip h n f ac bu r) :
    Calls Tryz.prog 49 #[.agg #[.int .i64 h, .slice a n c, .int .i64 ac, .int .i64 bu]] w (RetResC w r) := by
  rcases hr with ⟨k, h1, h2, rfl⟩ | ⟨h1, rfl⟩
  · refine (implFlip_fault h ac bu a n c f k w hs hcn hcm h1 h2).mono ?_
    rintro e w' ⟨a', c', h3, h4, h5⟩
    exact ⟨a', c', h3, h4, h5, fun h => absurd h h2⟩
  · obtain ⟨⟨⟨g1, g2⟩, ⟨g3, g4⟩, _⟩, gn, _⟩ := isFault_ok h1
    obtain ⟨m, rfl⟩ : ∃ m : Nat, h = m := ⟨h.toNat, by omega⟩
    obtain rfl : n = 2 * m := by omega
    rcases (by omega : ac = 0 ∨ ac = 1) with rfl | rfl
    · exact implFlipC_ok0 m bu a c f w hs hcn hcm h1
    · exact implFlipC_ok1 m bu a c f w hs hcn hcm h1
end Go.Proofs.YtnpklnpicelcmaaGreat

namespace Go.Proofs.YtnpklnpicelcmaaGreat
open Go.RowKit
set_option linter.unusedVariables false

theorem Halves.congr {w : World} {lo mid hi : Nat} {a1 a2 : Option Addr} {m : Nat} {F G : Nat → Int} (h : Halves w lo mid hi a1 a2 m F) (e : ∀ i, i < 2 * m → F i = G i) : Halves w lo mid hi a1 a2 m G :=
  ⟨h.1.congr fun i hi => e i (by omega), h.2.congr fun i hi => e (m + i) (by omega)⟩
end Go.Proofs.YtnpklnpicelcmaaGreat

namespace Go.Proofs.YtnpklnpicelcmaaGreat
open Go.RowKit
set_option linter.unusedVariables false

/-- The bytes of a code, in a block below S. -/
def SrcB (w : World) (S : Nat) (a : Option Addr) (k : Nat) (B : Nat → Int) : Prop :=
  k = 0 ∨ ∃ b off, a = some ⟨b, off, none⟩ ∧ b < S ∧ b < w.heap.size ∧ ∀ i, i < k → w.cell? ⟨b, off + i, none⟩ = some (.int .u8 (B i)) ∧ 0 ≤ B i ∧ B i ≤ 255

theorem SrcB.keeps {w w' : World} {S lo hi : Nat} {a : Option Addr} {k : Nat} {B : Nat → Int} (h : SrcB w S a k B) (hk : Keeps w w' lo hi) (hS : S ≤ lo) : SrcB w' S a k B := by
  rcases h with h | ⟨b, off, h1, h2, h3, h4⟩
  · exact .inl h
  · have e := hk.block b h3 (.inl (by omega))
    exact .inr ⟨b, off, h1, h2, Nat.lt_of_lt_of_le h3 hk.size, fun i hi => ⟨(World.cell?_of_block (w := w) (a := ⟨b, off + i, none⟩) e).trans (h4 i hi).1, (h4 i hi).2⟩⟩

theorem SrcB.below {w w' : World} {S : Nat} {a : Option Addr} {k : Nat} {B : Nat → Int} (h : SrcB w S a k B) (hb : Below w.heap.size w w') : SrcB w' S a k B := by
  rcases h with h | ⟨b, off, h1, h2, h3, h4⟩
  · exact .inl h
  · exact .inr ⟨b, off, h1, h2, Nat.lt_of_lt_of_le h3 hb.size, fun i hi => ⟨(hb.cell (p := ⟨b, off + i, none⟩) h3).trans (h4 i hi).1, (h4 i hi).2⟩⟩

theorem SrcB.alloc {w : World} {S : Nat} {a : Option Addr} {k : Nat} {B : Nat → Int} (h : SrcB w S a k B) (o : Obj) : SrcB (w.alloc o) S a k B := h.below ((Below.refl _ _).alloc (Nat.le_refl _) o)

theorem SrcB.drew {w : World} {S : Nat} {a : Option Addr} {k : Nat} {B : Nat → Int} (h : SrcB w S a k B) : SrcB w.drew S a k B := h.below (Below.refl _ _).drew

theorem Keeps.alloc {w w1 : World} {lo hi : Nat} (h : Keeps w w1 lo hi) (o : Obj) : Keeps w (w1.alloc o) lo hi := h.trans (keeps_of_below ((Below.refl _ _).alloc (Nat.le_refl _) o) lo hi)

theorem Keeps.drew {w w1 : World} {lo hi : Nat} (h : Keeps w w1 lo hi) : Keeps w w1.drew lo hi := h.trans (keeps_of_below (Below.refl _ _).drew lo hi)

theorem SrcB.setCell {w : World} {S : Nat} {a : Option Addr} {k : Nat} {B : Nat → Int} (h : SrcB w S a k B) {p : Addr} (hp : S ≤ p.block) (u : Value) : SrcB (w.setCell p u) S a k B :=
  h.keeps (keeps_setCell (Nat.le_refl p.block) (Nat.lt_succ_self _) u) hp
end Go.Proofs.YtnpklnpicelcmaaGreat

namespace Go.Proofs.YtnpklnpicelcmaaGreat
open Go.RowKit
set_option linter.unusedVariables false

theorem SrcB.mono {w : World} {S S' : Nat} {a : Option Addr} {k : Nat} {B : Nat → Int} (h : SrcB w S a k B) (hS : S ≤ S') : SrcB w S' a k B := by
  rcases h with h | ⟨b, off, h1, h2, h3, h4⟩
  · exact .inl h
  · exact .inr ⟨b, off, h1, by omega, h3, h4⟩
end Go.Proofs.YtnpklnpicelcmaaGreat

namespace Go.Proofs.YtnpklnpicelcmaaGreat
open Go.RowKit
set_option linter.unusedVariables false

/-- 2 to the power of a number. -/
def P2 (s : Int) : Int := 2 ^ s.toNat

theorem P2_succ (i : Nat) : P2 ((i : Int) + 1) = P2 i * 2 := by
  unfold P2
  have : ((i : Int) + 1).toNat = (i : Int).toNat + 1 := by omega
  rw [this, Int.pow_succ]

theorem P2_pos (s : Int) : 1 ≤ P2 s := by
  unfold P2
  have : (0 : Int) < 2 ^ s.toNat := Int.pow_pos (by omega)
  omega

theorem P2_le {s : Int} (h : s ≤ 12) : P2 s ≤ 4096 := by
  unfold P2
  have h1 : s.toNat ≤ 12 := by omega
  have : (2 : Nat) ^ s.toNat ≤ 2 ^ 12 := Nat.pow_le_pow_right (by omega) h1
  have e : ((2 ^ s.toNat : Nat) : Int) = (2 : Int) ^ s.toNat := by simp
  rw [← e]; omega

set_option maxRecDepth 100000 in
set_option maxHeartbeats 400000 in
theorem power_any (n : Nat) (w : World) (hn : n ≤ 12) :
    Calls Tryz.prog 107 #[.int .i64 (n : Int)] w fun e w' => e = .returned (.int .i64 (P2 n)) ∧ w = w' := by
  go_enter Tryz.func107, Tryz.ntmps107
  go_wp2
  go_loop [3, 0] (fun q p => ∃ i : Nat, i ≤ n ∧ q = .int .i64 (P2 i) ∧ p = .int .i64 ((n : Int) - i)) (fun _ p => (intOf p).toNat)
  case atStart => exact ⟨0, Nat.zero_le _, rfl, by simp⟩
  case round =>
    obtain ⟨i, hi, rfl, rfl⟩ := hrel
    by_cases hlt : i < n
    · have h1 : 0 < (n : Int) - (i : Int) := by omega
      have h2 := P2_pos i
      have h3 := P2_le (s := (i : Int)) (by omega)
      go_wp2
      go_round
      case rel => exact ⟨i + 1, by omega, by rw [Int.natCast_succ, P2_succ], by simp; omega⟩
      case measure => simp [intOf]; omega
    · obtain rfl : i = n := by omega
      go_wp2
      go_ret
      exact ⟨rfl, rfl⟩
end Go.Proofs.YtnpklnpicelcmaaGreat

namespace Go.Proofs.YtnpklnpicelcmaaGreat
open Go.RowKit
set_option linter.unusedVariables false

theorem b3_blk {V : World} {B o : Nat} {cs : List Value} {v l g : Int} (hB : Blk V B cs) (h1 : cs[o]? = some (.int .i64 v)) (h2 : cs[o + 1]? = some (.int .i64 l)) (h3 : cs[o + 2]? = some (.int .i64 g)) : B3 V B o v l g :=
  ⟨hB.at o h1, hB.at (o + 1) h2, hB.at (o + 2) h3⟩

/-- isOutside, of three bounds in a block that is known. -/
theorem isOut3b (B : Nat) (V : World) (v0 l0 g0 v1 l1 g1 v2 l2 g2 : Int) (r : Bool) (hB : Blk V B [.int .i64 v0, .int .i64 l0, .int .i64 g0, .int .i64 v1, .int .i64 l1, .int .i64 g1, .int .i64 v2, .int .i64 l2, .int .i64 g2])
    (hr : (r = false ∧ (l0 ≤ v0 ∧ v0 ≤ g0) ∧ (l1 ≤ v1 ∧ v1 ≤ g1) ∧ (l2 ≤ v2 ∧ v2 ≤ g2)) ∨ (r = true ∧ ¬ ((l0 ≤ v0 ∧ v0 ≤ g0) ∧ (l1 ≤ v1 ∧ v1 ≤ g1) ∧ (l2 ≤ v2 ∧ v2 ≤ g2)))) :
    Calls Tryz.prog 87 #[.slice (some ⟨B, 0, none⟩) 3 3] V (RetBool V r) := by
  have hB3 : ∀ i, i < 3 → B3 V B (i * 3) (pick3 v0 v1 v2 i) (pick3 l0 l1 l2 i) (pick3 g0 g1 g2 i) := by
    intro i hi
    match i, hi with
    | 0, _ => exact b3_blk hB rfl rfl rfl
    | 1, _ => exact b3_blk hB rfl rfl rfl
    | 2, _ => exact b3_blk hB rfl rfl rfl
  rcases hr with ⟨rfl, hr⟩ | ⟨rfl, hr⟩
  · refine isOut_no B 3 _ _ _ _ (by omega) hB.1 hB3 (fun i hi => ?_)
    match i, hi with
    | 0, _ => exact hr.1
    | 1, _ => exact hr.2.1
    | 2, _ => exact hr.2.2
  · refine isOut_yes B 3 _ _ _ _ (by omega) hB.1 hB3 ?_
    by_cases h0 : l0 ≤ v0 ∧ v0 ≤ g0
    · by_cases h1 : l1 ≤ v1 ∧ v1 ≤ g1
      · exact ⟨2, by omega, fun h2 => hr ⟨h0, h1, h2⟩⟩
      · exact ⟨1, by omega, h1⟩
    · exact ⟨0, by omega, h0⟩

/-- What a head is. -/
def HOk (s m o h : Int) : Prop := (0 ≤ s ∧ s ≤ 12) ∧ (0 ≤ m ∧ m ≤ P2 s - 1) ∧ (0 ≤ o ∧ o ≤ 3) ∧ (0 ≤ h ∧ h ≤ 99999)

def IsHF (s m o h k : Int) : Prop := (HOk s m o h ∧ k = 0) ∨ (¬ HOk s m o h ∧ k = 3)

set_option maxRecDepth 100000 in
set_option maxHeartbeats 400000 in
theorem implHF_size (s m o h : Int) (w : World) (h0 : ¬ (0 ≤ s ∧ s ≤ 12)) :
    Calls Tryz.prog 99 #[.agg #[.int .i64 s, .int .i64 m, .int .i64 o, .int .i64 h]] w (RetInt w 3) := by
  have H0 := Lib.hid h0
  clear h0
  go_enter Tryz.func99, Tryz.ntmps99
  go_wp2_with (go_at_call 87; (with_reducible refine (isOut1 _ _ _ _ _ true (by simp) (.inr ⟨rfl, H0.out⟩)).mono ?_); rintro e w1 ⟨rfl, hb⟩; obtain ⟨hc, hf⟩ := bcell hb; have HB := Lib.hid hb; have hz := hb.size; clear hb)
  go_ret
  exact ⟨rfl, (((Below.refl _ _).alloc (Nat.le_refl _) _).alloc (by simp) _).trans (HB.out.mono (by simp; try omega))⟩

set_option maxRecDepth 100000 in
set_option maxHeartbeats 800000 in
theorem implHF_rest (s m o h : Int) (r : Bool) (k : Int) (w : World) (h0 : 0 ≤ s ∧ s ≤ 12)
    (hr : (r = false ∧ (0 ≤ m ∧ m ≤ P2 s - 1) ∧ (0 ≤ o ∧ o ≤ 3) ∧ (0 ≤ h ∧ h ≤ 99999)) ∨ (r = true ∧ ¬ ((0 ≤ m ∧ m ≤ P2 s - 1) ∧ (0 ≤ o ∧ o ≤ 3) ∧ (0 ≤ h ∧ h ≤ 99999)))) (hk : k = if r then 3 else 0) :
    Calls Tryz.prog 99 #[.agg #[.int .i64 s, .int .i64 m, .int .i64 o, .int .i64 h]] w (RetInt w k) := by
  have H0 := Lib.hid h0
  have p1 := P2_pos s
  have p2 := P2_le h0.2
  have hwr : IntKind.i64.wrap (IntKind.i64.wrap (P2 s) - 1) = P2 s - 1 := by
    rw [IntWalk.i64_in (P2 s) (by omega), IntWalk.i64_in _ (by omega)]
  have HR : Hid ((r = false ∧ (0 ≤ m ∧ m ≤ IntKind.i64.wrap (IntKind.i64.wrap (P2 s) - 1)) ∧ (0 ≤ o ∧ o ≤ 3) ∧ (0 ≤ h ∧ h ≤ 99999)) ∨ (r = true ∧ ¬ ((0 ≤ m ∧ m ≤ IntKind.i64.wrap (IntKind.i64.wrap (P2 s) - 1)) ∧ (0 ≤ o ∧ o ≤ 3) ∧ (0 ≤ h ∧ h ≤ 99999)))) := by rw [hwr]; exact hr
  have HK := Lib.hid hk
  obtain ⟨q1, q2⟩ := h0
  have hmin : min s.toNat 64 = s.toNat := by omega
  have hpow : (2 : Int) ^ s.toNat = P2 s := rfl
  clear hr hk hwr
  go_enter Tryz.func99, Tryz.ntmps99
  go_wp2_with (go_at_call 87; (with_reducible refine (isOut1 _ _ _ _ _ false (by simp) (.inl ⟨rfl, H0.out⟩)).mono ?_); rintro e w1 ⟨rfl, hb⟩; have HB : Hid (Below w.heap.size w w1) := (((Below.refl _ _).alloc (Nat.le_refl _) _).alloc (by simp) _).trans (hb.mono (by simp; try omega)); have HH : Hid (Blk w1 w.heap.size [.int .i64 s, .int .i64 m, .int .i64 o, .int .i64 h]) := ((Blk.new_at (w.heap.size) rfl).alloc _).below hb; clear hb)
  have lH := HH.out.1
  have HHd := Lib.hid HH.out.drew
  have HBz : w.heap.size ≤ w1.heap.size := HB.out.size
  go_region_held3 (fun w' => w'.cell? ⟨w.heap.size, 0, none⟩ = some (.int .i64 s) ∧ w'.cell? ⟨w.heap.size, 1, none⟩ = some (.int .i64 m) ∧ w'.cell? ⟨w.heap.size, 2, none⟩ = some (.int .i64 o) ∧ w'.cell? ⟨w.heap.size, 3, none⟩ = some (.int .i64 h))
    (first | (with_reducible exact ⟨(HH.out).at 0 rfl, (HH.out).at 1 rfl, (HH.out).at 2 rfl, (HH.out).at 3 rfl⟩) | (with_reducible exact ⟨(HHd.out).at 0 rfl, (HHd.out).at 1 rfl, (HHd.out).at 2 rfl, (HHd.out).at 3 rfl⟩) | (with_reducible exact ⟨((HH.out.alloc _).drew).at 0 rfl, ((HH.out.alloc _).drew).at 1 rfl, ((HH.out.alloc _).drew).at 2 rfl, ((HH.out.alloc _).drew).at 3 rfl⟩) | (with_reducible exact ⟨(HH2.out).at 0 rfl, (HH2.out).at 1 rfl, (HH2.out).at 2 rfl, (HH2.out).at 3 rfl⟩))
    (first | (go_at_call 87; (with_reducible refine (isOut3b _ _ _ _ _ _ _ _ _ _ _ r (Blk.new_at (w1.heap.size) rfl).drew HR.out).mono ?_); rintro e w2 ⟨rfl, hb⟩; have HB2 : Hid (Below w.heap.size w w2) := ((HB.out.alloc HBz _).drew).trans (hb.mono (by simp; omega)); have HH2 := Lib.hid (((HH.out.alloc _).drew).below hb); clear hb))
  cases r
  · have hk : k = 0 := HK.out
    subst hk
    go_wp2
    go_ret
    exact ⟨rfl, HB2.out⟩
  · have hk : k = 3 := HK.out
    subst hk
    go_wp2
    go_ret
    exact ⟨rfl, HB2.out⟩

theorem implHF_any (s m o h k : Int) (w : World) (hk : IsHF s m o h k) : Calls Tryz.prog 99 #[.agg #[.int .i64 s, .int .i64 m, .int .i64 o, .int .i64 h]] w (RetInt w k) := by
  by_cases h0 : 0 ≤ s ∧ s ≤ 12
  · rcases hk with ⟨⟨_, h1⟩, rfl⟩ | ⟨h1, rfl⟩
    · exact implHF_rest s m o h false 0 w h0 (.inl ⟨rfl, h1⟩) rfl
    · exact implHF_rest s m o h true 3 w h0 (.inr ⟨rfl, fun x => h1 ⟨h0, x⟩⟩) rfl
  · rcases hk with ⟨⟨h1, _⟩, _⟩ | ⟨_, rfl⟩
    · exact absurd h1 h0
    · exact implHF_size s m o h w h0

set_option maxRecDepth 100000 in
set_option maxHeartbeats 800000 in
theorem specHF_s (s m o h : Int) (w : World) (hs : ¬ (0 ≤ s ∧ s ≤ 12)) : Calls Tryz.prog 104 #[.agg #[.int .i64 s, .int .i64 m, .int .i64 o, .int .i64 h]] w (RetInt w 3) := by
  go_enter Tryz.func104, Tryz.ntmps104
  go_wp2_with fail
  go_quiet (first | (with_reducible exact Calls.quiet_of_same (Calls.mono (l1In_no s 0 12 _ hs) fun _ _ hh => ⟨hh.1, hh.2.symm⟩)))
  go_wp2
  go_ret
  exact ⟨rfl, below_drewN ((Below.refl _ _).alloc (Nat.le_refl _) _) _⟩

set_option maxRecDepth 100000 in
set_option maxHeartbeats 800000 in
theorem specHF_m (S : Nat) (m o h : Int) (w : World) (hS : S ≤ 12) (hm : ¬ (0 ≤ m ∧ m ≤ P2 S - 1)) : Calls Tryz.prog 104 #[.agg #[.int .i64 (S : Int), .int .i64 m, .int .i64 o, .int .i64 h]] w (RetInt w 3) := by
  have p1 := P2_pos (S : Int)
  have p2 := P2_le (s := (S : Int)) (by omega)
  have hwr : IntKind.i64.wrap (P2 (S : Int) - 1) = P2 S - 1 := IntWalk.i64_in _ (by omega)
  go_enter Tryz.func104, Tryz.ntmps104
  go_wp2_with fail
  go_quiet (first | (with_reducible exact Calls.quiet_of_same (Calls.mono (l1In_yes (S : Int) 0 12 _ (by omega) (by omega)) fun _ _ hh => ⟨hh.1, hh.2.symm⟩)) | (with_reducible exact Calls.quiet_of_same (Calls.mono (l1In_no m 0 (P2 (S : Int) - 1) _ hm) fun _ _ hh => ⟨hh.1, hh.2.symm⟩)) | (with_reducible exact Calls.quiet_of_same (Calls.mono (power_any S _ hS) fun _ _ hh => ⟨hh.1, hh.2.symm⟩)))
  go_wp2
  go_ret
  exact ⟨rfl, below_drewN ((Below.refl _ _).alloc (Nat.le_refl _) _) _⟩

set_option maxRecDepth 100000 in
set_option maxHeartbeats 800000 in
theorem specHF_o (S : Nat) (m o h : Int) (w : World) (hS : S ≤ 12) (hm : 0 ≤ m ∧ m ≤ P2 S - 1) (ho : ¬ (0 ≤ o ∧ o ≤ 3)) : Calls Tryz.prog 104 #[.agg #[.int .i64 (S : Int), .int .i64 m, .int .i64 o, .int .i64 h]] w (RetInt w 3) := by
  have p1 := P2_pos (S : Int)
  have p2 := P2_le (s := (S : Int)) (by omega)
  have hwr : IntKind.i64.wrap (P2 (S : Int) - 1) = P2 S - 1 := IntWalk.i64_in _ (by omega)
  go_enter Tryz.func104, Tryz.ntmps104
  go_wp2_with fail
  go_quiet (first | (with_reducible exact Calls.quiet_of_same (Calls.mono (l1In_yes (S : Int) 0 12 _ (by omega) (by omega)) fun _ _ hh => ⟨hh.1, hh.2.symm⟩)) | (with_reducible exact Calls.quiet_of_same (Calls.mono (l1In_yes m 0 (P2 (S : Int) - 1) _ hm.1 hm.2) fun _ _ hh => ⟨hh.1, hh.2.symm⟩)) | (with_reducible exact Calls.quiet_of_same (Calls.mono (l1In_no o 0 3 _ ho) fun _ _ hh => ⟨hh.1, hh.2.symm⟩)) | (with_reducible exact Calls.quiet_of_same (Calls.mono (power_any S _ hS) fun _ _ hh => ⟨hh.1, hh.2.symm⟩)))
  go_wp2
  go_ret
  exact ⟨rfl, below_drewN ((Below.refl _ _).alloc (Nat.le_refl _) _) _⟩

set_option maxRecDepth 100000 in
set_option maxHeartbeats 800000 in
theorem specHF_h (S : Nat) (m o h : Int) (w : World) (hS : S ≤ 12) (hm : 0 ≤ m ∧ m ≤ P2 S - 1) (ho : 0 ≤ o ∧ o ≤ 3) (hh : ¬ (0 ≤ h ∧ h ≤ 99999)) : Calls Tryz.prog 104 #[.agg #[.int .i64 (S : Int), .int .i64 m, .int .i64 o, .int .i64 h]] w (RetInt w 3) := by
  have p1 := P2_pos (S : Int)
  have p2 := P2_le (s := (S : Int)) (by omega)
  have hwr : IntKind.i64.wrap (P2 (S : Int) - 1) = P2 S - 1 := IntWalk.i64_in _ (by omega)
  go_enter Tryz.func104, Tryz.ntmps104
  go_wp2_with fail
  go_quiet (first | (with_reducible exact Calls.quiet_of_same (Calls.mono (l1In_yes (S : Int) 0 12 _ (by omega) (by omega)) fun _ _ hh => ⟨hh.1, hh.2.symm⟩)) | (with_reducible exact Calls.quiet_of_same (Calls.mono (l1In_yes m 0 (P2 (S : Int) - 1) _ hm.1 hm.2) fun _ _ hh => ⟨hh.1, hh.2.symm⟩)) | (with_reducible exact Calls.quiet_of_same (Calls.mono (l1In_yes o 0 3 _ ho.1 ho.2) fun _ _ hh => ⟨hh.1, hh.2.symm⟩)) | (with_reducible exact Calls.quiet_of_same (Calls.mono (l1In_no h 0 99999 _ hh) fun _ _ hh => ⟨hh.1, hh.2.symm⟩)) | (with_reducible exact Calls.quiet_of_same (Calls.mono (power_any S _ hS) fun _ _ hh => ⟨hh.1, hh.2.symm⟩)))
  go_wp2
  go_ret
  exact ⟨rfl, below_drewN ((Below.refl _ _).alloc (Nat.le_refl _) _) _⟩

set_option maxRecDepth 100000 in
set_option maxHeartbeats 800000 in
theorem specHF_ok (S : Nat) (m o h : Int) (w : World) (hS : S ≤ 12) (hm : 0 ≤ m ∧ m ≤ P2 S - 1) (ho : 0 ≤ o ∧ o ≤ 3) (hh : 0 ≤ h ∧ h ≤ 99999) : Calls Tryz.prog 104 #[.agg #[.int .i64 (S : Int), .int .i64 m, .int .i64 o, .int .i64 h]] w (RetInt w 0) := by
  have p1 := P2_pos (S : Int)
  have p2 := P2_le (s := (S : Int)) (by omega)
  have hwr : IntKind.i64.wrap (P2 (S : Int) - 1) = P2 S - 1 := IntWalk.i64_in _ (by omega)
  go_enter Tryz.func104, Tryz.ntmps104
  go_wp2_with fail
  go_quiet (first | (with_reducible exact Calls.quiet_of_same (Calls.mono (l1In_yes (S : Int) 0 12 _ (by omega) (by omega)) fun _ _ hh => ⟨hh.1, hh.2.symm⟩)) | (with_reducible exact Calls.quiet_of_same (Calls.mono (l1In_yes m 0 (P2 (S : Int) - 1) _ hm.1 hm.2) fun _ _ hh => ⟨hh.1, hh.2.symm⟩)) | (with_reducible exact Calls.quiet_of_same (Calls.mono (l1In_yes o 0 3 _ ho.1 ho.2) fun _ _ hh => ⟨hh.1, hh.2.symm⟩)) | (with_reducible exact Calls.quiet_of_same (Calls.mono (l1In_yes h 0 99999 _ hh.1 hh.2) fun _ _ hh => ⟨hh.1, hh.2.symm⟩)) | (with_reducible exact Calls.quiet_of_same (Calls.mono (power_any S _ hS) fun _ _ hh => ⟨hh.1, hh.2.symm⟩)))
  go_wp2
  go_ret
  exact ⟨rfl, below_drewN ((Below.refl _ _).alloc (Nat.le_refl _) _) _⟩

theorem specHF_any (s m o h k : Int) (w : World) (hk : IsHF s m o h k) : Calls Tryz.prog 104 #[.agg #[.int .i64 s, .int .i64 m, .int .i64 o, .int .i64 h]] w (RetInt w k) := by
  by_cases h0 : 0 ≤ s ∧ s ≤ 12
  · obtain ⟨S, rfl⟩ : ∃ S : Nat, s = S := ⟨s.toNat, by omega⟩
    have hS : S ≤ 12 := by omega
    rcases hk with ⟨⟨_, h1, h2, h3⟩, rfl⟩ | ⟨hn, rfl⟩
    · exact specHF_ok S m o h w hS h1 h2 h3
    · by_cases h1 : 0 ≤ m ∧ m ≤ P2 S - 1
      · by_cases h2 : 0 ≤ o ∧ o ≤ 3
        · exact specHF_h S m o h w hS h1 h2 (fun h3 => hn ⟨h0, h1, h2, h3⟩)
        · exact specHF_o S m o h w hS h1 h2
      · exact specHF_m S m o h w hS h1
  · rcases hk with ⟨⟨h1, _⟩, _⟩ | ⟨_, rfl⟩
    · exact absurd h1 h0
    · exact specHF_s s m o h w h0
end Go.Proofs.YtnpklnpicelcmaaGreat

namespace Go.Proofs.YtnpklnpicelcmaaGreat
open Go.RowKit
set_option linter.unusedVariables false

set_option maxRecDepth 100000 in
set_option maxHeartbeats 400000 in
theorem l2Words_any (b : Nat) (s m o h : Int) (w : World) (hB : Blk w b [.int .i64 s, .int .i64 m, .int .i64 o, .int .i64 h]) (h0 : 0 ≤ s ∧ s ≤ 12) :
    Calls Tryz.prog 73 #[.pointer (some ⟨b, 0, none⟩)] w fun e w' => e = .returned (.int .i64 (s + 2)) ∧ w = w' := by
  have c0 := hB.at 0 rfl
  obtain ⟨h1, h2⟩ := h0
  clear hB
  go_enter Tryz.func73, Tryz.ntmps73
  go_wp2
  go_ret
  exact ⟨rfl, rfl⟩

set_option maxRecDepth 100000 in
set_option maxHeartbeats 800000 in
theorem implWO_yes (s m o h : Int) (w : World) (hk : HOk s m o h) :
    Calls Tryz.prog 96 #[.agg #[.int .i64 s, .int .i64 m, .int .i64 o, .int .i64 h]] w (RetPair w 0 (s + 2)) := by
  have hk' : IsHF s m o h 0 := .inl ⟨hk, rfl⟩
  have h0 := hk.1
  have h1 := h0.1
  have h2 := h0.2
  have HK := Lib.hid hk'
  clear hk'
  go_enter Tryz.func96, Tryz.ntmps96
  go_wp2_with fail
  refine (implHF_any s m o h 0 _ HK.out).mono ?_
  rintro e w1 ⟨rfl, hb⟩
  have HB1 : Hid (Below w.heap.size w w1) := thru2 (Below.refl _ _) hb
  have z1 : w.heap.size + 2 ≤ w1.heap.size := by have := hb.size; simp at this; omega
  have H_1 := Lib.hid (((Blk.new_at (w.heap.size) (by simp)).alloc _).below hb)
  have R_1 := Lib.hid ((Blk.new_at (w.heap.size + 1) (by simp)).below hb)
  clear hb
  have lR := R_1.out.1
  have cR0 := R_1.out.at 0 rfl
  have cR1 := R_1.out.at 1 rfl
  have lH := H_1.out.1
  have cH0 := H_1.out.at 0 rfl
  have fR0 := R_1.out.free 0 rfl
  have fR1 := R_1.out.free 1 rfl
  go_wp2
  have hz := HB1.out.size
  refine bodyPost_ret (v := .agg #[.int .i64 0, .int .i64 (s + 2)]) (by simp [results, Tryz.results96, go_sem, cR0, cR1]) rfl ⟨rfl, ?_⟩
  repeat (with_reducible refine Below.setCell ?_ (by (try simp); (try omega)) _)
  exact HB1.out
end Go.Proofs.YtnpklnpicelcmaaGreat

namespace Go.Proofs.YtnpklnpicelcmaaGreat
open Go.RowKit
set_option linter.unusedVariables false

/-- The low bits of a number. -/
theorem bits_and_low (j : Nat) (hj : j ≤ 20) (x : Int) : bits .and .i64 x ((2 ^ j - 1 : Nat) : Int) = x % ((2 ^ j : Nat) : Int) := by
  have hp : (2 : Nat) ^ j ≤ 2 ^ 20 := Nat.pow_le_pow_right (by omega) hj
  have hp0 : 0 < (2 : Nat) ^ j := Nat.two_pow_pos j
  have hdv : ((2 ^ j : Nat) : Int) ∣ (2 : Int) ^ 64 := ⟨((2 ^ (64 - j) : Nat) : Int), by rw [← Int.natCast_mul, ← Nat.pow_add]; rw [show j + (64 - j) = 64 by omega]; rfl⟩
  have e1 : (BitVec.ofInt 64 x).toNat = (x % 2 ^ 64).toNat := by simp [BitVec.toNat_ofInt]
  have e2 : (BitVec.ofInt 64 ((2 ^ j - 1 : Nat) : Int)).toNat = 2 ^ j - 1 := by
    rw [BitVec.toNat_ofInt]; omega
  have e3 : (BitVec.ofInt 64 x &&& BitVec.ofInt 64 ((2 ^ j - 1 : Nat) : Int)).toNat = (x % 2 ^ 64).toNat % 2 ^ j := by
    rw [BitVec.toNat_and, e1, e2, Nat.and_two_pow_sub_one_eq_mod]
  have e4 : (((x % 2 ^ 64).toNat % 2 ^ j : Nat) : Int) = x % ((2 ^ j : Nat) : Int) := by
    rw [Int.natCast_emod, Int.toNat_of_nonneg (Int.emod_nonneg _ (by decide)), Int.emod_emod_of_dvd _ hdv]
  have e5 : bits .and .i64 x ((2 ^ j - 1 : Nat) : Int) = IntKind.i64.wrap (((x % 2 ^ 64).toNat % 2 ^ j : Nat) : Int) := by rw [← e3]; rfl
  rw [e5, e4, IntWalk.i64_in _ (by have := Int.emod_nonneg x (b := ((2 ^ j : Nat) : Int)) (by omega); have := Int.emod_lt_of_pos x (b := ((2 ^ j : Nat) : Int)) (by omega); omega)]

theorem bits_and_1 (x : Int) : bits .and .i64 x 1 = x % 2 := bits_and_low 1 (by omega) x

theorem bits_and_15 (x : Int) : bits .and .i64 x 15 = x % 16 := bits_and_low 4 (by omega) x

theorem bits_and_4095 (x : Int) : bits .and .i64 x 4095 = x % 4096 := bits_and_low 12 (by omega) x

/-- Bits that do not meet are a sum. -/
theorem bits_or_add (j : Nat) (x q : Int) (h0 : 0 ≤ x) (h1 : x < ((2 ^ j : Nat) : Int)) (h2 : 0 ≤ q) (h3 : x + q * ((2 ^ j : Nat) : Int) < 2 ^ 62) (h4 : 0 ≤ q * ((2 ^ j : Nat) : Int)) :
    bits .or .i64 x (q * ((2 ^ j : Nat) : Int)) = x + q * ((2 ^ j : Nat) : Int) := by
  obtain ⟨X, rfl⟩ : ∃ X : Nat, x = X := ⟨x.toNat, by omega⟩
  obtain ⟨Q, rfl⟩ : ∃ Q : Nat, q = Q := ⟨q.toNat, by omega⟩
  have hX : X < 2 ^ j := by omega
  have hm : ((Q : Int) * ((2 ^ j : Nat) : Int)) = ((2 ^ j * Q : Nat) : Int) := by rw [Nat.mul_comm]; simp
  rw [hm] at h3 h4 ⊢
  have e1 : (BitVec.ofInt 64 (X : Int)).toNat = X := by rw [BitVec.toNat_ofInt]; omega
  have e2 : (BitVec.ofInt 64 ((2 ^ j * Q : Nat) : Int)).toNat = 2 ^ j * Q := by rw [BitVec.toNat_ofInt]; omega
  have e3 : (BitVec.ofInt 64 (X : Int) ||| BitVec.ofInt 64 ((2 ^ j * Q : Nat) : Int)).toNat = 2 ^ j * Q + X := by
    rw [BitVec.toNat_or, e1, e2, Nat.or_comm, Nat.two_pow_add_eq_or_of_lt hX]
  have e5 : bits .or .i64 (X : Int) ((2 ^ j * Q : Nat) : Int) = IntKind.i64.wrap ((2 ^ j * Q + X : Nat) : Int) := by rw [← e3]; rfl
  rw [e5, IntWalk.i64_in _ (by omega)]
  omega

/-- The first word of a head. -/
theorem pack_bits (s m o : Int) (h1 : 0 ≤ s ∧ s ≤ 12) (h2 : 0 ≤ m ∧ m ≤ 4095) (h3 : 0 ≤ o ∧ o ≤ 3) :
    bits .or .i64 (bits .or .i64 (bits .or .i64 1 (s * 2)) (m * 32)) (o * 131072) = 1 + 2 * (s + 16 * (m + 4096 * o)) := by
  rw [show bits .or .i64 1 (s * 2) = 1 + s * 2 from bits_or_add 1 1 s (by omega) (by omega) h1.1 (by omega) (by omega)]
  rw [show bits .or .i64 (1 + s * 2) (m * 32) = 1 + s * 2 + m * 32 from bits_or_add 5 _ m (by omega) (by omega) h2.1 (by omega) (by omega)]
  rw [show bits .or .i64 (1 + s * 2 + m * 32) (o * 131072) = 1 + s * 2 + m * 32 + o * 131072 from bits_or_add 17 _ o (by omega) (by omega) h3.1 (by omega) (by omega)]
  omega
end Go.Proofs.YtnpklnpicelcmaaGreat

namespace Go.Proofs.YtnpklnpicelcmaaGreat
open Go.RowKit
set_option linter.unusedVariables false

def I64 (a : Int) : Prop := -9223372036854775808 ≤ a ∧ a ≤ 9223372036854775807
end Go.Proofs.YtnpklnpicelcmaaGreat

namespace Go.Proofs.YtnpklnpicelcmaaGreat
open Go.RowKit
set_option linter.unusedVariables false

/-- What IsPointer answers. -/
def IsIP (s m o h i : Int) (r : Bool) : Prop := ((HOk s m o h ∧ (0 ≤ i ∧ i ≤ s - 1)) ∧ r = (m / P2 i % 2 == 1)) ∨ (¬ (HOk s m o h ∧ (0 ≤ i ∧ i ≤ s - 1)) ∧ r = false)

set_option maxRecDepth 100000 in
set_option maxHeartbeats 800000 in
theorem implIP_bad (s m o h i : Int) (w : World) (hk : ¬ HOk s m o h) :
    Calls Tryz.prog 127 #[.agg #[.int .i64 s, .int .i64 m, .int .i64 o, .int .i64 h], .int .i64 i] w (RetBool w false) := by
  have hk' : IsHF s m o h 3 := .inr ⟨hk, rfl⟩
  have HK := Lib.hid hk'
  clear hk'
  go_enter Tryz.func127, Tryz.ntmps127
  go_wp2_with fail
  refine (implHF_any s m o h 3 _ HK.out).mono ?_
  rintro e w1 ⟨rfl, hb⟩
  have HB1 : Hid (Below w.heap.size w w1) := thru1 (Below.refl _ _) hb
  have z1 : w.heap.size + 1 ≤ w1.heap.size := by have := hb.size; simp at this; omega
  have H_1 := Lib.hid ((Blk.new_at (w.heap.size) (by simp)).below hb)
  clear hb
  go_wp2
  go_ret
  exact ⟨rfl, HB1.out⟩

set_option maxRecDepth 100000 in
set_option maxHeartbeats 1600000 in
theorem implIP_out (s m o h i : Int) (w : World) (hk : HOk s m o h) (h0 : ¬ (0 ≤ i ∧ i ≤ s - 1)) :
    Calls Tryz.prog 127 #[.agg #[.int .i64 s, .int .i64 m, .int .i64 o, .int .i64 h], .int .i64 i] w (RetBool w false) := by
  obtain ⟨q1, q2⟩ := hk.1
  have H0 := Lib.hid h0
  have hk' : IsHF s m o h 0 := .inl ⟨hk, rfl⟩
  have HK := Lib.hid hk'
  clear hk'
  clear h0 hk
  go_enter Tryz.func127, Tryz.ntmps127
  go_wp2_with fail
  refine (implHF_any s m o h 0 _ HK.out).mono ?_
  rintro e w1 ⟨rfl, hb⟩
  have HB1 : Hid (Below w.heap.size w w1) := thru1 (Below.refl _ _) hb
  have z1 : w.heap.size + 1 ≤ w1.heap.size := by have := hb.size; simp at this; omega
  have H_1 := Lib.hid ((Blk.new_at (w.heap.size) (by simp)).below hb)
  clear hb
  have lH := H_1.out.1
  have cH0 := H_1.out.at 0 rfl
  go_wp2_with fail
  refine (isOut1 _ _ _ _ _ true (by simp) (.inr ⟨rfl, H0.out⟩)).mono ?_
  rintro e w2 ⟨rfl, hb⟩
  have HB2 : Hid (Below w.heap.size w w2) := thru1 HB1.out hb
  have z2 : w1.heap.size + 1 ≤ w2.heap.size := by have := hb.size; simp at this; omega
  have H_2 := Lib.hid ((H_1.out.alloc _).below hb)
  clear hb lH cH0 H_1 HB1
  go_wp2
  go_ret
  exact ⟨rfl, HB2.out⟩

set_option maxRecDepth 100000 in
set_option maxHeartbeats 1600000 in
theorem implIP_in (s m o h i : Int) (w : World) (hk : HOk s m o h) (h0 : 0 ≤ i ∧ i ≤ s - 1) :
    Calls Tryz.prog 127 #[.agg #[.int .i64 s, .int .i64 m, .int .i64 o, .int .i64 h], .int .i64 i] w (RetBool w (m / P2 i % 2 == 1)) := by
  obtain ⟨q1, q2⟩ := hk.1
  have H0 := Lib.hid h0
  have hk' : IsHF s m o h 0 := .inl ⟨hk, rfl⟩
  have HK := Lib.hid hk'
  clear hk'
  obtain ⟨q3, q4⟩ := h0
  have q5 := hk.2.1.1
  have hmin : min i.toNat 64 = i.toNat := by omega
  have hpow : (2 : Int) ^ i.toNat = P2 i := rfl
  have hbit : bits .and .i64 (m / P2 i) 1 = m / P2 i % 2 := bits_and_1 _
  clear hk
  go_enter Tryz.func127, Tryz.ntmps127
  go_wp2_with fail
  refine (implHF_any s m o h 0 _ HK.out).mono ?_
  rintro e w1 ⟨rfl, hb⟩
  have HB1 : Hid (Below w.heap.size w w1) := thru1 (Below.refl _ _) hb
  have z1 : w.heap.size + 1 ≤ w1.heap.size := by have := hb.size; simp at this; omega
  have H_1 := Lib.hid ((Blk.new_at (w.heap.size) (by simp)).below hb)
  clear hb
  have lH := H_1.out.1
  have cH0 := H_1.out.at 0 rfl
  have cH1 := H_1.out.at 1 rfl
  go_wp2_with fail
  refine (isOut1 _ _ _ _ _ false (by simp) (.inl ⟨rfl, H0.out⟩)).mono ?_
  rintro e w2 ⟨rfl, hb⟩
  have HB2 : Hid (Below w.heap.size w w2) := thru1 HB1.out hb
  have z2 : w1.heap.size + 1 ≤ w2.heap.size := by have := hb.size; simp at this; omega
  have H_2 := Lib.hid ((H_1.out.alloc _).below hb)
  clear hb lH cH0 cH1 H_1 HB1
  have lH := H_2.out.1
  have cH0 := H_2.out.at 0 rfl
  have cH1 := H_2.out.at 1 rfl
  go_wp2
  go_ret
  exact ⟨rfl, HB2.out⟩

theorem implIP_any (s m o h i : Int) (r : Bool) (w : World) (hk : IsIP s m o h i r) : Calls Tryz.prog 127 #[.agg #[.int .i64 s, .int .i64 m, .int .i64 o, .int .i64 h], .int .i64 i] w (RetBool w r) := by
  rcases hk with ⟨⟨h1, h2⟩, rfl⟩ | ⟨h1, rfl⟩
  · exact implIP_in s m o h i w h1 h2
  · by_cases x : HOk s m o h
    · exact implIP_out s m o h i w x (fun y => h1 ⟨x, y⟩)
    · exact implIP_bad s m o h i w x
end Go.Proofs.YtnpklnpicelcmaaGreat

namespace Go.Proofs.YtnpklnpicelcmaaGreat
open Go.RowKit
set_option linter.unusedVariables false

/-- Two numbers in a row. -/
def two (a b : Int) : Nat → Int := fun i => if i = 0 then a else b

/-- What PackHead answers: the code, how many words, the words. -/
def IsPH (s m o h c : Int) (n : Nat) (f : Nat → Int) : Prop :=
  (HOk s m o h ∧ c = 0 ∧ n = 2 ∧ f = two (1 + 2 * (s + 16 * (m + 4096 * o))) h) ∨ (¬ HOk s m o h ∧ c = 3 ∧ n = 0 ∧ f = fun _ => 0)

/-- A code and a row of the call's own. -/
def RetIR (W : World) (c : Int) (n : Nat) (f : Nat → Int) (e : Ending) (w' : World) : Prop :=
  ∃ a cap, e = .returned (.agg #[.int .i64 c, .slice a n cap]) ∧ Own w' W.heap.size a n f ∧ Below W.heap.size W w'

theorem own_two {W w' : World} {b : Nat} {x y : Int} (hB : Blk w' b [.int .i64 x, .int .i64 y]) (hb : W.heap.size ≤ b) : Own w' W.heap.size (some ⟨b, 0, none⟩) 2 (two x y) := by
  refine .inr ⟨b, 0, rfl, hb, hB.1, fun i hi => ?_⟩
  rcases (by omega : i = 0 ∨ i = 1) with rfl | rfl
  · exact ⟨hB.at 0 rfl, hB.free 0 rfl⟩
  · exact ⟨hB.at 1 rfl, hB.free 1 rfl⟩

set_option maxRecDepth 100000 in
set_option maxHeartbeats 800000 in
theorem implPH_no (s m o h : Int) (w : World) (hk : ¬ HOk s m o h) :
    Calls Tryz.prog 54 #[.agg #[.int .i64 s, .int .i64 m, .int .i64 o, .int .i64 h]] w (RetIR w 3 0 (fun _ => 0)) := by
  have hk' : IsHF s m o h 3 := .inr ⟨hk, rfl⟩
  have HK := Lib.hid hk'
  clear hk'
  go_enter Tryz.func54, Tryz.ntmps54
  go_wp2_with fail
  refine (implHF_any s m o h 3 _ HK.out).mono ?_
  rintro e w1 ⟨rfl, hb⟩
  have HB1 : Hid (Below w.heap.size w w1) := thru2 (Below.refl _ _) hb
  have z1 : w.heap.size + 2 ≤ w1.heap.size := by have := hb.size; simp at this; omega
  have H_1 := Lib.hid (((Blk.new_at (w.heap.size) (by simp)).alloc _).below hb)
  have R_1 := Lib.hid ((Blk.new_at (w.heap.size + 1) (by simp)).below hb)
  clear hb
  have lR := R_1.out.1
  have cR0 := R_1.out.at 0 rfl
  have cR1 := R_1.out.at 1 rfl
  have fR0 := R_1.out.free 0 rfl
  have fR1 := R_1.out.free 1 rfl
  go_wp2
  have hz := HB1.out.size
  refine bodyPost_ret (v := .agg #[.int .i64 3, .slice none 0 0]) (by simp [results, Tryz.results54, go_sem, cR0, cR1]) rfl ⟨none, 0, rfl, .inl rfl, ?_⟩
  repeat (first | (with_reducible refine Below.setCell ?_ (by (try simp); (try omega)) _) | (with_reducible refine Below.alloc ?_ (by (try simp); (try omega)) _))
  exact HB1.out

set_option maxRecDepth 100000 in
set_option maxHeartbeats 1600000 in
theorem implPH_yes (s m o h : Int) (w : World) (hk : HOk s m o h) :
    Calls Tryz.prog 54 #[.agg #[.int .i64 s, .int .i64 m, .int .i64 o, .int .i64 h]] w (RetIR w 0 2 (two (1 + 2 * (s + 16 * (m + 4096 * o))) h)) := by
  have hk' : IsHF s m o h 0 := .inl ⟨hk, rfl⟩
  obtain ⟨⟨q1, q2⟩, ⟨q3, q4⟩, ⟨q5, q6⟩, q7, q8⟩ := hk
  have q9 := P2_le q2
  have hpk := pack_bits s m o ⟨q1, q2⟩ ⟨q3, by omega⟩ ⟨q5, q6⟩
  have q4' : m ≤ 4095 := by omega
  clear q4 q9
  have HK := Lib.hid hk'
  clear hk'
  go_enter Tryz.func54, Tryz.ntmps54
  go_wp2_with fail
  refine (implHF_any s m o h 0 _ HK.out).mono ?_
  rintro e w1 ⟨rfl, hb⟩
  have HB1 : Hid (Below w.heap.size w w1) := thru2 (Below.refl _ _) hb
  have z1 : w.heap.size + 2 ≤ w1.heap.size := by have := hb.size; simp at this; omega
  have H_1 := Lib.hid (((Blk.new_at (w.heap.size) (by simp)).alloc _).below hb)
  have R_1 := Lib.hid ((Blk.new_at (w.heap.size + 1) (by simp)).below hb)
  clear hb
  have lR := R_1.out.1
  have cR0 := R_1.out.at 0 rfl
  have cR1 := R_1.out.at 1 rfl
  have lH := H_1.out.1
  have cH0 := H_1.out.at 0 rfl
  have cH1 := H_1.out.at 1 rfl
  have cH2 := H_1.out.at 2 rfl
  have cH3 := H_1.out.at 3 rfl
  have fR0 := R_1.out.free 0 rfl
  have fR1 := R_1.out.free 1 rfl
  go_wp2
  have hz := HB1.out.size
  refine bodyPost_ret (v := .agg #[.int .i64 0, .slice (some ⟨w1.heap.size, 0, none⟩) 2 2]) (by simp [results, Tryz.results54, go_sem, cR0, cR1, lR]) rfl ⟨_, _, rfl, own_two (Blk.new_at (w1.heap.size) (by simp)) (by omega), ?_⟩
  repeat (first | (with_reducible refine Below.setCell ?_ (by (try simp); (try omega)) _) | (with_reducible refine Below.alloc ?_ (by (try simp); (try omega)) _))
  exact HB1.out

theorem implPH_any (s m o h c : Int) (n : Nat) (f : Nat → Int) (w : World) (hk : IsPH s m o h c n f) : Calls Tryz.prog 54 #[.agg #[.int .i64 s, .int .i64 m, .int .i64 o, .int .i64 h]] w (RetIR w c n f) := by
  rcases hk with ⟨h1, rfl, rfl, rfl⟩ | ⟨h1, rfl, rfl, rfl⟩
  · exact implPH_yes s m o h w h1
  · exact implPH_no s m o h w h1
end Go.Proofs.YtnpklnpicelcmaaGreat

namespace Go.Proofs.YtnpklnpicelcmaaGreat
open Go.RowKit
set_option linter.unusedVariables false

/-- Two words are those of a head. -/
def ROk (a b : Int) : Prop := a % 2 = 1 ∧ HOk (a / 2 % 16) (a / 32 % 4096) (a / 131072) b

/-- A call panics with a value that is no nil; nothing that was there is turned. -/
def Panics (W : World) (e : Ending) (w' : World) : Prop := (∃ pv, e = .panicked [{ v := .iface 9 pv, recovered := false }]) ∧ Below W.heap.size W w'

set_option maxRecDepth 100000 in
set_option maxHeartbeats 1600000 in
theorem unpack_ok (a b : Int) (w : World) (hk : ROk a b) :
    Calls Tryz.prog 131 #[.int .i64 a, .int .i64 b] w (fun e w' => e = .returned (.agg #[.int .i64 (a / 2 % 16), .int .i64 (a / 32 % 4096), .int .i64 (a / 131072), .int .i64 b]) ∧ Below w.heap.size w w') := by
  have e1 := bits_and_15 (a / 2)
  have e2 := bits_and_4095 (a / 32)
  have e3 := bits_and_1 a
  have hd : (a % 2 == 0) = false := by rw [hk.1]; rfl
  have hk' : IsHF (a / 2 % 16) (a / 32 % 4096) (a / 131072) b 0 := .inl ⟨hk.2, rfl⟩
  clear hk
  have HK := Lib.hid hk'
  clear hk'
  go_enter Tryz.func131, Tryz.ntmps131
  go_wp2_with fail
  refine (implHF_any (a / 2 % 16) (a / 32 % 4096) (a / 131072) b 0 _ HK.out).mono ?_
  rintro e w1 ⟨rfl, hb⟩
  have HB1 : Hid (Below w.heap.size w w1) := thru2 (Below.refl _ _) hb
  have z1 : w.heap.size + 2 ≤ w1.heap.size := by have := hb.size; simp at this; omega
  have R_1 := Lib.hid (((Blk.new_at (w.heap.size) (by simp)).alloc _).below hb)
  have U_1 := Lib.hid ((Blk.new_at (w.heap.size + 1) (by simp)).below hb)
  clear hb
  have lR := R_1.out.1
  have cR0 := R_1.out.at 0 rfl
  have cR1 := R_1.out.at 1 rfl
  have cR2 := R_1.out.at 2 rfl
  have cR3 := R_1.out.at 3 rfl
  have lU := U_1.out.1
  have cU0 := U_1.out.at 0 rfl
  have cU1 := U_1.out.at 1 rfl
  have cU2 := U_1.out.at 2 rfl
  have cU3 := U_1.out.at 3 rfl
  have fR0 := R_1.out.free 0 rfl
  have fR1 := R_1.out.free 1 rfl
  have fR2 := R_1.out.free 2 rfl
  have fR3 := R_1.out.free 3 rfl
  go_wp2
  have hz := HB1.out.size
  refine bodyPost_ret (v := .agg #[.int .i64 (a / 2 % 16), .int .i64 (a / 32 % 4096), .int .i64 (a / 131072), .int .i64 b]) (by simp [results, Tryz.results131, go_sem, cR0, cR1, cR2, cR3]) rfl ⟨rfl, ?_⟩
  repeat (first | (with_reducible refine Below.setCell ?_ (by (try simp); (try omega)) _) | (with_reducible refine Below.alloc ?_ (by (try simp); (try omega)) _))
  exact HB1.out

set_option maxRecDepth 100000 in
set_option maxHeartbeats 1600000 in
theorem unpack_bad (a b : Int) (w : World) (h1 : a % 2 = 1) (hk : ¬ HOk (a / 2 % 16) (a / 32 % 4096) (a / 131072) b) :
    Calls Tryz.prog 131 #[.int .i64 a, .int .i64 b] w (Panics w) := by
  have e1 := bits_and_15 (a / 2)
  have e2 := bits_and_4095 (a / 32)
  have e3 := bits_and_1 a
  have hd : (a % 2 == 0) = false := by rw [h1]; rfl
  have hk' : IsHF (a / 2 % 16) (a / 32 % 4096) (a / 131072) b 3 := .inr ⟨hk, rfl⟩
  clear hk
  have HK := Lib.hid hk'
  clear hk'
  go_enter Tryz.func131, Tryz.ntmps131
  go_wp2_with fail
  refine (implHF_any (a / 2 % 16) (a / 32 % 4096) (a / 131072) b 3 _ HK.out).mono ?_
  rintro e w1 ⟨rfl, hb⟩
  have HB1 : Hid (Below w.heap.size w w1) := thru2 (Below.refl _ _) hb
  have z1 : w.heap.size + 2 ≤ w1.heap.size := by have := hb.size; simp at this; omega
  have R_1 := Lib.hid (((Blk.new_at (w.heap.size) (by simp)).alloc _).below hb)
  have U_1 := Lib.hid ((Blk.new_at (w.heap.size + 1) (by simp)).below hb)
  clear hb
  go_wp2
  exact ⟨rfl, ⟨_, rfl⟩, HB1.out⟩

set_option maxRecDepth 100000 in
set_option maxHeartbeats 1600000 in
theorem unpack_even (a b : Int) (w : World) (h1 : a % 2 = 0) :
    Calls Tryz.prog 131 #[.int .i64 a, .int .i64 b] w (Panics w) := by
  have e1 := bits_and_15 (a / 2)
  have e2 := bits_and_4095 (a / 32)
  have e3 := bits_and_1 a
  have hd : (a % 2 == 0) = true := by rw [h1]; rfl
  go_enter Tryz.func131, Tryz.ntmps131
  go_wp2
  exact ⟨rfl, ⟨_, rfl⟩, ((Below.refl _ _).alloc (Nat.le_refl _) _).alloc (by simp) _⟩

theorem unpack_no (a b : Int) (w : World) (hk : ¬ ROk a b) : Calls Tryz.prog 131 #[.int .i64 a, .int .i64 b] w (Panics w) := by
  by_cases h1 : a % 2 = 1
  · exact unpack_bad a b w h1 (fun x => hk ⟨h1, x⟩)
  · exact unpack_even a b w (by omega)
end Go.Proofs.YtnpklnpicelcmaaGreat

namespace Go.Proofs.YtnpklnpicelcmaaGreat
open Go.RowKit
set_option linter.unusedVariables false

/-- The five cells of a HeadResult. -/
def R5 (w : World) (b : Nat) (c s m o h : Int) : Prop := Blk w b [.int .i64 c, .int .i64 s, .int .i64 m, .int .i64 o, .int .i64 h]

theorem catch_panicking (b : Nat) (c s m o h : Int) (u : TypeId) (pv : Value) (older : List PanicEntry) (w : World) (hB : R5 w b c s m o h) :
    CallsD Tryz.prog 130 #[.pointer (some ⟨b, 0, none⟩)] (.panicking ({ v := .iface u pv, recovered := false } :: older)) w fun e u' w' =>
      e = .returned (.tuple #[]) ∧ u' = .panicking ({ v := .iface u pv, recovered := true } :: older) ∧ R5 w' b 1 0 0 0 0 ∧ Below b w w' := by
  have c0 := hB.at 0 rfl; have c1 := hB.at 1 rfl; have c2 := hB.at 2 rfl; have c3 := hB.at 3 rfl; have c4 := hB.at 4 rfl
  have f0 := hB.free 0 rfl; have f1 := hB.free 1 rfl; have f2 := hB.free 2 rfl; have f3 := hB.free 3 rfl; have f4 := hB.free 4 rfl
  have HB : Hid (Blk w b [.int .i64 c, .int .i64 s, .int .i64 m, .int .i64 o, .int .i64 h]) := hB
  clear hB
  refine callsD_of_wpS Tryz.func130 rfl fun c₀ cs hu => ?_
  apply wpS_seq
  apply wpS_region
  simp [wpOpsS, go_sem, recoverD, hu, Tryz.ntmps130, Exit.thenS]
  refine wpS_cond (t := true) (by simp [Act.eval, Array.replicate]) ?_
  simp only [if_true]
  apply wpS_region
  simp [wpOpsS, go_sem, c0, c1, c2, c3, c4, f0, f1, f2, f3, f4, bodyPostS, results, Tryz.results130]
  exact ⟨((((HB.out.set 0 (by simp) _).set 1 (by simp) _).set 2 (by simp) _).set 3 (by simp) _).set 4 (by simp) _,
    Below.setCell (Below.setCell (Below.setCell (Below.setCell (Below.setCell (Below.refl b w) (by simp) _) (by simp) _) (by simp) _) (by simp) _) (by simp) _⟩

theorem catch_idle (p : Addr) (w : World) :
    CallsD Tryz.prog 130 #[.pointer (some p)] .returning w fun e u' w' => e = .returned (.tuple #[]) ∧ u' = .returning ∧ w' = w := by
  refine callsD_of_wpS Tryz.func130 rfl fun c₀ cs hu => ?_
  apply wpS_seq
  apply wpS_region
  simp [wpOpsS, go_sem, recoverD, hu, Tryz.ntmps130, Exit.thenS]
  refine wpS_cond (t := false) (by simp [Act.eval, Array.replicate]) ?_
  simp only [Bool.false_eq_true, if_false]
  refine wpS_of_wp (wp_skip ?_)
  cases c₀
  simp_all [bodyPostS, results, Tryz.results130]

/-- A HeadResult comes back. -/
def RetHR (W : World) (c s m o h : Int) (e : Ending) (w' : World) : Prop := e = .returned (.agg #[.int .i64 c, .int .i64 s, .int .i64 m, .int .i64 o, .int .i64 h]) ∧ Below W.heap.size W w'

set_option maxRecDepth 100000 in
set_option maxHeartbeats 800000 in
theorem implRH_many (a : Option Addr) (n c : Nat) (w : World) (hn : n ≤ 1048576) (h2 : ¬ n = 2) :
    Calls Tryz.prog 129 #[.slice a n c] w (RetHR w 2 0 0 0 0) := by
  have hd : ((n : Int) != 2) = true := by simp; omega
  go_enter_defers Tryz.func129, Tryz.ntmps129
  go_wp2
  exact ⟨.agg #[.int .i64 2, .int .i64 0, .int .i64 0, .int .i64 0, .int .i64 0], by simp [results, Tryz.results129, go_sem], rfl, (Below.refl _ _).alloc (Nat.le_refl _) _⟩

set_option maxRecDepth 100000 in
set_option maxHeartbeats 800000 in
theorem implRH_ok (a : Option Addr) (c : Nat) (f : Nat → Int) (w : World) (hs : Src w a 2 f) (hk : ROk (f 0) (f 1)) :
    Calls Tryz.prog 129 #[.slice a 2 c] w (RetHR w 0 (f 0 / 2 % 16) (f 0 / 32 % 4096) (f 0 / 131072) (f 1)) := by
  have hmf : ∀ (fn : Fn) (first cap : Array Value) (w : World), (Instr.makeFunc fn first cap).run Tryz.prog w = .ok (.func fn first cap) w := fun _ _ _ _ => rfl
  obtain ⟨ab, ao, rfl, hab, hac⟩ := src_some hs (by omega)
  have c0 := hac 0 (by omega)
  have c1 := hac 1 (by omega)
  simp only [Nat.add_zero] at c0
  have HK := Lib.hid hk
  clear hac hk
  have hs' := hs
  clear hs
  have HS := Lib.hid hs'
  clear hs'
  go_enter_defers Tryz.func129, Tryz.ntmps129
  go_wp2_with fail
  have HB0 : Hid (Below w.heap.size w (w.alloc (.cells #[.int .i64 0, .int .i64 0, .int .i64 0, .int .i64 0, .int .i64 0] 198))) := (Below.refl _ _).alloc (Nat.le_refl _) _
  have HR0 : Hid (Blk (w.alloc (.cells #[.int .i64 0, .int .i64 0, .int .i64 0, .int .i64 0, .int .i64 0] 198)) w.heap.size [.int .i64 0, .int .i64 0, .int .i64 0, .int .i64 0, .int .i64 0]) := Blk.new_at (w.heap.size) rfl
  have d0 := (HB0.out.cell (p := ⟨ab, ao, none⟩) hab).trans c0
  have d1 := (HB0.out.cell (p := ⟨ab, ao + 1, none⟩) hab).trans c1
  clear c0 c1
  generalize w.alloc (.cells #[.int .i64 0, .int .i64 0, .int .i64 0, .int .i64 0, .int .i64 0] 198) = w0 at *
  go_still_tail 6, (by kernel_rfl)
  change wpList _ _ _ _ _ w0.drew
  have HB1 := Lib.hid HB0.out.drew
  have HR1 := Lib.hid HR0.out.drew
  clear d0 d1 HB0 HR0
  generalize w0.drew = w1 at *
  go_wp2_with fail
  refine (unpack_ok (f 0) (f 1) _ HK.out).mono ?_
  rintro e w2 ⟨rfl, hb⟩
  have HB2 := Lib.hid (thru0 HB1.out hb)
  have R := Lib.hid (HR1.out.below hb)
  clear hb HB1 HR1
  have hz := HB2.out.size
  have lR := R.out.1
  have cR0 := R.out.at 0 rfl; have cR1 := R.out.at 1 rfl; have cR2 := R.out.at 2 rfl; have cR3 := R.out.at 3 rfl; have cR4 := R.out.at 4 rfl
  have fR0 := R.out.free 0 rfl; have fR1 := R.out.free 1 rfl; have fR2 := R.out.free 2 rfl; have fR3 := R.out.free 3 rfl; have fR4 := R.out.free 4 rfl
  go_wp2
  refine leaves_cons (f := 130) (args := #[.pointer (some ⟨w.heap.size, 0, none⟩)]) (by simp) (by simp [go_sem]) ?_
  refine (catch_idle ⟨w.heap.size, 0, none⟩ _).mono ?_
  rintro e u' w'' ⟨rfl, rfl, rfl⟩
  refine ⟨.agg #[.int .i64 0, .int .i64 (f 0 / 2 % 16), .int .i64 (f 0 / 32 % 4096), .int .i64 (f 0 / 131072), .int .i64 (f 1)], by simp [results, Tryz.results129, go_sem, cR0, cR1, cR2, cR3, cR4], rfl, ?_⟩
  repeat (with_reducible refine Below.setCell ?_ (by (try simp); (try omega)) _)
  exact HB2.out

set_option maxRecDepth 100000 in
set_option maxHeartbeats 800000 in
theorem implRH_bad (a : Option Addr) (c : Nat) (f : Nat → Int) (w : World) (hs : Src w a 2 f) (hk : ¬ ROk (f 0) (f 1)) :
    Calls Tryz.prog 129 #[.slice a 2 c] w (RetHR w 1 0 0 0 0) := by
  have hmf : ∀ (fn : Fn) (first cap : Array Value) (w : World), (Instr.makeFunc fn first cap).run Tryz.prog w = .ok (.func fn first cap) w := fun _ _ _ _ => rfl
  obtain ⟨ab, ao, rfl, hab, hac⟩ := src_some hs (by omega)
  have c0 := hac 0 (by omega)
  have c1 := hac 1 (by omega)
  simp only [Nat.add_zero] at c0
  have HK := Lib.hid hk
  clear hac hk
  have hs' := hs
  clear hs
  have HS := Lib.hid hs'
  clear hs'
  go_enter_defers Tryz.func129, Tryz.ntmps129
  go_wp2_with fail
  have HB0 : Hid (Below w.heap.size w (w.alloc (.cells #[.int .i64 0, .int .i64 0, .int .i64 0, .int .i64 0, .int .i64 0] 198))) := (Below.refl _ _).alloc (Nat.le_refl _) _
  have HR0 : Hid (Blk (w.alloc (.cells #[.int .i64 0, .int .i64 0, .int .i64 0, .int .i64 0, .int .i64 0] 198)) w.heap.size [.int .i64 0, .int .i64 0, .int .i64 0, .int .i64 0, .int .i64 0]) := Blk.new_at (w.heap.size) rfl
  have d0 := (HB0.out.cell (p := ⟨ab, ao, none⟩) hab).trans c0
  have d1 := (HB0.out.cell (p := ⟨ab, ao + 1, none⟩) hab).trans c1
  clear c0 c1
  generalize w.alloc (.cells #[.int .i64 0, .int .i64 0, .int .i64 0, .int .i64 0, .int .i64 0] 198) = w0 at *
  go_still_tail 6, (by kernel_rfl)
  change wpList _ _ _ _ _ w0.drew
  have HB1 := Lib.hid HB0.out.drew
  have HR1 := Lib.hid HR0.out.drew
  clear d0 d1 HB0 HR0
  generalize w0.drew = w1 at *
  go_wp2_with fail
  refine (unpack_no (f 0) (f 1) _ HK.out).mono ?_
  rintro e w2 ⟨⟨pv, rfl⟩, hb⟩
  have HB2 := Lib.hid (thru0 HB1.out hb)
  have R := Lib.hid (HR1.out.below hb)
  clear hb HB1 HR1
  go_wp2
  refine leaves_cons (f := 130) (args := #[.pointer (some ⟨w.heap.size, 0, none⟩)]) (by simp) (by simp [go_sem]) ?_
  refine (catch_panicking w.heap.size 0 0 0 0 0 9 pv [] _ R.out).mono ?_
  rintro e u' w'' ⟨rfl, rfl, hr, hb⟩
  have cR0 := hr.at 0 rfl; have cR1 := hr.at 1 rfl; have cR2 := hr.at 2 rfl; have cR3 := hr.at 3 rfl; have cR4 := hr.at 4 rfl
  exact ⟨.agg #[.int .i64 1, .int .i64 0, .int .i64 0, .int .i64 0, .int .i64 0], by simp [results, Tryz.results129, go_sem, cR0, cR1, cR2, cR3, cR4], rfl, HB2.out.trans hb⟩
end Go.Proofs.YtnpklnpicelcmaaGreat

namespace Go.Proofs.YtnpklnpicelcmaaGreat
open Go.RowKit
set_option linter.unusedVariables false

/-- What l2Read answers. -/
def RetRead (W : World) (a b : Int) (r : Bool) (e : Ending) (w' : World) : Prop :=
  ∃ s m o h, e = .returned (.tuple #[.agg #[.int .i64 s, .int .i64 m, .int .i64 o, .int .i64 h], .bool r]) ∧ Below W.heap.size W w' ∧ (r = true → s = a / 2 % 16 ∧ m = a / 32 % 4096 ∧ o = a / 131072 ∧ h = b)

set_option maxRecDepth 100000 in
set_option maxHeartbeats 800000 in
theorem l2Read_small (a b : Int) (w : World) (h0 : a < 1) :
    Calls Tryz.prog 72 #[.int .i64 a, .int .i64 b] w (RetRead w a b false) := by
  go_enter Tryz.func72, Tryz.ntmps72
  go_wp2
  exact bodyPost_ret (v := .tuple #[.agg #[.int .i64 0, .int .i64 0, .int .i64 0, .int .i64 0], .bool false]) (by simp [results, Tryz.results72, go_sem]) rfl ⟨0, 0, 0, 0, rfl, (Below.refl _ _).alloc (Nat.le_refl _) _, fun h => by cases h⟩

set_option maxRecDepth 100000 in
set_option maxHeartbeats 800000 in
theorem l2Read_even (a b : Int) (w : World) (h0 : ¬ a < 1) (h1 : a % 2 = 0) :
    Calls Tryz.prog 72 #[.int .i64 a, .int .i64 b] w (RetRead w a b false) := by
  have ht : a.tmod 2 = a % 2 := Int.tmod_eq_emod_of_nonneg (by omega)
  have hd : (a % 2 == 0) = true := by rw [h1]; rfl
  go_enter Tryz.func72, Tryz.ntmps72
  go_wp2
  exact bodyPost_ret (v := .tuple #[.agg #[.int .i64 0, .int .i64 0, .int .i64 0, .int .i64 0], .bool false]) (by simp [results, Tryz.results72, go_sem]) rfl ⟨0, 0, 0, 0, rfl, (Below.refl _ _).alloc (Nat.le_refl _) _, fun h => by cases h⟩

set_option maxRecDepth 100000 in
set_option maxHeartbeats 3200000 in
theorem l2Read_true (a b : Int) (w : World) (h0 : ¬ a < 1) (h1 : ¬ a % 2 = 0) (hb64 : a ≤ 9223372036854775807) (hk : HOk (a / 2 % 16) (a / 32 % 4096) (a / 131072) b) :
    Calls Tryz.prog 72 #[.int .i64 a, .int .i64 b] w (RetRead w a b true) := by
  have ht : a.tmod 2 = a % 2 := Int.tmod_eq_emod_of_nonneg (by omega)
  have hd : (a % 2 == 0) = false := by simpa using h1
  have hq : a.tdiv 2 = a / 2 := Int.tdiv_eq_ediv_of_nonneg (by omega)
  have g0 : 0 ≤ a / 2 := by omega
  have e1 : (a / 2).tmod 16 = a / 2 % 16 := Int.tmod_eq_emod_of_nonneg (by omega)
  have e2 : (a / 2).tdiv 16 = a / 32 := by rw [Int.tdiv_eq_ediv_of_nonneg (by omega)]; omega
  have e3 : (a / 32).tmod 4096 = a / 32 % 4096 := Int.tmod_eq_emod_of_nonneg (by omega)
  have e4 : (a / 2).tdiv 65536 = a / 131072 := by rw [Int.tdiv_eq_ediv_of_nonneg (by omega)]; omega
  have hk' : IsHF (a / 2 % 16) (a / 32 % 4096) (a / 131072) b 0 := .inl ⟨hk, rfl⟩
  clear hk
  have HK := Lib.hid hk'
  clear hk'
  go_enter Tryz.func72, Tryz.ntmps72
  go_upto_region 5 with (fail)
  have HB0 : Hid (Below w.heap.size w ((w.alloc (.cells #[.int .i64 0, .int .i64 0, .int .i64 0, .int .i64 0] 100)).alloc (.cells #[.int .i64 (a / 2 % 16), .int .i64 (a / 32 % 4096), .int .i64 (a / 131072), .int .i64 b] 100))) := ((Below.refl _ _).alloc (Nat.le_refl _) _).alloc (by simp) _
  have R0 : Hid (Blk ((w.alloc (.cells #[.int .i64 0, .int .i64 0, .int .i64 0, .int .i64 0] 100)).alloc (.cells #[.int .i64 (a / 2 % 16), .int .i64 (a / 32 % 4096), .int .i64 (a / 131072), .int .i64 b] 100)) w.heap.size [.int .i64 0, .int .i64 0, .int .i64 0, .int .i64 0]) := (Blk.new_at (w.heap.size) rfl).alloc _
  have U0 : Hid (Blk ((w.alloc (.cells #[.int .i64 0, .int .i64 0, .int .i64 0, .int .i64 0] 100)).alloc (.cells #[.int .i64 (a / 2 % 16), .int .i64 (a / 32 % 4096), .int .i64 (a / 131072), .int .i64 b] 100)) (w.heap.size + 1) [.int .i64 (a / 2 % 16), .int .i64 (a / 32 % 4096), .int .i64 (a / 131072), .int .i64 b]) := Blk.new_at (w.heap.size + 1) (by simp)
  generalize (w.alloc (.cells #[.int .i64 0, .int .i64 0, .int .i64 0, .int .i64 0] 100)).alloc (.cells #[.int .i64 (a / 2 % 16), .int .i64 (a / 32 % 4096), .int .i64 (a / 131072), .int .i64 b] 100) = w0 at *
  have HBd := Lib.hid HB0.out.drew
  have Rd := Lib.hid R0.out.drew
  have Ud := Lib.hid U0.out.drew
  clear ht hd hq e1 e2 e3 e4 hb64
  go_region_held3 (fun w' => w'.cell? ⟨w.heap.size + 1, 0, none⟩ = some (.int .i64 (a / 2 % 16)) ∧ w'.cell? ⟨w.heap.size + 1, 1, none⟩ = some (.int .i64 (a / 32 % 4096)) ∧ w'.cell? ⟨w.heap.size + 1, 2, none⟩ = some (.int .i64 (a / 131072)) ∧ w'.cell? ⟨w.heap.size + 1, 3, none⟩ = some (.int .i64 b))
    (first | (with_reducible exact ⟨(U0.out).at 0 rfl, (U0.out).at 1 rfl, (U0.out).at 2 rfl, (U0.out).at 3 rfl⟩) | (with_reducible exact ⟨(Ud.out).at 0 rfl, (Ud.out).at 1 rfl, (Ud.out).at 2 rfl, (Ud.out).at 3 rfl⟩) | (with_reducible exact ⟨(U1.out).at 0 rfl, (U1.out).at 1 rfl, (U1.out).at 2 rfl, (U1.out).at 3 rfl⟩) | (exact ⟨(((((U1.out.other (by (try simp); (try omega)) _).other (by (try simp); (try omega)) _).other (by (try simp); (try omega)) _).other (by (try simp); (try omega)) _)).at 0 rfl, (((((U1.out.other (by (try simp); (try omega)) _).other (by (try simp); (try omega)) _).other (by (try simp); (try omega)) _).other (by (try simp); (try omega)) _)).at 1 rfl, (((((U1.out.other (by (try simp); (try omega)) _).other (by (try simp); (try omega)) _).other (by (try simp); (try omega)) _).other (by (try simp); (try omega)) _)).at 2 rfl, (((((U1.out.other (by (try simp); (try omega)) _).other (by (try simp); (try omega)) _).other (by (try simp); (try omega)) _).other (by (try simp); (try omega)) _)).at 3 rfl⟩))
    (first | (go_at_call 104; refine (specHF_any (a / 2 % 16) (a / 32 % 4096) (a / 131072) b 0 _ HK.out).mono ?_; rintro e w1 ⟨rfl, hb⟩; have HB1 := Lib.hid (thru0 HBd.out hb); have R1 := Lib.hid (Rd.out.below hb); have U1 := Lib.hid (Ud.out.below hb); have hz := HB1.out.size; have lR := R1.out.1; clear hb; have cR0 := R1.out.at 0 rfl; have fR0 := R1.out.free 0 rfl; have cR1 := R1.out.at 1 rfl; have fR1 := R1.out.free 1 rfl; have cR2 := R1.out.at 2 rfl; have fR2 := R1.out.free 2 rfl; have cR3 := R1.out.at 3 rfl; have fR3 := R1.out.free 3 rfl))
  go_wp2
  refine bodyPost_ret (v := .tuple #[.agg #[.int .i64 (a / 2 % 16), .int .i64 (a / 32 % 4096), .int .i64 (a / 131072), .int .i64 b], .bool true]) (by simp [results, Tryz.results72, go_sem, cR0, cR1, cR2, cR3]) rfl ⟨_, _, _, _, rfl, ?_, fun _ => ⟨rfl, rfl, rfl, rfl⟩⟩
  repeat (with_reducible refine Below.setCell ?_ (by (try simp); (try omega)) _)
  exact HB1.out

set_option maxRecDepth 100000 in
set_option maxHeartbeats 3200000 in
theorem l2Read_false (a b : Int) (w : World) (h0 : ¬ a < 1) (h1 : ¬ a % 2 = 0) (hb64 : a ≤ 9223372036854775807) (hk : ¬ HOk (a / 2 % 16) (a / 32 % 4096) (a / 131072) b) :
    Calls Tryz.prog 72 #[.int .i64 a, .int .i64 b] w (RetRead w a b false) := by
  have ht : a.tmod 2 = a % 2 := Int.tmod_eq_emod_of_nonneg (by omega)
  have hd : (a % 2 == 0) = false := by simpa using h1
  have hq : a.tdiv 2 = a / 2 := Int.tdiv_eq_ediv_of_nonneg (by omega)
  have g0 : 0 ≤ a / 2 := by omega
  have e1 : (a / 2).tmod 16 = a / 2 % 16 := Int.tmod_eq_emod_of_nonneg (by omega)
  have e2 : (a / 2).tdiv 16 = a / 32 := by rw [Int.tdiv_eq_ediv_of_nonneg (by omega)]; omega
  have e3 : (a / 32).tmod 4096 = a / 32 % 4096 := Int.tmod_eq_emod_of_nonneg (by omega)
  have e4 : (a / 2).tdiv 65536 = a / 131072 := by rw [Int.tdiv_eq_ediv_of_nonneg (by omega)]; omega
  have hk' : IsHF (a / 2 % 16) (a / 32 % 4096) (a / 131072) b 3 := .inr ⟨hk, rfl⟩
  clear hk
  have HK := Lib.hid hk'
  clear hk'
  go_enter Tryz.func72, Tryz.ntmps72
  go_upto_region 5 with (fail)
  have HB0 : Hid (Below w.heap.size w ((w.alloc (.cells #[.int .i64 0, .int .i64 0, .int .i64 0, .int .i64 0] 100)).alloc (.cells #[.int .i64 (a / 2 % 16), .int .i64 (a / 32 % 4096), .int .i64 (a / 131072), .int .i64 b] 100))) := ((Below.refl _ _).alloc (Nat.le_refl _) _).alloc (by simp) _
  have R0 : Hid (Blk ((w.alloc (.cells #[.int .i64 0, .int .i64 0, .int .i64 0, .int .i64 0] 100)).alloc (.cells #[.int .i64 (a / 2 % 16), .int .i64 (a / 32 % 4096), .int .i64 (a / 131072), .int .i64 b] 100)) w.heap.size [.int .i64 0, .int .i64 0, .int .i64 0, .int .i64 0]) := (Blk.new_at (w.heap.size) rfl).alloc _
  have U0 : Hid (Blk ((w.alloc (.cells #[.int .i64 0, .int .i64 0, .int .i64 0, .int .i64 0] 100)).alloc (.cells #[.int .i64 (a / 2 % 16), .int .i64 (a / 32 % 4096), .int .i64 (a / 131072), .int .i64 b] 100)) (w.heap.size + 1) [.int .i64 (a / 2 % 16), .int .i64 (a / 32 % 4096), .int .i64 (a / 131072), .int .i64 b]) := Blk.new_at (w.heap.size + 1) (by simp)
  generalize (w.alloc (.cells #[.int .i64 0, .int .i64 0, .int .i64 0, .int .i64 0] 100)).alloc (.cells #[.int .i64 (a / 2 % 16), .int .i64 (a / 32 % 4096), .int .i64 (a / 131072), .int .i64 b] 100) = w0 at *
  have HBd := Lib.hid HB0.out.drew
  have Rd := Lib.hid R0.out.drew
  have Ud := Lib.hid U0.out.drew
  clear ht hd hq e1 e2 e3 e4 hb64
  go_region_held3 (fun w' => w'.cell? ⟨w.heap.size + 1, 0, none⟩ = some (.int .i64 (a / 2 % 16)) ∧ w'.cell? ⟨w.heap.size + 1, 1, none⟩ = some (.int .i64 (a / 32 % 4096)) ∧ w'.cell? ⟨w.heap.size + 1, 2, none⟩ = some (.int .i64 (a / 131072)) ∧ w'.cell? ⟨w.heap.size + 1, 3, none⟩ = some (.int .i64 b))
    (first | (with_reducible exact ⟨(U0.out).at 0 rfl, (U0.out).at 1 rfl, (U0.out).at 2 rfl, (U0.out).at 3 rfl⟩) | (with_reducible exact ⟨(Ud.out).at 0 rfl, (Ud.out).at 1 rfl, (Ud.out).at 2 rfl, (Ud.out).at 3 rfl⟩) | (with_reducible exact ⟨(U1.out).at 0 rfl, (U1.out).at 1 rfl, (U1.out).at 2 rfl, (U1.out).at 3 rfl⟩) | (exact ⟨(((((U1.out.other (by (try simp); (try omega)) _).other (by (try simp); (try omega)) _).other (by (try simp); (try omega)) _).other (by (try simp); (try omega)) _)).at 0 rfl, (((((U1.out.other (by (try simp); (try omega)) _).other (by (try simp); (try omega)) _).other (by (try simp); (try omega)) _).other (by (try simp); (try omega)) _)).at 1 rfl, (((((U1.out.other (by (try simp); (try omega)) _).other (by (try simp); (try omega)) _).other (by (try simp); (try omega)) _).other (by (try simp); (try omega)) _)).at 2 rfl, (((((U1.out.other (by (try simp); (try omega)) _).other (by (try simp); (try omega)) _).other (by (try simp); (try omega)) _).other (by (try simp); (try omega)) _)).at 3 rfl⟩))
    (first | (go_at_call 104; refine (specHF_any (a / 2 % 16) (a / 32 % 4096) (a / 131072) b 3 _ HK.out).mono ?_; rintro e w1 ⟨rfl, hb⟩; have HB1 := Lib.hid (thru0 HBd.out hb); have R1 := Lib.hid (Rd.out.below hb); have U1 := Lib.hid (Ud.out.below hb); have hz := HB1.out.size; have lR := R1.out.1; clear hb; have cR0 := R1.out.at 0 rfl; have fR0 := R1.out.free 0 rfl; have cR1 := R1.out.at 1 rfl; have fR1 := R1.out.free 1 rfl; have cR2 := R1.out.at 2 rfl; have fR2 := R1.out.free 2 rfl; have cR3 := R1.out.at 3 rfl; have fR3 := R1.out.free 3 rfl))
  go_wp2
  refine bodyPost_ret (v := .tuple #[.agg #[.int .i64 (a / 2 % 16), .int .i64 (a / 32 % 4096), .int .i64 (a / 131072), .int .i64 b], .bool false]) (by simp [results, Tryz.results72, go_sem, cR0, cR1, cR2, cR3]) rfl ⟨_, _, _, _, rfl, ?_, fun _ => ⟨rfl, rfl, rfl, rfl⟩⟩
  repeat (with_reducible refine Below.setCell ?_ (by (try simp); (try omega)) _)
  exact HB1.out

theorem l2Read_yes (a b : Int) (w : World) (hb64 : a ≤ 9223372036854775807) (hk : ROk a b) : Calls Tryz.prog 72 #[.int .i64 a, .int .i64 b] w (RetRead w a b true) := by
  obtain ⟨h1, h2⟩ := hk
  have h3 := h2.2.2.1.1
  exact l2Read_true a b w (by omega) (by omega) hb64 h2

theorem l2Read_no (a b : Int) (w : World) (hb64 : a ≤ 9223372036854775807) (hk : ¬ ROk a b) : Calls Tryz.prog 72 #[.int .i64 a, .int .i64 b] w (RetRead w a b false) := by
  by_cases h0 : a < 1
  · exact l2Read_small a b w h0
  · by_cases h1 : a % 2 = 0
    · exact l2Read_even a b w h0 h1
    · exact l2Read_false a b w h0 h1 hb64 (fun h => hk ⟨by omega, h⟩)
end Go.Proofs.YtnpklnpicelcmaaGreat

namespace Go.Proofs.YtnpklnpicelcmaaGreat
open Go.RowKit
set_option linter.unusedVariables false

theorem src_other {w : World} {ab ao n : Nat} {f : Nat → Int} (h : Src w (some ⟨ab, ao, none⟩) n f) {p : Addr} (hp : p.block ≠ ab) (u : Value) : Src (w.setCell p u) (some ⟨ab, ao, none⟩) n f :=
  h.keeps (keeps_setCell (Nat.le_refl p.block) (Nat.lt_succ_self _) u) (fun b off h => by simp only [Option.some.injEq, Addr.mk.injEq, and_true] at h; omega)

/-- What ReadHead answers. -/
def IsRH (n : Nat) (f : Nat → Int) (c s m o h : Int) : Prop :=
  (¬ n = 2 ∧ c = 2 ∧ s = 0 ∧ m = 0 ∧ o = 0 ∧ h = 0) ∨ (n = 2 ∧ ROk (f 0) (f 1) ∧ c = 0 ∧ s = f 0 / 2 % 16 ∧ m = f 0 / 32 % 4096 ∧ o = f 0 / 131072 ∧ h = f 1) ∨ (n = 2 ∧ ¬ ROk (f 0) (f 1) ∧ c = 1 ∧ s = 0 ∧ m = 0 ∧ o = 0 ∧ h = 0)

theorem implRH_any (a : Option Addr) (n cap : Nat) (f : Nat → Int) (c s m o h : Int) (w : World) (hs : Src w a n f) (hn : n ≤ 1048576) (hk : IsRH n f c s m o h) : Calls Tryz.prog 129 #[.slice a n cap] w (RetHR w c s m o h) := by
  rcases hk with ⟨h2, rfl, rfl, rfl, rfl, rfl⟩ | ⟨rfl, x, rfl, rfl, rfl, rfl, rfl⟩ | ⟨rfl, x, rfl, rfl, rfl, rfl, rfl⟩
  · exact implRH_many a n cap w hn h2
  · exact implRH_ok a cap f w hs x
  · exact implRH_bad a cap f w hs x
end Go.Proofs.YtnpklnpicelcmaaGreat

namespace Go.Proofs.YtnpklnpicelcmaaGreat
open Go.ChangeShapes Go.WideShapes Go.ChangeAt Go.RowKit Go.Joins
set_option linter.unusedVariables false
set_option maxRecDepth 100000

theorem Tryz.own : ownKnob Tryz.prog.godebug = none := by kernel_rfl

theorem Tryz.laidOut : laidOutB Tryz.prog = true := by kernel_rfl
end Go.Proofs.YtnpklnpicelcmaaGreat

namespace Go.Proofs.YtnpklnpicelcmaaGreat
open Go.RowKit
set_option linter.unusedVariables false
set_option maxRecDepth 100000

theorem i64_of_wf {x : Int} (h : (Lit.int .i64 x).wf = true) : I64 x := by
  simp only [Lit.wf, Bool.and_eq_true, decide_eq_true_eq] at h
  exact ⟨h.1, h.2⟩
end Go.Proofs.YtnpklnpicelcmaaGreat

namespace Go.Proofs.YtnpklnpicelcmaaGreat
open Go.RowKit
set_option linter.unusedVariables false

/-- An object as the model tells it: its place and its head. -/
structure Ob where
  at_ : Int
  s : Int
  m : Int
  o : Int
  h : Int

def szOf (f : Nat → Int) (a : Nat) : Nat := (f a / 2 % 16).toNat

def objAt (f : Nat → Int) (a : Nat) : Ob := ⟨(a : Int), f a / 2 % 16, f a / 32 % 4096, f a / 131072, f (a + 1)⟩

/-- There is an object at a place, that ends at e at the latest. -/
def Good (f : Nat → Int) (e a : Nat) : Prop := a + 2 ≤ e ∧ ROk (f a) (f (a + 1)) ∧ a + 2 + szOf f a ≤ e

instance (a b : Int) : Decidable (ROk a b) := by unfold ROk HOk; exact inferInstance

instance (f : Nat → Int) (e a : Nat) : Decidable (Good f e a) := by unfold Good; exact inferInstance

/-- The objects from a place on, up to e; none: something is no object. -/
def parse (f : Nat → Int) (e a : Nat) : Option (List Ob) :=
  if _h : a < e then
    if Good f e a then (parse f e (a + 2 + szOf f a)).map (objAt f a :: ·) else none
  else some []
termination_by e - a
decreasing_by omega

theorem parse_stop {f : Nat → Int} {e a : Nat} (h : ¬ a < e) : parse f e a = some [] := by rw [parse, dif_neg h]

theorem parse_bad {f : Nat → Int} {e a : Nat} (h : a < e) (hb : ¬ Good f e a) : parse f e a = none := by rw [parse, dif_pos h, if_neg hb]

theorem parse_good {f : Nat → Int} {e a : Nat} (h : a < e) (hb : Good f e a) : parse f e a = (parse f e (a + 2 + szOf f a)).map (objAt f a :: ·) := by
  rw [parse, dif_pos h, if_pos hb]

theorem good_size {f : Nat → Int} {e a : Nat} (hb : Good f e a) : 0 ≤ f a / 2 % 16 ∧ f a / 2 % 16 ≤ 12 ∧ ((szOf f a : Nat) : Int) = f a / 2 % 16 := by
  have h := hb.2.1.2.1
  refine ⟨h.1, h.2, ?_⟩
  unfold szOf; omega

/-- Some objects have been told: what is told in all. -/
theorem parse_step {f : Nat → Int} {e b a : Nat} {L : List Ob} (hp : parse f e b = (parse f e a).map (L ++ ·)) (h : a < e) (hb : Good f e a) :
    parse f e b = (parse f e (a + 2 + szOf f a)).map ((L ++ [objAt f a]) ++ ·) := by
  rw [hp, parse_good h hb, Option.map_map]
  congr 1
  funext l
  simp

/-- An object in memory: where its fields are. -/
structure OM where
  x : Ob
  g : Nat
  c : Nat

def OM.cells (t : OM) : List Value := [.int .i64 t.x.at_, .int .i64 t.x.s, .int .i64 t.x.m, .int .i64 t.x.o, .int .i64 t.x.h, .slice (some ⟨t.g, 0, none⟩) t.x.s.toNat t.c]

def rowCells (M : List OM) : List Value := M.flatMap OM.cells

theorem rowCells_snoc (M : List OM) (t : OM) : rowCells (M ++ [t]) = rowCells M ++ t.cells := by simp [rowCells]

/-- Each object's fields are a row of their own, in the order of the objects. -/
def Flds (w : World) (lo : Nat) (f : Nat → Int) (v : Value) (M : List OM) : Prop :=
  (∀ t ∈ M, lo ≤ t.g ∧ t.g < w.heap.size ∧ some t.g ≠ v.ownBlock ∧ ∀ k, k < t.x.s.toNat → w.cell? ⟨t.g, k, none⟩ = some (.int .i64 (f (t.x.at_.toNat + 2 + k))) ∧ w.frozen? ⟨t.g, k, none⟩ = false) ∧ M.Pairwise (fun t u => t.g < u.g)

theorem ownsRow_below {w w' : World} {base e size n : Nat} {v : Value} {xs : List Value} (h : w.ownsRow base e size v n xs) (hb : Below w.heap.size w w') : w'.ownsRow base e size v n xs := by
  refine ⟨h.1, ?_⟩
  rcases h.2 with h0 | ⟨g, cap, cur, h1, h2, h3, h4⟩
  · exact .inl h0
  · have hg : g < w.heap.size := by
      rcases Nat.lt_or_ge g w.heap.size with hlt | hge
      · exact hlt
      · rw [Array.getElem?_eq_none hge] at h3; cases h3
    exact .inr ⟨g, cap, cur, h1, h2, (hb.block g hg).trans h3, h4⟩

theorem Flds.below {w w' : World} {lo : Nat} {f : Nat → Int} {v : Value} {M : List OM} (h : Flds w lo f v M) (hb : Below w.heap.size w w') : Flds w' lo f v M :=
  ⟨fun t ht => by
    obtain ⟨h1, h2, h3, h4⟩ := h.1 t ht
    exact ⟨h1, Nat.lt_of_lt_of_le h2 hb.size, h3, fun k hk => ⟨(hb.cell (p := ⟨t.g, k, none⟩) h2).trans (h4 k hk).1, (hb.frozen (p := ⟨t.g, k, none⟩) h2).trans (h4 k hk).2⟩⟩, h.2⟩

/-- A row is copied into memory of the call's own, at a block that is named. -/
def RetCopy (W : World) (n : Nat) (f : Nat → Int) (e : Ending) (w' : World) : Prop :=
  ∃ g cap, e = .returned (.slice (some ⟨g, 0, none⟩) n cap) ∧ W.heap.size ≤ g ∧ g < w'.heap.size ∧ (∀ k, k < n → w'.cell? ⟨g, k, none⟩ = some (.int .i64 (f k)) ∧ w'.frozen? ⟨g, k, none⟩ = false) ∧ Below W.heap.size W w' ∧ n ≤ cap ∧ cap ≤ maxLen

theorem retCopy_of {W w' : World} {n : Nat} {f : Nat → Int} {v : Value} (h : w'.ownsRow W.heap.size 2 1 v n (nums n f)) (hne : v ≠ .slice none 0 0) (hb : Below W.heap.size W w') : RetCopy W n f (.returned v) w' := by
  have h0 := h
  rcases h.2 with ⟨h1, _⟩ | ⟨g, cap, cur, h1, hB, hg, hnc, hcm, _⟩
  · exact absurd h1 hne
  · subst h1
    refine ⟨g, cap, rfl, hB, ?_, fun k hk => ?_, hb, hnc, hcm⟩
    · rcases Nat.lt_or_ge g w'.heap.size with hlt | hge
      · exact hlt
      · rw [Array.getElem?_eq_none hge] at hg; cases hg
    · have := h0.cellAt k (by omega)
      rw [nums_get n f k hk] at this
      exact ⟨by simpa using this, by simpa using h0.frozenAt k⟩

set_option maxHeartbeats 400000 in
theorem l1Ints_all (ad : Addr) (n cap : Nat) (f : Nat → Int) (w : World) (hs : Src w (some ad) n f) (hn : n ≤ 1048576) :
    Calls Tryz.prog 74 #[.slice (some ad) n cap] w (RetCopy w n f) := by
  obtain ⟨i0, hi, hz0, hz1, hz2⟩ := info_parts Tryz.info2
  have hc' : ∀ (j : Nat) (u : Value), (nums n f)[j]? = some u → (w.alloc (.cells #[] 2)).cell? (ad.add j) = some u := fun j u h => by
    by_cases hp : 0 < n
    · obtain ⟨b, off, he, hb, hc⟩ := src_some hs hp
      cases he
      have := news_at hc j u h
      exact (((Below.refl w.heap.size w).alloc (Nat.le_refl _) _).cell (p := (⟨b, off, none⟩ : Addr).add j) (by rcases j with _ | j <;> simpa [Addr.add] using hb)).trans this
    · obtain rfl : n = 0 := by omega
      simp [nums] at h
  have HC := Lib.hid hc'
  clear hc' hs
  go_enter Tryz.func74, Tryz.ntmps74
  go_wp2_with (at_builtin; refine wpList_append_own _ rfl _ _ 22 rfl w.heap.size 2 i0 (.int .i64 0) 1 8 Tryz.underlying22 hi hz0 hz1 hz2 rfl (by decide) _ 0 [] rfl (World.ownsRow_lit w #[] 0 (Nat.le_refl _) (by simp [maxLen]) rfl) ad n cap (nums n f) rfl (by simp [nums]) HC.out (nums_one n f) (by unfold maxLen; omega) (by omega) (by simp) ?_; intro v' w1 hown hgrow hnil)
  go_ret
  exact retCopy_of (by simpa using hown) (fun h => by cases (hnil.mp h).1) (((Below.refl _ _).alloc (Nat.le_refl _) _).grown hgrow (by simp) (by intro k hk; cases hk; exact Nat.le_refl _))
end Go.Proofs.YtnpklnpicelcmaaGreat

