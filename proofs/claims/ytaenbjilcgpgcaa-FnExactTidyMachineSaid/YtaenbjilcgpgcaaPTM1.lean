/- Texts merged: A1 to N5. -/
import Derived.Test.YtaenbjilcgpgcaaRows
import Derived.WalkKit
import Derived.WalkSpells
import Derived.WalkLawsBesides
import Derived.Deep.QuietTactic
import Derived.BigQuiet
import Derived.Deep.RegionHeld3
import Derived.Lib.Hide
import Derived.Laws.AppendOwnNone
import Derived.Lib.AppendZeros
import Derived.Lib.SliceRun
import Derived.Lib.Walk
import Derived.Deep.Cut
import Derived.Deep.Upon
import Derived.Defers
import Derived.Recover
import Derived.Laws.Pointers
import Derived.StillTailTactics
import Derived.Deep.RegionLaw
import Derived.ProofKit
import Derived.Lib.SmallJoins
import Derived.OpenShut
import Derived.Deep.AppendLies
import Derived.Deep.DeepCutAuto
import Derived.Deep.Slices
import Derived.Deep.LoopGhost
import Derived.Shelf.Abstract
import Derived.RangeFuncNested
import Derived.RangeFuncBound
import Derived.RangeFuncCalls
import Derived.RangeFuncLeaves
import Derived.Shelf.RegionOpen
import Derived.OwnWalkIn
import Derived.TacticsInMore
import Derived.LoopNIn
import Derived.LoopIn
import Derived.Maps.OwnIn
import Derived.Maps.AppendAt
import Derived.Maps.Own
import Derived.Maps.OwnOps
import Derived.Maps.OwnSet
import Derived.OneCell
import Derived.WalkMore
import Derived.Laws.IdiomCopy
import Derived.Deep.RegionWith
namespace Go.Proofs.Ytaenbjilcgpgcaa
open Go.RowKit
set_option linter.unusedVariables false

set_option maxRecDepth 100000 in
set_option maxHeartbeats 400000 in
theorem szInts_ok (a : Option Addr) (n cap : Nat) (l : Int) (w : World) (hl0 : 0 ≤ l) (hl : l ≤ 1048576) (hn : n ≤ maxLen) (h : n ≤ l) :
    Calls Try.prog 197 #[.slice a n cap, .int .i64 l] w fun e w' => e = .returned (.int .i64 (l - n)) ∧ w = w' := by
  unfold maxLen at hn
  go_enter Try.func197, Try.ntmps197
  go_wp2
  go_ret
  exact ⟨rfl, rfl⟩

set_option maxRecDepth 100000 in
set_option maxHeartbeats 400000 in
theorem szInts_no (a : Option Addr) (n cap : Nat) (l : Int) (w : World) (hl0 : 0 ≤ l) (hl : l ≤ 1048576) (hn : n ≤ maxLen) (h : l < n) :
    Calls Try.prog 197 #[.slice a n cap, .int .i64 l] w fun e w' => e = .returned (.int .i64 (-1)) ∧ w = w' := by
  unfold maxLen at hn
  go_enter Try.func197, Try.ntmps197
  go_wp2
  go_ret
  exact ⟨rfl, rfl⟩
end Go.Proofs.Ytaenbjilcgpgcaa

namespace Go.Proofs.Ytaenbjilcgpgcaa
open Go.RowKit
set_option linter.unusedVariables false

/-- The first n cells at a hold f. -/
def Src (w : World) (a : Option Addr) (n : Nat) (f : Nat → Int) : Prop :=
  n = 0 ∨ ∃ b off, a = some ⟨b, off, none⟩ ∧ b < w.heap.size ∧ ∀ i, i < n → w.cell? ⟨b, off + i, none⟩ = some (.int .i64 (f i))

/-- The same, in a block from B on, and not frozen. -/
def Own (w : World) (B : Nat) (a : Option Addr) (n : Nat) (f : Nat → Int) : Prop :=
  n = 0 ∨ ∃ b off, a = some ⟨b, off, none⟩ ∧ B ≤ b ∧ b < w.heap.size ∧ ∀ i, i < n → w.cell? ⟨b, off + i, none⟩ = some (.int .i64 (f i)) ∧ w.frozen? ⟨b, off + i, none⟩ = false

theorem Own.src {w : World} {B : Nat} {a : Option Addr} {n : Nat} {f : Nat → Int} (h : Own w B a n f) : Src w a n f := by
  rcases h with h | ⟨b, off, h1, _, h3, h4⟩
  · exact .inl h
  · exact .inr ⟨b, off, h1, h3, fun i hi => (h4 i hi).1⟩

theorem Src.below {w w' : World} {a : Option Addr} {n : Nat} {f : Nat → Int} (h : Src w a n f) (hb : Below w.heap.size w w') : Src w' a n f := by
  rcases h with h | ⟨b, off, h1, h3, h4⟩
  · exact .inl h
  · exact .inr ⟨b, off, h1, Nat.lt_of_lt_of_le h3 hb.size, fun i hi => (hb.cell (p := ⟨b, off + i, none⟩) h3).trans (h4 i hi)⟩

theorem Own.below {w w' : World} {B : Nat} {a : Option Addr} {n : Nat} {f : Nat → Int} (h : Own w B a n f) (hb : Below w.heap.size w w') : Own w' B a n f := by
  rcases h with h | ⟨b, off, h1, h2, h3, h4⟩
  · exact .inl h
  · exact .inr ⟨b, off, h1, h2, Nat.lt_of_lt_of_le h3 hb.size, fun i hi => ⟨(hb.cell (p := ⟨b, off + i, none⟩) h3).trans (h4 i hi).1, (hb.frozen (p := ⟨b, off + i, none⟩) h3).trans (h4 i hi).2⟩⟩

theorem Own.mono {w : World} {B B' : Nat} {a : Option Addr} {n : Nat} {f : Nat → Int} (h : Own w B a n f) (hB : B' ≤ B) : Own w B' a n f := by
  rcases h with h | ⟨b, off, h1, h2, h3⟩
  · exact .inl h
  · exact .inr ⟨b, off, h1, Nat.le_trans hB h2, h3⟩

theorem Src.at {w : World} {b off n : Nat} {f : Nat → Int} (h : Src w (some ⟨b, off, none⟩) n f) (i : Nat) (hi : i < n) : w.cell? ⟨b, off + i, none⟩ = some (.int .i64 (f i)) := by
  rcases h with h | ⟨b', off', h1, h3, h4⟩
  · omega
  · simp at h1; obtain ⟨rfl, rfl⟩ := h1; exact h4 i hi

theorem Src.congr {w : World} {a : Option Addr} {n : Nat} {f g : Nat → Int} (h : Src w a n f) (e : ∀ i, i < n → f i = g i) : Src w a n g := by
  rcases h with h | ⟨b, off, h1, h3, h4⟩
  · exact .inl h
  · exact .inr ⟨b, off, h1, h3, fun i hi => by rw [h4 i hi, e i hi]⟩

theorem Own.congr {w : World} {B : Nat} {a : Option Addr} {n : Nat} {f g : Nat → Int} (h : Own w B a n f) (e : ∀ i, i < n → f i = g i) : Own w B a n g := by
  rcases h with h | ⟨b, off, h1, h2, h3, h4⟩
  · exact .inl h
  · exact .inr ⟨b, off, h1, h2, h3, fun i hi => by rw [← e i hi]; exact h4 i hi⟩

theorem Src.alloc {w : World} {a : Option Addr} {n : Nat} {f : Nat → Int} (h : Src w a n f) (o : Obj) : Src (w.alloc o) a n f := h.below ((Below.refl _ _).alloc (Nat.le_refl _) o)

theorem Src.drew {w : World} {a : Option Addr} {n : Nat} {f : Nat → Int} (h : Src w a n f) : Src w.drew a n f := h.below (Below.refl _ _).drew

theorem Own.alloc {w : World} {B : Nat} {a : Option Addr} {n : Nat} {f : Nat → Int} (h : Own w B a n f) (o : Obj) : Own (w.alloc o) B a n f := h.below ((Below.refl _ _).alloc (Nat.le_refl _) o)

theorem Own.drew {w : World} {B : Nat} {a : Option Addr} {n : Nat} {f : Nat → Int} (h : Own w B a n f) : Own w.drew B a n f := h.below (Below.refl _ _).drew

theorem Own.setCell {w : World} {B : Nat} {a : Option Addr} {n : Nat} {f : Nat → Int} (h : Own w B a n f) {p : Addr} (hp : p.block < B) (u : Value) : Own (w.setCell p u) B a n f := by
  rcases h with h | ⟨b, off, h1, h2, h3, h4⟩
  · exact .inl h
  · refine .inr ⟨b, off, h1, h2, by simpa using h3, fun i hi => ?_⟩
    have e : (w.setCell p u).heap[b]? = w.heap[b]? := Below.heap_setCell w p u b (by omega)
    exact ⟨(World.cell?_of_block (w := w) (a := ⟨b, off + i, none⟩) e).trans (h4 i hi).1, (World.frozen?_of_block (w := w) (a := ⟨b, off + i, none⟩) e).trans (h4 i hi).2⟩

/-- The cells as a list. -/
def nums (n : Nat) (f : Nat → Int) : List Value := (List.range n).map fun j => .int .i64 (f j)

theorem nums_length (n : Nat) (f : Nat → Int) : (nums n f).length = n := by simp [nums]

theorem nums_get (n : Nat) (f : Nat → Int) (j : Nat) (h : j < n) : (nums n f)[j]? = some (.int .i64 (f j)) := by simp [nums, h]

theorem nums_one (n : Nat) (f : Nat → Int) : ∀ u ∈ nums n f, u.oneCell' = true := by
  intro u hu; simp [nums] at hu; obtain ⟨j, _, rfl⟩ := hu; rfl

theorem nums_zero (n : Nat) : nums n (fun _ => 0) = List.replicate n (.int .i64 0) := by
  apply List.ext_getElem?
  intro j
  by_cases h : j < n <;> simp [nums, h]

theorem nums_set (n : Nat) (f : Nat → Int) (j : Nat) (v : Int) : (nums n f).set j (.int .i64 v) = nums n (fun i => if i = j then v else f i) := by
  apply List.ext_getElem?
  intro k
  by_cases hk : k < n
  · by_cases e : j = k
    · subst e; simp [nums, hk]
    · have e' : ¬ k = j := fun x => e x.symm
      rw [List.getElem?_set_ne e]; simp [nums, hk, e']
  · rw [List.getElem?_eq_none (by simp [nums]; omega), List.getElem?_eq_none (by simp [nums]; omega)]

theorem nums_congr {n : Nat} {f g : Nat → Int} (h : ∀ i, i < n → f i = g i) : nums n f = nums n g := by
  simp only [nums]; apply List.map_congr_left; intro j hj; simp at hj; rw [h j hj]

/-- Out of the kit's word for a row of the call's own. -/
theorem own_of_row {w : World} {B e n : Nat} {a : Option Addr} {cap : Nat} {f : Nat → Int} (h : w.ownsRow B e 1 (.slice a n cap) n (nums n f)) : Own w B a n f := by
  have h0 := h
  rcases h.2 with ⟨_, h2⟩ | ⟨g, cap', cur, h1, hB, hg, hnc, hcm, hcs, _⟩
  · exact .inl h2
  · simp at h1
    obtain ⟨rfl, rfl⟩ := h1
    refine .inr ⟨g, 0, rfl, hB, ?_, fun i hi => ?_⟩
    · have := Array.getElem?_eq_some_iff.mp hg; exact this.1
    · have := h0.cellAt i (by omega)
      rw [nums_get n f i hi] at this
      exact ⟨by simpa using this, by simpa using h0.frozenAt i⟩

/-- Its value is a slice. -/
theorem row_shape {w : World} {B e n : Nat} {v : Value} {xs : List Value} (h : w.ownsRow B e 1 v n xs) : ∃ a cap, v = .slice a n cap ∧ n ≤ cap ∧ cap ≤ maxLen ∧ (a = none → n = 0 ∧ cap = 0) := by
  rcases h.2 with ⟨h1, h2⟩ | ⟨g, cap', cur, h1, hB, hg, hnc, hcm, hcs, _⟩
  · exact ⟨none, 0, by rw [h1, h2], by omega, by simp [maxLen], fun _ => ⟨h2, rfl⟩⟩
  · exact ⟨_, cap', h1, hnc, hcm, fun h => by simp at h⟩

/-- A call hands back new numbers. -/
def RetInts (W : World) (n : Nat) (f : Nat → Int) (e : Ending) (w' : World) : Prop :=
  ∃ a cap, e = .returned (.slice a n cap) ∧ Own w' W.heap.size a n f ∧ Below W.heap.size W w' ∧ n ≤ cap ∧ cap ≤ maxLen ∧ (a = none → n = 0 ∧ cap = 0)

theorem retInts_of_row {W w' : World} {n : Nat} {f : Nat → Int} {v : Value} {e : Nat} (h : w'.ownsRow W.heap.size e 1 v n (nums n f)) (hb : Below W.heap.size W w') : RetInts W n f (.returned v) w' := by
  obtain ⟨a, cap, rfl, h1, h2, h3⟩ := row_shape h
  exact ⟨a, cap, rfl, own_of_row h, hb, h1, h2, h3⟩
end Go.Proofs.Ytaenbjilcgpgcaa

namespace Go.Proofs.Ytaenbjilcgpgcaa
open Go.RowKit
set_option linter.unusedVariables false

theorem Try.info2 : (Try.prog.info? 2).map (fun i => (i.zero, i.size, i.bytes)) = some (some (.int .i64 0), 1, 8) := by kernel_rfl

set_option maxRecDepth 100000 in
set_option maxHeartbeats 400000 in
theorem toInts_any (a : Option Addr) (n cap : Nat) (f : Nat → Int) (w : World) (hs : Src w a n f) (hn : n ≤ 1048576) :
    Calls Try.prog 198 #[.slice a n cap] w (RetInts w n f) := by
  obtain ⟨i0, hi, hz0, hz1, hz2⟩ := info_parts Try.info2
  have HS := Lib.hid hs
  clear hs
  go_enter Try.func198, Try.ntmps198
  go_wp2_with (at_make; refine wpList_make_full _ rfl _ _ 24 rfl w.heap.size 2 i0 (.int .i64 0) 1 Try.underlying24 hi hz0 hz1 .i64 .i64 n n n rfl rfl rfl rfl (by rw [hz2]; omega) (by unfold maxLen; omega) (Nat.le_refl _) ?_; intro w1 hown1 hgrow1)
  have hb1 : Below w.heap.size w w1 := (Below.refl _ _).grown hgrow1 (Nat.le_refl _) (by intro k hk; simp at hk)
  have ho1 : w1.ownsRow w.heap.size 2 1 (.slice (some ⟨w.heap.size, 0, none⟩) n n) n (nums n fun _ => 0) := by
    rw [nums_zero, ← toList_madeCells_one]; simpa [Value.cells] using hown1
  clear hown1 hgrow1
  have HB := Lib.hid hb1
  have HO := Lib.hid ho1
  clear hb1 ho1
  go_loopw [4] (fun k wr => ∃ i : Nat, i ≤ n ∧ k = .int .i64 i ∧ Hid (Below w.heap.size w wr) ∧ Hid (wr.ownsRow w.heap.size 2 1 (.slice (some ⟨w.heap.size, 0, none⟩) n n) n (nums n fun j => if j < i then f j else 0))) (fun k _ => n - (intOf k).toNat)
  case atStart => exact ⟨0, Nat.zero_le _, rfl, HB, by simpa using HO⟩
  case round =>
    obtain ⟨i, hi', rfl, HB1, HO1⟩ := hrel
    by_cases hlt : i < n
    · rcases HS.out with h0 | ⟨b, off, rfl, hb, hc⟩
      · omega
      · have c1 : wr.cell? ⟨b, off + i, none⟩ = some (.int .i64 (f i)) := (HB1.out.cell (p := ⟨b, off + i, none⟩) hb).trans (hc i hlt)
        have c2 : wr.frozen? ⟨w.heap.size, i, none⟩ = false := HO1.out.frozenAt i
        have c3 : wr.cell? ⟨w.heap.size, i, none⟩ = some (.int .i64 0) := by
          have := HO1.out.cellAt i (by omega)
          rw [nums_get _ _ _ hlt] at this; simpa using this
        clear hc
        go_wp2
        go_roundw
        case rel =>
          refine ⟨i + 1, by omega, by go_num, HB1.out.setCell (Nat.le_refl _) _, ?_⟩
          have := (HO1.out.stored i (.int .i64 (f i))).1
          rw [nums_set] at this
          have e : nums n (fun j => if j < i + 1 then f j else 0) = nums n (fun j => if j = i then f i else if j < i then f j else 0) :=
            nums_congr fun j hj => by
              by_cases h1 : j = i
              · subst h1; simp
              · have h2 : (j < i + 1) = (j < i) := by simp only [eq_iff_iff]; omega
                simp only [h1, if_false, h2]
          show _root_.Go.World.ownsRow _ _ _ _ _ _ _
          rw [e]; exact this
        case measure => simp [intOf]; omega
    · go_wp2
      go_ret
      obtain rfl : i = n := by omega
      have h := HO1.out
      refine retInts_of_row (f := f) (e := 2) ?_ HB1.out
      have e : nums i f = nums i (fun j => if j < i then f j else 0) := nums_congr fun j hj => by simp [hj]
      rw [e]; exact h
end Go.Proofs.Ytaenbjilcgpgcaa

namespace Go.Proofs.Ytaenbjilcgpgcaa
open Go.RowKit
set_option linter.unusedVariables false

theorem src_some {w : World} {a : Option Addr} {n : Nat} {f : Nat → Int} (h : Src w a n f) (hp : 0 < n) : ∃ b off, a = some ⟨b, off, none⟩ ∧ b < w.heap.size ∧ ∀ i, i < n → w.cell? ⟨b, off + i, none⟩ = some (.int .i64 (f i)) := by
  rcases h with h | h
  · omega
  · exact h

theorem news_at {w : World} {b off n : Nat} {f : Nat → Int} (hc : ∀ i, i < n → w.cell? ⟨b, off + i, none⟩ = some (.int .i64 (f i))) : ∀ (j : Nat) (u : Value), (nums n f)[j]? = some u → w.cell? ((⟨b, off, none⟩ : Addr).add j) = some u := by
  intro j u h
  by_cases hj : j < n
  · rw [nums_get _ _ _ hj] at h
    simp only [Option.some.injEq] at h
    subst h
    rcases j with _ | j
    · simpa [Addr.add] using hc 0 hj
    · simpa [Addr.add] using hc (j + 1) hj
  · rw [List.getElem?_eq_none (by simp [nums]; omega)] at h; simp at h

set_option maxRecDepth 100000 in
set_option maxHeartbeats 400000 in
theorem clone_any (a : Option Addr) (n cap : Nat) (f : Nat → Int) (w : World) (hs : Src w a n f) (hp : 0 < n) (hn : n ≤ 1048576) :
    Calls Try.prog 154 #[.slice a n cap] w (RetInts w n f) := by
  obtain ⟨i0, hi, hz0, hz1, hz2⟩ := info_parts Try.info2
  obtain ⟨b, off, rfl, hb, hc⟩ := src_some hs hp
  have hc' : ∀ (j : Nat) (u : Value), (nums n f)[j]? = some u → (w.alloc (.cells #[] 2)).cell? ((⟨b, off, none⟩ : Addr).add j) = some u := fun j u h => by
    have := news_at hc j u h
    exact (((Below.refl w.heap.size w).alloc (Nat.le_refl _) _).cell (p := (⟨b, off, none⟩ : Addr).add j) (by rcases j with _ | j <;> simpa [Addr.add] using hb)).trans this
  have HC := Lib.hid hc'
  clear hc' hc hs
  have hnil := fun (w : World) (a : Option Addr) (n c : Nat) => Lib.run_eql_slice_nil (P := Try.prog) w 24 2 a n c 0 0 Try.underlying24
  go_enter Try.func154, Try.ntmps154
  go_wp2_with (at_builtin; refine wpList_append_own _ rfl _ _ 24 rfl w.heap.size 2 i0 (.int .i64 0) 1 8 Try.underlying24 hi hz0 hz1 hz2 rfl (by decide) _ 0 [] rfl (World.ownsRow_lit w #[] 0 (Nat.le_refl _) (by simp [maxLen]) rfl) ⟨b, off, none⟩ n cap (nums n f) rfl (by simp [nums]) HC.out (nums_one n f) (by unfold maxLen; omega) (by omega) (by simp) ?_; intro v' w1 hown hgrow _)
  go_ret
  exact retInts_of_row (e := 2) (by simpa using hown) (((Below.refl _ _).alloc (Nat.le_refl _) _).grown hgrow (by simp) (by intro k hk; cases hk; exact Nat.le_refl _))
end Go.Proofs.Ytaenbjilcgpgcaa

namespace Go.Proofs.Ytaenbjilcgpgcaa
open Go.RowKit
set_option linter.unusedVariables false

/-- Are two rows the same? -/
def eqB (n m : Nat) (f g : Nat → Int) : Bool := decide (n = m ∧ ∀ i, i < n → f i = g i)

theorem eqB_no {n : Nat} {f g : Nat → Int} (i : Nat) (hi : i < n) (h : ¬ f i = g i) : eqB n n f g = false := by
  simp only [eqB, true_and, decide_eq_false_iff_not]; exact fun k => h (k i hi)

theorem eqB_yes {n : Nat} {f g : Nat → Int} (h : ∀ i, i < n → f i = g i) : eqB n n f g = true := by
  simp only [eqB, true_and, decide_eq_true_eq]; exact h

/-- A Bool comes back; nothing that was there is turned. -/
def RetBool (W : World) (r : Bool) (e : Ending) (w' : World) : Prop := e = .returned (.bool r) ∧ Below W.heap.size W w'

theorem below_drewN {B : Nat} {a w : World} (h : Below B a w) (k : Nat) : Below B a (w.drewN k) := h.trans ⟨rfl, rfl, rfl, Nat.le_refl _, fun _ _ => rfl⟩

set_option maxRecDepth 100000 in
set_option maxHeartbeats 400000 in
theorem eqInts_same (a1 a2 : Option Addr) (n c1 c2 : Nat) (f g : Nat → Int) (w : World) (s1 : Src w a1 n f) (s2 : Src w a2 n g) (hn : n ≤ 1048576) :
    Calls Try.prog 110 #[.slice a1 n c1, .slice a2 n c2] w (RetBool w (eqB n n f g)) := by
  have S1 := Lib.hid s1
  have S2 := Lib.hid s2
  clear s1 s2
  go_enter Try.func110, Try.ntmps110
  go_wp2
  go_loopw [5] (fun k wr => ∃ i : Nat, i ≤ n ∧ k = .int .i64 i ∧ Hid (Below w.heap.size w wr) ∧ Hid (∀ j, j < i → f j = g j)) (fun k _ => n - (intOf k).toNat)
  case atStart => exact ⟨0, Nat.zero_le _, rfl, Below.refl _ _, fun j hj => by omega⟩
  case round =>
    obtain ⟨i, hi, rfl, HB, HE⟩ := hrel
    by_cases hlt : i < n
    · obtain ⟨b1, o1, rfl, hb1, hc1⟩ := src_some (S1.out.below HB.out) (by omega)
      obtain ⟨b2, o2, rfl, hb2, hc2⟩ := src_some (S2.out.below HB.out) (by omega)
      have d1 := hc1 i hlt
      have d2 := hc2 i hlt
      have hlt' : (i : Int) < (n : Int) := by omega
      clear hc1 hc2
      by_cases he : f i = g i
      · go_wp2
        go_quiet (fail)
        go_wp2
        go_roundw
        case rel => exact ⟨i + 1, by omega, by go_num, below_drewN HB.out _, fun j hj => by
            rcases Nat.lt_succ_iff_lt_or_eq.mp hj with h | h
            · exact HE.out j h
            · subst h; exact he⟩
        case measure => simp [intOf]; omega
      · have hd2 : (f i != g i) = true := by simpa using he
        go_wp2
        go_quiet (fail)
        go_wp2
        go_ret
        exact ⟨by rw [eqB_no i hlt he]; rfl, below_drewN HB.out _⟩
    · go_wp2
      go_ret
      exact ⟨by rw [eqB_yes fun j hj => HE.out j (by omega)]; rfl, HB.out⟩
end Go.Proofs.Ytaenbjilcgpgcaa

namespace Go.Proofs.Ytaenbjilcgpgcaa
open Go.RowKit
set_option linter.unusedVariables false

theorem bcell {W w1 : World} (hb : Below W.heap.size W w1) : (∀ b o, b < W.heap.size → w1.cell? ⟨b, o, none⟩ = W.cell? ⟨b, o, none⟩) ∧ (∀ b o, b < W.heap.size → w1.frozen? ⟨b, o, none⟩ = W.frozen? ⟨b, o, none⟩) :=
  ⟨fun b o h => hb.cell (p := ⟨b, o, none⟩) h, fun b o h => hb.frozen (p := ⟨b, o, none⟩) h⟩

/-- A block of the call's own, known cell by cell. -/
def Blk (w : World) (b : Nat) (cs : List Value) : Prop := b < w.heap.size ∧ ∀ i u, cs[i]? = some u → w.cell? ⟨b, i, none⟩ = some u ∧ w.frozen? ⟨b, i, none⟩ = false

theorem Blk.below {w w' : World} {b : Nat} {cs : List Value} (h : Blk w b cs) (hb : Below w.heap.size w w') : Blk w' b cs :=
  ⟨Nat.lt_of_lt_of_le h.1 hb.size, fun i u hu => ⟨(hb.cell (p := ⟨b, i, none⟩) h.1).trans (h.2 i u hu).1, (hb.frozen (p := ⟨b, i, none⟩) h.1).trans (h.2 i u hu).2⟩⟩

theorem Blk.alloc {w : World} {b : Nat} {cs : List Value} (h : Blk w b cs) (o : Obj) : Blk (w.alloc o) b cs := h.below ((Below.refl _ _).alloc (Nat.le_refl _) o)

theorem Blk.drew {w : World} {b : Nat} {cs : List Value} (h : Blk w b cs) : Blk w.drew b cs := h.below (Below.refl _ _).drew

theorem Blk.new (w : World) (cs : Array Value) (t : TypeId) : Blk (w.alloc (.cells cs t)) w.heap.size cs.toList := by
  refine ⟨by simp, fun i u hu => ?_⟩
  constructor
  · rw [World.cell?_alloc_at _ _ _ _ rfl]; simpa using hu
  · exact World.frozen?_alloc_at _ _ _ _ rfl

theorem Blk.new_at {w : World} {cs : Array Value} {t : TypeId} (b : Nat) (hb : b = w.heap.size) : Blk (w.alloc (.cells cs t)) b cs.toList := hb ▸ Blk.new w cs t

theorem Blk.at {w : World} {b : Nat} {cs : List Value} (h : Blk w b cs) (i : Nat) {u : Value} (hu : cs[i]? = some u) : w.cell? ⟨b, i, none⟩ = some u := (h.2 i u hu).1

theorem Blk.free {w : World} {b : Nat} {cs : List Value} (h : Blk w b cs) (i : Nat) {u : Value} (hu : cs[i]? = some u) : w.frozen? ⟨b, i, none⟩ = false := (h.2 i u hu).2
end Go.Proofs.Ytaenbjilcgpgcaa

namespace Go.Proofs.Ytaenbjilcgpgcaa
open Go.RowKit
set_option linter.unusedVariables false

/-- Three cells hold one bound. -/
def B3 (w : World) (b o : Nat) (v l g : Int) : Prop :=
  w.cell? ⟨b, o, none⟩ = some (.int .i64 v) ∧ w.cell? ⟨b, o + 1, none⟩ = some (.int .i64 l) ∧ w.cell? ⟨b, o + 2, none⟩ = some (.int .i64 g)

theorem B3.below {w w' : World} {b o : Nat} {v l g : Int} {B : Nat} (h : B3 w b o v l g) (hb : Below B w w') (hlt : b < B) : B3 w' b o v l g :=
  ⟨(hb.cell (p := ⟨b, o, none⟩) hlt).trans h.1, (hb.cell (p := ⟨b, o + 1, none⟩) hlt).trans h.2.1, (hb.cell (p := ⟨b, o + 2, none⟩) hlt).trans h.2.2⟩

-- All bounds hold.

set_option maxRecDepth 100000 in
set_option maxHeartbeats 400000 in
theorem isOut_no (b n : Nat) (v l g : Nat → Int) (w : World) (hn : n ≤ 3) (hb : b < w.heap.size)
   (h0 : ∀ i, i < n → B3 w b (i * 3) (v i) (l i) (g i)) (h1 : ∀ i, i < n → l i ≤ v i ∧ v i ≤ g i) :
    Calls Try.prog 79 #[.slice (some ⟨b, 0, none⟩) n n] w fun e w' => e = .returned (.bool false) ∧ Below w.heap.size w w' := by
  go_enter Try.func79, Try.ntmps79
  go_wp2
  go_loopw [7] (fun k wr => ∃ i : Nat, i ≤ n ∧ k = .int .i64 i ∧ Below w.heap.size w wr) (fun k _ => n - (intOf k).toNat)
  case atStart => exact ⟨0, Nat.zero_le _, rfl, Below.refl _ _⟩
  case round =>
    obtain ⟨i, hi, rfl, hbel⟩ := hrel
    by_cases hlt : i < n
    · obtain ⟨c1, c2, c3⟩ := (h0 i hlt).below hbel hb
      obtain ⟨d1, d2⟩ := h1 i hlt
      have hs := hbel.size
      clear h0 h1
      go_wp2
      go_roundw
      case rel => exact ⟨i + 1, by omega, by go_num, hbel.alloc hs _⟩
      case measure => simp [intOf]; omega
    · clear h0 h1
      go_wp2
      go_ret
      exact ⟨rfl, hbel⟩

-- Some bound does not hold.

set_option maxRecDepth 100000 in
set_option maxHeartbeats 400000 in
theorem isOut_yes (b n : Nat) (v l g : Nat → Int) (w : World) (hn : n ≤ 3) (hb : b < w.heap.size)
   (h0 : ∀ i, i < n → B3 w b (i * 3) (v i) (l i) (g i)) (h1 : ∃ i, i < n ∧ ¬ (l i ≤ v i ∧ v i ≤ g i)) :
    Calls Try.prog 79 #[.slice (some ⟨b, 0, none⟩) n n] w fun e w' => e = .returned (.bool true) ∧ Below w.heap.size w w' := by
  have H1 := Lib.hid h1
  clear h1
  go_enter Try.func79, Try.ntmps79
  go_wp2
  go_loopw [7] (fun k wr => ∃ i : Nat, i ≤ n ∧ k = .int .i64 i ∧ Below w.heap.size w wr ∧ Hid (∀ j, j < i → l j ≤ v j ∧ v j ≤ g j)) (fun k _ => n - (intOf k).toNat)
  case atStart => exact ⟨0, Nat.zero_le _, rfl, Below.refl _ _, fun j hj => by omega⟩
  case round =>
    obtain ⟨i, hi, rfl, hbel, hH⟩ := hrel
    by_cases hlt : i < n
    · obtain ⟨c1, c2, c3⟩ := (h0 i hlt).below hbel hb
      have hs := hbel.size
      clear h0
      by_cases e1 : v i < l i
      · go_wp2
        go_ret
        exact ⟨rfl, hbel.alloc hs _⟩
      · by_cases e2 : g i < v i
        · go_wp2
          go_ret
          exact ⟨rfl, hbel.alloc hs _⟩
        · go_wp2
          go_roundw
          case rel => exact ⟨i + 1, by omega, by go_num, hbel.alloc hs _, fun j hj => by
            rcases Nat.lt_succ_iff_lt_or_eq.mp hj with h | h
            · exact hH.out j h
            · subst h; omega⟩
          case measure => simp [intOf]; omega
    · exfalso
      obtain ⟨j, hj, hj'⟩ := H1.out
      exact hj' (hH.out j (by omega))
end Go.Proofs.Ytaenbjilcgpgcaa

namespace Go.Proofs.Ytaenbjilcgpgcaa
open Go.RowKit
set_option linter.unusedVariables false

def Word (v : Int) : Prop := -1000000000 ≤ v ∧ v ≤ 1000000000

/-- An integer comes back; nothing that was there is turned. -/
def RetInt (W : World) (r : Int) (e : Ending) (w' : World) : Prop := e = .returned (.int .i64 r) ∧ Below W.heap.size W w'

set_option maxRecDepth 100000 in
set_option maxHeartbeats 400000 in
theorem l1In_yes (v l g : Int) (w : World) (h1 : l ≤ v) (h2 : v ≤ g) : Calls Try.prog 81 #[.int .i64 v, .int .i64 l, .int .i64 g] w fun e w' => e = .returned (.bool true) ∧ w = w' := by
  go_enter Try.func81, Try.ntmps81
  go_wp2
  go_ret
  exact ⟨rfl, rfl⟩

set_option maxRecDepth 100000 in
set_option maxHeartbeats 400000 in
theorem l1In_no (v l g : Int) (w : World) (h : ¬ (l ≤ v ∧ v ≤ g)) : Calls Try.prog 81 #[.int .i64 v, .int .i64 l, .int .i64 g] w fun e w' => e = .returned (.bool false) ∧ w = w' := by
  by_cases h1 : l ≤ v
  · have h2 : ¬ v ≤ g := fun k => h ⟨h1, k⟩
    clear h
    go_enter Try.func81, Try.ntmps81
    go_wp2
    go_ret
    exact ⟨rfl, rfl⟩
  · clear h
    go_enter Try.func81, Try.ntmps81
    go_wp2
    go_ret
    exact ⟨rfl, rfl⟩

set_option maxRecDepth 100000 in
set_option maxHeartbeats 400000 in
theorem l1Value_yes (v : Int) (w : World) (h : Word v) : Calls Try.prog 162 #[.int .i64 v] w fun e w' => e = .returned (.bool true) ∧ w = w' := by
  obtain ⟨h1, h2⟩ := h
  go_enter Try.func162, Try.ntmps162
  go_wp2_with (go_at_call 81; (with_reducible refine (l1In_yes _ _ _ _ h1 h2).mono ?_); rintro e w' ⟨rfl, rfl⟩)
  go_ret
  exact ⟨rfl, rfl⟩

set_option maxRecDepth 100000 in
set_option maxHeartbeats 400000 in
theorem l1Value_no (v : Int) (w : World) (h : ¬ Word v) : Calls Try.prog 162 #[.int .i64 v] w fun e w' => e = .returned (.bool false) ∧ w = w' := by
  have H := Lib.hid h
  clear h
  go_enter Try.func162, Try.ntmps162
  go_wp2_with (go_at_call 81; (with_reducible refine (l1In_no _ _ _ _ (by have := H.out; unfold Word at this; omega)).mono ?_); rintro e w' ⟨rfl, rfl⟩)
  go_ret
  exact ⟨rfl, rfl⟩

set_option maxRecDepth 100000 in
set_option maxHeartbeats 400000 in
theorem wordBound_any (v : Int) (w : World) : Calls Try.prog 144 #[.int .i64 v] w fun e w' => e = .returned (.agg #[.int .i64 v, .int .i64 (-1000000000), .int .i64 1000000000]) ∧ Below w.heap.size w w' := by
  go_enter Try.func144, Try.ntmps144
  go_wp2
  exact bodyPost_ret (v := .agg #[.int .i64 v, .int .i64 (-1000000000), .int .i64 1000000000]) (by simp [results, Try.results144, go_sem]) rfl ⟨rfl, (Below.refl _ _).alloc (Nat.le_refl _) _⟩

theorem b3_new {W : World} {cs : Array Value} {t : TypeId} {o : Nat} {v l g : Int} (h1 : cs[o]? = some (.int .i64 v)) (h2 : cs[o + 1]? = some (.int .i64 l)) (h3 : cs[o + 2]? = some (.int .i64 g)) : B3 (W.alloc (.cells cs t)) W.heap.size o v l g := by
  refine ⟨?_, ?_, ?_⟩ <;> (rw [World.cell?_alloc_at _ _ _ _ rfl]; assumption)

/-- isOutside, of bounds that were laid just ahead of the call. -/
def pick3 (a b c : Int) : Nat → Int := fun i => if i = 0 then a else if i = 1 then b else c

theorem isOut1 (B : Nat) (W : World) (v l g : Int) (r : Bool) (hB : B = W.heap.size) (hr : (r = false ∧ (l ≤ v ∧ v ≤ g)) ∨ (r = true ∧ ¬ (l ≤ v ∧ v ≤ g))) :
    Calls Try.prog 79 #[.slice (some ⟨B, 0, none⟩) 1 1] (W.alloc (.cells #[.int .i64 v, .int .i64 l, .int .i64 g] 122)) (RetBool (W.alloc (.cells #[.int .i64 v, .int .i64 l, .int .i64 g] 122)) r) := by
  subst hB
  rcases hr with ⟨rfl, hr⟩ | ⟨rfl, hr⟩
  · refine isOut_no W.heap.size 1 (fun _ => v) (fun _ => l) (fun _ => g) _ (by omega) (by simp) (fun i hi => ?_) (fun _ _ => hr)
    obtain rfl : i = 0 := by omega
    exact b3_new rfl rfl rfl
  · refine isOut_yes W.heap.size 1 (fun _ => v) (fun _ => l) (fun _ => g) _ (by omega) (by simp) (fun i hi => ?_) ⟨0, by omega, hr⟩
    obtain rfl : i = 0 := by omega
    exact b3_new rfl rfl rfl

theorem isOut2 (B : Nat) (W : World) (v0 l0 g0 v1 l1 g1 : Int) (r : Bool) (hB : B = W.heap.size)
    (hr : (r = false ∧ (l0 ≤ v0 ∧ v0 ≤ g0) ∧ (l1 ≤ v1 ∧ v1 ≤ g1)) ∨ (r = true ∧ ¬ ((l0 ≤ v0 ∧ v0 ≤ g0) ∧ (l1 ≤ v1 ∧ v1 ≤ g1)))) :
    Calls Try.prog 79 #[.slice (some ⟨B, 0, none⟩) 2 2] (W.alloc (.cells #[.int .i64 v0, .int .i64 l0, .int .i64 g0, .int .i64 v1, .int .i64 l1, .int .i64 g1] 122))
      (RetBool (W.alloc (.cells #[.int .i64 v0, .int .i64 l0, .int .i64 g0, .int .i64 v1, .int .i64 l1, .int .i64 g1] 122)) r) := by
  subst hB
  have hB3 : ∀ i, i < 2 → B3 (W.alloc (.cells #[.int .i64 v0, .int .i64 l0, .int .i64 g0, .int .i64 v1, .int .i64 l1, .int .i64 g1] 122)) W.heap.size (i * 3) (pick3 v0 v1 0 i) (pick3 l0 l1 0 i) (pick3 g0 g1 0 i) := by
    intro i hi
    match i, hi with
    | 0, _ => exact b3_new rfl rfl rfl
    | 1, _ => exact b3_new rfl rfl rfl
  rcases hr with ⟨rfl, hr⟩ | ⟨rfl, hr⟩
  · refine isOut_no W.heap.size 2 _ _ _ _ (by omega) (by simp) hB3 (fun i hi => ?_)
    match i, hi with
    | 0, _ => exact hr.1
    | 1, _ => exact hr.2
  · refine isOut_yes W.heap.size 2 _ _ _ _ (by omega) (by simp) hB3 ?_
    by_cases h0 : l0 ≤ v0 ∧ v0 ≤ g0
    · exact ⟨1, by omega, fun h1 => hr ⟨h0, h1⟩⟩
    · exact ⟨0, by omega, h0⟩

theorem isOut3 (B : Nat) (W : World) (v0 l0 g0 v1 l1 g1 v2 l2 g2 : Int) (r : Bool) (hB : B = W.heap.size)
    (hr : (r = false ∧ (l0 ≤ v0 ∧ v0 ≤ g0) ∧ (l1 ≤ v1 ∧ v1 ≤ g1) ∧ (l2 ≤ v2 ∧ v2 ≤ g2)) ∨ (r = true ∧ ¬ ((l0 ≤ v0 ∧ v0 ≤ g0) ∧ (l1 ≤ v1 ∧ v1 ≤ g1) ∧ (l2 ≤ v2 ∧ v2 ≤ g2)))) :
    Calls Try.prog 79 #[.slice (some ⟨B, 0, none⟩) 3 3] (W.alloc (.cells #[.int .i64 v0, .int .i64 l0, .int .i64 g0, .int .i64 v1, .int .i64 l1, .int .i64 g1, .int .i64 v2, .int .i64 l2, .int .i64 g2] 122))
      (RetBool (W.alloc (.cells #[.int .i64 v0, .int .i64 l0, .int .i64 g0, .int .i64 v1, .int .i64 l1, .int .i64 g1, .int .i64 v2, .int .i64 l2, .int .i64 g2] 122)) r) := by
  subst hB
  have hB3 : ∀ i, i < 3 → B3 (W.alloc (.cells #[.int .i64 v0, .int .i64 l0, .int .i64 g0, .int .i64 v1, .int .i64 l1, .int .i64 g1, .int .i64 v2, .int .i64 l2, .int .i64 g2] 122)) W.heap.size (i * 3) (pick3 v0 v1 v2 i) (pick3 l0 l1 l2 i) (pick3 g0 g1 g2 i) := by
    intro i hi
    match i, hi with
    | 0, _ => exact b3_new rfl rfl rfl
    | 1, _ => exact b3_new rfl rfl rfl
    | 2, _ => exact b3_new rfl rfl rfl
  rcases hr with ⟨rfl, hr⟩ | ⟨rfl, hr⟩
  · refine isOut_no W.heap.size 3 _ _ _ _ (by omega) (by simp) hB3 (fun i hi => ?_)
    match i, hi with
    | 0, _ => exact hr.1
    | 1, _ => exact hr.2.1
    | 2, _ => exact hr.2.2
  · refine isOut_yes W.heap.size 3 _ _ _ _ (by omega) (by simp) hB3 ?_
    by_cases h0 : l0 ≤ v0 ∧ v0 ≤ g0
    · by_cases h1 : l1 ≤ v1 ∧ v1 ≤ g1
      · exact ⟨2, by omega, fun h2 => hr ⟨h0, h1, h2⟩⟩
      · exact ⟨1, by omega, h1⟩
    · exact ⟨0, by omega, h0⟩
end Go.Proofs.Ytaenbjilcgpgcaa

namespace Go.Proofs.Ytaenbjilcgpgcaa
open Go.RowKit
set_option linter.unusedVariables false

theorem thru0 {w w1 w2 : World} (h : Below w.heap.size w w1) (hb : Below w1.heap.size w1 w2) : Below w.heap.size w w2 := h.trans (hb.mono h.size)

theorem thru1 {w w1 w2 : World} {o : Obj} (h : Below w.heap.size w w1) (hb : Below (w1.alloc o).heap.size (w1.alloc o) w2) : Below w.heap.size w w2 := thru0 (h.alloc h.size o) hb

theorem thru2 {w w1 w2 : World} {o o' : Obj} (h : Below w.heap.size w w1) (hb : Below ((w1.alloc o).alloc o').heap.size ((w1.alloc o).alloc o') w2) : Below w.heap.size w w2 := thru1 (h.alloc h.size o) hb
end Go.Proofs.Ytaenbjilcgpgcaa

namespace Go.Proofs.Ytaenbjilcgpgcaa
open Go.RowKit
set_option linter.unusedVariables false

/-- Nothing that was there is turned, but in the blocks from lo to hi. -/
structure Keeps (w w' : World) (lo hi : Nat) : Prop where
  os : w'.os = w.os
  tape : w'.tape = w.tape
  output : w'.output = w.output
  size : w.heap.size ≤ w'.heap.size
  block : ∀ k, k < w.heap.size → (k < lo ∨ hi ≤ k) → w'.heap[k]? = w.heap[k]?

theorem Keeps.refl (w : World) (lo hi : Nat) : Keeps w w lo hi := ⟨rfl, rfl, rfl, Nat.le_refl _, fun _ _ _ => rfl⟩

theorem Keeps.trans {w w1 w2 : World} {lo hi : Nat} (h : Keeps w w1 lo hi) (k : Keeps w1 w2 lo hi) : Keeps w w2 lo hi :=
  ⟨k.os.trans h.os, k.tape.trans h.tape, k.output.trans h.output, Nat.le_trans h.size k.size, fun i hi h' => (k.block i (Nat.lt_of_lt_of_le hi h.size) h').trans (h.block i hi h')⟩

theorem keeps_of_below {w w' : World} (h : Below w.heap.size w w') (lo hi : Nat) : Keeps w w' lo hi := ⟨h.os, h.tape, h.output, h.size, fun k hk _ => h.block k hk⟩

theorem keeps_setCell {w : World} {lo hi : Nat} {p : Addr} (h1 : lo ≤ p.block) (h2 : p.block < hi) (u : Value) : Keeps w (w.setCell p u) lo hi := by
  have h : Below p.block w (w.setCell p u) := (Below.refl _ _).setCell (Nat.le_refl _) u
  exact ⟨h.os, h.tape, h.output, h.size, fun k _ hk' => Below.heap_setCell w p u k (by omega)⟩

theorem Keeps.below {w w' : World} {lo hi B : Nat} (h : Keeps w w' lo hi) (hB : B ≤ lo) (hs : B ≤ w.heap.size) : Below B w w' :=
  ⟨h.os, h.tape, h.output, h.size, fun k hk => h.block k (by omega) (.inl (by omega))⟩

theorem Blk.keeps {w w' : World} {b lo hi : Nat} {cs : List Value} (h : Blk w b cs) (hk : Keeps w w' lo hi) (hd : b < lo ∨ hi ≤ b) : Blk w' b cs := by
  have e := hk.block b h.1 hd
  exact ⟨Nat.lt_of_lt_of_le h.1 hk.size, fun i u hu => ⟨(World.cell?_of_block (w := w) (a := ⟨b, i, none⟩) e).trans (h.2 i u hu).1, (World.frozen?_of_block (w := w) (a := ⟨b, i, none⟩) e).trans (h.2 i u hu).2⟩⟩

/-- A row of the call's own, in a block from lo to hi. -/
def OwnIn (w : World) (lo hi : Nat) (a : Option Addr) (n : Nat) (f : Nat → Int) : Prop :=
  n = 0 ∨ ∃ b off, a = some ⟨b, off, none⟩ ∧ (lo ≤ b ∧ b < hi) ∧ b < w.heap.size ∧ ∀ i, i < n → w.cell? ⟨b, off + i, none⟩ = some (.int .i64 (f i)) ∧ w.frozen? ⟨b, off + i, none⟩ = false

theorem Own.into {w : World} {B : Nat} {a : Option Addr} {n : Nat} {f : Nat → Int} (h : Own w B a n f) : OwnIn w B w.heap.size a n f := by
  rcases h with h | ⟨b, off, h1, h2, h3, h4⟩
  · exact .inl h
  · exact .inr ⟨b, off, h1, ⟨h2, h3⟩, h3, h4⟩

theorem OwnIn.src {w : World} {lo hi : Nat} {a : Option Addr} {n : Nat} {f : Nat → Int} (h : OwnIn w lo hi a n f) : Src w a n f := by
  rcases h with h | ⟨b, off, h1, _, h3, h4⟩
  · exact .inl h
  · exact .inr ⟨b, off, h1, h3, fun i hi => (h4 i hi).1⟩

theorem OwnIn.keeps {w w' : World} {lo hi lo' hi' : Nat} {a : Option Addr} {n : Nat} {f : Nat → Int} (h : OwnIn w lo hi a n f) (hk : Keeps w w' lo' hi') (hd : hi ≤ lo' ∨ hi' ≤ lo) : OwnIn w' lo hi a n f := by
  rcases h with h | ⟨b, off, h1, h2, h3, h4⟩
  · exact .inl h
  · have e := hk.block b h3 (by omega)
    exact .inr ⟨b, off, h1, h2, Nat.lt_of_lt_of_le h3 hk.size, fun i hi => ⟨(World.cell?_of_block (w := w) (a := ⟨b, off + i, none⟩) e).trans (h4 i hi).1, (World.frozen?_of_block (w := w) (a := ⟨b, off + i, none⟩) e).trans (h4 i hi).2⟩⟩

theorem OwnIn.below {w w' : World} {lo hi : Nat} {a : Option Addr} {n : Nat} {f : Nat → Int} (h : OwnIn w lo hi a n f) (hb : Below w.heap.size w w') : OwnIn w' lo hi a n f := by
  rcases h with h | ⟨b, off, h1, h2, h3, h4⟩
  · exact .inl h
  · exact .inr ⟨b, off, h1, h2, Nat.lt_of_lt_of_le h3 hb.size, fun i hi => ⟨(hb.cell (p := ⟨b, off + i, none⟩) h3).trans (h4 i hi).1, (hb.frozen (p := ⟨b, off + i, none⟩) h3).trans (h4 i hi).2⟩⟩

theorem OwnIn.alloc {w : World} {lo hi : Nat} {a : Option Addr} {n : Nat} {f : Nat → Int} (h : OwnIn w lo hi a n f) (o : Obj) : OwnIn (w.alloc o) lo hi a n f := h.below ((Below.refl _ _).alloc (Nat.le_refl _) o)

theorem OwnIn.drew {w : World} {lo hi : Nat} {a : Option Addr} {n : Nat} {f : Nat → Int} (h : OwnIn w lo hi a n f) : OwnIn w.drew lo hi a n f := h.below (Below.refl _ _).drew

theorem OwnIn.congr {w : World} {lo hi : Nat} {a : Option Addr} {n : Nat} {f g : Nat → Int} (h : OwnIn w lo hi a n f) (e : ∀ i, i < n → f i = g i) : OwnIn w lo hi a n g := by
  rcases h with h | ⟨b, off, h1, h2, h3, h4⟩
  · exact .inl h
  · exact .inr ⟨b, off, h1, h2, h3, fun i hi => by rw [← e i hi]; exact h4 i hi⟩

/-- A store into the row. -/
theorem OwnIn.stored {w : World} {lo hi b off n : Nat} {f : Nat → Int} (h : OwnIn w lo hi (some ⟨b, off, none⟩) n f) (i : Nat) (hi' : i < n) (v : Int) :
    OwnIn (w.setCell ⟨b, off + i, none⟩ (.int .i64 v)) lo hi (some ⟨b, off, none⟩) n (fun j => if j = i then v else f j) ∧ Keeps w (w.setCell ⟨b, off + i, none⟩ (.int .i64 v)) lo hi := by
  rcases h with h | ⟨b', off', h1, h2, h3, h4⟩
  · omega
  · simp only [Option.some.injEq, Addr.mk.injEq, and_true] at h1
    obtain ⟨rfl, rfl⟩ := h1
    refine ⟨.inr ⟨b, off, rfl, h2, by simpa using h3, fun j hj => ⟨?_, ?_⟩⟩, keeps_setCell h2.1 h2.2 _⟩
    · by_cases e : j = i
      · subst e
        simpa using World.cell?_setCell_same w ⟨b, off + j, none⟩ (.int .i64 v) (h4 j hj).1
      · rw [World.cell?_setCell_other _ _ _ _ (by simp; try omega), (h4 j hj).1]; simp [e]
    · rw [World.frozen?_setCell]; exact (h4 j hj).2

def RetMark (W : World) (lo hi : Nat) (a : Option Addr) (n : Nat) (k : Int) (e : Ending) (w' : World) : Prop :=
  e = .returned (.int .i64 (k + n)) ∧ OwnIn w' lo hi a n (fun i => k + i) ∧ Keeps W w' lo hi

set_option maxRecDepth 100000 in
set_option maxHeartbeats 400000 in
theorem markInts_any (a : Option Addr) (n c lo hi : Nat) (f : Nat → Int) (k : Int) (w : World) (ho : OwnIn w lo hi a n f) (hn : n ≤ 1048576) (hk0 : 0 ≤ k) (hk1 : k ≤ 1048576) :
    Calls Try.prog 115 #[.slice a n c, .int .i64 k] w (RetMark w lo hi a n k) := by
  have HO := Lib.hid ho
  clear ho
  go_enter Try.func115, Try.ntmps115
  go_wp2
  go_loopw [1, 5] (fun q p wr => ∃ i : Nat, i ≤ n ∧ p = .int .i64 i ∧ q = .int .i64 (k + i) ∧ Hid (Keeps w wr lo hi) ∧ Hid (OwnIn wr lo hi a n (fun j => if j < i then k + j else f j))) (fun _ p _ => n - (intOf p).toNat)
  case atStart => exact ⟨0, Nat.zero_le _, rfl, by simp, Keeps.refl _ _ _, by simpa using HO⟩
  case round =>
    obtain ⟨i, hi', rfl, rfl, HK, HR⟩ := hrel
    by_cases hlt : i < n
    · obtain ⟨b, off, rfl, hb, hc⟩ := src_some HR.out.src (by omega)
      have c1 := hc i hlt
      have hfz : wr.frozen? ⟨b, off + i, none⟩ = false := by
        rcases HR.out with h | ⟨b', off', h1, _, _, h4⟩
        · omega
        · simp only [Option.some.injEq, Addr.mk.injEq, and_true] at h1
          obtain ⟨rfl, rfl⟩ := h1
          exact (h4 i hlt).2
      have hst := Lib.hid (HR.out.stored i hlt (k + i))
      have hlt' : (i : Int) < (n : Int) := by omega
      clear hc
      go_wp2
      go_roundw
      case rel =>
        refine ⟨i + 1, by omega, by go_num, by go_num, HK.out.trans hst.out.2, hst.out.1.congr fun j hj => ?_⟩
        by_cases h1 : j = i
        · subst h1; simp
        · have h2 : (j < i + 1) = (j < i) := by simp only [eq_iff_iff]; omega
          simp only [h1, if_false, h2]
      case measure => simp [intOf]; omega
    · go_wp2
      go_ret
      obtain rfl : i = n := by omega
      exact ⟨rfl, HR.out.congr fun j hj => by simp [hj], HK.out⟩

set_option maxRecDepth 100000 in
set_option maxHeartbeats 400000 in
theorem heldInts_any (a : Option Addr) (n c : Nat) (k : Int) (w : World) (hs : Src w a n (fun i => k + i)) (hn : n ≤ 1048576) (hk0 : 0 ≤ k) (hk1 : k ≤ 1048576) :
    Calls Try.prog 116 #[.slice a n c, .int .i64 k] w fun e w' => e = .returned (.int .i64 (k + n)) ∧ w = w' := by
  have HS := Lib.hid hs
  clear hs
  go_enter Try.func116, Try.ntmps116
  go_wp2
  go_loop [1, 5] (fun q p => ∃ i : Nat, i ≤ n ∧ p = .int .i64 i ∧ q = .int .i64 (k + i)) (fun _ p => n - (intOf p).toNat)
  case atStart => exact ⟨0, Nat.zero_le _, rfl, by simp⟩
  case round =>
    obtain ⟨i, hi', rfl, rfl⟩ := hrel
    by_cases hlt : i < n
    · obtain ⟨b, off, rfl, hb, hc⟩ := src_some HS.out (by omega)
      have c1 := hc i hlt
      have hlt' : (i : Int) < (n : Int) := by omega
      clear hc
      go_wp2
      go_round
      case rel => exact ⟨i + 1, by omega, by go_num, by go_num⟩
      case measure => simp [intOf]; omega
    · go_wp2
      go_ret
      obtain rfl : i = n := by omega
      exact ⟨rfl, rfl⟩
end Go.Proofs.Ytaenbjilcgpgcaa

namespace Go.Proofs.Ytaenbjilcgpgcaa
open Go.RowKit
set_option linter.unusedVariables false

/-- Two halves of m words each, in blocks from lo to mid and from mid to hi: together F. -/
def Halves (w : World) (lo mid hi : Nat) (a1 a2 : Option Addr) (m : Nat) (F : Nat → Int) : Prop :=
  OwnIn w lo mid a1 m F ∧ OwnIn w mid hi a2 m (fun i => F (m + i))

theorem OwnIn.setCell {w : World} {lo hi : Nat} {a : Option Addr} {n : Nat} {f : Nat → Int} (h : OwnIn w lo hi a n f) {p : Addr} (hp : p.block < lo ∨ hi ≤ p.block) (u : Value) : OwnIn (w.setCell p u) lo hi a n f :=
  h.keeps (keeps_setCell (Nat.le_refl p.block) (Nat.lt_succ_self _) u) (by omega)

theorem OwnIn.out {w : World} {lo hi : Nat} {a : Option Addr} {n : Nat} {f : Nat → Int} (h : OwnIn w lo hi a n f) : Own w lo a n f := by
  rcases h with h | ⟨b, off, h1, h2, h3, h4⟩
  · exact .inl h
  · exact .inr ⟨b, off, h1, h2.1, h3, h4⟩

theorem OwnIn.widen {w : World} {lo hi lo' hi' : Nat} {a : Option Addr} {n : Nat} {f : Nat → Int} (h : OwnIn w lo hi a n f) (h1 : lo' ≤ lo) (h2 : hi ≤ hi') : OwnIn w lo' hi' a n f := by
  rcases h with h | ⟨b, off, g1, g2, g3, g4⟩
  · exact .inl h
  · exact .inr ⟨b, off, g1, by omega, g3, g4⟩

def upd (f : Nat → Int) (k : Nat) (v : Int) : Nat → Int := fun i => if i = k then v else f i

theorem Keeps.widen {w w' : World} {lo hi lo' hi' : Nat} (h : Keeps w w' lo hi) (h1 : lo' ≤ lo) (h2 : hi ≤ hi') : Keeps w w' lo' hi' :=
  ⟨h.os, h.tape, h.output, h.size, fun k hk hd => h.block k hk (by omega)⟩

theorem Halves.below {w w' : World} {lo mid hi : Nat} {a1 a2 : Option Addr} {m : Nat} {F : Nat → Int} (h : Halves w lo mid hi a1 a2 m F) (hb : Below w.heap.size w w') : Halves w' lo mid hi a1 a2 m F := ⟨h.1.below hb, h.2.below hb⟩

theorem Halves.alloc {w : World} {lo mid hi : Nat} {a1 a2 : Option Addr} {m : Nat} {F : Nat → Int} (h : Halves w lo mid hi a1 a2 m F) (o : Obj) : Halves (w.alloc o) lo mid hi a1 a2 m F := ⟨h.1.alloc o, h.2.alloc o⟩

theorem Src.keeps {w w' : World} {lo' hi' : Nat} {a : Option Addr} {n : Nat} {f : Nat → Int} (h : Src w a n f) (hk : Keeps w w' lo' hi') (hd : ∀ b off, a = some ⟨b, off, none⟩ → b < lo' ∨ hi' ≤ b) : Src w' a n f := by
  rcases h with h | ⟨b, off, h1, h3, h4⟩
  · exact .inl h
  · have e := hk.block b h3 (hd b off h1)
    exact .inr ⟨b, off, h1, Nat.lt_of_lt_of_le h3 hk.size, fun i hi => (World.cell?_of_block (w := w) (a := ⟨b, off + i, none⟩) e).trans (h4 i hi)⟩
end Go.Proofs.Ytaenbjilcgpgcaa

namespace Go.Proofs.Ytaenbjilcgpgcaa
open Go.RowKit
set_option linter.unusedVariables false

/-- A store into a known block. -/
theorem Blk.set {w : World} {b : Nat} {cs : List Value} (h : Blk w b cs) (i : Nat) (hi : i < cs.length) (v : Value) : Blk (w.setCell ⟨b, i, none⟩ v) b (cs.set i v) := by
  refine ⟨by simpa using h.1, fun j u hj => ?_⟩
  constructor
  · by_cases e : j = i
    · subst e
      rw [List.getElem?_set_self hi] at hj
      simp only [Option.some.injEq] at hj
      subst hj
      exact World.cell?_setCell_same w ⟨b, j, none⟩ v (h.2 j cs[j] (List.getElem?_eq_getElem hi)).1
    · rw [List.getElem?_set_ne (fun x => e x.symm)] at hj
      rw [World.cell?_setCell_other _ _ _ _ (by simp; try omega)]
      exact (h.2 j u hj).1
  · rw [World.frozen?_setCell]
    by_cases e : j = i
    · subst e; exact (h.2 j cs[j] (List.getElem?_eq_getElem hi)).2
    · rw [List.getElem?_set_ne (fun x => e x.symm)] at hj
      exact (h.2 j u hj).2

theorem Blk.other {w : World} {b : Nat} {cs : List Value} (h : Blk w b cs) {p : Addr} (hp : p.block ≠ b) (u : Value) : Blk (w.setCell p u) b cs :=
  h.keeps (keeps_setCell (Nat.le_refl p.block) (Nat.lt_succ_self _) u) (by omega)
end Go.Proofs.Ytaenbjilcgpgcaa

namespace Go.Proofs.Ytaenbjilcgpgcaa
open Go.RowKit
set_option linter.unusedVariables false

theorem Halves.congr {w : World} {lo mid hi : Nat} {a1 a2 : Option Addr} {m : Nat} {F G : Nat → Int} (h : Halves w lo mid hi a1 a2 m F) (e : ∀ i, i < 2 * m → F i = G i) : Halves w lo mid hi a1 a2 m G :=
  ⟨h.1.congr fun i hi => e i (by omega), h.2.congr fun i hi => e (m + i) (by omega)⟩
end Go.Proofs.Ytaenbjilcgpgcaa

namespace Go.Proofs.Ytaenbjilcgpgcaa
open Go.RowKit
set_option linter.unusedVariables false

/-- The bytes of a code, in a block below S. -/
def SrcB (w : World) (S : Nat) (a : Option Addr) (k : Nat) (B : Nat → Int) : Prop :=
  k = 0 ∨ ∃ b off, a = some ⟨b, off, none⟩ ∧ b < S ∧ b < w.heap.size ∧ ∀ i, i < k → w.cell? ⟨b, off + i, none⟩ = some (.int .u8 (B i)) ∧ 0 ≤ B i ∧ B i ≤ 255

theorem SrcB.keeps {w w' : World} {S lo hi : Nat} {a : Option Addr} {k : Nat} {B : Nat → Int} (h : SrcB w S a k B) (hk : Keeps w w' lo hi) (hS : S ≤ lo) : SrcB w' S a k B := by
  rcases h with h | ⟨b, off, h1, h2, h3, h4⟩
  · exact .inl h
  · have e := hk.block b h3 (.inl (by omega))
    exact .inr ⟨b, off, h1, h2, Nat.lt_of_lt_of_le h3 hk.size, fun i hi => ⟨(World.cell?_of_block (w := w) (a := ⟨b, off + i, none⟩) e).trans (h4 i hi).1, (h4 i hi).2⟩⟩

theorem SrcB.below {w w' : World} {S : Nat} {a : Option Addr} {k : Nat} {B : Nat → Int} (h : SrcB w S a k B) (hb : Below w.heap.size w w') : SrcB w' S a k B := by
  rcases h with h | ⟨b, off, h1, h2, h3, h4⟩
  · exact .inl h
  · exact .inr ⟨b, off, h1, h2, Nat.lt_of_lt_of_le h3 hb.size, fun i hi => ⟨(hb.cell (p := ⟨b, off + i, none⟩) h3).trans (h4 i hi).1, (h4 i hi).2⟩⟩

theorem SrcB.alloc {w : World} {S : Nat} {a : Option Addr} {k : Nat} {B : Nat → Int} (h : SrcB w S a k B) (o : Obj) : SrcB (w.alloc o) S a k B := h.below ((Below.refl _ _).alloc (Nat.le_refl _) o)

theorem SrcB.drew {w : World} {S : Nat} {a : Option Addr} {k : Nat} {B : Nat → Int} (h : SrcB w S a k B) : SrcB w.drew S a k B := h.below (Below.refl _ _).drew

theorem Keeps.alloc {w w1 : World} {lo hi : Nat} (h : Keeps w w1 lo hi) (o : Obj) : Keeps w (w1.alloc o) lo hi := h.trans (keeps_of_below ((Below.refl _ _).alloc (Nat.le_refl _) o) lo hi)

theorem Keeps.drew {w w1 : World} {lo hi : Nat} (h : Keeps w w1 lo hi) : Keeps w w1.drew lo hi := h.trans (keeps_of_below (Below.refl _ _).drew lo hi)

theorem SrcB.setCell {w : World} {S : Nat} {a : Option Addr} {k : Nat} {B : Nat → Int} (h : SrcB w S a k B) {p : Addr} (hp : S ≤ p.block) (u : Value) : SrcB (w.setCell p u) S a k B :=
  h.keeps (keeps_setCell (Nat.le_refl p.block) (Nat.lt_succ_self _) u) hp
end Go.Proofs.Ytaenbjilcgpgcaa

namespace Go.Proofs.Ytaenbjilcgpgcaa
open Go.RowKit
set_option linter.unusedVariables false

theorem SrcB.mono {w : World} {S S' : Nat} {a : Option Addr} {k : Nat} {B : Nat → Int} (h : SrcB w S a k B) (hS : S ≤ S') : SrcB w S' a k B := by
  rcases h with h | ⟨b, off, h1, h2, h3, h4⟩
  · exact .inl h
  · exact .inr ⟨b, off, h1, by omega, h3, h4⟩
end Go.Proofs.Ytaenbjilcgpgcaa

namespace Go.Proofs.Ytaenbjilcgpgcaa
open Go.RowKit
set_option linter.unusedVariables false

/-- 2 to the power of a number. -/
def P2 (s : Int) : Int := 2 ^ s.toNat

theorem P2_succ (i : Nat) : P2 ((i : Int) + 1) = P2 i * 2 := by
  unfold P2
  have : ((i : Int) + 1).toNat = (i : Int).toNat + 1 := by omega
  rw [this, Int.pow_succ]

theorem P2_pos (s : Int) : 1 ≤ P2 s := by
  unfold P2
  have : (0 : Int) < 2 ^ s.toNat := Int.pow_pos (by omega)
  omega

theorem P2_le {s : Int} (h : s ≤ 12) : P2 s ≤ 4096 := by
  unfold P2
  have h1 : s.toNat ≤ 12 := by omega
  have : (2 : Nat) ^ s.toNat ≤ 2 ^ 12 := Nat.pow_le_pow_right (by omega) h1
  have e : ((2 ^ s.toNat : Nat) : Int) = (2 : Int) ^ s.toNat := by simp
  rw [← e]; omega

set_option maxRecDepth 100000 in
set_option maxHeartbeats 400000 in
theorem power_any (n : Nat) (w : World) (hn : n ≤ 12) :
    Calls Try.prog 184 #[.int .i64 (n : Int)] w fun e w' => e = .returned (.int .i64 (P2 n)) ∧ w = w' := by
  go_enter Try.func184, Try.ntmps184
  go_wp2
  go_loop [3, 0] (fun q p => ∃ i : Nat, i ≤ n ∧ q = .int .i64 (P2 i) ∧ p = .int .i64 ((n : Int) - i)) (fun _ p => (intOf p).toNat)
  case atStart => exact ⟨0, Nat.zero_le _, rfl, by simp⟩
  case round =>
    obtain ⟨i, hi, rfl, rfl⟩ := hrel
    by_cases hlt : i < n
    · have h1 : 0 < (n : Int) - (i : Int) := by omega
      have h2 := P2_pos i
      have h3 := P2_le (s := (i : Int)) (by omega)
      go_wp2
      go_round
      case rel => exact ⟨i + 1, by omega, by rw [Int.natCast_succ, P2_succ], by simp; omega⟩
      case measure => simp [intOf]; omega
    · obtain rfl : i = n := by omega
      go_wp2
      go_ret
      exact ⟨rfl, rfl⟩
end Go.Proofs.Ytaenbjilcgpgcaa

namespace Go.Proofs.Ytaenbjilcgpgcaa
open Go.RowKit
set_option linter.unusedVariables false

theorem b3_blk {V : World} {B o : Nat} {cs : List Value} {v l g : Int} (hB : Blk V B cs) (h1 : cs[o]? = some (.int .i64 v)) (h2 : cs[o + 1]? = some (.int .i64 l)) (h3 : cs[o + 2]? = some (.int .i64 g)) : B3 V B o v l g :=
  ⟨hB.at o h1, hB.at (o + 1) h2, hB.at (o + 2) h3⟩

/-- isOutside, of three bounds in a block that is known. -/
theorem isOut3b (B : Nat) (V : World) (v0 l0 g0 v1 l1 g1 v2 l2 g2 : Int) (r : Bool) (hB : Blk V B [.int .i64 v0, .int .i64 l0, .int .i64 g0, .int .i64 v1, .int .i64 l1, .int .i64 g1, .int .i64 v2, .int .i64 l2, .int .i64 g2])
    (hr : (r = false ∧ (l0 ≤ v0 ∧ v0 ≤ g0) ∧ (l1 ≤ v1 ∧ v1 ≤ g1) ∧ (l2 ≤ v2 ∧ v2 ≤ g2)) ∨ (r = true ∧ ¬ ((l0 ≤ v0 ∧ v0 ≤ g0) ∧ (l1 ≤ v1 ∧ v1 ≤ g1) ∧ (l2 ≤ v2 ∧ v2 ≤ g2)))) :
    Calls Try.prog 79 #[.slice (some ⟨B, 0, none⟩) 3 3] V (RetBool V r) := by
  have hB3 : ∀ i, i < 3 → B3 V B (i * 3) (pick3 v0 v1 v2 i) (pick3 l0 l1 l2 i) (pick3 g0 g1 g2 i) := by
    intro i hi
    match i, hi with
    | 0, _ => exact b3_blk hB rfl rfl rfl
    | 1, _ => exact b3_blk hB rfl rfl rfl
    | 2, _ => exact b3_blk hB rfl rfl rfl
  rcases hr with ⟨rfl, hr⟩ | ⟨rfl, hr⟩
  · refine isOut_no B 3 _ _ _ _ (by omega) hB.1 hB3 (fun i hi => ?_)
    match i, hi with
    | 0, _ => exact hr.1
    | 1, _ => exact hr.2.1
    | 2, _ => exact hr.2.2
  · refine isOut_yes B 3 _ _ _ _ (by omega) hB.1 hB3 ?_
    by_cases h0 : l0 ≤ v0 ∧ v0 ≤ g0
    · by_cases h1 : l1 ≤ v1 ∧ v1 ≤ g1
      · exact ⟨2, by omega, fun h2 => hr ⟨h0, h1, h2⟩⟩
      · exact ⟨1, by omega, h1⟩
    · exact ⟨0, by omega, h0⟩

/-- What a head is. -/
def HOk (s m o h : Int) : Prop := (0 ≤ s ∧ s ≤ 12) ∧ (0 ≤ m ∧ m ≤ P2 s - 1) ∧ (0 ≤ o ∧ o ≤ 3) ∧ (0 ≤ h ∧ h ≤ 99999)

def IsHF (s m o h k : Int) : Prop := (HOk s m o h ∧ k = 0) ∨ (¬ HOk s m o h ∧ k = 3)

theorem isHF_some (s m o h : Int) : ∃ k, IsHF s m o h k := by
  by_cases x : HOk s m o h
  · exact ⟨0, .inl ⟨x, rfl⟩⟩
  · exact ⟨3, .inr ⟨x, rfl⟩⟩

set_option maxRecDepth 100000 in
set_option maxHeartbeats 400000 in
theorem implHF_size (s m o h : Int) (w : World) (h0 : ¬ (0 ≤ s ∧ s ≤ 12)) :
    Calls Try.prog 129 #[.agg #[.int .i64 s, .int .i64 m, .int .i64 o, .int .i64 h]] w (RetInt w 3) := by
  have H0 := Lib.hid h0
  clear h0
  go_enter Try.func129, Try.ntmps129
  go_wp2_with (go_at_call 79; (with_reducible refine (isOut1 _ _ _ _ _ true (by simp) (.inr ⟨rfl, H0.out⟩)).mono ?_); rintro e w1 ⟨rfl, hb⟩; obtain ⟨hc, hf⟩ := bcell hb; have HB := Lib.hid hb; have hz := hb.size; clear hb)
  go_ret
  exact ⟨rfl, (((Below.refl _ _).alloc (Nat.le_refl _) _).alloc (by simp) _).trans (HB.out.mono (by simp; try omega))⟩

set_option maxRecDepth 100000 in
set_option maxHeartbeats 800000 in
theorem implHF_rest (s m o h : Int) (r : Bool) (k : Int) (w : World) (h0 : 0 ≤ s ∧ s ≤ 12)
    (hr : (r = false ∧ (0 ≤ m ∧ m ≤ P2 s - 1) ∧ (0 ≤ o ∧ o ≤ 3) ∧ (0 ≤ h ∧ h ≤ 99999)) ∨ (r = true ∧ ¬ ((0 ≤ m ∧ m ≤ P2 s - 1) ∧ (0 ≤ o ∧ o ≤ 3) ∧ (0 ≤ h ∧ h ≤ 99999)))) (hk : k = if r then 3 else 0) :
    Calls Try.prog 129 #[.agg #[.int .i64 s, .int .i64 m, .int .i64 o, .int .i64 h]] w (RetInt w k) := by
  have H0 := Lib.hid h0
  have p1 := P2_pos s
  have p2 := P2_le h0.2
  have hwr : IntKind.i64.wrap (IntKind.i64.wrap (P2 s) - 1) = P2 s - 1 := by
    rw [IntWalk.i64_in (P2 s) (by omega), IntWalk.i64_in _ (by omega)]
  have HR : Hid ((r = false ∧ (0 ≤ m ∧ m ≤ IntKind.i64.wrap (IntKind.i64.wrap (P2 s) - 1)) ∧ (0 ≤ o ∧ o ≤ 3) ∧ (0 ≤ h ∧ h ≤ 99999)) ∨ (r = true ∧ ¬ ((0 ≤ m ∧ m ≤ IntKind.i64.wrap (IntKind.i64.wrap (P2 s) - 1)) ∧ (0 ≤ o ∧ o ≤ 3) ∧ (0 ≤ h ∧ h ≤ 99999)))) := by rw [hwr]; exact hr
  have HK := Lib.hid hk
  obtain ⟨q1, q2⟩ := h0
  have hmin : min s.toNat 64 = s.toNat := by omega
  have hpow : (2 : Int) ^ s.toNat = P2 s := rfl
  clear hr hk hwr
  go_enter Try.func129, Try.ntmps129
  go_wp2_with (go_at_call 79; (with_reducible refine (isOut1 _ _ _ _ _ false (by simp) (.inl ⟨rfl, H0.out⟩)).mono ?_); rintro e w1 ⟨rfl, hb⟩; have HB : Hid (Below w.heap.size w w1) := (((Below.refl _ _).alloc (Nat.le_refl _) _).alloc (by simp) _).trans (hb.mono (by simp; try omega)); have HH : Hid (Blk w1 w.heap.size [.int .i64 s, .int .i64 m, .int .i64 o, .int .i64 h]) := ((Blk.new_at (w.heap.size) rfl).alloc _).below hb; clear hb)
  have lH := HH.out.1
  have HHd := Lib.hid HH.out.drew
  have HBz : w.heap.size ≤ w1.heap.size := HB.out.size
  go_region_held3 (fun w' => w'.cell? ⟨w.heap.size, 0, none⟩ = some (.int .i64 s) ∧ w'.cell? ⟨w.heap.size, 1, none⟩ = some (.int .i64 m) ∧ w'.cell? ⟨w.heap.size, 2, none⟩ = some (.int .i64 o) ∧ w'.cell? ⟨w.heap.size, 3, none⟩ = some (.int .i64 h))
    (first | (with_reducible exact ⟨(HH.out).at 0 rfl, (HH.out).at 1 rfl, (HH.out).at 2 rfl, (HH.out).at 3 rfl⟩) | (with_reducible exact ⟨(HHd.out).at 0 rfl, (HHd.out).at 1 rfl, (HHd.out).at 2 rfl, (HHd.out).at 3 rfl⟩) | (with_reducible exact ⟨((HH.out.alloc _).drew).at 0 rfl, ((HH.out.alloc _).drew).at 1 rfl, ((HH.out.alloc _).drew).at 2 rfl, ((HH.out.alloc _).drew).at 3 rfl⟩) | (with_reducible exact ⟨(HH2.out).at 0 rfl, (HH2.out).at 1 rfl, (HH2.out).at 2 rfl, (HH2.out).at 3 rfl⟩))
    (first | (go_at_call 79; (with_reducible refine (isOut3b _ _ _ _ _ _ _ _ _ _ _ r (Blk.new_at (w1.heap.size) rfl).drew HR.out).mono ?_); rintro e w2 ⟨rfl, hb⟩; have HB2 : Hid (Below w.heap.size w w2) := ((HB.out.alloc HBz _).drew).trans (hb.mono (by simp; omega)); have HH2 := Lib.hid (((HH.out.alloc _).drew).below hb); clear hb))
  cases r
  · have hk : k = 0 := HK.out
    subst hk
    go_wp2
    go_ret
    exact ⟨rfl, HB2.out⟩
  · have hk : k = 3 := HK.out
    subst hk
    go_wp2
    go_ret
    exact ⟨rfl, HB2.out⟩

theorem implHF_any (s m o h k : Int) (w : World) (hk : IsHF s m o h k) : Calls Try.prog 129 #[.agg #[.int .i64 s, .int .i64 m, .int .i64 o, .int .i64 h]] w (RetInt w k) := by
  by_cases h0 : 0 ≤ s ∧ s ≤ 12
  · rcases hk with ⟨⟨_, h1⟩, rfl⟩ | ⟨h1, rfl⟩
    · exact implHF_rest s m o h false 0 w h0 (.inl ⟨rfl, h1⟩) rfl
    · exact implHF_rest s m o h true 3 w h0 (.inr ⟨rfl, fun x => h1 ⟨h0, x⟩⟩) rfl
  · rcases hk with ⟨⟨h1, _⟩, _⟩ | ⟨_, rfl⟩
    · exact absurd h1 h0
    · exact implHF_size s m o h w h0

set_option maxRecDepth 100000 in
set_option maxHeartbeats 800000 in
theorem specHF_s (s m o h : Int) (w : World) (hs : ¬ (0 ≤ s ∧ s ≤ 12)) : Calls Try.prog 161 #[.agg #[.int .i64 s, .int .i64 m, .int .i64 o, .int .i64 h]] w (RetInt w 3) := by
  go_enter Try.func161, Try.ntmps161
  go_wp2_with fail
  go_quiet (first | (with_reducible exact Calls.quiet_of_same (Calls.mono (l1In_no s 0 12 _ hs) fun _ _ hh => ⟨hh.1, hh.2.symm⟩)))
  go_wp2
  go_ret
  exact ⟨rfl, below_drewN ((Below.refl _ _).alloc (Nat.le_refl _) _) _⟩

set_option maxRecDepth 100000 in
set_option maxHeartbeats 800000 in
theorem specHF_m (S : Nat) (m o h : Int) (w : World) (hS : S ≤ 12) (hm : ¬ (0 ≤ m ∧ m ≤ P2 S - 1)) : Calls Try.prog 161 #[.agg #[.int .i64 (S : Int), .int .i64 m, .int .i64 o, .int .i64 h]] w (RetInt w 3) := by
  have p1 := P2_pos (S : Int)
  have p2 := P2_le (s := (S : Int)) (by omega)
  have hwr : IntKind.i64.wrap (P2 (S : Int) - 1) = P2 S - 1 := IntWalk.i64_in _ (by omega)
  go_enter Try.func161, Try.ntmps161
  go_wp2_with fail
  go_quiet (first | (with_reducible exact Calls.quiet_of_same (Calls.mono (l1In_yes (S : Int) 0 12 _ (by omega) (by omega)) fun _ _ hh => ⟨hh.1, hh.2.symm⟩)) | (with_reducible exact Calls.quiet_of_same (Calls.mono (l1In_no m 0 (P2 (S : Int) - 1) _ hm) fun _ _ hh => ⟨hh.1, hh.2.symm⟩)) | (with_reducible exact Calls.quiet_of_same (Calls.mono (power_any S _ hS) fun _ _ hh => ⟨hh.1, hh.2.symm⟩)))
  go_wp2
  go_ret
  exact ⟨rfl, below_drewN ((Below.refl _ _).alloc (Nat.le_refl _) _) _⟩

set_option maxRecDepth 100000 in
set_option maxHeartbeats 800000 in
theorem specHF_o (S : Nat) (m o h : Int) (w : World) (hS : S ≤ 12) (hm : 0 ≤ m ∧ m ≤ P2 S - 1) (ho : ¬ (0 ≤ o ∧ o ≤ 3)) : Calls Try.prog 161 #[.agg #[.int .i64 (S : Int), .int .i64 m, .int .i64 o, .int .i64 h]] w (RetInt w 3) := by
  have p1 := P2_pos (S : Int)
  have p2 := P2_le (s := (S : Int)) (by omega)
  have hwr : IntKind.i64.wrap (P2 (S : Int) - 1) = P2 S - 1 := IntWalk.i64_in _ (by omega)
  go_enter Try.func161, Try.ntmps161
  go_wp2_with fail
  go_quiet (first | (with_reducible exact Calls.quiet_of_same (Calls.mono (l1In_yes (S : Int) 0 12 _ (by omega) (by omega)) fun _ _ hh => ⟨hh.1, hh.2.symm⟩)) | (with_reducible exact Calls.quiet_of_same (Calls.mono (l1In_yes m 0 (P2 (S : Int) - 1) _ hm.1 hm.2) fun _ _ hh => ⟨hh.1, hh.2.symm⟩)) | (with_reducible exact Calls.quiet_of_same (Calls.mono (l1In_no o 0 3 _ ho) fun _ _ hh => ⟨hh.1, hh.2.symm⟩)) | (with_reducible exact Calls.quiet_of_same (Calls.mono (power_any S _ hS) fun _ _ hh => ⟨hh.1, hh.2.symm⟩)))
  go_wp2
  go_ret
  exact ⟨rfl, below_drewN ((Below.refl _ _).alloc (Nat.le_refl _) _) _⟩

set_option maxRecDepth 100000 in
set_option maxHeartbeats 800000 in
theorem specHF_h (S : Nat) (m o h : Int) (w : World) (hS : S ≤ 12) (hm : 0 ≤ m ∧ m ≤ P2 S - 1) (ho : 0 ≤ o ∧ o ≤ 3) (hh : ¬ (0 ≤ h ∧ h ≤ 99999)) : Calls Try.prog 161 #[.agg #[.int .i64 (S : Int), .int .i64 m, .int .i64 o, .int .i64 h]] w (RetInt w 3) := by
  have p1 := P2_pos (S : Int)
  have p2 := P2_le (s := (S : Int)) (by omega)
  have hwr : IntKind.i64.wrap (P2 (S : Int) - 1) = P2 S - 1 := IntWalk.i64_in _ (by omega)
  go_enter Try.func161, Try.ntmps161
  go_wp2_with fail
  go_quiet (first | (with_reducible exact Calls.quiet_of_same (Calls.mono (l1In_yes (S : Int) 0 12 _ (by omega) (by omega)) fun _ _ hh => ⟨hh.1, hh.2.symm⟩)) | (with_reducible exact Calls.quiet_of_same (Calls.mono (l1In_yes m 0 (P2 (S : Int) - 1) _ hm.1 hm.2) fun _ _ hh => ⟨hh.1, hh.2.symm⟩)) | (with_reducible exact Calls.quiet_of_same (Calls.mono (l1In_yes o 0 3 _ ho.1 ho.2) fun _ _ hh => ⟨hh.1, hh.2.symm⟩)) | (with_reducible exact Calls.quiet_of_same (Calls.mono (l1In_no h 0 99999 _ hh) fun _ _ hh => ⟨hh.1, hh.2.symm⟩)) | (with_reducible exact Calls.quiet_of_same (Calls.mono (power_any S _ hS) fun _ _ hh => ⟨hh.1, hh.2.symm⟩)))
  go_wp2
  go_ret
  exact ⟨rfl, below_drewN ((Below.refl _ _).alloc (Nat.le_refl _) _) _⟩

set_option maxRecDepth 100000 in
set_option maxHeartbeats 800000 in
theorem specHF_ok (S : Nat) (m o h : Int) (w : World) (hS : S ≤ 12) (hm : 0 ≤ m ∧ m ≤ P2 S - 1) (ho : 0 ≤ o ∧ o ≤ 3) (hh : 0 ≤ h ∧ h ≤ 99999) : Calls Try.prog 161 #[.agg #[.int .i64 (S : Int), .int .i64 m, .int .i64 o, .int .i64 h]] w (RetInt w 0) := by
  have p1 := P2_pos (S : Int)
  have p2 := P2_le (s := (S : Int)) (by omega)
  have hwr : IntKind.i64.wrap (P2 (S : Int) - 1) = P2 S - 1 := IntWalk.i64_in _ (by omega)
  go_enter Try.func161, Try.ntmps161
  go_wp2_with fail
  go_quiet (first | (with_reducible exact Calls.quiet_of_same (Calls.mono (l1In_yes (S : Int) 0 12 _ (by omega) (by omega)) fun _ _ hh => ⟨hh.1, hh.2.symm⟩)) | (with_reducible exact Calls.quiet_of_same (Calls.mono (l1In_yes m 0 (P2 (S : Int) - 1) _ hm.1 hm.2) fun _ _ hh => ⟨hh.1, hh.2.symm⟩)) | (with_reducible exact Calls.quiet_of_same (Calls.mono (l1In_yes o 0 3 _ ho.1 ho.2) fun _ _ hh => ⟨hh.1, hh.2.symm⟩)) | (with_reducible exact Calls.quiet_of_same (Calls.mono (l1In_yes h 0 99999 _ hh.1 hh.2) fun _ _ hh => ⟨hh.1, hh.2.symm⟩)) | (with_reducible exact Calls.quiet_of_same (Calls.mono (power_any S _ hS) fun _ _ hh => ⟨hh.1, hh.2.symm⟩)))
  go_wp2
  go_ret
  exact ⟨rfl, below_drewN ((Below.refl _ _).alloc (Nat.le_refl _) _) _⟩

theorem specHF_any (s m o h k : Int) (w : World) (hk : IsHF s m o h k) : Calls Try.prog 161 #[.agg #[.int .i64 s, .int .i64 m, .int .i64 o, .int .i64 h]] w (RetInt w k) := by
  by_cases h0 : 0 ≤ s ∧ s ≤ 12
  · obtain ⟨S, rfl⟩ : ∃ S : Nat, s = S := ⟨s.toNat, by omega⟩
    have hS : S ≤ 12 := by omega
    rcases hk with ⟨⟨_, h1, h2, h3⟩, rfl⟩ | ⟨hn, rfl⟩
    · exact specHF_ok S m o h w hS h1 h2 h3
    · by_cases h1 : 0 ≤ m ∧ m ≤ P2 S - 1
      · by_cases h2 : 0 ≤ o ∧ o ≤ 3
        · exact specHF_h S m o h w hS h1 h2 (fun h3 => hn ⟨h0, h1, h2, h3⟩)
        · exact specHF_o S m o h w hS h1 h2
      · exact specHF_m S m o h w hS h1
  · rcases hk with ⟨⟨h1, _⟩, _⟩ | ⟨_, rfl⟩
    · exact absurd h1 h0
    · exact specHF_s s m o h w h0
end Go.Proofs.Ytaenbjilcgpgcaa

namespace Go.Proofs.Ytaenbjilcgpgcaa
open Go.RowKit
set_option linter.unusedVariables false

/-- The low bits of a number. -/
theorem bits_and_low (j : Nat) (hj : j ≤ 20) (x : Int) : bits .and .i64 x ((2 ^ j - 1 : Nat) : Int) = x % ((2 ^ j : Nat) : Int) := by
  have hp : (2 : Nat) ^ j ≤ 2 ^ 20 := Nat.pow_le_pow_right (by omega) hj
  have hp0 : 0 < (2 : Nat) ^ j := Nat.two_pow_pos j
  have hdv : ((2 ^ j : Nat) : Int) ∣ (2 : Int) ^ 64 := ⟨((2 ^ (64 - j) : Nat) : Int), by rw [← Int.natCast_mul, ← Nat.pow_add]; rw [show j + (64 - j) = 64 by omega]; rfl⟩
  have e1 : (BitVec.ofInt 64 x).toNat = (x % 2 ^ 64).toNat := by simp [BitVec.toNat_ofInt]
  have e2 : (BitVec.ofInt 64 ((2 ^ j - 1 : Nat) : Int)).toNat = 2 ^ j - 1 := by
    rw [BitVec.toNat_ofInt]; omega
  have e3 : (BitVec.ofInt 64 x &&& BitVec.ofInt 64 ((2 ^ j - 1 : Nat) : Int)).toNat = (x % 2 ^ 64).toNat % 2 ^ j := by
    rw [BitVec.toNat_and, e1, e2, Nat.and_two_pow_sub_one_eq_mod]
  have e4 : (((x % 2 ^ 64).toNat % 2 ^ j : Nat) : Int) = x % ((2 ^ j : Nat) : Int) := by
    rw [Int.natCast_emod, Int.toNat_of_nonneg (Int.emod_nonneg _ (by decide)), Int.emod_emod_of_dvd _ hdv]
  have e5 : bits .and .i64 x ((2 ^ j - 1 : Nat) : Int) = IntKind.i64.wrap (((x % 2 ^ 64).toNat % 2 ^ j : Nat) : Int) := by rw [← e3]; rfl
  rw [e5, e4, IntWalk.i64_in _ (by have := Int.emod_nonneg x (b := ((2 ^ j : Nat) : Int)) (by omega); have := Int.emod_lt_of_pos x (b := ((2 ^ j : Nat) : Int)) (by omega); omega)]

theorem bits_and_1 (x : Int) : bits .and .i64 x 1 = x % 2 := bits_and_low 1 (by omega) x
end Go.Proofs.Ytaenbjilcgpgcaa

namespace Go.Proofs.Ytaenbjilcgpgcaa
open Go.RowKit
set_option linter.unusedVariables false

def I64 (a : Int) : Prop := -9223372036854775808 ≤ a ∧ a ≤ 9223372036854775807
end Go.Proofs.Ytaenbjilcgpgcaa

namespace Go.Proofs.Ytaenbjilcgpgcaa
open Go.RowKit
set_option linter.unusedVariables false

set_option maxRecDepth 100000 in
set_option maxHeartbeats 1600000 in
theorem implIP_in (s m o h i : Int) (w : World) (hk : HOk s m o h) (h0 : 0 ≤ i ∧ i ≤ s - 1) :
    Calls Try.prog 155 #[.agg #[.int .i64 s, .int .i64 m, .int .i64 o, .int .i64 h], .int .i64 i] w (RetBool w (m / P2 i % 2 == 1)) := by
  obtain ⟨q1, q2⟩ := hk.1
  have H0 := Lib.hid h0
  have hk' : IsHF s m o h 0 := .inl ⟨hk, rfl⟩
  have HK := Lib.hid hk'
  clear hk'
  obtain ⟨q3, q4⟩ := h0
  have q5 := hk.2.1.1
  have hmin : min i.toNat 64 = i.toNat := by omega
  have hpow : (2 : Int) ^ i.toNat = P2 i := rfl
  have hbit : bits .and .i64 (m / P2 i) 1 = m / P2 i % 2 := bits_and_1 _
  clear hk
  go_enter Try.func155, Try.ntmps155
  go_wp2_with fail
  refine (implHF_any s m o h 0 _ HK.out).mono ?_
  rintro e w1 ⟨rfl, hb⟩
  have HB1 : Hid (Below w.heap.size w w1) := thru1 (Below.refl _ _) hb
  have z1 : w.heap.size + 1 ≤ w1.heap.size := by have := hb.size; simp at this; omega
  have H_1 := Lib.hid ((Blk.new_at (w.heap.size) (by simp)).below hb)
  clear hb
  have lH := H_1.out.1
  have cH0 := H_1.out.at 0 rfl
  have cH1 := H_1.out.at 1 rfl
  go_wp2_with fail
  refine (isOut1 _ _ _ _ _ false (by simp) (.inl ⟨rfl, H0.out⟩)).mono ?_
  rintro e w2 ⟨rfl, hb⟩
  have HB2 : Hid (Below w.heap.size w w2) := thru1 HB1.out hb
  have z2 : w1.heap.size + 1 ≤ w2.heap.size := by have := hb.size; simp at this; omega
  have H_2 := Lib.hid ((H_1.out.alloc _).below hb)
  clear hb lH cH0 cH1 H_1 HB1
  have lH := H_2.out.1
  have cH0 := H_2.out.at 0 rfl
  have cH1 := H_2.out.at 1 rfl
  go_wp2
  go_ret
  exact ⟨rfl, HB2.out⟩
end Go.Proofs.Ytaenbjilcgpgcaa

namespace Go.Proofs.Ytaenbjilcgpgcaa
open Go.RowKit
set_option linter.unusedVariables false

/-- Two numbers in a row. -/
def two (a b : Int) : Nat → Int := fun i => if i = 0 then a else b
end Go.Proofs.Ytaenbjilcgpgcaa

namespace Go.Proofs.Ytaenbjilcgpgcaa
open Go.ChangeShapes Go.WideShapes Go.ChangeAt Go.RowKit Go.Joins
set_option linter.unusedVariables false
set_option maxRecDepth 100000

theorem Try.own : ownKnob Try.prog.godebug = none := by kernel_rfl

theorem Try.laidOut : laidOutB Try.prog = true := by kernel_rfl
end Go.Proofs.Ytaenbjilcgpgcaa

namespace Go.Proofs.Ytaenbjilcgpgcaa
open Go.RowKit
set_option linter.unusedVariables false

/-- An object as the model tells it: its place and its head. -/
structure Ob where
  at_ : Int
  s : Int
  m : Int
  o : Int
  h : Int

/-- An object in memory: where its fields are. -/
structure OM where
  x : Ob
  g : Nat
  c : Nat

def OM.cells (t : OM) : List Value := [.int .i64 t.x.at_, .int .i64 t.x.s, .int .i64 t.x.m, .int .i64 t.x.o, .int .i64 t.x.h, .slice (some ⟨t.g, 0, none⟩) t.x.s.toNat t.c]

def rowCells (M : List OM) : List Value := M.flatMap OM.cells

/-- Each object's fields are a row of their own, in the order of the objects. -/
def Flds (w : World) (lo : Nat) (f : Nat → Int) (v : Value) (M : List OM) : Prop :=
  (∀ t ∈ M, lo ≤ t.g ∧ t.g < w.heap.size ∧ some t.g ≠ v.ownBlock ∧ ∀ k, k < t.x.s.toNat → w.cell? ⟨t.g, k, none⟩ = some (.int .i64 (f (t.x.at_.toNat + 2 + k))) ∧ w.frozen? ⟨t.g, k, none⟩ = false) ∧ M.Pairwise (fun t u => t.g < u.g)

theorem ownsRow_below {w w' : World} {base e size n : Nat} {v : Value} {xs : List Value} (h : w.ownsRow base e size v n xs) (hb : Below w.heap.size w w') : w'.ownsRow base e size v n xs := by
  refine ⟨h.1, ?_⟩
  rcases h.2 with h0 | ⟨g, cap, cur, h1, h2, h3, h4⟩
  · exact .inl h0
  · have hg : g < w.heap.size := by
      rcases Nat.lt_or_ge g w.heap.size with hlt | hge
      · exact hlt
      · rw [Array.getElem?_eq_none hge] at h3; cases h3
    exact .inr ⟨g, cap, cur, h1, h2, (hb.block g hg).trans h3, h4⟩

theorem Flds.below {w w' : World} {lo : Nat} {f : Nat → Int} {v : Value} {M : List OM} (h : Flds w lo f v M) (hb : Below w.heap.size w w') : Flds w' lo f v M :=
  ⟨fun t ht => by
    obtain ⟨h1, h2, h3, h4⟩ := h.1 t ht
    exact ⟨h1, Nat.lt_of_lt_of_le h2 hb.size, h3, fun k hk => ⟨(hb.cell (p := ⟨t.g, k, none⟩) h2).trans (h4 k hk).1, (hb.frozen (p := ⟨t.g, k, none⟩) h2).trans (h4 k hk).2⟩⟩, h.2⟩

/-- A row is copied into memory of the call's own, at a block that is named. -/
def RetCopy (W : World) (n : Nat) (f : Nat → Int) (e : Ending) (w' : World) : Prop :=
  ∃ g cap, e = .returned (.slice (some ⟨g, 0, none⟩) n cap) ∧ W.heap.size ≤ g ∧ g < w'.heap.size ∧ (∀ k, k < n → w'.cell? ⟨g, k, none⟩ = some (.int .i64 (f k)) ∧ w'.frozen? ⟨g, k, none⟩ = false) ∧ Below W.heap.size W w' ∧ n ≤ cap ∧ cap ≤ maxLen

theorem retCopy_of {W w' : World} {n : Nat} {f : Nat → Int} {v : Value} (h : w'.ownsRow W.heap.size 2 1 v n (nums n f)) (hne : v ≠ .slice none 0 0) (hb : Below W.heap.size W w') : RetCopy W n f (.returned v) w' := by
  have h0 := h
  rcases h.2 with ⟨h1, _⟩ | ⟨g, cap, cur, h1, hB, hg, hnc, hcm, _⟩
  · exact absurd h1 hne
  · subst h1
    refine ⟨g, cap, rfl, hB, ?_, fun k hk => ?_, hb, hnc, hcm⟩
    · rcases Nat.lt_or_ge g w'.heap.size with hlt | hge
      · exact hlt
      · rw [Array.getElem?_eq_none hge] at hg; cases hg
    · have := h0.cellAt k (by omega)
      rw [nums_get n f k hk] at this
      exact ⟨by simpa using this, by simpa using h0.frozenAt k⟩

set_option maxHeartbeats 400000 in
theorem l1Ints_all (ad : Addr) (n cap : Nat) (f : Nat → Int) (w : World) (hs : Src w (some ad) n f) (hn : n ≤ 1048576) :
    Calls Try.prog 160 #[.slice (some ad) n cap] w (RetCopy w n f) := by
  obtain ⟨i0, hi, hz0, hz1, hz2⟩ := info_parts Try.info2
  have hc' : ∀ (j : Nat) (u : Value), (nums n f)[j]? = some u → (w.alloc (.cells #[] 2)).cell? (ad.add j) = some u := fun j u h => by
    by_cases hp : 0 < n
    · obtain ⟨b, off, he, hb, hc⟩ := src_some hs hp
      cases he
      have := news_at hc j u h
      exact (((Below.refl w.heap.size w).alloc (Nat.le_refl _) _).cell (p := (⟨b, off, none⟩ : Addr).add j) (by rcases j with _ | j <;> simpa [Addr.add] using hb)).trans this
    · obtain rfl : n = 0 := by omega
      simp [nums] at h
  have HC := Lib.hid hc'
  clear hc' hs
  go_enter Try.func160, Try.ntmps160
  go_wp2_with (at_builtin; refine wpList_append_own _ rfl _ _ 24 rfl w.heap.size 2 i0 (.int .i64 0) 1 8 Try.underlying24 hi hz0 hz1 hz2 rfl (by decide) _ 0 [] rfl (World.ownsRow_lit w #[] 0 (Nat.le_refl _) (by simp [maxLen]) rfl) ad n cap (nums n f) rfl (by simp [nums]) HC.out (nums_one n f) (by unfold maxLen; omega) (by omega) (by simp) ?_; intro v' w1 hown hgrow hnil)
  go_ret
  exact retCopy_of (by simpa using hown) (fun h => by cases (hnil.mp h).1) (((Below.refl _ _).alloc (Nat.le_refl _) _).grown hgrow (by simp) (by intro k hk; cases hk; exact Nat.le_refl _))
end Go.Proofs.Ytaenbjilcgpgcaa

namespace Go.Proofs.Ytaenbjilcgpgcaa
open Go.RowKit
set_option linter.unusedVariables false

theorem ownBlock_ge {w : World} {base e size n : Nat} {v : Value} {xs : List Value} (h : w.ownsRow base e size v n xs) {g : Nat} (hg : v.ownBlock = some g) : base ≤ g := by
  rcases h.2 with ⟨rfl, _⟩ | ⟨g', cap, cur, rfl, hb, _⟩
  · simp [Value.ownBlock] at hg
  · simp only [Value.ownBlock, Option.some.injEq] at hg
    omega
end Go.Proofs.Ytaenbjilcgpgcaa

namespace Go.Proofs.Ytaenbjilcgpgcaa
open Go.RowKit
set_option linter.unusedVariables false

/-- What a row of objects holds at a place. -/
def ObAt (w : World) (gb i : Nat) (t : OM) : Prop := ∀ j u, t.cells[j]? = some u → w.cell? ⟨gb, i * 6 + j, none⟩ = some u

/-- The fields of an object in memory. -/
theorem Flds.src {w : World} {lo : Nat} {f : Nat → Int} {v : Value} {M : List OM} (h : Flds w lo f v M) {t : OM} (ht : t ∈ M) : Src w (some ⟨t.g, 0, none⟩) t.x.s.toNat (fun k => f (t.x.at_.toNat + 2 + k)) := by
  obtain ⟨_, a2, _, a4⟩ := h.1 t ht
  exact .inr ⟨t.g, 0, rfl, a2, fun k hk => by rw [Nat.zero_add]; exact (a4 k hk).1⟩

theorem ObAt.below {w w' : World} {gb i : Nat} {t : OM} (h : ObAt w gb i t) (hb : Below w.heap.size w w') (hg : gb < w.heap.size) : ObAt w' gb i t := fun j u hu => (hb.cell (p := ⟨gb, i * 6 + j, none⟩) hg).trans (h j u hu)

/-- The six cells of an object, written out. -/
def Six (w : World) (gb o : Nat) (x : Ob) (g c : Nat) : Prop := w.cell? ⟨gb, o, none⟩ = some (.int .i64 x.at_) ∧ w.cell? ⟨gb, o + 1, none⟩ = some (.int .i64 x.s) ∧ w.cell? ⟨gb, o + 2, none⟩ = some (.int .i64 x.m) ∧ w.cell? ⟨gb, o + 3, none⟩ = some (.int .i64 x.o) ∧ w.cell? ⟨gb, o + 4, none⟩ = some (.int .i64 x.h) ∧ w.cell? ⟨gb, o + 5, none⟩ = some (.slice (some ⟨g, 0, none⟩) x.s.toNat c)

theorem ObAt.six {w : World} {gb i : Nat} {t : OM} (h : ObAt w gb i t) : Six w gb (i * 6) t.x t.g t.c :=
  ⟨h 0 _ rfl, h 1 _ rfl, h 2 _ rfl, h 3 _ rfl, h 4 _ rfl, h 5 _ rfl⟩

theorem Six.below {w w' : World} {gb o : Nat} {x : Ob} {g c : Nat} (h : Six w gb o x g c) (hb : Below w.heap.size w w') (hg : gb < w.heap.size) : Six w' gb o x g c :=
  ⟨(hb.cell (p := ⟨gb, o, none⟩) hg).trans h.1, (hb.cell (p := ⟨gb, o + 1, none⟩) hg).trans h.2.1, (hb.cell (p := ⟨gb, o + 2, none⟩) hg).trans h.2.2.1, (hb.cell (p := ⟨gb, o + 3, none⟩) hg).trans h.2.2.2.1, (hb.cell (p := ⟨gb, o + 4, none⟩) hg).trans h.2.2.2.2.1, (hb.cell (p := ⟨gb, o + 5, none⟩) hg).trans h.2.2.2.2.2⟩
end Go.Proofs.Ytaenbjilcgpgcaa

namespace Go.Proofs.Ytaenbjilcgpgcaa
open Go.RowKit
set_option linter.unusedVariables false

theorem Flds.mono {w : World} {lo lo' : Nat} {f : Nat → Int} {v : Value} {M : List OM} (h : Flds w lo f v M) (hl : lo' ≤ lo) : Flds w lo' f v M :=
  ⟨fun t ht => by obtain ⟨a1, a2⟩ := h.1 t ht; exact ⟨Nat.le_trans hl a1, a2⟩, h.2⟩

theorem Flds.other {w : World} {lo : Nat} {f : Nat → Int} {v : Value} {M : List OM} (h : Flds w lo f v M) {p : Addr} (hp : p.block < lo) (u : Value) : Flds (w.setCell p u) lo f v M :=
  ⟨fun t ht => by
    obtain ⟨a1, a2, a3, a4⟩ := h.1 t ht
    have e : (w.setCell p u).heap[t.g]? = w.heap[t.g]? := Below.heap_setCell w p u t.g (by omega)
    exact ⟨a1, by simpa using a2, a3, fun k hk => ⟨(World.cell?_of_block (w := w) (a := ⟨t.g, k, none⟩) e).trans (a4 k hk).1, (World.frozen?_of_block (w := w) (a := ⟨t.g, k, none⟩) e).trans (a4 k hk).2⟩⟩, h.2⟩
end Go.Proofs.Ytaenbjilcgpgcaa

namespace Go.Proofs.Ytaenbjilcgpgcaa
open Go.RowKit
set_option linter.unusedVariables false

/-- The object at a place. -/
def findO (L : List Ob) (a : Int) : Option Ob := L.find? (fun x => x.at_ == a)

/-- A pointer of an owner leads to an object of its own, or nowhere. -/
def leadsB (L : List Ob) (owner value : Int) : Bool := if value = 0 then true else match findO L (value - 1) with | some x => x.o == owner | none => false
end Go.Proofs.Ytaenbjilcgpgcaa

namespace Go.Proofs.Ytaenbjilcgpgcaa
open Go.RowKit
set_option linter.unusedVariables false

/-- All pointers lead where they may. -/
def Points (f : Nat → Int) (L : List Ob) : Prop := ∀ x ∈ L, ∀ k : Nat, (k : Int) < x.s → x.m / P2 k % 2 = 1 → leadsB L x.o (f (x.at_.toNat + 2 + k)) = true

set_option maxHeartbeats 800000 in
theorem l2Pointer_at (b off I : Nat) (m : Int) (r : Bool) (w : World) (c1 : w.cell? ⟨b, off + 1, none⟩ = some (.int .i64 m)) (hm : 0 ≤ m ∧ m ≤ 4095) (hI : I ≤ 12) (hr : r = (m / P2 I % 2 == 1)) :
    Calls Try.prog 135 #[.pointer (some ⟨b, off, none⟩), .int .i64 (I : Int)] w fun e w' => e = .returned (.bool r) ∧ ∃ q, w' = w.drewN q := by
  subst hr
  obtain ⟨m1, m2⟩ := hm
  have p1 := P2_pos (I : Int)
  have p2 := P2_le (s := (I : Int)) (by omega)
  have hne : ¬ P2 (I : Int) = 0 := by omega
  have hq : m.tdiv (P2 I) = m / P2 I := Int.tdiv_eq_ediv_of_nonneg m1
  have g1 : 0 ≤ m / P2 I := Int.ediv_nonneg m1 (by omega)
  have g2 : m / P2 I ≤ m := Int.ediv_le_self _ m1
  have hr : (m / P2 I).tmod 2 = m / P2 I % 2 := Int.tmod_eq_emod_of_nonneg g1
  go_enter Try.func135, Try.ntmps135
  go_wp2
  go_quiet (with_reducible exact Calls.quiet_of_same (Calls.mono (power_any I _ hI) fun _ _ hh => ⟨hh.1, hh.2.symm⟩))
  go_wp2
  go_ret
  exact ⟨rfl, _, rfl⟩

theorem drewN_below (w : World) (q : Nat) : Below w.heap.size w (w.drewN q) := below_drewN (Below.refl _ _) q
end Go.Proofs.Ytaenbjilcgpgcaa

namespace Go.Proofs.Ytaenbjilcgpgcaa
open Go.RowKit
set_option linter.unusedVariables false

theorem blk_under {w w' : World} {B b : Nat} {cs : List Value} (h : Blk w b cs) (hb : Below B w w') (hB : b < B) : Blk w' b cs :=
  ⟨Nat.lt_of_lt_of_le h.1 hb.size, fun i u hu => ⟨(hb.cell (p := ⟨b, i, none⟩) hB).trans (h.2 i u hu).1, (hb.frozen (p := ⟨b, i, none⟩) hB).trans (h.2 i u hu).2⟩⟩
end Go.Proofs.Ytaenbjilcgpgcaa

namespace Go.Proofs.Ytaenbjilcgpgcaa
open Go.RowKit
set_option linter.unusedVariables false

/-- An object in memory, whatever it holds. -/
structure GM where
  at_ : Int
  s : Int
  m : Int
  o : Int
  h : Int
  a : Option Addr
  n : Nat
  c : Nat
  f : Nat → Int

def GM.g (t : GM) : Nat := match t.a with | some p => p.block | none => 0

def SixG (w : World) (b o : Nat) (t : GM) : Prop := w.cell? ⟨b, o, none⟩ = some (.int .i64 t.at_) ∧ w.cell? ⟨b, o + 1, none⟩ = some (.int .i64 t.s) ∧ w.cell? ⟨b, o + 2, none⟩ = some (.int .i64 t.m) ∧ w.cell? ⟨b, o + 3, none⟩ = some (.int .i64 t.o) ∧ w.cell? ⟨b, o + 4, none⟩ = some (.int .i64 t.h) ∧ w.cell? ⟨b, o + 5, none⟩ = some (.slice t.a t.n t.c)

def SixF (w : World) (b o : Nat) : Prop := w.frozen? ⟨b, o, none⟩ = false ∧ w.frozen? ⟨b, o + 1, none⟩ = false ∧ w.frozen? ⟨b, o + 2, none⟩ = false ∧ w.frozen? ⟨b, o + 3, none⟩ = false ∧ w.frozen? ⟨b, o + 4, none⟩ = false ∧ w.frozen? ⟨b, o + 5, none⟩ = false

theorem SixG.block {w w' : World} {b o : Nat} {t : GM} (h : SixG w b o t) (e : w'.heap[b]? = w.heap[b]?) : SixG w' b o t :=
  ⟨(World.cell?_of_block (w := w) (a := ⟨b, o, none⟩) e).trans h.1, (World.cell?_of_block (w := w) (a := ⟨b, o + 1, none⟩) e).trans h.2.1, (World.cell?_of_block (w := w) (a := ⟨b, o + 2, none⟩) e).trans h.2.2.1, (World.cell?_of_block (w := w) (a := ⟨b, o + 3, none⟩) e).trans h.2.2.2.1, (World.cell?_of_block (w := w) (a := ⟨b, o + 4, none⟩) e).trans h.2.2.2.2.1, (World.cell?_of_block (w := w) (a := ⟨b, o + 5, none⟩) e).trans h.2.2.2.2.2⟩

theorem SixF.block {w w' : World} {b o : Nat} (h : SixF w b o) (e : w'.heap[b]? = w.heap[b]?) : SixF w' b o :=
  ⟨(World.frozen?_of_block (w := w) (a := ⟨b, o, none⟩) e).trans h.1, (World.frozen?_of_block (w := w) (a := ⟨b, o + 1, none⟩) e).trans h.2.1, (World.frozen?_of_block (w := w) (a := ⟨b, o + 2, none⟩) e).trans h.2.2.1, (World.frozen?_of_block (w := w) (a := ⟨b, o + 3, none⟩) e).trans h.2.2.2.1, (World.frozen?_of_block (w := w) (a := ⟨b, o + 4, none⟩) e).trans h.2.2.2.2.1, (World.frozen?_of_block (w := w) (a := ⟨b, o + 5, none⟩) e).trans h.2.2.2.2.2⟩

theorem SixG.below {w w' : World} {b o : Nat} {t : GM} (h : SixG w b o t) (hb : Below w.heap.size w w') (hl : b < w.heap.size) : SixG w' b o t := h.block (hb.block b hl)

theorem SixF.below {w w' : World} {b o : Nat} (h : SixF w b o) (hb : Below w.heap.size w w') (hl : b < w.heap.size) : SixF w' b o := h.block (hb.block b hl)

theorem SixG.keeps {w w' : World} {b o lo hi : Nat} {t : GM} (h : SixG w b o t) (hk : Keeps w w' lo hi) (hl : b < w.heap.size) (hd : b < lo ∨ hi ≤ b) : SixG w' b o t := h.block (hk.block b hl hd)

theorem SixF.keeps {w w' : World} {b o lo hi : Nat} (h : SixF w b o) (hk : Keeps w w' lo hi) (hl : b < w.heap.size) (hd : b < lo ∨ hi ≤ b) : SixF w' b o := h.block (hk.block b hl hd)

/-- A row of objects is read. -/
structure GSrc (w : World) (b q N : Nat) (T : Nat → GM) : Prop where
  lt : b < w.heap.size
  six : ∀ i, i < N → SixG w b (q + i * 6) (T i)
  flds : ∀ i, i < N → Src w (T i).a (T i).n (T i).f

/-- A row of objects of the call's own, in blocks from lo to hi. -/
structure GOwn (w : World) (lo hi b q N : Nat) (T : Nat → GM) : Prop where
  glo : lo ≤ b
  ghi : b < hi
  lt : b < w.heap.size
  six : ∀ i, i < N → SixG w b (q + i * 6) (T i)
  free : ∀ i, i < N → SixF w b (q + i * 6)
  flds : ∀ i, i < N → OwnIn w lo hi (T i).a (T i).n (T i).f
  off : ∀ i, i < N → (T i).n = 0 ∨ (T i).g ≠ b
  apart : ∀ i j, i < N → j < N → i ≠ j → (T i).n = 0 ∨ (T j).n = 0 ∨ (T i).g ≠ (T j).g

theorem GOwn.src {w : World} {lo hi b q N : Nat} {T : Nat → GM} (h : GOwn w lo hi b q N T) : GSrc w b q N T := ⟨h.lt, h.six, fun i hi => (h.flds i hi).src⟩

theorem GSrc.below {w w' : World} {b q N : Nat} {T : Nat → GM} (h : GSrc w b q N T) (hb : Below w.heap.size w w') : GSrc w' b q N T :=
  ⟨Nat.lt_of_lt_of_le h.lt hb.size, fun i hi => (h.six i hi).below hb h.lt, fun i hi => (h.flds i hi).below hb⟩

theorem GOwn.below {w w' : World} {lo hi b q N : Nat} {T : Nat → GM} (h : GOwn w lo hi b q N T) (hb : Below w.heap.size w w') : GOwn w' lo hi b q N T :=
  ⟨h.glo, h.ghi, Nat.lt_of_lt_of_le h.lt hb.size, fun i hi => (h.six i hi).below hb h.lt, fun i hi => (h.free i hi).below hb h.lt, fun i hi => (h.flds i hi).below hb, h.off, h.apart⟩

theorem GOwn.keeps {w w' : World} {lo hi lo' hi' b q N : Nat} {T : Nat → GM} (h : GOwn w lo hi b q N T) (hk : Keeps w w' lo' hi') (hd : hi ≤ lo' ∨ hi' ≤ lo) : GOwn w' lo hi b q N T := by
  have h1 := h.glo; have h2 := h.ghi
  exact ⟨h.glo, h.ghi, Nat.lt_of_lt_of_le h.lt hk.size, fun i hi => (h.six i hi).keeps hk h.lt (by omega), fun i hi => (h.free i hi).keeps hk h.lt (by omega), fun i hi => (h.flds i hi).keeps hk hd, h.off, h.apart⟩

theorem GSrc.keeps {w w' : World} {lo hi b q N : Nat} {T : Nat → GM} (h : GSrc w b q N T) (hk : Keeps w w' lo hi) (hd : b < lo ∨ hi ≤ b) (hf : ∀ i, i < N → (T i).n = 0 ∨ (T i).g < lo ∨ hi ≤ (T i).g) : GSrc w' b q N T := by
  refine ⟨Nat.lt_of_lt_of_le h.lt hk.size, fun i hi => (h.six i hi).keeps hk h.lt hd, fun i hi => ?_⟩
  rcases h.flds i hi with h0 | ⟨b', o', he, hl, hc⟩
  · exact .inl h0
  · rcases hf i hi with h0 | hf
    · exact .inl h0
    · have hg : (T i).g = b' := by simp [GM.g, he]
      have e := hk.block b' hl (by omega)
      exact .inr ⟨b', o', he, Nat.lt_of_lt_of_le hl hk.size, fun k hk' => (World.cell?_of_block (w := w) (a := ⟨b', o' + k, none⟩) e).trans (hc k hk')⟩

theorem GSrc.drew {w : World} {b q N : Nat} {T : Nat → GM} (h : GSrc w b q N T) : GSrc w.drew b q N T := h.below (Below.refl _ _).drew

theorem GSrc.alloc {w : World} {b q N : Nat} {T : Nat → GM} (h : GSrc w b q N T) (o : Obj) : GSrc (w.alloc o) b q N T := h.below ((Below.refl _ _).alloc (Nat.le_refl _) o)

theorem GOwn.drew {w : World} {lo hi b q N : Nat} {T : Nat → GM} (h : GOwn w lo hi b q N T) : GOwn w.drew lo hi b q N T := h.below (Below.refl _ _).drew

theorem GOwn.alloc {w : World} {lo hi b q N : Nat} {T : Nat → GM} (h : GOwn w lo hi b q N T) (o : Obj) : GOwn (w.alloc o) lo hi b q N T := h.below ((Below.refl _ _).alloc (Nat.le_refl _) o)

theorem GSrc.congr {w : World} {b q N : Nat} {T U : Nat → GM} (h : GSrc w b q N T) (e : ∀ i, i < N → T i = U i) : GSrc w b q N U :=
  ⟨h.lt, fun i hi => by rw [← e i hi]; exact h.six i hi, fun i hi => by rw [← e i hi]; exact h.flds i hi⟩

theorem GOwn.congr {w : World} {lo hi b q N : Nat} {T U : Nat → GM} (h : GOwn w lo hi b q N T) (e : ∀ i, i < N → T i = U i) : GOwn w lo hi b q N U :=
  ⟨h.glo, h.ghi, h.lt, fun i hi => by rw [← e i hi]; exact h.six i hi, h.free, fun i hi => by rw [← e i hi]; exact h.flds i hi, fun i hi => by rw [← e i hi]; exact h.off i hi, fun i j hi hj hij => by rw [← e i hi, ← e j hj]; exact h.apart i j hi hj hij⟩

theorem ownIn_at {w w' : World} {lo hi : Nat} {t : GM} (h : OwnIn w lo hi t.a t.n t.f) (he : t.n = 0 ∨ w'.heap[t.g]? = w.heap[t.g]?) (hs : w.heap.size ≤ w'.heap.size) : OwnIn w' lo hi t.a t.n t.f := by
  rcases h with h0 | ⟨b', o', ha, h1, hl, hc⟩
  · exact .inl h0
  · rcases he with h0 | e
    · exact .inl h0
    · rw [show t.g = b' by simp [GM.g, ha]] at e
      exact .inr ⟨b', o', ha, h1, Nat.lt_of_lt_of_le hl hs, fun k hk => ⟨(World.cell?_of_block (w := w) (a := ⟨b', o' + k, none⟩) e).trans (hc k hk).1, (World.frozen?_of_block (w := w) (a := ⟨b', o' + k, none⟩) e).trans (hc k hk).2⟩⟩

/-- The fields of an object lie in one block. -/
theorem ownIn_narrow {w : World} {lo hi : Nat} {t : GM} (h : OwnIn w lo hi t.a t.n t.f) (hlh : lo ≤ hi) : ∃ l r, lo ≤ l ∧ l ≤ r ∧ r ≤ hi ∧ OwnIn w l r t.a t.n t.f ∧ ((t.n = 0 ∧ l = r) ∨ (0 < t.n ∧ l = t.g ∧ r = t.g + 1 ∧ t.g < w.heap.size)) := by
  rcases Nat.eq_zero_or_pos t.n with h0 | hn
  · exact ⟨lo, lo, Nat.le_refl _, Nat.le_refl _, hlh, .inl h0, .inl ⟨h0, rfl⟩⟩
  rcases h with h0 | ⟨b', o', ha, h1, hl, hc⟩
  · exact ⟨lo, lo, Nat.le_refl _, Nat.le_refl _, hlh, .inl h0, .inl ⟨h0, rfl⟩⟩
  · have e : t.g = b' := by simp [GM.g, ha]
    exact ⟨b', b' + 1, h1.1, by omega, by omega, .inr ⟨b', o', ha, ⟨Nat.le_refl _, Nat.lt_succ_self _⟩, hl, hc⟩, .inr ⟨hn, e.symm, by omega, by omega⟩⟩
end Go.Proofs.Ytaenbjilcgpgcaa

namespace Go.Proofs.Ytaenbjilcgpgcaa
open Go.RowKit
set_option linter.unusedVariables false

/-- Two objects hold the same. -/
def GSame (t u : GM) : Prop := t.at_ = u.at_ ∧ t.s = u.s ∧ t.m = u.m ∧ t.o = u.o ∧ t.h = u.h ∧ t.n = u.n ∧ ∀ k, k < t.n → t.f k = u.f k

def GV (w : World) (a : Option Addr) (N : Nat) (T : Nat → GM) : Prop := N = 0 ∨ ∃ b q, a = some ⟨b, q, none⟩ ∧ GSrc w b q N T

def GVO (w : World) (lo hi : Nat) (a : Option Addr) (N : Nat) (T : Nat → GM) : Prop := N = 0 ∨ ∃ b q, a = some ⟨b, q, none⟩ ∧ GOwn w lo hi b q N T

theorem GVO.src {w : World} {lo hi N : Nat} {a : Option Addr} {T : Nat → GM} (h : GVO w lo hi a N T) : GV w a N T := by
  rcases h with h0 | ⟨b, q, e, h⟩
  · exact .inl h0
  · exact .inr ⟨b, q, e, h.src⟩

theorem GV.below {w w' : World} {a : Option Addr} {N : Nat} {T : Nat → GM} (h : GV w a N T) (hb : Below w.heap.size w w') : GV w' a N T := by
  rcases h with h0 | ⟨b, q, e, h⟩
  · exact .inl h0
  · exact .inr ⟨b, q, e, h.below hb⟩

theorem GVO.below {w w' : World} {lo hi N : Nat} {a : Option Addr} {T : Nat → GM} (h : GVO w lo hi a N T) (hb : Below w.heap.size w w') : GVO w' lo hi a N T := by
  rcases h with h0 | ⟨b, q, e, h⟩
  · exact .inl h0
  · exact .inr ⟨b, q, e, h.below hb⟩

theorem GVO.keeps {w w' : World} {lo hi lo' hi' N : Nat} {a : Option Addr} {T : Nat → GM} (h : GVO w lo hi a N T) (hk : Keeps w w' lo' hi') (hd : hi ≤ lo' ∨ hi' ≤ lo) : GVO w' lo hi a N T := by
  rcases h with h0 | ⟨b, q, e, h⟩
  · exact .inl h0
  · exact .inr ⟨b, q, e, h.keeps hk hd⟩

theorem GV.drew {w : World} {a : Option Addr} {N : Nat} {T : Nat → GM} (h : GV w a N T) : GV w.drew a N T := h.below (Below.refl _ _).drew

theorem GV.alloc {w : World} {a : Option Addr} {N : Nat} {T : Nat → GM} (h : GV w a N T) (o : Obj) : GV (w.alloc o) a N T := h.below ((Below.refl _ _).alloc (Nat.le_refl _) o)

theorem GVO.drew {w : World} {lo hi N : Nat} {a : Option Addr} {T : Nat → GM} (h : GVO w lo hi a N T) : GVO w.drew lo hi a N T := h.below (Below.refl _ _).drew

theorem GVO.alloc {w : World} {lo hi N : Nat} {a : Option Addr} {T : Nat → GM} (h : GVO w lo hi a N T) (o : Obj) : GVO (w.alloc o) lo hi a N T := h.below ((Below.refl _ _).alloc (Nat.le_refl _) o)
end Go.Proofs.Ytaenbjilcgpgcaa

namespace Go.Proofs.Ytaenbjilcgpgcaa
open Go.RowKit
set_option linter.unusedVariables false

/-- The size of a row of objects: too great, or each part is within it. -/
def RetSz (W : World) (N : Nat) (T : Nat → GM) (l : Int) (e : Ending) (w' : World) : Prop :=
  Below W.heap.size W w' ∧ ∃ r : Int, e = .returned (.int .i64 r) ∧ r ≤ l ∧ (r = -1 ∨ (0 ≤ r ∧ (N : Int) ≤ l ∧ ∀ i, i < N → ((T i).n : Int) ≤ l))
end Go.Proofs.Ytaenbjilcgpgcaa

namespace Go.Proofs.Ytaenbjilcgpgcaa
open Go.RowKit
set_option linter.unusedVariables false

def gz : GM := ⟨0, 0, 0, 0, 0, none, 0, 0, fun _ => 0⟩

theorem made_get (z : Array Value) (m k : Nat) (hk : k < m) : (madeCells z m).toList[k]? = some z[k % z.size]! := by
  simp [madeCells, hk]

/-- The six cells of an object are written. -/
def sixW (w : World) (b o : Nat) (t : GM) : World := ((((((w.setCell ⟨b, o, none⟩ (.int .i64 t.at_)).setCell ⟨b, o + 1, none⟩ (.int .i64 t.s)).setCell ⟨b, o + 2, none⟩ (.int .i64 t.m)).setCell ⟨b, o + 3, none⟩ (.int .i64 t.o)).setCell ⟨b, o + 4, none⟩ (.int .i64 t.h)).setCell ⟨b, o + 5, none⟩ (.slice t.a t.n t.c))

theorem sixW_at {w : World} {b o : Nat} {t0 : GM} (h : SixG w b o t0) (t : GM) : SixG (sixW w b o t) b o t := by
  obtain ⟨x0, x1, x2, x3, x4, x5⟩ := h
  simp [sixW, SixG, x0, x1, x2, x3, x4, x5, World.cell?_setCell_other, World.cell?_setCell_same']

theorem sixW_other {w : World} {b o o' : Nat} {u : GM} (h : SixG w b o u) (hd : o + 6 ≤ o' ∨ o' + 6 ≤ o) (t : GM) : SixG (sixW w b o' t) b o u := by
  have g : ∀ x, x < 6 → ∀ y, y < 6 → (⟨b, o' + y, none⟩ : Addr) ≠ ⟨b, o + x, none⟩ := fun x hx y hy e => by simp at e; try omega
  have k : ∀ x, x < 6 → (sixW w b o' t).cell? ⟨b, o + x, none⟩ = w.cell? ⟨b, o + x, none⟩ := fun x hx => by
    unfold sixW
    rw [World.cell?_setCell_other _ _ _ _ (g x hx 5 (by omega)), World.cell?_setCell_other _ _ _ _ (g x hx 4 (by omega)), World.cell?_setCell_other _ _ _ _ (g x hx 3 (by omega)), World.cell?_setCell_other _ _ _ _ (g x hx 2 (by omega)), World.cell?_setCell_other _ _ _ _ (g x hx 1 (by omega)), World.cell?_setCell_other _ _ _ _ (show (⟨b, o', none⟩ : Addr) ≠ ⟨b, o + x, none⟩ from g x hx 0 (by omega))]
  exact ⟨(k 0 (by omega)).trans h.1, (k 1 (by omega)).trans h.2.1, (k 2 (by omega)).trans h.2.2.1, (k 3 (by omega)).trans h.2.2.2.1, (k 4 (by omega)).trans h.2.2.2.2.1, (k 5 (by omega)).trans h.2.2.2.2.2⟩

theorem sixW_frozen (w : World) (b o : Nat) (t : GM) (p : Addr) : (sixW w b o t).frozen? p = w.frozen? p := by simp [sixW, World.frozen?_setCell]

theorem sixW_keeps (w : World) (b o : Nat) (t : GM) : Keeps w (sixW w b o t) b (b + 1) := by
  unfold sixW
  refine Keeps.trans ?_ (keeps_setCell (p := ⟨b, o + 5, none⟩) (Nat.le_refl b) (Nat.lt_succ_self b) _)
  refine Keeps.trans ?_ (keeps_setCell (p := ⟨b, o + 4, none⟩) (Nat.le_refl b) (Nat.lt_succ_self b) _)
  refine Keeps.trans ?_ (keeps_setCell (p := ⟨b, o + 3, none⟩) (Nat.le_refl b) (Nat.lt_succ_self b) _)
  refine Keeps.trans ?_ (keeps_setCell (p := ⟨b, o + 2, none⟩) (Nat.le_refl b) (Nat.lt_succ_self b) _)
  refine Keeps.trans ?_ (keeps_setCell (p := ⟨b, o + 1, none⟩) (Nat.le_refl b) (Nat.lt_succ_self b) _)
  refine Keeps.trans ?_ (keeps_setCell (p := ⟨b, o, none⟩) (Nat.le_refl b) (Nat.lt_succ_self b) _)
  exact Keeps.refl _ _ _
end Go.Proofs.Ytaenbjilcgpgcaa

namespace Go.Proofs.Ytaenbjilcgpgcaa
open Go.RowKit
set_option linter.unusedVariables false

def obG (f : Nat → Int) (y : Ob) : GM := ⟨y.at_, y.s, y.m, y.o, y.h, none, y.s.toNat, 0, fun k => f (y.at_.toNat + 2 + k)⟩

def gzero : GM := ⟨0, 0, 0, 0, 0, none, 0, 0, fun _ => 0⟩

def xT (f : Nat → Int) (x : Option Ob) : GM := match x with | none => gzero | some y => obG f y

def obT (f : Nat → Int) (L : List Ob) (i : Nat) : GM := xT f L[i]?

theorem GSame.refl (t : GM) : GSame t t := ⟨rfl, rfl, rfl, rfl, rfl, rfl, fun _ _ => rfl⟩
end Go.Proofs.Ytaenbjilcgpgcaa

namespace Go.Proofs.Ytaenbjilcgpgcaa
open Go.RowKit
set_option linter.unusedVariables false

theorem keeps_under {w wr w' : World} {lo hi B : Nat} (h : Keeps w wr lo hi) (hb : Below B wr w') (hB : w.heap.size ≤ B) : Keeps w w' lo hi :=
  ⟨hb.os.trans h.os, hb.tape.trans h.tape, hb.output.trans h.output, Nat.le_trans h.size hb.size, fun k hk hd => (hb.block k (by omega)).trans (h.block k hk hd)⟩
end Go.Proofs.Ytaenbjilcgpgcaa

namespace Go.Proofs.Ytaenbjilcgpgcaa
open Go.ChangeShapes Go.WideShapes Go.ChangeAt Go.RowKit Go.Joins Go.Deep
set_option linter.unusedVariables false

theorem Try.cellsO24 : Try.prog.cellsOf 24 = 1 := by kernel_rfl

theorem Try.cellsO2 : Try.prog.cellsOf 2 = 1 := by kernel_rfl

instance : Inhabited GM := ⟨gzero⟩

theorem add_none (b off i : Nat) : (⟨b, off, none⟩ : Addr).add i = ⟨b, off + i, none⟩ := by
  rcases i with _ | i <;> simp [Addr.add]

theorem src_ints {W : World} {x : Addr} {l : Nat} {zs : List Int} (hlz : l ≤ zs.length) (hcell : ∀ i, i < zs.length → W.cell? (x.add i) = some (.int .i64 (zs.getD i 0))) : Src W (some x) l (fun i => zs.getD i 0) := by
  by_cases h0 : l = 0
  · exact .inl h0
  · right
    obtain ⟨b, off, spot⟩ := x
    have hc := hcell 0 (by omega)
    have hspot : spot = none := by simpa [Addr.add] using World.cell?_spot hc
    subst hspot
    refine ⟨b, off, rfl, World.block_lt_of_cell? W _ (by simpa [Addr.add] using hc), fun i hi => ?_⟩
    have := hcell i (by omega)
    rwa [add_none] at this
end Go.Proofs.Ytaenbjilcgpgcaa

namespace Go.Proofs.Ytaenbjilcgpgcaa
open Go.RowKit
set_option linter.unusedVariables false

theorem isNaN_any (x : Int) (w : World) : Calls Try.prog 207 #[.int .i64 x] w (fun e w' => e = .returned (.bool false) ∧ Below w.heap.size w w') := by
  go_enter Try.func207, Try.ntmps207
  go_wp2
  go_ret
  exact ⟨rfl, Below.refl _ _⟩

def sgn (x y : Int) : Int := if x < y then -1 else if y < x then 1 else 0

set_option maxRecDepth 100000 in
theorem compare_any (x y : Int) (w : World) : Calls Try.prog 194 #[.int .i64 x, .int .i64 y] w (fun e w' => e = .returned (.int .i64 (sgn x y)) ∧ Below w.heap.size w w') := by
  have arm : ∀ (W0 : World), True := fun _ => trivial
  by_cases h1 : x < y
  · have hs : sgn x y = -1 := by unfold sgn; rw [if_pos h1]
    rw [hs]
    go_enter Try.func194, Try.ntmps194
    go_wp2_with (first | (go_at_call 207; refine (isNaN_any x _).mono ?_; rintro e w1 ⟨rfl, hb1⟩) | (go_at_call 207; refine (isNaN_any y _).mono ?_; rintro e w2 ⟨rfl, hb2⟩))
    go_ret
    exact ⟨rfl, hb1.trans (hb2.mono hb1.size)⟩
  · by_cases h2 : y < x
    · have hs : sgn x y = 1 := by unfold sgn; rw [if_neg h1, if_pos h2]
      rw [hs]
      go_enter Try.func194, Try.ntmps194
      go_wp2_with (first | (go_at_call 207; refine (isNaN_any x _).mono ?_; rintro e w1 ⟨rfl, hb1⟩) | (go_at_call 207; refine (isNaN_any y _).mono ?_; rintro e w2 ⟨rfl, hb2⟩))
      go_ret
      exact ⟨rfl, hb1.trans (hb2.mono hb1.size)⟩
    · have hs : sgn x y = 0 := by unfold sgn; rw [if_neg h1, if_neg h2]
      rw [hs]
      go_enter Try.func194, Try.ntmps194
      go_wp2_with (first | (go_at_call 207; refine (isNaN_any x _).mono ?_; rintro e w1 ⟨rfl, hb1⟩) | (go_at_call 207; refine (isNaN_any y _).mono ?_; rintro e w2 ⟨rfl, hb2⟩))
      go_ret
      exact ⟨rfl, hb1.trans (hb2.mono hb1.size)⟩
end Go.Proofs.Ytaenbjilcgpgcaa

namespace Go.Proofs.Ytaenbjilcgpgcaa
open Go.RowKit
set_option linter.unusedVariables false

/-- The world stands in the first place where the row is no longer below. -/
def Cut (T : Nat → GM) (N : Nat) (x : Int) (lo hi : Nat) : Prop := (∀ j, j < lo → (T j).at_ < x) ∧ (∀ j, hi ≤ j → j < N → x ≤ (T j).at_)
end Go.Proofs.Ytaenbjilcgpgcaa

namespace Go.Proofs.Ytaenbjilcgpgcaa
open Go.RowKit
set_option linter.unusedVariables false

set_option maxRecDepth 100000 in
set_option maxHeartbeats 400000 in
theorem clone_all (ad : Addr) (n cap : Nat) (f : Nat → Int) (w : World) (hs : Src w (some ad) n f) (hn : n ≤ 1048576) :
    Calls Try.prog 154 #[.slice (some ad) n cap] w (RetInts w n f) := by
  rcases Nat.eq_zero_or_pos n with rfl | hp
  · obtain ⟨i0, hi, hz0, hz1, hz2⟩ := info_parts Try.info2
    have hnil := fun (w : World) (a : Option Addr) (n c : Nat) => Lib.run_eql_slice_nil (P := Try.prog) w 24 2 a n c 0 0 Try.underlying24
    go_enter Try.func154, Try.ntmps154
    go_wp2_with (at_builtin; refine wpList_append_own _ rfl _ _ 24 rfl w.heap.size 2 i0 (.int .i64 0) 1 8 Try.underlying24 hi hz0 hz1 hz2 rfl (by decide) _ 0 [] rfl (World.ownsRow_lit w #[] 0 (Nat.le_refl _) (by simp [maxLen]) rfl) ad 0 cap (nums 0 f) rfl (by simp [nums]) (by intro j u h; simp [nums] at h) (nums_one 0 f) (by unfold maxLen; omega) (by omega) (by simp) ?_; intro v' w1 hown hgrow _)
    go_ret
    exact retInts_of_row (e := 2) (by simpa using hown) (((Below.refl _ _).alloc (Nat.le_refl _) _).grown hgrow (by simp) (by intro k hk; cases hk; exact Nat.le_refl _))
  · exact clone_any (some ad) n cap f w hs hp hn
end Go.Proofs.Ytaenbjilcgpgcaa

namespace Go.Proofs.Ytaenbjilcgpgcaa
open Go.RowKit Go.Shelf
set_option linter.unusedVariables false
attribute [local go_sem] Oper.semAt_some

theorem blk_block {w w' : World} {b : Nat} {cs : List Value} (h : Blk w b cs) (e : w'.heap[b]? = w.heap[b]?) : Blk w' b cs := by
  refine ⟨?_, fun i u hu => ?_⟩
  · have h1 : w.heap[b]? = some (w.heap[b]'h.1) := Array.getElem?_eq_getElem h.1
    rw [h1] at e
    exact (Array.getElem?_eq_some_iff.1 e).1
  · obtain ⟨h1, h2⟩ := h.2 i u hu
    exact ⟨(World.cell?_of_block (w := w) (a := ⟨b, i, none⟩) e).trans h1, (World.frozen?_of_block (w := w) (a := ⟨b, i, none⟩) e).trans h2⟩
end Go.Proofs.Ytaenbjilcgpgcaa

namespace Go.Proofs.Ytaenbjilcgpgcaa
open Go.RowKit
set_option linter.unusedVariables false

def gcells (t : GM) : List Value := [.int .i64 t.at_, .int .i64 t.s, .int .i64 t.m, .int .i64 t.o, .int .i64 t.h, .slice t.a t.n t.c]

def rowG (M : List GM) : List Value := M.flatMap gcells

theorem rowG_get : ∀ (M : List GM) (i : Nat) (t : GM), M[i]? = some t → ∀ j, j < 6 → (rowG M)[i * 6 + j]? = (gcells t)[j]?
  | [], i, t, h, j, hj => by simp at h
  | u :: M, 0, t, h, j, hj => by
    simp only [List.getElem?_cons_zero, Option.some.injEq] at h
    subst h
    simp only [rowG, List.flatMap_cons, Nat.zero_mul, Nat.zero_add]
    rw [List.getElem?_append_left (by simp [gcells]; omega)]
  | u :: M, i + 1, t, h, j, hj => by
    have ih := rowG_get M i t (by simpa using h) j hj
    simp only [rowG, List.flatMap_cons] at ih ⊢
    rw [List.getElem?_append_right (by simp [gcells]; omega)]
    have e : (i + 1) * 6 + j - (gcells u).length = i * 6 + j := by simp [gcells]; omega
    rw [e]; exact ih

/-- Each object's fields are numbers of their own, later ones in later blocks. -/
def FldG (w : World) (lo : Nat) (v : Value) (M : List GM) : Prop :=
  (∀ t ∈ M, t.n = 0 ∨ (lo ≤ t.g ∧ t.g < w.heap.size ∧ some t.g ≠ v.ownBlock ∧ ∃ q, t.a = some ⟨t.g, q, none⟩ ∧ ∀ k, k < t.n → w.cell? ⟨t.g, q + k, none⟩ = some (.int .i64 (t.f k)) ∧ w.frozen? ⟨t.g, q + k, none⟩ = false)) ∧ M.Pairwise (fun t u => t.n = 0 ∨ u.n = 0 ∨ t.g < u.g)

theorem FldG.block {w w' : World} {lo : Nat} {v : Value} {M : List GM} (h : FldG w lo v M) (hz : w.heap.size ≤ w'.heap.size) (hb : ∀ b, lo ≤ b → b < w.heap.size → some b ≠ v.ownBlock → w'.heap[b]? = w.heap[b]?) : FldG w' lo v M :=
  ⟨fun t ht => by
    rcases h.1 t ht with h0 | ⟨h1, h2, h3, q, h4, h5⟩
    · exact .inl h0
    · have e := hb t.g h1 h2 h3
      exact .inr ⟨h1, Nat.lt_of_lt_of_le h2 hz, h3, q, h4, fun k hk => ⟨(World.cell?_of_block (w := w) (a := ⟨t.g, q + k, none⟩) e).trans (h5 k hk).1, (World.frozen?_of_block (w := w) (a := ⟨t.g, q + k, none⟩) e).trans (h5 k hk).2⟩⟩, h.2⟩

theorem FldG.below {w w' : World} {lo : Nat} {v : Value} {M : List GM} (h : FldG w lo v M) (hb : Below w.heap.size w w') : FldG w' lo v M := h.block hb.size fun b _ h2 _ => hb.block b h2

def gT (M : List GM) (i : Nat) : GM := M[i]?.getD gzero

theorem gT_at {M : List GM} {i : Nat} {t : GM} (h : M[i]? = some t) : gT M i = t := by simp [gT, h]
end Go.Proofs.Ytaenbjilcgpgcaa

namespace Go.Proofs.Ytaenbjilcgpgcaa
open Go.RowKit Go.Shelf
set_option linter.unusedVariables false

/-- What lay below B, and what holds cells, is as it was. -/
structure Turn (B : Nat) (V V' : World) : Prop where
  os : V'.os = V.os
  tape : V'.tape = V.tape
  output : V'.output = V.output
  size : V.heap.size ≤ V'.heap.size
  same : ∀ (k : Nat) (o : Obj), V.heap[k]? = some o → (k < B ∨ o.isCells = true) → V'.heap[k]? = some o

theorem Turn.trans {B : Nat} {V V' V'' : World} (h : Turn B V V') (h' : Turn B V' V'') : Turn B V V'' :=
  ⟨h'.os.trans h.os, h'.tape.trans h.tape, h'.output.trans h.output, Nat.le_trans h.size h'.size, fun k o hk hc => h'.same k o (h.same k o hk hc) hc⟩

theorem Turn.put {B : Nat} {V : World} {l : Nat} {o : Obj} (o' : Obj) (hl : B ≤ l) (h : V.heap[l]? = some o) (hc : o.isCells = false) : Turn B V (V.putObj l o') :=
  ⟨rfl, rfl, rfl, by simp, fun k x hk hx => by
    have hne : k ≠ l := fun e => by
      subst e
      rw [h] at hk
      cases hk
      rcases hx with hx | hx
      · omega
      · rw [hc] at hx; cases hx
    rw [World.putObj_heap_other hne]; exact hk⟩

theorem Turn.below {B n : Nat} {V V' : World} (h : Turn B V V') (hn : n ≤ B) (hz : n ≤ V.heap.size) : Below n V V' :=
  ⟨h.os, h.tape, h.output, h.size, fun k hk => by
    have hk' : V.heap[k]? = some (V.heap[k]'(by omega)) := Array.getElem?_eq_getElem (by omega)
    rw [hk']; exact h.same k _ hk' (.inl (by omega))⟩

theorem Turn.cell {B : Nat} {V V' : World} (h : Turn B V V') {p : Addr} {v : Value} (hc : V.cell? p = some v) : V'.cell? p = some v ∧ V'.frozen? p = V.frozen? p ∧ V'.heap[p.block]? = V.heap[p.block]? := by
  obtain ⟨o, ho, hcc⟩ := cells_of_cell hc
  have e : V'.heap[p.block]? = V.heap[p.block]? := (h.same _ o ho (.inr hcc)).trans ho.symm
  exact ⟨(World.cell?_of_block e).trans hc, World.frozen?_of_block e, e⟩

theorem Turn.blk {B : Nat} {V V' : World} (h : Turn B V V') {b : Nat} {cs : List Value} (hb : Blk V b cs) (hne : cs ≠ []) : Blk V' b cs := by
  cases cs with
  | nil => exact absurd rfl hne
  | cons u cs => exact blk_block hb (h.cell (hb.2 0 u rfl).1).2.2

theorem Turn.own {B : Nat} {V V' : World} (h : Turn B V V') {lo n : Nat} {a : Option Addr} {f : Nat → Int} (ho : Own V lo a n f) : Own V' lo a n f := by
  rcases ho with h0 | ⟨b, off, he, h1, h2, h3⟩
  · exact .inl h0
  · exact .inr ⟨b, off, he, h1, Nat.lt_of_lt_of_le h2 h.size, fun k hk => by
      obtain ⟨e1, e2, _⟩ := h.cell (h3 k hk).1
      exact ⟨e1, e2.trans (h3 k hk).2⟩⟩

theorem Turn.row {B : Nat} {V V' : World} (h : Turn B V V') {base e size n : Nat} {v : Value} {xs : List Value} (ho : V.ownsRow base e size v n xs) : V'.ownsRow base e size v n xs := by
  refine ⟨ho.1, ?_⟩
  rcases ho.2 with h0 | ⟨g, cap, cur, h1, h2, h3, h4⟩
  · exact .inl h0
  · exact .inr ⟨g, cap, cur, h1, h2, h.same g _ h3 (.inr rfl), h4⟩
end Go.Proofs.Ytaenbjilcgpgcaa

namespace Go.Proofs.Ytaenbjilcgpgcaa
open Go.RowKit Go.Shelf
attribute [local go_sem] Oper.semAt_some
set_option linter.unusedVariables false

theorem blk_grown {w w' : World} {b : Nat} {cs : List Value} {row : Option Nat} (h : Blk w b cs) (hg : w.grownBy w' row) (hne : row ≠ some b) : Blk w' b cs := blk_block h (hg.block b h.1 (fun e => hne e.symm))

theorem row_set {w : World} {base e size n : Nat} {v : Value} {xs : List Value} (h : w.ownsRow base e size v n xs) {p : Addr} (hp : p.block < base) (u : Value) : (w.setCell p u).ownsRow base e size v n xs := by
  refine ⟨h.1, ?_⟩
  rcases h.2 with h0 | ⟨g, cap, cur, h1, h2, h3, h4⟩
  · exact .inl h0
  · exact .inr ⟨g, cap, cur, h1, h2, (Below.heap_setCell w p u g (by omega)).trans h3, h4⟩
end Go.Proofs.Ytaenbjilcgpgcaa

namespace Go.Proofs.Ytaenbjilcgpgcaa
open Go.RowKit
set_option linter.unusedVariables false

/-- Elements that are new are put behind all others, one after the other. -/
def addNew (out : List Int) : List Int → List Int
  | [] => out
  | x :: xs => addNew (if x ∈ out then out else out ++ [x]) xs

theorem addNew_append (out xs ys : List Int) : addNew out (xs ++ ys) = addNew (addNew out xs) ys := by
  induction xs generalizing out with
  | nil => rfl
  | cons x xs ih => exact ih _

theorem addNew_prefix (xs : List Int) : ∀ out, out <+: addNew out xs := by
  induction xs with
  | nil => exact fun out => List.prefix_refl _
  | cons x xs ih =>
    intro out
    refine List.IsPrefix.trans ?_ (ih _)
    by_cases h : x ∈ out
    · rw [if_pos h]
      exact List.prefix_refl _
    · rw [if_neg h]; exact List.prefix_append _ _

theorem mem_addNew (xs : List Int) : ∀ out y, y ∈ addNew out xs ↔ y ∈ out ∨ y ∈ xs := by
  induction xs with
  | nil => intro out y; simp [addNew]
  | cons x xs ih =>
    intro out y
    rw [addNew, ih]
    by_cases h : x ∈ out
    · rw [if_pos h]
      constructor
      · rintro (h1 | h1)
        · exact .inl h1
        · exact .inr (List.mem_cons_of_mem _ h1)
      · rintro (h1 | h1)
        · exact .inl h1
        · rcases List.mem_cons.mp h1 with rfl | h2
          · exact .inl h
          · exact .inr h2
    · rw [if_neg h]
      simp only [List.mem_append, List.mem_cons, List.not_mem_nil, or_false]
      constructor
      · rintro ((h1 | h1) | h1)
        · exact .inl h1
        · exact .inr (.inl h1)
        · exact .inr (.inr h1)
      · rintro (h1 | h1 | h1)
        · exact .inl (.inl h1)
        · exact .inl (.inr h1)
        · exact .inr h1

theorem nodup_addNew (xs : List Int) : ∀ out, out.Nodup → (addNew out xs).Nodup := by
  induction xs with
  | nil => exact fun out h => h
  | cons x xs ih =>
    intro out hn
    refine ih _ ?_
    by_cases h : x ∈ out
    · rw [if_pos h]; exact hn
    · rw [if_neg h]
      refine List.nodup_append.mpr ⟨hn, by simp, fun a ha b hb => ?_⟩
      simp only [List.mem_singleton] at hb
      subst hb
      intro e; subst e; exact h ha

/-- The scan: for each place from i on, where it leads. -/
def scanF (succ : Int → List Int) : Nat → Nat → List Int → List Int
  | 0, _, out => out
  | n + 1, i, out => if i < out.length then scanF succ n (i + 1) (addNew out (succ (out.getD i 0))) else out

theorem scanF_stop {succ : Int → List Int} {n i : Nat} {out : List Int} (h : ¬ i < out.length) : scanF succ n i out = out := by
  cases n with
  | zero => rfl
  | succ n => rw [scanF, if_neg h]

theorem scanF_prefix (succ : Int → List Int) : ∀ n i out, out <+: scanF succ n i out := by
  intro n
  induction n with
  | zero => exact fun i out => List.prefix_refl _
  | succ n ih =>
    intro i out
    rw [scanF]
    by_cases h : i < out.length
    · rw [if_pos h]; exact (addNew_prefix _ _).trans (ih _ _)
    · rw [if_neg h]; exact List.prefix_refl _

theorem scanF_nodup (succ : Int → List Int) : ∀ n i out, out.Nodup → (scanF succ n i out).Nodup := by
  intro n
  induction n with
  | zero => exact fun i out h => h
  | succ n ih =>
    intro i out hn
    rw [scanF]
    by_cases h : i < out.length
    · rw [if_pos h]; exact ih _ _ (nodup_addNew _ _ hn)
    · rw [if_neg h]; exact hn

theorem scanF_sub (succ : Int → List Int) (U : List Int) (hU : ∀ x ∈ U, ∀ y ∈ succ x, y ∈ U) : ∀ n i out, (∀ x ∈ out, x ∈ U) → ∀ x ∈ scanF succ n i out, x ∈ U := by
  intro n
  induction n with
  | zero => exact fun i out h => h
  | succ n ih =>
    intro i out hs
    rw [scanF]
    by_cases h : i < out.length
    · rw [if_pos h]
      refine ih _ _ fun x hx => ?_
      rcases (mem_addNew _ _ _).1 hx with h1 | h1
      · exact hs x h1
      · have hg : out.getD i 0 ∈ out := by
          rw [List.getD_eq_getElem?_getD, List.getElem?_eq_getElem h]; exact List.getElem_mem h
        exact hU _ (hs _ hg) x h1
    · rw [if_neg h]; exact hs

theorem nodup_length {xs U : List Int} (hn : xs.Nodup) (hs : ∀ x ∈ xs, x ∈ U) : xs.length ≤ U.length := by
  induction xs generalizing U with
  | nil => exact Nat.zero_le _
  | cons x xs ih =>
    have hx := List.nodup_cons.mp hn
    have := ih hx.2 (U := U.erase x) (fun y hy => (List.mem_erase_of_ne (fun e => by subst e; exact hx.1 hy)).mpr (hs y (List.mem_cons_of_mem _ hy)))
    have h2 := List.length_erase_of_mem (hs x (List.mem_cons_self ..))
    have h3 : 0 < U.length := List.length_pos_of_mem (hs x (List.mem_cons_self ..))
    simp only [List.length_cons]
    omega

theorem prefix_getD {xs ys : List Int} (h : xs <+: ys) {i : Nat} (hi : i < xs.length) : ys.getD i 0 = xs.getD i 0 := by
  obtain ⟨t, rfl⟩ := h
  rw [List.getD_eq_getElem?_getD, List.getD_eq_getElem?_getD, List.getElem?_append_left hi]

/-- What was scanned leads into the list. -/
theorem scanF_closed (succ : Int → List Int) (U : List Int) (hU : ∀ x ∈ U, ∀ y ∈ succ x, y ∈ U) : ∀ n i out, out.Nodup → (∀ x ∈ out, x ∈ U) → U.length ≤ n + i →
    (∀ j, j < i → j < out.length → ∀ y ∈ succ (out.getD j 0), y ∈ out) → ∀ j, j < (scanF succ n i out).length → ∀ y ∈ succ ((scanF succ n i out).getD j 0), y ∈ scanF succ n i out := by
  intro n
  induction n with
  | zero =>
    intro i out hn hs hl hc j hj y hy
    have := nodup_length hn hs
    exact hc j (by simp only [scanF] at hj; omega) hj y hy
  | succ n ih =>
    intro i out hn hs hl hc
    rw [scanF]
    by_cases h : i < out.length
    · rw [if_pos h]
      have hp := addNew_prefix (succ (out.getD i 0)) out
      refine ih _ _ (nodup_addNew _ _ hn) (fun x hx => ?_) (by omega) (fun j hj hjl y hy => ?_)
      · rcases (mem_addNew _ _ _).1 hx with h1 | h1
        · exact hs x h1
        · have hg : out.getD i 0 ∈ out := by
            rw [List.getD_eq_getElem?_getD, List.getElem?_eq_getElem h]; exact List.getElem_mem h
          exact hU _ (hs _ hg) x h1
      · rw [prefix_getD hp (show j < out.length by omega)] at hy
        rcases Nat.lt_succ_iff_lt_or_eq.mp hj with h1 | h1
        · exact (mem_addNew _ _ _).2 (.inl (hc j h1 (by omega) y hy))
        · subst h1; exact (mem_addNew _ _ _).2 (.inr hy)
    · rw [if_neg h]
      exact fun j hj y hy => hc j (by omega) hj y hy

theorem addNew_map (φ : Int → Int) (U : List Int) (hφ : ∀ x ∈ U, ∀ y ∈ U, φ x = φ y → x = y) (xs : List Int) : ∀ out, (∀ x ∈ out, x ∈ U) → (∀ x ∈ xs, x ∈ U) → addNew (out.map φ) (xs.map φ) = (addNew out xs).map φ := by
  induction xs with
  | nil => intro out _ _; rfl
  | cons x xs ih =>
    intro out ho hx
    have hm : φ x ∈ out.map φ ↔ x ∈ out := by
      constructor
      · intro h
        obtain ⟨y, hy, he⟩ := List.mem_map.mp h
        rw [← hφ y (ho y hy) x (hx x (List.mem_cons_self ..)) he]; exact hy
      · exact fun h => List.mem_map_of_mem h
    simp only [List.map_cons, addNew]
    by_cases h : x ∈ out
    · rw [if_pos h, if_pos (hm.2 h)]
      exact ih out ho fun y hy => hx y (List.mem_cons_of_mem _ hy)
    · rw [if_neg h, if_neg (fun h1 => h (hm.1 h1))]
      rw [show out.map φ ++ [φ x] = (out ++ [x]).map φ by simp]
      refine ih _ (fun y hy => ?_) fun y hy => hx y (List.mem_cons_of_mem _ hy)
      rcases List.mem_append.mp hy with h1 | h1
      · exact ho y h1
      · simp only [List.mem_singleton] at h1; subst h1; exact hx _ (List.mem_cons_self ..)

/-- The scan of what has the same form. -/
theorem scanF_map (succ succ' : Int → List Int) (φ : Int → Int) (U : List Int) (hU : ∀ x ∈ U, ∀ y ∈ succ x, y ∈ U) (hφ : ∀ x ∈ U, ∀ y ∈ U, φ x = φ y → x = y) (hs : ∀ x ∈ U, succ' (φ x) = (succ x).map φ) :
    ∀ n i out, (∀ x ∈ out, x ∈ U) → scanF succ' n i (out.map φ) = (scanF succ n i out).map φ := by
  intro n
  induction n with
  | zero => intro i out _; rfl
  | succ n ih =>
    intro i out ho
    rw [scanF, scanF]
    by_cases h : i < out.length
    · have hg : out.getD i 0 ∈ out := by
        rw [List.getD_eq_getElem?_getD, List.getElem?_eq_getElem h]; exact List.getElem_mem h
      have he : (out.map φ).getD i 0 = φ (out.getD i 0) := by
        rw [List.getD_eq_getElem?_getD, List.getD_eq_getElem?_getD, List.getElem?_map, List.getElem?_eq_getElem h]; rfl
      rw [if_pos (by simpa using h), if_pos h, he, hs _ (ho _ hg), addNew_map φ U hφ _ _ ho (fun y hy => hU _ (ho _ hg) y hy)]
      refine ih _ _ fun x hx => ?_
      rcases (mem_addNew _ _ _).1 hx with h1 | h1
      · exact ho x h1
      · exact hU _ (ho _ hg) x h1
    · rw [if_neg (by simpa using h), if_neg h]

/-- What is reached. -/
def reachL (succ : Int → List Int) (n : Nat) (roots : List Int) : List Int := scanF succ n 0 (addNew [] roots)

theorem reachL_roots (succ : Int → List Int) (n : Nat) (roots : List Int) : ∀ x ∈ roots, x ∈ reachL succ n roots := fun x hx =>
  (scanF_prefix succ n 0 _).subset ((mem_addNew _ _ _).2 (.inr hx))

theorem reachL_nodup (succ : Int → List Int) (n : Nat) (roots : List Int) : (reachL succ n roots).Nodup := scanF_nodup succ n 0 _ (nodup_addNew _ _ List.nodup_nil)

theorem addNew_sub {U roots : List Int} (hr : ∀ x ∈ roots, x ∈ U) : ∀ x ∈ addNew [] roots, x ∈ U := fun x hx => by
  rcases (mem_addNew _ _ _).1 hx with h1 | h1
  · cases h1
  · exact hr x h1

theorem reachL_sub (succ : Int → List Int) (n : Nat) (U roots : List Int) (hU : ∀ x ∈ U, ∀ y ∈ succ x, y ∈ U) (hr : ∀ x ∈ roots, x ∈ U) : ∀ x ∈ reachL succ n roots, x ∈ U := scanF_sub succ U hU n 0 _ (addNew_sub hr)

theorem reachL_closed (succ : Int → List Int) (n : Nat) (U roots : List Int) (hU : ∀ x ∈ U, ∀ y ∈ succ x, y ∈ U) (hr : ∀ x ∈ roots, x ∈ U) (hn : U.length ≤ n) : ∀ x ∈ reachL succ n roots, ∀ y ∈ succ x, y ∈ reachL succ n roots := fun x hx y hy => by
  obtain ⟨j, hj, rfl⟩ := List.getElem_of_mem hx
  have := scanF_closed succ U hU n 0 _ (nodup_addNew _ _ List.nodup_nil) (addNew_sub hr) (by omega) (fun j hj => by omega) j hj y
  change y ∈ succ ((reachL succ n roots).getD j 0) → y ∈ reachL succ n roots at this
  rw [List.getD_eq_getElem?_getD, List.getElem?_eq_getElem hj] at this
  exact this hy

theorem reachL_map (succ succ' : Int → List Int) (φ : Int → Int) (n : Nat) (U roots : List Int) (hU : ∀ x ∈ U, ∀ y ∈ succ x, y ∈ U) (hφ : ∀ x ∈ U, ∀ y ∈ U, φ x = φ y → x = y) (hs : ∀ x ∈ U, succ' (φ x) = (succ x).map φ) (hr : ∀ x ∈ roots, x ∈ U) :
    reachL succ' n (roots.map φ) = (reachL succ n roots).map φ := by
  unfold reachL
  rw [← scanF_map succ succ' φ U hU hφ hs n 0 _ (addNew_sub hr)]
  congr 1
  exact addNew_map φ U hφ roots [] (fun x hx => by cases hx) hr

/-- More fuel than there are places does not matter. -/
theorem scanF_fuel (succ : Int → List Int) (U : List Int) (hU : ∀ x ∈ U, ∀ y ∈ succ x, y ∈ U) : ∀ n m i out, out.Nodup → (∀ x ∈ out, x ∈ U) → U.length ≤ n + i → U.length ≤ m + i → scanF succ n i out = scanF succ m i out := by
  intro n
  induction n with
  | zero =>
    intro m i out hn hs h1 h2
    have := nodup_length hn hs
    rw [scanF_stop (show ¬ i < out.length by omega), scanF_stop (show ¬ i < out.length by omega)]
  | succ n ih =>
    intro m i out hn hs h1 h2
    by_cases h : i < out.length
    · have := nodup_length hn hs
      match m with
      | 0 => omega
      | m + 1 =>
        rw [scanF, scanF, if_pos h, if_pos h]
        refine ih _ _ _ (nodup_addNew _ _ hn) (fun x hx => ?_) (by omega) (by omega)
        rcases (mem_addNew _ _ _).1 hx with h1 | h1
        · exact hs x h1
        · have hg : out.getD i 0 ∈ out := by
            rw [List.getD_eq_getElem?_getD, List.getElem?_eq_getElem h]; exact List.getElem_mem h
          exact hU _ (hs _ hg) x h1
    · rw [scanF_stop h, scanF_stop h]
end Go.Proofs.Ytaenbjilcgpgcaa

namespace Go.Proofs.Ytaenbjilcgpgcaa
open Go.RowKit
set_option linter.unusedVariables false

/-- Where an object's pointers lead, in the order of its fields. -/
def ptrs (f : Nat → Int) (x : Ob) : List Int := (List.range x.s.toNat).filterMap fun (k : Nat) => if x.m / P2 (k : Int) % 2 = 1 ∧ ¬ f (x.at_.toNat + 2 + k) = 0 then some (f (x.at_.toNat + 2 + k) - 1) else none

def succO (f : Nat → Int) (L : List Ob) (p : Int) : List Int := match findO L p with | some x => ptrs f x | none => []

def placesO (L : List Ob) : List Int := L.map Ob.at_

def reachO (f : Nat → Int) (L : List Ob) (roots : List Int) : List Int := reachL (succO f L) L.length roots

theorem mem_ptrs {f : Nat → Int} {x : Ob} {y : Int} : y ∈ ptrs f x ↔ ∃ k : Nat, k < x.s.toNat ∧ x.m / P2 (k : Int) % 2 = 1 ∧ ¬ f (x.at_.toNat + 2 + k) = 0 ∧ y = f (x.at_.toNat + 2 + k) - 1 := by
  unfold ptrs
  rw [List.mem_filterMap]
  constructor
  · rintro ⟨k, hk, he⟩
    by_cases h : x.m / P2 (k : Int) % 2 = 1 ∧ ¬ f (x.at_.toNat + 2 + k) = 0
    · rw [if_pos h] at he
      exact ⟨k, by simpa using hk, h.1, h.2, (Option.some.inj he).symm⟩
    · rw [if_neg h] at he; cases he
  · rintro ⟨k, hk, h1, h2, rfl⟩
    exact ⟨k, by simpa using hk, if_pos ⟨h1, h2⟩⟩

theorem mem_placesO {L : List Ob} {p : Int} : p ∈ placesO L ↔ ∃ x, findO L p = some x := by
  unfold placesO
  constructor
  · intro h
    obtain ⟨x, hx, rfl⟩ := List.mem_map.mp h
    cases hf : findO L x.at_ with
    | some y => exact ⟨y, rfl⟩
    | none =>
      have := List.find?_eq_none.mp hf x hx
      simp at this
  · rintro ⟨x, hf⟩
    have h1 := List.find?_some hf
    exact List.mem_map.mpr ⟨x, List.mem_of_find?_eq_some hf, by simpa using h1⟩

theorem succO_sub {f : Nat → Int} {L : List Ob} (hp : Points f L) (hs : ∀ x ∈ L, 0 ≤ x.s) : ∀ p ∈ placesO L, ∀ y ∈ succO f L p, y ∈ placesO L := by
  intro p _ y hy
  unfold succO at hy
  cases hf : findO L p with
  | none => rw [hf] at hy; cases hy
  | some x =>
    rw [hf] at hy
    obtain ⟨k, hk, h1, h2, rfl⟩ := mem_ptrs.1 hy
    have hx := List.mem_of_find?_eq_some hf
    have h0 := hs x hx
    have hl := hp x hx k (by omega) h1
    unfold leadsB at hl
    rw [if_neg h2] at hl
    cases hf2 : findO L (f (x.at_.toNat + 2 + k) - 1) with
    | none => rw [hf2] at hl; cases hl
    | some z => exact mem_placesO.2 ⟨z, hf2⟩

theorem reachO_sub {f : Nat → Int} {L : List Ob} {roots : List Int} (hp : Points f L) (hs : ∀ x ∈ L, 0 ≤ x.s) (hr : ∀ p ∈ roots, p ∈ placesO L) : ∀ p ∈ reachO f L roots, p ∈ placesO L := reachL_sub _ _ _ _ (succO_sub hp hs) hr

/-- The number of a place in a list. -/
def numL (l : List Int) (v : Int) : Option Nat := l.findIdx? (· == v)

theorem numL_some {l : List Int} {v : Int} (h : v ∈ l) : ∃ i, numL l v = some i ∧ i < l.length ∧ l.getD i 0 = v := by
  unfold numL
  cases hi : l.findIdx? (· == v) with
  | none =>
    have := List.findIdx?_eq_none_iff.mp hi v h
    simp at this
  | some i =>
    obtain ⟨h1, h2, _⟩ := List.findIdx?_eq_some_iff_getElem.mp hi
    refine ⟨i, rfl, h1, ?_⟩
    rw [List.getD_eq_getElem?_getD, List.getElem?_eq_getElem h1]
    simpa using h2

theorem numL_none {l : List Int} {v : Int} : numL l v = none ↔ v ∉ l := by
  unfold numL
  rw [List.findIdx?_eq_none_iff]
  constructor
  · intro h hv; have := h v hv; simp at this
  · intro h x hx
    simp only [beq_eq_false_iff_ne, ne_eq]
    intro e; subst e; exact h hx

theorem numL_at {l : List Int} (hn : l.Nodup) {i : Nat} (hi : i < l.length) : numL l (l.getD i 0) = some i := by
  have hg : l.getD i 0 = l[i] := by rw [List.getD_eq_getElem?_getD, List.getElem?_eq_getElem hi]; rfl
  obtain ⟨j, h1, h2, h3⟩ := numL_some (l := l) (v := l.getD i 0) (by rw [hg]; exact List.getElem_mem hi)
  rw [h1]
  have hj : l.getD j 0 = l[j] := by rw [List.getD_eq_getElem?_getD, List.getElem?_eq_getElem h2]; rfl
  rw [hj, hg] at h3
  rw [(List.getElem_inj hn).mp h3]

/-- A list under a map that keeps its elements apart: the numbers are the same. -/
theorem numL_map {l : List Int} (φ : Int → Int) {v : Int} (hn : l.Nodup) (hm : (l.map φ).Nodup) (hv : v ∈ l) : numL (l.map φ) (φ v) = numL l v := by
  obtain ⟨i, h1, h2, h3⟩ := numL_some hv
  rw [h1]
  have e : (l.map φ).getD i 0 = φ v := by
    rw [List.getD_eq_getElem?_getD, List.getElem?_map]
    rw [List.getD_eq_getElem?_getD] at h3
    rw [List.getElem?_eq_getElem h2] at h3 ⊢
    simp only [Option.map_some, Option.getD_some] at h3 ⊢
    rw [h3]
  rw [← e]
  exact numL_at hm (by simpa using h2)
end Go.Proofs.Ytaenbjilcgpgcaa

namespace Go.Proofs.Ytaenbjilcgpgcaa
open Go.RowKit
set_option linter.unusedVariables false

def packO (x : Ob) : Int := 1 + 2 * (x.s + 16 * (x.m + 4096 * x.o))

def wordsO (x : Ob) : Nat := 2 + x.s.toNat

def totO : List Ob → Nat
  | [] => 0
  | x :: X => wordsO x + totO X

def ObOk (x : Ob) : Prop := HOk x.s x.m x.o x.h ∧ x.m ≤ 4095

/-- The place of the object of a number. -/
def placeAt (P : Nat) (X : List Ob) (i : Nat) : Nat := P + totO (X.take i)

theorem placeAt_zero (P : Nat) (X : List Ob) : placeAt P X 0 = P := by simp [placeAt, totO]

theorem placeAt_succ (P : Nat) (x : Ob) (X : List Ob) (i : Nat) : placeAt P (x :: X) (i + 1) = placeAt (P + wordsO x) X i := by simp [placeAt, totO]; omega

theorem totO_take_lt : ∀ (X : List Ob) (i : Nat) (hi : i < X.length), totO (X.take i) + wordsO X[i] ≤ totO X
  | x :: X, 0, _ => by simp [totO]
  | x :: X, i + 1, hi => by
    have := totO_take_lt X i (by simpa using hi)
    simp only [List.take_succ_cons, totO, List.getElem_cons_succ]
    omega

theorem placeAt_end (P : Nat) (X : List Ob) {i : Nat} (hi : i < X.length) : placeAt P X i + wordsO X[i] ≤ P + totO X := by
  have := totO_take_lt X i hi
  unfold placeAt; omega

theorem placeAt_step (P : Nat) (X : List Ob) {i : Nat} (hi : i < X.length) : placeAt P X (i + 1) = placeAt P X i + wordsO X[i] := by
  induction X generalizing P i with
  | nil => simp at hi
  | cons x X ih =>
    cases i with
    | zero => rw [placeAt_succ, placeAt_zero, placeAt_zero]; rfl
    | succ i => rw [placeAt_succ, placeAt_succ, ih (P + wordsO x) (by simpa using hi)]; rfl

theorem placeAt_lt (P : Nat) (X : List Ob) : ∀ (i j : Nat), i < j → j ≤ X.length → placeAt P X i + 2 ≤ placeAt P X j
  | i, 0, h, _ => by omega
  | i, j + 1, h, hj => by
    have hw : wordsO X[j] = 2 + X[j].s.toNat := rfl
    rw [placeAt_step P X (show j < X.length by omega)]
    rcases Nat.lt_succ_iff_lt_or_eq.mp h with h1 | h1
    · have := placeAt_lt P X i j h1 (by omega); omega
    · subst h1; omega

/-- The new places, in order. -/
def newPlaces (P : Nat) (X : List Ob) : List Int := (List.range X.length).map fun i => (placeAt P X i : Int)
end Go.Proofs.Ytaenbjilcgpgcaa

namespace Go.Proofs.Ytaenbjilcgpgcaa
open Go.RowKit
set_option linter.unusedVariables false

/-- Where the object of a place is now. -/
def goes (R Q : List Int) (p : Int) : Int := Q.getD ((numL R p).getD 0) 0

/-- What a field holds now. -/
def mapF (f : Nat → Int) (R Q : List Int) (x : Ob) (k : Nat) : Int :=
  if x.m / P2 (k : Int) % 2 = 1 ∧ ¬ f (x.at_.toNat + 2 + k) = 0 then goes R Q (f (x.at_.toNat + 2 + k) - 1) + 1 else f (x.at_.toNat + 2 + k)

theorem getD_get {R : List Int} {i : Nat} (hi : i < R.length) : R.getD i 0 = R[i] := by
  rw [List.getD_eq_getElem?_getD, List.getElem?_eq_getElem hi]; rfl

/-- What is known of an arena that is right. -/
structure Right (f : Nat → Int) (L : List Ob) : Prop where
  points : Points f L
  size : ∀ x ∈ L, 0 ≤ x.s
  ok : ∀ x ∈ L, ObOk x
  apart : ∀ x ∈ L, findO L x.at_ = some x

section

variable {f g : Nat → Int} {L : List Ob} {roots : List Int} {P : Nat}

end
end Go.Proofs.Ytaenbjilcgpgcaa

namespace Go.Proofs.Ytaenbjilcgpgcaa
open Go.RowKit
set_option linter.unusedVariables false

/-- Two fields are alike. -/
def FldAlike (R R' : List Int) (bit : Prop) (v w : Int) : Prop := (bit → ((v = 0 ↔ w = 0) ∧ (¬ v = 0 → numL R (v - 1) = numL R' (w - 1)))) ∧ (¬ bit → v = w)

/-- What is reached from both is alike. -/
structure AlikeO (f : Nat → Int) (L : List Ob) (ra : List Int) (g : Nat → Int) (L' : List Ob) (rb : List Int) : Prop where
  rlen : ra.length = rb.length
  len : (reachO f L ra).length = (reachO g L' rb).length
  obj : ∀ i, i < (reachO f L ra).length → ∃ x y, findO L ((reachO f L ra).getD i 0) = some x ∧ findO L' ((reachO g L' rb).getD i 0) = some y ∧ (x.s = y.s ∧ x.m = y.m ∧ x.o = y.o ∧ x.h = y.h) ∧
    ∀ k : Nat, k < x.s.toNat → FldAlike (reachO f L ra) (reachO g L' rb) (x.m / P2 (k : Int) % 2 = 1) (f (x.at_.toNat + 2 + k)) (g (y.at_.toNat + 2 + k))
  roots : ∀ i, i < ra.length → numL (reachO f L ra) (ra.getD i 0) = numL (reachO g L' rb) (rb.getD i 0)

section

variable {f g e : Nat → Int} {L L' L2 : List Ob} {ra rb rc : List Int}

theorem AlikeO.symm (h : AlikeO f L ra g L' rb) : AlikeO g L' rb f L ra := by
  refine ⟨h.rlen.symm, h.len.symm, fun i hi => ?_, fun i hi => (h.roots i (by rw [h.rlen]; exact hi)).symm⟩
  obtain ⟨x, y, h1, h2, ⟨a1, a2, a3, a4⟩, h4⟩ := h.obj i (by rw [h.len]; exact hi)
  refine ⟨y, x, h2, h1, ⟨a1.symm, a2.symm, a3.symm, a4.symm⟩, fun k hk => ?_⟩
  obtain ⟨b1, b2⟩ := h4 k (by rw [a1]; exact hk)
  rw [← a2]
  exact ⟨fun hb => ⟨(b1 hb).1.symm, fun hw => ((b1 hb).2 (fun hv => hw ((b1 hb).1.1 hv))).symm⟩, fun hb => (b2 hb).symm⟩

theorem AlikeO.trans (h : AlikeO f L ra g L' rb) (k : AlikeO g L' rb e L2 rc) : AlikeO f L ra e L2 rc := by
  refine ⟨h.rlen.trans k.rlen, h.len.trans k.len, fun i hi => ?_, fun i hi => (h.roots i hi).trans (k.roots i (by rw [← h.rlen]; exact hi))⟩
  obtain ⟨x, y, h1, h2, ⟨a1, a2, a3, a4⟩, h4⟩ := h.obj i hi
  obtain ⟨y', z, k1, k2, ⟨c1, c2, c3, c4⟩, k4⟩ := k.obj i (by rw [← h.len]; exact hi)
  rw [h2] at k1
  obtain rfl := Option.some.inj k1
  refine ⟨x, z, h1, k2, ⟨a1.trans c1, a2.trans c2, a3.trans c3, a4.trans c4⟩, fun q hq => ?_⟩
  obtain ⟨b1, b2⟩ := h4 q hq
  obtain ⟨d1, d2⟩ := k4 q (by rw [← a1]; exact hq)
  rw [← a2] at d1 d2
  exact ⟨fun hb => ⟨(b1 hb).1.trans (d1 hb).1, fun hv => ((b1 hb).2 hv).trans ((d1 hb).2 (fun hw => hv ((b1 hb).1.2 hw)))⟩, fun hb => (b2 hb).trans (d2 hb)⟩

theorem AlikeO.refl (hr : Right f L) (hroots : ∀ p ∈ ra, p ∈ placesO L) : AlikeO f L ra f L ra := by
  refine ⟨rfl, rfl, fun i hi => ?_, fun _ _ => rfl⟩
  have hm : (reachO f L ra).getD i 0 ∈ reachO f L ra := by rw [getD_get hi]; exact List.getElem_mem hi
  obtain ⟨x, hx⟩ := mem_placesO.1 (reachO_sub hr.points hr.size hroots _ hm)
  exact ⟨x, x, hx, hx, ⟨rfl, rfl, rfl, rfl⟩, fun k _ => ⟨fun _ => ⟨Iff.rfl, fun _ => rfl⟩, fun _ => rfl⟩⟩

end

section

variable {f g : Nat → Int} {L : List Ob} {roots : List Int} {P : Nat}

end
end Go.Proofs.Ytaenbjilcgpgcaa

namespace Go.Proofs.Ytaenbjilcgpgcaa
open Go.RowKit
set_option linter.unusedVariables false

/-- A list as a row's numbers. -/
def lf (l : List Int) : Nat → Int := fun i => l.getD i 0

theorem lf_at {l : List Int} {i : Nat} (h : i < l.length) : lf l i = l[i] := getD_get h

theorem lf_mem {l : List Int} {i : Nat} (h : i < l.length) : lf l i ∈ l := by rw [lf_at h]; exact List.getElem_mem h

theorem nums_lf (l : List Int) : nums l.length (lf l) = l.map (fun x => Value.int .i64 x) := by
  apply List.ext_getElem?
  intro i
  by_cases hi : i < l.length
  · rw [nums_get _ _ _ hi, lf_at hi]; simp [hi]
  · rw [List.getElem?_eq_none (by rw [nums_length]; omega), List.getElem?_eq_none (by simp; omega)]

theorem nums_snoc (l : List Int) (x : Int) : nums l.length (lf l) ++ [Value.int .i64 x] = nums (l.length + 1) (lf (l ++ [x])) := by
  have h := nums_lf (l ++ [x])
  rw [show (l ++ [x]).length = l.length + 1 by simp] at h
  rw [h, nums_lf]; simp

/-- Where an object's pointers lead, from a field on. -/
def ptrsF (f : Nat → Int) (x : Ob) (k : Nat) : List Int := ((List.range x.s.toNat).drop k).filterMap fun (k : Nat) => if x.m / P2 (k : Int) % 2 = 1 ∧ ¬ f (x.at_.toNat + 2 + k) = 0 then some (f (x.at_.toNat + 2 + k) - 1) else none

def add1 (O : List Int) (p : Int) : List Int := if p ∈ O then O else O ++ [p]

/-- The scan: the places from i on are still to be looked at. -/
structure SC (f : Nat → Int) (L : List Ob) (roots : List Int) (i : Nat) (O : List Int) : Prop where
  nd : O.Nodup
  sub : ∀ p ∈ O, p ∈ placesO L
  le : i ≤ O.length
  all : reachO f L roots = scanF (succO f L) (L.length - i) i O

/-- The scan within an object. -/
structure SI (f : Nat → Int) (L : List Ob) (roots : List Int) (i k : Nat) (x : Ob) (O : List Int) : Prop where
  nd : O.Nodup
  sub : ∀ p ∈ O, p ∈ placesO L
  lt : i < O.length
  at_ : findO L (lf O i) = some x
  all : reachO f L roots = scanF (succO f L) (L.length - (i + 1)) (i + 1) (addNew O (ptrsF f x k))

section

variable {f : Nat → Int} {L : List Ob} {roots O : List Int} {i k : Nat} {x : Ob}

theorem SC.len (h : SC f L roots i O) : O.length ≤ L.length := by have := nodup_length h.nd h.sub; simpa [placesO] using this

theorem SI.len (h : SI f L roots i k x O) : O.length ≤ L.length := by have := nodup_length h.nd h.sub; simpa [placesO] using this

end

/-- A table: the i-th of a list has the i-th value. -/
def tab (R : List Int) (v : Nat → Int) (p : Int) : Option Int := (numL R p).map v

theorem tab_nil (v : Nat → Int) (p : Int) : tab [] v p = none := rfl

theorem numL_snoc {R : List Int} {p : Int} (h : p ∉ R) (q : Int) : numL (R ++ [p]) q = if q = p then some R.length else numL R q := by
  unfold numL
  rw [List.findIdx?_append]
  by_cases e : q = p
  · subst e
    rw [if_pos rfl, show R.findIdx? (· == q) = none from numL_none.2 h]
    simp
  · rw [if_neg e]
    have : ([p] : List Int).findIdx? (· == q) = none := by simp [List.findIdx?_cons]; intro h; exact e h.symm
    rw [this]
    cases R.findIdx? (· == q) <;> rfl

theorem tab_snoc {R : List Int} {p : Int} (h : p ∉ R) (v : Nat → Int) (q : Int) : tab (R ++ [p]) v q = if q = p then some (v R.length) else tab R v q := by
  unfold tab
  rw [numL_snoc h]
  split <;> rfl
end Go.Proofs.Ytaenbjilcgpgcaa

namespace Go.Proofs.Ytaenbjilcgpgcaa
open Go.RowKit
set_option linter.unusedVariables false

theorem news1 (w : World) (x : Int) : ∀ (j : Nat) (u : Value), ([.int .i64 x] : List Value)[j]? = some u → (w.alloc (.cells #[.int .i64 x] 2)).cell? ((⟨w.heap.size, 0, none⟩ : Addr).add j) = some u := fun j u hu => by
  match j, hu with
  | 0, hu => exact (Blk.new w #[.int .i64 x] 2).at 0 hu
  | j + 1, hu => simp at hu

set_option maxRecDepth 100000 in
set_option maxHeartbeats 800000 in
theorem l1Has_any (a : Option Addr) (l : List Int) (c : Nat) (v : Int) (w : World) (hs : Src w a l.length (lf l)) (hl : l.length ≤ 1048576) :
    Calls Try.prog 164 #[.slice a l.length c, .int .i64 v] w fun e w' => e = .returned (.bool (decide (v ∈ l))) ∧ w = w' := by
  have HS := Lib.hid hs
  clear hs
  go_enter Try.func164, Try.ntmps164
  go_wp2
  go_loop [5] (fun p => ∃ i : Nat, i ≤ l.length ∧ p = .int .i64 (i : Int) ∧ Hid (∀ j, j < i → ¬ lf l j = v)) (fun p => l.length - (intOf p).toNat)
  case atStart => exact ⟨0, Nat.zero_le _, rfl, Lib.hid (fun j hj => by omega)⟩
  case round =>
    obtain ⟨i, hi, rfl, HD⟩ := hrel
    by_cases hlt : i < l.length
    · have hlt' : (i : Int) < (l.length : Int) := by omega
      have hi0 : (0 : Int) ≤ (i : Int) := by omega
      obtain ⟨b, off, rfl, hb, hc⟩ := src_some HS.out (by omega)
      have c0 := hc i hlt
      have hmem := lf_mem hlt
      obtain ⟨y, hy⟩ : ∃ y, lf l i = y := ⟨_, rfl⟩
      have HY := Lib.hid hy
      rw [hy] at c0 hmem
      clear hc hy
      by_cases he : y = v
      · subst he
        have HM : Hid (decide (y ∈ l) = true) := Lib.hid (decide_eq_true hmem)
        clear hmem
        go_wp2
        go_ret
        exact ⟨by rw [HM.out]; rfl, rfl⟩
      · have hb' : (y == v) = false := by simpa using he
        clear hmem
        go_wp2
        go_round
        case rel => exact ⟨i + 1, by omega, by go_num, Lib.hid (fun j hj => by
          rcases Nat.lt_succ_iff_lt_or_eq.mp hj with h1 | h1
          · exact HD.out j h1
          · subst h1; rw [HY.out]; exact he)⟩
        case measure => simp [intOf]; omega
    · have hlt' : ¬ (i : Int) < (l.length : Int) := by omega
      have HM : Hid (decide (v ∈ l) = false) := Lib.hid (decide_eq_false (fun hm => by
        obtain ⟨j, hj, he⟩ := List.getElem_of_mem hm
        exact HD.out j (by omega) (by rw [lf_at hj]; exact he)))
      go_wp2
      go_ret
      exact ⟨by rw [HM.out]; rfl, rfl⟩

theorem numL_first {l : List Int} {v : Int} {i : Nat} (hi : i < l.length) (he : lf l i = v) (hf : ∀ j, j < i → ¬ lf l j = v) : numL l v = some i := by
  unfold numL
  rw [List.findIdx?_eq_some_iff_getElem]
  refine ⟨hi, by rw [lf_at hi] at he; simpa using he, fun j hj => ?_⟩
  have := hf j hj
  rw [lf_at (by omega)] at this
  simpa using this

/-- The number as the model tells it. -/
def numI (l : List Int) (v : Int) : Int := match numL l v with | some i => (i : Int) | none => -1

set_option maxRecDepth 100000 in
set_option maxHeartbeats 800000 in
theorem l4Number_any (a : Option Addr) (l : List Int) (c : Nat) (v : Int) (w : World) (hs : Src w a l.length (lf l)) (hl : l.length ≤ 1048576) :
    Calls Try.prog 72 #[.slice a l.length c, .int .i64 v] w fun e w' => e = .returned (.int .i64 (numI l v)) ∧ w = w' := by
  have HS := Lib.hid hs
  clear hs
  go_enter Try.func72, Try.ntmps72
  go_wp2
  go_loop [5] (fun p => ∃ i : Nat, i ≤ l.length ∧ p = .int .i64 (i : Int) ∧ Hid (∀ j, j < i → ¬ lf l j = v)) (fun p => l.length - (intOf p).toNat)
  case atStart => exact ⟨0, Nat.zero_le _, rfl, Lib.hid (fun j hj => by omega)⟩
  case round =>
    obtain ⟨i, hi, rfl, HD⟩ := hrel
    by_cases hlt : i < l.length
    · have hlt' : (i : Int) < (l.length : Int) := by omega
      have hi0 : (0 : Int) ≤ (i : Int) := by omega
      obtain ⟨b, off, rfl, hb, hc⟩ := src_some HS.out (by omega)
      have c0 := hc i hlt
      obtain ⟨y, hy⟩ : ∃ y, lf l i = y := ⟨_, rfl⟩
      have HY := Lib.hid hy
      rw [hy] at c0
      clear hc hy
      by_cases he : y = v
      · have HM : Hid (numI l v = (i : Int)) := Lib.hid (by unfold numI; rw [numL_first hlt (by rw [HY.out]; exact he) HD.out])
        subst he
        go_wp2
        go_ret
        exact ⟨by rw [HM.out]; rfl, rfl⟩
      · have hb' : (y == v) = false := by simpa using he
        go_wp2
        go_round
        case rel => exact ⟨i + 1, by omega, by go_num, Lib.hid (fun j hj => by
          rcases Nat.lt_succ_iff_lt_or_eq.mp hj with h1 | h1
          · exact HD.out j h1
          · subst h1; rw [HY.out]; exact he)⟩
        case measure => simp [intOf]; omega
    · have hlt' : ¬ (i : Int) < (l.length : Int) := by omega
      have HM : Hid (numI l v = -1) := Lib.hid (by
        have : numL l v = none := numL_none.2 (fun hm => by
          obtain ⟨j, hj, he⟩ := List.getElem_of_mem hm
          exact HD.out j (by omega) (by rw [lf_at hj]; exact he))
        unfold numI; rw [this])
      go_wp2
      go_ret
      exact ⟨by rw [HM.out]; rfl, rfl⟩
end Go.Proofs.Ytaenbjilcgpgcaa

namespace Go.Proofs.Ytaenbjilcgpgcaa
open Go.RowKit
set_option linter.unusedVariables false

theorem row_src {w : World} {B e : Nat} {v : Value} {l : List Int} (h : w.ownsRow B e 1 v l.length (nums l.length (lf l))) : ∃ a c, v = .slice a l.length c ∧ Src w a l.length (lf l) := by
  obtain ⟨a, c, rfl, _⟩ := row_shape h
  exact ⟨a, c, rfl, (own_of_row h).src⟩

/-- The objects of a list in memory, as the model walks need them. -/
structure OMS (w : World) (base lo : Nat) (f : Nat → Int) (v : Value) (M : List OM) : Prop where
  row : w.ownsRow base 95 6 v M.length (rowCells M)
  fl : Flds w lo f v M
  len : M.length ≤ 400
  ok : ∀ t ∈ M, (0 ≤ t.x.s ∧ t.x.s ≤ 12) ∧ (0 ≤ t.x.m ∧ t.x.m ≤ 4095) ∧ (0 ≤ t.x.at_ ∧ t.x.at_ ≤ 1000000) ∧ ∀ k, k < t.x.s.toNat → -1000000000 ≤ f (t.x.at_.toNat + 2 + k) ∧ f (t.x.at_.toNat + 2 + k) ≤ 1000000000

theorem OMS.below {w w' : World} {base lo : Nat} {f : Nat → Int} {v : Value} {M : List OM} (h : OMS w base lo f v M) (hb : Below w.heap.size w w') : OMS w' base lo f v M := ⟨ownsRow_below h.row hb, h.fl.below hb, h.len, h.ok⟩

theorem OMS.size {w : World} {base lo : Nat} {f : Nat → Int} {v : Value} {M : List OM} (h : OMS w base lo f v M) : ∀ x ∈ M.map OM.x, 0 ≤ x.s := fun x hx => by
  obtain ⟨t, ht, rfl⟩ := List.mem_map.mp hx
  exact (h.ok t ht).1.1

theorem OMS.place {w : World} {base lo : Nat} {f : Nat → Int} {v : Value} {M : List OM} (h : OMS w base lo f v M) : ∀ p ∈ placesO (M.map OM.x), 0 ≤ p ∧ p ≤ 1000000 := fun p hp => by
  obtain ⟨y, hy, rfl⟩ := List.mem_map.mp hp
  obtain ⟨t, ht, rfl⟩ := List.mem_map.mp hy
  exact (h.ok t ht).2.2.1
end Go.Proofs.Ytaenbjilcgpgcaa

namespace Go.Proofs.Ytaenbjilcgpgcaa
open Go.RowKit
set_option linter.unusedVariables false

theorem OMS.lo {w : World} {base lo base' lo' : Nat} {f : Nat → Int} {v : Value} {M : List OM} (h : OMS w base lo f v M) (h1 : base' ≤ base) (h2 : lo' ≤ lo) : OMS w base' lo' f v M := by
  refine ⟨?_, ⟨fun t ht => ?_, h.fl.2⟩, h.len, h.ok⟩
  · refine ⟨h.row.1, ?_⟩
    rcases h.row.2 with h0 | ⟨g, cap, cur, e1, e2, e3⟩
    · exact .inl h0
    · exact .inr ⟨g, cap, cur, e1, Nat.le_trans h1 e2, e3⟩
  · obtain ⟨e1, e2⟩ := h.fl.1 t ht
    exact ⟨Nat.le_trans h2 e1, e2⟩
end Go.Proofs.Ytaenbjilcgpgcaa

namespace Go.Proofs.Ytaenbjilcgpgcaa
open Go.RowKit
set_option linter.unusedVariables false

theorem own_of_row' {w : World} {B e : Nat} {v : Value} {l : List Int} (h : w.ownsRow B e 1 v l.length (nums l.length (lf l))) : ∃ a c, v = .slice a l.length c ∧ Own w B a l.length (lf l) := by
  obtain ⟨a, c, rfl, _⟩ := row_shape h
  exact ⟨a, c, rfl, own_of_row h⟩
end Go.Proofs.Ytaenbjilcgpgcaa

namespace Go.Proofs.Ytaenbjilcgpgcaa
open Go.RowKit Go.Maps
set_option linter.unusedVariables false

theorem Try.underlyingMap : Try.prog.underlying 83 = some (.map 2 2) := by kernel_rfl

theorem Try.underlyingI : Try.prog.underlying 2 = some (.int .i64) := by kernel_rfl

theorem keyI : Keyed Try.prog 2 := int_keyed Try.underlyingI

theorem zeroI (w : World) : (zeroValue 2).run Try.prog w = .ok (.int .i64 0) w := by kernel_rfl

theorem wfI {p : Int} (h : -1000000000 ≤ p ∧ p ≤ 1000000000) : (Lit.int .i64 p).wf = true := WalkArith.wf_i64 (by omega)

/-- A block is a map in which the i-th of a list has the i-th value, and nothing else is there. -/
def MapT (w : World) (b n : Nat) (R : List Int) (v : Nat → Int) : Prop :=
  ∃ D : DataW Unit, w.ownsMap Try.prog 2 (plainElem Try.prog 2) b n D ∧ ∀ p, (Lit.int .i64 p).wf = true → Maps.has D (.int .i64 p) = decide (p ∈ R) ∧ D.atKey (.int .i64 p) (.lit (.int .i64 0)) = .lit (.int .i64 ((tab R v p).getD 0))

section

variable {w : World} {b n : Nat} {R : List Int} {v : Nat → Int} {p : Int}

theorem MapT.lt (h : MapT w b n R v) : b < w.heap.size := by obtain ⟨D, h1, _⟩ := h; exact h1.lt

theorem MapT.block {w' : World} (h : MapT w b n R v) (hb : w'.heap[b]? = w.heap[b]?) : MapT w' b n R v := by
  obtain ⟨D, ⟨es, clock, h1, h2⟩, h3⟩ := h
  exact ⟨D, ⟨es, clock, hb.trans h1, h2⟩, h3⟩

theorem MapT.below {w' : World} (h : MapT w b n R v) (hb : Below w.heap.size w w') : MapT w' b n R v := h.block (hb.block b h.lt)

theorem MapT.alloc (h : MapT w b n R v) (o : Obj) : MapT (w.alloc o) b n R v := h.below ((Below.refl _ _).alloc (Nat.le_refl _) o)

theorem MapT.drew (h : MapT w b n R v) : MapT w.drew b n R v := h.below (Below.refl _ _).drew

theorem MapT.drewN (h : MapT w b n R v) (q : Nat) : MapT (w.drewN q) b n R v := h.below (drewN_below w q)

theorem MapT.grown {w' : World} {row : Option Nat} (h : MapT w b n R v) (hg : w.grownBy w' row) (hne : row ≠ some b) : MapT w' b n R v := h.block (hg.block b h.lt (fun e => hne e.symm))

theorem MapT.set (h : MapT w b n R v) {p : Addr} (hp : b ≠ p.block) (u : Value) : MapT (w.setCell p u) b n R v := h.block (Below.heap_setCell _ _ _ b hp)

theorem MapT.made (w : World) (v : Nat → Int) : MapT (w.alloc (.map #[] 0)) w.heap.size 0 [] v := ⟨.map [], World.ownsMap_made _ _ _ _, fun p _ => ⟨by simp [Maps.has_eq], by simp [tab_nil]; rfl⟩⟩

theorem MapT.look (h : MapT w b n R v) (hp : -1000000000 ≤ p ∧ p ≤ 1000000000) : (Instr.lookup 83 (.map (some b)) (.int .i64 p) false).run Try.prog w = .ok (.int .i64 ((tab R v p).getD 0)) w := by
  obtain ⟨D, h1, h2⟩ := h
  obtain ⟨c, hr, hc, _⟩ := h1.lookup_int keyI Try.underlyingMap Try.underlyingI (zeroI w) (keyOf_int_mk Try.underlyingI (wfI hp))
  obtain ⟨h3, h4⟩ := h2 p (wfI hp)
  rw [h4] at hc
  have : (tab R v p).getD 0 = c := by simpa using hc
  rw [hr, this]

theorem MapT.update (h : MapT w b n R v) (hn : n < maxLen) (hp : -1000000000 ≤ p ∧ p ≤ 1000000000) (hv : -1000000000 ≤ v R.length ∧ v R.length ≤ 1000000000) (hq : p ∉ R) : ∃ w', (Instr.mapUpdate 83 (.map (some b)) (.int .i64 p) (.int .i64 (v R.length))).run Try.prog w = .ok () w' ∧ MapT w' b (n + 1) (R ++ [p]) v ∧ w.grownBy w' (some b) := by
  obtain ⟨D, h1, h2⟩ := h
  obtain ⟨w', hr, h3, h4⟩ := h1.update keyI Try.underlyingMap hn (keyOf_int_mk Try.underlyingI (wfI hp)) (plainElem_int Try.underlyingI (wfI hv))
  refine ⟨w', hr, ⟨_, h3, fun q hwq => ?_⟩, h4⟩
  have hk : WideAt.IsKeyLit (Lit.int .i64 p) := by trivial
  by_cases e : q = p
  · subst e
    refine ⟨by rw [Maps.has_put_same h1.isMap hk]; simp, ?_⟩
    rw [Maps.atKey_put_same h1.isMap hk, tab_snoc hq, if_pos rfl]; rfl
  · have hne : Lit.int .i64 q ≠ Lit.int .i64 p := fun h => e (by simpa using h)
    refine ⟨by rw [Maps.has_put_other hne, (h2 q hwq).1]; simp [e], ?_⟩
    rw [Maps.atKey_put_other hne, (h2 q hwq).2, tab_snoc hq, if_neg e]

end

/-- A row of objects is read. -/
theorem rowG_GV {w : World} {base : Nat} {v : Value} {M : List GM} (h : w.ownsRow base 95 6 v M.length (rowG M)) (hf : ∀ t ∈ M, Src w t.a t.n t.f) : ∃ a c, v = .slice a M.length c ∧ GV w a M.length (gT M) := by
  rcases Nat.eq_zero_or_pos M.length with h0 | hp
  · rcases h.2 with ⟨h1, h2⟩ | ⟨g, cap, cur, h1, _⟩
    · exact ⟨none, 0, by rw [h1, h2], .inl h0⟩
    · exact ⟨_, _, h1, .inl h0⟩
  · obtain ⟨g, cap, rfl, hb, hlt⟩ := h.form hp
    have hce : ∀ i t, M[i]? = some t → ∀ j u, (gcells t)[j]? = some u → w.cell? ⟨g, i * 6 + j, none⟩ = some u := fun i t ht j u hu => by
      have hi : i < M.length := (List.getElem?_eq_some_iff.mp ht).1
      have hj : j < 6 := by
        have := (List.getElem?_eq_some_iff.mp hu).1
        simpa [gcells] using this
      have hc := h.cellAt (i * 6 + j) (by omega)
      rw [rowG_get M i t ht j hj, hu] at hc
      simpa using hc
    refine ⟨_, _, rfl, .inr ⟨g, 0, rfl, hlt, fun i hi => ?_, fun i hi => ?_⟩⟩
    · have ht := List.getElem?_eq_getElem hi
      rw [gT_at ht, Nat.zero_add]
      exact ⟨hce i _ ht 0 _ rfl, hce i _ ht 1 _ rfl, hce i _ ht 2 _ rfl, hce i _ ht 3 _ rfl, hce i _ ht 4 _ rfl, hce i _ ht 5 _ rfl⟩
    · rw [gT_at (List.getElem?_eq_getElem hi)]
      exact hf _ (List.getElem_mem hi)
end Go.Proofs.Ytaenbjilcgpgcaa

namespace Go.Proofs.Ytaenbjilcgpgcaa
open Go.RowKit Go.Maps
set_option linter.unusedVariables false

/-- What is reached so far, as the program has it: in the block rb, with the map mb and the row v. -/
structure RS (w : World) (base rb mb : Nat) (v : Value) (M : List GM) (f : Nat → Int) (L : List Ob) (O : List Int) : Prop where
  blk : Blk w rb [.int .i64 0, v, .map (some mb)]
  hrb : base ≤ rb
  hmb : base ≤ mb
  hne : mb ≠ rb
  vr : v.ownBlock ≠ some rb
  vm : v.ownBlock ≠ some mb
  row : w.ownsRow base 95 6 v M.length (rowG M)
  map : MapT w mb O.length O (fun i => (i : Int))
  len : M.length = O.length
  src : ∀ t ∈ M, Src w t.a t.n t.f ∧ (t.n = 0 ∨ t.g + 1 < base)
  same : ∀ i t, M[i]? = some t → ∃ x, findO L (lf O i) = some x ∧ GSame t (obG f x)

section

variable {w w' : World} {base rb mb : Nat} {v : Value} {M : List GM} {f : Nat → Int} {L : List Ob} {O : List Int}

theorem RS.below (h : RS w base rb mb v M f L O) (hb : Below w.heap.size w w') : RS w' base rb mb v M f L O :=
  ⟨h.blk.below hb, h.hrb, h.hmb, h.hne, h.vr, h.vm, ownsRow_below h.row hb, h.map.below hb, h.len, fun t ht => ⟨(h.src t ht).1.below hb, (h.src t ht).2⟩, h.same⟩

theorem RS.set (h : RS w base rb mb v M f L O) {p : Addr} (hp : p.block + 1 = base) (u : Value) : RS (w.setCell p u) base rb mb v M f L O := by
  have h1 := h.hrb; have h2 := h.hmb
  refine ⟨h.blk.other (by omega) _, h.hrb, h.hmb, h.hne, h.vr, h.vm, row_set h.row (by omega) _, h.map.set (by omega) _, h.len, fun t ht => ⟨?_, (h.src t ht).2⟩, h.same⟩
  obtain ⟨h3, h4⟩ := h.src t ht
  rcases h3 with h0 | ⟨b, o, e1, h5, h6⟩
  · exact .inl h0
  · rcases h4 with h0 | h4
    · exact .inl h0
    · have : t.g = b := (by simp [GM.g, e1])
      exact .inr ⟨b, o, e1, by simpa using h5, fun i hi => (World.cell?_of_block (w := w) (a := ⟨b, o + i, none⟩) (Below.heap_setCell _ _ _ b (by omega))).trans (h6 i hi)⟩

theorem RS.out (h : RS w base rb mb v M f L O) : ∃ a c, v = .slice a M.length c ∧ GV w a M.length (gT M) := rowG_GV h.row (fun t ht => (h.src t ht).1)

end
end Go.Proofs.Ytaenbjilcgpgcaa

namespace Go.Proofs.Ytaenbjilcgpgcaa
open Go.RowKit Go.Maps
set_option linter.unusedVariables false

/-- What is known of the objects of an arena without a fault, as the program reads them. -/
structure Shaped (w : World) (a : Option Addr) (T : Nat → GM) (f : Nat → Int) (L : List Ob) : Prop where
  gv : GV w a L.length T
  same : ∀ i, i < L.length → GSame (T i) (obT f L i)
  sort : ∀ i j, i < j → j < L.length → (T i).at_ < (T j).at_
  right : Right f L
  len : L.length ≤ 400
  place : ∀ x ∈ L, 0 ≤ x.at_ ∧ x.at_ ≤ 1000000
  word : ∀ x ∈ L, ∀ k, k < x.s.toNat → -1000000000 ≤ f (x.at_.toNat + 2 + k) ∧ f (x.at_.toNat + 2 + k) ≤ 1000000000

section

variable {w w' : World} {a : Option Addr} {T : Nat → GM} {f : Nat → Int} {L : List Ob}

theorem Shaped.below (h : Shaped w a T f L) (hb : Below w.heap.size w w') : Shaped w' a T f L := ⟨h.gv.below hb, h.same, h.sort, h.right, h.len, h.place, h.word⟩

theorem Shaped.src (h : Shaped w a T f L) {i : Nat} (hi : i < L.length) : Src w (T i).a (T i).n (T i).f := by
  rcases h.gv with h0 | ⟨b, q, _, g⟩
  · omega
  · exact g.flds i hi

end

/-- The program's scan: at a field of an object, or at the end. -/
def ST (f : Nat → Int) (L : List Ob) (roots : List Int) (n i : Nat) (O : List Int) : Prop := (n = O.length ∧ i = 0 ∧ SC f L roots n O) ∨ ∃ x, i ≤ x.s.toNat ∧ SI f L roots n i x O

theorem ST.len {f : Nat → Int} {L : List Ob} {roots O : List Int} {n i : Nat} (h : ST f L roots n i O) : O.length ≤ L.length := by
  rcases h with ⟨_, _, h⟩ | ⟨_, _, h⟩
  · exact h.len
  · exact h.len
end Go.Proofs.Ytaenbjilcgpgcaa

namespace Go.Proofs.Ytaenbjilcgpgcaa
open Go.RowKit Go.Maps
set_option linter.unusedVariables false

/-- A block that holds no more than a code, an empty row and no map. -/
def Dead (w : World) (R : Nat) : Prop := ∃ t fr, w.heap[R]? = some (.cells #[.int .i64 0, .slice none 0 0, .map none] t fr)

theorem Dead.below {w w' : World} {R : Nat} (h : Dead w R) (hb : Below w.heap.size w w') : Dead w' R := by
  obtain ⟨t, fr, h1⟩ := h
  exact ⟨t, fr, (hb.block R (Array.getElem?_eq_some_iff.1 h1).1).trans h1⟩
end Go.Proofs.Ytaenbjilcgpgcaa

namespace Go.Proofs.Ytaenbjilcgpgcaa
open Go.RowKit Go.Maps
set_option linter.unusedVariables false

theorem news1b (w : World) (x : Int) (B : Nat) (hB : B = w.heap.size) : ∀ (j : Nat) (u : Value), ([.int .i64 x] : List Value)[j]? = some u → (w.alloc (.cells #[.int .i64 x] 2)).cell? ((⟨B, 0, none⟩ : Addr).add j) = some u := hB ▸ news1 w x

theorem nums_succ (n : Nat) (f : Nat → Int) : nums (n + 1) f = nums n f ++ [.int .i64 (f n)] := by simp [nums, List.range_succ]
end Go.Proofs.Ytaenbjilcgpgcaa

namespace Go.Proofs.Ytaenbjilcgpgcaa
open Go.RowKit Go.Maps
set_option linter.unusedVariables false

/-- What the closure reads. -/
structure Cap (w : World) (rb mb nn : Nat) (v : Value) (O : List Int) : Prop where
  blk : Blk w rb [.int .i64 0, v, .map (some mb)]
  map : MapT w mb nn O (fun i => (i : Int))

theorem Cap.below {w w' : World} {rb mb nn : Nat} {v : Value} {O : List Int} (h : Cap w rb mb nn v O) (hb : Below w.heap.size w w') : Cap w' rb mb nn v O := ⟨h.blk.below hb, h.map.below hb⟩
end Go.Proofs.Ytaenbjilcgpgcaa

namespace Go.Proofs.Ytaenbjilcgpgcaa
open Go.RowKit Go.Maps
set_option linter.unusedVariables false

/-- A row of objects that may be written. -/
structure RW (w : World) (b q N : Nat) (V : Nat → GM) : Prop where
  lt : b < w.heap.size
  six : ∀ k, k < N → SixG w b (q + k * 6) (V k)
  free : ∀ k, k < N → SixF w b (q + k * 6)
  flds : ∀ k, k < N → Src w (V k).a (V k).n (V k).f
  off : ∀ k, k < N → (V k).n = 0 ∨ (V k).g ≠ b

theorem RW.below {w w' : World} {b q N : Nat} {V : Nat → GM} (h : RW w b q N V) (hb : Below w.heap.size w w') : RW w' b q N V :=
  ⟨Nat.lt_of_lt_of_le h.lt hb.size, fun k hk => (h.six k hk).below hb h.lt, fun k hk => (h.free k hk).below hb h.lt, fun k hk => (h.flds k hk).below hb, h.off⟩

theorem src_six {w : World} {b o : Nat} {t u : GM} (h : Src w u.a u.n u.f) (hb : u.n = 0 ∨ u.g ≠ b) : Src (sixW w b o t) u.a u.n u.f := by
  rcases h with h0 | ⟨b', o', e, h1, h2⟩
  · exact .inl h0
  · rcases hb with h0 | hb
    · exact .inl h0
    · have hg : u.g = b' := by simp [GM.g, e]
      have hk := (sixW_keeps w b o t).block b' h1 (by omega)
      exact .inr ⟨b', o', e, Nat.lt_of_lt_of_le h1 (sixW_keeps w b o t).size, fun i hi => (World.cell?_of_block (w := w) (a := ⟨b', o' + i, none⟩) hk).trans (h2 i hi)⟩

theorem sixF_six {w : World} {b o o' : Nat} {t : GM} (h : SixF w b o) : SixF (sixW w b o' t) b o :=
  ⟨(sixW_frozen _ _ _ _ _).trans h.1, (sixW_frozen _ _ _ _ _).trans h.2.1, (sixW_frozen _ _ _ _ _).trans h.2.2.1, (sixW_frozen _ _ _ _ _).trans h.2.2.2.1, (sixW_frozen _ _ _ _ _).trans h.2.2.2.2.1, (sixW_frozen _ _ _ _ _).trans h.2.2.2.2.2⟩

theorem RW.set {w : World} {b q N i : Nat} {V : Nat → GM} {t : GM} (h : RW w b q N V) (hi : i < N) (hs : Src w t.a t.n t.f) (ho : t.n = 0 ∨ t.g ≠ b) : RW (sixW w b (q + i * 6) t) b q N (fun k => if k = i then t else V k) := by
  refine ⟨Nat.lt_of_lt_of_le h.lt (sixW_keeps w b _ t).size, fun k hk => ?_, fun k hk => sixF_six (h.free k hk), fun k hk => ?_, fun k hk => ?_⟩
  · by_cases e : k = i
    · subst e; rw [if_pos rfl]; exact sixW_at (h.six k hk) t
    · rw [if_neg e]; exact sixW_other (h.six k hk) (by omega) t
  · by_cases e : k = i
    · rw [if_pos e]; exact src_six hs ho
    · rw [if_neg e]; exact src_six (h.flds k hk) (h.off k hk)
  · by_cases e : k = i
    · rw [if_pos e]; exact ho
    · rw [if_neg e]; exact h.off k hk
end Go.Proofs.Ytaenbjilcgpgcaa

namespace Go.Proofs.Ytaenbjilcgpgcaa
open Go.RowKit Go.Maps
set_option linter.unusedVariables false

theorem RW.has {w : World} {b q N : Nat} {V : Nat → GM} (h : RW w b q N V) (o : Nat) (ho : o < N * 6) : (w.cell? ⟨b, q + o, none⟩).isSome = true ∧ w.frozen? ⟨b, q + o, none⟩ = false := by
  obtain ⟨k, r, hr, e⟩ : ∃ k r, r < 6 ∧ o = k * 6 + r := ⟨o / 6, o % 6, Nat.mod_lt _ (by omega), by omega⟩
  subst e
  have hk : k < N := by omega
  obtain ⟨x0, x1, x2, x3, x4, x5⟩ := h.six k hk
  obtain ⟨g0, g1, g2, g3, g4, g5⟩ := h.free k hk
  rw [← Nat.add_assoc]
  match r, hr with
  | 0, _ => exact ⟨by rw [Nat.add_zero, x0]; rfl, g0⟩
  | 1, _ => exact ⟨by rw [x1]; rfl, g1⟩
  | 2, _ => exact ⟨by rw [x2]; rfl, g2⟩
  | 3, _ => exact ⟨by rw [x3]; rfl, g3⟩
  | 4, _ => exact ⟨by rw [x4]; rfl, g4⟩
  | 5, _ => exact ⟨by rw [x5]; rfl, g5⟩
end Go.Proofs.Ytaenbjilcgpgcaa

namespace Go.Proofs.Ytaenbjilcgpgcaa
open Go.RowKit Go.Maps
set_option linter.unusedVariables false

/-- What is carried through the draw: the source, the bytes, the arena, the answer's block, the arena's words, the roots. -/
structure DS (W w : World) (ca : Option Addr) (k kc : Nat) (B : Nat → Int) (t P : Nat) (h ac bu : Int) (a : Option Addr) (n c : Nat) (f : Nat → Int) (u : Value) (l : List Int) : Prop where
  bel : Below W.heap.size W w
  src : Blk w (W.heap.size + 1) [.slice ca k kc, .int .i64 (t : Int)]
  byt : SrcB w (W.heap.size + 1) ca k B
  arn : Blk w P [.int .i64 h, .slice a n c, .int .i64 ac, .int .i64 bu]
  res : Blk w W.heap.size [.int .i64 0, .slice none 0 0, .int .i64 0, .int .i64 0]
  wrd : OwnIn w (W.heap.size + 2) P a n f
  row : w.ownsRow (P + 1) 2 1 u l.length (nums l.length (lf l))
  hP : W.heap.size + 2 ≤ P

theorem DS.below {W w w' : World} {ca : Option Addr} {k kc t P : Nat} {B f : Nat → Int} {h ac bu : Int} {a : Option Addr} {n c : Nat} {u : Value} {l : List Int} (d : DS W w ca k kc B t P h ac bu a n c f u l) (hb : Below w.heap.size w w') : DS W w' ca k kc B t P h ac bu a n c f u l :=
  ⟨d.bel.trans (hb.mono d.bel.size), d.src.below hb, d.byt.below hb, d.arn.below hb, d.res.below hb, d.wrd.below hb, ownsRow_below d.row hb, d.hP⟩
end Go.Proofs.Ytaenbjilcgpgcaa

namespace Go.Proofs.Ytaenbjilcgpgcaa
open Go.RowKit Go.Maps
set_option linter.unusedVariables false

/-- What the law of what is reached has at hand. -/
structure LR (W w : World) (P P5 P6 P7 : Nat) (h ac bu : Int) (a : Option Addr) (n c : Nat) (f : Nat → Int) (ra : Option Addr) (l : List Int) (co : Int) (R : List Int) (ua : Option Addr) (uc : Nat) (G : List Int) (ga : Option Addr) (gc : Nat) (wv : Int) : Prop where
  bel : Below W.heap.size W w
  arn : Blk w P [.int .i64 h, .slice a n c, .int .i64 ac, .int .i64 bu]
  wrd : Src w a n f
  rts : Src w ra l.length (lf l)
  rb : Blk w P5 [.int .i64 co, .slice ua R.length uc]
  rl : Src w ua R.length (lf R)
  gb : Blk w P6 [.int .i64 co, .slice ga G.length gc]
  gl : Src w ga G.length (lf G)
  wb : Blk w P7 [.int .i64 co, .int .i64 wv]

section

variable {W w w' : World} {P P5 P6 P7 : Nat} {h ac bu : Int} {a : Option Addr} {n c : Nat} {f : Nat → Int} {ra : Option Addr} {l : List Int} {co : Int} {R : List Int} {ua : Option Addr} {uc : Nat} {G : List Int} {ga : Option Addr} {gc : Nat} {wv : Int}

theorem LR.below (d : LR W w P P5 P6 P7 h ac bu a n c f ra l co R ua uc G ga gc wv) (hb : Below w.heap.size w w') : LR W w' P P5 P6 P7 h ac bu a n c f ra l co R ua uc G ga gc wv :=
  ⟨d.bel.trans (hb.mono d.bel.size), d.arn.below hb, d.wrd.below hb, d.rts.below hb, d.rb.below hb, d.rl.below hb, d.gb.below hb, d.gl.below hb, d.wb.below hb⟩

theorem LR.drew (d : LR W w P P5 P6 P7 h ac bu a n c f ra l co R ua uc G ga gc wv) : LR W w.drew P P5 P6 P7 h ac bu a n c f ra l co R ua uc G ga gc wv := d.below (Below.refl _ _).drew

end
end Go.Proofs.Ytaenbjilcgpgcaa

namespace Go.Proofs.Ytaenbjilcgpgcaa
open Go.RowKit
set_option linter.unusedVariables false

/-- The word of number d of an object, behind a collection. -/
def colAt (f : Nat → Int) (R : List Int) (P : Nat) (X : List Ob) (x : Ob) (d : Nat) : Int := if d = 0 then packO x else if d = 1 then x.h else mapF f R (newPlaces P X) x (d - 2)

/-- The words of a set are so; beside the objects there is nothing. -/
structure ColOn (f : Nat → Int) (R : List Int) (P : Nat) (X : List Ob) (D : Nat → Nat → Prop) (g : Nat → Int) : Prop where
  on : ∀ j (hj : j < X.length) d, D j d → d < wordsO X[j] → g (placeAt P X j + d) = colAt f R P X X[j] d
  rest : ∀ i, ¬ (P ≤ i ∧ i < P + totO X) → g i = 0

theorem placeAt_mono (P : Nat) (X : List Ob) {i j : Nat} (h : i ≤ j) (hj : j ≤ X.length) : placeAt P X i ≤ placeAt P X j := by
  rcases Nat.lt_or_eq_of_le h with h1 | rfl
  · have := placeAt_lt P X i j h1 hj; omega
  · exact Nat.le_refl _

theorem placeAt_next (P : Nat) (X : List Ob) {i j : Nat} (h : i < j) (hj : j < X.length) : placeAt P X i + wordsO (X[i]'(by omega)) ≤ placeAt P X j := by
  rw [← placeAt_step P X (show i < X.length by omega)]
  exact placeAt_mono P X h (by omega)

theorem place_apart {P : Nat} {X : List Ob} {i j d e : Nat} (hi : i < X.length) (hj : j < X.length) (hd : d < wordsO X[i]) (he : e < wordsO X[j]) (h : placeAt P X i + d = placeAt P X j + e) : i = j ∧ d = e := by
  rcases Nat.lt_trichotomy i j with h1 | rfl | h1
  · have := placeAt_next P X h1 hj; omega
  · exact ⟨rfl, by omega⟩
  · have := placeAt_next P X h1 hi; omega

theorem placeAt_ge (P : Nat) (X : List Ob) (i : Nat) : P ≤ placeAt P X i := by unfold placeAt; omega

section

variable {f g : Nat → Int} {R : List Int} {P : Nat} {X : List Ob} {D E : Nat → Nat → Prop} {i d : Nat}

theorem ColOn.set (h : ColOn f R P X D g) (hi : i < X.length) (hd : d < wordsO X[i]) {v : Int} (hv : v = colAt f R P X X[i] d) : ColOn f R P X (fun j e => D j e ∨ (j = i ∧ e = d)) (upd g (placeAt P X i + d) v) := by
  refine ⟨fun j hj e h1 h2 => ?_, fun k hk => ?_⟩
  · unfold upd
    by_cases he : placeAt P X j + e = placeAt P X i + d
    · obtain ⟨rfl, rfl⟩ := place_apart hj hi h2 hd he
      rw [if_pos rfl, hv]
    · rw [if_neg he]
      rcases h1 with h1 | ⟨rfl, rfl⟩
      · exact h.on j hj e h1 h2
      · exact absurd rfl he
  · unfold upd
    have := placeAt_end P X hi
    have := placeAt_ge P X i
    rw [if_neg (by omega)]
    exact h.rest k hk

theorem ColOn.put (h : ColOn f R P X D g) (hi : i < X.length) (hd : d < wordsO X[i]) {K : Nat} (hK : K = placeAt P X i + d) {v : Int} (hv : v = colAt f R P X X[i] d) : ColOn f R P X (fun j e => D j e ∨ (j = i ∧ e = d)) (upd g K v) := by rw [hK]; exact h.set hi hd hv

theorem ColOn.congr {g' : Nat → Int} (h : ColOn f R P X D g) (e : ∀ k, g' k = g k) : ColOn f R P X D g' := ⟨fun j hj d h1 h2 => (e _).trans (h.on j hj d h1 h2), fun i hi => (e i).trans (h.rest i hi)⟩

end
end Go.Proofs.Ytaenbjilcgpgcaa

namespace Go.Proofs.Ytaenbjilcgpgcaa
open Go.RowKit
set_option linter.unusedVariables false

/-- A head lies amid a block. -/
structure HdAt (w : World) (d q : Nat) (s m o h : Int) : Prop where
  lt : d < w.heap.size
  c0 : w.cell? ⟨d, q, none⟩ = some (.int .i64 s)
  c1 : w.cell? ⟨d, q + 1, none⟩ = some (.int .i64 m)
  c2 : w.cell? ⟨d, q + 2, none⟩ = some (.int .i64 o)
  c3 : w.cell? ⟨d, q + 3, none⟩ = some (.int .i64 h)

theorem HdAt.block {w w' : World} {d q : Nat} {s m o h : Int} (x : HdAt w d q s m o h) (e : w'.heap[d]? = w.heap[d]?) (z : w.heap.size ≤ w'.heap.size) : HdAt w' d q s m o h :=
  ⟨Nat.lt_of_lt_of_le x.lt z, (World.cell?_of_block (a := ⟨d, q, none⟩) e).trans x.c0, (World.cell?_of_block (a := ⟨d, q + 1, none⟩) e).trans x.c1, (World.cell?_of_block (a := ⟨d, q + 2, none⟩) e).trans x.c2, (World.cell?_of_block (a := ⟨d, q + 3, none⟩) e).trans x.c3⟩

theorem HdAt.below {w w' : World} {d q : Nat} {s m o h : Int} (x : HdAt w d q s m o h) (hb : Below w.heap.size w w') : HdAt w' d q s m o h := x.block (hb.block d x.lt) hb.size

theorem HdAt.drew {w : World} {d q : Nat} {s m o h : Int} (x : HdAt w d q s m o h) : HdAt w.drew d q s m o h := x.below (Below.refl _ _).drew

theorem HdAt.alloc {w : World} {d q : Nat} {s m o h : Int} (x : HdAt w d q s m o h) (ob : Obj) : HdAt (w.alloc ob) d q s m o h := x.below ((Below.refl _ _).alloc (Nat.le_refl _) ob)

theorem HdAt.other {w : World} {d q : Nat} {s m o h : Int} (x : HdAt w d q s m o h) {p : Addr} (hp : p.block ≠ d) (u : Value) : HdAt (w.setCell p u) d q s m o h := x.block (Below.heap_setCell w p u d (fun e => hp e.symm)) (by simp)
end Go.Proofs.Ytaenbjilcgpgcaa

namespace Go.Proofs.Ytaenbjilcgpgcaa
open Go.RowKit Go.Maps
set_option linter.unusedVariables false

set_option maxRecDepth 100000 in
set_option maxHeartbeats 400000 in
theorem clone_opt (a : Option Addr) (n cap : Nat) (f : Nat → Int) (w : World) (hs : Src w a n f) (hn : n ≤ 1048576) :
    Calls Try.prog 154 #[.slice a n cap] w (RetInts w n f) := by
  cases a with
  | some ad => exact clone_all ad n cap f w hs hn
  | none =>
    have h0 : n = 0 := by
      rcases hs with h | ⟨b, off, h, _⟩
      · exact h
      · cases h
    subst h0
    have hnil := fun (w : World) (a : Option Addr) (n c : Nat) => Lib.run_eql_slice_nil (P := Try.prog) w 24 2 a n c 0 0 Try.underlying24
    clear hs
    go_enter Try.func154, Try.ntmps154
    go_wp2
    go_ret
    exact ⟨none, 0, rfl, .inl rfl, Below.refl _ _, Nat.le_refl _, by simp [maxLen], fun _ => ⟨rfl, rfl⟩⟩

/-- Where a field leads, once all stands where a table says. -/
def mvF (R : List Int) (v : Nat → Int) (t : GM) (k : Nat) : Int := if t.m / P2 (k : Int) % 2 = 1 ∧ ¬ t.f k = 0 then (tab R v (t.f k - 1)).getD 0 + 1 else t.f k

def mvT (R : List Int) (v : Nat → Int) (t : GM) : GM := ⟨(tab R v t.at_).getD 0, t.s, t.m, t.o, t.h, none, t.n, 0, mvF R v t⟩
end Go.Proofs.Ytaenbjilcgpgcaa

namespace Go.Proofs.Ytaenbjilcgpgcaa
open Go.RowKit Go.Maps
set_option linter.unusedVariables false

/-- A list of objects that stand where a table says, while it is made. -/
structure ML (w : World) (base : Nat) (u : Value) (M : List GM) (R : List Int) (v : Nat → Int) (T : Nat → GM) : Prop where
  row : w.ownsRow base 95 6 u M.length (rowG M)
  src : ∀ t ∈ M, Src w t.a t.n t.f ∧ (t.n = 0 ∨ u.ownBlock ≠ some t.g)
  far : ∀ t ∈ M, t.n = 0 ∨ base ≤ t.g
  same : ∀ i t, M[i]? = some t → GSame t (mvT R v (T i))

theorem ML.below {w w' : World} {base : Nat} {u : Value} {M : List GM} {R : List Int} {v : Nat → Int} {T : Nat → GM} (h : ML w base u M R v T) (hb : Below w.heap.size w w') : ML w' base u M R v T := ⟨ownsRow_below h.row hb, fun t ht => ⟨(h.src t ht).1.below hb, (h.src t ht).2⟩, h.far, h.same⟩

/-- A row of objects in blocks from a place on. -/
def GVB (w : World) (base : Nat) (a : Option Addr) (N : Nat) (T : Nat → GM) : Prop := N = 0 ∨ ∃ b q, a = some ⟨b, q, none⟩ ∧ base ≤ b ∧ GSrc w b q N T ∧ ∀ i, i < N → (T i).n = 0 ∨ base ≤ (T i).g

theorem GVB.keeps {w w' : World} {base lo hi : Nat} {a : Option Addr} {N : Nat} {T : Nat → GM} (h : GVB w base a N T) (hk : Keeps w w' lo hi) (hb : hi ≤ base) : GVB w' base a N T := by
  rcases h with h | ⟨b, q, h1, h2, h3, h4⟩
  · exact .inl h
  · exact .inr ⟨b, q, h1, h2, h3.keeps hk (.inr (by omega)) (fun i hi => by rcases h4 i hi with h5 | h5; exact .inl h5; exact .inr (.inr (by omega))), h4⟩

theorem GVB.below {w w' : World} {base : Nat} {a : Option Addr} {N : Nat} {T : Nat → GM} (h : GVB w base a N T) (hb : Below w.heap.size w w') : GVB w' base a N T := by
  rcases h with h | ⟨b, q, h1, h2, h3, h4⟩
  · exact .inl h
  · exact .inr ⟨b, q, h1, h2, h3.below hb, h4⟩
end Go.Proofs.Ytaenbjilcgpgcaa

namespace Go.Proofs.Ytaenbjilcgpgcaa
open Go.RowKit
set_option linter.unusedVariables false

theorem row_keeps {w w' : World} {base e size n lo hi : Nat} {v : Value} {xs : List Value} (h : w.ownsRow base e size v n xs) (hk : Keeps w w' lo hi) (hb : hi ≤ base) : w'.ownsRow base e size v n xs := by
  refine ⟨h.1, ?_⟩
  rcases h.2 with h0 | ⟨g, cap, cur, e1, e2, e3, e4⟩
  · exact .inl h0
  · exact .inr ⟨g, cap, cur, e1, e2, (hk.block g (Array.getElem?_eq_some_iff.mp e3).1 (.inr (by omega))).trans e3, e4⟩

/-- What lies in memory while the model collects. -/
structure CS (W w : World) (b : Nat) (g q : Nat) (h ac U : Int) (n c : Nat) (u : Value) (l : List Int) (G : Nat → Int) : Prop where
  bel : Below W.heap.size W w
  arn : Blk w b [.int .i64 h, .slice (some ⟨g, q, none⟩) n c, .int .i64 ac, .int .i64 U]
  wrd : OwnIn w W.heap.size (b + 1) (some ⟨g, q, none⟩) n G
  row : w.ownsRow (b + 1) 2 1 u l.length (nums l.length (lf l))

section

variable {W w w' : World} {b g q : Nat} {h ac U : Int} {n c : Nat} {u : Value} {l : List Int} {G : Nat → Int}

theorem CS.below (d : CS W w b g q h ac U n c u l G) (hb : Below w.heap.size w w') : CS W w' b g q h ac U n c u l G := ⟨d.bel.trans (hb.mono d.bel.size), d.arn.below hb, d.wrd.below hb, ownsRow_below d.row hb⟩

theorem CS.put (d : CS W w b g q h ac U n c u l G) {U' : Int} {G' : Nat → Int} (hW : W.heap.size ≤ b) (hk : Keeps w w' W.heap.size (b + 1)) (hA : Blk w' b [.int .i64 h, .slice (some ⟨g, q, none⟩) n c, .int .i64 ac, .int .i64 U']) (ho : OwnIn w' W.heap.size (b + 1) (some ⟨g, q, none⟩) n G') : CS W w' b g q h ac U' n c u l G' :=
  ⟨d.bel.trans (hk.below (Nat.le_refl _) d.bel.size), hA, ho, row_keeps d.row hk (Nat.le_refl _)⟩

end
end Go.Proofs.Ytaenbjilcgpgcaa

namespace Go.Proofs.Ytaenbjilcgpgcaa
open Go.RowKit Go.Maps
set_option linter.unusedVariables false

/-- The words while the program collects. -/
structure PW (W w : World) (g q n : Nat) (G : Nat → Int) : Prop where
  kp : Keeps W w g (g + 1)
  wrd : OwnIn w g (g + 1) (some ⟨g, q, none⟩) n G

theorem PW.below {W w w' : World} {g q n : Nat} {G : Nat → Int} (d : PW W w g q n G) (hb : Below w.heap.size w w') : PW W w' g q n G := ⟨d.kp.trans (keeps_of_below hb g (g + 1)), d.wrd.below hb⟩

theorem MapT.keeps {w w' : World} {b n lo hi : Nat} {R : List Int} {v : Nat → Int} (h : MapT w b n R v) (hk : Keeps w w' lo hi) (hd : b < lo ∨ hi ≤ b) : MapT w' b n R v := h.block (hk.block b h.lt hd)
end Go.Proofs.Ytaenbjilcgpgcaa

namespace Go.Proofs.Ytaenbjilcgpgcaa
open Go.RowKit Go.Maps
set_option linter.unusedVariables false

def idV : Nat → Int := fun i => (i : Int)

/-- What lies of an object amid a list, for the comparison. -/
structure ObM (w : World) (g1 o g : Nat) (c : Nat) (f : Nat → Int) (x : Ob) : Prop where
  lt : g1 < w.heap.size
  c1 : w.cell? ⟨g1, o + 1, none⟩ = some (.int .i64 x.s)
  c2 : w.cell? ⟨g1, o + 2, none⟩ = some (.int .i64 x.m)
  c3 : w.cell? ⟨g1, o + 3, none⟩ = some (.int .i64 x.o)
  c4 : w.cell? ⟨g1, o + 4, none⟩ = some (.int .i64 x.h)
  c5 : w.cell? ⟨g1, o + 5, none⟩ = some (.slice (some ⟨g, 0, none⟩) x.s.toNat c)
  lg : g < w.heap.size
  fl : ∀ k, k < x.s.toNat → w.cell? ⟨g, k, none⟩ = some (.int .i64 (f (x.at_.toNat + 2 + k)))

theorem ObM.below {w w' : World} {g1 o g c : Nat} {f : Nat → Int} {x : Ob} (h : ObM w g1 o g c f x) (hb : Below w.heap.size w w') : ObM w' g1 o g c f x := by
  have hz := hb.size
  exact ⟨Nat.lt_of_lt_of_le h.lt hz, (hb.cell (p := ⟨g1, o + 1, none⟩) h.lt).trans h.c1, (hb.cell (p := ⟨g1, o + 2, none⟩) h.lt).trans h.c2, (hb.cell (p := ⟨g1, o + 3, none⟩) h.lt).trans h.c3, (hb.cell (p := ⟨g1, o + 4, none⟩) h.lt).trans h.c4, (hb.cell (p := ⟨g1, o + 5, none⟩) h.lt).trans h.c5, Nat.lt_of_lt_of_le h.lg hz, fun k hk => (hb.cell (p := ⟨g, k, none⟩) h.lg).trans (h.fl k hk)⟩
end Go.Proofs.Ytaenbjilcgpgcaa

namespace Go.Proofs.Ytaenbjilcgpgcaa
open Go.RowKit Go.Maps
set_option linter.unusedVariables false

/-- What is known of what was reached, where both codes are 0. -/
def InU2 (w : World) (z : Prop) (f : Nat → Int) (L : List Ob) (roots : List Int) (a : Option Addr) (N : Nat) (mv : Option Nat) : Prop :=
  z → N = (reachO f L roots).length ∧ ∃ mb T, mv = some mb ∧ GV w a (reachO f L roots).length T ∧ MapT w mb (reachO f L roots).length (reachO f L roots) idV ∧ ∀ i, i < (reachO f L roots).length → ∃ x, findO L (lf (reachO f L roots) i) = some x ∧ GSame (T i) (obG f x)

theorem InU2.below {w w' : World} {z : Prop} {f : Nat → Int} {L : List Ob} {roots : List Int} {a : Option Addr} {N : Nat} {mv : Option Nat} (h : InU2 w z f L roots a N mv) (hb : Below w.heap.size w w') : InU2 w' z f L roots a N mv := fun hz => by
  obtain ⟨h1, mb, T, h2, h3, h4, h5⟩ := h hz
  exact ⟨h1, mb, T, h2, h3.below hb, h4.below hb, h5⟩
end Go.Proofs.Ytaenbjilcgpgcaa

namespace Go.Proofs.Ytaenbjilcgpgcaa
open Go.RowKit Go.Maps
set_option linter.unusedVariables false

structure LA (W w : World) (P : Nat) (h ac bu : Int) (a : Option Addr) (n c : Nat) (f : Nat → Int) (ra : Option Addr) (l : List Int) (h' ac' bu' : Int) (a' : Option Addr) (n' c' : Nat) (f' : Nat → Int) (rb : Option Addr) (l' : List Int) : Prop where
  bel : Below W.heap.size W w
  ab : Blk w P [.int .i64 h, .slice a n c, .int .i64 ac, .int .i64 bu]
  bb : Blk w (P + 1) [.int .i64 h', .slice a' n' c', .int .i64 ac', .int .i64 bu']
  wa : Src w a n f
  ra : Src w ra l.length (lf l)
  wb : Src w a' n' f'
  rb : Src w rb l'.length (lf l')

section

variable {W w w' : World} {P : Nat} {h ac bu : Int} {a : Option Addr} {n c : Nat} {f : Nat → Int} {ra : Option Addr} {l : List Int} {h' ac' bu' : Int} {a' : Option Addr} {n' c' : Nat} {f' : Nat → Int} {rb : Option Addr} {l' : List Int}

theorem LA.below (d : LA W w P h ac bu a n c f ra l h' ac' bu' a' n' c' f' rb l') (hb : Below w.heap.size w w') : LA W w' P h ac bu a n c f ra l h' ac' bu' a' n' c' f' rb l' :=
  ⟨d.bel.trans (hb.mono d.bel.size), d.ab.below hb, d.bb.below hb, d.wa.below hb, d.ra.below hb, d.wb.below hb, d.rb.below hb⟩

theorem LA.drew (d : LA W w P h ac bu a n c f ra l h' ac' bu' a' n' c' f' rb l') : LA W w.drew P h ac bu a n c f ra l h' ac' bu' a' n' c' f' rb l' := d.below (Below.refl _ _).drew

end
end Go.Proofs.Ytaenbjilcgpgcaa

namespace Go.Proofs.Ytaenbjilcgpgcaa
open Go.RowKit
set_option linter.unusedVariables false

/-- A node in memory: as an object, with no owner. -/
def FivG (w : World) (b o : Nat) (t : GM) : Prop := w.cell? ⟨b, o, none⟩ = some (.int .i64 t.at_) ∧ w.cell? ⟨b, o + 1, none⟩ = some (.int .i64 t.s) ∧ w.cell? ⟨b, o + 2, none⟩ = some (.int .i64 t.m) ∧ w.cell? ⟨b, o + 3, none⟩ = some (.int .i64 t.h) ∧ w.cell? ⟨b, o + 4, none⟩ = some (.slice t.a t.n t.c)

def FivF (w : World) (b o : Nat) : Prop := w.frozen? ⟨b, o, none⟩ = false ∧ w.frozen? ⟨b, o + 1, none⟩ = false ∧ w.frozen? ⟨b, o + 2, none⟩ = false ∧ w.frozen? ⟨b, o + 3, none⟩ = false ∧ w.frozen? ⟨b, o + 4, none⟩ = false

theorem FivG.block {w w' : World} {b o : Nat} {t : GM} (h : FivG w b o t) (e : w'.heap[b]? = w.heap[b]?) : FivG w' b o t :=
  ⟨(World.cell?_of_block (w := w) (a := ⟨b, o, none⟩) e).trans h.1, (World.cell?_of_block (w := w) (a := ⟨b, o + 1, none⟩) e).trans h.2.1, (World.cell?_of_block (w := w) (a := ⟨b, o + 2, none⟩) e).trans h.2.2.1, (World.cell?_of_block (w := w) (a := ⟨b, o + 3, none⟩) e).trans h.2.2.2.1, (World.cell?_of_block (w := w) (a := ⟨b, o + 4, none⟩) e).trans h.2.2.2.2⟩

theorem FivF.block {w w' : World} {b o : Nat} (h : FivF w b o) (e : w'.heap[b]? = w.heap[b]?) : FivF w' b o :=
  ⟨(World.frozen?_of_block (w := w) (a := ⟨b, o, none⟩) e).trans h.1, (World.frozen?_of_block (w := w) (a := ⟨b, o + 1, none⟩) e).trans h.2.1, (World.frozen?_of_block (w := w) (a := ⟨b, o + 2, none⟩) e).trans h.2.2.1, (World.frozen?_of_block (w := w) (a := ⟨b, o + 3, none⟩) e).trans h.2.2.2.1, (World.frozen?_of_block (w := w) (a := ⟨b, o + 4, none⟩) e).trans h.2.2.2.2⟩

theorem FivG.below {w w' : World} {b o : Nat} {t : GM} (h : FivG w b o t) (hb : Below w.heap.size w w') (hl : b < w.heap.size) : FivG w' b o t := h.block (hb.block b hl)

theorem FivF.below {w w' : World} {b o : Nat} (h : FivF w b o) (hb : Below w.heap.size w w') (hl : b < w.heap.size) : FivF w' b o := h.block (hb.block b hl)

theorem FivG.keeps {w w' : World} {b o lo hi : Nat} {t : GM} (h : FivG w b o t) (hk : Keeps w w' lo hi) (hl : b < w.heap.size) (hd : b < lo ∨ hi ≤ b) : FivG w' b o t := h.block (hk.block b hl hd)

theorem FivF.keeps {w w' : World} {b o lo hi : Nat} (h : FivF w b o) (hk : Keeps w w' lo hi) (hl : b < w.heap.size) (hd : b < lo ∨ hi ≤ b) : FivF w' b o := h.block (hk.block b hl hd)

/-- A row of objects is read. -/
structure NSrc (w : World) (b q N : Nat) (T : Nat → GM) : Prop where
  lt : b < w.heap.size
  six : ∀ i, i < N → FivG w b (q + i * 5) (T i)
  flds : ∀ i, i < N → Src w (T i).a (T i).n (T i).f

/-- A row of objects of the call's own, in blocks from lo to hi. -/
structure NOwn (w : World) (lo hi b q N : Nat) (T : Nat → GM) : Prop where
  glo : lo ≤ b
  ghi : b < hi
  lt : b < w.heap.size
  six : ∀ i, i < N → FivG w b (q + i * 5) (T i)
  free : ∀ i, i < N → FivF w b (q + i * 5)
  flds : ∀ i, i < N → OwnIn w lo hi (T i).a (T i).n (T i).f
  off : ∀ i, i < N → (T i).n = 0 ∨ (T i).g ≠ b
  apart : ∀ i j, i < N → j < N → i ≠ j → (T i).n = 0 ∨ (T j).n = 0 ∨ (T i).g ≠ (T j).g

theorem NOwn.src {w : World} {lo hi b q N : Nat} {T : Nat → GM} (h : NOwn w lo hi b q N T) : NSrc w b q N T := ⟨h.lt, h.six, fun i hi => (h.flds i hi).src⟩

theorem NSrc.below {w w' : World} {b q N : Nat} {T : Nat → GM} (h : NSrc w b q N T) (hb : Below w.heap.size w w') : NSrc w' b q N T :=
  ⟨Nat.lt_of_lt_of_le h.lt hb.size, fun i hi => (h.six i hi).below hb h.lt, fun i hi => (h.flds i hi).below hb⟩

theorem NOwn.below {w w' : World} {lo hi b q N : Nat} {T : Nat → GM} (h : NOwn w lo hi b q N T) (hb : Below w.heap.size w w') : NOwn w' lo hi b q N T :=
  ⟨h.glo, h.ghi, Nat.lt_of_lt_of_le h.lt hb.size, fun i hi => (h.six i hi).below hb h.lt, fun i hi => (h.free i hi).below hb h.lt, fun i hi => (h.flds i hi).below hb, h.off, h.apart⟩

theorem NOwn.keeps {w w' : World} {lo hi lo' hi' b q N : Nat} {T : Nat → GM} (h : NOwn w lo hi b q N T) (hk : Keeps w w' lo' hi') (hd : hi ≤ lo' ∨ hi' ≤ lo) : NOwn w' lo hi b q N T := by
  have h1 := h.glo; have h2 := h.ghi
  exact ⟨h.glo, h.ghi, Nat.lt_of_lt_of_le h.lt hk.size, fun i hi => (h.six i hi).keeps hk h.lt (by omega), fun i hi => (h.free i hi).keeps hk h.lt (by omega), fun i hi => (h.flds i hi).keeps hk hd, h.off, h.apart⟩

theorem NSrc.keeps {w w' : World} {lo hi b q N : Nat} {T : Nat → GM} (h : NSrc w b q N T) (hk : Keeps w w' lo hi) (hd : b < lo ∨ hi ≤ b) (hf : ∀ i, i < N → (T i).n = 0 ∨ (T i).g < lo ∨ hi ≤ (T i).g) : NSrc w' b q N T := by
  refine ⟨Nat.lt_of_lt_of_le h.lt hk.size, fun i hi => (h.six i hi).keeps hk h.lt hd, fun i hi => ?_⟩
  rcases h.flds i hi with h0 | ⟨b', o', he, hl, hc⟩
  · exact .inl h0
  · rcases hf i hi with h0 | hf
    · exact .inl h0
    · have hg : (T i).g = b' := by simp [GM.g, he]
      have e := hk.block b' hl (by omega)
      exact .inr ⟨b', o', he, Nat.lt_of_lt_of_le hl hk.size, fun k hk' => (World.cell?_of_block (w := w) (a := ⟨b', o' + k, none⟩) e).trans (hc k hk')⟩

/-- How many marks are given ahead of an object. -/
def noff (T : Nat → GM) : Nat → Nat
  | 0 => 0
  | j + 1 => noff T j + 4 + (T j).n

def nmk1 (t : GM) (k : Int) : GM := { t with at_ := k, s := k + 1, m := k + 2, h := k + 3, f := fun i => k + 4 + (i : Int) }

def nmkd (T : Nat → GM) (k : Int) (j : Nat) : GM := nmk1 (T j) (k + (noff T j : Int))

theorem noff_mono (T : Nat → GM) {i j : Nat} (h : i ≤ j) : noff T i ≤ noff T j := by
  induction j with
  | zero => obtain rfl : i = 0 := by omega
            exact Nat.le_refl _
  | succ j ih =>
    by_cases e : i = j + 1
    · subst e; exact Nat.le_refl _
    · have := ih (by omega)
      simp only [noff]; omega

theorem noff_len (T : Nat → GM) : ∀ N, 4 * N ≤ noff T N
  | 0 => Nat.le_refl _
  | N + 1 => by have := noff_len T N; simp only [noff]; omega

theorem NSrc.drew {w : World} {b q N : Nat} {T : Nat → GM} (h : NSrc w b q N T) : NSrc w.drew b q N T := h.below (Below.refl _ _).drew

theorem NSrc.alloc {w : World} {b q N : Nat} {T : Nat → GM} (h : NSrc w b q N T) (o : Obj) : NSrc (w.alloc o) b q N T := h.below ((Below.refl _ _).alloc (Nat.le_refl _) o)

theorem NOwn.drew {w : World} {lo hi b q N : Nat} {T : Nat → GM} (h : NOwn w lo hi b q N T) : NOwn w.drew lo hi b q N T := h.below (Below.refl _ _).drew

theorem NOwn.alloc {w : World} {lo hi b q N : Nat} {T : Nat → GM} (h : NOwn w lo hi b q N T) (o : Obj) : NOwn (w.alloc o) lo hi b q N T := h.below ((Below.refl _ _).alloc (Nat.le_refl _) o)

theorem NSrc.congr {w : World} {b q N : Nat} {T U : Nat → GM} (h : NSrc w b q N T) (e : ∀ i, i < N → T i = U i) : NSrc w b q N U :=
  ⟨h.lt, fun i hi => by rw [← e i hi]; exact h.six i hi, fun i hi => by rw [← e i hi]; exact h.flds i hi⟩

theorem NOwn.congr {w : World} {lo hi b q N : Nat} {T U : Nat → GM} (h : NOwn w lo hi b q N T) (e : ∀ i, i < N → T i = U i) : NOwn w lo hi b q N U :=
  ⟨h.glo, h.ghi, h.lt, fun i hi => by rw [← e i hi]; exact h.six i hi, h.free, fun i hi => by rw [← e i hi]; exact h.flds i hi, fun i hi => by rw [← e i hi]; exact h.off i hi, fun i j hi hj hij => by rw [← e i hi, ← e j hj]; exact h.apart i j hi hj hij⟩

set_option maxRecDepth 100000 in
set_option maxHeartbeats 1600000 in
theorem heldNodeS_any (b q N c : Nat) (T : Nat → GM) (k : Int) (w : World) (hs : NSrc w b q N (nmkd T k)) (hk0 : 0 ≤ k) (hk1 : k + (noff T N : Int) ≤ 1048576) :
    Calls Try.prog 170 #[.slice (some ⟨b, q, none⟩) N c, .int .i64 k] w fun e w' => e = .returned (.int .i64 (k + (noff T N : Int))) ∧ w = w' := by
  have H := Lib.hid hs
  have hN5 : N ≤ 1048576 := by have := noff_len T N; omega
  clear hs
  go_enter Try.func170, Try.ntmps170
  go_wp2
  go_loop [1, 5] (fun u p => ∃ i : Nat, i ≤ N ∧ p = .int .i64 i ∧ u = .int .i64 (k + (noff T i : Int))) (fun _ p => N - (intOf p).toNat)
  case atStart => exact ⟨0, Nat.zero_le _, rfl, by simp [noff]⟩
  case round =>
    obtain ⟨i, hi, rfl, rfl⟩ := hrel
    by_cases hlt : i < N
    · have hlt' : (i : Int) < (N : Int) := by omega
      have hi0 : (0 : Int) ≤ (i : Int) := by omega
      have hle : noff T (i + 1) ≤ noff T N := noff_mono T hlt
      have hso : (noff T (i + 1) : Int) = (noff T i : Int) + 4 + ((T i).n : Int) := by simp only [noff]; omega
      obtain ⟨x0, x1, x2, x3, x4⟩ := H.out.six i hlt
      have hsrc := H.out.flds i hlt
      have hlt0 := H.out.lt
      simp only [nmkd, nmk1] at x0 x1 x2 x3 x4 hsrc
      generalize hK : k + (noff T i : Int) = K at *
      have hK0 : 0 ≤ K := by omega
      have hK1 : K + 4 + ((T i).n : Int) ≤ 1048576 := by omega
      have hn : (T i).n ≤ 1048576 := by omega
      have HSO := Lib.hid hso; have HKK := Lib.hid hK; have HSRC := Lib.hid hsrc
      clear hso hK hle hsrc
      generalize T i = t at *
      go_wp2_with fail
      rw [show K + 1 + 1 + 1 + 1 = K + 4 from by omega]
      refine (heldInts_any _ _ _ (K + 4) _ HSRC.out hn (by omega) (by omega)).mono ?_
      rintro e w' ⟨rfl, rfl⟩
      go_wp2
      go_round
      case rel => exact ⟨i + 1, by omega, by go_num, by have := HSO.out; have := HKK.out; go_num⟩
      case measure => simp [intOf]; omega
    · go_wp2
      go_ret
      obtain rfl : i = N := by omega
      exact ⟨rfl, rfl⟩

/-- The fourN numbers of an object are nmkd. -/
def fourN (w : World) (b o : Nat) (K : Int) : World := ((((w.setCell ⟨b, o, none⟩ (.int .i64 K)).setCell ⟨b, o + 1, none⟩ (.int .i64 (K + 1))).setCell ⟨b, o + 2, none⟩ (.int .i64 (K + 2))).setCell ⟨b, o + 3, none⟩ (.int .i64 (K + 3)))

theorem fiv_store {w : World} {b o : Nat} {t : GM} (h : FivG w b o t) (K : Int) : FivG (fourN w b o K) b o (nmk1 t K) := by
  obtain ⟨x0, x1, x2, x3, x4⟩ := h
  simp [fourN, FivG, nmk1, x0, x1, x2, x3, x4, World.cell?_setCell_other, World.cell?_setCell_same']

theorem fiv_other {w : World} {b o o' : Nat} {t : GM} (h : FivG w b o t) (hd : o + 5 ≤ o' ∨ o' + 5 ≤ o) (K : Int) : FivG (fourN w b o' K) b o t := by
  have g : ∀ x, x < 5 → ∀ y, y < 5 → (⟨b, o' + y, none⟩ : Addr) ≠ ⟨b, o + x, none⟩ := fun x hx y hy e => by simp at e; try omega
  have k : ∀ x, x < 5 → (fourN w b o' K).cell? ⟨b, o + x, none⟩ = w.cell? ⟨b, o + x, none⟩ := fun x hx => by
    unfold fourN
    rw [World.cell?_setCell_other _ _ _ _ (g x hx 3 (by omega)), World.cell?_setCell_other _ _ _ _ (g x hx 2 (by omega)), World.cell?_setCell_other _ _ _ _ (g x hx 1 (by omega)), World.cell?_setCell_other _ _ _ _ (show (⟨b, o', none⟩ : Addr) ≠ ⟨b, o + x, none⟩ from g x hx 0 (by omega))]
  exact ⟨(k 0 (by omega)).trans h.1, (k 1 (by omega)).trans h.2.1, (k 2 (by omega)).trans h.2.2.1, (k 3 (by omega)).trans h.2.2.2.1, (k 4 (by omega)).trans h.2.2.2.2⟩

theorem fourN_frozen (w : World) (b o : Nat) (K : Int) (p : Addr) : (fourN w b o K).frozen? p = w.frozen? p := by simp [fourN, World.frozen?_setCell]

theorem fourN_keeps (w : World) (b o : Nat) (K : Int) : Keeps w (fourN w b o K) b (b + 1) := by
  unfold fourN
  refine Keeps.trans ?_ (keeps_setCell (p := ⟨b, o + 3, none⟩) (Nat.le_refl b) (Nat.lt_succ_self b) _)
  refine Keeps.trans ?_ (keeps_setCell (p := ⟨b, o + 2, none⟩) (Nat.le_refl b) (Nat.lt_succ_self b) _)
  refine Keeps.trans ?_ (keeps_setCell (p := ⟨b, o + 1, none⟩) (Nat.le_refl b) (Nat.lt_succ_self b) _)
  refine Keeps.trans ?_ (keeps_setCell (p := ⟨b, o, none⟩) (Nat.le_refl b) (Nat.lt_succ_self b) _)
  exact Keeps.refl _ _ _

/-- One object has been nmkd. -/
theorem nown_round {wr w2 : World} {lo hi b q N i l r : Nat} {U : Nat → GM} {K : Int} (h : NOwn wr lo hi b q N U) (hi' : i < N) (hl : lo ≤ l) (hr : r ≤ hi) (hlr : ((U i).n = 0 ∧ l = r) ∨ (0 < (U i).n ∧ l = (U i).g ∧ r = (U i).g + 1 ∧ (U i).g < wr.heap.size))
    (hk : Keeps (fourN wr b (q + i * 5) K) w2 l r) (ho : OwnIn w2 l r (U i).a (U i).n (fun j => K + 4 + (j : Int))) :
    NOwn w2 lo hi b q N (fun j => if j = i then nmk1 (U i) K else U j) ∧ Keeps wr w2 lo hi := by
  have h1 := h.glo; have h2 := h.ghi; have h3 := h.lt
  have k5 := fourN_keeps wr b (q + i * 5) K
  have kk : Keeps wr w2 lo hi := (k5.widen h1 (by omega)).trans (hk.widen hl hr)
  have hbl : b < l ∨ r ≤ b := by
    rcases hlr with ⟨_, e⟩ | ⟨e0, e1, e2, _⟩
    · omega
    · have := (h.off i hi').resolve_left (by omega)
      omega
  refine ⟨⟨h1, h2, Nat.lt_of_lt_of_le h3 kk.size, fun j hj => ?_, fun j hj => ?_, fun j hj => ?_, fun j hj => ?_, fun a c ha hc hac => ?_⟩, kk⟩
  · by_cases e : j = i
    · subst e
      rw [if_pos rfl]
      exact (fiv_store (h.six j hj) K).keeps hk (Nat.lt_of_lt_of_le h3 k5.size) hbl
    · rw [if_neg e]
      exact (fiv_other (h.six j hj) (by omega) K).keeps hk (Nat.lt_of_lt_of_le h3 k5.size) hbl
  · have hf := h.free j hj
    have hf5 : FivF (fourN wr b (q + i * 5) K) b (q + j * 5) := ⟨(fourN_frozen _ _ _ _ _).trans hf.1, (fourN_frozen _ _ _ _ _).trans hf.2.1, (fourN_frozen _ _ _ _ _).trans hf.2.2.1, (fourN_frozen _ _ _ _ _).trans hf.2.2.2.1, (fourN_frozen _ _ _ _ _).trans hf.2.2.2.2⟩
    exact hf5.keeps hk (Nat.lt_of_lt_of_le h3 k5.size) hbl
  · by_cases e : j = i
    · subst e
      rw [if_pos rfl]
      rcases ho with h0 | ⟨b', o', ha, hb', hx, hc⟩
      · exact .inl h0
      · exact .inr ⟨b', o', ha, by omega, hx, hc⟩
    · rw [if_neg e]
      refine ownIn_at (h.flds j hj) ?_ kk.size
      by_cases h0 : (U j).n = 0
      · exact .inl h0
      · have hjb := (h.off j hj).resolve_left h0
        have hlt : (U j).g < wr.heap.size := by
          rcases h.flds j hj with h0' | ⟨b', o', ha, _, hx, _⟩
          · exact absurd h0' h0
          · simpa [GM.g, ha] using hx
        right
        have e1 := k5.block (U j).g hlt (by omega)
        refine (hk.block (U j).g (Nat.lt_of_lt_of_le hlt k5.size) ?_).trans e1
        rcases hlr with ⟨_, e⟩ | ⟨e0, e1, e2, _⟩
        · omega
        · have := ((h.apart i j hi' hj (fun x => e x.symm)).resolve_left (by omega)).resolve_left h0
          omega
  · by_cases e : j = i
    · subst e
      rw [if_pos rfl]
      exact h.off j hj
    · rw [if_neg e]; exact h.off j hj
  · have ga : ∀ x, (if x = i then nmk1 (U i) K else U x).n = (U x).n ∧ (if x = i then nmk1 (U i) K else U x).g = (U x).g := fun x => by
      by_cases e : x = i
      · subst e; rw [if_pos rfl]; exact ⟨rfl, rfl⟩
      · rw [if_neg e]; exact ⟨rfl, rfl⟩
    rw [(ga a).1, (ga a).2, (ga c).1, (ga c).2]
    exact h.apart a c ha hc hac

theorem nown_four {wr : World} {lo hi b q N i l r : Nat} {U : Nat → GM} (K : Int) (h : NOwn wr lo hi b q N U) (hi' : i < N) (ho : OwnIn wr l r (U i).a (U i).n (U i).f) : OwnIn (fourN wr b (q + i * 5) K) l r (U i).a (U i).n (U i).f := by
  have k5 := fourN_keeps wr b (q + i * 5) K
  refine ownIn_at ho ?_ k5.size
  rcases h.off i hi' with h0 | hne
  · exact .inl h0
  · rcases h.flds i hi' with h0 | ⟨b', o', ha, _, hx, _⟩
    · exact .inl h0
    · have e : (U i).g = b' := by simp [GM.g, ha]
      exact .inr (k5.block _ (by omega) (by omega))

def NRetMarkS (W : World) (lo hi b q N : Nat) (T : Nat → GM) (k : Int) (e : Ending) (w' : World) : Prop :=
  e = .returned (.int .i64 (k + (noff T N : Int))) ∧ NOwn w' lo hi b q N (nmkd T k) ∧ Keeps W w' lo hi

set_option maxRecDepth 100000 in
set_option maxHeartbeats 1600000 in
theorem markNodeS_any (lo hi b q N c : Nat) (T : Nat → GM) (k : Int) (w : World) (hs : NOwn w lo hi b q N T) (hk0 : 0 ≤ k) (hk1 : k + (noff T N : Int) ≤ 1048576) :
    Calls Try.prog 114 #[.slice (some ⟨b, q, none⟩) N c, .int .i64 k] w (NRetMarkS w lo hi b q N T k) := by
  have H := Lib.hid hs
  have hN5 : N ≤ 1048576 := by have := noff_len T N; omega
  have hlh : lo ≤ hi := by have := hs.glo; have := hs.ghi; omega
  clear hs
  go_enter Try.func114, Try.ntmps114
  go_wp2
  go_loopw [1, 5] (fun u p wr => ∃ i : Nat, i ≤ N ∧ p = .int .i64 i ∧ u = .int .i64 (k + (noff T i : Int)) ∧ Hid (Keeps w wr lo hi) ∧ Hid (NOwn wr lo hi b q N (fun j => if j < i then nmkd T k j else T j))) (fun _ p _ => N - (intOf p).toNat)
  case atStart => exact ⟨0, Nat.zero_le _, rfl, by simp [noff], Keeps.refl _ _ _, by simpa using H⟩
  case round =>
    obtain ⟨i, hi9, rfl, rfl, HK, HR⟩ := hrel
    by_cases hlt : i < N
    · have hlt' : (i : Int) < (N : Int) := by omega
      have hi0 : (0 : Int) ≤ (i : Int) := by omega
      have hle : noff T (i + 1) ≤ noff T N := noff_mono T hlt
      have hso : (noff T (i + 1) : Int) = (noff T i : Int) + 4 + ((T i).n : Int) := by simp only [noff]; omega
      have hx := HR.out.six i hlt
      have hsrc := HR.out.flds i hlt
      obtain ⟨f0, f1, f2, f3, f4⟩ := HR.out.free i hlt
      have hlt0 := HR.out.lt
      simp only [Nat.lt_irrefl, if_false] at hx hsrc
      obtain ⟨x0, x1, x2, x3, x4⟩ := hx
      generalize hK : k + (noff T i : Int) = K at *
      have hK0 : 0 ≤ K := by omega
      have hK1 : K + 4 + ((T i).n : Int) ≤ 1048576 := by omega
      have hn : (T i).n ≤ 1048576 := by omega
      have HSO := Lib.hid hso; have HKK := Lib.hid hK; have HSRC := Lib.hid hsrc
      clear hso hK hle hsrc
      obtain ⟨l, r, hl1, hl2, hl3, hnar, hlr⟩ := ownIn_narrow HSRC.out hlh
      obtain ⟨U, hU⟩ : ∃ U : Nat → GM, U = fun j => if j < i then nmkd T k j else T j := ⟨_, rfl⟩
      have hUi : U i = T i := by rw [hU]; simp
      have hR : NOwn wr lo hi b q N U := by rw [hU]; exact HR.out
      have hnar' : OwnIn wr l r (U i).a (U i).n (U i).f := by rw [hUi]; exact hnar
      have h5 := nown_four K hR hlt hnar'
      have hlr' : ((U i).n = 0 ∧ l = r) ∨ (0 < (U i).n ∧ l = (U i).g ∧ r = (U i).g + 1 ∧ (U i).g < wr.heap.size) := by rw [hUi]; exact hlr
      rw [hUi] at h5
      have H5 := Lib.hid h5; have HLR := Lib.hid hlr'; have HRU := Lib.hid hR; have HUI := Lib.hid hUi; have HU := Lib.hid hU
      clear h5 hlr' hR hUi hU hnar hnar' hlr HR
      go_wp2_with fail
      rw [show K + 1 + 1 + 1 + 1 = K + 4 from by omega, show K + 1 + 1 + 1 = K + 3 from by omega, show K + 1 + 1 = K + 2 from by omega]
      refine (markInts_any (T i).a (T i).n (T i).c l r (T i).f (K + 4) (fourN wr b (q + i * 5) K) H5.out hn (by omega) (by omega)).mono ?_
      rintro e w2 ⟨rfl, ho2, hk2⟩
      have hq := nown_round (i := i) HRU.out hlt hl1 hl3 HLR.out hk2 (by rw [HUI.out]; exact ho2)
      have HQ := Lib.hid hq
      clear ho2 hk2 hq
      go_wp2
      go_roundw
      case rel =>
        refine ⟨i + 1, by omega, by go_num, by have := HSO.out; have := HKK.out; go_num, HK.out.trans HQ.out.2, HQ.out.1.congr fun j hj => ?_⟩
        by_cases e : j = i
        · subst e
          simp only [if_true, Nat.lt_succ_self, nmkd, HKK.out, HUI.out]
        · rw [if_neg e, HU.out]
          have h2 : (j < i + 1) = (j < i) := by simp only [eq_iff_iff]; omega
          simp only [h2]
      case measure => simp [intOf]; omega
    · go_wp2
      go_ret
      obtain rfl : i = N := by omega
      exact ⟨rfl, HR.out.congr fun j hj => by simp [hj], HK.out⟩
end Go.Proofs.Ytaenbjilcgpgcaa

namespace Go.Proofs.Ytaenbjilcgpgcaa
open Go.RowKit
set_option linter.unusedVariables false

def NV (w : World) (a : Option Addr) (N : Nat) (T : Nat → GM) : Prop := N = 0 ∨ ∃ b q, a = some ⟨b, q, none⟩ ∧ NSrc w b q N T

def NVO (w : World) (lo hi : Nat) (a : Option Addr) (N : Nat) (T : Nat → GM) : Prop := N = 0 ∨ ∃ b q, a = some ⟨b, q, none⟩ ∧ NOwn w lo hi b q N T

theorem NVO.src {w : World} {lo hi N : Nat} {a : Option Addr} {T : Nat → GM} (h : NVO w lo hi a N T) : NV w a N T := by
  rcases h with h0 | ⟨b, q, e, h⟩
  · exact .inl h0
  · exact .inr ⟨b, q, e, h.src⟩

theorem NV.below {w w' : World} {a : Option Addr} {N : Nat} {T : Nat → GM} (h : NV w a N T) (hb : Below w.heap.size w w') : NV w' a N T := by
  rcases h with h0 | ⟨b, q, e, h⟩
  · exact .inl h0
  · exact .inr ⟨b, q, e, h.below hb⟩

theorem NVO.below {w w' : World} {lo hi N : Nat} {a : Option Addr} {T : Nat → GM} (h : NVO w lo hi a N T) (hb : Below w.heap.size w w') : NVO w' lo hi a N T := by
  rcases h with h0 | ⟨b, q, e, h⟩
  · exact .inl h0
  · exact .inr ⟨b, q, e, h.below hb⟩

theorem NVO.keeps {w w' : World} {lo hi lo' hi' N : Nat} {a : Option Addr} {T : Nat → GM} (h : NVO w lo hi a N T) (hk : Keeps w w' lo' hi') (hd : hi ≤ lo' ∨ hi' ≤ lo) : NVO w' lo hi a N T := by
  rcases h with h0 | ⟨b, q, e, h⟩
  · exact .inl h0
  · exact .inr ⟨b, q, e, h.keeps hk hd⟩

theorem NV.drew {w : World} {a : Option Addr} {N : Nat} {T : Nat → GM} (h : NV w a N T) : NV w.drew a N T := h.below (Below.refl _ _).drew

theorem NV.alloc {w : World} {a : Option Addr} {N : Nat} {T : Nat → GM} (h : NV w a N T) (o : Obj) : NV (w.alloc o) a N T := h.below ((Below.refl _ _).alloc (Nat.le_refl _) o)

theorem NVO.drew {w : World} {lo hi N : Nat} {a : Option Addr} {T : Nat → GM} (h : NVO w lo hi a N T) : NVO w.drew lo hi a N T := h.below (Below.refl _ _).drew

theorem NVO.alloc {w : World} {lo hi N : Nat} {a : Option Addr} {T : Nat → GM} (h : NVO w lo hi a N T) (o : Obj) : NVO (w.alloc o) lo hi a N T := h.below ((Below.refl _ _).alloc (Nat.le_refl _) o)

set_option maxRecDepth 100000 in
set_option maxHeartbeats 800000 in
theorem eqNode_same (t u : GM) (w : World) (he : GSame t u) (s1 : Src w t.a t.n t.f) (s2 : Src w u.a u.n u.f) (hn : t.n ≤ 1048576) :
    Calls Try.prog 168 #[.agg #[.int .i64 t.at_, .int .i64 t.s, .int .i64 t.m, .int .i64 t.h, .slice t.a t.n t.c], .agg #[.int .i64 u.at_, .int .i64 u.s, .int .i64 u.m, .int .i64 u.h, .slice u.a u.n u.c]] w (RetBool w true) := by
  obtain ⟨e1, e2, e3, e4, e5, e6, e7⟩ := he
  rw [← e6] at s2
  rw [← e1, ← e2, ← e3, ← e5, ← e6]
  have S1 := Lib.hid s1; have S2 := Lib.hid s2; have E7 := Lib.hid e7
  clear s1 s2 e1 e2 e3 e4 e5 e6 e7
  go_enter Try.func168, Try.ntmps168
  go_wp2_with fail
  refine (eqInts_same _ _ _ _ _ t.f u.f _ ((S1.out.alloc _).alloc _) ((S2.out.alloc _).alloc _) hn).mono ?_
  rw [eqB_yes E7.out]
  rintro e w2 ⟨rfl, hb⟩
  have HB2 := Lib.hid (thru2 (Below.refl _ _) hb)
  clear hb
  go_wp2
  go_ret
  exact ⟨rfl, HB2.out⟩

theorem fivesG {w : World} {g1 g2 q1 q2 i : Nat} {t u : GM} (h1 : FivG w g1 (q1 + i * 5) t) (h2 : FivG w g2 (q2 + i * 5) u) : w.cell? ⟨g1, q1 + i * 5, none⟩ = some (.int .i64 t.at_) ∧ w.cell? ⟨g1, q1 + i * 5 + 1, none⟩ = some (.int .i64 t.s) ∧ w.cell? ⟨g1, q1 + i * 5 + 2, none⟩ = some (.int .i64 t.m) ∧ w.cell? ⟨g1, q1 + i * 5 + 3, none⟩ = some (.int .i64 t.h) ∧ w.cell? ⟨g1, q1 + i * 5 + 4, none⟩ = some (.slice t.a t.n t.c) ∧ w.cell? ⟨g2, q2 + i * 5, none⟩ = some (.int .i64 u.at_) ∧ w.cell? ⟨g2, q2 + i * 5 + 1, none⟩ = some (.int .i64 u.s) ∧ w.cell? ⟨g2, q2 + i * 5 + 2, none⟩ = some (.int .i64 u.m) ∧ w.cell? ⟨g2, q2 + i * 5 + 3, none⟩ = some (.int .i64 u.h) ∧ w.cell? ⟨g2, q2 + i * 5 + 4, none⟩ = some (.slice u.a u.n u.c) :=
  ⟨h1.1, h1.2.1, h1.2.2.1, h1.2.2.2.1, h1.2.2.2.2, h2.1, h2.2.1, h2.2.2.1, h2.2.2.2.1, h2.2.2.2.2⟩

set_option maxRecDepth 100000 in
set_option maxHeartbeats 1600000 in
theorem eqNodeGS_same (g1 g2 q1 q2 N k1 k2 : Nat) (T U : Nat → GM) (w : World) (h1 : NSrc w g1 q1 N T) (h2 : NSrc w g2 q2 N U) (he : ∀ i, i < N → GSame (T i) (U i)) (hN : N ≤ 1048576) (hn : ∀ i, i < N → (T i).n ≤ 1048576) :
    Calls Try.prog 112 #[.slice (some ⟨g1, q1, none⟩) N k1, .slice (some ⟨g2, q2, none⟩) N k2] w (RetBool w true) := by
  have H1 := Lib.hid h1; have H2 := Lib.hid h2; have HE := Lib.hid he; have HN := Lib.hid hn
  clear h1 h2 he hn
  go_enter Try.func112, Try.ntmps112
  go_wp2
  go_loopw [5] (fun p wr => ∃ i : Nat, i ≤ N ∧ p = .int .i64 (i : Int) ∧ Hid (Below w.heap.size w wr)) (fun p _ => N - (intOf p).toNat)
  case atStart => exact ⟨0, Nat.zero_le _, rfl, Below.refl _ _⟩
  case round =>
    obtain ⟨i, hi, rfl, HBr⟩ := hrel
    by_cases hlt : i < N
    · have hlt' : (i : Int) < (N : Int) := by omega
      have hi0 : (0 : Int) ≤ (i : Int) := by omega
      have r1 := H1.out.below HBr.out; have r2 := H2.out.below HBr.out
      have X1 := Lib.hid (r1.six i hlt); have Y1 := Lib.hid (r2.six i hlt)
      have l1' := r1.lt; have l2' := r2.lt
      have S1 := Lib.hid (r1.flds i hlt); have S2 := Lib.hid (r2.flds i hlt)
      have hes := HE.out i hlt
      have hns := HN.out i hlt
      have hzr := HBr.out.size
      clear r1 r2
      generalize T i = t at *
      generalize U i = u at *
      have HES := Lib.hid hes
      clear hes
      have Xd := Lib.hid (X1.out.below (Below.refl _ _).drew l1'); have Yd := Lib.hid (Y1.out.below (Below.refl _ _).drew l2')
      go_wp2_with fail
      go_region_held3 (fun w' => w'.cell? ⟨g1, q1 + i * 5, none⟩ = some (.int .i64 t.at_) ∧ w'.cell? ⟨g1, q1 + i * 5 + 1, none⟩ = some (.int .i64 t.s) ∧ w'.cell? ⟨g1, q1 + i * 5 + 2, none⟩ = some (.int .i64 t.m) ∧ w'.cell? ⟨g1, q1 + i * 5 + 3, none⟩ = some (.int .i64 t.h) ∧ w'.cell? ⟨g1, q1 + i * 5 + 4, none⟩ = some (.slice t.a t.n t.c) ∧ w'.cell? ⟨g2, q2 + i * 5, none⟩ = some (.int .i64 u.at_) ∧ w'.cell? ⟨g2, q2 + i * 5 + 1, none⟩ = some (.int .i64 u.s) ∧ w'.cell? ⟨g2, q2 + i * 5 + 2, none⟩ = some (.int .i64 u.m) ∧ w'.cell? ⟨g2, q2 + i * 5 + 3, none⟩ = some (.int .i64 u.h) ∧ w'.cell? ⟨g2, q2 + i * 5 + 4, none⟩ = some (.slice u.a u.n u.c))
        (first | (with_reducible exact fivesG X1.out Y1.out) | (with_reducible exact fivesG Xd.out Yd.out) | (with_reducible exact fivesG X2.out Y2.out))
        (first | (go_at_call 168; refine (eqNode_same t u _ HES.out (S1.out.below (Below.refl _ _).drew) (S2.out.below (Below.refl _ _).drew) hns).mono ?_; rintro e w2 ⟨rfl, hb⟩; have HB2 := Lib.hid (thru0 (Below.refl wr.heap.size wr).drew hb); have X2 := Lib.hid (X1.out.below HB2.out l1'); have Y2 := Lib.hid (Y1.out.below HB2.out l2'); clear hb))
      have HB3 := Lib.hid (HBr.out.trans (HB2.out.mono hzr))
      go_wp2
      go_roundw
      case rel => exact ⟨i + 1, by omega, by go_num, HB3⟩
      case measure => simp [intOf]; omega
    · go_wp2
      go_ret
      exact ⟨rfl, HBr.out⟩
end Go.Proofs.Ytaenbjilcgpgcaa

namespace Go.Proofs.Ytaenbjilcgpgcaa
open Go.RowKit
set_option linter.unusedVariables false

set_option maxRecDepth 100000 in
set_option maxHeartbeats 400000 in
theorem eqNV_same (a1 a2 : Option Addr) (N k1 k2 : Nat) (T U : Nat → GM) (w : World) (h1 : NV w a1 N T) (h2 : NV w a2 N U) (he : ∀ i, i < N → GSame (T i) (U i)) (hN : N ≤ 1048576) (hn : ∀ i, i < N → (T i).n ≤ 1048576) :
    Calls Try.prog 112 #[.slice a1 N k1, .slice a2 N k2] w (RetBool w true) := by
  rcases Nat.eq_zero_or_pos N with rfl | hp
  · clear h1 h2 he hn
    go_enter Try.func112, Try.ntmps112
    go_wp2
    go_loop [5] (fun p => p = .int .i64 0) (fun _ => 0)
    case atStart => rfl
    case round =>
      obtain rfl := hrel
      go_wp2
      go_ret
      exact ⟨rfl, Below.refl _ _⟩
  · rcases h1 with h0 | ⟨b1, q1, rfl, h1⟩
    · omega
    · rcases h2 with h0 | ⟨b2, q2, rfl, h2⟩
      · omega
      · exact eqNodeGS_same b1 b2 q1 q2 N k1 k2 T U w h1 h2 he hN hn

/-- A row is nmkd. -/
def NRetMarkV (W : World) (lo hi : Nat) (a : Option Addr) (N : Nat) (T : Nat → GM) (k : Int) (e : Ending) (w' : World) : Prop :=
  e = .returned (.int .i64 (k + (noff T N : Int))) ∧ NVO w' lo hi a N (nmkd T k) ∧ Keeps W w' lo hi

set_option maxRecDepth 100000 in
set_option maxHeartbeats 400000 in
theorem markNV_any (lo hi N c : Nat) (a : Option Addr) (T : Nat → GM) (k : Int) (w : World) (hs : NVO w lo hi a N T) (hk0 : 0 ≤ k) (hk1 : k + (noff T N : Int) ≤ 1048576) :
    Calls Try.prog 114 #[.slice a N c, .int .i64 k] w (NRetMarkV w lo hi a N T k) := by
  rcases Nat.eq_zero_or_pos N with rfl | hp
  · clear hs
    simp only [noff] at hk1
    go_enter Try.func114, Try.ntmps114
    go_wp2
    go_loop [1, 5] (fun u p => u = .int .i64 k ∧ p = .int .i64 0) (fun _ _ => 0)
    case atStart => exact ⟨rfl, rfl⟩
    case round =>
      obtain ⟨rfl, rfl⟩ := hrel
      go_wp2
      go_ret
      exact ⟨by simp [noff], .inl rfl, Keeps.refl _ _ _⟩
  · rcases hs with h0 | ⟨b, q, rfl, h⟩
    · omega
    · refine (markNodeS_any lo hi b q N c T k w h hk0 hk1).mono ?_
      rintro e w' ⟨rfl, h1, h2⟩
      exact ⟨rfl, .inr ⟨b, q, rfl, h1⟩, h2⟩

set_option maxRecDepth 100000 in
set_option maxHeartbeats 400000 in
theorem heldNV_any (N c : Nat) (a : Option Addr) (T : Nat → GM) (k : Int) (w : World) (hs : NV w a N (nmkd T k)) (hk0 : 0 ≤ k) (hk1 : k + (noff T N : Int) ≤ 1048576) :
    Calls Try.prog 170 #[.slice a N c, .int .i64 k] w fun e w' => e = .returned (.int .i64 (k + (noff T N : Int))) ∧ w = w' := by
  rcases Nat.eq_zero_or_pos N with rfl | hp
  · clear hs
    simp only [noff] at hk1
    go_enter Try.func170, Try.ntmps170
    go_wp2
    go_loop [1, 5] (fun u p => u = .int .i64 k ∧ p = .int .i64 0) (fun _ _ => 0)
    case atStart => exact ⟨rfl, rfl⟩
    case round =>
      obtain ⟨rfl, rfl⟩ := hrel
      go_wp2
      go_ret
      exact ⟨by simp [noff], rfl⟩
  · rcases hs with h0 | ⟨b, q, rfl, h⟩
    · omega
    · exact heldNodeS_any b q N c T k w h hk0 hk1
end Go.Proofs.Ytaenbjilcgpgcaa

namespace Go.Proofs.Ytaenbjilcgpgcaa
open Go.RowKit
set_option linter.unusedVariables false

set_option maxRecDepth 100000 in
set_option maxHeartbeats 400000 in
theorem szNode_ok (t : GM) (l : Int) (w : World) (hl0 : 0 ≤ l) (hl : l ≤ 1048576) (hn : t.n ≤ maxLen) (hh : t.n ≤ l) :
    Calls Try.prog 163 #[.agg #[.int .i64 t.at_, .int .i64 t.s, .int .i64 t.m, .int .i64 t.h, .slice t.a t.n t.c], .int .i64 l] w fun e w' => e = .returned (.int .i64 (l - t.n)) ∧ Below w.heap.size w w' := by
  go_enter Try.func163, Try.ntmps163
  go_wp2_with (go_at_call 197; refine (szInts_ok _ _ _ _ _ hl0 hl hn hh).mono ?_; rintro e w' ⟨rfl, rfl⟩)
  go_ret
  exact ⟨rfl, (Below.refl _ _).alloc (Nat.le_refl _) _⟩

set_option maxRecDepth 100000 in
set_option maxHeartbeats 400000 in
theorem szNode_no (t : GM) (l : Int) (w : World) (hl0 : 0 ≤ l) (hl : l ≤ 1048576) (hn : t.n ≤ maxLen) (hh : l < t.n) :
    Calls Try.prog 163 #[.agg #[.int .i64 t.at_, .int .i64 t.s, .int .i64 t.m, .int .i64 t.h, .slice t.a t.n t.c], .int .i64 l] w fun e w' => e = .returned (.int .i64 (-1)) ∧ Below w.heap.size w w' := by
  go_enter Try.func163, Try.ntmps163
  go_wp2_with (go_at_call 197; refine (szInts_no _ _ _ _ _ hl0 hl hn hh).mono ?_; rintro e w' ⟨rfl, rfl⟩)
  go_ret
  exact ⟨rfl, (Below.refl _ _).alloc (Nat.le_refl _) _⟩

set_option maxRecDepth 100000 in
set_option maxHeartbeats 1600000 in
theorem szNodeS_any (a : Option Addr) (N c : Nat) (T : Nat → GM) (l : Int) (w : World) (h : NV w a N T) (hN : N ≤ maxLen) (hn : ∀ i, i < N → (T i).n ≤ maxLen) (hl0 : 0 ≤ l) (hl : l ≤ 1048576) :
    Calls Try.prog 106 #[.slice a N c, .int .i64 l] w (RetSz w N T l) := by
  have H := Lib.hid h; have HN := Lib.hid hn
  clear h hn
  unfold maxLen at hN
  by_cases hNl : (N : Int) ≤ l
  · go_enter Try.func106, Try.ntmps106
    go_wp2
    go_loopw [1, 5] (fun u p wr => ∃ (i : Nat) (x : Int), i ≤ N ∧ p = .int .i64 (i : Int) ∧ u = .int .i64 x ∧ 0 ≤ x ∧ x ≤ l - N ∧ Hid (Below w.heap.size w wr) ∧ Hid (∀ j, j < i → ((T j).n : Int) ≤ l)) (fun _ p _ => N - (intOf p).toNat)
    case atStart => exact ⟨0, l - N, Nat.zero_le _, rfl, rfl, by omega, by omega, Below.refl _ _, fun j hj => by omega⟩
    case round =>
      obtain ⟨i, x, hi, rfl, rfl, hx0, hx1, HBr, HE⟩ := hrel
      by_cases hlt : i < N
      · have hlt' : (i : Int) < (N : Int) := by omega
        have hi0 : (0 : Int) ≤ (i : Int) := by omega
        rcases H.out.below HBr.out with h0 | ⟨b, q, rfl, hg⟩
        · omega
        · have lt := hg.lt
          obtain ⟨x0, x1, x2, x3, x4⟩ := hg.six i hlt
          have hnm := HN.out i hlt
          have HGE := Lib.hid (show ∀ j, j < i → ((T j).n : Int) ≤ l from HE.out)
          clear hg
          have hnx : ((T i).n : Int) ≤ l → ∀ j, j < i + 1 → ((T j).n : Int) ≤ l := fun h j hj => by
            rcases Nat.lt_succ_iff_lt_or_eq.mp hj with h1 | h1
            · exact HGE.out j h1
            · subst h1; exact h
          have HNX := Lib.hid hnx
          clear hnx
          by_cases hle : ((T i).n : Int) ≤ x
          · go_wp2_with fail
            refine (szNode_ok (T i) x _ hx0 (by omega) hnm hle).mono ?_
            rintro e w' ⟨rfl, hb⟩
            have HB2 := Lib.hid (thru0 HBr.out hb)
            have HX := Lib.hid (HNX.out (by omega))
            clear hb
            go_wp2
            go_roundw
            case rel => exact ⟨i + 1, x - (T i).n, by omega, by go_num, rfl, by omega, by omega, HB2, HX⟩
            case measure => simp [intOf]; omega
          · go_wp2_with fail
            refine (szNode_no (T i) x _ hx0 (by omega) hnm (by omega)).mono ?_
            rintro e w' ⟨rfl, hb⟩
            have HB2 := Lib.hid (thru0 HBr.out hb)
            clear hb
            go_wp2
            go_ret
            exact ⟨HB2.out, -1, rfl, by omega, .inl rfl⟩
      · obtain rfl : i = N := by omega
        go_wp2
        go_ret
        exact ⟨HBr.out, x, rfl, by omega, .inr ⟨hx0, hNl, HE.out⟩⟩
  · go_enter Try.func106, Try.ntmps106
    go_wp2
    go_ret
    exact ⟨Below.refl _ _, -1, rfl, by omega, .inl rfl⟩
end Go.Proofs.Ytaenbjilcgpgcaa

namespace Go.Proofs.Ytaenbjilcgpgcaa
open Go.RowKit
set_option linter.unusedVariables false

/-- A new object that holds the same. -/
def RetNode (W : World) (t : GM) (e : Ending) (w' : World) : Prop :=
  ∃ t' : GM, GSame t t' ∧ e = .returned (.agg #[.int .i64 t'.at_, .int .i64 t'.s, .int .i64 t'.m, .int .i64 t'.h, .slice t'.a t'.n t'.c]) ∧ Own w' W.heap.size t'.a t'.n t'.f ∧ Below W.heap.size W w'

set_option maxRecDepth 100000 in
set_option maxHeartbeats 800000 in
theorem toNode_any (t : GM) (w : World) (hs : Src w t.a t.n t.f) (hn : t.n ≤ 1048576) :
    Calls Try.prog 166 #[.agg #[.int .i64 t.at_, .int .i64 t.s, .int .i64 t.m, .int .i64 t.h, .slice t.a t.n t.c]] w (RetNode w t) := by
  have HS := Lib.hid hs
  clear hs
  go_enter Try.func166, Try.ntmps166
  go_wp2_with fail
  refine (toInts_any t.a t.n t.c t.f _ (((HS.out.alloc _).alloc _).alloc _) hn).mono ?_
  rintro e w2 ⟨u, cu, rfl, ho, hb, -, -, -⟩
  have HB2 := Lib.hid (((((Below.refl w.heap.size w).alloc (Nat.le_refl _) _).alloc (by simp) _).alloc (by simp; omega) _).trans (hb.mono (by simp; omega)))
  have O_1 := Lib.hid ((Blk.new_at (w := (w.alloc (.cells #[.int .i64 t.at_, .int .i64 t.s, .int .i64 t.m, .int .i64 t.h, .slice t.a t.n t.c] 220)).alloc (.cells #[.int .i64 0, .int .i64 0, .int .i64 0, .int .i64 0, .slice none 0 0] 133)) (cs := #[.int .i64 t.at_, .int .i64 t.s, .int .i64 t.m, .int .i64 t.h, .slice none 0 0]) (t := 133) (w.heap.size + 2) (by simp)).below hb)
  have R_1 := Lib.hid (((Blk.new_at (w := w.alloc (.cells #[.int .i64 t.at_, .int .i64 t.s, .int .i64 t.m, .int .i64 t.h, .slice t.a t.n t.c] 220)) (cs := #[.int .i64 0, .int .i64 0, .int .i64 0, .int .i64 0, .slice none 0 0]) (t := 133) (w.heap.size + 1) (by simp)).alloc _).below hb)
  have HO := Lib.hid ho
  have z2 : w.heap.size + 3 ≤ w2.heap.size := by have := hb.size; simp at this; omega
  clear hb ho HS
  have cO0 := O_1.out.at 0 rfl; have fO0 := O_1.out.free 0 rfl; have cO1 := O_1.out.at 1 rfl; have fO1 := O_1.out.free 1 rfl; have cO2 := O_1.out.at 2 rfl; have fO2 := O_1.out.free 2 rfl; have cO3 := O_1.out.at 3 rfl; have fO3 := O_1.out.free 3 rfl; have cO4 := O_1.out.at 4 rfl; have fO4 := O_1.out.free 4 rfl; have lO := O_1.out.1
  have cR0 := R_1.out.at 0 rfl; have fR0 := R_1.out.free 0 rfl; have cR1 := R_1.out.at 1 rfl; have fR1 := R_1.out.free 1 rfl; have cR2 := R_1.out.at 2 rfl; have fR2 := R_1.out.free 2 rfl; have cR3 := R_1.out.at 3 rfl; have fR3 := R_1.out.free 3 rfl; have cR4 := R_1.out.at 4 rfl; have fR4 := R_1.out.free 4 rfl; have lR := R_1.out.1
  go_wp2
  refine bodyPost_ret (v := .agg #[.int .i64 t.at_, .int .i64 t.s, .int .i64 t.m, .int .i64 t.h, .slice u t.n cu]) (by simp [results, Try.results166, go_sem, cR0, cR1, cR2, cR3, cR4]) rfl ⟨⟨t.at_, t.s, t.m, t.o, t.h, u, t.n, cu, t.f⟩, ⟨rfl, rfl, rfl, rfl, rfl, rfl, fun _ _ => rfl⟩, rfl, ?_, ?_⟩
  · refine Own.mono (B := w.heap.size + 3) ?_ (by omega)
    repeat (with_reducible refine Own.setCell ?_ (by (try simp); (try omega)) _)
    simpa [Nat.add_assoc] using HO.out
  · repeat (with_reducible refine Below.setCell ?_ (by (try simp); (try omega)) _)
    exact HB2.out
end Go.Proofs.Ytaenbjilcgpgcaa

