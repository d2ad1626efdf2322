/- ReadForward, of the program and of the model. -/
import Derived.Test.YtflhjbcpffhanaaH4
namespace Go.Proofs.Ytflhjbcpffhanaa
open Go.RowKit
set_option linter.unusedVariables false

/-- What ReadForward answers. -/
def RFOk (a : Int) : Prop := 2 ≤ a ∧ a ≤ 800 ∧ a % 2 = 0
def IsRF (a c v : Int) : Prop := (RFOk a ∧ c = 0 ∧ v = a / 2 - 1) ∨ (¬ RFOk a ∧ c = 1 ∧ v = 0)
def I64 (a : Int) : Prop := -9223372036854775808 ≤ a ∧ a ≤ 9223372036854775807
theorem isRF_some (a : Int) : ∃ c v, IsRF a c v := by
  by_cases x : RFOk a
  · exact ⟨0, _, .inl ⟨x, rfl, rfl⟩⟩
  · exact ⟨1, 0, .inr ⟨x, rfl, rfl⟩⟩

set_option maxHeartbeats 800000 in
theorem implRF_range (a : Int) (w : World) (hw1 : -9223372036854775808 ≤ a) (hw2 : a ≤ 9223372036854775807) (h0 : ¬ (0 ≤ a / 2 - 1 ∧ a / 2 - 1 ≤ 399)) :
    Calls Try.prog 19 #[.int .i64 a] w (RetPair w 1 0) := by
  have H0 := Lib.hid h0
  clear h0
  go_enter Try.func19, Try.ntmps19
  go_wp2_with fail
  refine (implFW_any (a / 2 - 1) 3 0 _ (.inr ⟨H0.out, rfl, rfl⟩)).mono ?_
  rintro e w1 ⟨rfl, hb⟩
  have HB1 : Hid (Below w.heap.size w w1) := thru1 (Below.refl _ _) hb
  have z1 : w.heap.size + 1 ≤ w1.heap.size := by have := hb.size; simp at this; omega
  have R_1 := Lib.hid ((Blk.new_at (w.heap.size) (by simp)).below hb)
  clear hb
  have lR := R_1.out.1
  have cR0 := R_1.out.at 0 rfl
  have cR1 := R_1.out.at 1 rfl
  have fR0 := R_1.out.free 0 rfl
  have fR1 := R_1.out.free 1 rfl
  go_wp2
  have hz := HB1.out.size
  refine bodyPost_ret (v := .agg #[.int .i64 1, .int .i64 0]) (by simp [results, Try.results19, go_sem, cR0, cR1, lR, World.cell?_alloc_past]) rfl ⟨rfl, ?_⟩
  repeat (first | (with_reducible refine Below.setCell ?_ (by (try simp); (try omega)) _) | (with_reducible refine Below.alloc ?_ (by (try simp); (try omega)) _))
  exact HB1.out

set_option maxHeartbeats 800000 in
theorem implRF_odd (a : Int) (w : World) (hw1 : -9223372036854775808 ≤ a) (hw2 : a ≤ 9223372036854775807) (h0 : 0 ≤ a / 2 - 1 ∧ a / 2 - 1 ≤ 399) (h1 : ¬ a % 2 = 0) :
    Calls Try.prog 19 #[.int .i64 a] w (RetPair w 1 0) := by
  have hd : (2 * (a / 2 - 1) + 2 != a) = true := by simp; omega
  have H0 := Lib.hid h0
  clear h0
  go_enter Try.func19, Try.ntmps19
  go_wp2_with fail
  refine (implFW_any (a / 2 - 1) 0 (2 * (a / 2 - 1) + 2) _ (.inl ⟨H0.out, rfl, rfl⟩)).mono ?_
  rintro e w1 ⟨rfl, hb⟩
  have HB1 : Hid (Below w.heap.size w w1) := thru1 (Below.refl _ _) hb
  have z1 : w.heap.size + 1 ≤ w1.heap.size := by have := hb.size; simp at this; omega
  have R_1 := Lib.hid ((Blk.new_at (w.heap.size) (by simp)).below hb)
  clear hb
  have lR := R_1.out.1
  have cR0 := R_1.out.at 0 rfl
  have cR1 := R_1.out.at 1 rfl
  have fR0 := R_1.out.free 0 rfl
  have fR1 := R_1.out.free 1 rfl
  go_wp2
  have hz := HB1.out.size
  refine bodyPost_ret (v := .agg #[.int .i64 1, .int .i64 0]) (by simp [results, Try.results19, go_sem, cR0, cR1, lR, World.cell?_alloc_past]) rfl ⟨rfl, ?_⟩
  repeat (first | (with_reducible refine Below.setCell ?_ (by (try simp); (try omega)) _) | (with_reducible refine Below.alloc ?_ (by (try simp); (try omega)) _))
  exact HB1.out

set_option maxHeartbeats 800000 in
theorem implRF_ok (a : Int) (w : World) (hw1 : -9223372036854775808 ≤ a) (hw2 : a ≤ 9223372036854775807) (h0 : 0 ≤ a / 2 - 1 ∧ a / 2 - 1 ≤ 399) (h1 : a % 2 = 0) :
    Calls Try.prog 19 #[.int .i64 a] w (RetPair w 0 (a / 2 - 1)) := by
  have hd : (2 * (a / 2 - 1) + 2 != a) = false := by simp; omega
  have H0 := Lib.hid h0
  clear h0
  go_enter Try.func19, Try.ntmps19
  go_wp2_with fail
  refine (implFW_any (a / 2 - 1) 0 (2 * (a / 2 - 1) + 2) _ (.inl ⟨H0.out, rfl, rfl⟩)).mono ?_
  rintro e w1 ⟨rfl, hb⟩
  have HB1 : Hid (Below w.heap.size w w1) := thru1 (Below.refl _ _) hb
  have z1 : w.heap.size + 1 ≤ w1.heap.size := by have := hb.size; simp at this; omega
  have R_1 := Lib.hid ((Blk.new_at (w.heap.size) (by simp)).below hb)
  clear hb
  have lR := R_1.out.1
  have cR0 := R_1.out.at 0 rfl
  have cR1 := R_1.out.at 1 rfl
  have fR0 := R_1.out.free 0 rfl
  have fR1 := R_1.out.free 1 rfl
  go_wp2
  have hz := HB1.out.size
  refine bodyPost_ret (v := .agg #[.int .i64 0, .int .i64 (a / 2 - 1)]) (by simp [results, Try.results19, go_sem, cR0, cR1, lR, World.cell?_alloc_past]) rfl ⟨rfl, ?_⟩
  repeat (first | (with_reducible refine Below.setCell ?_ (by (try simp); (try omega)) _) | (with_reducible refine Below.alloc ?_ (by (try simp); (try omega)) _))
  exact HB1.out

theorem implRF_any (a c v : Int) (w : World) (hw : I64 a) (hk : IsRF a c v) : Calls Try.prog 19 #[.int .i64 a] w (RetPair w c v) := by
  rcases hk with ⟨⟨h1, h2, h3⟩, rfl, rfl⟩ | ⟨h1, rfl, rfl⟩
  · exact implRF_ok a w hw.1 hw.2 (by omega) h3
  · by_cases h0 : 0 ≤ a / 2 - 1 ∧ a / 2 - 1 ≤ 399
    · exact implRF_odd a w hw.1 hw.2 h0 (fun h3 => h1 ⟨by omega, by omega, h3⟩)
    · exact implRF_range a w hw.1 hw.2 h0

set_option maxHeartbeats 800000 in
theorem specRF_small (a : Int) (w : World) (hw1 : -9223372036854775808 ≤ a) (hw2 : a ≤ 9223372036854775807) (h0 : a < 2) :
    Calls Try.prog 23 #[.int .i64 a] w (RetPair w 1 0) := by
  go_enter Try.func23, Try.ntmps23
  go_wp2
  exact bodyPost_ret (v := .agg #[.int .i64 1, .int .i64 0]) (by simp [results, Try.results23, go_sem]) rfl ⟨rfl, (Below.refl _ _).alloc (Nat.le_refl _) _⟩

set_option maxHeartbeats 800000 in
theorem specRF_odd (a : Int) (w : World) (hw1 : -9223372036854775808 ≤ a) (hw2 : a ≤ 9223372036854775807) (h0 : ¬ a < 2) (h1 : ¬ a % 2 = 0) :
    Calls Try.prog 23 #[.int .i64 a] w (RetPair w 1 0) := by
  have ht : a.tmod 2 = a % 2 := Int.tmod_eq_emod_of_nonneg (by omega)
  have hd : (a % 2 != 0) = true := by simpa using h1
  go_enter Try.func23, Try.ntmps23
  go_wp2
  exact bodyPost_ret (v := .agg #[.int .i64 1, .int .i64 0]) (by simp [results, Try.results23, go_sem]) rfl ⟨rfl, (Below.refl _ _).alloc (Nat.le_refl _) _⟩

set_option maxHeartbeats 800000 in
theorem specRF_great (a : Int) (w : World) (hw1 : -9223372036854775808 ≤ a) (hw2 : a ≤ 9223372036854775807) (h0 : ¬ a < 2) (h1 : a % 2 = 0) (h2 : 399 < a / 2 - 1) :
    Calls Try.prog 23 #[.int .i64 a] w (RetPair w 1 0) := by
  have ht : a.tmod 2 = a % 2 := Int.tmod_eq_emod_of_nonneg (by omega)
  have ht2 : a.tdiv 2 = a / 2 := Int.tdiv_eq_ediv_of_nonneg (by omega)
  have hd : (a % 2 != 0) = false := by simpa using h1
  go_enter Try.func23, Try.ntmps23
  go_wp2
  exact bodyPost_ret (v := .agg #[.int .i64 1, .int .i64 0]) (by simp [results, Try.results23, go_sem]) rfl ⟨rfl, (Below.refl _ _).alloc (Nat.le_refl _) _⟩

set_option maxHeartbeats 800000 in
theorem specRF_ok (a : Int) (w : World) (hw1 : -9223372036854775808 ≤ a) (hw2 : a ≤ 9223372036854775807) (h0 : ¬ a < 2) (h1 : a % 2 = 0) (h2 : ¬ 399 < a / 2 - 1) :
    Calls Try.prog 23 #[.int .i64 a] w (RetPair w 0 (a / 2 - 1)) := by
  have ht : a.tmod 2 = a % 2 := Int.tmod_eq_emod_of_nonneg (by omega)
  have ht2 : a.tdiv 2 = a / 2 := Int.tdiv_eq_ediv_of_nonneg (by omega)
  have hd : (a % 2 != 0) = false := by simpa using h1
  go_enter Try.func23, Try.ntmps23
  go_wp2
  exact bodyPost_ret (v := .agg #[.int .i64 0, .int .i64 (a / 2 - 1)]) (by simp [results, Try.results23, go_sem]) rfl ⟨rfl, (Below.refl _ _).alloc (Nat.le_refl _) _⟩

theorem specRF_any (a c v : Int) (w : World) (hw : I64 a) (hk : IsRF a c v) : Calls Try.prog 23 #[.int .i64 a] w (RetPair w c v) := by
  rcases hk with ⟨⟨h1, h2, h3⟩, rfl, rfl⟩ | ⟨h1, rfl, rfl⟩
  · exact specRF_ok a w hw.1 hw.2 (by omega) h3 (by omega)
  · by_cases h0 : a < 2
    · exact specRF_small a w hw.1 hw.2 h0
    · by_cases h2 : a % 2 = 0
      · exact specRF_great a w hw.1 hw.2 h0 h2 (Int.not_le.mp fun h3 => h1 ⟨by omega, by omega, h2⟩)
      · exact specRF_odd a w hw.1 hw.2 h0 h2

end Go.Proofs.Ytflhjbcpffhanaa
