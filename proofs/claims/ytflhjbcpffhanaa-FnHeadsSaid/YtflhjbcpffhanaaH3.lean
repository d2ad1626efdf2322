/- toHead; FnExactHeadFault. -/
import Derived.Test.YtflhjbcpffhanaaH2
namespace Go.Proofs.Ytflhjbcpffhanaa
open Go.RowKit
set_option linter.unusedVariables false


set_option maxHeartbeats 400000 in
theorem toHead_any (s m o h : Int) (w : World) :
    Calls Try.prog 30 #[.agg #[.int .i64 s, .int .i64 m, .int .i64 o, .int .i64 h]] w fun e w' => e = .returned (.agg #[.int .i64 s, .int .i64 m, .int .i64 o, .int .i64 h]) ∧ Below w.heap.size w w' := by
  go_enter Try.func30, Try.ntmps30
  go_wp2
  refine bodyPost_ret (v := .agg #[.int .i64 s, .int .i64 m, .int .i64 o, .int .i64 h]) (by simp [results, Try.results30, go_sem]) rfl ⟨rfl, ?_⟩
  exact ((((Below.refl _ _).alloc (Nat.le_refl _) _).alloc (by simp) _).alloc (by simp; try omega) _)

set_option maxHeartbeats 800000 in
theorem e4_any (s m o h : Int) (w : World) :
    Calls Try.prog 4 #[.agg #[.int .i64 s, .int .i64 m, .int .i64 o, .int .i64 h]] w (RetBool w true) := by
  obtain ⟨k, hk⟩ := isHF_some s m o h
  have HK := Lib.hid hk
  clear hk
  go_enter Try.func4, Try.ntmps4
  go_wp2_with fail
  refine (toHead_any s m o h _).mono ?_
  rintro e w1 ⟨rfl, hb⟩
  have HB1 : Hid (Below w.heap.size w w1) := thru1 (Below.refl _ _) hb
  have z1 : w.heap.size + 1 ≤ w1.heap.size := by have := hb.size; simp at this; omega
  have A_1 := Lib.hid ((Blk.new_at (w.heap.size) (by simp)).below hb)
  clear hb
  go_wp2_with fail
  refine (specHF_any s m o h k _ HK.out).mono ?_
  rintro e w2 ⟨rfl, hb⟩
  have HB2 : Hid (Below w.heap.size w w2) := thru0 HB1.out hb
  have z2 : w1.heap.size ≤ w2.heap.size := hb.size
  have A_2 := Lib.hid (A_1.out.below hb)
  clear hb A_1 HB1
  have lA := A_2.out.1
  have cA0 := A_2.out.at 0 rfl
  have cA1 := A_2.out.at 1 rfl
  have cA2 := A_2.out.at 2 rfl
  have cA3 := A_2.out.at 3 rfl
  go_wp2_with fail
  refine (toHead_any s m o h _).mono ?_
  rintro e w3 ⟨rfl, hb⟩
  have HB3 : Hid (Below w.heap.size w w3) := thru0 HB2.out hb
  have z3 : w2.heap.size ≤ w3.heap.size := hb.size
  have A_3 := Lib.hid (A_2.out.below hb)
  clear hb lA cA0 cA1 cA2 cA3 A_2 HB2
  go_wp2_with fail
  refine (implHF_any s m o h k _ HK.out).mono ?_
  rintro e w4 ⟨rfl, hb⟩
  have HB4 : Hid (Below w.heap.size w w4) := thru0 HB3.out hb
  have z4 : w3.heap.size ≤ w4.heap.size := hb.size
  have A_4 := Lib.hid (A_3.out.below hb)
  clear hb A_3 HB3
  go_wp2
  go_ret
  exact ⟨rfl, HB4.out⟩

end Go.Proofs.Ytflhjbcpffhanaa
