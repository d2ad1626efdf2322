/- The walks of FnExactWordsOf, FnExactIsPointer, FnExactForwardWord, FnExactReadForward. -/
import Derived.Test.YtflhjbcpffhanaaH6
import Derived.Test.YtflhjbcpffhanaaH7
namespace Go.Proofs.Ytflhjbcpffhanaa
open Go.RowKit
set_option linter.unusedVariables false

set_option maxHeartbeats 800000 in
theorem e7_any (s m o h : Int) (w : World) :
    Calls Try.prog 7 #[.agg #[.int .i64 s, .int .i64 m, .int .i64 o, .int .i64 h]] w (RetBool w true) := by
  obtain ⟨c, v, hk⟩ := isWO_some s m o h
  have HK := Lib.hid hk
  clear hk
  go_enter Try.func7, Try.ntmps7
  go_wp2_with fail
  refine (toHead_any s m o h _).mono ?_
  rintro e w1 ⟨rfl, hb⟩
  have HB1 : Hid (Below w.heap.size w w1) := thru1 (Below.refl _ _) hb
  have z1 : w.heap.size + 1 ≤ w1.heap.size := by have := hb.size; simp at this; omega
  have A_1 := Lib.hid ((Blk.new_at (w.heap.size) (by simp)).below hb)
  clear hb
  go_wp2_with fail
  refine (specWO_any s m o h c v _ HK.out).mono ?_
  rintro e w2 ⟨rfl, hb⟩
  have HB2 : Hid (Below w.heap.size w w2) := thru0 HB1.out hb
  have z2 : w1.heap.size ≤ w2.heap.size := hb.size
  have A_2 := Lib.hid (A_1.out.below hb)
  clear hb A_1 HB1
  have lA := A_2.out.1
  have cA0 := A_2.out.at 0 rfl
  have cA1 := A_2.out.at 1 rfl
  have cA2 := A_2.out.at 2 rfl
  have cA3 := A_2.out.at 3 rfl
  go_wp2_with fail
  refine (toHead_any s m o h _).mono ?_
  rintro e w3 ⟨rfl, hb⟩
  have HB3 : Hid (Below w.heap.size w w3) := thru1 HB2.out hb
  have z3 : w2.heap.size + 1 ≤ w3.heap.size := by have := hb.size; simp at this; omega
  have A_3 := Lib.hid ((A_2.out.alloc _).below hb)
  have W_3 := Lib.hid ((Blk.new_at (w2.heap.size) (by simp)).below hb)
  clear hb lA cA0 cA1 cA2 cA3 A_2 HB2
  go_wp2_with fail
  refine (implWO_any s m o h c v _ HK.out).mono ?_
  rintro e w4 ⟨rfl, hb⟩
  have HB4 : Hid (Below w.heap.size w w4) := thru0 HB3.out hb
  have z4 : w3.heap.size ≤ w4.heap.size := hb.size
  have A_4 := Lib.hid (A_3.out.below hb)
  have W_4 := Lib.hid (W_3.out.below hb)
  clear hb A_3 W_3 HB3
  have lW := W_4.out.1
  have cW0 := W_4.out.at 0 rfl
  have cW1 := W_4.out.at 1 rfl
  go_wp2_with fail
  refine (eqIntResult_same _ _ _).mono ?_
  rintro e w5 ⟨rfl, hb⟩
  have HB5 : Hid (Below w.heap.size w w5) := thru1 HB4.out hb
  have z5 : w4.heap.size + 1 ≤ w5.heap.size := by have := hb.size; simp at this; omega
  have A_5 := Lib.hid ((A_4.out.alloc _).below hb)
  have W_5 := Lib.hid ((W_4.out.alloc _).below hb)
  clear hb lW cW0 cW1 A_4 W_4 HB4
  go_wp2
  go_ret
  exact ⟨rfl, HB5.out⟩

set_option maxHeartbeats 800000 in
theorem e8_any (s m o h i : Int) (w : World) :
    Calls Try.prog 8 #[.agg #[.int .i64 s, .int .i64 m, .int .i64 o, .int .i64 h], .int .i64 i] w (RetBool w true) := by
  obtain ⟨r, hk⟩ := isIP_some s m o h i
  have hrr : (r != r) = false := by cases r <;> rfl
  have HK := Lib.hid hk
  clear hk
  go_enter Try.func8, Try.ntmps8
  go_wp2_with fail
  refine (toHead_any s m o h _).mono ?_
  rintro e w1 ⟨rfl, hb⟩
  have HB1 : Hid (Below w.heap.size w w1) := thru1 (Below.refl _ _) hb
  have z1 : w.heap.size + 1 ≤ w1.heap.size := by have := hb.size; simp at this; omega
  have A_1 := Lib.hid ((Blk.new_at (w.heap.size) (by simp)).below hb)
  clear hb
  go_wp2_with fail
  refine (specIP_any s m o h i r _ HK.out).mono ?_
  rintro e w2 ⟨rfl, hb⟩
  have HB2 : Hid (Below w.heap.size w w2) := thru0 HB1.out hb
  have z2 : w1.heap.size ≤ w2.heap.size := hb.size
  have A_2 := Lib.hid (A_1.out.below hb)
  clear hb A_1 HB1
  have lA := A_2.out.1
  have cA0 := A_2.out.at 0 rfl
  have cA1 := A_2.out.at 1 rfl
  have cA2 := A_2.out.at 2 rfl
  have cA3 := A_2.out.at 3 rfl
  go_wp2_with fail
  refine (toHead_any s m o h _).mono ?_
  rintro e w3 ⟨rfl, hb⟩
  have HB3 : Hid (Below w.heap.size w w3) := thru0 HB2.out hb
  have z3 : w2.heap.size ≤ w3.heap.size := hb.size
  have A_3 := Lib.hid (A_2.out.below hb)
  clear hb lA cA0 cA1 cA2 cA3 A_2 HB2
  go_wp2_with fail
  refine (implIP_any s m o h i r _ HK.out).mono ?_
  rintro e w4 ⟨rfl, hb⟩
  have HB4 : Hid (Below w.heap.size w w4) := thru0 HB3.out hb
  have z4 : w3.heap.size ≤ w4.heap.size := hb.size
  have A_4 := Lib.hid (A_3.out.below hb)
  clear hb A_3 HB3
  go_wp2
  go_ret
  exact ⟨rfl, HB4.out⟩

set_option maxHeartbeats 800000 in
theorem e9_any (a : Int) (w : World) :
    Calls Try.prog 9 #[.int .i64 a] w (RetBool w true) := by
  obtain ⟨c, v, hk⟩ := isFW_some a
  have HK := Lib.hid hk
  clear hk
  go_enter Try.func9, Try.ntmps9
  go_wp2_with fail
  refine (specFW_any a c v _ HK.out).mono ?_
  rintro e w1 ⟨rfl, hb⟩
  have HB1 : Hid (Below w.heap.size w w1) := thru0 (Below.refl _ _) hb
  have z1 : w.heap.size ≤ w1.heap.size := hb.size
  clear hb
  go_wp2_with fail
  refine (implFW_any a c v _ HK.out).mono ?_
  rintro e w2 ⟨rfl, hb⟩
  have HB2 : Hid (Below w.heap.size w w2) := thru1 HB1.out hb
  have z2 : w1.heap.size + 1 ≤ w2.heap.size := by have := hb.size; simp at this; omega
  have W_2 := Lib.hid ((Blk.new_at (w1.heap.size) (by simp)).below hb)
  clear hb HB1
  have lW := W_2.out.1
  have cW0 := W_2.out.at 0 rfl
  have cW1 := W_2.out.at 1 rfl
  go_wp2_with fail
  refine (eqIntResult_same _ _ _).mono ?_
  rintro e w3 ⟨rfl, hb⟩
  have HB3 : Hid (Below w.heap.size w w3) := thru1 HB2.out hb
  have z3 : w2.heap.size + 1 ≤ w3.heap.size := by have := hb.size; simp at this; omega
  have W_3 := Lib.hid ((W_2.out.alloc _).below hb)
  clear hb lW cW0 cW1 W_2 HB2
  go_wp2
  go_ret
  exact ⟨rfl, HB3.out⟩

set_option maxHeartbeats 800000 in
theorem e10_any (a : Int) (w : World) (hw : I64 a) :
    Calls Try.prog 10 #[.int .i64 a] w (RetBool w true) := by
  obtain ⟨c, v, hk⟩ := isRF_some a
  have HK := Lib.hid hk
  clear hk
  go_enter Try.func10, Try.ntmps10
  go_wp2_with fail
  refine (specRF_any a c v _ hw HK.out).mono ?_
  rintro e w1 ⟨rfl, hb⟩
  have HB1 : Hid (Below w.heap.size w w1) := thru0 (Below.refl _ _) hb
  have z1 : w.heap.size ≤ w1.heap.size := hb.size
  clear hb
  go_wp2_with fail
  refine (implRF_any a c v _ hw HK.out).mono ?_
  rintro e w2 ⟨rfl, hb⟩
  have HB2 : Hid (Below w.heap.size w w2) := thru1 HB1.out hb
  have z2 : w1.heap.size + 1 ≤ w2.heap.size := by have := hb.size; simp at this; omega
  have W_2 := Lib.hid ((Blk.new_at (w1.heap.size) (by simp)).below hb)
  clear hb HB1
  have lW := W_2.out.1
  have cW0 := W_2.out.at 0 rfl
  have cW1 := W_2.out.at 1 rfl
  go_wp2_with fail
  refine (eqIntResult_same _ _ _).mono ?_
  rintro e w3 ⟨rfl, hb⟩
  have HB3 : Hid (Below w.heap.size w w3) := thru1 HB2.out hb
  have z3 : w2.heap.size + 1 ≤ w3.heap.size := by have := hb.size; simp at this; omega
  have W_3 := Lib.hid ((W_2.out.alloc _).below hb)
  clear hb lW cW0 cW1 W_2 HB2
  go_wp2
  go_ret
  exact ⟨rfl, HB3.out⟩

theorem i64_of_wf {x : Int} (h : (Lit.int .i64 x).wf = true) : I64 x := by
  simp only [Lit.wf, Bool.and_eq_true, decide_eq_true_eq] at h
  exact ⟨h.1, h.2⟩

end Go.Proofs.Ytflhjbcpffhanaa
