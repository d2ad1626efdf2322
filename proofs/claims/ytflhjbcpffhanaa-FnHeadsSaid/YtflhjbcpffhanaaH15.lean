/- The walk of FnExactReadHead. -/
import Derived.Test.YtflhjbcpffhanaaH14
import Derived.Test.YtflhjbcpffhanaaH6
namespace Go.Proofs.Ytflhjbcpffhanaa
open Go.RowKit
set_option linter.unusedVariables false


set_option maxHeartbeats 400000 in
theorem eqHead_same (s m o h : Int) (w : World) : Calls Try.prog 54 #[.agg #[.int .i64 s, .int .i64 m, .int .i64 o, .int .i64 h], .agg #[.int .i64 s, .int .i64 m, .int .i64 o, .int .i64 h]] w (RetBool w true) := by
  go_enter Try.func54, Try.ntmps54
  go_wp2
  go_ret
  exact ⟨rfl, ((Below.refl _ _).alloc (Nat.le_refl _) _).alloc (by simp) _⟩

set_option maxHeartbeats 800000 in
theorem eqHR_same (co s m o h : Int) (w : World) : Calls Try.prog 35 #[.agg #[.int .i64 co, .int .i64 s, .int .i64 m, .int .i64 o, .int .i64 h], .agg #[.int .i64 co, .int .i64 s, .int .i64 m, .int .i64 o, .int .i64 h]] w (RetBool w true) := by
  go_enter Try.func35, Try.ntmps35
  go_wp2_with (go_at_call 54; (with_reducible refine (eqHead_same _ _ _ _ _).mono ?_); rintro e w1 ⟨rfl, hb⟩; have HB := Lib.hid hb; clear hb)
  go_ret
  exact ⟨rfl, thru2 (Below.refl _ _) HB.out⟩

set_option maxHeartbeats 3200000 in
theorem e6_near (a : Option Addr) (n cap : Nat) (f : Nat → Int) (w : World) (hs : Src w a n f) (hn : n ≤ 1048576) (hf : ∀ i, i < n → f i ≤ 9223372036854775807) :
    Calls Try.prog 6 #[.slice a n cap] w (RetBool w true) := by
  obtain ⟨c, s, m, o, h, hk⟩ := isRH_some n f
  have HK := Lib.hid hk
  have HS := Lib.hid hs
  have HF := Lib.hid hf
  clear hk hs hf
  go_enter Try.func6, Try.ntmps6
  go_wp2_with fail
  refine (toInts_any _ _ _ f _ HS.out hn).mono ?_
  rintro e w1 ⟨u1, c1, rfl, ho, hb, _, _, _⟩
  have HB1 : Hid (Below w.heap.size w w1) := thru0 (Below.refl _ _) hb
  have z1 : w.heap.size ≤ w1.heap.size := hb.size
  have HS_1 := Lib.hid (HS.out.below hb)
  have RA_1 : Hid (Own w1 (w.heap.size) u1 n f) := ho
  clear hb HS ho
  go_wp2_with fail
  refine (specRH_any _ _ _ f c s m o h _ RA_1.out.src hn HF.out HK.out).mono ?_
  rintro e w2 ⟨rfl, hb⟩
  have HB2 : Hid (Below w.heap.size w w2) := thru0 HB1.out hb
  have z2 : w1.heap.size ≤ w2.heap.size := hb.size
  have HS_2 := Lib.hid (HS_1.out.below hb)
  have RA_2 := Lib.hid (RA_1.out.below hb)
  clear hb HS_1 RA_1 HB1
  clear RA_2
  go_wp2_with fail
  refine (toInts_any _ _ _ f _ (HS_2.out.alloc _) hn).mono ?_
  rintro e w3 ⟨u3, c3, rfl, ho, hb, _, _, _⟩
  have HB3 : Hid (Below w.heap.size w w3) := thru1 HB2.out hb
  have z3 : w2.heap.size + 1 ≤ w3.heap.size := by have := hb.size; simp at this; omega
  have HS_3 := Lib.hid ((HS_2.out.alloc _).below hb)
  have W_3 := Lib.hid ((Blk.new_at (w2.heap.size) (by simp)).below hb)
  have RX_3 : Hid (Own w3 (w2.heap.size) u3 n f) := ho.mono (by simp)
  clear hb HS_2 HB2 ho
  go_wp2_with fail
  refine (implRH_any _ _ _ f c s m o h _ RX_3.out.src hn HK.out).mono ?_
  rintro e w4 ⟨rfl, hb⟩
  have HB4 : Hid (Below w.heap.size w w4) := thru0 HB3.out hb
  have z4 : w3.heap.size ≤ w4.heap.size := hb.size
  have HS_4 := Lib.hid (HS_3.out.below hb)
  have W_4 := Lib.hid (W_3.out.below hb)
  have RX_4 := Lib.hid (RX_3.out.below hb)
  clear hb HS_3 W_3 RX_3 HB3
  have lW := W_4.out.1
  have cW0 := W_4.out.at 0 rfl
  have cW1 := W_4.out.at 1 rfl
  have cW2 := W_4.out.at 2 rfl
  have cW3 := W_4.out.at 3 rfl
  have cW4 := W_4.out.at 4 rfl
  go_wp2_with fail
  refine (eqHR_same _ _ _ _ _ _).mono ?_
  rintro e w5 ⟨rfl, hb⟩
  have HB5 : Hid (Below w.heap.size w w5) := thru1 HB4.out hb
  have z5 : w4.heap.size + 1 ≤ w5.heap.size := by have := hb.size; simp at this; omega
  have HS_5 := Lib.hid ((HS_4.out.alloc _).below hb)
  have W_5 := Lib.hid ((W_4.out.alloc _).below hb)
  have RX_5 := Lib.hid ((RX_4.out.alloc _).below hb)
  clear hb lW cW0 cW1 cW2 cW3 cW4 HS_4 W_4 RX_4 HB4
  go_wp2_with fail
  refine (toInts_any _ _ _ f _ HS_5.out hn).mono ?_
  rintro e w6 ⟨u6, c6, rfl, ho, hb, _, _, _⟩
  have HB6 : Hid (Below w.heap.size w w6) := thru0 HB5.out hb
  have z6 : w5.heap.size ≤ w6.heap.size := hb.size
  have HS_6 := Lib.hid (HS_5.out.below hb)
  have W_6 := Lib.hid (W_5.out.below hb)
  have RX_6 := Lib.hid (RX_5.out.below hb)
  have RT_6 : Hid (Own w6 (w5.heap.size) u6 n f) := ho
  clear hb HS_5 W_5 RX_5 HB5 ho
  go_wp2_with fail
  refine (eqInts_same _ _ _ _ _ f f _ RX_6.out.src RT_6.out.src hn).mono ?_
  rintro e w7 ⟨hv, hb⟩
  have HB7 : Hid (Below w.heap.size w w7) := thru0 HB6.out hb
  have z7 : w6.heap.size ≤ w7.heap.size := hb.size
  have HS_7 := Lib.hid (HS_6.out.below hb)
  have W_7 := Lib.hid (W_6.out.below hb)
  have RX_7 := Lib.hid (RX_6.out.below hb)
  have RT_7 := Lib.hid (RT_6.out.below hb)
  rw [eqB_yes (fun _ _ => rfl)] at hv
  subst hv
  clear hb HS_6 W_6 RX_6 RT_6 HB6
  go_wp2
  go_ret
  exact ⟨rfl, HB7.out⟩


set_option maxHeartbeats 400000 in
theorem e6_far (a : Option Addr) (n cap : Nat) (w : World) (hn : n ≤ maxLen) (h : 1048576 < n) : Calls Try.prog 6 #[.slice a n cap] w (RetBool w true) := by
  unfold maxLen at hn
  have h' : (1048576 : Int) < (n : Int) := by omega
  go_enter Try.func6, Try.ntmps6
  go_wp2
  go_ret
  exact ⟨rfl, Below.refl _ _⟩
theorem e6_any (a : Option Addr) (n cap : Nat) (f : Nat → Int) (w : World) (hs : Src w a n f) (hn : n ≤ maxLen) (hf : ∀ i, i < n → I64 (f i)) : Calls Try.prog 6 #[.slice a n cap] w (RetBool w true) := by
  by_cases h : n ≤ 1048576
  · exact e6_near a n cap f w hs h (fun i hi => (hf i hi).2)
  · exact e6_far a n cap w hn (by omega)

end Go.Proofs.Ytflhjbcpffhanaa
