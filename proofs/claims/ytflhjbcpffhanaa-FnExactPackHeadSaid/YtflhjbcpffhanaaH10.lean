/- The walk of FnExactPackHead. -/
import Derived.Test.YtflhjbcpffhanaaH9
namespace Go.Proofs.Ytflhjbcpffhanaa
open Go.RowKit
set_option linter.unusedVariables false


set_option maxHeartbeats 400000 in
theorem eqIR_same (co : Int) (a a' : Option Addr) (n c c' : Nat) (f g : Nat → Int) (w : World) (s1 : Src w a n f) (s2 : Src w a' n g) (hn : n ≤ 1048576) (he : ∀ i, i < n → f i = g i) :
    Calls Try.prog 31 #[.agg #[.int .i64 co, .slice a n c], .agg #[.int .i64 co, .slice a' n c']] w (RetBool w true) := by
  have S1 := Lib.hid s1
  have S2 := Lib.hid s2
  have HE := Lib.hid he
  clear s1 s2 he
  go_enter Try.func31, Try.ntmps31
  go_wp2_with (go_at_call 36; refine (eqInts_same _ _ _ _ _ f g _ ((S1.out.alloc _).alloc _) ((S2.out.alloc _).alloc _) hn).mono ?_; rw [eqB_yes HE.out]; rintro e w1 ⟨rfl, hb⟩; obtain ⟨hc, hf⟩ := bcell hb; have HB := Lib.hid hb; have hz := hb.size; clear hb)
  go_ret
  exact ⟨rfl, (((Below.refl _ _).alloc (Nat.le_refl _) _).alloc (by simp) _).trans (HB.out.mono (by simp; try omega))⟩

set_option maxHeartbeats 400000 in
theorem markIR_any (co : Int) (a : Option Addr) (n c lo hi : Nat) (f : Nat → Int) (k : Int) (w : World) (ho : OwnIn w lo hi a n f) (hn : n ≤ 1048576) (hk0 : 0 ≤ k) (hk1 : k ≤ 1048576) :
    Calls Try.prog 32 #[.agg #[.int .i64 co, .slice a n c], .int .i64 k] w (RetMark w lo hi a n k) := by
  have HO := Lib.hid ho
  clear ho
  go_enter Try.func32, Try.ntmps32
  go_wp2_with (go_at_call 52; (with_reducible refine (markInts_any _ _ _ _ _ _ _ _ (HO.out.alloc _) hn hk0 hk1).mono ?_); rintro e w1 ⟨rfl, ho1, hk⟩; have HO1 := Lib.hid ho1; have HK1 := Lib.hid hk; clear ho1 hk)
  go_ret
  exact ⟨rfl, HO1.out, (keeps_of_below ((Below.refl _ _).alloc (Nat.le_refl _) _) lo hi).trans HK1.out⟩

set_option maxHeartbeats 400000 in
theorem heldIR_any (co : Int) (a : Option Addr) (n c : Nat) (k : Int) (w : World) (hs : Src w a n (fun i => k + i)) (hn : n ≤ 1048576) (hk0 : 0 ≤ k) (hk1 : k ≤ 1048576) :
    Calls Try.prog 33 #[.agg #[.int .i64 co, .slice a n c], .int .i64 k] w (RetInt w (k + n)) := by
  have HS := Lib.hid hs
  clear hs
  go_enter Try.func33, Try.ntmps33
  go_wp2_with (go_at_call 53; (with_reducible refine (heldInts_any _ _ _ _ _ (HS.out.alloc _) hn hk0 hk1).mono ?_); rintro e w1 ⟨rfl, rfl⟩)
  go_ret
  exact ⟨rfl, (Below.refl _ _).alloc (Nat.le_refl _) _⟩

set_option maxHeartbeats 3200000 in
theorem e5_any (s m o h : Int) (w : World) :
    Calls Try.prog 5 #[.agg #[.int .i64 s, .int .i64 m, .int .i64 o, .int .i64 h]] w (RetBool w true) := by
  obtain ⟨co, n, f, hk⟩ := isPH_some s m o h
  have hn2 := isPH_small hk
  have hn : n ≤ 1048576 := by omega
  have HK := Lib.hid hk
  clear hk
  go_enter Try.func5, Try.ntmps5
  go_wp2_with fail
  refine (toHead_any s m o h _).mono ?_
  rintro e w1 ⟨rfl, hb⟩
  have HB1 : Hid (Below w.heap.size w w1) := thru1 (Below.refl _ _) hb
  have z1 : w.heap.size + 1 ≤ w1.heap.size := by have := hb.size; simp at this; omega
  have A_1 := Lib.hid ((Blk.new_at (w.heap.size) (by simp)).below hb)
  clear hb
  go_wp2_with fail
  refine (specPH_any s m o h co n f _ HK.out).mono ?_
  rintro e w2 ⟨u2, c2, rfl, ho, hb⟩
  have HB2 : Hid (Below w.heap.size w w2) := thru0 HB1.out hb
  have z2 : w1.heap.size ≤ w2.heap.size := hb.size
  have A_2 := Lib.hid (A_1.out.below hb)
  have RW_2 : Hid (OwnIn w2 (w1.heap.size) w2.heap.size u2 n f) := ho.into
  clear hb A_1 HB1 ho
  have lA := A_2.out.1
  have cA0 := A_2.out.at 0 rfl
  have cA1 := A_2.out.at 1 rfl
  have cA2 := A_2.out.at 2 rfl
  have cA3 := A_2.out.at 3 rfl
  go_wp2_with fail
  refine (toHead_any s m o h _).mono ?_
  rintro e w3 ⟨rfl, hb⟩
  have HB3 : Hid (Below w.heap.size w w3) := thru1 HB2.out hb
  have z3 : w2.heap.size + 1 ≤ w3.heap.size := by have := hb.size; simp at this; omega
  have A_3 := Lib.hid ((A_2.out.alloc _).below hb)
  have RW_3 := Lib.hid ((RW_2.out.alloc _).below hb)
  have W_3 := Lib.hid ((Blk.new_at (w2.heap.size) (by simp)).below hb)
  clear hb lA cA0 cA1 cA2 cA3 A_2 RW_2 HB2
  go_wp2_with fail
  refine (implPH_any s m o h co n f _ HK.out).mono ?_
  rintro e w4 ⟨u4, c4, rfl, ho, hb⟩
  have HB4 : Hid (Below w.heap.size w w4) := thru0 HB3.out hb
  have z4 : w3.heap.size ≤ w4.heap.size := hb.size
  have A_4 := Lib.hid (A_3.out.below hb)
  have RW_4 := Lib.hid (RW_3.out.below hb)
  have W_4 := Lib.hid (W_3.out.below hb)
  have RG_4 : Hid (OwnIn w4 (w3.heap.size) w4.heap.size u4 n f) := ho.into
  clear hb A_3 RW_3 W_3 HB3 ho
  have lW := W_4.out.1
  have cW0 := W_4.out.at 0 rfl
  have cW1 := W_4.out.at 1 rfl
  have lA := A_4.out.1
  have cA0 := A_4.out.at 0 rfl
  have cA1 := A_4.out.at 1 rfl
  have cA2 := A_4.out.at 2 rfl
  have cA3 := A_4.out.at 3 rfl
  go_wp2_with fail
  refine (eqIR_same _ _ _ _ _ _ f f _ (RG_4.out.alloc _).src (RW_4.out.alloc _).src hn (fun _ _ => rfl)).mono ?_
  rintro e w5 ⟨rfl, hb⟩
  have HB5 : Hid (Below w.heap.size w w5) := thru1 HB4.out hb
  have z5 : w4.heap.size + 1 ≤ w5.heap.size := by have := hb.size; simp at this; omega
  have A_5 := Lib.hid ((A_4.out.alloc _).below hb)
  have RW_5 := Lib.hid ((RW_4.out.alloc _).below hb)
  have W_5 := Lib.hid ((W_4.out.alloc _).below hb)
  have RG_5 := Lib.hid ((RG_4.out.alloc _).below hb)
  have G_5 := Lib.hid ((Blk.new_at (w4.heap.size) (by simp)).below hb)
  clear hb lW cW0 cW1 lA cA0 cA1 cA2 cA3 A_4 RW_4 W_4 RG_4 HB4
  have lG := G_5.out.1
  have cG0 := G_5.out.at 0 rfl
  have cG1 := G_5.out.at 1 rfl
  go_wp2_with fail
  refine (markIR_any _ _ _ _ _ _ _ _ _ RG_5.out hn (by omega) (by omega)).mono ?_
  rintro e w6 ⟨rfl, ho, hk⟩
  have HB6 : Hid (Below w.heap.size w w6) := HB5.out.trans (hk.below (by omega) HB5.out.size)
  have z6 : w5.heap.size ≤ w6.heap.size := hk.size
  have A_6 := Lib.hid (A_5.out.keeps hk (by omega))
  have RW_6 := Lib.hid (RW_5.out.keeps hk (by omega))
  have W_6 := Lib.hid (W_5.out.keeps hk (by omega))
  have G_6 := Lib.hid (G_5.out.keeps hk (by omega))
  have RG_6 : Hid (OwnIn w6 (w3.heap.size) w4.heap.size u4 n (fun i => 1 + i)) := ho
  clear hk lG cG0 cG1 A_5 RW_5 W_5 RG_5 G_5 HB5 ho
  have lG := G_6.out.1
  have cG0 := G_6.out.at 0 rfl
  have cG1 := G_6.out.at 1 rfl
  go_wp2_with fail
  refine (heldIR_any _ _ _ _ 1 _ RG_6.out.src hn (by omega) (by omega)).mono ?_
  rintro e w7 ⟨rfl, hb⟩
  have HB7 : Hid (Below w.heap.size w w7) := thru0 HB6.out hb
  have z7 : w6.heap.size ≤ w7.heap.size := hb.size
  have A_7 := Lib.hid (A_6.out.below hb)
  have RW_7 := Lib.hid (RW_6.out.below hb)
  have W_7 := Lib.hid (W_6.out.below hb)
  have G_7 := Lib.hid (G_6.out.below hb)
  have RG_7 := Lib.hid (RG_6.out.below hb)
  clear hb lG cG0 cG1 A_6 RW_6 W_6 G_6 RG_6 HB6
  have lA := A_7.out.1
  have cA0 := A_7.out.at 0 rfl
  have cA1 := A_7.out.at 1 rfl
  have cA2 := A_7.out.at 2 rfl
  have cA3 := A_7.out.at 3 rfl
  go_wp2_with fail
  refine (toHead_any s m o h _).mono ?_
  rintro e w8 ⟨rfl, hb⟩
  have HB8 : Hid (Below w.heap.size w w8) := thru0 HB7.out hb
  have z8 : w7.heap.size ≤ w8.heap.size := hb.size
  have A_8 := Lib.hid (A_7.out.below hb)
  have RW_8 := Lib.hid (RW_7.out.below hb)
  have W_8 := Lib.hid (W_7.out.below hb)
  have G_8 := Lib.hid (G_7.out.below hb)
  have RG_8 := Lib.hid (RG_7.out.below hb)
  clear hb lA cA0 cA1 cA2 cA3 A_7 RW_7 W_7 G_7 RG_7 HB7
  go_wp2_with fail
  refine (implPH_any s m o h co n f _ HK.out).mono ?_
  rintro e w9 ⟨u9, c9, rfl, ho, hb⟩
  have HB9 : Hid (Below w.heap.size w w9) := thru0 HB8.out hb
  have z9 : w8.heap.size ≤ w9.heap.size := hb.size
  have A_9 := Lib.hid (A_8.out.below hb)
  have RW_9 := Lib.hid (RW_8.out.below hb)
  have W_9 := Lib.hid (W_8.out.below hb)
  have G_9 := Lib.hid (G_8.out.below hb)
  have RG_9 := Lib.hid (RG_8.out.below hb)
  have RH_9 : Hid (OwnIn w9 (w8.heap.size) w9.heap.size u9 n f) := ho.into
  clear hb A_8 RW_8 W_8 G_8 RG_8 HB8 ho
  have lW := W_9.out.1
  have cW0 := W_9.out.at 0 rfl
  have cW1 := W_9.out.at 1 rfl
  have lG := G_9.out.1
  have cG0 := G_9.out.at 0 rfl
  have cG1 := G_9.out.at 1 rfl
  go_wp2_with fail
  refine (eqIR_same _ _ _ _ _ _ f f _ (RH_9.out.alloc _).src (RW_9.out.alloc _).src hn (fun _ _ => rfl)).mono ?_
  rintro e w10 ⟨rfl, hb⟩
  have HB10 : Hid (Below w.heap.size w w10) := thru1 HB9.out hb
  have z10 : w9.heap.size + 1 ≤ w10.heap.size := by have := hb.size; simp at this; omega
  have A_10 := Lib.hid ((A_9.out.alloc _).below hb)
  have RW_10 := Lib.hid ((RW_9.out.alloc _).below hb)
  have W_10 := Lib.hid ((W_9.out.alloc _).below hb)
  have G_10 := Lib.hid ((G_9.out.alloc _).below hb)
  have RG_10 := Lib.hid ((RG_9.out.alloc _).below hb)
  have RH_10 := Lib.hid ((RH_9.out.alloc _).below hb)
  clear hb lW cW0 cW1 lG cG0 cG1 A_9 RW_9 W_9 G_9 RG_9 RH_9 HB9
  have lG := G_10.out.1
  have cG0 := G_10.out.at 0 rfl
  have cG1 := G_10.out.at 1 rfl
  go_wp2_with fail
  refine (heldIR_any _ _ _ _ 1 _ RG_10.out.src hn (by omega) (by omega)).mono ?_
  rintro e w11 ⟨rfl, hb⟩
  have HB11 : Hid (Below w.heap.size w w11) := thru0 HB10.out hb
  have z11 : w10.heap.size ≤ w11.heap.size := hb.size
  have A_11 := Lib.hid (A_10.out.below hb)
  have RW_11 := Lib.hid (RW_10.out.below hb)
  have W_11 := Lib.hid (W_10.out.below hb)
  have G_11 := Lib.hid (G_10.out.below hb)
  have RG_11 := Lib.hid (RG_10.out.below hb)
  have RH_11 := Lib.hid (RH_10.out.below hb)
  clear hb lG cG0 cG1 A_10 RW_10 W_10 G_10 RG_10 RH_10 HB10
  go_wp2
  go_ret
  exact ⟨rfl, HB11.out⟩

end Go.Proofs.Ytflhjbcpffhanaa
