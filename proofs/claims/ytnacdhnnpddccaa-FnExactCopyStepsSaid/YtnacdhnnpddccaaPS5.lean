/- Texts merged: LCS to LCS. -/
import Derived.Test.YtnacdhnnpddccaaPS4
namespace Go.Proofs.Ytnacdhnnpddccaa
open Go.RowKit
set_option linter.unusedVariables false

set_option maxRecDepth 100000 in
set_option maxHeartbeats 800000 in
theorem e5_farA (h ac bu : Int) (a : Option Addr) (n c : Nat) (f : Nat → Int) (ra : Option Addr) (roots : List Int) (rc : Nat) (w : World) (hn : n ≤ maxLen) (hbig : 1048576 < n) (hrb : roots.length ≤ 1048576) :
    Calls Try.prog 5 #[.agg #[.int .i64 h, .slice a n c, .int .i64 ac, .int .i64 bu], .slice ra roots.length rc] w (RetBool w true) := by
  have hrd : ¬ (1048576 : Int) < (roots.length : Int) := by omega
  go_enter Try.func5, Try.ntmps5
  go_wp2_with (go_at_call 15; (with_reducible refine (szArena_no _ _ _ _ _ _ _ _ (by omega) (by omega) hn (by omega)).mono ?_); rintro e w1 ⟨rfl, hb⟩; obtain ⟨hc, hf⟩ := bcell hb; have HB := Lib.hid hb; have hz := hb.size; clear hb)
  go_ret
  exact ⟨rfl, ((Below.refl _ _).alloc (Nat.le_refl _) _).trans (HB.out.mono (by simp; try omega))⟩

set_option maxRecDepth 100000 in
set_option maxHeartbeats 400000 in
theorem e5_farR (h ac bu : Int) (a : Option Addr) (n c : Nat) (f : Nat → Int) (ra : Option Addr) (roots : List Int) (rc : Nat) (w : World) (hrb : 1048576 < roots.length) :
    Calls Try.prog 5 #[.agg #[.int .i64 h, .slice a n c, .int .i64 ac, .int .i64 bu], .slice ra roots.length rc] w (RetBool w true) := by
  have hrd : (1048576 : Int) < (roots.length : Int) := by omega
  go_enter Try.func5, Try.ntmps5
  go_wp2
  go_ret
  exact ⟨rfl, (Below.refl _ _).alloc (Nat.le_refl _) _⟩

set_option maxRecDepth 100000 in
set_option maxHeartbeats 6400000 in
theorem e5_near (h ac bu : Int) (a : Option Addr) (n c : Nat) (f : Nat → Int) (ra : Option Addr) (roots : List Int) (rc : Nat) (w : World) (hs : Src w a n f) (hq : Src w ra roots.length (lf roots)) (hbig : n ≤ 1048576) (hrb : roots.length ≤ 1048576) :
    Calls Try.prog 5 #[.agg #[.int .i64 h, .slice a n c, .int .i64 ac, .int .i64 bu], .slice ra roots.length rc] w (RetBool w true) := by
  obtain ⟨co, v1, hbo⟩ := both_cs h n f ac bu roots
  have HSP := Lib.hid hbo.1; have HIM := Lib.hid hbo.2
  have hrd : ¬ (1048576 : Int) < (roots.length : Int) := by omega
  clear hbo
  have HS := Lib.hid hs
  have HQ := Lib.hid hq
  clear hs hq
  have HS0 := HS; have HQ0 := HQ
  go_enter Try.func5, Try.ntmps5
  go_wp2_with fail
  refine (szArena_ok _ _ _ _ _ _ _ _ (by omega) (by omega) (by unfold maxLen; omega) (by omega)).mono ?_
  rintro e w1 ⟨rfl, hb⟩
  have HB1 : Hid (Below w.heap.size w w1) := thru1 (Below.refl _ _) hb
  have z1 : w.heap.size + 1 ≤ w1.heap.size := by have := hb.size; simp at this; omega
  have HS_1 := Lib.hid ((HS.out.alloc _).below hb)
  have HQ_1 := Lib.hid ((HQ.out.alloc _).below hb)
  have A_1 := Lib.hid ((Blk.new_at (w.heap.size) (by simp)).below hb)
  clear hb HS HQ
  have lA := A_1.out.1
  have cA0 := A_1.out.at 0 rfl
  have cA1 := A_1.out.at 1 rfl
  have cA2 := A_1.out.at 2 rfl
  have cA3 := A_1.out.at 3 rfl
  go_wp2_with fail
  refine (toArena_any _ _ _ _ _ _ f _ HS_1.out hbig).mono ?_
  rintro e w2 ⟨u2, c2, rfl, ho, hb, hc2, hcm2, hn2⟩
  have HB2 : Hid (Below w.heap.size w w2) := thru0 HB1.out hb
  have z2 : w1.heap.size ≤ w2.heap.size := hb.size
  have HS_2 := Lib.hid (HS_1.out.below hb)
  have HQ_2 := Lib.hid (HQ_1.out.below hb)
  have A_2 := Lib.hid (A_1.out.below hb)
  have RA_2 : Hid (OwnIn w2 (w1.heap.size) w2.heap.size u2 n f) := ho.into
  clear hb lA cA0 cA1 cA2 cA3 HS_1 HQ_1 A_1 HB1 ho
  go_wp2_with fail
  refine (toInts_any _ _ _ (lf roots) _ HQ_2.out hrb).mono ?_
  rintro e w3 ⟨u3, c3, rfl, ho, hb, hc3, hcm3, hn3⟩
  have HB3 : Hid (Below w.heap.size w w3) := thru0 HB2.out hb
  have z3 : w2.heap.size ≤ w3.heap.size := hb.size
  have HS_3 := Lib.hid (HS_2.out.below hb)
  have HQ_3 := Lib.hid (HQ_2.out.below hb)
  have A_3 := Lib.hid (A_2.out.below hb)
  have RA_3 := Lib.hid (RA_2.out.below hb)
  have QA_3 : Hid (OwnIn w3 (w2.heap.size) w3.heap.size u3 roots.length (lf roots)) := ho.into
  clear hb HS_2 HQ_2 A_2 RA_2 HB2 ho
  go_wp2_with fail
  refine (HSP.out _ _ _ _ _ RA_3.out.src hc2 hcm2 QA_3.out.src).mono ?_
  rintro e w4 ⟨rfl, hb⟩
  have HB4 : Hid (Below w.heap.size w w4) := thru0 HB3.out hb
  have z4 : w3.heap.size ≤ w4.heap.size := hb.size
  have HS_4 := Lib.hid (HS_3.out.below hb)
  have HQ_4 := Lib.hid (HQ_3.out.below hb)
  have A_4 := Lib.hid (A_3.out.below hb)
  have RA_4 := Lib.hid (RA_3.out.below hb)
  have QA_4 := Lib.hid (QA_3.out.below hb)
  clear hb HS_3 HQ_3 A_3 RA_3 QA_3 HB3
  clear RA_4 QA_4
  have lA := A_4.out.1
  have cA0 := A_4.out.at 0 rfl
  have cA1 := A_4.out.at 1 rfl
  have cA2 := A_4.out.at 2 rfl
  have cA3 := A_4.out.at 3 rfl
  go_wp2_with fail
  refine (toArena_any _ _ _ _ _ _ f _ (HS_4.out.alloc _) hbig).mono ?_
  rintro e w5 ⟨u5, c5, rfl, ho, hb, hc5, hcm5, hn5⟩
  have HB5 : Hid (Below w.heap.size w w5) := thru1 HB4.out hb
  have z5 : w4.heap.size + 1 ≤ w5.heap.size := by have := hb.size; simp at this; omega
  have HS_5 := Lib.hid ((HS_4.out.alloc _).below hb)
  have HQ_5 := Lib.hid ((HQ_4.out.alloc _).below hb)
  have A_5 := Lib.hid ((A_4.out.alloc _).below hb)
  have W_5 := Lib.hid ((Blk.new_at (w4.heap.size) (by simp)).below hb)
  have RX_5 : Hid (OwnIn w5 (w4.heap.size + 1) w5.heap.size u5 n f) := (ho.mono (by simp)).into
  clear hb lA cA0 cA1 cA2 cA3 HS_4 HQ_4 A_4 HB4 ho
  go_wp2_with fail
  refine (toInts_any _ _ _ (lf roots) _ (HQ_5.out.alloc _) hrb).mono ?_
  rintro e w6 ⟨u6, c6, rfl, ho, hb, hc6, hcm6, hn6⟩
  have HB6 : Hid (Below w.heap.size w w6) := thru1 HB5.out hb
  have z6 : w5.heap.size + 1 ≤ w6.heap.size := by have := hb.size; simp at this; omega
  have HS_6 := Lib.hid ((HS_5.out.alloc _).below hb)
  have HQ_6 := Lib.hid ((HQ_5.out.alloc _).below hb)
  have A_6 := Lib.hid ((A_5.out.alloc _).below hb)
  have W_6 := Lib.hid ((W_5.out.alloc _).below hb)
  have RX_6 := Lib.hid ((RX_5.out.alloc _).below hb)
  have X_6 := Lib.hid ((Blk.new_at (w5.heap.size) (by simp)).below hb)
  have RQ_6 : Hid (OwnIn w6 (w5.heap.size + 1) w6.heap.size u6 roots.length (lf roots)) := (ho.mono (by simp)).into
  clear hb HS_5 HQ_5 A_5 W_5 RX_5 HB5 ho
  have lX := X_6.out.1
  have cX0 := X_6.out.at 0 rfl
  have cX1 := X_6.out.at 1 rfl
  have cX2 := X_6.out.at 2 rfl
  have cX3 := X_6.out.at 3 rfl
  go_wp2_with fail
  refine (HIM.out _ _ _ _ _ RX_6.out.src hc5 hcm5 RQ_6.out.src).mono ?_
  rintro e w7 ⟨rfl, hb⟩
  have HB7 : Hid (Below w.heap.size w w7) := thru0 HB6.out hb
  have z7 : w6.heap.size ≤ w7.heap.size := hb.size
  have HS_7 := Lib.hid (HS_6.out.below hb)
  have HQ_7 := Lib.hid (HQ_6.out.below hb)
  have A_7 := Lib.hid (A_6.out.below hb)
  have W_7 := Lib.hid (W_6.out.below hb)
  have RX_7 := Lib.hid (RX_6.out.below hb)
  have X_7 := Lib.hid (X_6.out.below hb)
  have RQ_7 := Lib.hid (RQ_6.out.below hb)
  clear hb lX cX0 cX1 cX2 cX3 HS_6 HQ_6 A_6 W_6 RX_6 X_6 RQ_6 HB6
  have lW := W_7.out.1
  have cW0 := W_7.out.at 0 rfl
  have cW1 := W_7.out.at 1 rfl
  go_wp2_with fail
  refine (eqIntResult_same _ _ _).mono ?_
  rintro e w8 ⟨rfl, hb⟩
  have HB8 : Hid (Below w.heap.size w w8) := thru1 HB7.out hb
  have z8 : w7.heap.size + 1 ≤ w8.heap.size := by have := hb.size; simp at this; omega
  have HS_8 := Lib.hid ((HS_7.out.alloc _).below hb)
  have HQ_8 := Lib.hid ((HQ_7.out.alloc _).below hb)
  have A_8 := Lib.hid ((A_7.out.alloc _).below hb)
  have W_8 := Lib.hid ((W_7.out.alloc _).below hb)
  have RX_8 := Lib.hid ((RX_7.out.alloc _).below hb)
  have X_8 := Lib.hid ((X_7.out.alloc _).below hb)
  have RQ_8 := Lib.hid ((RQ_7.out.alloc _).below hb)
  have G_8 := Lib.hid ((Blk.new_at (w7.heap.size) (by simp)).below hb)
  clear hb lW cW0 cW1 HS_7 HQ_7 A_7 W_7 RX_7 X_7 RQ_7 HB7
  have lA := A_8.out.1
  have cA0 := A_8.out.at 0 rfl
  have cA1 := A_8.out.at 1 rfl
  have cA2 := A_8.out.at 2 rfl
  have cA3 := A_8.out.at 3 rfl
  have lX := X_8.out.1
  have cX0 := X_8.out.at 0 rfl
  have cX1 := X_8.out.at 1 rfl
  have cX2 := X_8.out.at 2 rfl
  have cX3 := X_8.out.at 3 rfl
  go_wp2_with fail
  have HS_8d := Lib.hid HS_8.out.drew
  have HQ_8d := Lib.hid HQ_8.out.drew
  have A_8d := Lib.hid A_8.out.drew
  have W_8d := Lib.hid W_8.out.drew
  have RX_8d := Lib.hid RX_8.out.drew
  have X_8d := Lib.hid X_8.out.drew
  have RQ_8d := Lib.hid RQ_8.out.drew
  have G_8d := Lib.hid G_8.out.drew
  have HB8d := Lib.hid HB8.out.drew
  go_region_held3 (fun w' => w'.cell? ⟨w.heap.size, 0, none⟩ = some (.int .i64 h) ∧ w'.cell? ⟨w.heap.size, 1, none⟩ = some (.slice a n c) ∧ w'.cell? ⟨w.heap.size, 2, none⟩ = some (.int .i64 ac) ∧ w'.cell? ⟨w.heap.size, 3, none⟩ = some (.int .i64 bu) ∧ w'.cell? ⟨w5.heap.size, 0, none⟩ = some (.int .i64 h) ∧ w'.cell? ⟨w5.heap.size, 1, none⟩ = some (.slice u5 n c5) ∧ w'.cell? ⟨w5.heap.size, 2, none⟩ = some (.int .i64 ac) ∧ w'.cell? ⟨w5.heap.size, 3, none⟩ = some (.int .i64 bu))
    (first | exact ⟨A_8d.out.at 0 rfl, A_8d.out.at 1 rfl, A_8d.out.at 2 rfl, A_8d.out.at 3 rfl, X_8d.out.at 0 rfl, X_8d.out.at 1 rfl, X_8d.out.at 2 rfl, X_8d.out.at 3 rfl⟩ | exact ⟨A_9.out.at 0 rfl, A_9.out.at 1 rfl, A_9.out.at 2 rfl, A_9.out.at 3 rfl, X_9.out.at 0 rfl, X_9.out.at 1 rfl, X_9.out.at 2 rfl, X_9.out.at 3 rfl⟩ | exact ⟨A_10.out.at 0 rfl, A_10.out.at 1 rfl, A_10.out.at 2 rfl, A_10.out.at 3 rfl, X_10.out.at 0 rfl, X_10.out.at 1 rfl, X_10.out.at 2 rfl, X_10.out.at 3 rfl⟩)
    (first | (go_at_call 17; refine (toArena_any _ _ _ _ _ _ f _ HS_8d.out hbig).mono ?_; rintro e w9 ⟨u9, c9, rfl, ho, hb, hc9, hcm9, hn9⟩; have HB9 := Lib.hid (thru0 HB8d.out hb); have z9 : w8.heap.size ≤ w9.heap.size := hb.size; have HS_9 := Lib.hid (HS_8d.out.below hb); have HQ_9 := Lib.hid (HQ_8d.out.below hb); have A_9 := Lib.hid (A_8d.out.below hb); have W_9 := Lib.hid (W_8d.out.below hb); have RX_9 := Lib.hid (RX_8d.out.below hb); have X_9 := Lib.hid (X_8d.out.below hb); have RQ_9 := Lib.hid (RQ_8d.out.below hb); have G_9 := Lib.hid (G_8d.out.below hb); have RT_9 : Hid (OwnIn w9 w8.heap.size w9.heap.size u9 n f) := ho.into; clear hb ho) | (go_at_call 20; refine (eqArena_same _ _ _ _ _ _ _ _ f f _ RX_9.out.src RT_9.out.src hbig (fun _ _ => rfl)).mono ?_; rintro e w10 ⟨rfl, hb⟩; have HB10 := Lib.hid (thru0 HB9.out hb); have z10 : w9.heap.size ≤ w10.heap.size := hb.size; have HS_10 := Lib.hid (HS_9.out.below hb); have HQ_10 := Lib.hid (HQ_9.out.below hb); have A_10 := Lib.hid (A_9.out.below hb); have W_10 := Lib.hid (W_9.out.below hb); have RX_10 := Lib.hid (RX_9.out.below hb); have X_10 := Lib.hid (X_9.out.below hb); have RQ_10 := Lib.hid (RQ_9.out.below hb); have G_10 := Lib.hid (G_9.out.below hb); have RT_10 := Lib.hid (RT_9.out.below hb); clear hb))

  go_wp2_with fail
  refine (toInts_any _ _ _ (lf roots) _ HQ_10.out hrb).mono ?_
  rintro e w11 ⟨u11, c11, rfl, ho, hb, hc11, hcm11, hn11⟩
  have HB11 : Hid (Below w.heap.size w w11) := thru0 HB10.out hb
  have z11 : w10.heap.size ≤ w11.heap.size := hb.size
  have HS_11 := Lib.hid (HS_10.out.below hb)
  have HQ_11 := Lib.hid (HQ_10.out.below hb)
  have A_11 := Lib.hid (A_10.out.below hb)
  have W_11 := Lib.hid (W_10.out.below hb)
  have RX_11 := Lib.hid (RX_10.out.below hb)
  have X_11 := Lib.hid (X_10.out.below hb)
  have RQ_11 := Lib.hid (RQ_10.out.below hb)
  have G_11 := Lib.hid (G_10.out.below hb)
  have QT_11 : Hid (OwnIn w11 (w10.heap.size) w11.heap.size u11 roots.length (lf roots)) := ho.into
  clear hb HS_10 HQ_10 A_10 W_10 RX_10 X_10 RQ_10 G_10 HB10 ho
  go_wp2_with fail
  refine (eqInts_same _ _ _ _ _ (lf roots) (lf roots) _ RQ_11.out.src QT_11.out.src hrb).mono ?_
  rintro e w12 ⟨hret, hb⟩
  have HB12 : Hid (Below w.heap.size w w12) := thru0 HB11.out hb
  have z12 : w11.heap.size ≤ w12.heap.size := hb.size
  have HS_12 := Lib.hid (HS_11.out.below hb)
  have HQ_12 := Lib.hid (HQ_11.out.below hb)
  have A_12 := Lib.hid (A_11.out.below hb)
  have W_12 := Lib.hid (W_11.out.below hb)
  have RX_12 := Lib.hid (RX_11.out.below hb)
  have X_12 := Lib.hid (X_11.out.below hb)
  have RQ_12 := Lib.hid (RQ_11.out.below hb)
  have G_12 := Lib.hid (G_11.out.below hb)
  have QT_12 := Lib.hid (QT_11.out.below hb)
  rw [eqB_yes (fun _ _ => rfl)] at hret
  subst hret
  clear hb HS_11 HQ_11 A_11 W_11 RX_11 X_11 RQ_11 G_11 QT_11 HB11
  clear QT_12
  go_wp2
  go_ret
  exact ⟨rfl, HB12.out⟩

theorem e5_any (h ac bu : Int) (a : Option Addr) (n c : Nat) (f : Nat → Int) (ra : Option Addr) (rn rc : Nat) (rf : Nat → Int) (w : World) (hs : Src w a n f) (hn : n ≤ maxLen) (hq : Src w ra rn rf) (hqn : rn ≤ maxLen) : Calls Try.prog 5 #[.agg #[.int .i64 h, .slice a n c, .int .i64 ac, .int .i64 bu], .slice ra rn rc] w (RetBool w true) := by
  obtain ⟨roots, rfl, hq'⟩ := src_list hq
  by_cases hr : roots.length ≤ 1048576
  · by_cases hb : n ≤ 1048576
    · exact e5_near h ac bu a n c f ra roots rc w hs hq' hb hr
    · exact e5_farA h ac bu a n c f ra roots rc w hn (by omega) hr
  · exact e5_farR h ac bu a n c f ra roots rc w (by omega)
end Go.Proofs.Ytnacdhnnpddccaa

