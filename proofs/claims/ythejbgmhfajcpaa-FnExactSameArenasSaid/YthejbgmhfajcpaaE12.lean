/- The walk of FnExactSameArenas. -/
import Derived.Test.YthejbgmhfajcpaaA17
namespace Go.Proofs.Ythejbgmhfajcpaa
open Go.RowKit
set_option linter.unusedVariables false

set_option maxHeartbeats 400000 in
theorem e12_far1 (h ac bu : Int) (a : Option Addr) (n c : Nat) (h' ac' bu' : Int) (b : Option Addr) (n' c' : Nat) (w : World) (hn : n ≤ maxLen) (hbig : 1048576 < n) :
    Calls Try.prog 12 #[.agg #[.int .i64 h, .slice a n c, .int .i64 ac, .int .i64 bu], .agg #[.int .i64 h', .slice b n' c', .int .i64 ac', .int .i64 bu']] w (RetBool w true) := by
  go_enter Try.func12, Try.ntmps12
  go_wp2_with fail
  refine (szArena_no _ _ _ _ _ _ _ _ (by omega) (by omega) hn (by omega)).mono ?_
  rintro e w1 ⟨rfl, hb⟩
  have HB := Lib.hid (thru2 (Below.refl _ _) hb)
  clear hb
  go_wp2
  go_ret
  exact ⟨rfl, HB.out⟩
set_option maxHeartbeats 400000 in
theorem e12_far2 (h ac bu : Int) (a : Option Addr) (n c : Nat) (h' ac' bu' : Int) (b : Option Addr) (n' c' : Nat) (w : World) (hn' : n' ≤ maxLen) (hle : n ≤ 1048576) (hbig : 1048576 < n + n') :
    Calls Try.prog 12 #[.agg #[.int .i64 h, .slice a n c, .int .i64 ac, .int .i64 bu], .agg #[.int .i64 h', .slice b n' c', .int .i64 ac', .int .i64 bu']] w (RetBool w true) := by
  go_enter Try.func12, Try.ntmps12
  go_wp2_with fail
  refine (szArena_ok _ _ _ _ _ _ _ _ (by omega) (by omega) (by unfold maxLen; omega) (by omega)).mono ?_
  rintro e w1 ⟨rfl, hb⟩
  have HB := Lib.hid (thru2 (Below.refl _ _) hb)
  have hB := Lib.hid ((Blk.new_at (w.heap.size + 1) (by simp)).below hb)
  have cb0 := hB.out.at 0 rfl; have cb1 := hB.out.at 1 rfl; have cb2 := hB.out.at 2 rfl; have cb3 := hB.out.at 3 rfl
  clear hb
  go_wp2_with fail
  refine (szArena_no _ _ _ _ _ _ _ _ (by omega) (by omega) hn' (by omega)).mono ?_
  rintro e w2 ⟨rfl, hb⟩
  have HB2 := Lib.hid (thru0 HB.out hb)
  clear hb cb0 cb1 cb2 cb3 hB
  go_wp2
  go_ret
  exact ⟨rfl, HB2.out⟩

set_option maxHeartbeats 3200000 in
theorem e12_near (h ac bu : Int) (a : Option Addr) (n c : Nat) (f : Nat → Int) (h' ac' bu' : Int) (b : Option Addr) (n' c' : Nat) (g : Nat → Int) (w : World) (s1 : Src w a n f) (s2 : Src w b n' g) (hnn : n + n' ≤ 1048576) :
    Calls Try.prog 12 #[.agg #[.int .i64 h, .slice a n c, .int .i64 ac, .int .i64 bu], .agg #[.int .i64 h', .slice b n' c', .int .i64 ac', .int .i64 bu']] w (RetBool w true) := by
  have hbig : n ≤ 1048576 := by omega
  have hbig' : n' ≤ 1048576 := by omega
  have SA := Lib.hid s1
  have SB := Lib.hid s2
  clear s1 s2
  go_enter Try.func12, Try.ntmps12
  go_wp2_with fail
  refine (szArena_ok _ _ _ _ _ _ _ _ (by omega) (by omega) (by unfold maxLen; omega) (by omega)).mono ?_
  rintro e w1 ⟨rfl, hb⟩
  have HB1 : Hid (Below w.heap.size w w1) := thru2 (Below.refl _ _) hb
  have z1 : w.heap.size + 2 ≤ w1.heap.size := by have := hb.size; simp at this; omega
  have SA_1 := Lib.hid (((SA.out.alloc _).alloc _).below hb)
  have SB_1 := Lib.hid (((SB.out.alloc _).alloc _).below hb)
  have A_1 := Lib.hid (((Blk.new_at (w.heap.size) (by simp)).alloc _).below hb)
  have B_1 := Lib.hid ((Blk.new_at (w.heap.size + 1) (by simp)).below hb)
  clear hb SA SB
  have lB := B_1.out.1
  have cB0 := B_1.out.at 0 rfl
  have cB1 := B_1.out.at 1 rfl
  have cB2 := B_1.out.at 2 rfl
  have cB3 := B_1.out.at 3 rfl
  go_wp2_with fail
  refine (szArena_ok _ _ _ _ _ _ _ _ (by omega) (by omega) (by unfold maxLen; omega) (by omega)).mono ?_
  rintro e w2 ⟨rfl, hb⟩
  have HB2 : Hid (Below w.heap.size w w2) := thru0 HB1.out hb
  have z2 : w1.heap.size ≤ w2.heap.size := hb.size
  have SA_2 := Lib.hid (SA_1.out.below hb)
  have SB_2 := Lib.hid (SB_1.out.below hb)
  have A_2 := Lib.hid (A_1.out.below hb)
  have B_2 := Lib.hid (B_1.out.below hb)
  clear hb lB cB0 cB1 cB2 cB3 SA_1 SB_1 A_1 B_1 HB1
  go_wp2_with fail
  have SA_d := Lib.hid SA_2.out.drew
  have SB_d := Lib.hid SB_2.out.drew
  have A_d := Lib.hid A_2.out.drew
  have B_d := Lib.hid B_2.out.drew
  have HB_d := Lib.hid HB2.out.drew
  go_region_held3 (fun w' => w'.cell? ⟨w.heap.size, 0, none⟩ = some (.int .i64 h) ∧ w'.cell? ⟨w.heap.size, 1, none⟩ = some (.slice a n c) ∧ w'.cell? ⟨w.heap.size, 2, none⟩ = some (.int .i64 ac) ∧ w'.cell? ⟨w.heap.size, 3, none⟩ = some (.int .i64 bu) ∧ w'.cell? ⟨w.heap.size + 1, 0, none⟩ = some (.int .i64 h') ∧ w'.cell? ⟨w.heap.size + 1, 1, none⟩ = some (.slice b n' c') ∧ w'.cell? ⟨w.heap.size + 1, 2, none⟩ = some (.int .i64 ac') ∧ w'.cell? ⟨w.heap.size + 1, 3, none⟩ = some (.int .i64 bu'))
    (first | with_reducible exact ⟨A_d.out.at 0 rfl, A_d.out.at 1 rfl, A_d.out.at 2 rfl, A_d.out.at 3 rfl, B_d.out.at 0 rfl, B_d.out.at 1 rfl, B_d.out.at 2 rfl, B_d.out.at 3 rfl⟩ | with_reducible exact ⟨A_3.out.at 0 rfl, A_3.out.at 1 rfl, A_3.out.at 2 rfl, A_3.out.at 3 rfl, B_3.out.at 0 rfl, B_3.out.at 1 rfl, B_3.out.at 2 rfl, B_3.out.at 3 rfl⟩ | with_reducible exact ⟨A_4.out.at 0 rfl, A_4.out.at 1 rfl, A_4.out.at 2 rfl, A_4.out.at 3 rfl, B_4.out.at 0 rfl, B_4.out.at 1 rfl, B_4.out.at 2 rfl, B_4.out.at 3 rfl⟩ | with_reducible exact ⟨A_5.out.at 0 rfl, A_5.out.at 1 rfl, A_5.out.at 2 rfl, A_5.out.at 3 rfl, B_5.out.at 0 rfl, B_5.out.at 1 rfl, B_5.out.at 2 rfl, B_5.out.at 3 rfl⟩)
    (first | (go_at_call 37; (with_reducible refine (toArena_any _ _ _ _ _ _ f _ SA_d.out hbig).mono ?_); rintro e w3 ⟨u3, c3, rfl, ho, hb, hc3, hcm3, hn3⟩; have HB3 := Lib.hid (thru0 HB_d.out hb); have SA_3 := Lib.hid (SA_d.out.below hb); have SB_3 := Lib.hid (SB_d.out.below hb); have A_3 := Lib.hid (A_d.out.below hb); have B_3 := Lib.hid (B_d.out.below hb); have U_3 : Hid (Src w3 u3 n f) := ho.src; clear hb ho hn3) | (go_at_call 37; (with_reducible refine (toArena_any _ _ _ _ _ _ g _ SB_3.out hbig').mono ?_); rintro e w4 ⟨u4, c4, rfl, ho, hb, hc4, hcm4, hn4⟩; have HB4 := Lib.hid (thru0 HB3.out hb); have SA_4 := Lib.hid (SA_3.out.below hb); have SB_4 := Lib.hid (SB_3.out.below hb); have A_4 := Lib.hid (A_3.out.below hb); have B_4 := Lib.hid (B_3.out.below hb); have U_4 := Lib.hid (U_3.out.below hb); have V_4 : Hid (Src w4 u4 n' g) := ho.src; clear hb ho hn4) | (go_at_call 25; (refine (specSame_any _ _ _ _ _ _ _ _ _ _ _ _ f g _ U_4.out V_4.out hbig hbig').mono ?_); rintro e w5 ⟨rfl, hb⟩; have HB5 := Lib.hid (thru0 HB4.out hb); have SA_5 := Lib.hid (SA_4.out.below hb); have SB_5 := Lib.hid (SB_4.out.below hb); have A_5 := Lib.hid (A_4.out.below hb); have B_5 := Lib.hid (B_4.out.below hb); clear hb))
  obtain ⟨R, hR⟩ : ∃ R : Bool, eqA h n f ac bu h' n' g ac' bu' = R := ⟨_, rfl⟩
  have HR := Lib.hid hR
  rw [hR]
  clear hR
  have z5 : w.heap.size + 2 ≤ w5.heap.size := by have := B_5.out.1; omega
  have lA := A_5.out.1
  have cA0 := A_5.out.at 0 rfl
  have cA1 := A_5.out.at 1 rfl
  have cA2 := A_5.out.at 2 rfl
  have cA3 := A_5.out.at 3 rfl
  have lB := B_5.out.1
  have cB0 := B_5.out.at 0 rfl
  have cB1 := B_5.out.at 1 rfl
  have cB2 := B_5.out.at 2 rfl
  have cB3 := B_5.out.at 3 rfl
  go_wp2_with fail
  refine (toArena_any _ _ _ _ _ _ f _ SA_5.out hbig).mono ?_
  rintro e w6 ⟨u6, c6, rfl, ho, hb, hc6, hcm6, hn6⟩
  have HB6 : Hid (Below w.heap.size w w6) := thru0 HB5.out hb
  have z6 : w5.heap.size ≤ w6.heap.size := hb.size
  have SA_6 := Lib.hid (SA_5.out.below hb)
  have SB_6 := Lib.hid (SB_5.out.below hb)
  have A_6 := Lib.hid (A_5.out.below hb)
  have B_6 := Lib.hid (B_5.out.below hb)
  have RX_6 : Hid (OwnIn w6 (w5.heap.size) w6.heap.size u6 n f) := ho.into
  clear hb lA cA0 cA1 cA2 cA3 lB cB0 cB1 cB2 cB3 SA_5 SB_5 A_5 B_5 HB5 ho
  have lB := B_6.out.1
  have cB0 := B_6.out.at 0 rfl
  have cB1 := B_6.out.at 1 rfl
  have cB2 := B_6.out.at 2 rfl
  have cB3 := B_6.out.at 3 rfl
  go_wp2_with fail
  refine (toArena_any _ _ _ _ _ _ g _ (SB_6.out.alloc _) hbig').mono ?_
  rintro e w7 ⟨u7, c7, rfl, ho, hb, hc7, hcm7, hn7⟩
  have HB7 : Hid (Below w.heap.size w w7) := thru1 HB6.out hb
  have z7 : w6.heap.size + 1 ≤ w7.heap.size := by have := hb.size; simp at this; omega
  have SA_7 := Lib.hid ((SA_6.out.alloc _).below hb)
  have SB_7 := Lib.hid ((SB_6.out.alloc _).below hb)
  have A_7 := Lib.hid ((A_6.out.alloc _).below hb)
  have B_7 := Lib.hid ((B_6.out.alloc _).below hb)
  have RX_7 := Lib.hid ((RX_6.out.alloc _).below hb)
  have X_7 := Lib.hid ((Blk.new_at (w6.heap.size) (by simp)).below hb)
  have RY_7 : Hid (OwnIn w7 (w6.heap.size + 1) w7.heap.size u7 n' g) := (ho.mono (by simp)).into
  clear hb lB cB0 cB1 cB2 cB3 SA_6 SB_6 A_6 B_6 RX_6 HB6 ho
  have lX := X_7.out.1
  have cX0 := X_7.out.at 0 rfl
  have cX1 := X_7.out.at 1 rfl
  have cX2 := X_7.out.at 2 rfl
  have cX3 := X_7.out.at 3 rfl
  go_wp2_with fail
  refine (implSame_any _ _ _ _ _ _ _ _ _ _ _ _ f g _ (RX_7.out.alloc _).src (RY_7.out.alloc _).src hbig hbig').mono ?_
  rintro e w8 ⟨rfl, hb⟩
  have HB8 : Hid (Below w.heap.size w w8) := thru1 HB7.out hb
  have z8 : w7.heap.size + 1 ≤ w8.heap.size := by have := hb.size; simp at this; omega
  have SA_8 := Lib.hid ((SA_7.out.alloc _).below hb)
  have SB_8 := Lib.hid ((SB_7.out.alloc _).below hb)
  have A_8 := Lib.hid ((A_7.out.alloc _).below hb)
  have B_8 := Lib.hid ((B_7.out.alloc _).below hb)
  have RX_8 := Lib.hid ((RX_7.out.alloc _).below hb)
  have X_8 := Lib.hid ((X_7.out.alloc _).below hb)
  have RY_8 := Lib.hid ((RY_7.out.alloc _).below hb)
  have Y_8 := Lib.hid ((Blk.new_at (w7.heap.size) (by simp)).below hb)
  clear hb lX cX0 cX1 cX2 cX3 SA_7 SB_7 A_7 B_7 RX_7 X_7 RY_7 HB7
  rw [HR.out]
  have lA := A_8.out.1
  have cA0 := A_8.out.at 0 rfl
  have cA1 := A_8.out.at 1 rfl
  have cA2 := A_8.out.at 2 rfl
  have cA3 := A_8.out.at 3 rfl
  have lX := X_8.out.1
  have cX0 := X_8.out.at 0 rfl
  have cX1 := X_8.out.at 1 rfl
  have cX2 := X_8.out.at 2 rfl
  have cX3 := X_8.out.at 3 rfl
  go_wp2_with fail
  have SA_8d := Lib.hid SA_8.out.drew
  have SB_8d := Lib.hid SB_8.out.drew
  have A_8d := Lib.hid A_8.out.drew
  have B_8d := Lib.hid B_8.out.drew
  have RX_8d := Lib.hid RX_8.out.drew
  have X_8d := Lib.hid X_8.out.drew
  have RY_8d := Lib.hid RY_8.out.drew
  have Y_8d := Lib.hid Y_8.out.drew
  have HB8d := Lib.hid HB8.out.drew
  go_region_held3 (fun w' => w'.cell? ⟨w.heap.size, 0, none⟩ = some (.int .i64 h) ∧ w'.cell? ⟨w.heap.size, 1, none⟩ = some (.slice a n c) ∧ w'.cell? ⟨w.heap.size, 2, none⟩ = some (.int .i64 ac) ∧ w'.cell? ⟨w.heap.size, 3, none⟩ = some (.int .i64 bu) ∧ w'.cell? ⟨w6.heap.size, 0, none⟩ = some (.int .i64 h) ∧ w'.cell? ⟨w6.heap.size, 1, none⟩ = some (.slice u6 n c6) ∧ w'.cell? ⟨w6.heap.size, 2, none⟩ = some (.int .i64 ac) ∧ w'.cell? ⟨w6.heap.size, 3, none⟩ = some (.int .i64 bu))
    (first | exact ⟨A_8d.out.at 0 rfl, A_8d.out.at 1 rfl, A_8d.out.at 2 rfl, A_8d.out.at 3 rfl, X_8d.out.at 0 rfl, X_8d.out.at 1 rfl, X_8d.out.at 2 rfl, X_8d.out.at 3 rfl⟩ | exact ⟨A_9.out.at 0 rfl, A_9.out.at 1 rfl, A_9.out.at 2 rfl, A_9.out.at 3 rfl, X_9.out.at 0 rfl, X_9.out.at 1 rfl, X_9.out.at 2 rfl, X_9.out.at 3 rfl⟩ | exact ⟨A_10.out.at 0 rfl, A_10.out.at 1 rfl, A_10.out.at 2 rfl, A_10.out.at 3 rfl, X_10.out.at 0 rfl, X_10.out.at 1 rfl, X_10.out.at 2 rfl, X_10.out.at 3 rfl⟩)
    (first | (go_at_call 37; refine (toArena_any _ _ _ _ _ _ f _ SA_8d.out hbig).mono ?_; rintro e w9 ⟨u9, c9, rfl, ho, hb, hc9, hcm9, hn9⟩; have HB9 := Lib.hid (thru0 HB8d.out hb); have z9 : w8.heap.size ≤ w9.heap.size := hb.size; have SA_9 := Lib.hid (SA_8d.out.below hb); have SB_9 := Lib.hid (SB_8d.out.below hb); have A_9 := Lib.hid (A_8d.out.below hb); have B_9 := Lib.hid (B_8d.out.below hb); have RX_9 := Lib.hid (RX_8d.out.below hb); have X_9 := Lib.hid (X_8d.out.below hb); have RY_9 := Lib.hid (RY_8d.out.below hb); have Y_9 := Lib.hid (Y_8d.out.below hb); have RT_9 : Hid (OwnIn w9 w8.heap.size w9.heap.size u9 n f) := ho.into; clear hb ho) | (go_at_call 38; refine (eqArena_same _ _ _ _ _ _ _ _ f f _ RX_9.out.src RT_9.out.src hbig (fun _ _ => rfl)).mono ?_; rintro e w10 ⟨rfl, hb⟩; have HB10 := Lib.hid (thru0 HB9.out hb); have z10 : w9.heap.size ≤ w10.heap.size := hb.size; have SA_10 := Lib.hid (SA_9.out.below hb); have SB_10 := Lib.hid (SB_9.out.below hb); have A_10 := Lib.hid (A_9.out.below hb); have B_10 := Lib.hid (B_9.out.below hb); have RX_10 := Lib.hid (RX_9.out.below hb); have X_10 := Lib.hid (X_9.out.below hb); have RY_10 := Lib.hid (RY_9.out.below hb); have Y_10 := Lib.hid (Y_9.out.below hb); have RT_10 := Lib.hid (RT_9.out.below hb); clear hb))

  have SB_k := Lib.hid SB_10.out
  have lB := B_10.out.1
  have cB0 := B_10.out.at 0 rfl
  have cB1 := B_10.out.at 1 rfl
  have cB2 := B_10.out.at 2 rfl
  have cB3 := B_10.out.at 3 rfl
  have lY := Y_10.out.1
  have cY0 := Y_10.out.at 0 rfl
  have cY1 := Y_10.out.at 1 rfl
  have cY2 := Y_10.out.at 2 rfl
  have cY3 := Y_10.out.at 3 rfl
  go_wp2_with fail
  have SA_10d := Lib.hid SA_10.out.drew
  have SB_10d := Lib.hid SB_10.out.drew
  have A_10d := Lib.hid A_10.out.drew
  have B_10d := Lib.hid B_10.out.drew
  have RX_10d := Lib.hid RX_10.out.drew
  have X_10d := Lib.hid X_10.out.drew
  have RY_10d := Lib.hid RY_10.out.drew
  have Y_10d := Lib.hid Y_10.out.drew
  have HB10d := Lib.hid HB10.out.drew
  go_region_held3 (fun w' => w'.cell? ⟨w.heap.size + 1, 0, none⟩ = some (.int .i64 h') ∧ w'.cell? ⟨w.heap.size + 1, 1, none⟩ = some (.slice b n' c') ∧ w'.cell? ⟨w.heap.size + 1, 2, none⟩ = some (.int .i64 ac') ∧ w'.cell? ⟨w.heap.size + 1, 3, none⟩ = some (.int .i64 bu') ∧ w'.cell? ⟨w7.heap.size, 0, none⟩ = some (.int .i64 h') ∧ w'.cell? ⟨w7.heap.size, 1, none⟩ = some (.slice u7 n' c7) ∧ w'.cell? ⟨w7.heap.size, 2, none⟩ = some (.int .i64 ac') ∧ w'.cell? ⟨w7.heap.size, 3, none⟩ = some (.int .i64 bu'))
    (first | exact ⟨B_10d.out.at 0 rfl, B_10d.out.at 1 rfl, B_10d.out.at 2 rfl, B_10d.out.at 3 rfl, Y_10d.out.at 0 rfl, Y_10d.out.at 1 rfl, Y_10d.out.at 2 rfl, Y_10d.out.at 3 rfl⟩ | exact ⟨B_11.out.at 0 rfl, B_11.out.at 1 rfl, B_11.out.at 2 rfl, B_11.out.at 3 rfl, Y_11.out.at 0 rfl, Y_11.out.at 1 rfl, Y_11.out.at 2 rfl, Y_11.out.at 3 rfl⟩ | exact ⟨B_12.out.at 0 rfl, B_12.out.at 1 rfl, B_12.out.at 2 rfl, B_12.out.at 3 rfl, Y_12.out.at 0 rfl, Y_12.out.at 1 rfl, Y_12.out.at 2 rfl, Y_12.out.at 3 rfl⟩)
    (first | (go_at_call 37; refine (toArena_any _ _ _ _ _ _ g _ SB_10d.out hbig').mono ?_; rintro e w11 ⟨u11, c11, rfl, ho, hb, hc11, hcm11, hn11⟩; have HB11 := Lib.hid (thru0 HB10d.out hb); have z11 : w10.heap.size ≤ w11.heap.size := hb.size; have SA_11 := Lib.hid (SA_10d.out.below hb); have SB_11 := Lib.hid (SB_10d.out.below hb); have A_11 := Lib.hid (A_10d.out.below hb); have B_11 := Lib.hid (B_10d.out.below hb); have RX_11 := Lib.hid (RX_10d.out.below hb); have X_11 := Lib.hid (X_10d.out.below hb); have RY_11 := Lib.hid (RY_10d.out.below hb); have Y_11 := Lib.hid (Y_10d.out.below hb); have RT_11 : Hid (OwnIn w11 w10.heap.size w11.heap.size u11 n' g) := ho.into; clear hb ho) | (go_at_call 38; refine (eqArena_same _ _ _ _ _ _ _ _ g g _ RY_11.out.src RT_11.out.src hbig' (fun _ _ => rfl)).mono ?_; rintro e w12 ⟨rfl, hb⟩; have HB12 := Lib.hid (thru0 HB11.out hb); have z12 : w11.heap.size ≤ w12.heap.size := hb.size; have SA_12 := Lib.hid (SA_11.out.below hb); have SB_12 := Lib.hid (SB_11.out.below hb); have A_12 := Lib.hid (A_11.out.below hb); have B_12 := Lib.hid (B_11.out.below hb); have RX_12 := Lib.hid (RX_11.out.below hb); have X_12 := Lib.hid (X_11.out.below hb); have RY_12 := Lib.hid (RY_11.out.below hb); have Y_12 := Lib.hid (Y_11.out.below hb); have RT_12 := Lib.hid (RT_11.out.below hb); clear hb))

  go_wp2
  go_ret
  exact ⟨rfl, HB12.out⟩


theorem e12_any (h ac bu : Int) (a : Option Addr) (n c : Nat) (f : Nat → Int) (h' ac' bu' : Int) (b : Option Addr) (n' c' : Nat) (g : Nat → Int) (w : World) (s1 : Src w a n f) (hn : n ≤ maxLen) (s2 : Src w b n' g) (hn' : n' ≤ maxLen) : Calls Try.prog 12 #[.agg #[.int .i64 h, .slice a n c, .int .i64 ac, .int .i64 bu], .agg #[.int .i64 h', .slice b n' c', .int .i64 ac', .int .i64 bu']] w (RetBool w true) := by
  by_cases h1 : n ≤ 1048576
  · by_cases h2 : n + n' ≤ 1048576
    · exact e12_near h ac bu a n c f h' ac' bu' b n' c' g w s1 s2 h2
    · exact e12_far2 h ac bu a n c h' ac' bu' b n' c' w hn' h1 (by omega)
  · exact e12_far1 h ac bu a n c h' ac' bu' b n' c' w hn (by omega)

end Go.Proofs.Ythejbgmhfajcpaa
