/- The walk of FnWords. -/
import Derived.Test.YthejbgmhfajcpaaD5
import Derived.Test.YthejbgmhfajcpaaA10C
import Derived.Test.YthejbgmhfajcpaaE8
import Derived.Test.YthejbgmhfajcpaaE9
import Derived.Test.YthejbgmhfajcpaaA17
import Derived.Deep.Cut
import Derived.Deep.DeepCutAuto
namespace Go.Proofs.Ythejbgmhfajcpaa
open Go.RowKit
set_option linter.unusedVariables false

theorem src_other {w : World} {ab ao n : Nat} {f : Nat → Int} (h : Src w (some ⟨ab, ao, none⟩) n f) {p : Addr} (hp : p.block ≠ ab) (u : Value) : Src (w.setCell p u) (some ⟨ab, ao, none⟩) n f :=
  h.keeps (keeps_setCell (Nat.le_refl p.block) (Nat.lt_succ_self _) u) (fun b off h => by simp only [Option.some.injEq, Addr.mk.injEq, and_true] at h; omega)

set_option maxRecDepth 100000 in
set_option maxHeartbeats 400000 in
theorem e3_far (ca : Option Addr) (k kc : Nat) (w : World) (hk : k ≤ maxLen) (h : 1048576 < k) : Calls Try.prog 3 #[.slice ca k kc] w (RetBool w true) := by
  go_enter Try.func3, Try.ntmps3
  go_wp2_with (go_at_call 13; refine (big_yes _ _ _ _ hk h).mono ?_; rintro e w' ⟨rfl, rfl⟩)
  go_ret
  exact ⟨rfl, Below.refl _ _⟩

set_option maxRecDepth 100000 in
set_option maxHeartbeats 6400000 in
theorem e3_near (ca : Option Addr) (k kc : Nat) (B : Nat → Int) (w : World) (hs : SrcB w w.heap.size ca k B) (hk : k ≤ 1048576) :
    Calls Try.prog 3 #[.slice ca k kc] w (RetBool w true) := by
  have SB := Lib.hid hs
  clear hs
  go_enter Try.func3, Try.ntmps3
  go_wp2_with fail
  refine (big_no _ _ _ _ hk).mono ?_
  rintro e w' ⟨rfl, rfl⟩
  go_wp2_with fail
  refine (drawWrite_any ca k kc B _ SB.out.now hk).mono ?_
  rintro e w1 ⟨h1, ac1, bu1, p, v, n1, c1, a1, f1, rfl, ho, hb, hn1, hnc1, hcm1⟩
  have HB1 : Hid (Below w.heap.size w w1) := thru0 (Below.refl _ _) hb
  have z1 : w.heap.size ≤ w1.heap.size := hb.size
  have SB_1 := Lib.hid (SB.out.below hb)
  have X1_1 : Hid (Src w1 a1 n1 f1) := ho.src
  clear hb SB ho
  obtain ⟨⟨co1, rh1, rn1, rf1, rac1, rbu1, rat1⟩, hr1⟩ := isWrite_some h1 n1 f1 ac1 bu1 p v
  have rs1 : rn1 ≤ 400 := isWrite_small hr1
  have HR1 := Lib.hid hr1
  obtain ⟨rc, rv, hrd⟩ := isRead_some h1 n1 f1 ac1 bu1 p
  have HRD := Lib.hid hrd
  obtain ⟨kf, hkf⟩ := isFault_some h1 n1 f1 ac1 bu1
  have HKF := Lib.hid hkf
  clear hr1 hrd hkf
  go_wp2_with fail
  refine (implWriteC_any h1 ac1 bu1 p v a1 n1 c1 f1 _ _ (X1_1.out.alloc _) hnc1 hcm1 HR1.out).mono ?_
  rintro e w2 ⟨v1, e1, rfl, ho, hb, hcap1⟩
  have HB2 : Hid (Below w.heap.size w w2) := thru1 HB1.out hb
  have z2 : w1.heap.size + 1 ≤ w2.heap.size := by have := hb.size; simp at this; omega
  have SB_2 := Lib.hid ((SB_1.out.alloc _).below hb)
  have X1_2 := Lib.hid ((X1_1.out.alloc _).below hb)
  have A1_2 := Lib.hid ((Blk.new_at (w1.heap.size) (by simp)).below hb)
  have Y1_2 : Hid (Src w2 v1 rn1 rf1) := ho.src
  have HC1 := Lib.hid hcap1
  clear hcap1
  clear hb SB_1 X1_1 HB1 ho
  go_wp2_with fail
  refine (drawZero_any ca k kc B _ (SB_2.out.alloc _).now hk).mono ?_
  rintro e w3 ⟨h2, ac2, bu2, z1, z2, n2, c2, a2, f2, rfl, ho, hb, hn2, hnc2, hcm2⟩
  have HB3 : Hid (Below w.heap.size w w3) := thru1 HB2.out hb
  have z3 : w2.heap.size + 1 ≤ w3.heap.size := by have := hb.size; simp at this; omega
  have SB_3 := Lib.hid ((SB_2.out.alloc _).below hb)
  have X1_3 := Lib.hid ((X1_2.out.alloc _).below hb)
  have A1_3 := Lib.hid ((A1_2.out.alloc _).below hb)
  have Y1_3 := Lib.hid ((Y1_2.out.alloc _).below hb)
  have P1_3 := Lib.hid ((Blk.new_at (w2.heap.size) (by simp)).below hb)
  have X2_3 : Hid (Src w3 a2 n2 f2) := ho.src
  clear hb SB_2 X1_2 A1_2 Y1_2 HB2 ho
  obtain ⟨⟨co2, rh2, rn2, rf2, rac2, rbu2, rat2⟩, hr2⟩ := isZero_some h2 n2 f2 ac2 bu2 z1 z2
  have rs2 : rn2 ≤ 400 := isZero_small hr2
  have HR2 := Lib.hid hr2
  clear hr2
  go_wp2_with fail
  refine (implZero_any h2 ac2 bu2 z1 z2 a2 n2 c2 f2 _ _ (X2_3.out.alloc _) hnc2 hcm2 HR2.out).mono ?_
  rintro e w4 ⟨v2, e2, rfl, ho, hb⟩
  have HB4 : Hid (Below w.heap.size w w4) := thru1 HB3.out hb
  have z4 : w3.heap.size + 1 ≤ w4.heap.size := by have := hb.size; simp at this; omega
  have SB_4 := Lib.hid ((SB_3.out.alloc _).below hb)
  have X1_4 := Lib.hid ((X1_3.out.alloc _).below hb)
  have A1_4 := Lib.hid ((A1_3.out.alloc _).below hb)
  have Y1_4 := Lib.hid ((Y1_3.out.alloc _).below hb)
  have P1_4 := Lib.hid ((P1_3.out.alloc _).below hb)
  have X2_4 := Lib.hid ((X2_3.out.alloc _).below hb)
  have A2_4 := Lib.hid ((Blk.new_at (w3.heap.size) (by simp)).below hb)
  have Y2_4 : Hid (Src w4 v2 rn2 rf2) := ho.src
  clear hb SB_3 X1_3 A1_3 Y1_3 P1_3 X2_3 HB3 ho
  clear SB_4
  go_wp2_with fail
  have X1_5 := Lib.hid (X1_4.out.alloc (.cells #[.int .i64 co2, .int .i64 rh2, .slice v2 rn2 e2, .int .i64 rac2, .int .i64 rbu2, .int .i64 rat2] 30))
  have A1_5 := Lib.hid (A1_4.out.alloc (.cells #[.int .i64 co2, .int .i64 rh2, .slice v2 rn2 e2, .int .i64 rac2, .int .i64 rbu2, .int .i64 rat2] 30))
  have Y1_5 := Lib.hid (Y1_4.out.alloc (.cells #[.int .i64 co2, .int .i64 rh2, .slice v2 rn2 e2, .int .i64 rac2, .int .i64 rbu2, .int .i64 rat2] 30))
  have P1_5 := Lib.hid (P1_4.out.alloc (.cells #[.int .i64 co2, .int .i64 rh2, .slice v2 rn2 e2, .int .i64 rac2, .int .i64 rbu2, .int .i64 rat2] 30))
  have X2_5 := Lib.hid (X2_4.out.alloc (.cells #[.int .i64 co2, .int .i64 rh2, .slice v2 rn2 e2, .int .i64 rac2, .int .i64 rbu2, .int .i64 rat2] 30))
  have A2_5 := Lib.hid (A2_4.out.alloc (.cells #[.int .i64 co2, .int .i64 rh2, .slice v2 rn2 e2, .int .i64 rac2, .int .i64 rbu2, .int .i64 rat2] 30))
  have Y2_5 := Lib.hid (Y2_4.out.alloc (.cells #[.int .i64 co2, .int .i64 rh2, .slice v2 rn2 e2, .int .i64 rac2, .int .i64 rbu2, .int .i64 rat2] 30))
  have P2_5 : Hid (Blk (w4.alloc (.cells #[.int .i64 co2, .int .i64 rh2, .slice v2 rn2 e2, .int .i64 rac2, .int .i64 rbu2, .int .i64 rat2] 30)) w4.heap.size [.int .i64 co2, .int .i64 rh2, .slice v2 rn2 e2, .int .i64 rac2, .int .i64 rbu2, .int .i64 rat2]) := Blk.new_at (w4.heap.size) rfl
  have HB5 : Hid (Below w.heap.size w (w4.alloc (.cells #[.int .i64 co2, .int .i64 rh2, .slice v2 rn2 e2, .int .i64 rac2, .int .i64 rbu2, .int .i64 rat2] 30))) := HB4.out.alloc HB4.out.size _
  have y5 : w4.heap.size + 1 ≤ (w4.alloc (.cells #[.int .i64 co2, .int .i64 rh2, .slice v2 rn2 e2, .int .i64 rac2, .int .i64 rbu2, .int .i64 rat2] 30)).heap.size := by simp
  clear HB4 X1_4 A1_4 Y1_4 P1_4 X2_4 A2_4 Y2_4
  generalize w4.alloc (.cells #[.int .i64 co2, .int .i64 rh2, .slice v2 rn2 e2, .int .i64 rac2, .int .i64 rbu2, .int .i64 rat2] 30) = w5 at *
  have A1_d := Lib.hid A1_5.out.drew
  have A2_d := Lib.hid A2_5.out.drew
  have P1_d := Lib.hid P1_5.out.drew
  have P2_d := Lib.hid P2_5.out.drew
  have X1_d := Lib.hid X1_5.out.drew
  have X2_d := Lib.hid X2_5.out.drew
  have Y1_d := Lib.hid Y1_5.out.drew
  have Y2_d := Lib.hid Y2_5.out.drew
  have HB_d := Lib.hid HB5.out.drew
  clear HB5 A1_5 A2_5 P1_5 P2_5 X1_5 X2_5 Y1_5 Y2_5
  have hfld := run_code
  go_region_held3 (fun w' => w'.cell? ⟨w1.heap.size, 0, none⟩ = some (.int .i64 h1) ∧ w'.cell? ⟨w1.heap.size, 1, none⟩ = some (.slice a1 n1 c1) ∧ w'.cell? ⟨w1.heap.size, 2, none⟩ = some (.int .i64 ac1) ∧ w'.cell? ⟨w1.heap.size, 3, none⟩ = some (.int .i64 bu1) ∧ w'.cell? ⟨w3.heap.size, 0, none⟩ = some (.int .i64 h2) ∧ w'.cell? ⟨w3.heap.size, 1, none⟩ = some (.slice a2 n2 c2) ∧ w'.cell? ⟨w3.heap.size, 2, none⟩ = some (.int .i64 ac2) ∧ w'.cell? ⟨w3.heap.size, 3, none⟩ = some (.int .i64 bu2) ∧ w'.cell? ⟨w2.heap.size, 0, none⟩ = some (.int .i64 co1) ∧ w'.cell? ⟨w4.heap.size, 0, none⟩ = some (.int .i64 co2))
    (first | with_reducible exact ⟨A1_d.out.at 0 rfl, A1_d.out.at 1 rfl, A1_d.out.at 2 rfl, A1_d.out.at 3 rfl, A2_d.out.at 0 rfl, A2_d.out.at 1 rfl, A2_d.out.at 2 rfl, A2_d.out.at 3 rfl, P1_d.out.at 0 rfl, P2_d.out.at 0 rfl⟩ | with_reducible exact ⟨A1_6.out.at 0 rfl, A1_6.out.at 1 rfl, A1_6.out.at 2 rfl, A1_6.out.at 3 rfl, A2_6.out.at 0 rfl, A2_6.out.at 1 rfl, A2_6.out.at 2 rfl, A2_6.out.at 3 rfl, P1_6.out.at 0 rfl, P2_6.out.at 0 rfl⟩ | with_reducible exact ⟨A1_7.out.at 0 rfl, A1_7.out.at 1 rfl, A1_7.out.at 2 rfl, A1_7.out.at 3 rfl, A2_7.out.at 0 rfl, A2_7.out.at 1 rfl, A2_7.out.at 2 rfl, A2_7.out.at 3 rfl, P1_7.out.at 0 rfl, P2_7.out.at 0 rfl⟩ | with_reducible exact ⟨A1_8.out.at 0 rfl, A1_8.out.at 1 rfl, A1_8.out.at 2 rfl, A1_8.out.at 3 rfl, A2_8.out.at 0 rfl, A2_8.out.at 1 rfl, A2_8.out.at 2 rfl, A2_8.out.at 3 rfl, P1_8.out.at 0 rfl, P2_8.out.at 0 rfl⟩ | with_reducible exact ⟨A1_9.out.at 0 rfl, A1_9.out.at 1 rfl, A1_9.out.at 2 rfl, A1_9.out.at 3 rfl, A2_9.out.at 0 rfl, A2_9.out.at 1 rfl, A2_9.out.at 2 rfl, A2_9.out.at 3 rfl, P1_9.out.at 0 rfl, P2_9.out.at 0 rfl⟩ | with_reducible exact ⟨A1_10.out.at 0 rfl, A1_10.out.at 1 rfl, A1_10.out.at 2 rfl, A1_10.out.at 3 rfl, A2_10.out.at 0 rfl, A2_10.out.at 1 rfl, A2_10.out.at 2 rfl, A2_10.out.at 3 rfl, P1_10.out.at 0 rfl, P2_10.out.at 0 rfl⟩ | with_reducible exact ⟨A1_11.out.at 0 rfl, A1_11.out.at 1 rfl, A1_11.out.at 2 rfl, A1_11.out.at 3 rfl, A2_11.out.at 0 rfl, A2_11.out.at 1 rfl, A2_11.out.at 2 rfl, A2_11.out.at 3 rfl, P1_11.out.at 0 rfl, P2_11.out.at 0 rfl⟩)
    (first | (go_at_call 18; refine (specWrite_any h1 ac1 bu1 p v a1 n1 c1 f1 _ _ X1_d.out hnc1 hcm1 HR1.out).mono ?_; rintro e w6 ⟨_, _, rfl, ho, hb⟩; have HB6 := Lib.hid (thru0 HB_d.out hb); have A1_6 := Lib.hid (A1_d.out.below hb); have A2_6 := Lib.hid (A2_d.out.below hb); have P1_6 := Lib.hid (P1_d.out.below hb); have P2_6 := Lib.hid (P2_d.out.below hb); have X1_6 := Lib.hid (X1_d.out.below hb); have X2_6 := Lib.hid (X2_d.out.below hb); have Y1_6 := Lib.hid (Y1_d.out.below hb); have Y2_6 := Lib.hid (Y2_d.out.below hb); clear hb ho) | (go_at_call 19; refine (specZero_any h2 ac2 bu2 z1 z2 a2 n2 c2 f2 _ _ X2_6.out hnc2 hcm2 HR2.out).mono ?_; rintro e w7 ⟨_, _, rfl, ho, hb⟩; have HB7 := Lib.hid (thru0 HB6.out hb); have A1_7 := Lib.hid (A1_6.out.below hb); have A2_7 := Lib.hid (A2_6.out.below hb); have P1_7 := Lib.hid (P1_6.out.below hb); have P2_7 := Lib.hid (P2_6.out.below hb); have X1_7 := Lib.hid (X1_6.out.below hb); have X2_7 := Lib.hid (X2_6.out.below hb); have Y1_7 := Lib.hid (Y1_6.out.below hb); have Y2_7 := Lib.hid (Y2_6.out.below hb); clear hb ho) | (go_at_call 20; refine (implRead_any _ _ _ _ _ _ _ _ _ f1 _ X1_7.out HRD.out).mono ?_; rintro e w8 ⟨rfl, hb⟩; have HB8 := Lib.hid (thru0 HB7.out hb); have A1_8 := Lib.hid (A1_7.out.below hb); have A2_8 := Lib.hid (A2_7.out.below hb); have P1_8 := Lib.hid (P1_7.out.below hb); have P2_8 := Lib.hid (P2_7.out.below hb); have X1_8 := Lib.hid (X1_7.out.below hb); have X2_8 := Lib.hid (X2_7.out.below hb); have Y1_8 := Lib.hid (Y1_7.out.below hb); have Y2_8 := Lib.hid (Y2_7.out.below hb); clear hb) | (go_at_call 21; refine (specRead_any _ _ _ _ _ _ _ _ _ f1 _ X1_8.out HRD.out).mono ?_; rintro e w9 ⟨rfl, hb⟩; have HB9 := Lib.hid (thru0 HB8.out hb); have A1_9 := Lib.hid (A1_8.out.below hb); have A2_9 := Lib.hid (A2_8.out.below hb); have P1_9 := Lib.hid (P1_8.out.below hb); have P2_9 := Lib.hid (P2_8.out.below hb); have X1_9 := Lib.hid (X1_8.out.below hb); have X2_9 := Lib.hid (X2_8.out.below hb); have Y1_9 := Lib.hid (Y1_8.out.below hb); have Y2_9 := Lib.hid (Y2_8.out.below hb); clear hb) | (go_at_call 22; refine (implFault_any _ _ _ _ _ _ f1 kf _ X1_9.out HKF.out).mono ?_; rintro e w10 ⟨rfl, hb⟩; have HB10 := Lib.hid (thru0 HB9.out hb); have A1_10 := Lib.hid (A1_9.out.below hb); have A2_10 := Lib.hid (A2_9.out.below hb); have P1_10 := Lib.hid (P1_9.out.below hb); have P2_10 := Lib.hid (P2_9.out.below hb); have X1_10 := Lib.hid (X1_9.out.below hb); have X2_10 := Lib.hid (X2_9.out.below hb); have Y1_10 := Lib.hid (Y1_9.out.below hb); have Y2_10 := Lib.hid (Y2_9.out.below hb); clear hb) | (go_at_call 23; refine (specFault_any _ _ _ _ _ _ f1 kf _ X1_10.out HKF.out).mono ?_; rintro e w11 ⟨rfl, hb⟩; have HB11 := Lib.hid (thru0 HB10.out hb); have A1_11 := Lib.hid (A1_10.out.below hb); have A2_11 := Lib.hid (A2_10.out.below hb); have P1_11 := Lib.hid (P1_10.out.below hb); have P2_11 := Lib.hid (P2_10.out.below hb); have X1_11 := Lib.hid (X1_10.out.below hb); have X2_11 := Lib.hid (X2_10.out.below hb); have Y1_11 := Lib.hid (Y1_10.out.below hb); have Y2_11 := Lib.hid (Y2_10.out.below hb); clear hb))
  clear hfld A1_d A2_d P1_d P2_d X1_d X2_d Y1_d Y2_d A1_6 A2_6 P1_6 P2_6 X1_6 X2_6 Y1_6 Y2_6 A1_7 A2_7 P1_7 P2_7 X1_7 X2_7 Y1_7 Y2_7 A1_8 A2_8 P1_8 P2_8 X1_8 X2_8 Y1_8 Y2_8 A1_9 A2_9 P1_9 P2_9 X1_9 X2_9 Y1_9 Y2_9 A1_10 A2_10 P1_10 P2_10 X1_10 X2_10 Y1_10 Y2_10 HB_d HB6 HB7 HB8 HB9 HB10
  have c0 := P2_11.out.at 0 rfl
  go_upto_if 72 with (fail)
  go_cut [11, 12] (fun _ _ wx => Hid (Below w.heap.size w wx) ∧ Hid (Blk wx w1.heap.size [.int .i64 h1, .slice a1 n1 c1, .int .i64 ac1, .int .i64 bu1]) ∧ Hid (Blk wx w2.heap.size [.int .i64 co1, .int .i64 rh1, .slice v1 rn1 e1, .int .i64 rac1, .int .i64 rbu1, .int .i64 rat1]) ∧ Hid (Src wx a1 n1 f1) ∧ Hid (Src wx v1 rn1 rf1))
  case first =>
    rcases HR2.out with ⟨kz, hkz, h0, he⟩ | ⟨hkz, hp, he⟩ | ⟨hkz, hp, hq, he⟩ | ⟨hkz, hp, hq, he⟩
    · simp only [errAR, AR.mk.injEq] at he
      have hz0 : (co2 == 0) = false := by rw [he.1]; simpa using h0
      clear he hkz h0
      go_wp2_with fail
      go_meet
      exact ⟨HB11, A1_11, P1_11, X1_11, Y1_11⟩
    · simp only [errAR, AR.mk.injEq] at he
      have hz0 : (co2 == 0) = false := by rw [he.1]; rfl
      clear he hkz hp
      go_wp2_with fail
      go_meet
      exact ⟨HB11, A1_11, P1_11, X1_11, Y1_11⟩
    · simp only [errAR, AR.mk.injEq] at he
      have hz0 : (co2 == 0) = false := by rw [he.1]; rfl
      clear he hkz hp hq
      go_wp2_with fail
      go_meet
      exact ⟨HB11, A1_11, P1_11, X1_11, Y1_11⟩
    · obtain ⟨P, rfl⟩ : ∃ P : Nat, z1 = P := ⟨z1.toNat, by omega⟩
      obtain ⟨Q, rfl⟩ : ∃ Q : Nat, z2 = Q := ⟨z2.toNat, by omega⟩
      obtain ⟨⟨⟨g1, g2⟩, ⟨g3, g4⟩, g5, g6⟩, gn, gw⟩ := isFault_ok hkz
      simp only [AR.mk.injEq, Int.toNat_natCast] at he
      obtain ⟨rfl, rfl, rfl, rfl, rfl, rfl, rfl⟩ := he
      have hfz : IsFault rh2 rn2 (zeroR f2 P Q) rac2 rbu2 0 := .inr (.inr (.inr ⟨⟨⟨g1, g2⟩, ⟨g3, g4⟩, g5, g6⟩, gn, fun i hi => (by simp only [zeroR]; split; exact (show Word 0 by unfold Word; omega); exact gw i hi), rfl⟩))
      have HFZ := Lib.hid hfz
      have hnn : rn2 ≤ 400 := rs2
      have GN := Lib.hid gn
      have HPQ := Lib.hid (And.intro hp hq)
      clear hfz hkz gw hp hq HR2 c0 gn
      go_wp2
      go_loopw [11] (fun p wr => ∃ i : Nat, i ≤ rn2 ∧ p = .int .i64 (i : Int) ∧ Hid (Below w.heap.size w wr) ∧ Hid (Blk wr w1.heap.size [.int .i64 h1, .slice a1 n1 c1, .int .i64 ac1, .int .i64 bu1]) ∧ Hid (Blk wr w2.heap.size [.int .i64 co1, .int .i64 rh1, .slice v1 rn1 e1, .int .i64 rac1, .int .i64 rbu1, .int .i64 rat1]) ∧ Hid (Src wr a1 n1 f1) ∧ Hid (Src wr v1 rn1 rf1) ∧ Hid (Blk wr w3.heap.size [.int .i64 rh2, .slice a2 rn2 c2, .int .i64 rac2, .int .i64 rbu2]) ∧ Hid (Blk wr w4.heap.size [.int .i64 0, .int .i64 rh2, .slice v2 rn2 e2, .int .i64 rac2, .int .i64 rbu2, .int .i64 0]) ∧ Hid (Src wr a2 rn2 f2) ∧ Hid (Src wr v2 rn2 (zeroR f2 P Q))) (fun p _ => rn2 - (intOf p).toNat)
      case atStart => exact ⟨0, Nat.zero_le _, rfl, HB11, A1_11, P1_11, X1_11, Y1_11, A2_11, P2_11, X2_11, Y2_11⟩
      case round =>
        obtain ⟨i, hi, rfl, HB_r, A1_r, P1_r, X1_r, Y1_r, A2_r, P2_r, X2_r, Y2_r⟩ := hrel
        clear HB11 A1_11 P1_11 X1_11 Y1_11 A2_11 P2_11 X2_11 Y2_11
        have b1 := A2_r.out.at 1 rfl
        by_cases hlt : i < rn2
        · obtain ⟨ab, ao, rfl, hab, hac⟩ := src_some X2_r.out (by omega)
          have ca := hac i hlt
          have hlt' : (i : Int) < (rn2 : Int) := by omega
          have lP := P2_r.out.1
          have d0 := P2_r.out.at 0 rfl; have d1 := P2_r.out.at 1 rfl; have d2 := P2_r.out.at 2 rfl; have d3 := P2_r.out.at 3 rfl; have d4 := P2_r.out.at 4 rfl; have d5 := P2_r.out.at 5 rfl
          clear hac
          by_cases hP : P ≤ i
          · have hP' : (P : Int) ≤ (i : Int) := by omega
            by_cases hQ : i < P + Q
            · have hQ' : (i : Int) - (P : Int) < (Q : Int) := by omega
              go_wp2_with fail
              refine (implRead_any _ _ _ _ 0 0 _ _ _ (zeroR f2 P Q) _ Y2_r.out (.inr (.inr ⟨HFZ.out, ⟨by omega, by have := GN.out; omega⟩, rfl, by show (0 : Int) = zeroR f2 P Q i; simp only [zeroR]; rw [if_pos ⟨hP, hQ⟩]⟩))).mono ?_
              rintro e wz ⟨rfl, hb⟩
              have HB_s := Lib.hid (thru0 HB_r.out hb); have A1_s := Lib.hid (A1_r.out.below hb); have P1_s := Lib.hid (P1_r.out.below hb); have X1_s := Lib.hid (X1_r.out.below hb); have Y1_s := Lib.hid (Y1_r.out.below hb); have A2_s := Lib.hid (A2_r.out.below hb); have P2_s := Lib.hid (P2_r.out.below hb); have X2_s := Lib.hid (X2_r.out.below hb); have Y2_s := Lib.hid (Y2_r.out.below hb)
              clear hb
              go_wp2
              go_roundw
              case rel => (repeat apply Exists.intro); exact ⟨⟨i + 1, by omega, by go_num, HB_s, A1_s, P1_s, X1_s, Y1_s, A2_s, P2_s, X2_s, Y2_s⟩, rfl⟩
              case measure => simp [intOf]; omega
            · have hQ' : ¬ (i : Int) - (P : Int) < (Q : Int) := by omega
              go_wp2_with fail
              refine (implRead_any _ _ _ _ 0 (f2 i) _ _ _ (zeroR f2 P Q) _ Y2_r.out (.inr (.inr ⟨HFZ.out, ⟨by omega, by have := GN.out; omega⟩, rfl, by show f2 i = zeroR f2 P Q i; simp only [zeroR]; rw [if_neg (by omega)]⟩))).mono ?_
              rintro e wz ⟨rfl, hb⟩
              have HB_s := Lib.hid (thru0 HB_r.out hb); have A1_s := Lib.hid (A1_r.out.below hb); have P1_s := Lib.hid (P1_r.out.below hb); have X1_s := Lib.hid (X1_r.out.below hb); have Y1_s := Lib.hid (Y1_r.out.below hb); have A2_s := Lib.hid (A2_r.out.below hb); have P2_s := Lib.hid (P2_r.out.below hb); have X2_s := Lib.hid (X2_r.out.below hb); have Y2_s := Lib.hid (Y2_r.out.below hb)
              clear hb
              go_wp2
              go_roundw
              case rel => (repeat apply Exists.intro); exact ⟨⟨i + 1, by omega, by go_num, HB_s, A1_s, P1_s, X1_s, Y1_s, A2_s, P2_s, X2_s, Y2_s⟩, rfl⟩
              case measure => simp [intOf]; omega
          · have hP' : ¬ (P : Int) ≤ (i : Int) := by omega
            go_wp2_with fail
            refine (implRead_any _ _ _ _ 0 (f2 i) _ _ _ (zeroR f2 P Q) _ Y2_r.out (.inr (.inr ⟨HFZ.out, ⟨by omega, by have := GN.out; omega⟩, rfl, by show f2 i = zeroR f2 P Q i; simp only [zeroR]; rw [if_neg (by omega)]⟩))).mono ?_
            rintro e wz ⟨rfl, hb⟩
            have HB_s := Lib.hid (thru0 HB_r.out hb); have A1_s := Lib.hid (A1_r.out.below hb); have P1_s := Lib.hid (P1_r.out.below hb); have X1_s := Lib.hid (X1_r.out.below hb); have Y1_s := Lib.hid (Y1_r.out.below hb); have A2_s := Lib.hid (A2_r.out.below hb); have P2_s := Lib.hid (P2_r.out.below hb); have X2_s := Lib.hid (X2_r.out.below hb); have Y2_s := Lib.hid (Y2_r.out.below hb)
            clear hb
            go_wp2
            go_roundw
            case rel => (repeat apply Exists.intro); exact ⟨⟨i + 1, by omega, by go_num, HB_s, A1_s, P1_s, X1_s, Y1_s, A2_s, P2_s, X2_s, Y2_s⟩, rfl⟩
            case measure => simp [intOf]; omega
        · go_wp2_with fail
          go_meet
          exact ⟨HB_r, A1_r, P1_r, X1_r, Y1_r⟩
  case rest =>
    obtain ⟨HB_a, A1_a, P1_a, X1_a, Y1_a⟩ := hcut
    clear HB11 A1_11 A2_11 P1_11 P2_11 X1_11 X2_11 Y1_11 Y2_11 c0 HR2
    have c0 := P1_a.out.at 0 rfl
    rcases HR1.out with ⟨kz, hkz, h0, he⟩ | ⟨hkz, hp, he⟩ | ⟨hkz, hp, he⟩
    · simp only [errAR, AR.mk.injEq] at he
      have hz0 : (co1 != 0) = true := by rw [he.1]; simpa using h0
      clear he hkz h0
      go_wp2
      go_ret
      exact ⟨rfl, HB_a.out⟩
    · simp only [errAR, AR.mk.injEq] at he
      have hz0 : (co1 != 0) = true := by rw [he.1]; rfl
      clear he hkz hp
      go_wp2
      go_ret
      exact ⟨rfl, HB_a.out⟩
    · obtain ⟨K, rfl⟩ : ∃ K : Nat, p = K := ⟨p.toNat, by omega⟩
      obtain ⟨⟨⟨g1, g2⟩, ⟨g3, g4⟩, g5, g6⟩, gn, gw⟩ := isFault_ok hkz
      obtain ⟨hp0, hv⟩ := hp
      simp only [AR.mk.injEq, Int.toNat_natCast] at he
      obtain ⟨rfl, rfl, rfl, rfl, rfl, rfl, rfl⟩ := he
      have hKn : K < rn1 := by omega
      have hfw : IsFault rh1 rn1 (upd f1 K v) rac1 rbu1 0 := .inr (.inr (.inr ⟨⟨⟨g1, g2⟩, ⟨g3, g4⟩, g5, g6⟩, gn, fun i hi => (by simp only [upd]; split; exact hv; exact gw i hi), rfl⟩))
      have hrw : IsWrite rh1 rn1 (upd f1 K v) rac1 rbu1 (K : Int) (f1 K) ⟨0, rh1, rn1, upd (upd f1 K v) K (f1 K), rac1, rbu1, 0⟩ := .inr (.inr ⟨hfw, ⟨hp0, gw K hKn⟩, by simp⟩)
      have hrr : IsRead rh1 rn1 (upd f1 K v) rac1 rbu1 (K : Int) 0 v := .inr (.inr ⟨hfw, hp0, rfl, by simp [upd]⟩)
      have hcap := HC1.out rfl
      have HCa := Lib.hid hcap; have HFW := Lib.hid hfw; have HRW := Lib.hid hrw; have HRR := Lib.hid hrr
      have hnn : rn1 ≤ 400 := rs1
      clear hcap hfw hrw hrr hkz gw HR1 HRD HKF HC1 c0 gn
      obtain ⟨ab, ao, rfl, hab, hac⟩ := src_some X1_a.out (by omega)
      have caK := hac K hKn
      have hK' : (K : Int) < (rn1 : Int) := by omega
      have hK0 : (0 : Int) ≤ (K : Int) := by omega
      have hKK : (0 : Int) ≤ (K : Int) ∧ (K : Int) < (rn1 : Int) := ⟨hK0, hK'⟩
      clear hac
      have d0 := P1_a.out.at 0 rfl; have d1 := P1_a.out.at 1 rfl; have d2 := P1_a.out.at 2 rfl; have d3 := P1_a.out.at 3 rfl; have d4 := P1_a.out.at 4 rfl; have d5 := P1_a.out.at 5 rfl
      have b0 := A1_a.out.at 0 rfl; have b1 := A1_a.out.at 1 rfl; have b2 := A1_a.out.at 2 rfl; have b3 := A1_a.out.at 3 rfl
      go_wp2_with fail
      obtain ⟨yb, yo, rfl, hyb, hyc⟩ := src_some Y1_a.out (by omega)
      have heq : eqA rh1 rn1 (upd (upd f1 K v) K (f1 K)) rac1 rbu1 rh1 rn1 f1 rac1 rbu1 = true := by simp only [eqA, beq_self_eq_true, Bool.true_and, Bool.and_true]; exact eqB_yes (fun i _ => by simp only [upd]; split <;> simp_all)
      clear hyc
      have lA := A1_a.out.1; have lP := P1_a.out.1; have lw := HB_a.out.size
      clear d0 d1 d2 d3 d4 d5 b0 b1 b2 b3 caK
      have A1_d := Lib.hid A1_a.out.drew
      have P1_d := Lib.hid P1_a.out.drew
      have X1_d := Lib.hid X1_a.out.drew
      have Y1_d := Lib.hid Y1_a.out.drew
      have HB_d := Lib.hid HB_a.out.drew
      go_region_held3 (fun w' => w'.cell? ⟨w2.heap.size, 1, none⟩ = some (.int .i64 rh1) ∧ w'.cell? ⟨w2.heap.size, 2, none⟩ = some (.slice (some ⟨yb, yo, none⟩) rn1 e1) ∧ w'.cell? ⟨w2.heap.size, 3, none⟩ = some (.int .i64 rac1) ∧ w'.cell? ⟨w2.heap.size, 4, none⟩ = some (.int .i64 rbu1) ∧ w'.cell? ⟨w1.heap.size, 1, none⟩ = some (.slice (some ⟨ab, ao, none⟩) rn1 c1) ∧ w'.cell? ⟨ab, ao + K, none⟩ = some (.int .i64 (f1 K)))
        (first | (with_reducible exact ⟨(P1_a.out).at 1 rfl, (P1_a.out).at 2 rfl, (P1_a.out).at 3 rfl, (P1_a.out).at 4 rfl, (A1_a.out).at 1 rfl, (X1_a.out).at K hKn⟩) | (with_reducible exact ⟨(P1_d.out).at 1 rfl, (P1_d.out).at 2 rfl, (P1_d.out).at 3 rfl, (P1_d.out).at 4 rfl, (A1_d.out).at 1 rfl, (X1_d.out).at K hKn⟩) | (with_reducible exact ⟨((P1_a.out.alloc _).drew).at 1 rfl, ((P1_a.out.alloc _).drew).at 2 rfl, ((P1_a.out.alloc _).drew).at 3 rfl, ((P1_a.out.alloc _).drew).at 4 rfl, ((A1_a.out.alloc _).drew).at 1 rfl, ((X1_a.out.alloc _).drew).at K hKn⟩) | (with_reducible exact ⟨(P1_12.out).at 1 rfl, (P1_12.out).at 2 rfl, (P1_12.out).at 3 rfl, (P1_12.out).at 4 rfl, (A1_12.out).at 1 rfl, (X1_12.out).at K hKn⟩) | (with_reducible exact ⟨(P1_12.out.alloc _).at 1 rfl, (P1_12.out.alloc _).at 2 rfl, (P1_12.out.alloc _).at 3 rfl, (P1_12.out.alloc _).at 4 rfl, (A1_12.out.alloc _).at 1 rfl, (X1_12.out.alloc _).at K hKn⟩) | (exact ⟨(((((((P1_12.out.other (by (try simp); (try omega)) _).other (by (try simp); (try omega)) _).other (by (try simp); (try omega)) _).other (by (try simp); (try omega)) _).other (by (try simp); (try omega)) _).other (by (try simp); (try omega)) _)).at 1 rfl, (((((((P1_12.out.other (by (try simp); (try omega)) _).other (by (try simp); (try omega)) _).other (by (try simp); (try omega)) _).other (by (try simp); (try omega)) _).other (by (try simp); (try omega)) _).other (by (try simp); (try omega)) _)).at 2 rfl, (((((((P1_12.out.other (by (try simp); (try omega)) _).other (by (try simp); (try omega)) _).other (by (try simp); (try omega)) _).other (by (try simp); (try omega)) _).other (by (try simp); (try omega)) _).other (by (try simp); (try omega)) _)).at 3 rfl, (((((((P1_12.out.other (by (try simp); (try omega)) _).other (by (try simp); (try omega)) _).other (by (try simp); (try omega)) _).other (by (try simp); (try omega)) _).other (by (try simp); (try omega)) _).other (by (try simp); (try omega)) _)).at 4 rfl, (((((((A1_12.out.other (by (try simp); (try omega)) _).other (by (try simp); (try omega)) _).other (by (try simp); (try omega)) _).other (by (try simp); (try omega)) _).other (by (try simp); (try omega)) _).other (by (try simp); (try omega)) _)).at 1 rfl, ((src_other (src_other (src_other (src_other (src_other (src_other X1_12.out (by (try simp); (try omega)) _) (by (try simp); (try omega)) _) (by (try simp); (try omega)) _) (by (try simp); (try omega)) _) (by (try simp); (try omega)) _) (by (try simp); (try omega)) _)).at K hKn⟩) | go_keep)
        (first | (go_at_call 15; refine (implWriteC_any rh1 rac1 rbu1 (K : Int) (f1 K) _ rn1 e1 (upd f1 K v) _ _ (Y1_d.out.ext (by first | exact .inl rfl | exact ext_drew _ _ | exact .inr ⟨_, rfl⟩)) HCa.out.1 HCa.out.2 HRW.out).mono ?_; rintro e w12 ⟨v5, e5, rfl, ho, hb, _⟩; have HB12 := Lib.hid (thru0 (below_ext HB_d.out (by first | exact .inl rfl | exact ext_drew _ _ | exact .inr ⟨_, rfl⟩)) hb); have A1_12 := Lib.hid ((A1_d.out.ext (by first | exact .inl rfl | exact ext_drew _ _ | exact .inr ⟨_, rfl⟩)).below hb); have P1_12 := Lib.hid ((P1_d.out.ext (by first | exact .inl rfl | exact ext_drew _ _ | exact .inr ⟨_, rfl⟩)).below hb); have X1_12 := Lib.hid ((X1_d.out.ext (by first | exact .inl rfl | exact ext_drew _ _ | exact .inr ⟨_, rfl⟩)).below hb); have Y1_12 := Lib.hid ((Y1_d.out.ext (by first | exact .inl rfl | exact ext_drew _ _ | exact .inr ⟨_, rfl⟩)).below hb); have R_12 := Lib.hid ho; have z12 : wc.heap.size ≤ w12.heap.size := (by have := hb.size; simp at this; omega); (first | (have T_12 := Lib.hid ((Blk.new_at (w := wc) (cs := #[.int .i64 0, .int .i64 0, .slice none 0 0, .int .i64 0, .int .i64 0, .int .i64 0]) (t := 30) (wc.heap.size) rfl).drew.below hb)) | skip); clear hb ho; (first | (have lT := T_12.out.1; have cT0 := T_12.out.at 0 rfl; have fT0 := T_12.out.free 0 rfl; have cT1 := T_12.out.at 1 rfl; have fT1 := T_12.out.free 1 rfl; have cT2 := T_12.out.at 2 rfl; have fT2 := T_12.out.free 2 rfl; have cT3 := T_12.out.at 3 rfl; have fT3 := T_12.out.free 3 rfl; have cT4 := T_12.out.at 4 rfl; have fT4 := T_12.out.free 4 rfl; have cT5 := T_12.out.at 5 rfl; have fT5 := T_12.out.free 5 rfl) | skip)))
      · refine then_named (fun w13 => Hid (Below w.heap.size w w13) ∧ Hid (Blk w13 w1.heap.size [.int .i64 rh1, .slice (some ⟨ab, ao, none⟩) rn1 c1, .int .i64 rac1, .int .i64 rbu1]) ∧ Hid (Blk w13 w2.heap.size [.int .i64 0, .int .i64 rh1, .slice (some ⟨yb, yo, none⟩) rn1 e1, .int .i64 rac1, .int .i64 rbu1, .int .i64 0]) ∧ Hid (Src w13 (some ⟨ab, ao, none⟩) rn1 f1) ∧ Hid (Src w13 (some ⟨yb, yo, none⟩) rn1 (upd f1 K v)) ∧ Hid (Blk w13 (w12.heap.size) [.int .i64 0, .int .i64 rh1, .slice v5 rn1 e5, .int .i64 rac1, .int .i64 rbu1, .int .i64 0]) ∧ Hid (Src w13 v5 rn1 (upd (upd f1 K v) K (f1 K)))) ⟨HB12.out.alloc HB12.out.size _, A1_12.out.alloc _, P1_12.out.alloc _, X1_12.out.alloc _, Y1_12.out.alloc _, Blk.new_at _ rfl, R_12.out.src.alloc _⟩ (fun w13 hF => ?_)
        obtain ⟨HB_13, A1_13, P1_13, X1_13, Y1_13, T_13, R_13⟩ := hF
        clear HB12 A1_12 P1_12 X1_12 Y1_12 R_12 z12 HB_a A1_a P1_a X1_a Y1_a HB_d A1_d P1_d X1_d Y1_d
        have cP11 := P1_13.out.at 1 rfl; have cP12 := P1_13.out.at 2 rfl; have cP13 := P1_13.out.at 3 rfl; have cP14 := P1_13.out.at 4 rfl
        go_wp2_with fail
        refine (implRead_any rh1 rac1 rbu1 (K : Int) 0 v _ _ _ (upd f1 K v) _ Y1_13.out HRR.out).mono ?_
        rintro e w14 ⟨rfl, hb⟩
        have HB_14 := Lib.hid (thru0 HB_13.out hb); have A1_14 := Lib.hid (A1_13.out.below hb); have P1_14 := Lib.hid (P1_13.out.below hb); have X1_14 := Lib.hid (X1_13.out.below hb); have Y1_14 := Lib.hid (Y1_13.out.below hb); have T_14 := Lib.hid (T_13.out.below hb); have R_14 := Lib.hid (R_13.out.below hb)
        clear A1_13 P1_13 X1_13 Y1_13 T_13 R_13 HB_13 hb cP11 cP12 cP13 cP14
        have cP11 := P1_14.out.at 1 rfl; have cP12 := P1_14.out.at 2 rfl; have cP13 := P1_14.out.at 3 rfl; have cP14 := P1_14.out.at 4 rfl
        go_wp2_with fail
        refine (implFault_any rh1 rac1 rbu1 _ _ _ (upd f1 K v) 0 _ Y1_14.out HFW.out).mono ?_
        rintro e w15 ⟨rfl, hb⟩
        have HB_15 := Lib.hid (thru0 HB_14.out hb); have A1_15 := Lib.hid (A1_14.out.below hb); have P1_15 := Lib.hid (P1_14.out.below hb); have X1_15 := Lib.hid (X1_14.out.below hb); have Y1_15 := Lib.hid (Y1_14.out.below hb); have T_15 := Lib.hid (T_14.out.below hb); have R_15 := Lib.hid (R_14.out.below hb)
        clear A1_14 P1_14 X1_14 Y1_14 T_14 R_14 HB_14 hb cP11 cP12 cP13 cP14
        have cT1 := T_15.out.at 1 rfl; have cT2 := T_15.out.at 2 rfl; have cT3 := T_15.out.at 3 rfl; have cT4 := T_15.out.at 4 rfl
        have cA10 := A1_15.out.at 0 rfl; have cA11 := A1_15.out.at 1 rfl; have cA12 := A1_15.out.at 2 rfl; have cA13 := A1_15.out.at 3 rfl
        go_wp2_with fail
        refine (implSame_any _ _ _ _ _ _ _ _ _ _ _ _ (upd (upd f1 K v) K (f1 K)) f1 _ R_15.out X1_15.out (by omega) (by omega)).mono ?_
        rw [heq]
        rintro e w16 ⟨rfl, hb⟩
        have HB_16 := Lib.hid (thru0 HB_15.out hb); have A1_16 := Lib.hid (A1_15.out.below hb); have P1_16 := Lib.hid (P1_15.out.below hb); have X1_16 := Lib.hid (X1_15.out.below hb); have Y1_16 := Lib.hid (Y1_15.out.below hb); have T_16 := Lib.hid (T_15.out.below hb); have R_16 := Lib.hid (R_15.out.below hb)
        clear A1_15 P1_15 X1_15 Y1_15 T_15 R_15 HB_15 hb cT1 cT2 cT3 cT4 cA10 cA11 cA12 cA13
        have cT1 := T_16.out.at 1 rfl; have cT2 := T_16.out.at 2 rfl; have cT3 := T_16.out.at 3 rfl; have cT4 := T_16.out.at 4 rfl
        have cA10 := A1_16.out.at 0 rfl; have cA11 := A1_16.out.at 1 rfl; have cA12 := A1_16.out.at 2 rfl; have cA13 := A1_16.out.at 3 rfl
        go_wp2_with fail
        refine (specSame_any _ _ _ _ _ _ _ _ _ _ _ _ (upd (upd f1 K v) K (f1 K)) f1 _ R_16.out X1_16.out (by omega) (by omega)).mono ?_
        rw [heq]
        rintro e w17 ⟨rfl, hb⟩
        have HB_17 := Lib.hid (thru0 HB_16.out hb); have A1_17 := Lib.hid (A1_16.out.below hb); have P1_17 := Lib.hid (P1_16.out.below hb); have X1_17 := Lib.hid (X1_16.out.below hb); have Y1_17 := Lib.hid (Y1_16.out.below hb); have T_17 := Lib.hid (T_16.out.below hb); have R_17 := Lib.hid (R_16.out.below hb)
        go_wp2
        go_ret
        exact ⟨rfl, HB_17.out⟩
      · have RO := R_12.out
        refine then_named (fun w13 => Hid (Below w.heap.size w w13) ∧ Hid (Blk w13 w1.heap.size [.int .i64 rh1, .slice (some ⟨ab, ao, none⟩) rn1 c1, .int .i64 rac1, .int .i64 rbu1]) ∧ Hid (Blk w13 w2.heap.size [.int .i64 0, .int .i64 rh1, .slice (some ⟨yb, yo, none⟩) rn1 e1, .int .i64 rac1, .int .i64 rbu1, .int .i64 0]) ∧ Hid (Src w13 (some ⟨ab, ao, none⟩) rn1 f1) ∧ Hid (Src w13 (some ⟨yb, yo, none⟩) rn1 (upd f1 K v)) ∧ Hid (Blk w13 (wc.heap.size) [.int .i64 0, .int .i64 rh1, .slice v5 rn1 e5, .int .i64 rac1, .int .i64 rbu1, .int .i64 0]) ∧ Hid (Src w13 v5 rn1 (upd (upd f1 K v) K (f1 K)))) ⟨((((((HB12.out.setCell (by (try simp); (try omega)) _).setCell (by (try simp); (try omega)) _).setCell (by (try simp); (try omega)) _).setCell (by (try simp); (try omega)) _).setCell (by (try simp); (try omega)) _).setCell (by (try simp); (try omega)) _), ((((((A1_12.out.other (by (try simp); (try omega)) _).other (by (try simp); (try omega)) _).other (by (try simp); (try omega)) _).other (by (try simp); (try omega)) _).other (by (try simp); (try omega)) _).other (by (try simp); (try omega)) _), ((((((P1_12.out.other (by (try simp); (try omega)) _).other (by (try simp); (try omega)) _).other (by (try simp); (try omega)) _).other (by (try simp); (try omega)) _).other (by (try simp); (try omega)) _).other (by (try simp); (try omega)) _), (src_other (src_other (src_other (src_other (src_other (src_other X1_12.out (by (try simp); (try omega)) _) (by (try simp); (try omega)) _) (by (try simp); (try omega)) _) (by (try simp); (try omega)) _) (by (try simp); (try omega)) _) (by (try simp); (try omega)) _), (src_other (src_other (src_other (src_other (src_other (src_other Y1_12.out (by (try simp); (try omega)) _) (by (try simp); (try omega)) _) (by (try simp); (try omega)) _) (by (try simp); (try omega)) _) (by (try simp); (try omega)) _) (by (try simp); (try omega)) _), ((((((T_12.out.set 0 (by simp) _).set 1 (by simp) _).set 2 (by simp) _).set 3 (by simp) _).set 4 (by simp) _).set 5 (by simp) _), ((((((RO.setCell (by (try simp); (try omega)) _).setCell (by (try simp); (try omega)) _).setCell (by (try simp); (try omega)) _).setCell (by (try simp); (try omega)) _).setCell (by (try simp); (try omega)) _).setCell (by (try simp); (try omega)) _).src⟩ (fun w13 hF => ?_)
        obtain ⟨HB_13, A1_13, P1_13, X1_13, Y1_13, T_13, R_13⟩ := hF
        clear HB12 A1_12 P1_12 X1_12 Y1_12 R_12 z12 T_12 lT cT0 fT0 cT1 fT1 cT2 fT2 cT3 fT3 cT4 fT4 cT5 fT5 HB_a A1_a P1_a X1_a Y1_a HB_d A1_d P1_d X1_d Y1_d
        have cP11 := P1_13.out.at 1 rfl; have cP12 := P1_13.out.at 2 rfl; have cP13 := P1_13.out.at 3 rfl; have cP14 := P1_13.out.at 4 rfl
        go_wp2_with fail
        refine (implRead_any rh1 rac1 rbu1 (K : Int) 0 v _ _ _ (upd f1 K v) _ Y1_13.out HRR.out).mono ?_
        rintro e w14 ⟨rfl, hb⟩
        have HB_14 := Lib.hid (thru0 HB_13.out hb); have A1_14 := Lib.hid (A1_13.out.below hb); have P1_14 := Lib.hid (P1_13.out.below hb); have X1_14 := Lib.hid (X1_13.out.below hb); have Y1_14 := Lib.hid (Y1_13.out.below hb); have T_14 := Lib.hid (T_13.out.below hb); have R_14 := Lib.hid (R_13.out.below hb)
        clear A1_13 P1_13 X1_13 Y1_13 T_13 R_13 HB_13 hb cP11 cP12 cP13 cP14
        have cP11 := P1_14.out.at 1 rfl; have cP12 := P1_14.out.at 2 rfl; have cP13 := P1_14.out.at 3 rfl; have cP14 := P1_14.out.at 4 rfl
        go_wp2_with fail
        refine (implFault_any rh1 rac1 rbu1 _ _ _ (upd f1 K v) 0 _ Y1_14.out HFW.out).mono ?_
        rintro e w15 ⟨rfl, hb⟩
        have HB_15 := Lib.hid (thru0 HB_14.out hb); have A1_15 := Lib.hid (A1_14.out.below hb); have P1_15 := Lib.hid (P1_14.out.below hb); have X1_15 := Lib.hid (X1_14.out.below hb); have Y1_15 := Lib.hid (Y1_14.out.below hb); have T_15 := Lib.hid (T_14.out.below hb); have R_15 := Lib.hid (R_14.out.below hb)
        clear A1_14 P1_14 X1_14 Y1_14 T_14 R_14 HB_14 hb cP11 cP12 cP13 cP14
        have cT1 := T_15.out.at 1 rfl; have cT2 := T_15.out.at 2 rfl; have cT3 := T_15.out.at 3 rfl; have cT4 := T_15.out.at 4 rfl
        have cA10 := A1_15.out.at 0 rfl; have cA11 := A1_15.out.at 1 rfl; have cA12 := A1_15.out.at 2 rfl; have cA13 := A1_15.out.at 3 rfl
        go_wp2_with fail
        refine (implSame_any _ _ _ _ _ _ _ _ _ _ _ _ (upd (upd f1 K v) K (f1 K)) f1 _ R_15.out X1_15.out (by omega) (by omega)).mono ?_
        rw [heq]
        rintro e w16 ⟨rfl, hb⟩
        have HB_16 := Lib.hid (thru0 HB_15.out hb); have A1_16 := Lib.hid (A1_15.out.below hb); have P1_16 := Lib.hid (P1_15.out.below hb); have X1_16 := Lib.hid (X1_15.out.below hb); have Y1_16 := Lib.hid (Y1_15.out.below hb); have T_16 := Lib.hid (T_15.out.below hb); have R_16 := Lib.hid (R_15.out.below hb)
        clear A1_15 P1_15 X1_15 Y1_15 T_15 R_15 HB_15 hb cT1 cT2 cT3 cT4 cA10 cA11 cA12 cA13
        have cT1 := T_16.out.at 1 rfl; have cT2 := T_16.out.at 2 rfl; have cT3 := T_16.out.at 3 rfl; have cT4 := T_16.out.at 4 rfl
        have cA10 := A1_16.out.at 0 rfl; have cA11 := A1_16.out.at 1 rfl; have cA12 := A1_16.out.at 2 rfl; have cA13 := A1_16.out.at 3 rfl
        go_wp2_with fail
        refine (specSame_any _ _ _ _ _ _ _ _ _ _ _ _ (upd (upd f1 K v) K (f1 K)) f1 _ R_16.out X1_16.out (by omega) (by omega)).mono ?_
        rw [heq]
        rintro e w17 ⟨rfl, hb⟩
        have HB_17 := Lib.hid (thru0 HB_16.out hb); have A1_17 := Lib.hid (A1_16.out.below hb); have P1_17 := Lib.hid (P1_16.out.below hb); have X1_17 := Lib.hid (X1_16.out.below hb); have Y1_17 := Lib.hid (Y1_16.out.below hb); have T_17 := Lib.hid (T_16.out.below hb); have R_17 := Lib.hid (R_16.out.below hb)
        go_wp2
        go_ret
        exact ⟨rfl, HB_17.out⟩


theorem e3_any (ca : Option Addr) (k kc : Nat) (B : Nat → Int) (w : World) (hs : SrcB w w.heap.size ca k B) (hk : k ≤ maxLen) : Calls Try.prog 3 #[.slice ca k kc] w (RetBool w true) := by
  by_cases h : k ≤ 1048576
  · exact e3_near ca k kc B w hs h
  · exact e3_far ca k kc w hk (by omega)

end Go.Proofs.Ythejbgmhfajcpaa
