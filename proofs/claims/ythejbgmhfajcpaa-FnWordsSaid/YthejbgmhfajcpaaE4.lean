/- The walk of FnHalves. -/
import Derived.Test.YthejbgmhfajcpaaD4
import Derived.Test.YthejbgmhfajcpaaE10
import Derived.Test.YthejbgmhfajcpaaE11
import Derived.Test.YthejbgmhfajcpaaA15C
import Derived.Deep.Cut
import Derived.Deep.DeepCutAuto
namespace Go.Proofs.Ythejbgmhfajcpaa
open Go.RowKit
set_option linter.unusedVariables false


theorem SrcB.now {w : World} {S : Nat} {a : Option Addr} {k : Nat} {B : Nat → Int} (h : SrcB w S a k B) : SrcB w w.heap.size a k B := by
  rcases h with h | ⟨b, off, h1, h2, h3, h4⟩
  · exact .inl h
  · exact .inr ⟨b, off, h1, h3, h3, h4⟩
theorem run_code (x : Int) (x1 x2 x3 x4 x5 : Value) (w : World) : (Instr.field 30 (.agg #[.int .i64 x, x1, x2, x3, x4, x5]) 0).run Try.prog w = .ok (.int .i64 x) w := by kernel_rfl
theorem lwNums_yes (a1 a2 : Option Addr) (n c1 c2 : Nat) (f g : Nat → Int) (w : World) (he : ∀ i, i < n → f i = g i) (s1 : Src w a1 n f) (s2 : Src w a2 n g) (hn : n ≤ 1048576) :
    Calls Try.prog 35 #[.slice a1 n c1, .slice a2 n c2] w (RetBool w true) := by
  have := lwNums_same a1 a2 n c1 c2 f g w s1 s2 hn
  rwa [eqB_yes he] at this

set_option maxRecDepth 100000 in
set_option maxHeartbeats 400000 in
theorem e4_far (ca : Option Addr) (k kc : Nat) (w : World) (hk : k ≤ maxLen) (h : 1048576 < k) : Calls Try.prog 4 #[.slice ca k kc] w (RetBool w true) := by
  go_enter Try.func4, Try.ntmps4
  go_wp2_with (go_at_call 13; refine (big_yes _ _ _ _ hk h).mono ?_; rintro e w' ⟨rfl, rfl⟩)
  go_ret
  exact ⟨rfl, Below.refl _ _⟩

set_option maxRecDepth 100000 in
set_option maxHeartbeats 6400000 in
theorem e4_near (ca : Option Addr) (k kc : Nat) (B : Nat → Int) (w : World) (hs : SrcB w w.heap.size ca k B) (hk : k ≤ 1048576) :
    Calls Try.prog 4 #[.slice ca k kc] w (RetBool w true) := by
  have SB := Lib.hid hs
  clear hs
  go_enter Try.func4, Try.ntmps4
  go_wp2_with fail
  refine (big_no _ _ _ _ hk).mono ?_
  rintro e w' ⟨rfl, rfl⟩
  go_wp2_with fail
  refine (drawTake_any ca k kc B _ SB.out.now hk).mono ?_
  rintro e w1 ⟨h1, ac1, bu1, q, n1, c1, a1, f1, rfl, ho, hb, hn1, hnc1, hcm1⟩
  have HB1 : Hid (Below w.heap.size w w1) := thru0 (Below.refl _ _) hb
  have z1 : w.heap.size ≤ w1.heap.size := hb.size
  have SB_1 := Lib.hid (SB.out.below hb)
  have X1_1 : Hid (Src w1 a1 n1 f1) := ho.src
  clear hb SB ho
  obtain ⟨⟨co1, rh1, rn1, rf1, rac1, rbu1, rat1⟩, hr1⟩ := isTake_some h1 n1 f1 ac1 bu1 q
  have rs1 : rn1 ≤ 400 := isTake_small hr1
  have HR1 := Lib.hid hr1
  clear hr1
  go_wp2_with fail
  refine (implTake_any h1 ac1 bu1 q a1 n1 c1 f1 _ _ (X1_1.out.alloc _) hnc1 hcm1 HR1.out).mono ?_
  rintro e w2 ⟨v1, e1, rfl, ho, hb⟩
  have HB2 : Hid (Below w.heap.size w w2) := thru1 HB1.out hb
  have z2 : w1.heap.size + 1 ≤ w2.heap.size := by have := hb.size; simp at this; omega
  have SB_2 := Lib.hid ((SB_1.out.alloc _).below hb)
  have X1_2 := Lib.hid ((X1_1.out.alloc _).below hb)
  have A1_2 := Lib.hid ((Blk.new_at (w1.heap.size) (by simp)).below hb)
  have Y1_2 : Hid (Src w2 v1 rn1 rf1) := ho.src
  clear hb SB_1 X1_1 HB1 ho
  go_wp2_with fail
  refine (drawFlip_any ca k kc B _ (SB_2.out.alloc _).now hk).mono ?_
  rintro e w3 ⟨h2, ac2, bu2, n2, c2, a2, f2, rfl, ho, hb, hn2, hnc2, hcm2⟩
  have HB3 : Hid (Below w.heap.size w w3) := thru1 HB2.out hb
  have z3 : w2.heap.size + 1 ≤ w3.heap.size := by have := hb.size; simp at this; omega
  have SB_3 := Lib.hid ((SB_2.out.alloc _).below hb)
  have X1_3 := Lib.hid ((X1_2.out.alloc _).below hb)
  have A1_3 := Lib.hid ((A1_2.out.alloc _).below hb)
  have Y1_3 := Lib.hid ((Y1_2.out.alloc _).below hb)
  have P1_3 := Lib.hid ((Blk.new_at (w2.heap.size) (by simp)).below hb)
  have X2_3 : Hid (Src w3 a2 n2 f2) := ho.src
  clear hb SB_2 X1_2 A1_2 Y1_2 HB2 ho
  obtain ⟨⟨co2, rh2, rn2, rf2, rac2, rbu2, rat2⟩, hr2⟩ := isFlip_some h2 n2 f2 ac2 bu2
  have rs2 : rn2 ≤ 400 := isFlip_small hr2
  have HR2 := Lib.hid hr2
  clear hr2
  go_wp2_with fail
  refine (implFlipC_any h2 ac2 bu2 a2 n2 c2 f2 _ _ (X2_3.out.alloc _) hnc2 hcm2 HR2.out).mono ?_
  rintro e w4 ⟨v2, e2, rfl, ho, hb, hcap2⟩
  have HB4 : Hid (Below w.heap.size w w4) := thru1 HB3.out hb
  have z4 : w3.heap.size + 1 ≤ w4.heap.size := by have := hb.size; simp at this; omega
  have SB_4 := Lib.hid ((SB_3.out.alloc _).below hb)
  have X1_4 := Lib.hid ((X1_3.out.alloc _).below hb)
  have A1_4 := Lib.hid ((A1_3.out.alloc _).below hb)
  have Y1_4 := Lib.hid ((Y1_3.out.alloc _).below hb)
  have P1_4 := Lib.hid ((P1_3.out.alloc _).below hb)
  have X2_4 := Lib.hid ((X2_3.out.alloc _).below hb)
  have A2_4 := Lib.hid ((Blk.new_at (w3.heap.size) (by simp)).below hb)
  have Y2_4 : Hid (Src w4 v2 rn2 rf2) := ho.src
  have HC2 := Lib.hid hcap2
  clear hcap2
  clear hb SB_3 X1_3 A1_3 Y1_3 P1_3 X2_3 HB3 ho
  go_wp2_with fail
  refine (drawNew_any ca k kc B _ (SB_4.out.alloc _).now hk).mono ?_
  rintro e w5 ⟨x, rfl, hb⟩
  have HB5 : Hid (Below w.heap.size w w5) := thru1 HB4.out hb
  have z5 : w4.heap.size + 1 ≤ w5.heap.size := by have := hb.size; simp at this; omega
  have SB_5 := Lib.hid ((SB_4.out.alloc _).below hb)
  have X1_5 := Lib.hid ((X1_4.out.alloc _).below hb)
  have A1_5 := Lib.hid ((A1_4.out.alloc _).below hb)
  have Y1_5 := Lib.hid ((Y1_4.out.alloc _).below hb)
  have P1_5 := Lib.hid ((P1_4.out.alloc _).below hb)
  have X2_5 := Lib.hid ((X2_4.out.alloc _).below hb)
  have A2_5 := Lib.hid ((A2_4.out.alloc _).below hb)
  have Y2_5 := Lib.hid ((Y2_4.out.alloc _).below hb)
  have P2_5 := Lib.hid ((Blk.new_at (w4.heap.size) (by simp)).below hb)
  clear hb SB_4 X1_4 A1_4 Y1_4 P1_4 X2_4 A2_4 Y2_4 HB4
  obtain ⟨⟨co3, rh3, rn3, rf3, rac3, rbu3, rat3⟩, hr3⟩ := isNew_some x
  have rs3 : rn3 ≤ 400 := isNew_small hr3
  have HR3 := Lib.hid hr3
  clear hr3
  go_wp2_with fail
  refine (implNew_any x _ _ HR3.out).mono ?_
  rintro e w6 ⟨v3, e3, rfl, ho, hb⟩
  have HB6 : Hid (Below w.heap.size w w6) := thru0 HB5.out hb
  have z6 : w5.heap.size ≤ w6.heap.size := hb.size
  have SB_6 := Lib.hid (SB_5.out.below hb)
  have X1_6 := Lib.hid (X1_5.out.below hb)
  have A1_6 := Lib.hid (A1_5.out.below hb)
  have Y1_6 := Lib.hid (Y1_5.out.below hb)
  have P1_6 := Lib.hid (P1_5.out.below hb)
  have X2_6 := Lib.hid (X2_5.out.below hb)
  have A2_6 := Lib.hid (A2_5.out.below hb)
  have Y2_6 := Lib.hid (Y2_5.out.below hb)
  have P2_6 := Lib.hid (P2_5.out.below hb)
  have Y3_6 : Hid (Src w6 v3 rn3 rf3) := ho.src
  clear hb SB_5 X1_5 A1_5 Y1_5 P1_5 X2_5 A2_5 Y2_5 P2_5 HB5 ho
  clear SB_6
  go_wp2_with fail
  have X1_7 := Lib.hid (X1_6.out.alloc (.cells #[.int .i64 co3, .int .i64 rh3, .slice v3 rn3 e3, .int .i64 rac3, .int .i64 rbu3, .int .i64 rat3] 30))
  have A1_7 := Lib.hid (A1_6.out.alloc (.cells #[.int .i64 co3, .int .i64 rh3, .slice v3 rn3 e3, .int .i64 rac3, .int .i64 rbu3, .int .i64 rat3] 30))
  have Y1_7 := Lib.hid (Y1_6.out.alloc (.cells #[.int .i64 co3, .int .i64 rh3, .slice v3 rn3 e3, .int .i64 rac3, .int .i64 rbu3, .int .i64 rat3] 30))
  have P1_7 := Lib.hid (P1_6.out.alloc (.cells #[.int .i64 co3, .int .i64 rh3, .slice v3 rn3 e3, .int .i64 rac3, .int .i64 rbu3, .int .i64 rat3] 30))
  have X2_7 := Lib.hid (X2_6.out.alloc (.cells #[.int .i64 co3, .int .i64 rh3, .slice v3 rn3 e3, .int .i64 rac3, .int .i64 rbu3, .int .i64 rat3] 30))
  have A2_7 := Lib.hid (A2_6.out.alloc (.cells #[.int .i64 co3, .int .i64 rh3, .slice v3 rn3 e3, .int .i64 rac3, .int .i64 rbu3, .int .i64 rat3] 30))
  have Y2_7 := Lib.hid (Y2_6.out.alloc (.cells #[.int .i64 co3, .int .i64 rh3, .slice v3 rn3 e3, .int .i64 rac3, .int .i64 rbu3, .int .i64 rat3] 30))
  have P2_7 := Lib.hid (P2_6.out.alloc (.cells #[.int .i64 co3, .int .i64 rh3, .slice v3 rn3 e3, .int .i64 rac3, .int .i64 rbu3, .int .i64 rat3] 30))
  have Y3_7 := Lib.hid (Y3_6.out.alloc (.cells #[.int .i64 co3, .int .i64 rh3, .slice v3 rn3 e3, .int .i64 rac3, .int .i64 rbu3, .int .i64 rat3] 30))
  have P3_7 : Hid (Blk (w6.alloc (.cells #[.int .i64 co3, .int .i64 rh3, .slice v3 rn3 e3, .int .i64 rac3, .int .i64 rbu3, .int .i64 rat3] 30)) w6.heap.size [.int .i64 co3, .int .i64 rh3, .slice v3 rn3 e3, .int .i64 rac3, .int .i64 rbu3, .int .i64 rat3]) := Blk.new_at (w6.heap.size) rfl
  have HB7 : Hid (Below w.heap.size w (w6.alloc (.cells #[.int .i64 co3, .int .i64 rh3, .slice v3 rn3 e3, .int .i64 rac3, .int .i64 rbu3, .int .i64 rat3] 30))) := HB6.out.alloc HB6.out.size _
  have z7 : w6.heap.size + 1 ≤ (w6.alloc (.cells #[.int .i64 co3, .int .i64 rh3, .slice v3 rn3 e3, .int .i64 rac3, .int .i64 rbu3, .int .i64 rat3] 30)).heap.size := by simp
  clear HB6 X1_6 A1_6 Y1_6 P1_6 X2_6 A2_6 Y2_6 P2_6 Y3_6
  generalize w6.alloc (.cells #[.int .i64 co3, .int .i64 rh3, .slice v3 rn3 e3, .int .i64 rac3, .int .i64 rbu3, .int .i64 rat3] 30) = w7 at *
  have A1_d := Lib.hid A1_7.out.drew
  have A2_d := Lib.hid A2_7.out.drew
  have P1_d := Lib.hid P1_7.out.drew
  have P2_d := Lib.hid P2_7.out.drew
  have P3_d := Lib.hid P3_7.out.drew
  have X1_d := Lib.hid X1_7.out.drew
  have X2_d := Lib.hid X2_7.out.drew
  have Y1_d := Lib.hid Y1_7.out.drew
  have Y2_d := Lib.hid Y2_7.out.drew
  have Y3_d := Lib.hid Y3_7.out.drew
  have HB_d := Lib.hid HB7.out.drew
  clear HB7 X1_7 A1_7 Y1_7 P1_7 X2_7 A2_7 Y2_7 P2_7 Y3_7 P3_7
  have hfld := run_code
  go_region_held3 (fun w' => w'.cell? ⟨w1.heap.size, 0, none⟩ = some (.int .i64 h1) ∧ w'.cell? ⟨w1.heap.size, 1, none⟩ = some (.slice a1 n1 c1) ∧ w'.cell? ⟨w1.heap.size, 2, none⟩ = some (.int .i64 ac1) ∧ w'.cell? ⟨w1.heap.size, 3, none⟩ = some (.int .i64 bu1) ∧ w'.cell? ⟨w3.heap.size, 0, none⟩ = some (.int .i64 h2) ∧ w'.cell? ⟨w3.heap.size, 1, none⟩ = some (.slice a2 n2 c2) ∧ w'.cell? ⟨w3.heap.size, 2, none⟩ = some (.int .i64 ac2) ∧ w'.cell? ⟨w3.heap.size, 3, none⟩ = some (.int .i64 bu2) ∧ w'.cell? ⟨w2.heap.size, 0, none⟩ = some (.int .i64 co1) ∧ w'.cell? ⟨w4.heap.size, 0, none⟩ = some (.int .i64 co2) ∧ w'.cell? ⟨w6.heap.size, 0, none⟩ = some (.int .i64 co3))
    (first | with_reducible exact ⟨A1_d.out.at 0 rfl, A1_d.out.at 1 rfl, A1_d.out.at 2 rfl, A1_d.out.at 3 rfl, A2_d.out.at 0 rfl, A2_d.out.at 1 rfl, A2_d.out.at 2 rfl, A2_d.out.at 3 rfl, P1_d.out.at 0 rfl, P2_d.out.at 0 rfl, P3_d.out.at 0 rfl⟩ | with_reducible exact ⟨A1_8.out.at 0 rfl, A1_8.out.at 1 rfl, A1_8.out.at 2 rfl, A1_8.out.at 3 rfl, A2_8.out.at 0 rfl, A2_8.out.at 1 rfl, A2_8.out.at 2 rfl, A2_8.out.at 3 rfl, P1_8.out.at 0 rfl, P2_8.out.at 0 rfl, P3_8.out.at 0 rfl⟩ | with_reducible exact ⟨A1_9.out.at 0 rfl, A1_9.out.at 1 rfl, A1_9.out.at 2 rfl, A1_9.out.at 3 rfl, A2_9.out.at 0 rfl, A2_9.out.at 1 rfl, A2_9.out.at 2 rfl, A2_9.out.at 3 rfl, P1_9.out.at 0 rfl, P2_9.out.at 0 rfl, P3_9.out.at 0 rfl⟩ | with_reducible exact ⟨A1_10.out.at 0 rfl, A1_10.out.at 1 rfl, A1_10.out.at 2 rfl, A1_10.out.at 3 rfl, A2_10.out.at 0 rfl, A2_10.out.at 1 rfl, A2_10.out.at 2 rfl, A2_10.out.at 3 rfl, P1_10.out.at 0 rfl, P2_10.out.at 0 rfl, P3_10.out.at 0 rfl⟩)
    (first | (go_at_call 32; refine (specTake_any h1 ac1 bu1 q a1 n1 c1 f1 _ _ X1_d.out hnc1 hcm1 HR1.out).mono ?_; rintro e w8 ⟨_, _, rfl, ho, hb⟩; have HB8 := Lib.hid (thru0 HB_d.out hb); have A1_8 := Lib.hid (A1_d.out.below hb); have A2_8 := Lib.hid (A2_d.out.below hb); have P1_8 := Lib.hid (P1_d.out.below hb); have P2_8 := Lib.hid (P2_d.out.below hb); have P3_8 := Lib.hid (P3_d.out.below hb); have X1_8 := Lib.hid (X1_d.out.below hb); have X2_8 := Lib.hid (X2_d.out.below hb); have Y1_8 := Lib.hid (Y1_d.out.below hb); have Y2_8 := Lib.hid (Y2_d.out.below hb); have Y3_8 := Lib.hid (Y3_d.out.below hb); clear hb ho) | (go_at_call 33; refine (specFlip_any h2 ac2 bu2 a2 n2 c2 f2 _ _ X2_8.out hnc2 hcm2 HR2.out).mono ?_; rintro e w9 ⟨_, _, rfl, ho, hb⟩; have HB9 := Lib.hid (thru0 HB8.out hb); have A1_9 := Lib.hid (A1_8.out.below hb); have A2_9 := Lib.hid (A2_8.out.below hb); have P1_9 := Lib.hid (P1_8.out.below hb); have P2_9 := Lib.hid (P2_8.out.below hb); have P3_9 := Lib.hid (P3_8.out.below hb); have X1_9 := Lib.hid (X1_8.out.below hb); have X2_9 := Lib.hid (X2_8.out.below hb); have Y1_9 := Lib.hid (Y1_8.out.below hb); have Y2_9 := Lib.hid (Y2_8.out.below hb); have Y3_9 := Lib.hid (Y3_8.out.below hb); clear hb ho) | (go_at_call 34; refine (specNew_any x _ _ HR3.out).mono ?_; rintro e w10 ⟨_, _, rfl, ho, hb⟩; have HB10 := Lib.hid (thru0 HB9.out hb); have A1_10 := Lib.hid (A1_9.out.below hb); have A2_10 := Lib.hid (A2_9.out.below hb); have P1_10 := Lib.hid (P1_9.out.below hb); have P2_10 := Lib.hid (P2_9.out.below hb); have P3_10 := Lib.hid (P3_9.out.below hb); have X1_10 := Lib.hid (X1_9.out.below hb); have X2_10 := Lib.hid (X2_9.out.below hb); have Y1_10 := Lib.hid (Y1_9.out.below hb); have Y2_10 := Lib.hid (Y2_9.out.below hb); have Y3_10 := Lib.hid (Y3_9.out.below hb); clear hb ho))
  clear hfld
  clear A1_d A2_d P1_d P2_d P3_d X1_d X2_d Y1_d Y2_d Y3_d A1_8 A2_8 P1_8 P2_8 P3_8 X1_8 X2_8 Y1_8 Y2_8 Y3_8 A1_9 A2_9 P1_9 P2_9 P3_9 X1_9 X2_9 Y1_9 Y2_9 Y3_9 HB_d HB8 HB9
  go_upto_region 11 with (fail)
  go_cut [77] (fun s77 wx => s77 = .bool false ∧ Hid (Below w.heap.size w wx) ∧ Hid (Blk wx w3.heap.size [.int .i64 h2, .slice a2 n2 c2, .int .i64 ac2, .int .i64 bu2]) ∧ Hid (Blk wx w4.heap.size [.int .i64 co2, .int .i64 rh2, .slice v2 rn2 e2, .int .i64 rac2, .int .i64 rbu2, .int .i64 rat2]) ∧ Hid (Src wx a2 n2 f2) ∧ Hid (Src wx v2 rn2 rf2) ∧ Hid (Blk wx w1.heap.size [.int .i64 h1, .slice a1 n1 c1, .int .i64 ac1, .int .i64 bu1]) ∧ Hid (Blk wx w2.heap.size [.int .i64 co1, .int .i64 rh1, .slice v1 rn1 e1, .int .i64 rac1, .int .i64 rbu1, .int .i64 rat1]) ∧ Hid (Src wx a1 n1 f1) ∧ Hid (Src wx v1 rn1 rf1))
  case first =>
    rcases HR3.out with ⟨hx, he⟩ | ⟨hx, m, hxm, he⟩
    · simp only [errAR, AR.mk.injEq] at he
      obtain ⟨rfl, rfl, rfl, rfl, rfl, rfl, rfl⟩ := he
      have c0 := P3_10.out.at 0 rfl
      go_wp2_with fail
      go_meet
      exact ⟨rfl, HB10, A2_10, P2_10, X2_10, Y2_10, A1_10, P1_10, X1_10, Y1_10⟩
    · simp only [AR.mk.injEq] at he
      obtain ⟨rfl, rfl, rfl, rfl, rfl, rfl, rfl⟩ := he
      subst hxm
      have hf : IsFault (m : Int) (2 * m) (fun _ => 0) 0 0 0 := .inr (.inr (.inr ⟨⟨hx, by omega, by omega⟩, by omega, fun i _ => (show Word 0 by unfold Word; omega), rfl⟩))
      have HF := Lib.hid hf
      have hx1 := hx.1; have hx2 := hx.2
      have c0 := P3_10.out.at 0 rfl; have c1 := P3_10.out.at 1 rfl; have c2 := P3_10.out.at 2 rfl; have c3 := P3_10.out.at 3 rfl; have c4 := P3_10.out.at 4 rfl; have c5 := P3_10.out.at 5 rfl; have lP := P3_10.out.1
      clear hf hx
      go_wp2_with fail
      refine (implFault_any _ _ _ _ _ _ (fun _ => 0) 0 _ Y3_10.out HF.out).mono ?_
      rintro e w11 ⟨rfl, hb⟩
      have HB11 := Lib.hid (thru0 HB10.out hb)
      have A2_11 := Lib.hid (A2_10.out.below hb); have P2_11 := Lib.hid (P2_10.out.below hb); have X2_11 := Lib.hid (X2_10.out.below hb); have Y2_11 := Lib.hid (Y2_10.out.below hb); have A1_11 := Lib.hid (A1_10.out.below hb); have P1_11 := Lib.hid (P1_10.out.below hb); have X1_11 := Lib.hid (X1_10.out.below hb); have Y1_11 := Lib.hid (Y1_10.out.below hb); have P3_11 := Lib.hid (P3_10.out.below hb)
      clear hb c0 c1 c2 c3 c4 c5
      have c0 := P3_11.out.at 0 rfl; have c1 := P3_11.out.at 1 rfl; have c2 := P3_11.out.at 2 rfl
      go_wp2_with fail
      go_meet
      exact ⟨rfl, HB11, A2_11, P2_11, X2_11, Y2_11, A1_11, P1_11, X1_11, Y1_11⟩
  case rest =>
    obtain ⟨rfl, HB_a, A2_a, P2_a, X2_a, Y2_a, A1_a, P1_a, X1_a, Y1_a⟩ := hcut
    clear HB10 A1_10 A2_10 P1_10 P2_10 P3_10 X1_10 X2_10 Y1_10 Y2_10 Y3_10 HR3
    go_upto_region 13 with (fail)
    go_cut [112] (fun s112 wx => s112 = .bool false ∧ Hid (Below w.heap.size w wx) ∧ Hid (Blk wx w3.heap.size [.int .i64 h2, .slice a2 n2 c2, .int .i64 ac2, .int .i64 bu2]) ∧ Hid (Blk wx w4.heap.size [.int .i64 co2, .int .i64 rh2, .slice v2 rn2 e2, .int .i64 rac2, .int .i64 rbu2, .int .i64 rat2]) ∧ Hid (Src wx a2 n2 f2) ∧ Hid (Src wx v2 rn2 rf2))
    case first =>
      have c0 := P1_a.out.at 0 rfl
      rcases HR1.out with ⟨kf, hkf, h0, he⟩ | ⟨hkf, hp, he⟩ | ⟨hkf, hp, hq, he⟩ | ⟨hkf, hp, hq, he⟩
      · simp only [errAR, AR.mk.injEq] at he
        have hz0 : (co1 == 0) = false := by rw [he.1]; simpa using h0
        clear he hkf h0
        go_wp2_with fail
        go_meet
        exact ⟨rfl, HB_a, A2_a, P2_a, X2_a, Y2_a⟩
      · simp only [errAR, AR.mk.injEq] at he
        have hz0 : (co1 == 0) = false := by rw [he.1]; rfl
        clear he hkf hp
        go_wp2_with fail
        go_meet
        exact ⟨rfl, HB_a, A2_a, P2_a, X2_a, Y2_a⟩
      · simp only [errAR, AR.mk.injEq] at he
        have hz0 : (co1 == 0) = false := by rw [he.1]; rfl
        clear he hkf hp hq
        go_wp2_with fail
        go_meet
        exact ⟨rfl, HB_a, A2_a, P2_a, X2_a, Y2_a⟩
      · obtain ⟨⟨⟨g1, g2⟩, ⟨g3, g4⟩, g5, g6⟩, gn, _⟩ := isFault_ok hkf
        obtain ⟨hp1, hp2⟩ := hp
        simp only [AR.mk.injEq] at he
        obtain ⟨rfl, rfl, rfl, rfl, rfl, rfl, hat⟩ := he
        rcases (by omega : rac1 = 0 ∨ rac1 = 1) with rfl | rfl
        · rw [show baseI 0 rh1 = 0 by simp [baseI], Int.zero_add] at hat
          subst hat
          clear c0 hkf gn
          have c0 := P1_a.out.at 0 rfl; have c1 := P1_a.out.at 1 rfl; have c2 := P1_a.out.at 2 rfl; have c3 := P1_a.out.at 3 rfl; have c4 := P1_a.out.at 4 rfl; have c5 := P1_a.out.at 5 rfl
          have d0 := A1_a.out.at 0 rfl; have d1 := A1_a.out.at 1 rfl; have d2 := A1_a.out.at 2 rfl; have d3 := A1_a.out.at 3 rfl
          go_wp2_with fail
          refine (lwNums_yes _ _ _ _ _ _ _ _ (fun _ _ => rfl) Y1_a.out X1_a.out (by omega)).mono ?_
          rintro e w12 ⟨rfl, hb⟩
          have HB_b := Lib.hid (thru0 HB_a.out hb)
          have A2_b := Lib.hid (A2_a.out.below hb); have P2_b := Lib.hid (P2_a.out.below hb); have X2_b := Lib.hid (X2_a.out.below hb); have Y2_b := Lib.hid (Y2_a.out.below hb)
          clear hb
          go_wp2_with fail
          go_meet
          exact ⟨rfl, HB_b, A2_b, P2_b, X2_b, Y2_b⟩
        · rw [show baseI 1 rh1 = rh1 by simp [baseI]] at hat
          subst hat
          clear c0 hkf gn
          have c0 := P1_a.out.at 0 rfl; have c1 := P1_a.out.at 1 rfl; have c2 := P1_a.out.at 2 rfl; have c3 := P1_a.out.at 3 rfl; have c4 := P1_a.out.at 4 rfl; have c5 := P1_a.out.at 5 rfl
          have d0 := A1_a.out.at 0 rfl; have d1 := A1_a.out.at 1 rfl; have d2 := A1_a.out.at 2 rfl; have d3 := A1_a.out.at 3 rfl
          go_wp2_with fail
          refine (lwNums_yes _ _ _ _ _ _ _ _ (fun _ _ => rfl) Y1_a.out X1_a.out (by omega)).mono ?_
          rintro e w12 ⟨rfl, hb⟩
          have HB_b := Lib.hid (thru0 HB_a.out hb)
          have A2_b := Lib.hid (A2_a.out.below hb); have P2_b := Lib.hid (P2_a.out.below hb); have X2_b := Lib.hid (X2_a.out.below hb); have Y2_b := Lib.hid (Y2_a.out.below hb)
          clear hb
          go_wp2_with fail
          go_meet
          exact ⟨rfl, HB_b, A2_b, P2_b, X2_b, Y2_b⟩
    case rest =>
      obtain ⟨rfl, HB_c, A2_c, P2_c, X2_c, Y2_c⟩ := hcut
      clear HB_a A2_a P2_a X2_a Y2_a A1_a P1_a X1_a Y1_a HR1
      have c0 := P2_c.out.at 0 rfl
      rcases HR2.out with ⟨kf, hkf, h0, he⟩ | ⟨hkf, he⟩
      · simp only [errAR, AR.mk.injEq] at he
        have hz0 : (co2 != 0) = true := by rw [he.1]; simpa using h0
        clear he hkf h0
        go_wp2
        go_ret
        exact ⟨rfl, HB_c.out⟩
      · obtain ⟨⟨⟨g1, g2⟩, ⟨g3, g4⟩, g5, g6⟩, gn, gw⟩ := isFault_ok hkf
        simp only [AR.mk.injEq] at he
        obtain ⟨rfl, rfl, rfl, rfl, rfl, rfl, rfl⟩ := he
        obtain ⟨m, rfl⟩ : ∃ m : Nat, rh2 = m := ⟨rh2.toNat, by omega⟩
        obtain rfl : rn2 = 2 * m := by omega
        have hcap := HC2.out rfl
        have HCa := Lib.hid hcap
        clear c0 hkf gn HR2 HC2 hcap
        have GW := Lib.hid gw
        clear gw
        rcases (by omega : ac2 = 0 ∨ ac2 = 1) with rfl | rfl
        · have e1 : baseI 0 (m : Int) = 0 := by simp [baseI]
          have hf4 : IsFault (m : Int) (2 * m) (zeroR f2 (baseI 0 (m : Int)).toNat (m : Int).toNat) 1 0 0 := .inr (.inr (.inr ⟨⟨⟨g1, g2⟩, by omega, by omega⟩, by omega, fun i hi => (by simp only [zeroR]; split; exact (show Word 0 by unfold Word; omega); exact GW.out i hi), rfl⟩))
          have hr4 : IsFlip (m : Int) (2 * m) (zeroR f2 (baseI 0 (m : Int)).toNat (m : Int).toNat) 1 0 ⟨0, m, 2 * m, zeroR (zeroR f2 (baseI 0 (m : Int)).toNat (m : Int).toNat) m m, 0, 0, 0⟩ := .inr ⟨hf4, by simp [baseI]⟩
          have hG : ∀ i, i < 2 * m → zeroR (zeroR f2 (baseI 0 (m : Int)).toNat (m : Int).toNat) m m i = 0 := by
            intro i hi; simp only [zeroR, e1, Int.toNat_natCast, Int.toNat_zero]
            split
            · rfl
            · split
              · rfl
              · omega
          have HR4 := Lib.hid hr4
          have HG := Lib.hid hG
          clear hf4 hr4 hG e1
          have c0 := P2_c.out.at 0 rfl; have c1 := P2_c.out.at 1 rfl; have c2 := P2_c.out.at 2 rfl; have c3 := P2_c.out.at 3 rfl; have c4 := P2_c.out.at 4 rfl; have c5 := P2_c.out.at 5 rfl
          go_wp2_with fail
          refine (implFlipC_any _ _ _ _ _ _ (zeroR f2 (baseI 0 (m : Int)).toNat (m : Int).toNat) _ _ Y2_c.out HCa.out.1 HCa.out.2 HR4.out).mono ?_
          rintro e w13 ⟨v4, e4, rfl, ho, hb, _⟩
          have HB_d := Lib.hid (thru0 HB_c.out hb)
          have A2_d := Lib.hid (A2_c.out.below hb)
          have P2_d := Lib.hid (P2_c.out.below hb)
          have Y4_d : Hid (Src w13 v4 (2 * m) (fun _ => 0)) := ho.src.congr HG.out
          clear hb ho c0 c1 c2 c3 c4 c5 HB_c A2_c P2_c X2_c Y2_c HG HR4
          go_wp2
          have HB_e : Hid (Below w.heap.size w (w13.alloc (.cells #[.int .i64 0, .int .i64 (m : Int), .slice v4 (2 * m) e4, .int .i64 0, .int .i64 0, .int .i64 0] 30))) := HB_d.out.alloc HB_d.out.size _
          have A2_e := Lib.hid (A2_d.out.alloc (.cells #[.int .i64 0, .int .i64 (m : Int), .slice v4 (2 * m) e4, .int .i64 0, .int .i64 0, .int .i64 0] 30))
          have P2_e := Lib.hid (P2_d.out.alloc (.cells #[.int .i64 0, .int .i64 (m : Int), .slice v4 (2 * m) e4, .int .i64 0, .int .i64 0, .int .i64 0] 30))
          have Y4_e := Lib.hid (Y4_d.out.alloc (.cells #[.int .i64 0, .int .i64 (m : Int), .slice v4 (2 * m) e4, .int .i64 0, .int .i64 0, .int .i64 0] 30))
          have P4_e : Hid (Blk (w13.alloc (.cells #[.int .i64 0, .int .i64 (m : Int), .slice v4 (2 * m) e4, .int .i64 0, .int .i64 0, .int .i64 0] 30)) w13.heap.size [.int .i64 0, .int .i64 (m : Int), .slice v4 (2 * m) e4, .int .i64 0, .int .i64 0, .int .i64 0]) := Blk.new_at (w13.heap.size) rfl
          clear HB_d A2_d P2_d Y4_d
          generalize w13.alloc (.cells #[.int .i64 0, .int .i64 (m : Int), .slice v4 (2 * m) e4, .int .i64 0, .int .i64 0, .int .i64 0] 30) = w14 at *
          have c0 := P4_e.out.at 0 rfl; have c1 := P4_e.out.at 1 rfl; have c2 := P4_e.out.at 2 rfl; have c3 := P4_e.out.at 3 rfl; have c4 := P4_e.out.at 4 rfl; have c5 := P4_e.out.at 5 rfl
          go_loop [11] (fun p => ∃ i : Nat, i ≤ 2 * m ∧ p = .int .i64 (i : Int)) (fun p => 2 * m - (intOf p).toNat)
          case atStart => exact ⟨0, Nat.zero_le _, rfl⟩
          case round =>
            obtain ⟨i, hi, rfl⟩ := hrel
            by_cases hlt : i < 2 * m
            · obtain ⟨yb, yo, rfl, hyb, hyc⟩ := src_some Y4_e.out (by omega)
              have cy := hyc i hlt
              have hlt' : (i : Int) < 2 * (m : Int) := by omega
              clear hyc
              go_wp2
              go_round
              case rel => exact ⟨i + 1, by omega, by go_num⟩
              case measure => simp [intOf]; omega
            · have d0 := P2_e.out.at 0 rfl; have d1 := P2_e.out.at 1 rfl; have d2 := P2_e.out.at 2 rfl; have d3 := P2_e.out.at 3 rfl; have d4 := P2_e.out.at 4 rfl; have d5 := P2_e.out.at 5 rfl
              have b0 := A2_e.out.at 0 rfl; have b1 := A2_e.out.at 1 rfl; have b2 := A2_e.out.at 2 rfl; have b3 := A2_e.out.at 3 rfl
              go_wp2
              go_ret
              exact ⟨rfl, HB_e.out⟩
        · have e1 : baseI 1 (m : Int) = m := by simp [baseI]
          have hf4 : IsFault (m : Int) (2 * m) (zeroR f2 (baseI 1 (m : Int)).toNat (m : Int).toNat) 0 0 0 := .inr (.inr (.inr ⟨⟨⟨g1, g2⟩, by omega, by omega⟩, by omega, fun i hi => (by simp only [zeroR]; split; exact (show Word 0 by unfold Word; omega); exact GW.out i hi), rfl⟩))
          have hr4 : IsFlip (m : Int) (2 * m) (zeroR f2 (baseI 1 (m : Int)).toNat (m : Int).toNat) 0 0 ⟨0, m, 2 * m, zeroR (zeroR f2 (baseI 1 (m : Int)).toNat (m : Int).toNat) 0 m, 1, 0, 0⟩ := .inr ⟨hf4, by simp [baseI]⟩
          have hG : ∀ i, i < 2 * m → zeroR (zeroR f2 (baseI 1 (m : Int)).toNat (m : Int).toNat) 0 m i = 0 := by
            intro i hi; simp only [zeroR, e1, Int.toNat_natCast]
            split
            · rfl
            · split
              · rfl
              · omega
          have HR4 := Lib.hid hr4
          have HG := Lib.hid hG
          clear hf4 hr4 hG e1
          have c0 := P2_c.out.at 0 rfl; have c1 := P2_c.out.at 1 rfl; have c2 := P2_c.out.at 2 rfl; have c3 := P2_c.out.at 3 rfl; have c4 := P2_c.out.at 4 rfl; have c5 := P2_c.out.at 5 rfl
          go_wp2_with fail
          refine (implFlipC_any _ _ _ _ _ _ (zeroR f2 (baseI 1 (m : Int)).toNat (m : Int).toNat) _ _ Y2_c.out HCa.out.1 HCa.out.2 HR4.out).mono ?_
          rintro e w13 ⟨v4, e4, rfl, ho, hb, _⟩
          have HB_d := Lib.hid (thru0 HB_c.out hb)
          have A2_d := Lib.hid (A2_c.out.below hb)
          have P2_d := Lib.hid (P2_c.out.below hb)
          have Y4_d : Hid (Src w13 v4 (2 * m) (fun _ => 0)) := ho.src.congr HG.out
          clear hb ho c0 c1 c2 c3 c4 c5 HB_c A2_c P2_c X2_c Y2_c HG HR4
          go_wp2
          have HB_e : Hid (Below w.heap.size w (w13.alloc (.cells #[.int .i64 0, .int .i64 (m : Int), .slice v4 (2 * m) e4, .int .i64 1, .int .i64 0, .int .i64 0] 30))) := HB_d.out.alloc HB_d.out.size _
          have A2_e := Lib.hid (A2_d.out.alloc (.cells #[.int .i64 0, .int .i64 (m : Int), .slice v4 (2 * m) e4, .int .i64 1, .int .i64 0, .int .i64 0] 30))
          have P2_e := Lib.hid (P2_d.out.alloc (.cells #[.int .i64 0, .int .i64 (m : Int), .slice v4 (2 * m) e4, .int .i64 1, .int .i64 0, .int .i64 0] 30))
          have Y4_e := Lib.hid (Y4_d.out.alloc (.cells #[.int .i64 0, .int .i64 (m : Int), .slice v4 (2 * m) e4, .int .i64 1, .int .i64 0, .int .i64 0] 30))
          have P4_e : Hid (Blk (w13.alloc (.cells #[.int .i64 0, .int .i64 (m : Int), .slice v4 (2 * m) e4, .int .i64 1, .int .i64 0, .int .i64 0] 30)) w13.heap.size [.int .i64 0, .int .i64 (m : Int), .slice v4 (2 * m) e4, .int .i64 1, .int .i64 0, .int .i64 0]) := Blk.new_at (w13.heap.size) rfl
          clear HB_d A2_d P2_d Y4_d
          generalize w13.alloc (.cells #[.int .i64 0, .int .i64 (m : Int), .slice v4 (2 * m) e4, .int .i64 1, .int .i64 0, .int .i64 0] 30) = w14 at *
          have c0 := P4_e.out.at 0 rfl; have c1 := P4_e.out.at 1 rfl; have c2 := P4_e.out.at 2 rfl; have c3 := P4_e.out.at 3 rfl; have c4 := P4_e.out.at 4 rfl; have c5 := P4_e.out.at 5 rfl
          go_loop [11] (fun p => ∃ i : Nat, i ≤ 2 * m ∧ p = .int .i64 (i : Int)) (fun p => 2 * m - (intOf p).toNat)
          case atStart => exact ⟨0, Nat.zero_le _, rfl⟩
          case round =>
            obtain ⟨i, hi, rfl⟩ := hrel
            by_cases hlt : i < 2 * m
            · obtain ⟨yb, yo, rfl, hyb, hyc⟩ := src_some Y4_e.out (by omega)
              have cy := hyc i hlt
              have hlt' : (i : Int) < 2 * (m : Int) := by omega
              clear hyc
              go_wp2
              go_round
              case rel => exact ⟨i + 1, by omega, by go_num⟩
              case measure => simp [intOf]; omega
            · have d0 := P2_e.out.at 0 rfl; have d1 := P2_e.out.at 1 rfl; have d2 := P2_e.out.at 2 rfl; have d3 := P2_e.out.at 3 rfl; have d4 := P2_e.out.at 4 rfl; have d5 := P2_e.out.at 5 rfl
              have b0 := A2_e.out.at 0 rfl; have b1 := A2_e.out.at 1 rfl; have b2 := A2_e.out.at 2 rfl; have b3 := A2_e.out.at 3 rfl
              go_wp2
              go_ret
              exact ⟨rfl, HB_e.out⟩


theorem e4_any (ca : Option Addr) (k kc : Nat) (B : Nat → Int) (w : World) (hs : SrcB w w.heap.size ca k B) (hk : k ≤ maxLen) : Calls Try.prog 4 #[.slice ca k kc] w (RetBool w true) := by
  by_cases h : k ≤ 1048576
  · exact e4_near ca k kc B w hs h
  · exact e4_far ca k kc w hk (by omega)

end Go.Proofs.Ythejbgmhfajcpaa
