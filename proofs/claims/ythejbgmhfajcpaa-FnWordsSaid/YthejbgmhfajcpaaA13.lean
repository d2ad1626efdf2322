/- Contracts: TakeWords, where it is done. -/
import Derived.Test.YthejbgmhfajcpaaA12
namespace Go.Proofs.Ythejbgmhfajcpaa
open Go.RowKit
set_option linter.unusedVariables false

set_option maxHeartbeats 1600000 in
theorem specTake_ok (h ac bu q : Int) (a : Option Addr) (n c : Nat) (f : Nat → Int) (w : World) (hs : Src w a n f) (hcn : n ≤ c) (hcm : c ≤ maxLen) (hk : IsFault h n f ac bu 0) (hp : 1 ≤ q ∧ q ≤ h) (hq : bu + q ≤ h) :
    Calls Try.prog 32 #[.agg #[.int .i64 h, .slice a n c, .int .i64 ac, .int .i64 bu], .int .i64 q] w (RetRes w ⟨0, h, n, f, ac, bu + q, baseI ac h + bu⟩) := by
  obtain ⟨⟨⟨g1, g2⟩, ⟨g3, g4⟩, g5, g6⟩, gn, _⟩ := isFault_ok hk
  have gn1 : 0 < n := by omega
  have gn2 : n ≤ 400 := by omega
  obtain ⟨gb1, gb2⟩ := baseI_bd (ac := ac) g1
  have HS := Lib.hid hs
  have HK := Lib.hid hk
  have HP := Lib.hid hp
  clear hs hk hp
  clear gn
  have hp1 := HP.out.1
  have hp2 := HP.out.2
  go_enter Try.func32, Try.ntmps32
  go_wp2_with fail
  refine (specFault_any _ _ _ _ _ _ f 0 _ ((HS.out.alloc _).alloc _) HK.out).mono ?_
  rintro e w1 ⟨rfl, hb⟩
  have HB1 : Hid (Below w.heap.size w w1) := thru2 (Below.refl _ _) hb
  have z1 : w.heap.size + 2 ≤ w1.heap.size := by have := hb.size; simp at this; omega
  have HS_1 := Lib.hid (((HS.out.alloc _).alloc _).below hb)
  have A_1 := Lib.hid (((Blk.new_at (w.heap.size) (by simp)).alloc _).below hb)
  have R_1 := Lib.hid ((Blk.new_at (w.heap.size + 1) (by simp)).below hb)
  clear hb HS
  have lA := A_1.out.1
  have cA0 := A_1.out.at 0 rfl
  have cA1 := A_1.out.at 1 rfl
  have cA2 := A_1.out.at 2 rfl
  have cA3 := A_1.out.at 3 rfl
  go_wp2_with fail
  refine (l1In_yes _ _ _ _ HP.out.1 HP.out.2).mono ?_
  rintro e w' ⟨rfl, rfl⟩
  go_wp2_with fail
  refine (l1Copy_any _ _ _ _ _ _ _ f _ A_1.out HS_1.out gn1 (by omega)).mono ?_
  rintro e w2 ⟨u2, c2, rfl, ho, hb, hc2, hcm2, hn2⟩
  have HB2 : Hid (Below w.heap.size w w2) := thru0 HB1.out hb
  have z2 : w1.heap.size ≤ w2.heap.size := hb.size
  have HS_2 := Lib.hid (HS_1.out.below hb)
  have A_2 := Lib.hid (A_1.out.below hb)
  have R_2 := Lib.hid (R_1.out.below hb)
  have RW_2 : Hid (OwnIn w2 w1.heap.size w2.heap.size u2 n f) := ho.into
  clear hb lA cA0 cA1 cA2 cA3 HS_1 A_1 R_1 HB1 ho
  clear HS_2
  go_wp2_with fail
  have C_d : Hid (Blk ((w2.alloc (.cells #[.int .i64 h, .slice u2 n c2, .int .i64 ac, .int .i64 (bu + q)] 26)).drew) w2.heap.size [.int .i64 h, .slice u2 n c2, .int .i64 ac, .int .i64 (bu + q)]) := (Blk.new_at (w2.heap.size) rfl).drew
  have A_d := Lib.hid (A_2.out.alloc (.cells #[.int .i64 h, .slice u2 n c2, .int .i64 ac, .int .i64 (bu + q)] 26)).drew
  have R_d := Lib.hid (R_2.out.alloc (.cells #[.int .i64 h, .slice u2 n c2, .int .i64 ac, .int .i64 (bu + q)] 26)).drew
  have RW_d := Lib.hid (RW_2.out.alloc (.cells #[.int .i64 h, .slice u2 n c2, .int .i64 ac, .int .i64 (bu + q)] 26)).drew
  have HB_d : Hid (Below w.heap.size w ((w2.alloc (.cells #[.int .i64 h, .slice u2 n c2, .int .i64 ac, .int .i64 (bu + q)] 26)).drew)) := (HB2.out.alloc HB2.out.size _).drew
  have lRC := R_2.out.1
  have nRC : w.heap.size + 1 ≠ w2.heap.size := by omega
  go_region_held3 (fun w' => w'.cell? ⟨w2.heap.size, 0, none⟩ = some (.int .i64 h) ∧ w'.cell? ⟨w2.heap.size, 1, none⟩ = some (.slice u2 n c2) ∧ w'.cell? ⟨w2.heap.size, 2, none⟩ = some (.int .i64 ac) ∧ w'.cell? ⟨w2.heap.size, 3, none⟩ = some (.int .i64 (bu + q)) ∧ w'.cell? ⟨w.heap.size, 0, none⟩ = some (.int .i64 h) ∧ w'.cell? ⟨w.heap.size, 1, none⟩ = some (.slice a n c) ∧ w'.cell? ⟨w.heap.size, 2, none⟩ = some (.int .i64 ac) ∧ w'.cell? ⟨w.heap.size, 3, none⟩ = some (.int .i64 bu))
    (first | with_reducible exact ⟨C_d.out.at 0 rfl, C_d.out.at 1 rfl, C_d.out.at 2 rfl, C_d.out.at 3 rfl, A_d.out.at 0 rfl, A_d.out.at 1 rfl, A_d.out.at 2 rfl, A_d.out.at 3 rfl⟩ | with_reducible exact ⟨C_3.out.at 0 rfl, C_3.out.at 1 rfl, C_3.out.at 2 rfl, C_3.out.at 3 rfl, A_3.out.at 0 rfl, A_3.out.at 1 rfl, A_3.out.at 2 rfl, A_3.out.at 3 rfl⟩ | go_keep)
    (first | (go_at_call 63; refine (l1Base_any _ _ _ _ _ _ _ _ A_d.out g1 g2 g3 g4).mono ?_; rintro e w3 ⟨rfl, hb⟩; have HB3 := Lib.hid (thru0 HB_d.out hb); have A_3 := Lib.hid (A_d.out.below hb); have R_3 := Lib.hid (R_d.out.below hb); have C_3 := Lib.hid (C_d.out.below hb); have RW_3 := Lib.hid (RW_d.out.below hb); clear hb; have cR0 := R_3.out.at 0 rfl; have fR0 := R_3.out.free 0 rfl; have cR1 := R_3.out.at 1 rfl; have fR1 := R_3.out.free 1 rfl; have cR2 := R_3.out.at 2 rfl; have fR2 := R_3.out.free 2 rfl; have cR3 := R_3.out.at 3 rfl; have fR3 := R_3.out.free 3 rfl; have cR4 := R_3.out.at 4 rfl; have fR4 := R_3.out.free 4 rfl; have cR5 := R_3.out.at 5 rfl; have fR5 := R_3.out.free 5 rfl; have cC0 := C_3.out.at 0 rfl; have cA0 := A_3.out.at 0 rfl; have cC1 := C_3.out.at 1 rfl; have cA1 := A_3.out.at 1 rfl; have cC2 := C_3.out.at 2 rfl; have cA2 := A_3.out.at 2 rfl; have cC3 := C_3.out.at 3 rfl; have cA3 := A_3.out.at 3 rfl))
  have hw : IntKind.i64.wrap (baseI ac h + bu) = baseI ac h + bu := IntWalk.i64_in _ (by omega)
  go_wp2
  have hz := HB3.out.size
  refine bodyPost_ret (v := .agg #[.int .i64 0, .int .i64 h, .slice u2 n c2, .int .i64 ac, .int .i64 (bu + q), .int .i64 (baseI ac h + bu)]) (by simp [results, Try.results32, go_sem, cR0, cR1, cR2, cR3, cR4, cR5, hw]) rfl ⟨_, _, rfl, ?_, ?_⟩
  · refine Own.mono (B := w.heap.size + 2) ?_ (by omega)
    repeat (with_reducible refine Own.setCell ?_ (by (try simp); (try omega)) _)
    exact (RW_3.out.widen (by omega) (Nat.le_refl _)).out
  · repeat (with_reducible refine Below.setCell ?_ (by (try simp); (try omega)) _)
    exact HB3.out

set_option maxHeartbeats 1600000 in
theorem implTake_ok (m : Nat) (ac bu q : Int) (a : Option Addr) (c : Nat) (f : Nat → Int) (w : World) (hs : Src w a (2 * m) f) (hcn : 2 * m ≤ c) (hcm : c ≤ maxLen) (hk : IsFault (m : Int) (2 * m) f ac bu 0) (hp : 1 ≤ q ∧ q ≤ m) (hq : bu + q ≤ m) :
    Calls Try.prog 27 #[.agg #[.int .i64 (m : Int), .slice a (2 * m) c, .int .i64 ac, .int .i64 bu], .int .i64 q] w (RetRes w ⟨0, m, 2 * m, f, ac, bu + q, baseI ac m + bu⟩) := by
  obtain ⟨⟨⟨g1, g2⟩, ⟨g3, g4⟩, g5, g6⟩, _, _⟩ := isFault_ok hk
  obtain ⟨gb1, gb2⟩ := baseI_bd (ac := ac) g1
  obtain ⟨ab, ao, rfl, hab, hac⟩ := src_some hs (by omega)
  clear hac
  have HS := Lib.hid hs
  have HK := Lib.hid hk
  have HP := Lib.hid hp
  have HCM := Lib.hid hcm
  clear hs hk hp hcm
  have hp1 := HP.out.1
  have hp2 := HP.out.2
  go_enter Try.func27, Try.ntmps27
  go_wp2_with fail
  refine (implFault_any _ _ _ _ _ _ f 0 _ ((HS.out.alloc _).alloc _) HK.out).mono ?_
  rintro e w1 ⟨rfl, hb⟩
  have HB1 : Hid (Below w.heap.size w w1) := thru2 (Below.refl _ _) hb
  have z1 : w.heap.size + 2 ≤ w1.heap.size := by have := hb.size; simp at this; omega
  have HS_1 := Lib.hid (((HS.out.alloc _).alloc _).below hb)
  have A_1 := Lib.hid (((Blk.new_at (w.heap.size) (by simp)).alloc _).below hb)
  have R_1 := Lib.hid ((Blk.new_at (w.heap.size + 1) (by simp)).below hb)
  clear hb HS
  have lA := A_1.out.1
  have cA0 := A_1.out.at 0 rfl
  have cA1 := A_1.out.at 1 rfl
  have cA2 := A_1.out.at 2 rfl
  have cA3 := A_1.out.at 3 rfl
  go_wp2_with fail
  refine (isOut1 _ _ _ _ _ false rfl (.inl ⟨rfl, HP.out⟩)).mono ?_
  rintro e w2 ⟨rfl, hb⟩
  have HB2 : Hid (Below w.heap.size w w2) := thru1 HB1.out hb
  have z2 : w1.heap.size + 1 ≤ w2.heap.size := by have := hb.size; simp at this; omega
  have HS_2 := Lib.hid ((HS_1.out.alloc _).below hb)
  have A_2 := Lib.hid ((A_1.out.alloc _).below hb)
  have R_2 := Lib.hid ((R_1.out.alloc _).below hb)
  clear hb lA cA0 cA1 cA2 cA3 HS_1 A_1 R_1 HB1
  have lA := A_2.out.1
  have cA0 := A_2.out.at 0 rfl
  have cA1 := A_2.out.at 1 rfl
  have cA2 := A_2.out.at 2 rfl
  have cA3 := A_2.out.at 3 rfl
  go_wp2_with fail
  have A_d := Lib.hid A_2.out.drew
  have R_d := Lib.hid R_2.out.drew
  have HS_d := Lib.hid HS_2.out.drew
  have HB_d := Lib.hid HB2.out.drew
  have lA2 := A_2.out.1
  clear lA cA0 cA1 cA2 cA3
  go_region_held3 (fun w' => w'.cell? ⟨w.heap.size, 0, none⟩ = some (.int .i64 (m : Int)) ∧ w'.cell? ⟨w.heap.size, 1, none⟩ = some (.slice (some ⟨ab, ao, none⟩) (2 * m) c) ∧ w'.cell? ⟨w.heap.size, 2, none⟩ = some (.int .i64 ac) ∧ w'.cell? ⟨w.heap.size, 3, none⟩ = some (.int .i64 bu))
    (first | with_reducible exact ⟨A_d.out.at 0 rfl, A_d.out.at 1 rfl, A_d.out.at 2 rfl, A_d.out.at 3 rfl⟩ | with_reducible exact ⟨(A_2.out.alloc _).drew.at 0 rfl, (A_2.out.alloc _).drew.at 1 rfl, (A_2.out.alloc _).drew.at 2 rfl, (A_2.out.alloc _).drew.at 3 rfl⟩ | with_reducible exact ⟨A_3.out.at 0 rfl, A_3.out.at 1 rfl, A_3.out.at 2 rfl, A_3.out.at 3 rfl⟩ | with_reducible exact ⟨(A_3.out.alloc _).at 0 rfl, (A_3.out.alloc _).at 1 rfl, (A_3.out.alloc _).at 2 rfl, (A_3.out.alloc _).at 3 rfl⟩ | with_reducible exact ⟨A_4.out.at 0 rfl, A_4.out.at 1 rfl, A_4.out.at 2 rfl, A_4.out.at 3 rfl⟩ | with_reducible exact ⟨(A_4.out.alloc _).at 0 rfl, (A_4.out.alloc _).at 1 rfl, (A_4.out.alloc _).at 2 rfl, (A_4.out.alloc _).at 3 rfl⟩ | exact ⟨((((A_4.out.other (by (try simp); (try omega)) _).other (by (try simp); (try omega)) _).other (by (try simp); (try omega)) _).other (by (try simp); (try omega)) _).at 0 rfl, ((((A_4.out.other (by (try simp); (try omega)) _).other (by (try simp); (try omega)) _).other (by (try simp); (try omega)) _).other (by (try simp); (try omega)) _).at 1 rfl, ((((A_4.out.other (by (try simp); (try omega)) _).other (by (try simp); (try omega)) _).other (by (try simp); (try omega)) _).other (by (try simp); (try omega)) _).at 2 rfl, ((((A_4.out.other (by (try simp); (try omega)) _).other (by (try simp); (try omega)) _).other (by (try simp); (try omega)) _).other (by (try simp); (try omega)) _).at 3 rfl⟩ | go_keep)
    (first | (go_at_call 50; refine (halvesOf_any _ _ _ _ _ _ f _ (HS_d.out.ext (by first | exact .inl rfl | exact ext_drew _ _ | exact .inr ⟨_, rfl⟩)) (by omega) (by omega) hcn HCM.out).mono ?_; rintro e w3 ⟨u1, e1, u2, e2, mid, rfl, ho, hb, hm1, hm2⟩; have HB3 := Lib.hid (thru0 (below_ext HB_d.out (by first | exact .inl rfl | exact ext_drew _ _ | exact .inr ⟨_, rfl⟩)) hb); have A_3 := Lib.hid ((A_d.out.ext (by first | exact .inl rfl | exact ext_drew _ _ | exact .inr ⟨_, rfl⟩)).below hb); have lA3 := A_3.out.1; have R_3 := Lib.hid ((R_d.out.ext (by first | exact .inl rfl | exact ext_drew _ _ | exact .inr ⟨_, rfl⟩)).below hb); have HbH := Lib.hid hb; have HL_3 := Lib.hid ho; (first | (have T_3 := Lib.hid ((Blk.new_at (w := w2) (cs := #[.int .i64 0, .slice none 0 0, .int .i64 0, .int .i64 0]) (t := 26) (w2.heap.size) rfl).drew.below hb)) | skip); clear hb ho) | (go_at_call 52; refine (withHalves_any _ _ _ _ u1 u2 _ _ m m _ _ f (fun i => f (m + i)) _ (HL_3.out.1.src.ext (by first | exact .inl rfl | exact ext_drew _ _ | exact .inr ⟨_, rfl⟩)) (HL_3.out.2.src.ext (by first | exact .inl rfl | exact ext_drew _ _ | exact .inr ⟨_, rfl⟩)) (by omega) (by omega) (by omega) (by omega)).mono ?_; rintro e w4 ⟨u4, e4, rfl, ho, hb, hc4, hcm4, hn4⟩; have HB4 := Lib.hid (thru0 (below_ext HB3.out (by first | exact .inl rfl | exact ext_drew _ _ | exact .inr ⟨_, rfl⟩)) hb); have A_4 := Lib.hid ((A_3.out.ext (by first | exact .inl rfl | exact ext_drew _ _ | exact .inr ⟨_, rfl⟩)).below hb); have R_4 := Lib.hid ((R_3.out.ext (by first | exact .inl rfl | exact ext_drew _ _ | exact .inr ⟨_, rfl⟩)).below hb); have HbW := Lib.hid hb; have HO4 := Lib.hid ho; (first | (have T_4 := Lib.hid ((Blk.new_at (w := w3) (cs := #[.int .i64 0, .slice none 0 0, .int .i64 0, .int .i64 0]) (t := 26) (w3.heap.size) rfl).below hb)) | (have T_4 := Lib.hid (T_3.out.below hb)) | skip); clear hb ho hn4; have cA0 := A_4.out.at 0 rfl; have cA1 := A_4.out.at 1 rfl; have cA2 := A_4.out.at 2 rfl; have cA3 := A_4.out.at 3 rfl; (first | (have lT := T_4.out.1; have cT0 := T_4.out.at 0 rfl; have fT0 := T_4.out.free 0 rfl; have cT1 := T_4.out.at 1 rfl; have fT1 := T_4.out.free 1 rfl; have cT2 := T_4.out.at 2 rfl; have fT2 := T_4.out.free 2 rfl; have cT3 := T_4.out.at 3 rfl; have fT3 := T_4.out.free 3 rfl) | skip)))
  · have sz3 := size_ext (w := w2) (W := w2) (.inl rfl)
    have bH := HbH.out.size; have bW := HbW.out.size; have lR3 := R_3.out.1; have lR4 := R_4.out.1; have lR2 := R_2.out.1
    simp at bH bW
    refine then_named (fun w5 => Hid (Below w.heap.size w w5) ∧ Hid (Blk w5 w.heap.size [.int .i64 (m : Int), .slice (some ⟨ab, ao, none⟩) (2 * m) c, .int .i64 ac, .int .i64 bu]) ∧ Hid (Blk w5 (w.heap.size + 1) [.int .i64 0, .int .i64 0, .slice none 0 0, .int .i64 0, .int .i64 0, .int .i64 0]) ∧ Hid (Blk w5 (w4.heap.size) [.int .i64 (m : Int), .slice u4 (m + m) e4, .int .i64 ac, .int .i64 bu]) ∧ Hid (OwnIn w5 (w3.heap.size) w4.heap.size u4 (m + m) (cat m f (fun i => f (m + i))))) ⟨HB4.out.alloc HB4.out.size _, A_4.out.alloc _, R_4.out.alloc _, Blk.new_at _ rfl, ((HO4.out.mono (B' := w3.heap.size) (by simp)).into).alloc _⟩ (fun w5 hF => ?_)
    obtain ⟨HB5, A_5, R_5, T_5, RW_5⟩ := hF
    have hT1 : w.heap.size + 2 ≤ w4.heap.size := by omega
    have hT2 : w4.heap.size < w3.heap.size ∨ w4.heap.size ≤ w4.heap.size := by omega
    have hlo : w.heap.size + 2 ≤ w3.heap.size := by omega
    clear HB4 A_4 R_4 HO4 HbH HbW HL_3 HB3 A_3 R_3 A_d R_d HS_d HB_d A_2 R_2 HS_2 HB2 bH bW lR3 lR4 lR2 lA2 lA3 sz3 cA0 cA1 cA2 cA3
    have cT0 := T_5.out.at 0 rfl; have fT0 := T_5.out.free 0 rfl; have cA0 := A_5.out.at 0 rfl
    have cT1 := T_5.out.at 1 rfl; have fT1 := T_5.out.free 1 rfl; have cA1 := A_5.out.at 1 rfl
    have cT2 := T_5.out.at 2 rfl; have fT2 := T_5.out.free 2 rfl; have cA2 := A_5.out.at 2 rfl
    have cT3 := T_5.out.at 3 rfl; have fT3 := T_5.out.free 3 rfl; have cA3 := A_5.out.at 3 rfl
    go_wp2_with fail
    have HB6 : Hid (Below w.heap.size w (w5.setCell ⟨w4.heap.size, 3, none⟩ (.int .i64 (bu + q))).drew) := (HB5.out.setCell (by (try simp); (try omega)) _).drew
    have A_6 : Hid (Blk (w5.setCell ⟨w4.heap.size, 3, none⟩ (.int .i64 (bu + q))).drew w.heap.size [.int .i64 (m : Int), .slice (some ⟨ab, ao, none⟩) (2 * m) c, .int .i64 ac, .int .i64 bu]) := (A_5.out.other (by (try simp); (try omega)) _).drew
    have R_6 : Hid (Blk (w5.setCell ⟨w4.heap.size, 3, none⟩ (.int .i64 (bu + q))).drew (w.heap.size + 1) [.int .i64 0, .int .i64 0, .slice none 0 0, .int .i64 0, .int .i64 0, .int .i64 0]) := (R_5.out.other (by (try simp); (try omega)) _).drew
    have T_6 : Hid (Blk (w5.setCell ⟨w4.heap.size, 3, none⟩ (.int .i64 (bu + q))).drew (w4.heap.size) [.int .i64 (m : Int), .slice u4 (m + m) e4, .int .i64 ac, .int .i64 (bu + q)]) := (T_5.out.set 3 (by simp) _).drew
    have RW_6 : Hid (OwnIn (w5.setCell ⟨w4.heap.size, 3, none⟩ (.int .i64 (bu + q))).drew (w3.heap.size) w4.heap.size u4 (m + m) (cat m f (fun i => f (m + i)))) := (RW_5.out.setCell (by (try simp); (try omega)) _).drew
    clear HB5 A_5 R_5 T_5 RW_5 cT0 fT0 cA0 cT1 fT1 cA1 cT2 fT2 cA2 cT3 fT3 cA3
    go_region_held3 (fun w' => w'.cell? ⟨w4.heap.size, 0, none⟩ = some (.int .i64 (m : Int)) ∧ w'.cell? ⟨w4.heap.size, 1, none⟩ = some (.slice u4 (m + m) e4) ∧ w'.cell? ⟨w4.heap.size, 2, none⟩ = some (.int .i64 ac) ∧ w'.cell? ⟨w4.heap.size, 3, none⟩ = some (.int .i64 (bu + q)) ∧ w'.cell? ⟨w.heap.size, 0, none⟩ = some (.int .i64 (m : Int)) ∧ w'.cell? ⟨w.heap.size, 1, none⟩ = some (.slice (some ⟨ab, ao, none⟩) (2 * m) c) ∧ w'.cell? ⟨w.heap.size, 2, none⟩ = some (.int .i64 ac) ∧ w'.cell? ⟨w.heap.size, 3, none⟩ = some (.int .i64 bu))
      (first | with_reducible exact ⟨T_6.out.at 0 rfl, T_6.out.at 1 rfl, T_6.out.at 2 rfl, T_6.out.at 3 rfl, A_6.out.at 0 rfl, A_6.out.at 1 rfl, A_6.out.at 2 rfl, A_6.out.at 3 rfl⟩ | with_reducible exact ⟨T_7.out.at 0 rfl, T_7.out.at 1 rfl, T_7.out.at 2 rfl, T_7.out.at 3 rfl, A_7.out.at 0 rfl, A_7.out.at 1 rfl, A_7.out.at 2 rfl, A_7.out.at 3 rfl⟩ | exact ⟨((((((T_7.out.other (by (try simp); (try omega)) _).other (by (try simp); (try omega)) _).other (by (try simp); (try omega)) _).other (by (try simp); (try omega)) _).other (by (try simp); (try omega)) _).other (by (try simp); (try omega)) _).at 0 rfl, ((((((T_7.out.other (by (try simp); (try omega)) _).other (by (try simp); (try omega)) _).other (by (try simp); (try omega)) _).other (by (try simp); (try omega)) _).other (by (try simp); (try omega)) _).other (by (try simp); (try omega)) _).at 1 rfl, ((((((T_7.out.other (by (try simp); (try omega)) _).other (by (try simp); (try omega)) _).other (by (try simp); (try omega)) _).other (by (try simp); (try omega)) _).other (by (try simp); (try omega)) _).other (by (try simp); (try omega)) _).at 2 rfl, ((((((T_7.out.other (by (try simp); (try omega)) _).other (by (try simp); (try omega)) _).other (by (try simp); (try omega)) _).other (by (try simp); (try omega)) _).other (by (try simp); (try omega)) _).other (by (try simp); (try omega)) _).at 3 rfl, ((((((A_7.out.other (by (try simp); (try omega)) _).other (by (try simp); (try omega)) _).other (by (try simp); (try omega)) _).other (by (try simp); (try omega)) _).other (by (try simp); (try omega)) _).other (by (try simp); (try omega)) _).at 0 rfl, ((((((A_7.out.other (by (try simp); (try omega)) _).other (by (try simp); (try omega)) _).other (by (try simp); (try omega)) _).other (by (try simp); (try omega)) _).other (by (try simp); (try omega)) _).other (by (try simp); (try omega)) _).at 1 rfl, ((((((A_7.out.other (by (try simp); (try omega)) _).other (by (try simp); (try omega)) _).other (by (try simp); (try omega)) _).other (by (try simp); (try omega)) _).other (by (try simp); (try omega)) _).other (by (try simp); (try omega)) _).at 2 rfl, ((((((A_7.out.other (by (try simp); (try omega)) _).other (by (try simp); (try omega)) _).other (by (try simp); (try omega)) _).other (by (try simp); (try omega)) _).other (by (try simp); (try omega)) _).other (by (try simp); (try omega)) _).at 3 rfl⟩)
      (first | (go_at_call 62; refine (baseOf_any _ _ _ _ _ _ _ g1 g2 g3 g4).mono ?_; rintro e w7 ⟨rfl, hb⟩; have HB7 := Lib.hid (thru0 HB6.out hb); have A_7 := Lib.hid (A_6.out.below hb); have R_7 := Lib.hid (R_6.out.below hb); have T_7 := Lib.hid (T_6.out.below hb); have RW_7 := Lib.hid (RW_6.out.below hb); clear hb; have cR0 := R_7.out.at 0 rfl; have fR0 := R_7.out.free 0 rfl; have cR1 := R_7.out.at 1 rfl; have fR1 := R_7.out.free 1 rfl; have cR2 := R_7.out.at 2 rfl; have fR2 := R_7.out.free 2 rfl; have cR3 := R_7.out.at 3 rfl; have fR3 := R_7.out.free 3 rfl; have cR4 := R_7.out.at 4 rfl; have fR4 := R_7.out.free 4 rfl; have cR5 := R_7.out.at 5 rfl; have fR5 := R_7.out.free 5 rfl; have cT0 := T_7.out.at 0 rfl; have cA0 := A_7.out.at 0 rfl; have cT1 := T_7.out.at 1 rfl; have cA1 := A_7.out.at 1 rfl; have cT2 := T_7.out.at 2 rfl; have cA2 := A_7.out.at 2 rfl; have cT3 := T_7.out.at 3 rfl; have cA3 := A_7.out.at 3 rfl))
    have hw : IntKind.i64.wrap (baseI ac (m : Int) + bu) = baseI ac (m : Int) + bu := IntWalk.i64_in _ (by omega)
    go_wp2
    have hz := HB7.out.size
    refine bodyPost_ret (v := .agg #[.int .i64 0, .int .i64 (m : Int), .slice u4 (m + m) e4, .int .i64 ac, .int .i64 (bu + q), .int .i64 (baseI ac (m : Int) + bu)]) (by simp [results, Try.results27, go_sem, cR0, cR1, cR2, cR3, cR4, cR5, hw]) rfl (retHalf ?_ ?_)
    · refine Own.mono (B := w.heap.size + 2) ?_ (by omega)
      repeat (with_reducible refine Own.setCell ?_ (by (try simp); (try omega)) _)
      exact (RW_7.out.widen (by omega) (Nat.le_refl _)).out
    · repeat (with_reducible refine Below.setCell ?_ (by (try simp); (try omega)) _)
      exact HB7.out
  · have sz3 := size_ext (w := w2) (W := w2) (.inl rfl)
    have bH := HbH.out.size; have bW := HbW.out.size; have lR3 := R_3.out.1; have lR4 := R_4.out.1; have lR2 := R_2.out.1
    simp at bH bW
    refine then_named (fun w5 => Hid (Below w.heap.size w w5) ∧ Hid (Blk w5 w.heap.size [.int .i64 (m : Int), .slice (some ⟨ab, ao, none⟩) (2 * m) c, .int .i64 ac, .int .i64 bu]) ∧ Hid (Blk w5 (w.heap.size + 1) [.int .i64 0, .int .i64 0, .slice none 0 0, .int .i64 0, .int .i64 0, .int .i64 0]) ∧ Hid (Blk w5 (w3.heap.size) [.int .i64 (m : Int), .slice u4 (m + m) e4, .int .i64 ac, .int .i64 bu]) ∧ Hid (OwnIn w5 (w3.heap.size + 1) w4.heap.size u4 (m + m) (cat m f (fun i => f (m + i))))) ⟨((((HB4.out.setCell (by (try simp); (try omega)) _).setCell (by (try simp); (try omega)) _).setCell (by (try simp); (try omega)) _).setCell (by (try simp); (try omega)) _), ((((A_4.out.other (by (try simp); (try omega)) _).other (by (try simp); (try omega)) _).other (by (try simp); (try omega)) _).other (by (try simp); (try omega)) _), ((((R_4.out.other (by (try simp); (try omega)) _).other (by (try simp); (try omega)) _).other (by (try simp); (try omega)) _).other (by (try simp); (try omega)) _), ((((T_4.out.set 0 (by simp) _).set 1 (by simp) _).set 2 (by simp) _).set 3 (by simp) _), ((((((HO4.out.mono (B' := w3.heap.size + 1) (by simp)).into).setCell (.inl (by (try simp); (try omega))) _).setCell (.inl (by (try simp); (try omega))) _).setCell (.inl (by (try simp); (try omega))) _).setCell (.inl (by (try simp); (try omega))) _)⟩ (fun w5 hF => ?_)
    obtain ⟨HB5, A_5, R_5, T_5, RW_5⟩ := hF
    have hT1 : w.heap.size + 2 ≤ w3.heap.size := by omega
    have hT2 : w3.heap.size < w3.heap.size + 1 ∨ w4.heap.size ≤ w3.heap.size := by omega
    have hlo : w.heap.size + 2 ≤ w3.heap.size + 1 := by omega
    clear HB4 A_4 R_4 HO4 HbH HbW HL_3 HB3 A_3 R_3 A_d R_d HS_d HB_d A_2 R_2 HS_2 HB2 bH bW lR3 lR4 lR2 lA2 lA3 sz3 T_4 lT cT0 cT1 cT2 cT3 fT0 fT1 fT2 fT3 cA0 cA1 cA2 cA3
    have cT0 := T_5.out.at 0 rfl; have fT0 := T_5.out.free 0 rfl; have cA0 := A_5.out.at 0 rfl
    have cT1 := T_5.out.at 1 rfl; have fT1 := T_5.out.free 1 rfl; have cA1 := A_5.out.at 1 rfl
    have cT2 := T_5.out.at 2 rfl; have fT2 := T_5.out.free 2 rfl; have cA2 := A_5.out.at 2 rfl
    have cT3 := T_5.out.at 3 rfl; have fT3 := T_5.out.free 3 rfl; have cA3 := A_5.out.at 3 rfl
    go_wp2_with fail
    have HB6 : Hid (Below w.heap.size w (w5.setCell ⟨w3.heap.size, 3, none⟩ (.int .i64 (bu + q))).drew) := (HB5.out.setCell (by (try simp); (try omega)) _).drew
    have A_6 : Hid (Blk (w5.setCell ⟨w3.heap.size, 3, none⟩ (.int .i64 (bu + q))).drew w.heap.size [.int .i64 (m : Int), .slice (some ⟨ab, ao, none⟩) (2 * m) c, .int .i64 ac, .int .i64 bu]) := (A_5.out.other (by (try simp); (try omega)) _).drew
    have R_6 : Hid (Blk (w5.setCell ⟨w3.heap.size, 3, none⟩ (.int .i64 (bu + q))).drew (w.heap.size + 1) [.int .i64 0, .int .i64 0, .slice none 0 0, .int .i64 0, .int .i64 0, .int .i64 0]) := (R_5.out.other (by (try simp); (try omega)) _).drew
    have T_6 : Hid (Blk (w5.setCell ⟨w3.heap.size, 3, none⟩ (.int .i64 (bu + q))).drew (w3.heap.size) [.int .i64 (m : Int), .slice u4 (m + m) e4, .int .i64 ac, .int .i64 (bu + q)]) := (T_5.out.set 3 (by simp) _).drew
    have RW_6 : Hid (OwnIn (w5.setCell ⟨w3.heap.size, 3, none⟩ (.int .i64 (bu + q))).drew (w3.heap.size + 1) w4.heap.size u4 (m + m) (cat m f (fun i => f (m + i)))) := (RW_5.out.setCell (by (try simp); (try omega)) _).drew
    clear HB5 A_5 R_5 T_5 RW_5 cT0 fT0 cA0 cT1 fT1 cA1 cT2 fT2 cA2 cT3 fT3 cA3
    go_region_held3 (fun w' => w'.cell? ⟨w3.heap.size, 0, none⟩ = some (.int .i64 (m : Int)) ∧ w'.cell? ⟨w3.heap.size, 1, none⟩ = some (.slice u4 (m + m) e4) ∧ w'.cell? ⟨w3.heap.size, 2, none⟩ = some (.int .i64 ac) ∧ w'.cell? ⟨w3.heap.size, 3, none⟩ = some (.int .i64 (bu + q)) ∧ w'.cell? ⟨w.heap.size, 0, none⟩ = some (.int .i64 (m : Int)) ∧ w'.cell? ⟨w.heap.size, 1, none⟩ = some (.slice (some ⟨ab, ao, none⟩) (2 * m) c) ∧ w'.cell? ⟨w.heap.size, 2, none⟩ = some (.int .i64 ac) ∧ w'.cell? ⟨w.heap.size, 3, none⟩ = some (.int .i64 bu))
      (first | with_reducible exact ⟨T_6.out.at 0 rfl, T_6.out.at 1 rfl, T_6.out.at 2 rfl, T_6.out.at 3 rfl, A_6.out.at 0 rfl, A_6.out.at 1 rfl, A_6.out.at 2 rfl, A_6.out.at 3 rfl⟩ | with_reducible exact ⟨T_7.out.at 0 rfl, T_7.out.at 1 rfl, T_7.out.at 2 rfl, T_7.out.at 3 rfl, A_7.out.at 0 rfl, A_7.out.at 1 rfl, A_7.out.at 2 rfl, A_7.out.at 3 rfl⟩ | exact ⟨((((((T_7.out.other (by (try simp); (try omega)) _).other (by (try simp); (try omega)) _).other (by (try simp); (try omega)) _).other (by (try simp); (try omega)) _).other (by (try simp); (try omega)) _).other (by (try simp); (try omega)) _).at 0 rfl, ((((((T_7.out.other (by (try simp); (try omega)) _).other (by (try simp); (try omega)) _).other (by (try simp); (try omega)) _).other (by (try simp); (try omega)) _).other (by (try simp); (try omega)) _).other (by (try simp); (try omega)) _).at 1 rfl, ((((((T_7.out.other (by (try simp); (try omega)) _).other (by (try simp); (try omega)) _).other (by (try simp); (try omega)) _).other (by (try simp); (try omega)) _).other (by (try simp); (try omega)) _).other (by (try simp); (try omega)) _).at 2 rfl, ((((((T_7.out.other (by (try simp); (try omega)) _).other (by (try simp); (try omega)) _).other (by (try simp); (try omega)) _).other (by (try simp); (try omega)) _).other (by (try simp); (try omega)) _).other (by (try simp); (try omega)) _).at 3 rfl, ((((((A_7.out.other (by (try simp); (try omega)) _).other (by (try simp); (try omega)) _).other (by (try simp); (try omega)) _).other (by (try simp); (try omega)) _).other (by (try simp); (try omega)) _).other (by (try simp); (try omega)) _).at 0 rfl, ((((((A_7.out.other (by (try simp); (try omega)) _).other (by (try simp); (try omega)) _).other (by (try simp); (try omega)) _).other (by (try simp); (try omega)) _).other (by (try simp); (try omega)) _).other (by (try simp); (try omega)) _).at 1 rfl, ((((((A_7.out.other (by (try simp); (try omega)) _).other (by (try simp); (try omega)) _).other (by (try simp); (try omega)) _).other (by (try simp); (try omega)) _).other (by (try simp); (try omega)) _).other (by (try simp); (try omega)) _).at 2 rfl, ((((((A_7.out.other (by (try simp); (try omega)) _).other (by (try simp); (try omega)) _).other (by (try simp); (try omega)) _).other (by (try simp); (try omega)) _).other (by (try simp); (try omega)) _).other (by (try simp); (try omega)) _).at 3 rfl⟩)
      (first | (go_at_call 62; refine (baseOf_any _ _ _ _ _ _ _ g1 g2 g3 g4).mono ?_; rintro e w7 ⟨rfl, hb⟩; have HB7 := Lib.hid (thru0 HB6.out hb); have A_7 := Lib.hid (A_6.out.below hb); have R_7 := Lib.hid (R_6.out.below hb); have T_7 := Lib.hid (T_6.out.below hb); have RW_7 := Lib.hid (RW_6.out.below hb); clear hb; have cR0 := R_7.out.at 0 rfl; have fR0 := R_7.out.free 0 rfl; have cR1 := R_7.out.at 1 rfl; have fR1 := R_7.out.free 1 rfl; have cR2 := R_7.out.at 2 rfl; have fR2 := R_7.out.free 2 rfl; have cR3 := R_7.out.at 3 rfl; have fR3 := R_7.out.free 3 rfl; have cR4 := R_7.out.at 4 rfl; have fR4 := R_7.out.free 4 rfl; have cR5 := R_7.out.at 5 rfl; have fR5 := R_7.out.free 5 rfl; have cT0 := T_7.out.at 0 rfl; have cA0 := A_7.out.at 0 rfl; have cT1 := T_7.out.at 1 rfl; have cA1 := A_7.out.at 1 rfl; have cT2 := T_7.out.at 2 rfl; have cA2 := A_7.out.at 2 rfl; have cT3 := T_7.out.at 3 rfl; have cA3 := A_7.out.at 3 rfl))
    have hw : IntKind.i64.wrap (baseI ac (m : Int) + bu) = baseI ac (m : Int) + bu := IntWalk.i64_in _ (by omega)
    go_wp2
    have hz := HB7.out.size
    refine bodyPost_ret (v := .agg #[.int .i64 0, .int .i64 (m : Int), .slice u4 (m + m) e4, .int .i64 ac, .int .i64 (bu + q), .int .i64 (baseI ac (m : Int) + bu)]) (by simp [results, Try.results27, go_sem, cR0, cR1, cR2, cR3, cR4, cR5, hw]) rfl (retHalf ?_ ?_)
    · refine Own.mono (B := w.heap.size + 2) ?_ (by omega)
      repeat (with_reducible refine Own.setCell ?_ (by (try simp); (try omega)) _)
      exact (RW_7.out.widen (by omega) (Nat.le_refl _)).out
    · repeat (with_reducible refine Below.setCell ?_ (by (try simp); (try omega)) _)
      exact HB7.out
  · have sz3 := size_ext (w := w2) (W := w2) (.inl rfl)
    have bH := HbH.out.size; have bW := HbW.out.size; have lR3 := R_3.out.1; have lR4 := R_4.out.1; have lR2 := R_2.out.1
    simp at bH bW
    refine then_named (fun w5 => Hid (Below w.heap.size w w5) ∧ Hid (Blk w5 w.heap.size [.int .i64 (m : Int), .slice (some ⟨ab, ao, none⟩) (2 * m) c, .int .i64 ac, .int .i64 bu]) ∧ Hid (Blk w5 (w.heap.size + 1) [.int .i64 0, .int .i64 0, .slice none 0 0, .int .i64 0, .int .i64 0, .int .i64 0]) ∧ Hid (Blk w5 (w2.heap.size) [.int .i64 (m : Int), .slice u4 (m + m) e4, .int .i64 ac, .int .i64 bu]) ∧ Hid (OwnIn w5 (w3.heap.size) w4.heap.size u4 (m + m) (cat m f (fun i => f (m + i))))) ⟨((((HB4.out.setCell (by (try simp); (try omega)) _).setCell (by (try simp); (try omega)) _).setCell (by (try simp); (try omega)) _).setCell (by (try simp); (try omega)) _), ((((A_4.out.other (by (try simp); (try omega)) _).other (by (try simp); (try omega)) _).other (by (try simp); (try omega)) _).other (by (try simp); (try omega)) _), ((((R_4.out.other (by (try simp); (try omega)) _).other (by (try simp); (try omega)) _).other (by (try simp); (try omega)) _).other (by (try simp); (try omega)) _), ((((T_4.out.set 0 (by simp) _).set 1 (by simp) _).set 2 (by simp) _).set 3 (by simp) _), ((((((HO4.out.mono (B' := w3.heap.size) (by simp)).into).setCell (.inl (by (try simp); (try omega))) _).setCell (.inl (by (try simp); (try omega))) _).setCell (.inl (by (try simp); (try omega))) _).setCell (.inl (by (try simp); (try omega))) _)⟩ (fun w5 hF => ?_)
    obtain ⟨HB5, A_5, R_5, T_5, RW_5⟩ := hF
    have hT1 : w.heap.size + 2 ≤ w2.heap.size := by omega
    have hT2 : w2.heap.size < w3.heap.size ∨ w4.heap.size ≤ w2.heap.size := by omega
    have hlo : w.heap.size + 2 ≤ w3.heap.size := by omega
    clear HB4 A_4 R_4 HO4 HbH HbW HL_3 HB3 A_3 R_3 A_d R_d HS_d HB_d A_2 R_2 HS_2 HB2 bH bW lR3 lR4 lR2 lA2 lA3 sz3 T_4 lT cT0 cT1 cT2 cT3 fT0 fT1 fT2 fT3 cA0 cA1 cA2 cA3
    have cT0 := T_5.out.at 0 rfl; have fT0 := T_5.out.free 0 rfl; have cA0 := A_5.out.at 0 rfl
    have cT1 := T_5.out.at 1 rfl; have fT1 := T_5.out.free 1 rfl; have cA1 := A_5.out.at 1 rfl
    have cT2 := T_5.out.at 2 rfl; have fT2 := T_5.out.free 2 rfl; have cA2 := A_5.out.at 2 rfl
    have cT3 := T_5.out.at 3 rfl; have fT3 := T_5.out.free 3 rfl; have cA3 := A_5.out.at 3 rfl
    go_wp2_with fail
    have HB6 : Hid (Below w.heap.size w (w5.setCell ⟨w2.heap.size, 3, none⟩ (.int .i64 (bu + q))).drew) := (HB5.out.setCell (by (try simp); (try omega)) _).drew
    have A_6 : Hid (Blk (w5.setCell ⟨w2.heap.size, 3, none⟩ (.int .i64 (bu + q))).drew w.heap.size [.int .i64 (m : Int), .slice (some ⟨ab, ao, none⟩) (2 * m) c, .int .i64 ac, .int .i64 bu]) := (A_5.out.other (by (try simp); (try omega)) _).drew
    have R_6 : Hid (Blk (w5.setCell ⟨w2.heap.size, 3, none⟩ (.int .i64 (bu + q))).drew (w.heap.size + 1) [.int .i64 0, .int .i64 0, .slice none 0 0, .int .i64 0, .int .i64 0, .int .i64 0]) := (R_5.out.other (by (try simp); (try omega)) _).drew
    have T_6 : Hid (Blk (w5.setCell ⟨w2.heap.size, 3, none⟩ (.int .i64 (bu + q))).drew (w2.heap.size) [.int .i64 (m : Int), .slice u4 (m + m) e4, .int .i64 ac, .int .i64 (bu + q)]) := (T_5.out.set 3 (by simp) _).drew
    have RW_6 : Hid (OwnIn (w5.setCell ⟨w2.heap.size, 3, none⟩ (.int .i64 (bu + q))).drew (w3.heap.size) w4.heap.size u4 (m + m) (cat m f (fun i => f (m + i)))) := (RW_5.out.setCell (by (try simp); (try omega)) _).drew
    clear HB5 A_5 R_5 T_5 RW_5 cT0 fT0 cA0 cT1 fT1 cA1 cT2 fT2 cA2 cT3 fT3 cA3
    go_region_held3 (fun w' => w'.cell? ⟨w2.heap.size, 0, none⟩ = some (.int .i64 (m : Int)) ∧ w'.cell? ⟨w2.heap.size, 1, none⟩ = some (.slice u4 (m + m) e4) ∧ w'.cell? ⟨w2.heap.size, 2, none⟩ = some (.int .i64 ac) ∧ w'.cell? ⟨w2.heap.size, 3, none⟩ = some (.int .i64 (bu + q)) ∧ w'.cell? ⟨w.heap.size, 0, none⟩ = some (.int .i64 (m : Int)) ∧ w'.cell? ⟨w.heap.size, 1, none⟩ = some (.slice (some ⟨ab, ao, none⟩) (2 * m) c) ∧ w'.cell? ⟨w.heap.size, 2, none⟩ = some (.int .i64 ac) ∧ w'.cell? ⟨w.heap.size, 3, none⟩ = some (.int .i64 bu))
      (first | with_reducible exact ⟨T_6.out.at 0 rfl, T_6.out.at 1 rfl, T_6.out.at 2 rfl, T_6.out.at 3 rfl, A_6.out.at 0 rfl, A_6.out.at 1 rfl, A_6.out.at 2 rfl, A_6.out.at 3 rfl⟩ | with_reducible exact ⟨T_7.out.at 0 rfl, T_7.out.at 1 rfl, T_7.out.at 2 rfl, T_7.out.at 3 rfl, A_7.out.at 0 rfl, A_7.out.at 1 rfl, A_7.out.at 2 rfl, A_7.out.at 3 rfl⟩ | exact ⟨((((((T_7.out.other (by (try simp); (try omega)) _).other (by (try simp); (try omega)) _).other (by (try simp); (try omega)) _).other (by (try simp); (try omega)) _).other (by (try simp); (try omega)) _).other (by (try simp); (try omega)) _).at 0 rfl, ((((((T_7.out.other (by (try simp); (try omega)) _).other (by (try simp); (try omega)) _).other (by (try simp); (try omega)) _).other (by (try simp); (try omega)) _).other (by (try simp); (try omega)) _).other (by (try simp); (try omega)) _).at 1 rfl, ((((((T_7.out.other (by (try simp); (try omega)) _).other (by (try simp); (try omega)) _).other (by (try simp); (try omega)) _).other (by (try simp); (try omega)) _).other (by (try simp); (try omega)) _).other (by (try simp); (try omega)) _).at 2 rfl, ((((((T_7.out.other (by (try simp); (try omega)) _).other (by (try simp); (try omega)) _).other (by (try simp); (try omega)) _).other (by (try simp); (try omega)) _).other (by (try simp); (try omega)) _).other (by (try simp); (try omega)) _).at 3 rfl, ((((((A_7.out.other (by (try simp); (try omega)) _).other (by (try simp); (try omega)) _).other (by (try simp); (try omega)) _).other (by (try simp); (try omega)) _).other (by (try simp); (try omega)) _).other (by (try simp); (try omega)) _).at 0 rfl, ((((((A_7.out.other (by (try simp); (try omega)) _).other (by (try simp); (try omega)) _).other (by (try simp); (try omega)) _).other (by (try simp); (try omega)) _).other (by (try simp); (try omega)) _).other (by (try simp); (try omega)) _).at 1 rfl, ((((((A_7.out.other (by (try simp); (try omega)) _).other (by (try simp); (try omega)) _).other (by (try simp); (try omega)) _).other (by (try simp); (try omega)) _).other (by (try simp); (try omega)) _).other (by (try simp); (try omega)) _).at 2 rfl, ((((((A_7.out.other (by (try simp); (try omega)) _).other (by (try simp); (try omega)) _).other (by (try simp); (try omega)) _).other (by (try simp); (try omega)) _).other (by (try simp); (try omega)) _).other (by (try simp); (try omega)) _).at 3 rfl⟩)
      (first | (go_at_call 62; refine (baseOf_any _ _ _ _ _ _ _ g1 g2 g3 g4).mono ?_; rintro e w7 ⟨rfl, hb⟩; have HB7 := Lib.hid (thru0 HB6.out hb); have A_7 := Lib.hid (A_6.out.below hb); have R_7 := Lib.hid (R_6.out.below hb); have T_7 := Lib.hid (T_6.out.below hb); have RW_7 := Lib.hid (RW_6.out.below hb); clear hb; have cR0 := R_7.out.at 0 rfl; have fR0 := R_7.out.free 0 rfl; have cR1 := R_7.out.at 1 rfl; have fR1 := R_7.out.free 1 rfl; have cR2 := R_7.out.at 2 rfl; have fR2 := R_7.out.free 2 rfl; have cR3 := R_7.out.at 3 rfl; have fR3 := R_7.out.free 3 rfl; have cR4 := R_7.out.at 4 rfl; have fR4 := R_7.out.free 4 rfl; have cR5 := R_7.out.at 5 rfl; have fR5 := R_7.out.free 5 rfl; have cT0 := T_7.out.at 0 rfl; have cA0 := A_7.out.at 0 rfl; have cT1 := T_7.out.at 1 rfl; have cA1 := A_7.out.at 1 rfl; have cT2 := T_7.out.at 2 rfl; have cA2 := A_7.out.at 2 rfl; have cT3 := T_7.out.at 3 rfl; have cA3 := A_7.out.at 3 rfl))
    have hw : IntKind.i64.wrap (baseI ac (m : Int) + bu) = baseI ac (m : Int) + bu := IntWalk.i64_in _ (by omega)
    go_wp2
    have hz := HB7.out.size
    refine bodyPost_ret (v := .agg #[.int .i64 0, .int .i64 (m : Int), .slice u4 (m + m) e4, .int .i64 ac, .int .i64 (bu + q), .int .i64 (baseI ac (m : Int) + bu)]) (by simp [results, Try.results27, go_sem, cR0, cR1, cR2, cR3, cR4, cR5, hw]) rfl (retHalf ?_ ?_)
    · refine Own.mono (B := w.heap.size + 2) ?_ (by omega)
      repeat (with_reducible refine Own.setCell ?_ (by (try simp); (try omega)) _)
      exact (RW_7.out.widen (by omega) (Nat.le_refl _)).out
    · repeat (with_reducible refine Below.setCell ?_ (by (try simp); (try omega)) _)
      exact HB7.out

end Go.Proofs.Ythejbgmhfajcpaa
