/- Texts merged: OLO to LRF. -/
import Derived.Test.YtpmhbdiddcnhfaaPLR1
namespace Go.Proofs.Ytpmhbdiddcnhfaa
open Go.ChangeShapes Go.WideShapes Go.ChangeAt Go.RowKit Go.Joins Go.Deep
set_option linter.unusedVariables false

set_option maxRecDepth 100000 in
/-- A row of ops. -/
theorem open_opl {H : Type} {enc : TypeId × Value → H} {W : World} {fuel : Nat} {cs : List Value} {y : DataW H × List MemPlace} (hf : DataW.trod enc Try.prog W 0 (fun _ => true) true fuel 22 cs = some y) :
    ∃ (a : Option Addr) (N c : Nat) (T : Nat → OpC), cs = [.slice a N c] ∧ OV W a N T ∧ N ≤ maxLen := by
  have hinh : Inhabited OpC := ⟨⟨0, 0, 0, 0, 0, 0, false⟩⟩
  rcases open_slice Try.underlying22 hf with ⟨hcs, _⟩ | ⟨x, l, c, m, n, D, Pl, hcs, _, hl, hm, hmm, _, hx⟩
  · exact ⟨none, 0, 0, fun _ => default, hcs, .inl rfl, Nat.zero_le _⟩
  · have hlm : l ≤ m := by
      rw [hmm]; split
      · exact hl
      · exact Nat.le_refl _
    have each : ∀ i, i < l → ∃ t : OpC, (∀ j u, ([.int .i64 t.te, .int .i64 t.k, .int .i64 t.h, .int .i64 t.t, .int .i64 t.i, .int .i64 t.v, .bool t.fo] : List Value)[j]? = some u → W.cell? ((x.add (i * 7)).add j) = some u) := fun i hi => by
      obtain ⟨cs', h1, h2⟩ := hx i (by omega)
      rw [Try.cellsP98] at h1
      obtain ⟨_, hlen, hat⟩ := World.cells?_some h1
      obtain ⟨te, k, h, t, i', v, fo, rfl⟩ := open_op1 hlen h2
      refine ⟨⟨te, k, h, t, i', v, fo⟩, fun j u hu => ?_⟩
      rw [hat j (List.getElem?_eq_some_iff.mp hu).1, hu]
    by_cases hz : l = 0
    · exact ⟨some x, l, c, fun _ => default, hcs, .inl hz, by omega⟩
    obtain ⟨T, hT⟩ := Go.Deep.choose_lt each
    refine ⟨some x, l, c, T, hcs, ?_, by omega⟩
    obtain ⟨b, off, spot⟩ := x
    have hc := hT 0 (by omega) 0 _ rfl
    have hspot : spot = none := by simpa [Addr.add] using World.cell?_spot hc
    subst hspot
    refine .inr ⟨b, off, rfl, World.block_lt_of_cell? W _ (by simpa [Addr.add] using hc), fun i hi => ?_⟩
    have g := fun j u hu => hT i hi j u hu
    simp only [add_none] at g
    exact ⟨g 0 _ rfl, g 1 _ rfl, g 2 _ rfl, g 3 _ rfl, g 4 _ rfl, g 5 _ rfl, g 6 _ rfl⟩

set_option maxRecDepth 100000 in
/-- What came in: a row of ops. -/
theorem open_ops {H : Type} {enc : TypeId × Value → H} {W : World} {base : Nat} {v0 : Value} {d0 : DataW H} {p0 : List MemPlace}
    (hv : Value.okWide Try.prog W .any base 22 v0) (h0 : DataW.Trod enc Try.prog W 0 (fun _ => true) true 22 v0 d0 p0) :
    ∃ (a : Option Addr) (N c : Nat) (T : Nat → OpC), v0 = .slice a N c ∧ OV W a N T ∧ N ≤ maxLen := by
  obtain ⟨a0, len0, cap0, rfl⟩ := okWide_slice Try.underlying22 hv
  obtain ⟨fuel, hf⟩ := h0
  obtain ⟨a, N, c, T, hcs, h, hN⟩ := open_opl hf
  simp [Value.cells] at hcs
  obtain ⟨rfl, rfl, rfl⟩ := hcs
  exact ⟨_, _, _, T, rfl, h, hN⟩
end Go.Proofs.Ytpmhbdiddcnhfaa

namespace Go.Proofs.Ytpmhbdiddcnhfaa
open Go.RowKit
set_option linter.unusedVariables false

set_option maxRecDepth 100000 in
set_option maxHeartbeats 6400000 in
theorem e4_any (la : Option Addr) (lN lc : Nat) (lT : Nat → OpC) (ra : Option Addr) (rN rc : Nat) (rT : Nat → SL) (tn : Int) (w : World) (hl : OV w la lN lT) (nl : lN ≤ maxLen) (hr : PV w ra rN rT) (nr : rN ≤ maxLen) :
    Calls Try.prog 4 #[.slice la lN lc, .slice ra rN rc, .int .i64 tn] w (RetBool w true) := by
  obtain ⟨co, K, U, hk⟩ := isRf_ex lN lT rN rT tn
  have hsm := isRf_small hk
  have HK := Lib.hid hk
  have Pl := Lib.hid hl
  have Pr := Lib.hid hr
  clear hk hl hr
  go_enter Try.func4, Try.ntmps4
  by_cases sl : (lN : Int) ≤ 1048576
  case neg =>
    go_wp2_with fail
    refine (szOpS_no la lN lc (1048576) _ (by omega) (by omega) nl (by omega)).mono ?_
    rintro e w' ⟨rfl, rfl⟩
    go_wp2
    go_ret
    exact ⟨rfl, Below.refl _ _⟩
  go_wp2_with fail
  refine (szOpS_ok la lN lc (1048576) _ (by omega) (by omega) nl sl).mono ?_
  rintro e w' ⟨rfl, rfl⟩
  have tl : ¬ (1048576 - lN : Int) < 0 := by omega
  have ql : lN ≤ 1048576 := by omega
  by_cases sr : (rN : Int) ≤ 1048576 - lN
  case neg =>
    go_wp2_with fail
    refine (szReplyS_no ra rN rc (1048576 - lN) _ (by omega) (by omega) nr (by omega)).mono ?_
    rintro e w' ⟨rfl, rfl⟩
    go_wp2
    go_ret
    exact ⟨rfl, Below.refl _ _⟩
  go_wp2_with fail
  refine (szReplyS_ok ra rN rc (1048576 - lN) _ (by omega) (by omega) nr sr).mono ?_
  rintro e w' ⟨rfl, rfl⟩
  have tr : ¬ (1048576 - lN - rN : Int) < 0 := by omega
  have qr : rN ≤ 1048576 := by omega
  go_wp2_with fail
  refine (toOpS_any la lN lc lT _ Pl.out ql).mono ?_
  rintro e w1 ⟨sla, slc, rfl, ho, hb⟩
  have HB1 := Lib.hid (thru0 (Below.refl w.heap.size w) hb)
  have z1 : w.heap.size ≤ w1.heap.size := hb.size
  have sl_1 : Hid (OVO w1 w.heap.size w1.heap.size sla lN lT) := Lib.hid ho
  clear ho hb
  go_wp2_with fail
  refine (toReplyS_any ra rN rc rT _ (Pr.out.below HB1.out) qr).mono ?_
  rintro e w2 ⟨sra, src, rfl, ho, hb⟩
  have HB2 := Lib.hid (thru0 HB1.out hb)
  have z2 : w1.heap.size ≤ w2.heap.size := hb.size
  have sl_2 := Lib.hid (sl_1.out.below hb)
  have sr_2 : Hid (PVO w2 w1.heap.size w2.heap.size sra rN rT) := Lib.hid ho
  clear ho hb sl_1 HB1
  go_wp2_with fail
  refine (specRf_any sla lN slc lT sra rN src rT tn co K U _ sl_2.out.src sr_2.out.src ql qr HK.out).mono ?_
  rintro e w3 ⟨wa, wc, rfl, ho, hb⟩
  have HB3 := Lib.hid (thru0 HB2.out hb)
  have z3 : w2.heap.size ≤ w3.heap.size := hb.size
  have Rw_3 : Hid (PVO w3 w2.heap.size w3.heap.size wa K U) := Lib.hid ho
  clear ho hb HB2 sl_2 sr_2
  have HB4 := Lib.hid (HB3.out.alloc HB3.out.size (.cells #[.int .i64 co, .slice wa K wc] 38))
  have Rw_4 := Lib.hid (Rw_3.out.alloc (.cells #[.int .i64 co, .slice wa K wc] 38))
  have W_4 := Lib.hid (Blk.new_at (w := w3) (cs := #[.int .i64 co, .slice wa K wc]) (t := 38) w3.heap.size rfl)
  have z4 : w3.heap.size + 1 ≤ (w3.alloc (.cells #[.int .i64 co, .slice wa K wc] 38)).heap.size := by simp
  clear HB3 Rw_3
  go_wp2_with fail
  generalize w3.alloc (.cells #[.int .i64 co, .slice wa K wc] 38) = w4 at *
  generalize w3.heap.size = W0 at *
  refine (toOpS_any la lN lc lT _ (Pl.out.below HB4.out) ql).mono ?_
  rintro e w5 ⟨xla, xlc, rfl, ho, hb⟩
  have HB5 := Lib.hid (thru0 HB4.out hb)
  have z5 : w4.heap.size ≤ w5.heap.size := hb.size
  have Rw_5 := Lib.hid (Rw_4.out.below hb)
  have W_5 := Lib.hid (W_4.out.below hb)
  have xl_5 : Hid (OVO w5 w4.heap.size w5.heap.size xla lN lT) := Lib.hid ho
  clear ho hb Rw_4 W_4 HB4
  go_wp2_with fail
  refine (toReplyS_any ra rN rc rT _ (Pr.out.below HB5.out) qr).mono ?_
  rintro e w6 ⟨xra, xrc, rfl, ho, hb⟩
  have HB6 := Lib.hid (thru0 HB5.out hb)
  have z6 : w5.heap.size ≤ w6.heap.size := hb.size
  have Rw_6 := Lib.hid (Rw_5.out.below hb)
  have W_6 := Lib.hid (W_5.out.below hb)
  have xl_6 := Lib.hid (xl_5.out.below hb)
  have xr_6 : Hid (PVO w6 w5.heap.size w6.heap.size xra rN rT) := Lib.hid ho
  clear ho hb Rw_5 W_5 xl_5 HB5
  go_wp2_with fail
  refine (implRf_any xla lN xlc lT xra rN xrc rT tn co K U _ xl_6.out.src xr_6.out.src ql qr HK.out).mono ?_
  rintro e w7 ⟨ga, gc, rfl, ho, hb⟩
  have HB7 := Lib.hid (thru0 HB6.out hb)
  have z7 : w6.heap.size ≤ w7.heap.size := hb.size
  have Rw_7 := Lib.hid (Rw_6.out.below hb)
  have W_7 := Lib.hid (W_6.out.below hb)
  have xl_7 := Lib.hid (xl_6.out.below hb)
  have xr_7 := Lib.hid (xr_6.out.below hb)
  have Rg_7 : Hid (PVO w7 w6.heap.size w7.heap.size ga K U) := Lib.hid ho
  clear ho hb Rw_6 W_6 xl_6 xr_6 HB6
  have d0 := W_7.out.at 0 rfl; have d1 := W_7.out.at 1 rfl; have ld := W_7.out.1
  have HB8 := Lib.hid (HB7.out.alloc HB7.out.size (.cells #[.int .i64 co, .slice ga K gc] 38))
  have Rw_8 := Lib.hid (Rw_7.out.alloc (.cells #[.int .i64 co, .slice ga K gc] 38))
  have W_8 := Lib.hid (W_7.out.alloc (.cells #[.int .i64 co, .slice ga K gc] 38))
  have xl_8 := Lib.hid (xl_7.out.alloc (.cells #[.int .i64 co, .slice ga K gc] 38))
  have xr_8 := Lib.hid (xr_7.out.alloc (.cells #[.int .i64 co, .slice ga K gc] 38))
  have Rg_8 := Lib.hid (Rg_7.out.alloc (.cells #[.int .i64 co, .slice ga K gc] 38))
  have Y_8 := Lib.hid (Blk.new_at (w := w7) (cs := #[.int .i64 co, .slice ga K gc]) (t := 38) w7.heap.size rfl)
  have z8 : w7.heap.size + 1 ≤ (w7.alloc (.cells #[.int .i64 co, .slice ga K gc] 38)).heap.size := by simp
  go_wp2_with fail
  clear d0 d1 ld HB7 Rw_7 W_7 xl_7 xr_7 Rg_7
  generalize w7.alloc (.cells #[.int .i64 co, .slice ga K gc] 38) = w8 at *
  generalize hY0 : w7.heap.size = Y0 at *
  refine (eqViewResult_same co ga wa K gc wc U U _ Rg_8.out.src Rw_8.out.src (fun _ _ => rfl) (by omega)).mono ?_
  rintro e w9 ⟨rfl, hb⟩
  have HB9 := Lib.hid (thru0 HB8.out hb)
  have z9 : w8.heap.size ≤ w9.heap.size := hb.size
  have Rw_9 := Lib.hid (Rw_8.out.below hb)
  have W_9 := Lib.hid (W_8.out.below hb)
  have xl_9 := Lib.hid (xl_8.out.below hb)
  have xr_9 := Lib.hid (xr_8.out.below hb)
  have Rg_9 := Lib.hid (Rg_8.out.below hb)
  have Y_9 := Lib.hid (Y_8.out.below hb)
  clear hb Rw_8 W_8 xl_8 xr_8 Rg_8 Y_8 HB8
  go_wp2_with fail
  refine (toOpS_any la lN lc lT _ (Pl.out.below HB9.out) ql).mono ?_
  rintro e w10 ⟨ya, yc, rfl, ho, hb⟩
  have HB10 := Lib.hid (thru0 HB9.out hb)
  have z10 : w9.heap.size ≤ w10.heap.size := hb.size
  have Rw_10 := Lib.hid (Rw_9.out.below hb)
  have W_10 := Lib.hid (W_9.out.below hb)
  have xl_10 := Lib.hid (xl_9.out.below hb)
  have xr_10 := Lib.hid (xr_9.out.below hb)
  have Rg_10 := Lib.hid (Rg_9.out.below hb)
  have Y_10 := Lib.hid (Y_9.out.below hb)
  have yy_10 : Hid (OVO w10 w9.heap.size w10.heap.size ya lN lT) := Lib.hid ho
  clear ho hb Rw_9 W_9 xl_9 xr_9 Rg_9 Y_9 HB9
  go_wp2_with fail
  refine (eqOpS_same xla ya lN xlc yc lT lT _ xl_10.out.src yy_10.out.src (fun _ _ => rfl) ql).mono ?_
  rintro e w11 ⟨rfl, hb⟩
  have HB11 := Lib.hid (thru0 HB10.out hb)
  have z11 : w10.heap.size ≤ w11.heap.size := hb.size
  have Rw_11 := Lib.hid (Rw_10.out.below hb)
  have W_11 := Lib.hid (W_10.out.below hb)
  have xl_11 := Lib.hid (xl_10.out.below hb)
  have xr_11 := Lib.hid (xr_10.out.below hb)
  have Rg_11 := Lib.hid (Rg_10.out.below hb)
  have Y_11 := Lib.hid (Y_10.out.below hb)
  clear hb Rw_10 W_10 xl_10 xr_10 Rg_10 Y_10 HB10 yy_10
  go_wp2_with fail
  refine (toReplyS_any ra rN rc rT _ (Pr.out.below HB11.out) qr).mono ?_
  rintro e w12 ⟨ya, yc, rfl, ho, hb⟩
  have HB12 := Lib.hid (thru0 HB11.out hb)
  have z12 : w11.heap.size ≤ w12.heap.size := hb.size
  have Rw_12 := Lib.hid (Rw_11.out.below hb)
  have W_12 := Lib.hid (W_11.out.below hb)
  have xl_12 := Lib.hid (xl_11.out.below hb)
  have xr_12 := Lib.hid (xr_11.out.below hb)
  have Rg_12 := Lib.hid (Rg_11.out.below hb)
  have Y_12 := Lib.hid (Y_11.out.below hb)
  have yy_12 : Hid (PVO w12 w11.heap.size w12.heap.size ya rN rT) := Lib.hid ho
  clear ho hb Rw_11 W_11 xl_11 xr_11 Rg_11 Y_11 HB11
  go_wp2_with fail
  refine (eqReplyS_same xra ya rN xrc yc rT rT _ xr_12.out.src yy_12.out.src (fun _ _ => rfl) qr).mono ?_
  rintro e w13 ⟨rfl, hb⟩
  have HB13 := Lib.hid (thru0 HB12.out hb)
  have z13 : w12.heap.size ≤ w13.heap.size := hb.size
  have Rw_13 := Lib.hid (Rw_12.out.below hb)
  have W_13 := Lib.hid (W_12.out.below hb)
  have xl_13 := Lib.hid (xl_12.out.below hb)
  have xr_13 := Lib.hid (xr_12.out.below hb)
  have Rg_13 := Lib.hid (Rg_12.out.below hb)
  have Y_13 := Lib.hid (Y_12.out.below hb)
  clear hb Rw_12 W_12 xl_12 xr_12 Rg_12 Y_12 HB12 yy_12
  go_wp2_with fail
  refine (markOpS_any xla (w4.heap.size) (w5.heap.size) lN xlc lT 1 _ xl_13.out (by omega) (by omega)).mono ?_
  rintro e w14 ⟨rfl, hm, hkp⟩
  have HB14 := Lib.hid (HB13.out.trans (hkp.below (by omega) HB13.out.size))
  have z14 : w13.heap.size ≤ w14.heap.size := hkp.size
  have Rw_14 := Lib.hid (Rw_13.out.keeps hkp (.inl (by omega)))
  have W_14 := Lib.hid (W_13.out.keeps hkp (.inl (by omega)))
  have xr_14 := Lib.hid (xr_13.out.keeps hkp (.inr (by omega)))
  have Rg_14 := Lib.hid (Rg_13.out.keeps hkp (.inr (by omega)))
  have Y_14 := Lib.hid (Y_13.out.keeps hkp (.inr (by omega)))
  clear hm hkp Rw_13 W_13 xr_13 Rg_13 Y_13 HB13 xl_13
  obtain ⟨k1, hk1⟩ : ∃ k, k = 1 + 7 * (lN : Int) := ⟨_, rfl⟩
  try rw [← hk1]
  have kp1 : 1 ≤ k1 := by omega
  have kq1 : k1 ≤ 7340033 := by omega
  clear hk1
  go_wp2_with fail
  refine (markReplyS_big xra (w5.heap.size) (w6.heap.size) rN xrc rT k1 _ xr_14.out (by omega) (by omega)).mono ?_
  rintro e w15 ⟨rfl, hm, hkp⟩
  have HB15 := Lib.hid (HB14.out.trans (hkp.below (by omega) HB14.out.size))
  have z15 : w14.heap.size ≤ w15.heap.size := hkp.size
  have Rw_15 := Lib.hid (Rw_14.out.keeps hkp (.inl (by omega)))
  have W_15 := Lib.hid (W_14.out.keeps hkp (.inl (by omega)))
  have Rg_15 := Lib.hid (Rg_14.out.keeps hkp (.inr (by omega)))
  have Y_15 := Lib.hid (Y_14.out.keeps hkp (.inr (by omega)))
  clear hm hkp Rw_14 W_14 Rg_14 Y_14 HB14 xr_14
  obtain ⟨k2, hk2⟩ : ∃ k, k = k1 + 2 * (rN : Int) := ⟨_, rfl⟩
  try rw [← hk2]
  have kp2 : 1 ≤ k2 := by omega
  have kq2 : k2 ≤ 9437185 := by omega
  clear hk2
  have kn : ¬ k2 < 0 := by omega
  have d0 := W_15.out.at 0 rfl; have d1 := W_15.out.at 1 rfl; have ld := W_15.out.1
  have e0 := Y_15.out.at 0 rfl; have e1 := Y_15.out.at 1 rfl; have le := Y_15.out.1
  go_wp2_with fail
  refine (eqViewResult_same co ga wa K gc wc U U _ Rg_15.out.src Rw_15.out.src (fun _ _ => rfl) (by omega)).mono ?_
  rintro e w16 ⟨rfl, hb⟩
  have HB16 := Lib.hid (thru0 HB15.out hb)
  have z16 : w15.heap.size ≤ w16.heap.size := hb.size
  have Rw_16 := Lib.hid (Rw_15.out.below hb)
  have W_16 := Lib.hid (W_15.out.below hb)
  have Rg_16 := Lib.hid (Rg_15.out.below hb)
  have Y_16 := Lib.hid (Y_15.out.below hb)
  clear d0 d1 e0 e1 ld le hb Rw_15 W_15 Rg_15 Y_15 HB15
  have e0 := Y_16.out.at 0 rfl; have e1 := Y_16.out.at 1 rfl; have le := Y_16.out.1
  go_wp2_with fail
  refine (markViewResult_any co ga (w6.heap.size) (Y0) K gc U 1 _ Rg_16.out (by omega) (by omega) (by omega)).mono ?_
  rintro e w17 ⟨rfl, hm, hkp⟩
  have HB17 := Lib.hid (HB16.out.trans (hkp.below (by omega) HB16.out.size))
  have z17 : w16.heap.size ≤ w17.heap.size := hkp.size
  have Rw_17 := Lib.hid (Rw_16.out.keeps hkp (.inl (by omega)))
  have W_17 := Lib.hid (W_16.out.keeps hkp (.inl (by omega)))
  have Y_17 := Lib.hid (Y_16.out.keeps hkp (.inr (by omega)))
  have Rm_17 := Lib.hid hm
  clear hm e0 e1 le hkp Rw_16 W_16 Y_16 HB16 Rg_16
  obtain ⟨mm, hmm⟩ : ∃ mm, mm = 1 + 2 * (K : Int) := ⟨_, rfl⟩
  rw [← hmm]
  have hmm0 : ¬ mm < 0 := by omega
  have HMM := Lib.hid hmm
  clear hmm
  have e0 := Y_17.out.at 0 rfl; have e1 := Y_17.out.at 1 rfl; have le := Y_17.out.1
  go_wp2_with fail
  refine (heldViewResult_any co ga K gc 1 _ Rm_17.out.src (by omega) (by omega)).mono ?_
  rintro e w18 ⟨rfl, hb⟩
  rw [← HMM.out]
  have HB18 := Lib.hid (thru0 HB17.out hb)
  have z18 : w17.heap.size ≤ w18.heap.size := hb.size
  have Rw_18 := Lib.hid (Rw_17.out.below hb)
  have W_18 := Lib.hid (W_17.out.below hb)
  have Y_18 := Lib.hid (Y_17.out.below hb)
  have Rm_18 := Lib.hid (Rm_17.out.below hb)
  clear e0 e1 le hb Rw_17 W_17 Y_17 Rm_17 HB17
  go_wp2_with fail
  refine (toOpS_any la lN lc lT _ (Pl.out.below HB18.out) ql).mono ?_
  rintro e w19 ⟨vla, vlc, rfl, ho, hb⟩
  have HB19 := Lib.hid (thru0 HB18.out hb)
  have z19 : w18.heap.size ≤ w19.heap.size := hb.size
  have Rw_19 := Lib.hid (Rw_18.out.below hb)
  have W_19 := Lib.hid (W_18.out.below hb)
  have Y_19 := Lib.hid (Y_18.out.below hb)
  have Rm_19 := Lib.hid (Rm_18.out.below hb)
  have vl_19 : Hid (OVO w19 w18.heap.size w19.heap.size vla lN lT) := Lib.hid ho
  clear ho hb Rw_18 W_18 Y_18 Rm_18 HB18
  go_wp2_with fail
  refine (toReplyS_any ra rN rc rT _ (Pr.out.below HB19.out) qr).mono ?_
  rintro e w20 ⟨vra, vrc, rfl, ho, hb⟩
  have HB20 := Lib.hid (thru0 HB19.out hb)
  have z20 : w19.heap.size ≤ w20.heap.size := hb.size
  have Rw_20 := Lib.hid (Rw_19.out.below hb)
  have W_20 := Lib.hid (W_19.out.below hb)
  have Y_20 := Lib.hid (Y_19.out.below hb)
  have Rm_20 := Lib.hid (Rm_19.out.below hb)
  have vl_20 := Lib.hid (vl_19.out.below hb)
  have vr_20 : Hid (PVO w20 w19.heap.size w20.heap.size vra rN rT) := Lib.hid ho
  clear ho hb Rw_19 W_19 Y_19 Rm_19 vl_19 HB19
  go_wp2_with fail
  refine (implRf_any vla lN vlc lT vra rN vrc rT tn co K U _ vl_20.out.src vr_20.out.src ql qr HK.out).mono ?_
  rintro e w21 ⟨ha, hc, rfl, ho, hb⟩
  have HB21 := Lib.hid (thru0 HB20.out hb)
  have z21 : w20.heap.size ≤ w21.heap.size := hb.size
  have Rw_21 := Lib.hid (Rw_20.out.below hb)
  have W_21 := Lib.hid (W_20.out.below hb)
  have Y_21 := Lib.hid (Y_20.out.below hb)
  have Rm_21 := Lib.hid (Rm_20.out.below hb)
  have Rh_21 : Hid (PVO w21 w20.heap.size w21.heap.size ha K U) := Lib.hid ho
  clear ho hb Rw_20 W_20 Y_20 Rm_20 HB20 vl_20 vr_20
  have d0 := W_21.out.at 0 rfl; have d1 := W_21.out.at 1 rfl; have ld := W_21.out.1
  have HB22 := Lib.hid (HB21.out.alloc HB21.out.size (.cells #[.int .i64 co, .slice ha K hc] 38))
  have Rw_22 := Lib.hid (Rw_21.out.alloc (.cells #[.int .i64 co, .slice ha K hc] 38))
  have W_22 := Lib.hid (W_21.out.alloc (.cells #[.int .i64 co, .slice ha K hc] 38))
  have Y_22 := Lib.hid (Y_21.out.alloc (.cells #[.int .i64 co, .slice ha K hc] 38))
  have Rm_22 := Lib.hid (Rm_21.out.alloc (.cells #[.int .i64 co, .slice ha K hc] 38))
  have Rh_22 := Lib.hid (Rh_21.out.alloc (.cells #[.int .i64 co, .slice ha K hc] 38))
  have Hh_22 := Lib.hid (Blk.new_at (w := w21) (cs := #[.int .i64 co, .slice ha K hc]) (t := 38) w21.heap.size rfl)
  have z22 : w21.heap.size + 1 ≤ (w21.alloc (.cells #[.int .i64 co, .slice ha K hc] 38)).heap.size := by simp
  go_wp2_with fail
  clear d0 d1 ld Hh_22 HB21 Rw_21 W_21 Y_21 Rm_21 Rh_21
  generalize w21.alloc (.cells #[.int .i64 co, .slice ha K hc] 38) = w22 at *
  refine (eqViewResult_same co ha wa K hc wc U U _ Rh_22.out.src Rw_22.out.src (fun _ _ => rfl) (by omega)).mono ?_
  rintro e w23 ⟨rfl, hb⟩
  have HB23 := Lib.hid (thru0 HB22.out hb)
  have z23 : w22.heap.size ≤ w23.heap.size := hb.size
  have Rw_23 := Lib.hid (Rw_22.out.below hb)
  have W_23 := Lib.hid (W_22.out.below hb)
  have Y_23 := Lib.hid (Y_22.out.below hb)
  have Rm_23 := Lib.hid (Rm_22.out.below hb)
  have Rh_23 := Lib.hid (Rh_22.out.below hb)
  clear hb Rw_22 W_22 Y_22 Rm_22 Rh_22 HB22
  have e0 := Y_23.out.at 0 rfl; have e1 := Y_23.out.at 1 rfl; have le := Y_23.out.1
  go_wp2_with fail
  refine (heldViewResult_any co ga K gc 1 _ Rm_23.out.src (by omega) (by omega)).mono ?_
  rintro e w24 ⟨rfl, hb⟩
  rw [← HMM.out]
  have HB24 := Lib.hid (thru0 HB23.out hb)
  have z24 : w23.heap.size ≤ w24.heap.size := hb.size
  have Rw_24 := Lib.hid (Rw_23.out.below hb)
  have W_24 := Lib.hid (W_23.out.below hb)
  have Y_24 := Lib.hid (Y_23.out.below hb)
  have Rm_24 := Lib.hid (Rm_23.out.below hb)
  have Rh_24 := Lib.hid (Rh_23.out.below hb)
  clear e0 e1 le hb Rw_23 W_23 Y_23 Rm_23 Rh_23 HB23
  go_wp2
  go_ret
  exact ⟨rfl, HB24.out⟩
end Go.Proofs.Ytpmhbdiddcnhfaa

