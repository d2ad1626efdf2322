/- Texts merged: NH9 to NH9. -/
import Derived.Test.YtbhjmomphajnnaaPNH3
namespace Go.Proofs.Ytbhjmomphajnnaa
open Go.RowKit
set_option linter.unusedVariables false

theorem nt_same {N : Nat} {qf sf : Nat → Int} {T U : Nat → TN} (h : ∀ i, i < N → NT qf sf i (T i)) (k : ∀ i, i < N → NT qf sf i (U i)) : ∀ i, i < N → TnSame (T i) (U i) := fun i hi => by
  obtain ⟨a1, a2, a3, a4⟩ := h i hi
  obtain ⟨b1, b2, b3, b4⟩ := k i hi
  exact ⟨a1.trans b1.symm, a2.trans b2.symm, by omega, fun j _ => by rw [a4, b4]⟩

theorem nt_n {N : Nat} {qf sf : Nat → Int} {T : Nat → TN} (h : ∀ i, i < N → NT qf sf i (T i)) (k : ∀ i, i < N → sf i ≤ 8) : ∀ i, i < N → (T i).n ≤ 8 := fun i hi => by
  have := (h i hi).2.2.1
  have := k i hi
  omega

theorem isNH_small {hf : Int} {Q : Nat} {qf : Nat → Int} {S : Nat} {sf : Nat → Int} {c : Int} {m Q' : Nat} (h : IsNH hf Q qf S sf c m Q') : m ≤ 200 ∧ Q' ≤ 4 ∧ ∀ i, i < Q' → sf i ≤ 8 := by
  rcases h.2 with ⟨_, _, h1, rfl, _, h4, h5⟩ | ⟨_, rfl, rfl⟩
  · exact ⟨h1.2, h4, fun i hi => (h5 i hi).2⟩
  · exact ⟨by omega, by omega, fun i hi => by omega⟩

set_option maxRecDepth 100000 in
set_option maxHeartbeats 6400000 in
theorem e8_any (hf : Int) (qa : Option Addr) (Q qc : Nat) (qf : Nat → Int) (sa : Option Addr) (S sc : Nat) (sf : Nat → Int) (w : World) (s1 : Src w qa Q qf) (s2 : Src w sa S sf) (hQ : Q ≤ maxLen) (hS : S ≤ maxLen) :
    Calls Try.prog 8 #[.agg #[.int .i64 hf, .slice qa Q qc, .slice sa S sc]] w (RetBool w true) := by
  obtain ⟨co, mh, Q2, hk⟩ := isNH_some hf Q qf S sf
  obtain ⟨hm9, hN9, hV9⟩ := isNH_small hk
  have HV9 := Lib.hid hV9
  clear hV9
  have HK := Lib.hid hk; have P0 := Lib.hid s1; have G0 := Lib.hid s2
  have A_0 := Lib.hid (Blk.new_at (w := w) (cs := #[.int .i64 hf, .slice qa Q qc, .slice sa S sc]) (t := 74) w.heap.size rfl)
  have HB0 := Lib.hid ((Below.refl w.heap.size w).alloc (Nat.le_refl _) (.cells #[.int .i64 hf, .slice qa Q qc, .slice sa S sc] 74))
  have c0 := A_0.out.at 0 rfl; have c1 := A_0.out.at 1 rfl; have c2 := A_0.out.at 2 rfl; have lA := A_0.out.1
  clear hk s1 s2
  go_enter Try.func8, Try.ntmps8
  go_wp2_with fail
  refine (szConfig_any hf qa Q qc sa S sc 1048576 _ hQ hS (by omega) (by omega)).mono ?_
  rintro e w1 ⟨hb, r, rfl, hr2⟩
  have HB1 := Lib.hid (thru0 HB0.out hb)
  have A_1 := Lib.hid (A_0.out.below hb)
  clear hb c0 c1 c2 lA A_0 HB0
  rcases hr2 with rfl | ⟨h0, h1, h2, h3⟩
  · go_wp2
    go_ret
    exact ⟨rfl, HB1.out⟩
  have h9 : ¬ r < 0 := by omega
  have hQ1 : Q ≤ 1048576 := by omega
  have hS1 : S ≤ 1048576 := by omega
  clear h1 h2 h3 hQ hS
  have c0 := A_1.out.at 0 rfl; have c1 := A_1.out.at 1 rfl; have c2 := A_1.out.at 2 rfl; have lA := A_1.out.1
  go_wp2_with fail
  refine (toConfig_any hf qa Q qc qf sa S sc sf _ (P0.out.below HB1.out) (G0.out.below HB1.out) hQ1 hS1).mono ?_
  rintro e w2 ⟨qb, kb, sb, mb, md, rfl, p2, g2, _, _, hb⟩
  have HB2 := Lib.hid (thru0 HB1.out hb)
  have A_2 := Lib.hid (A_1.out.below hb)
  have P2 := Lib.hid p2.src; have G2 := Lib.hid g2.src
  clear hb c0 c1 c2 lA A_1 HB1 p2 g2
  go_wp2_with fail
  refine (specNH_any hf qb Q kb qf sb S mb sf co mh Q2 _ P2.out G2.out hQ1 hS1 HK.out).mono ?_
  rintro e w3 ⟨wa, wc, wta, wtc, wmid, wT, rfl, ho, ht, wr1, wr2, hnt, hb⟩
  have HB3 := Lib.hid (thru0 HB2.out hb)
  have A_3 := Lib.hid (A_2.out.below hb)
  have z2 : w.heap.size ≤ w2.heap.size := HB2.out.size
  have z3 : w2.heap.size ≤ w3.heap.size := hb.size
  have Rw_3 : Hid (OwnIn w3 w2.heap.size wmid wa (2 * mh) (fun _ => 0)) := Lib.hid ho; have Nw_3 : Hid (TVO w3 wmid w3.heap.size wta Q2 wT) := Lib.hid ht; have Vw := Lib.hid hnt
  clear hb A_2 HB2 P2 G2 ho ht hnt
  have HB4 := Lib.hid (HB3.out.alloc HB3.out.size (.cells #[.int .i64 co, .int .i64 (mh : Int), .slice wa (2 * mh) wc, .int .i64 0, .int .i64 0, .slice wta Q2 wtc, .slice none 0 0, .slice none 0 0] 85))
  have A_4 := Lib.hid (A_3.out.alloc (.cells #[.int .i64 co, .int .i64 (mh : Int), .slice wa (2 * mh) wc, .int .i64 0, .int .i64 0, .slice wta Q2 wtc, .slice none 0 0, .slice none 0 0] 85))
  have W_4 := Lib.hid (Blk.new_at (w := w3) (cs := #[.int .i64 co, .int .i64 (mh : Int), .slice wa (2 * mh) wc, .int .i64 0, .int .i64 0, .slice wta Q2 wtc, .slice none 0 0, .slice none 0 0]) (t := 85) w3.heap.size rfl)
  have Rw_4 := Lib.hid (Rw_3.out.alloc (.cells #[.int .i64 co, .int .i64 (mh : Int), .slice wa (2 * mh) wc, .int .i64 0, .int .i64 0, .slice wta Q2 wtc, .slice none 0 0, .slice none 0 0] 85)); have Nw_4 := Lib.hid (Nw_3.out.alloc (.cells #[.int .i64 co, .int .i64 (mh : Int), .slice wa (2 * mh) wc, .int .i64 0, .int .i64 0, .slice wta Q2 wtc, .slice none 0 0, .slice none 0 0] 85))
  have z4 : w3.heap.size + 1 ≤ (w3.alloc (.cells #[.int .i64 co, .int .i64 (mh : Int), .slice wa (2 * mh) wc, .int .i64 0, .int .i64 0, .slice wta Q2 wtc, .slice none 0 0, .slice none 0 0] 85)).heap.size := by simp
  have c0 := A_4.out.at 0 rfl; have c1 := A_4.out.at 1 rfl; have c2 := A_4.out.at 2 rfl; have lA := A_4.out.1
  clear A_3 HB3
  go_wp2_with fail
  generalize w3.alloc (.cells #[.int .i64 co, .int .i64 (mh : Int), .slice wa (2 * mh) wc, .int .i64 0, .int .i64 0, .slice wta Q2 wtc, .slice none 0 0, .slice none 0 0] 85) = w4 at *
  have zA4 := A_4.out.1
  refine (toConfig_any hf qa Q qc qf sa S sc sf _ (P0.out.below HB4.out) (G0.out.below HB4.out) hQ1 hS1).mono ?_
  rintro e w5 ⟨qx, kx, sx, mx, xm, rfl, p4, g4, xz1, xz2, hb⟩
  have HB5 := Lib.hid (thru0 HB4.out hb)
  have A_5 := Lib.hid (A_4.out.below hb); have W_5 := Lib.hid (W_4.out.below hb)
  have Rw_5 := Lib.hid (Rw_4.out.below hb); have Nw_5 := Lib.hid (Nw_4.out.below hb)
  have P5 := Lib.hid p4; have G5 := Lib.hid g4
  clear hb c0 c1 c2 lA A_4 W_4 HB4 p4 g4
  have z5 : w4.heap.size ≤ w5.heap.size := by omega
  generalize w3.heap.size = W0 at *
  go_wp2_with fail
  have A_6 := Lib.hid (A_5.out.alloc (.cells #[.int .i64 hf, .slice qx Q kx, .slice sx S mx] 77)); have W_6 := Lib.hid (W_5.out.alloc (.cells #[.int .i64 hf, .slice qx Q kx, .slice sx S mx] 77))
  have X_6 := Lib.hid (Blk.new_at (w := w5) (cs := #[.int .i64 hf, .slice qx Q kx, .slice sx S mx]) (t := 77) w5.heap.size rfl)
  have HB6 := Lib.hid (HB5.out.alloc HB5.out.size (.cells #[.int .i64 hf, .slice qx Q kx, .slice sx S mx] 77))
  have P6 := Lib.hid (P5.out.alloc (.cells #[.int .i64 hf, .slice qx Q kx, .slice sx S mx] 77))
  have G6 := Lib.hid (G5.out.alloc (.cells #[.int .i64 hf, .slice qx Q kx, .slice sx S mx] 77))
  have Rw_6 := Lib.hid (Rw_5.out.alloc (.cells #[.int .i64 hf, .slice qx Q kx, .slice sx S mx] 77)); have Nw_6 := Lib.hid (Nw_5.out.alloc (.cells #[.int .i64 hf, .slice qx Q kx, .slice sx S mx] 77))
  have z6 : w5.heap.size + 1 ≤ (w5.alloc (.cells #[.int .i64 hf, .slice qx Q kx, .slice sx S mx] 77)).heap.size := by simp
  clear A_5 W_5 HB5 P5 G5
  generalize w5.alloc (.cells #[.int .i64 hf, .slice qx Q kx, .slice sx S mx] 77) = w6 at *
  generalize w5.heap.size = X0 at *
  refine (implNH_any hf qx Q kx qf sx S mx sf co mh Q2 _ P6.out.src G6.out.src hQ1 hS1 HK.out).mono ?_
  rintro e w7 ⟨ga, gc, gta, gtc, gmid, gT, rfl, ho, ht, gr1, gr2, hnt, hb⟩
  have HB7 := Lib.hid (thru0 HB6.out hb)
  have A_7 := Lib.hid (A_6.out.below hb); have W_7 := Lib.hid (W_6.out.below hb); have X_7 := Lib.hid (X_6.out.below hb); have P7 := Lib.hid (P6.out.below hb); have G7 := Lib.hid (G6.out.below hb)
  have z7 : w6.heap.size ≤ w7.heap.size := hb.size
  have Rw_7 := Lib.hid (Rw_6.out.below hb); have Nw_7 := Lib.hid (Nw_6.out.below hb)
  have Rg_7 : Hid (OwnIn w7 w6.heap.size gmid ga (2 * mh) (fun _ => 0)) := Lib.hid ho; have Ng_7 : Hid (TVO w7 gmid w7.heap.size gta Q2 gT) := Lib.hid ht; have Vg := Lib.hid hnt
  clear hb A_6 W_6 X_6 HB6 P6 G6 ho ht hnt
  have d0 := W_7.out.at 0 rfl; have d1 := W_7.out.at 1 rfl; have d2 := W_7.out.at 2 rfl; have d3 := W_7.out.at 3 rfl; have d4 := W_7.out.at 4 rfl; have d5 := W_7.out.at 5 rfl; have d6 := W_7.out.at 6 rfl; have d7 := W_7.out.at 7 rfl; have lW := W_7.out.1
  have A_8 := Lib.hid (A_7.out.alloc (.cells #[.int .i64 co, .int .i64 (mh : Int), .slice ga (2 * mh) gc, .int .i64 0, .int .i64 0, .slice gta Q2 gtc, .slice none 0 0, .slice none 0 0] 85)); have W_8 := Lib.hid (W_7.out.alloc (.cells #[.int .i64 co, .int .i64 (mh : Int), .slice ga (2 * mh) gc, .int .i64 0, .int .i64 0, .slice gta Q2 gtc, .slice none 0 0, .slice none 0 0] 85)); have X_8 := Lib.hid (X_7.out.alloc (.cells #[.int .i64 co, .int .i64 (mh : Int), .slice ga (2 * mh) gc, .int .i64 0, .int .i64 0, .slice gta Q2 gtc, .slice none 0 0, .slice none 0 0] 85)); have P8 := Lib.hid (P7.out.alloc (.cells #[.int .i64 co, .int .i64 (mh : Int), .slice ga (2 * mh) gc, .int .i64 0, .int .i64 0, .slice gta Q2 gtc, .slice none 0 0, .slice none 0 0] 85)); have G8 := Lib.hid (G7.out.alloc (.cells #[.int .i64 co, .int .i64 (mh : Int), .slice ga (2 * mh) gc, .int .i64 0, .int .i64 0, .slice gta Q2 gtc, .slice none 0 0, .slice none 0 0] 85))
  have Y_8 := Lib.hid (Blk.new_at (w := w7) (cs := #[.int .i64 co, .int .i64 (mh : Int), .slice ga (2 * mh) gc, .int .i64 0, .int .i64 0, .slice gta Q2 gtc, .slice none 0 0, .slice none 0 0]) (t := 85) w7.heap.size rfl)
  have HB8 := Lib.hid (HB7.out.alloc HB7.out.size (.cells #[.int .i64 co, .int .i64 (mh : Int), .slice ga (2 * mh) gc, .int .i64 0, .int .i64 0, .slice gta Q2 gtc, .slice none 0 0, .slice none 0 0] 85))
  have Rw_8 := Lib.hid (Rw_7.out.alloc (.cells #[.int .i64 co, .int .i64 (mh : Int), .slice ga (2 * mh) gc, .int .i64 0, .int .i64 0, .slice gta Q2 gtc, .slice none 0 0, .slice none 0 0] 85)); have Nw_8 := Lib.hid (Nw_7.out.alloc (.cells #[.int .i64 co, .int .i64 (mh : Int), .slice ga (2 * mh) gc, .int .i64 0, .int .i64 0, .slice gta Q2 gtc, .slice none 0 0, .slice none 0 0] 85))
  have Rg_8 := Lib.hid (Rg_7.out.alloc (.cells #[.int .i64 co, .int .i64 (mh : Int), .slice ga (2 * mh) gc, .int .i64 0, .int .i64 0, .slice gta Q2 gtc, .slice none 0 0, .slice none 0 0] 85)); have Ng_8 := Lib.hid (Ng_7.out.alloc (.cells #[.int .i64 co, .int .i64 (mh : Int), .slice ga (2 * mh) gc, .int .i64 0, .int .i64 0, .slice gta Q2 gtc, .slice none 0 0, .slice none 0 0] 85))
  have z8 : w7.heap.size + 1 ≤ (w7.alloc (.cells #[.int .i64 co, .int .i64 (mh : Int), .slice ga (2 * mh) gc, .int .i64 0, .int .i64 0, .slice gta Q2 gtc, .slice none 0 0, .slice none 0 0] 85)).heap.size := by simp
  go_wp2_with fail
  clear d0 d1 d2 d3 d4 d5 d6 d7 lW A_7 W_7 X_7 P7 G7 HB7
  generalize w7.alloc (.cells #[.int .i64 co, .int .i64 (mh : Int), .slice ga (2 * mh) gc, .int .i64 0, .int .i64 0, .slice gta Q2 gtc, .slice none 0 0, .slice none 0 0] 85) = w8 at *
  generalize w7.heap.size = Y0 at *
  refine (eqHpR_same co (mh : Int) 0 0 ga wa (2 * mh) gc wc (fun _ => 0) (fun _ => 0) gta wta Q2 gtc wtc gT wT _ Rg_8.out.src Rw_8.out.src Ng_8.out.src Nw_8.out.src (fun _ _ => rfl) (nt_same Vg.out Vw.out) (by omega) (by omega) (fun i hi => by have := nt_n Vg.out HV9.out i hi; omega)).mono ?_
  rintro e w9 ⟨rfl, hb⟩
  have HB9 := Lib.hid (thru0 HB8.out hb)
  have A_9 := Lib.hid (A_8.out.below hb); have W_9 := Lib.hid (W_8.out.below hb); have X_9 := Lib.hid (X_8.out.below hb); have P9 := Lib.hid (P8.out.below hb); have G9 := Lib.hid (G8.out.below hb); have Y_9 := Lib.hid (Y_8.out.below hb)
  have Rw_9 := Lib.hid (Rw_8.out.below hb); have Nw_9 := Lib.hid (Nw_8.out.below hb)
  have Rg_9 := Lib.hid (Rg_8.out.below hb); have Ng_9 := Lib.hid (Ng_8.out.below hb)
  have z9 : w8.heap.size ≤ w9.heap.size := hb.size
  clear hb A_8 W_8 X_8 P8 G8 Y_8 HB8
  have c0 := A_9.out.at 0 rfl; have c1 := A_9.out.at 1 rfl; have c2 := A_9.out.at 2 rfl; have lA := A_9.out.1
  have d0 := X_9.out.at 0 rfl; have d1 := X_9.out.at 1 rfl; have d2 := X_9.out.at 2 rfl; have lX := X_9.out.1
  go_wp2_with fail
  have A_d := Lib.hid A_9.out.drew; have X_d := Lib.hid X_9.out.drew; have HB_d := Lib.hid HB9.out.drew
  go_region_held3 (fun w' => w'.cell? ⟨w.heap.size, 0, none⟩ = some (.int .i64 hf) ∧ w'.cell? ⟨w.heap.size, 1, none⟩ = some (.slice qa Q qc) ∧ w'.cell? ⟨w.heap.size, 2, none⟩ = some (.slice sa S sc) ∧ w'.cell? ⟨X0, 0, none⟩ = some (.int .i64 hf) ∧ w'.cell? ⟨X0, 1, none⟩ = some (.slice qx Q kx) ∧ w'.cell? ⟨X0, 2, none⟩ = some (.slice sx S mx))
    (first | (with_reducible exact capC A_9.out X_9.out) | (with_reducible exact capC A_d.out X_d.out) | (with_reducible exact capC A_10.out X_10.out) | (with_reducible exact capC A_11.out X_11.out))
    (first | (go_at_call 42; refine (toConfig_any hf qa Q qc qf sa S sc sf _ (P0.out.below HB_d.out) (G0.out.below HB_d.out) hQ1 hS1).mono ?_; rintro e w10 ⟨qy, ky, sy, my, md3, rfl, p7, g7, _, _, hb⟩; have HB10 := Lib.hid (thru0 HB_d.out hb); have hb10 : Below w9.heap.size w9 w10 := (Below.refl _ _).drew.trans (hb.mono (by simp)); have BT10 := Lib.hid hb10; have A_10 := Lib.hid (A_9.out.below hb10); have X_10 := Lib.hid (X_9.out.below hb10); have P10 := Lib.hid (P9.out.below hb10); have G10 := Lib.hid (G9.out.below hb10); have P10' := Lib.hid p7.src; have G10' := Lib.hid g7.src; clear hb hb10 p7 g7) | (go_at_call 44; refine (eqConfig_same hf qx qy Q kx ky qf sx sy S mx my sf _ P10.out.src G10.out.src P10'.out G10'.out hQ1 hS1).mono ?_; rintro e w11 ⟨rfl, hb⟩; have HB11 := Lib.hid (thru0 HB10.out hb); have BT11 := Lib.hid (thru0 BT10.out hb); have A_11 := Lib.hid (A_10.out.below hb); have X_11 := Lib.hid (X_10.out.below hb); clear hb))
  have W_11 := Lib.hid (W_9.out.below BT11.out); have P11 := Lib.hid (P9.out.below BT11.out); have G11 := Lib.hid (G9.out.below BT11.out); have Y_11 := Lib.hid (Y_9.out.below BT11.out)
  have Rw_11 := Lib.hid (Rw_9.out.below BT11.out); have Nw_11 := Lib.hid (Nw_9.out.below BT11.out)
  have Rg_11 := Lib.hid (Rg_9.out.below BT11.out); have Ng_11 := Lib.hid (Ng_9.out.below BT11.out)
  have z11 : w9.heap.size ≤ w11.heap.size := BT11.out.size
  clear c0 c1 c2 lA d0 d1 d2 lX A_9 X_9 A_d X_d HB_d HB9 W_9 P9 G9 Y_9 A_10 X_10 P10 G10 P10' G10' BT10 BT11 HB10
  have d0 := X_11.out.at 0 rfl; have d1 := X_11.out.at 1 rfl; have d2 := X_11.out.at 2 rfl; have lX := X_11.out.1
  go_wp2_with fail
  refine (markConfig_any hf qx Q kx qf sx S mx sf w4.heap.size xm X0 1 _ P11.out G11.out xz1 xz2 (by omega) hQ1 hS1 (by omega) (by omega)).mono ?_
  rintro e w12 ⟨rfl, hkp⟩
  have HB12 := Lib.hid (HB11.out.trans (hkp.below (by omega) HB11.out.size))
  have A_12 := Lib.hid (A_11.out.keeps hkp (.inl (by omega))); have W_12 := Lib.hid (W_11.out.keeps hkp (.inl (by omega))); have Y_12 := Lib.hid (Y_11.out.keeps hkp (.inr (by omega)))
  have Rw_12 := Lib.hid (Rw_11.out.keeps hkp (.inl (by omega))); have Nw_12 := Lib.hid (Nw_11.out.keeps hkp (.inl (by omega)))
  have Rg_12 := Lib.hid (Rg_11.out.keeps hkp (.inr (by omega))); have Ng_12 := Lib.hid (Ng_11.out.keeps hkp (.inr (by omega)))
  have z12 : w11.heap.size ≤ w12.heap.size := hkp.size
  obtain ⟨kk, hkk⟩ : ∃ kk, kk = 1 + (Q : Int) + (S : Int) := ⟨_, rfl⟩
  rw [← hkk]
  have hkk0 : ¬ kk < 0 := by omega
  clear hkk hkp d0 d1 d2 lX A_11 X_11 W_11 P11 G11 Y_11 HB11
  have d0 := W_12.out.at 0 rfl; have d1 := W_12.out.at 1 rfl; have d2 := W_12.out.at 2 rfl; have d3 := W_12.out.at 3 rfl; have d4 := W_12.out.at 4 rfl; have d5 := W_12.out.at 5 rfl; have d6 := W_12.out.at 6 rfl; have d7 := W_12.out.at 7 rfl; have lW := W_12.out.1
  have e0 := Y_12.out.at 0 rfl; have e1 := Y_12.out.at 1 rfl; have e2 := Y_12.out.at 2 rfl; have e3 := Y_12.out.at 3 rfl; have e4 := Y_12.out.at 4 rfl; have e5 := Y_12.out.at 5 rfl; have e6 := Y_12.out.at 6 rfl; have e7 := Y_12.out.at 7 rfl; have lY := Y_12.out.1
  go_wp2_with fail
  refine (eqHpR_same co (mh : Int) 0 0 ga wa (2 * mh) gc wc (fun _ => 0) (fun _ => 0) gta wta Q2 gtc wtc gT wT _ Rg_12.out.src Rw_12.out.src Ng_12.out.src Nw_12.out.src (fun _ _ => rfl) (nt_same Vg.out Vw.out) (by omega) (by omega) (fun i hi => by have := nt_n Vg.out HV9.out i hi; omega)).mono ?_
  rintro e w13 ⟨rfl, hb⟩
  have HB13 := Lib.hid (thru0 HB12.out hb)
  have A_13 := Lib.hid (A_12.out.below hb); have W_13 := Lib.hid (W_12.out.below hb); have Y_13 := Lib.hid (Y_12.out.below hb)
  have Rw_13 := Lib.hid (Rw_12.out.below hb); have Nw_13 := Lib.hid (Nw_12.out.below hb)
  have Rg_13 := Lib.hid (Rg_12.out.below hb); have Ng_13 := Lib.hid (Ng_12.out.below hb)
  have z13 : w12.heap.size ≤ w13.heap.size := hb.size
  clear hb d0 e0 d1 e1 d2 e2 d3 e3 d4 e4 d5 e5 d6 e6 d7 e7 lW lY A_12 W_12 Y_12 HB12
  have e0 := Y_13.out.at 0 rfl; have e1 := Y_13.out.at 1 rfl; have e2 := Y_13.out.at 2 rfl; have e3 := Y_13.out.at 3 rfl; have e4 := Y_13.out.at 4 rfl; have e5 := Y_13.out.at 5 rfl; have e6 := Y_13.out.at 6 rfl; have e7 := Y_13.out.at 7 rfl; have lY := Y_13.out.1
  have hno9 : toff gT Q2 ≤ 18 * Q2 := toff_le gT Q2 (nt_n Vg.out HV9.out)
  obtain ⟨mm, hmm⟩ : ∃ mm, mm = 1 + ((2 * mh : Nat) : Int) + (toff gT Q2 : Int) := ⟨_, rfl⟩
  have hmm0 : ¬ mm < 0 := by omega
  have HMM := Lib.hid hmm
  have HK9 : Hid (1 + ((2 * mh : Nat) : Int) + (toff gT Q2 : Int) ≤ 1048576) := Lib.hid (by omega)
  clear hmm hno9
  go_wp2_with fail
  refine (markHR_any co (mh : Int) 0 0 ga (2 * mh) gc (fun _ => 0) gta Q2 gtc gT w6.heap.size gmid Y0 1 _ Rg_13.out Ng_13.out gr1 gr2 (by omega) (by omega) (by omega) HK9.out).mono ?_
  rintro e w14 ⟨rfl, hp14, hg14, hkp⟩
  rw [← HMM.out]
  have HB14 := Lib.hid (HB13.out.trans (hkp.below (by omega) HB13.out.size))
  have A_14 := Lib.hid (A_13.out.keeps hkp (.inl (by omega))); have W_14 := Lib.hid (W_13.out.keeps hkp (.inl (by omega))); have Y_14 := Lib.hid (Y_13.out.keeps hkp (.inr (by omega)))
  have Rw_14 := Lib.hid (Rw_13.out.keeps hkp (.inl (by omega))); have Nw_14 := Lib.hid (Nw_13.out.keeps hkp (.inl (by omega)))
  have Rm_14 := Lib.hid hp14; have Nm_14 := Lib.hid hg14
  have z14 : w13.heap.size ≤ w14.heap.size := hkp.size
  clear hkp e0 e1 e2 e3 e4 e5 e6 e7 lY A_13 W_13 Y_13 HB13 hp14 hg14
  have e0 := Y_14.out.at 0 rfl; have e1 := Y_14.out.at 1 rfl; have e2 := Y_14.out.at 2 rfl; have e3 := Y_14.out.at 3 rfl; have e4 := Y_14.out.at 4 rfl; have e5 := Y_14.out.at 5 rfl; have e6 := Y_14.out.at 6 rfl; have e7 := Y_14.out.at 7 rfl; have lY := Y_14.out.1
  go_wp2_with fail
  refine (heldHR_any co (mh : Int) 0 0 ga (2 * mh) gc gta Q2 gtc gT 1 _ Rm_14.out.src Nm_14.out.src (by omega) (by omega) HK9.out).mono ?_
  rintro e w15 ⟨rfl, hb⟩
  rw [← HMM.out]
  have HB15 := Lib.hid (thru0 HB14.out hb)
  have A_15 := Lib.hid (A_14.out.below hb); have W_15 := Lib.hid (W_14.out.below hb); have Y_15 := Lib.hid (Y_14.out.below hb)
  have Rw_15 := Lib.hid (Rw_14.out.below hb); have Nw_15 := Lib.hid (Nw_14.out.below hb)
  have Rm_15 := Lib.hid (Rm_14.out.below hb); have Nm_15 := Lib.hid (Nm_14.out.below hb)
  have z15 : w14.heap.size ≤ w15.heap.size := hb.size
  clear hb e0 e1 e2 e3 e4 e5 e6 e7 lY A_14 W_14 Y_14 HB14
  have c0 := A_15.out.at 0 rfl; have c1 := A_15.out.at 1 rfl; have c2 := A_15.out.at 2 rfl; have lA := A_15.out.1
  go_wp2_with fail
  refine (toConfig_any hf qa Q qc qf sa S sc sf _ (P0.out.below HB15.out) (G0.out.below HB15.out) hQ1 hS1).mono ?_
  rintro e w16 ⟨qv, kv, sv, mv, md4, rfl, p7, g7, _, _, hb⟩
  have HB16 := Lib.hid (thru0 HB15.out hb)
  have W_16 := Lib.hid (W_15.out.below hb); have Y_16 := Lib.hid (Y_15.out.below hb); have P16 := Lib.hid p7.src; have G16 := Lib.hid g7.src
  have Rw_16 := Lib.hid (Rw_15.out.below hb); have Nw_16 := Lib.hid (Nw_15.out.below hb)
  have Rm_16 := Lib.hid (Rm_15.out.below hb); have Nm_16 := Lib.hid (Nm_15.out.below hb)
  have z16 : w15.heap.size ≤ w16.heap.size := hb.size
  clear hb c0 c1 c2 lA A_15 W_15 Y_15 HB15 p7 g7
  go_wp2_with fail
  refine (implNH_any hf qv Q kv qf sv S mv sf co mh Q2 _ P16.out G16.out hQ1 hS1 HK.out).mono ?_
  rintro e w17 ⟨ha, hc, hta, htc, hmid, hT, rfl, ho, ht, hr1, hr2, hnt, hb⟩
  have HB17 := Lib.hid (thru0 HB16.out hb)
  have W_17 := Lib.hid (W_16.out.below hb); have Y_17 := Lib.hid (Y_16.out.below hb)
  have Rw_17 := Lib.hid (Rw_16.out.below hb); have Nw_17 := Lib.hid (Nw_16.out.below hb)
  have Rm_17 := Lib.hid (Rm_16.out.below hb); have Nm_17 := Lib.hid (Nm_16.out.below hb)
  have z17 : w16.heap.size ≤ w17.heap.size := hb.size
  have Rh_17 : Hid (OwnIn w17 w16.heap.size hmid ha (2 * mh) (fun _ => 0)) := Lib.hid ho; have Nh_17 : Hid (TVO w17 hmid w17.heap.size hta Q2 hT) := Lib.hid ht; have Vh := Lib.hid hnt
  clear hb W_16 Y_16 HB16 P16 G16 ho ht hnt
  have d0 := W_17.out.at 0 rfl; have d1 := W_17.out.at 1 rfl; have d2 := W_17.out.at 2 rfl; have d3 := W_17.out.at 3 rfl; have d4 := W_17.out.at 4 rfl; have d5 := W_17.out.at 5 rfl; have d6 := W_17.out.at 6 rfl; have d7 := W_17.out.at 7 rfl; have lW := W_17.out.1
  have W_18 := Lib.hid (W_17.out.alloc (.cells #[.int .i64 co, .int .i64 (mh : Int), .slice ha (2 * mh) hc, .int .i64 0, .int .i64 0, .slice hta Q2 htc, .slice none 0 0, .slice none 0 0] 85)); have Y_18 := Lib.hid (Y_17.out.alloc (.cells #[.int .i64 co, .int .i64 (mh : Int), .slice ha (2 * mh) hc, .int .i64 0, .int .i64 0, .slice hta Q2 htc, .slice none 0 0, .slice none 0 0] 85))
  have HB18 := Lib.hid (HB17.out.alloc HB17.out.size (.cells #[.int .i64 co, .int .i64 (mh : Int), .slice ha (2 * mh) hc, .int .i64 0, .int .i64 0, .slice hta Q2 htc, .slice none 0 0, .slice none 0 0] 85))
  have Rw_18 := Lib.hid (Rw_17.out.alloc (.cells #[.int .i64 co, .int .i64 (mh : Int), .slice ha (2 * mh) hc, .int .i64 0, .int .i64 0, .slice hta Q2 htc, .slice none 0 0, .slice none 0 0] 85)); have Nw_18 := Lib.hid (Nw_17.out.alloc (.cells #[.int .i64 co, .int .i64 (mh : Int), .slice ha (2 * mh) hc, .int .i64 0, .int .i64 0, .slice hta Q2 htc, .slice none 0 0, .slice none 0 0] 85))
  have Rm_18 := Lib.hid (Rm_17.out.alloc (.cells #[.int .i64 co, .int .i64 (mh : Int), .slice ha (2 * mh) hc, .int .i64 0, .int .i64 0, .slice hta Q2 htc, .slice none 0 0, .slice none 0 0] 85)); have Nm_18 := Lib.hid (Nm_17.out.alloc (.cells #[.int .i64 co, .int .i64 (mh : Int), .slice ha (2 * mh) hc, .int .i64 0, .int .i64 0, .slice hta Q2 htc, .slice none 0 0, .slice none 0 0] 85))
  have Rh_18 := Lib.hid (Rh_17.out.alloc (.cells #[.int .i64 co, .int .i64 (mh : Int), .slice ha (2 * mh) hc, .int .i64 0, .int .i64 0, .slice hta Q2 htc, .slice none 0 0, .slice none 0 0] 85)); have Nh_18 := Lib.hid (Nh_17.out.alloc (.cells #[.int .i64 co, .int .i64 (mh : Int), .slice ha (2 * mh) hc, .int .i64 0, .int .i64 0, .slice hta Q2 htc, .slice none 0 0, .slice none 0 0] 85))
  go_wp2_with fail
  clear d0 d1 d2 d3 d4 d5 d6 d7 lW W_17 Y_17 HB17
  generalize w17.alloc (.cells #[.int .i64 co, .int .i64 (mh : Int), .slice ha (2 * mh) hc, .int .i64 0, .int .i64 0, .slice hta Q2 htc, .slice none 0 0, .slice none 0 0] 85) = w18 at *
  refine (eqHpR_same co (mh : Int) 0 0 ha wa (2 * mh) hc wc (fun _ => 0) (fun _ => 0) hta wta Q2 htc wtc hT wT _ Rh_18.out.src Rw_18.out.src Nh_18.out.src Nw_18.out.src (fun _ _ => rfl) (nt_same Vh.out Vw.out) (by omega) (by omega) (fun i hi => by have := nt_n Vh.out HV9.out i hi; omega)).mono ?_
  rintro e w19 ⟨rfl, hb⟩
  have HB19 := Lib.hid (thru0 HB18.out hb)
  have Y_19 := Lib.hid (Y_18.out.below hb)
  have Rm_19 := Lib.hid (Rm_18.out.below hb); have Nm_19 := Lib.hid (Nm_18.out.below hb)
  clear hb W_18 Y_18 HB18
  have e0 := Y_19.out.at 0 rfl; have e1 := Y_19.out.at 1 rfl; have e2 := Y_19.out.at 2 rfl; have e3 := Y_19.out.at 3 rfl; have e4 := Y_19.out.at 4 rfl; have e5 := Y_19.out.at 5 rfl; have e6 := Y_19.out.at 6 rfl; have e7 := Y_19.out.at 7 rfl; have lY := Y_19.out.1
  go_wp2_with fail
  refine (heldHR_any co (mh : Int) 0 0 ga (2 * mh) gc gta Q2 gtc gT 1 _ Rm_19.out.src Nm_19.out.src (by omega) (by omega) HK9.out).mono ?_
  rintro e w20 ⟨rfl, hb⟩
  rw [← HMM.out]
  have HB20 := Lib.hid (thru0 HB19.out hb)
  clear hb e0 e1 e2 e3 e4 e5 e6 e7 lY
  go_wp2
  go_ret
  exact ⟨rfl, HB20.out⟩
end Go.Proofs.Ytbhjmomphajnnaa

