/- Texts merged: SH9 to YO. -/
import Derived.Test.YtbhjmomphajnnaaPSH2
namespace Go.Proofs.Ytbhjmomphajnnaa
open Go.RowKit
set_option linter.unusedVariables false

theorem tnsame_sw {t t' u u' : TN} (h1 : TnSame t t') (h2 : TnSame u u') : TnSame t' u' ↔ TnSame t u :=
  ⟨fun x => tnsame_trans h1 (tnsame_trans x (tnsame_symm h2)), fun x => tnsame_trans (tnsame_symm h1) (tnsame_trans x h2)⟩

theorem hsame_sw {h : Int} {n : Nat} {f : Nat → Int} {ac bu : Int} {N : Nat} {T T' : Nat → TN} {h' : Int} {n' : Nat} {f' : Nat → Int} {ac' bu' : Int} {N' : Nat} {U U' : Nat → TN} {r : Bool} (h1 : ∀ i, i < N → TnSame (T i) (T' i)) (h2 : ∀ i, i < N' → TnSame (U i) (U' i)) (hr : r = true ↔ HSame h n f ac bu N T h' n' f' ac' bu' N' U) : r = true ↔ HSame h n f ac bu N T' h' n' f' ac' bu' N' U' :=
  hr.trans ⟨fun ⟨a, b, c⟩ => ⟨a, b, fun i hi => (tnsame_sw (h1 i hi) (h2 i (by omega))).2 (c i hi)⟩, fun ⟨a, b, c⟩ => ⟨a, b, fun i hi => (tnsame_sw (h1 i hi) (h2 i (by omega))).1 (c i hi)⟩⟩

theorem tnsame_n {N : Nat} {T T' : Nat → TN} (h : ∀ i, i < N → TnSame (T i) (T' i)) (hn : ∀ i, i < N → (T i).n ≤ 1048576) : ∀ i, i < N → (T' i).n ≤ 1048576 := fun i hi => by rw [← (h i hi).2.2.1]; exact hn i hi

theorem cap10Y {w : World} {A X : Nat} {u0 u1 u2 u3 u4 v0 v1 v2 v3 v4 : Value} (hA : Blk w A [u0, u1, u2, u3, u4]) (hX : Blk w X [v0, v1, v2, v3, v4]) : w.cell? ⟨A, 0, none⟩ = some u0 ∧ w.cell? ⟨A, 1, none⟩ = some u1 ∧ w.cell? ⟨A, 2, none⟩ = some u2 ∧ w.cell? ⟨A, 3, none⟩ = some u3 ∧ w.cell? ⟨A, 4, none⟩ = some u4 ∧ w.cell? ⟨X, 0, none⟩ = some v0 ∧ w.cell? ⟨X, 1, none⟩ = some v1 ∧ w.cell? ⟨X, 2, none⟩ = some v2 ∧ w.cell? ⟨X, 3, none⟩ = some v3 ∧ w.cell? ⟨X, 4, none⟩ = some v4 :=
  ⟨hA.at 0 rfl, hA.at 1 rfl, hA.at 2 rfl, hA.at 3 rfl, hA.at 4 rfl, hX.at 0 rfl, hX.at 1 rfl, hX.at 2 rfl, hX.at 3 rfl, hX.at 4 rfl⟩

set_option maxRecDepth 100000 in
set_option maxHeartbeats 6400000 in
theorem e9_any (h ac bu : Int) (a : Option Addr) (n c : Nat) (f : Nat → Int) (ta : Option Addr) (N tc : Nat) (T : Nat → TN) (h' ac' bu' : Int) (a' : Option Addr) (n' c' : Nat) (f' : Nat → Int) (tb : Option Addr) (N' td : Nat) (U : Nat → TN) (w : World)
    (s1 : Src w a n f) (hn : n ≤ maxLen) (t1 : TV w ta N T) (hN : N ≤ maxLen) (hm : ∀ i, i < N → (T i).n ≤ maxLen) (s2 : Src w a' n' f') (hn' : n' ≤ maxLen) (t2 : TV w tb N' U) (hN' : N' ≤ maxLen) (hm' : ∀ i, i < N' → (U i).n ≤ maxLen) :
    Calls Try.prog 9 #[.agg #[.int .i64 h, .slice a n c, .int .i64 ac, .int .i64 bu, .slice ta N tc], .agg #[.int .i64 h', .slice a' n' c', .int .i64 ac', .int .i64 bu', .slice tb N' td]] w (RetBool w true) := by
  obtain ⟨r, hr⟩ := hsame_some h n f ac bu N T h' n' f' ac' bu' N' U
  have HR := Lib.hid hr; have S1 := Lib.hid s1; have S2 := Lib.hid s2; have T1 := Lib.hid t1; have T2 := Lib.hid t2; have HM := Lib.hid hm; have HM' := Lib.hid hm'
  have HB0 := Lib.hid (((Below.refl w.heap.size w).alloc (Nat.le_refl _) (.cells #[.int .i64 h, .slice a n c, .int .i64 ac, .int .i64 bu, .slice ta N tc] 93)).alloc (by simp) (.cells #[.int .i64 h', .slice a' n' c', .int .i64 ac', .int .i64 bu', .slice tb N' td] 93))
  have A_0 := Lib.hid ((Blk.new_at (w := w) (cs := #[.int .i64 h, .slice a n c, .int .i64 ac, .int .i64 bu, .slice ta N tc]) (t := 93) w.heap.size rfl).alloc (.cells #[.int .i64 h', .slice a' n' c', .int .i64 ac', .int .i64 bu', .slice tb N' td] 93))
  have B_0 := Lib.hid (Blk.new_at (w := w.alloc (.cells #[.int .i64 h, .slice a n c, .int .i64 ac, .int .i64 bu, .slice ta N tc] 93)) (cs := #[.int .i64 h', .slice a' n' c', .int .i64 ac', .int .i64 bu', .slice tb N' td]) (t := 93) (w.heap.size + 1) (by simp))
  clear hr s1 s2 t1 t2 hm hm'
  go_enter Try.func9, Try.ntmps9
  go_wp2_with fail
  refine (szHeap_any h ac bu a n c ta N tc T 1048576 _ (T1.out.below HB0.out) hn hN HM.out (by omega) (by omega)).mono ?_
  rintro e w1 ⟨hb, l, rfl, hl1, hl2⟩
  have HB1 := Lib.hid (HB0.out.trans (hb.mono HB0.out.size)); have A_1 := Lib.hid (A_0.out.below hb); have B_1 := Lib.hid (B_0.out.below hb)
  clear hb A_0 B_0 HB0
  rcases hl2 with rfl | ⟨h0, h1, h2, h3⟩
  · go_wp2
    go_ret
    exact ⟨rfl, HB1.out⟩
  have h9 : ¬ l < 0 := by omega
  have H3 := Lib.hid h3
  have b0 := B_1.out.at 0 rfl; have b1 := B_1.out.at 1 rfl; have b2 := B_1.out.at 2 rfl; have b3 := B_1.out.at 3 rfl; have b4 := B_1.out.at 4 rfl; have lB := B_1.out.1
  clear h3
  go_wp2_with fail
  refine (szHeap_any h' ac' bu' a' n' c' tb N' td U l _ (T2.out.below HB1.out) hn' hN' HM'.out (by omega) (by omega)).mono ?_
  rintro e w2 ⟨hb, l2, rfl, hl3, hl4⟩
  have HB2 := Lib.hid (thru0 HB1.out hb); have A_2 := Lib.hid (A_1.out.below hb); have B_2 := Lib.hid (B_1.out.below hb)
  clear hb A_1 B_1 HB1 b0 b1 b2 b3 b4 lB
  rcases hl4 with rfl | ⟨h0', h1', h2', h3'⟩
  · go_wp2
    go_ret
    exact ⟨rfl, HB2.out⟩
  have h9' : ¬ l2 < 0 := by omega
  have hn1 : n ≤ 1048576 := by omega
  have hn1' : n' ≤ 1048576 := by omega
  have hN1 : N ≤ 1048576 := by omega
  have hN1' : N' ≤ 1048576 := by omega
  have HM1 : Hid (∀ i, i < N → (T i).n ≤ 1048576) := Lib.hid fun i hi => by have := H3.out i hi; omega
  have HM1' : Hid (∀ i, i < N' → (U i).n ≤ 1048576) := Lib.hid fun i hi => by have := h3' i hi; omega
  clear h3' HM HM' hn hn' hN hN' h1 h2 h1' h2' H3
  have A_d := Lib.hid A_2.out.drew; have B_d := Lib.hid B_2.out.drew; have HB_d := Lib.hid HB2.out.drew
  have lA := A_2.out.1; have lB := B_2.out.1
  go_upto_region 8 with (fail)
  go_region_held3 (fun w' => w'.cell? ⟨w.heap.size, 0, none⟩ = some (.int .i64 h) ∧ w'.cell? ⟨w.heap.size, 1, none⟩ = some (.slice a n c) ∧ w'.cell? ⟨w.heap.size, 2, none⟩ = some (.int .i64 ac) ∧ w'.cell? ⟨w.heap.size, 3, none⟩ = some (.int .i64 bu) ∧ w'.cell? ⟨w.heap.size, 4, none⟩ = some (.slice ta N tc) ∧ w'.cell? ⟨w.heap.size + 1, 0, none⟩ = some (.int .i64 h') ∧ w'.cell? ⟨w.heap.size + 1, 1, none⟩ = some (.slice a' n' c') ∧ w'.cell? ⟨w.heap.size + 1, 2, none⟩ = some (.int .i64 ac') ∧ w'.cell? ⟨w.heap.size + 1, 3, none⟩ = some (.int .i64 bu') ∧ w'.cell? ⟨w.heap.size + 1, 4, none⟩ = some (.slice tb N' td))
    (first | (with_reducible exact cap10Y A_2.out B_2.out) | (with_reducible exact cap10Y A_d.out B_d.out) | (with_reducible exact cap10Y A_3.out B_3.out) | (with_reducible exact cap10Y A_4.out B_4.out) | (with_reducible exact cap10Y A_5.out B_5.out))
    (first | (go_at_call 53; (with_reducible refine (toHeap_any h ac bu a n c f ta N tc T _ (S1.out.below HB_d.out) (T1.out.below HB_d.out) hn1 hN1 HM1.out).mono ?_); rintro e w3 ⟨xa, xc, xt, xk, xm, X, rfl, xo, xp, _, _, xs, hb, _, _⟩; have HB3 := Lib.hid (thru0 HB_d.out hb); have A_3 := Lib.hid (A_d.out.below hb); have B_3 := Lib.hid (B_d.out.below hb); have XO := Lib.hid xo.src; have XP := Lib.hid xp.src; have XS := Lib.hid xs; clear hb xo xp xs) | (go_at_call 53; (with_reducible refine (toHeap_any h' ac' bu' a' n' c' f' tb N' td U _ (S2.out.below HB3.out) (T2.out.below HB3.out) hn1' hN1' HM1'.out).mono ?_); rintro e w4 ⟨ya, yc, yt, yk, ym, Y, rfl, yo, yp, _, _, ys, hb, _, _⟩; have HB4 := Lib.hid (thru0 HB3.out hb); have A_4 := Lib.hid (A_3.out.below hb); have B_4 := Lib.hid (B_3.out.below hb); have XO4 := Lib.hid (XO.out.below hb); have XP4 := Lib.hid (XP.out.below hb); have YO := Lib.hid yo.src; have YP := Lib.hid yp.src; have YS := Lib.hid ys; clear hb yo yp ys) | (go_at_call 52; (with_reducible refine (specSH_any h ac bu xa n xc f xt N xk X h' ac' bu' ya n' yc f' yt N' yk Y r _ XO4.out YO.out XP4.out YP.out hn1 hn1' hN1 hN1' (tnsame_n XS.out HM1.out) (tnsame_n YS.out HM1'.out) (hsame_sw XS.out YS.out HR.out)).mono ?_); rintro e w5 ⟨rfl, hb⟩; have HB5 := Lib.hid (thru0 HB4.out hb); have A_5 := Lib.hid (A_4.out.below hb); have B_5 := Lib.hid (B_4.out.below hb); clear hb))
  clear A_2 B_2 A_d B_d A_3 B_3 A_4 B_4 HB2 HB_d HB3 HB4 lA lB
  have a0 := A_5.out.at 0 rfl; have a1 := A_5.out.at 1 rfl; have a2 := A_5.out.at 2 rfl; have a3 := A_5.out.at 3 rfl; have a4 := A_5.out.at 4 rfl; have lA := A_5.out.1
  go_wp2_with fail
  refine (toHeap_any h ac bu a n c f ta N tc T _ (S1.out.below HB5.out) (T1.out.below HB5.out) hn1 hN1 HM1.out).mono ?_
  rintro e w6 ⟨ga, gc, gt, gk, gm, G, rfl, go, gp, _, _, gs, hb, _, _⟩
  have HB6 := Lib.hid ((thru0 HB5.out hb).alloc (thru0 HB5.out hb).size (.cells #[.int .i64 h, .slice ga n gc, .int .i64 ac, .int .i64 bu, .slice gt N gk] 83))
  have A_6 := Lib.hid ((A_5.out.below hb).alloc (.cells #[.int .i64 h, .slice ga n gc, .int .i64 ac, .int .i64 bu, .slice gt N gk] 83)); have B_6 := Lib.hid ((B_5.out.below hb).alloc (.cells #[.int .i64 h, .slice ga n gc, .int .i64 ac, .int .i64 bu, .slice gt N gk] 83))
  have X_6 := Lib.hid (Blk.new_at (w := w6) (cs := #[.int .i64 h, .slice ga n gc, .int .i64 ac, .int .i64 bu, .slice gt N gk]) (t := 83) w6.heap.size rfl)
  have GO := Lib.hid (go.src.alloc (.cells #[.int .i64 h, .slice ga n gc, .int .i64 ac, .int .i64 bu, .slice gt N gk] 83)); have GP := Lib.hid (gp.src.alloc (.cells #[.int .i64 h, .slice ga n gc, .int .i64 ac, .int .i64 bu, .slice gt N gk] 83)); have GS := Lib.hid gs
  clear hb go gp gs A_5 B_5 HB5 a0 a1 a2 a3 a4 lA
  have b0 := B_6.out.at 0 rfl; have b1 := B_6.out.at 1 rfl; have b2 := B_6.out.at 2 rfl; have b3 := B_6.out.at 3 rfl; have b4 := B_6.out.at 4 rfl; have lB := B_6.out.1
  go_wp2_with fail
  generalize w6.alloc (.cells #[.int .i64 h, .slice ga n gc, .int .i64 ac, .int .i64 bu, .slice gt N gk] 83) = w7 at *
  generalize w6.heap.size = X0 at *
  refine (toHeap_any h' ac' bu' a' n' c' f' tb N' td U _ (S2.out.below HB6.out) (T2.out.below HB6.out) hn1' hN1' HM1'.out).mono ?_
  rintro e w8 ⟨ka, kc, kt, kk, km, K, rfl, ko, kp, _, _, ks, hb, _, _⟩
  have HB8 := Lib.hid ((thru0 HB6.out hb).alloc (thru0 HB6.out hb).size (.cells #[.int .i64 h', .slice ka n' kc, .int .i64 ac', .int .i64 bu', .slice kt N' kk] 83))
  have A_8 := Lib.hid ((A_6.out.below hb).alloc (.cells #[.int .i64 h', .slice ka n' kc, .int .i64 ac', .int .i64 bu', .slice kt N' kk] 83)); have B_8 := Lib.hid ((B_6.out.below hb).alloc (.cells #[.int .i64 h', .slice ka n' kc, .int .i64 ac', .int .i64 bu', .slice kt N' kk] 83)); have X_8 := Lib.hid ((X_6.out.below hb).alloc (.cells #[.int .i64 h', .slice ka n' kc, .int .i64 ac', .int .i64 bu', .slice kt N' kk] 83))
  have K_8 := Lib.hid (Blk.new_at (w := w8) (cs := #[.int .i64 h', .slice ka n' kc, .int .i64 ac', .int .i64 bu', .slice kt N' kk]) (t := 83) w8.heap.size rfl)
  have GO8 := Lib.hid ((GO.out.below hb).alloc (.cells #[.int .i64 h', .slice ka n' kc, .int .i64 ac', .int .i64 bu', .slice kt N' kk] 83)); have GP8 := Lib.hid ((GP.out.below hb).alloc (.cells #[.int .i64 h', .slice ka n' kc, .int .i64 ac', .int .i64 bu', .slice kt N' kk] 83))
  have KO := Lib.hid (ko.src.alloc (.cells #[.int .i64 h', .slice ka n' kc, .int .i64 ac', .int .i64 bu', .slice kt N' kk] 83)); have KP := Lib.hid (kp.src.alloc (.cells #[.int .i64 h', .slice ka n' kc, .int .i64 ac', .int .i64 bu', .slice kt N' kk] 83)); have KS := Lib.hid ks
  clear hb ko kp ks A_6 B_6 X_6 GO GP HB6 b0 b1 b2 b3 b4 lB
  have x0 := X_8.out.at 0 rfl; have x1 := X_8.out.at 1 rfl; have x2 := X_8.out.at 2 rfl; have x3 := X_8.out.at 3 rfl; have x4 := X_8.out.at 4 rfl; have lX := X_8.out.1
  go_wp2_with fail
  generalize w8.alloc (.cells #[.int .i64 h', .slice ka n' kc, .int .i64 ac', .int .i64 bu', .slice kt N' kk] 83) = w9 at *
  generalize w8.heap.size = K0 at *
  refine (implSH_any h ac bu ga n gc f gt N gk G h' ac' bu' ka n' kc f' kt N' kk K r _ GO8.out KO.out GP8.out KP.out hn1 hn1' hN1 hN1' (tnsame_n GS.out HM1.out) (tnsame_n KS.out HM1'.out) (hsame_sw GS.out KS.out HR.out)).mono ?_
  rintro e wA ⟨rfl, hb⟩
  have HBA := Lib.hid (thru0 HB8.out hb); have A_A := Lib.hid (A_8.out.below hb); have B_A := Lib.hid (B_8.out.below hb); have X_A := Lib.hid (X_8.out.below hb); have K_A := Lib.hid (K_8.out.below hb)
  have GOA := Lib.hid (GO8.out.below hb); have GPA := Lib.hid (GP8.out.below hb); have KOA := Lib.hid (KO.out.below hb); have KPA := Lib.hid (KP.out.below hb)
  clear hb A_8 B_8 X_8 K_8 GO8 GP8 KO KP HB8 x0 x1 x2 x3 x4 lX
  have lA := A_A.out.1; have lX := X_A.out.1
  go_upto_region 14 with (fail)
  have A_e := Lib.hid A_A.out.drew; have X_e := Lib.hid X_A.out.drew; have HB_e := Lib.hid HBA.out.drew
  go_region_held3 (fun w' => w'.cell? ⟨w.heap.size, 0, none⟩ = some (.int .i64 h) ∧ w'.cell? ⟨w.heap.size, 1, none⟩ = some (.slice a n c) ∧ w'.cell? ⟨w.heap.size, 2, none⟩ = some (.int .i64 ac) ∧ w'.cell? ⟨w.heap.size, 3, none⟩ = some (.int .i64 bu) ∧ w'.cell? ⟨w.heap.size, 4, none⟩ = some (.slice ta N tc) ∧ w'.cell? ⟨X0, 0, none⟩ = some (.int .i64 h) ∧ w'.cell? ⟨X0, 1, none⟩ = some (.slice ga n gc) ∧ w'.cell? ⟨X0, 2, none⟩ = some (.int .i64 ac) ∧ w'.cell? ⟨X0, 3, none⟩ = some (.int .i64 bu) ∧ w'.cell? ⟨X0, 4, none⟩ = some (.slice gt N gk))
    (first | (with_reducible exact cap10Y A_A.out X_A.out) | (with_reducible exact cap10Y A_e.out X_e.out) | (with_reducible exact cap10Y A_f.out X_f.out) | (with_reducible exact cap10Y A_g.out X_g.out))
    (first | (go_at_call 53; (with_reducible refine (toHeap_any h ac bu a n c f ta N tc T _ (S1.out.below HB_e.out) (T1.out.below HB_e.out) hn1 hN1 HM1.out).mono ?_); rintro e wf ⟨xa, xc, xt, xk, xm, X, rfl, xo, xp, _, _, xs, hb, _, _⟩; have E_f := Lib.hid (thru0 (Below.refl wA.heap.size wA).drew hb); have A_f := Lib.hid (A_e.out.below hb); have X_f := Lib.hid (X_e.out.below hb); have GOf := Lib.hid (GOA.out.below E_f.out); have GPf := Lib.hid (GPA.out.below E_f.out); have FO := Lib.hid xo.src; have FP := Lib.hid xp.src; have FS := Lib.hid (show ∀ i, i < N → TnSame (G i) (X i) from fun i hi => tnsame_trans (tnsame_symm (GS.out i hi)) (xs i hi)); clear hb xo xp xs) | (go_at_call 55; (with_reducible refine (eqHeap_same h ac bu ga xa n gc xc f f gt xt N gk xk G X _ GOf.out FO.out GPf.out FP.out (fun _ _ => rfl) FS.out hn1 hN1 (tnsame_n GS.out HM1.out)).mono ?_); rintro e wg ⟨rfl, hb⟩; have E_g := Lib.hid (thru0 E_f.out hb); have A_g := Lib.hid (A_f.out.below hb); have X_g := Lib.hid (X_f.out.below hb); clear hb))
  have HBG := Lib.hid (thru0 HBA.out E_g.out)
  have B_g := Lib.hid (B_A.out.below E_g.out); have K_g := Lib.hid (K_A.out.below E_g.out); have KOg := Lib.hid (KOA.out.below E_g.out); have KPg := Lib.hid (KPA.out.below E_g.out)
  clear A_A X_A A_e X_e A_f X_f A_g X_g HB_e HBA B_A K_A KOA KPA GOA GPA E_f E_g GOf GPf FO FP FS lA lX
  have lB := B_g.out.1; have lK := K_g.out.1
  go_upto_region 16 with (fail)
  have B_h := Lib.hid B_g.out.drew; have K_h := Lib.hid K_g.out.drew; have HB_h := Lib.hid HBG.out.drew
  go_region_held3 (fun w' => w'.cell? ⟨w.heap.size + 1, 0, none⟩ = some (.int .i64 h') ∧ w'.cell? ⟨w.heap.size + 1, 1, none⟩ = some (.slice a' n' c') ∧ w'.cell? ⟨w.heap.size + 1, 2, none⟩ = some (.int .i64 ac') ∧ w'.cell? ⟨w.heap.size + 1, 3, none⟩ = some (.int .i64 bu') ∧ w'.cell? ⟨w.heap.size + 1, 4, none⟩ = some (.slice tb N' td) ∧ w'.cell? ⟨K0, 0, none⟩ = some (.int .i64 h') ∧ w'.cell? ⟨K0, 1, none⟩ = some (.slice ka n' kc) ∧ w'.cell? ⟨K0, 2, none⟩ = some (.int .i64 ac') ∧ w'.cell? ⟨K0, 3, none⟩ = some (.int .i64 bu') ∧ w'.cell? ⟨K0, 4, none⟩ = some (.slice kt N' kk))
    (first | (with_reducible exact cap10Y B_g.out K_g.out) | (with_reducible exact cap10Y B_h.out K_h.out) | (with_reducible exact cap10Y B_i.out K_i.out) | (with_reducible exact cap10Y B_j.out K_j.out))
    (first | (go_at_call 53; (with_reducible refine (toHeap_any h' ac' bu' a' n' c' f' tb N' td U _ (S2.out.below HB_h.out) (T2.out.below HB_h.out) hn1' hN1' HM1'.out).mono ?_); rintro e wi ⟨ya, yc, yt, yk, ym, Y, rfl, yo, yp, _, _, ys, hb, _, _⟩; have HB_i := Lib.hid (thru0 HB_h.out hb); have B_i := Lib.hid (B_h.out.below hb); have K_i := Lib.hid (K_h.out.below hb); have KOi := Lib.hid (KOg.out.drew.below hb); have KPi := Lib.hid (KPg.out.drew.below hb); have JO := Lib.hid yo.src; have JP := Lib.hid yp.src; have JS := Lib.hid (show ∀ i, i < N' → TnSame (K i) (Y i) from fun i hi => tnsame_trans (tnsame_symm (KS.out i hi)) (ys i hi)); clear hb yo yp ys) | (go_at_call 55; (with_reducible refine (eqHeap_same h' ac' bu' ka ya n' kc yc f' f' kt yt N' kk yk K Y _ KOi.out JO.out KPi.out JP.out (fun _ _ => rfl) JS.out hn1' hN1' (tnsame_n KS.out HM1'.out)).mono ?_); rintro e wj ⟨rfl, hb⟩; have HB_j := Lib.hid (thru0 HB_i.out hb); have B_j := Lib.hid (B_i.out.below hb); have K_j := Lib.hid (K_i.out.below hb); clear hb))
  go_wp2
  go_ret
  exact ⟨rfl, HB_j.out⟩
end Go.Proofs.Ytbhjmomphajnnaa

namespace Go.Proofs.Ytbhjmomphajnnaa
open Go.ChangeShapes Go.WideShapes Go.ChangeAt Go.RowKit Go.Joins Go.Deep
set_option linter.unusedVariables false

theorem Try.cellsY93 : Try.prog.cellsOf 93 = 5 := by kernel_rfl

theorem Try.cellsY90 : Try.prog.cellsOf 90 = 4 := by kernel_rfl

theorem Try.cellsY258 : Try.prog.cellsOf 258 = 3 := by kernel_rfl

theorem Try.cellsY91 : Try.prog.cellsOf 91 = 1 := by kernel_rfl

theorem Try.cellsY256 : Try.prog.cellsOf 256 = 1 := by kernel_rfl

set_option maxRecDepth 100000 in
/-- One tenant, out of its cells. -/
theorem open_tn {H : Type} {enc : TypeId × Value → H} {W : World} {n : Nat} {cs : List Value} {y : DataW H × List MemPlace} (hlen : cs.length = 3) (h : DataW.trod enc Try.prog W 0 (fun _ => true) true n 258 cs = some y) :
    ∃ t : TN, cs = [.int .i64 t.q, .int .i64 t.h, .slice t.a t.n t.c] ∧ PV W t.a t.n t.S ∧ t.n ≤ maxLen := by
  match cs, hlen with
  | [v0, v1, v2], _ =>
    obtain ⟨xs, k, _, _, _, hxl, hf⟩ := DataW.trod_struct Try.underlying258 h
    have hxl : xs.length = 3 := hxl
    match xs, hxl with
    | [y0, y1, y2], _ =>
      have g0 := hf 0 _ rfl
      have g1 := hf 1 _ rfl
      have g2 := hf 2 _ rfl
      simp [Try.cellsO2] at g0 g1
      simp [Try.cellsY256] at g2
      obtain ⟨i0, e0, _, _⟩ := DataW.trod_int Try.underlying2 g0
      obtain ⟨i1, e1, _, _⟩ := DataW.trod_int Try.underlying2 g1
      simp only [List.cons.injEq, and_true] at e0 e1
      subst e0 e1
      obtain ⟨a, N, c, S, hcs, hp, hN⟩ := open_hss g2
      simp only [List.cons.injEq, and_true] at hcs
      subst hcs
      exact ⟨⟨i0, i1, a, N, c, S⟩, rfl, hp, hN⟩

set_option maxRecDepth 100000 in
/-- A row of tenants. -/
theorem open_tns {H : Type} {enc : TypeId × Value → H} {W : World} {fuel : Nat} {cs : List Value} {y : DataW H × List MemPlace} (hf : DataW.trod enc Try.prog W 0 (fun _ => true) true fuel 91 cs = some y) :
    ∃ (a : Option Addr) (N c : Nat) (T : Nat → TN), cs = [.slice a N c] ∧ TV W a N T ∧ N ≤ maxLen ∧ ∀ i, i < N → (T i).n ≤ maxLen := by
  rcases open_slice Try.underlying91 hf with ⟨hcs, _⟩ | ⟨x, l, c, m, n, D, Pl, hcs, _, hl, hm, hmm, _, hx⟩
  · exact ⟨none, 0, 0, fun _ => ⟨0, 0, none, 0, 0, fun _ => default⟩, hcs, .inl rfl, Nat.zero_le _, fun i hi => by omega⟩
  · have hlm : l ≤ m := by
      rw [hmm]; split
      · exact hl
      · exact Nat.le_refl _
    have each : ∀ i, i < l → ∃ t : TN, (∀ j u, ([.int .i64 t.q, .int .i64 t.h, .slice t.a t.n t.c] : List Value)[j]? = some u → W.cell? ((x.add (i * 3)).add j) = some u) ∧ PV W t.a t.n t.S ∧ t.n ≤ maxLen := fun i hi => by
      obtain ⟨cs', h1, h2⟩ := hx i (by omega)
      rw [Try.cellsY258] at h1
      obtain ⟨_, hlen, hat⟩ := World.cells?_some h1
      obtain ⟨t, rfl, h3, h4⟩ := open_tn hlen h2
      refine ⟨t, fun j u hu => ?_, h3, h4⟩
      rw [hat j (List.getElem?_eq_some_iff.mp hu).1, hu]
    by_cases hz : l = 0
    · exact ⟨some x, l, c, fun _ => ⟨0, 0, none, 0, 0, fun _ => default⟩, hcs, .inl hz, by omega, fun i hi => by omega⟩
    have : Inhabited TN := ⟨⟨0, 0, none, 0, 0, fun _ => default⟩⟩
    obtain ⟨T, hT⟩ := Go.Deep.choose_lt each
    refine ⟨some x, l, c, T, hcs, ?_, by omega, fun i hi => (hT i hi).2.2⟩
    obtain ⟨b, off, spot⟩ := x
    have hc := (hT 0 (by omega)).1 0 _ rfl
    have hspot : spot = none := by simpa [Addr.add] using World.cell?_spot hc
    subst hspot
    refine .inr ⟨b, off, rfl, World.block_lt_of_cell? W _ (by simpa [Addr.add] using hc), fun i hi => ?_, fun i hi => (hT i hi).2.1⟩
    have g := fun j u hu => (hT i hi).1 j u hu
    simp only [add_none] at g
    exact ⟨g 0 _ rfl, g 1 _ rfl, g 2 _ rfl⟩

set_option maxRecDepth 100000 in
/-- What came in: a heap. -/
theorem open_heap {H : Type} {enc : TypeId × Value → H} {W : World} {base : Nat} {v0 : Value} {d0 : DataW H} {p0 : List MemPlace}
    (hv : Value.okWide Try.prog W .any base 93 v0) (h0 : DataW.Trod enc Try.prog W 0 (fun _ => true) true 93 v0 d0 p0) :
    ∃ (h ac bu : Int) (a : Option Addr) (n c : Nat) (f : Nat → Int) (ta : Option Addr) (N tc : Nat) (T : Nat → TN), v0 = .agg #[.int .i64 h, .slice a n c, .int .i64 ac, .int .i64 bu, .slice ta N tc] ∧ Src W a n f ∧ n ≤ maxLen ∧ TV W ta N T ∧ N ≤ maxLen ∧ ∀ i, i < N → (T i).n ≤ maxLen := by
  obtain ⟨cs, rfl, hsz⟩ := okWide_struct Try.underlying93 hv
  have hsz : cs.size = 5 := hsz.trans Try.cellsY93
  obtain ⟨fuel, hf0⟩ := h0
  obtain ⟨ls⟩ := cs
  match ls, hsz with
  | [v0, v1, v2, v3, v4], _ =>
    obtain ⟨xs, k, _, _, _, hxl, hf⟩ := DataW.trod_struct Try.underlying93 hf0
    have hxl : xs.length = 2 := hxl
    match xs, hxl with
    | [y0, y1], _ =>
      have g0 := hf 0 _ rfl
      have g1 := hf 1 _ rfl
      simp [Value.cells, Try.cellsY90, Try.cellsY91] at g0 g1
      obtain ⟨ys, k', _, _, _, hyl, hg⟩ := DataW.trod_struct Try.underlying90 g0
      have hyl : ys.length = 4 := hyl
      match ys, hyl with
      | [z0, z1, z2, z3], _ =>
        have q0 := hg 0 _ rfl
        have q1 := hg 1 _ rfl
        have q2 := hg 2 _ rfl
        have q3 := hg 3 _ rfl
        simp [Try.cellsO2, Try.cellsO24] at q0 q1 q2 q3
        obtain ⟨h, e0, _, _⟩ := DataW.trod_int Try.underlying2 q0
        obtain ⟨a, n, c, f, e1, s1, hn⟩ := open_ints1 q1
        obtain ⟨ac, e2, _, _⟩ := DataW.trod_int Try.underlying2 q2
        obtain ⟨bu, e3, _, _⟩ := DataW.trod_int Try.underlying2 q3
        obtain ⟨ta, N, tc, T, e4, t1, hN, hM⟩ := open_tns g1
        simp only [List.cons.injEq, and_true] at e0 e1 e2 e3 e4
        subst e0 e1 e2 e3 e4
        exact ⟨h, ac, bu, a, n, c, f, ta, N, tc, T, rfl, s1, hn, t1, hN, hM⟩
end Go.Proofs.Ytbhjmomphajnnaa

