/- Texts merged: OM2 to LMG. -/
import Derived.Test.YtpmhbdiddcnhfaaPLM1
namespace Go.Proofs.Ytpmhbdiddcnhfaa
open Go.RowKit
set_option linter.unusedVariables false

set_option maxRecDepth 100000 in
set_option maxHeartbeats 6400000 in
theorem specMg_any (a : Option Addr) (NA ca : Nat) (A : Nat → OpC) (b : Option Addr) (NB cb : Nat) (B : Nat → OpC) (ta : Option Addr) (M ct : Nat) (t : Nat → Bool) (co : Int) (K : Nat) (U : Nat → OpC) (w : World) (hA : OV w a NA A) (hB : OV w b NB B) (hT : BV w ta M t) (hNA : NA ≤ 1048576) (hNB : NB ≤ 1048576) (hM : M ≤ 1048576) (cA : CapF a NA ca) (cB : CapF b NB cb) (cT : CapF ta M ct) (hk : IsMg NA A NB B M t co K U) :
    Calls Try.prog 30 #[.slice a NA ca, .slice b NB cb, .slice ta M ct] w (RetOpR w co K U) := by
  obtain ⟨j0, hif, hj0, hj1, hj2⟩ := info_parts Try.infoOPl
  obtain ⟨hca, hcam, ba, qa, rfl⟩ := cA
  obtain ⟨hcb, hcbm, bb, qb, rfl⟩ := cB
  clear cT
  have HA := Lib.hid hA; have HBB := Lib.hid hB; have HTT := Lib.hid hT; have HCA := Lib.hid hcam; have HCB := Lib.hid hcbm
  clear hA hB hT hcam hcbm
  rcases hk with ⟨h1, rfl, ks, hks, rfl, rfl⟩ | ⟨h1, rfl, rfl, rfl⟩
  · have h1' : ¬ (300 : Int) < (NA : Int) + (NB : Int) := by omega
    have HKS := Lib.hid hks
    have B_1 := Lib.hid ((Blk.new_at (w := w) (cs := #[.int .i64 0, .slice none 0 0]) (t := 26) w.heap.size rfl).alloc (.cells #[] 96))
    have HB1 : Hid (Below w.heap.size w ((w.alloc (.cells #[.int .i64 0, .slice none 0 0] 26)).alloc (.cells #[] 96))) := ((Below.refl _ _).alloc (Nat.le_refl _) _).alloc (by simp) _
    have OWa : Hid (((w.alloc (.cells #[.int .i64 0, .slice none 0 0] 26)).alloc (.cells #[] 96)).ownsRow (w.heap.size + 1) 96 7 (.slice (some ⟨w.heap.size + 1, 0, none⟩) 0 0) ([] : List OpC).length (rowO [])) := Lib.hid (by
      have := World.ownsRow_lit (w.alloc (.cells #[.int .i64 0, .slice none 0 0] 26)) (e := 96) (size := 7) #[] 0 (Nat.le_refl _) (by simp [maxLen]) rfl
      simpa [rowO] using this)
    clear hks
    go_enter Try.func30, Try.ntmps30
    go_wp2
    have zz : w.heap.size + 2 ≤ ((w.alloc (.cells #[.int .i64 0, .slice none 0 0] 26)).alloc (.cells #[] 96)).heap.size := by simp
    generalize (w.alloc (.cells #[.int .i64 0, .slice none 0 0] 26)).alloc (.cells #[] 96) = w1 at *
    go_loopw [7, 8, 9, 10] (fun u x y p wr => ∃ k : Nat, x = .int .i64 ((mgS A B (ttF M t) k).1 : Int) ∧ y = .int .i64 ((mgS A B (ttF M t) k).2.1 : Int) ∧ p = .int .i64 (k : Int) ∧ Hid (∀ j, j < k → MgB A B (ttF M t) NA NB j) ∧ Hid (Below (w.heap.size + 1) w1 wr) ∧ Hid (wr.ownsRow (w.heap.size + 1) 96 7 u (mgS A B (ttF M t) k).2.2.length (rowO (mgS A B (ttF M t) k).2.2))) (fun _ _ _ p _ => NA + NB - (intOf p).toNat)
    case atStart => exact ⟨0, rfl, rfl, rfl, Lib.hid (fun j hj => by omega), Below.refl _ _, OWa⟩
    case round =>
      clear OWa
      obtain ⟨k, rfl, rfl, rfl, HLT, HB_r, OW_r⟩ := hrel
      have hzr := HB_r.out.size
      have HBr : Hid (Below w.heap.size w wr) := Lib.hid (HB1.out.trans (HB_r.out.mono (by omega)))
      have hle := mgS_le HLT.out
      have hsm := mgS_sum A B (ttF M t) k
      obtain ⟨hx, hy⟩ := hle
      obtain ⟨hs1, hs2⟩ := hsm
      have HYES := Lib.hid (fun h => mgS_yes (A := A) (B := B) (tt := ttF M t) (k := k) h)
      have HNO := Lib.hid (fun h => mgS_no (A := A) (B := B) (tt := ttF M t) (k := k) h)
      have HSTP : Hid (¬ MgB A B (ttF M t) NA NB k → ks = k) := Lib.hid (fun h => mgK_one HKS.out ⟨HLT.out, h⟩)
      have HNXT : Hid (MgB A B (ttF M t) NA NB k → ∀ j, j < k + 1 → MgB A B (ttF M t) NA NB j) := Lib.hid (fun h j hj => by
        rcases Nat.lt_succ_iff_lt_or_eq.mp hj with h1 | rfl
        · exact HLT.out j h1
        · exact h)
      have HMB : Hid (MgB A B (ttF M t) NA NB k ↔ (mgS A B (ttF M t) k).1 < NA ∧ (mgS A B (ttF M t) k).2.1 < NB) := Lib.hid Iff.rfl
      have HMR : Hid (mgR A B (ttF M t) NA NB k = (mgS A B (ttF M t) k).2.2 ++ dropO A (mgS A B (ttF M t) k).1 NA ++ dropO B (mgS A B (ttF M t) k).2.1 NB) := Lib.hid rfl
      have HTK : Hid (ttF M t k = if k < M then t k else true) := Lib.hid rfl
      have HGE : Hid (∀ z, u7.ownBlock = some z → w.heap.size + 1 ≤ z) := Lib.hid (fun z hz => (OW_r.out.lt z hz).1)
      obtain ⟨X, hX⟩ : ∃ X, (mgS A B (ttF M t) k).1 = X := ⟨_, rfl⟩
      obtain ⟨Y, hY⟩ : ∃ Y, (mgS A B (ttF M t) k).2.1 = Y := ⟨_, rfl⟩
      obtain ⟨L, hL⟩ : ∃ L, (mgS A B (ttF M t) k).2.2 = L := ⟨_, rfl⟩
      rw [hX, hY, hL] at HYES HNO HMR
      rw [hX, hY] at HMB
      rw [hX] at hx hs1
      rw [hY] at hy hs1
      rw [hL] at hs2 OW_r
      have hkN : k ≤ NA + NB := by omega
      have hLk : L.length ≤ k := by omega
      have HS1 := Lib.hid hs1
      rw [hX, hY]
      clear hX hY hL HLT hs2 hs1
      by_cases hboth : X < NA ∧ Y < NB
      · have HN2 := Lib.hid (HNXT.out (HMB.out.2 hboth))
        obtain ⟨hxa, hyb⟩ := hboth
        have hkk : k < NA + NB := by have := HS1.out; omega
        have hxa' : (X : Int) < (NA : Int) := by omega
        have hyb' : (Y : Int) < (NB : Int) := by omega
        have hx0 : (0 : Int) ≤ (X : Int) := by omega
        have hy0 : (0 : Int) ≤ (Y : Int) := by omega
        have hk0 : (0 : Int) ≤ (k : Int) := by omega
        clear HNXT HSTP HMR HMB
        obtain ⟨rt, hrt⟩ : ∃ rt, ttF M t k = rt := ⟨_, rfl⟩
        have hturn : (k < M ∧ (∃ b q, ta = some ⟨b, q, none⟩ ∧ b < wr.heap.size ∧ wr.cell? ⟨b, q + k, none⟩ = some (.bool rt))) ∨ (¬ k < M ∧ rt = true) := by
          by_cases hkM : k < M
          · have h9 := HTK.out
            rw [hrt, if_pos hkM] at h9
            rw [h9]
            exact .inl ⟨hkM, bv_get (HTT.out.below HBr.out) hkM⟩
          · have h9 := HTK.out
            rw [hrt, if_neg hkM] at h9
            exact .inr ⟨hkM, h9⟩
        clear HTK
        cases rt with
        | true =>
          have HE := HYES.out hrt
          have HE1 : Hid ((mgS A B (ttF M t) (k + 1)).1 = X + 1) := Lib.hid (by rw [HE]); have HE2 : Hid ((mgS A B (ttF M t) (k + 1)).2.1 = Y) := Lib.hid (by rw [HE]); have HE3 : Hid ((mgS A B (ttF M t) (k + 1)).2.2 = L ++ [A X]) := Lib.hid (by rw [HE])
          clear HE
          clear HYES HNO hrt
          obtain ⟨b9, q9, e9, lb, hsev⟩ := ov_get (HA.out.below HBr.out) hxa
          simp only [Option.some.injEq, Addr.mk.injEq, and_true] at e9
          obtain ⟨rfl, rfl⟩ := e9
          obtain ⟨s0, s1, s2, s3, s4, s5, s6⟩ := hsev
          generalize A X = xx at *
          rcases hturn with ⟨hkM, tb, tq, rfl, ltb, hcell⟩ | ⟨hkM, -⟩
          · have hkM' : (k : Int) < (M : Int) := by omega
            have hkM2 : ¬ (M : Int) ≤ (k : Int) := by omega
            go_wp2_with (at_builtin; go_loud (refine wpList_append_lies _ rfl _ _ 24 rfl (w.heap.size + 1) 96 j0 _ 7 56 Try.underlyingROPl hif hj0 hj1 hj2 rfl (by decide) u7 L.length (rowO L) rfl (OW_r.out.alloc _) ⟨wr.heap.size, 0, none⟩ 1 1 (ocells xx) rfl rfl (cells_new7 wr xx (wr.heap.size) (by simp)) (op_one xx) (by omega) (by unfold maxLen; omega) (by omega) (by simp; omega) (wr.heap.size + 1) (by simp) ?_); intro g9 cap9 w9 hown9 hgrow9 hat9 hlt9)
            have HB9 : Hid (Below (w.heap.size + 1) w1 w9) := (HB_r.out.alloc (by omega) _).grown hgrow9 (by simp; omega) (fun z hz => HGE.out z hz)
            have OW9 : Hid (w9.ownsRow (w.heap.size + 1) 96 7 (.slice (some ⟨g9, 0, none⟩) (L.length + 1) cap9) (L ++ [xx]).length (rowO (L ++ [xx]))) := Lib.hid (by rw [rowO_snoc, List.length_append]; exact hown9)
            clear hown9 hgrow9 hat9 s0 s1 s2 s3 s4 s5 s6 hkM
            try clear hkM'
            try clear hkM2
            go_wp2
            go_roundw
            case rel => exact ⟨k + 1, by rw [HE1.out]; go_num, by rw [HE2.out], by go_num, HN2, HB9, by rw [HE3.out]; exact OW9⟩
            case measure => simp [intOf]; omega
          · have hkM2 : (M : Int) ≤ (k : Int) := by omega
            go_wp2_with (at_builtin; go_loud (refine wpList_append_lies _ rfl _ _ 24 rfl (w.heap.size + 1) 96 j0 _ 7 56 Try.underlyingROPl hif hj0 hj1 hj2 rfl (by decide) u7 L.length (rowO L) rfl (OW_r.out.alloc _) ⟨wr.heap.size, 0, none⟩ 1 1 (ocells xx) rfl rfl (cells_new7 wr xx (wr.heap.size) (by simp)) (op_one xx) (by omega) (by unfold maxLen; omega) (by omega) (by simp; omega) (wr.heap.size + 1) (by simp) ?_); intro g9 cap9 w9 hown9 hgrow9 hat9 hlt9)
            have HB9 : Hid (Below (w.heap.size + 1) w1 w9) := (HB_r.out.alloc (by omega) _).grown hgrow9 (by simp; omega) (fun z hz => HGE.out z hz)
            have OW9 : Hid (w9.ownsRow (w.heap.size + 1) 96 7 (.slice (some ⟨g9, 0, none⟩) (L.length + 1) cap9) (L ++ [xx]).length (rowO (L ++ [xx]))) := Lib.hid (by rw [rowO_snoc, List.length_append]; exact hown9)
            clear hown9 hgrow9 hat9 s0 s1 s2 s3 s4 s5 s6 hkM
            try clear hkM'
            try clear hkM2
            go_wp2
            go_roundw
            case rel => exact ⟨k + 1, by rw [HE1.out]; go_num, by rw [HE2.out], by go_num, HN2, HB9, by rw [HE3.out]; exact OW9⟩
            case measure => simp [intOf]; omega
        | false =>
          have HE := HNO.out hrt
          have HE1 : Hid ((mgS A B (ttF M t) (k + 1)).1 = X) := Lib.hid (by rw [HE]); have HE2 : Hid ((mgS A B (ttF M t) (k + 1)).2.1 = Y + 1) := Lib.hid (by rw [HE]); have HE3 : Hid ((mgS A B (ttF M t) (k + 1)).2.2 = L ++ [B Y]) := Lib.hid (by rw [HE])
          clear HE
          clear HYES HNO hrt
          obtain ⟨b9, q9, e9, lb, hsev⟩ := ov_get (HBB.out.below HBr.out) hyb
          simp only [Option.some.injEq, Addr.mk.injEq, and_true] at e9
          obtain ⟨rfl, rfl⟩ := e9
          obtain ⟨s0, s1, s2, s3, s4, s5, s6⟩ := hsev
          generalize B Y = xx at *
          rcases hturn with ⟨hkM, tb, tq, rfl, ltb, hcell⟩ | ⟨hkM, h9⟩
          · have hkM' : (k : Int) < (M : Int) := by omega
            have hkM2 : ¬ (M : Int) ≤ (k : Int) := by omega
            go_wp2_with (at_builtin; go_loud (refine wpList_append_lies _ rfl _ _ 24 rfl (w.heap.size + 1) 96 j0 _ 7 56 Try.underlyingROPl hif hj0 hj1 hj2 rfl (by decide) u7 L.length (rowO L) rfl (OW_r.out.alloc _) ⟨wr.heap.size, 0, none⟩ 1 1 (ocells xx) rfl rfl (cells_new7 wr xx (wr.heap.size) (by simp)) (op_one xx) (by omega) (by unfold maxLen; omega) (by omega) (by simp; omega) (wr.heap.size + 1) (by simp) ?_); intro g9 cap9 w9 hown9 hgrow9 hat9 hlt9)
            have HB9 : Hid (Below (w.heap.size + 1) w1 w9) := (HB_r.out.alloc (by omega) _).grown hgrow9 (by simp; omega) (fun z hz => HGE.out z hz)
            have OW9 : Hid (w9.ownsRow (w.heap.size + 1) 96 7 (.slice (some ⟨g9, 0, none⟩) (L.length + 1) cap9) (L ++ [xx]).length (rowO (L ++ [xx]))) := Lib.hid (by rw [rowO_snoc, List.length_append]; exact hown9)
            clear hown9 hgrow9 hat9 s0 s1 s2 s3 s4 s5 s6 hkM
            try clear hkM'
            try clear hkM2
            go_wp2
            go_roundw
            case rel => exact ⟨k + 1, by rw [HE1.out], by rw [HE2.out]; go_num, by go_num, HN2, HB9, by rw [HE3.out]; exact OW9⟩
            case measure => simp [intOf]; omega
          · cases h9
      · obtain rfl : ks = k := HSTP.out (fun h => hboth (HMB.out.1 h))
        have B_r := Lib.hid (blk_under2 B_1.out HB_r.out (by omega))
        have HRR : Hid (L ++ dropO A X NA ++ dropO B Y NB = mgR A B (ttF M t) NA NB ks) := Lib.hid HMR.out.symm
        have hxz : (X : Int) ≤ (NA : Int) := by omega
        have hyz : (Y : Int) ≤ (NB : Int) := by omega
        have hx0 : (0 : Int) ≤ (X : Int) := by omega
        have hy0 : (0 : Int) ≤ (Y : Int) := by omega
        have hcaz : (NA : Int) ≤ (ca : Int) := by omega
        have hcbz : (NB : Int) ≤ (cb : Int) := by omega
        have HAD := Lib.hid (ov_drop (HA.out.below HBr.out) X)
        have hcond : Hid (¬ (X < NA ∧ Y < NB)) := Lib.hid hboth
        clear HSTP HMB HMR HNXT HYES HNO HTK hboth
        by_cases hxa : X < NA
        · have hyb : ¬ (Y : Int) < (NB : Int) := by have := hcond.out; omega
          have hxa' : (X : Int) < (NA : Int) := by omega
          have hca9 : ¬ ca = X := by omega
          clear hcond
          by_cases hcb9 : cb = Y
          · go_wp2_with (at_builtin; first | (refine append_ops rfl _ _ rfl (w.heap.size + 1) _ L.length (rowO L) rfl OW_r.out ⟨ba, qa + X * 7, none⟩ _ _ (fun j => A (X + j)) rfl HAD.out (by omega) (by omega) ?_; intro v9 w9 hown9 hgrow9; have HB9 : Hid (Below (w.heap.size + 1) w1 w9) := HB_r.out.grown hgrow9 (by omega) (fun z hz => HGE.out z hz); have HB9w : Hid (Below w.heap.size w w9) := Lib.hid (HB1.out.trans (HB9.out.mono (by omega))); have HGE9 : Hid (∀ z, v9.ownBlock = some z → w.heap.size + 1 ≤ z) := Lib.hid (fun z hz => (hown9.lt z hz).1); have OW9 := Lib.hid hown9; have HBD := Lib.hid (ov_drop (HBB.out.below HB9w.out) Y); have z9 := HB9.out.size; clear hown9 hgrow9) | (go_loud (refine append_ops rfl _ _ rfl (w.heap.size + 1) _ (L.length + (NA - X)) (rowO L ++ rowO (allO (fun j => A (X + j)) (NA - X))) rfl OW9.out ⟨bb, qb, none⟩ _ _ (fun j => B (Y + j)) rfl (.inl (by omega)) (by omega) (by omega) ?_; intro v10 w10 hown10 hgrow10; have HB10 : Hid (Below w.heap.size w w10) := Lib.hid (HB1.out.trans ((HB9.out.grown hgrow10 (by omega) (fun z hz => HGE9.out z hz)).mono (by omega))); have hrow : w10.ownsRow (w.heap.size + 1) 96 7 v10 (mgR A B (ttF M t) NA NB ks).length (rowO (mgR A B (ttF M t) NA NB ks)) := (by rw [← HRR.out, rowO_app, rowO_app, List.length_append, List.length_append, dropO_len, dropO_len]; exact hown10); have B_10 := Lib.hid (blk_under2 B_1.out (HB9.out.grown hgrow10 (by omega) (fun z hz => HGE9.out z hz)) (by omega)); obtain ⟨a', c', e', ho, _, _⟩ := rowO_own hrow; subst e'; have HO := Lib.hid ho; have z10 := HB10.out.size; have c0 := B_10.out.at 0 rfl; have c1 := B_10.out.at 1 rfl; have f0 := B_10.out.free 0 rfl; have f1 := B_10.out.free 1 rfl; have lB := B_10.out.1; clear hown10 hgrow10 hrow ho)))
            try go_wp2
            refine bodyPost_ret (v := .agg #[.int .i64 0, .slice a' (mgR A B (ttF M t) NA NB ks).length c']) (by simp [results, Try.results30, go_sem, c0, c1, World.cell?_setCell_other, World.cell?_setCell_same']) rfl ⟨a', c', rfl, ?_, ?_⟩
            · exact (HO.out.keeps (two_keeps w10 w.heap.size _ _) (.inr (by omega))).widen (by omega) (by simp)
            · repeat (first | (with_reducible refine Below.setCell ?_ (by (try simp); (try omega)) _) | (with_reducible refine Below.alloc ?_ (by (try simp); (try omega)) _))
              exact HB10.out
          · go_wp2_with (at_builtin; first | (refine append_ops rfl _ _ rfl (w.heap.size + 1) _ L.length (rowO L) rfl OW_r.out ⟨ba, qa + X * 7, none⟩ _ _ (fun j => A (X + j)) rfl HAD.out (by omega) (by omega) ?_; intro v9 w9 hown9 hgrow9; have HB9 : Hid (Below (w.heap.size + 1) w1 w9) := HB_r.out.grown hgrow9 (by omega) (fun z hz => HGE.out z hz); have HB9w : Hid (Below w.heap.size w w9) := Lib.hid (HB1.out.trans (HB9.out.mono (by omega))); have HGE9 : Hid (∀ z, v9.ownBlock = some z → w.heap.size + 1 ≤ z) := Lib.hid (fun z hz => (hown9.lt z hz).1); have OW9 := Lib.hid hown9; have HBD := Lib.hid (ov_drop (HBB.out.below HB9w.out) Y); have z9 := HB9.out.size; clear hown9 hgrow9) | (go_loud (refine append_ops rfl _ _ rfl (w.heap.size + 1) _ (L.length + (NA - X)) (rowO L ++ rowO (allO (fun j => A (X + j)) (NA - X))) rfl OW9.out ⟨bb, qb + Y * 7, none⟩ _ _ (fun j => B (Y + j)) rfl (.inl (by omega)) (by omega) (by omega) ?_; intro v10 w10 hown10 hgrow10; have HB10 : Hid (Below w.heap.size w w10) := Lib.hid (HB1.out.trans ((HB9.out.grown hgrow10 (by omega) (fun z hz => HGE9.out z hz)).mono (by omega))); have hrow : w10.ownsRow (w.heap.size + 1) 96 7 v10 (mgR A B (ttF M t) NA NB ks).length (rowO (mgR A B (ttF M t) NA NB ks)) := (by rw [← HRR.out, rowO_app, rowO_app, List.length_append, List.length_append, dropO_len, dropO_len]; exact hown10); have B_10 := Lib.hid (blk_under2 B_1.out (HB9.out.grown hgrow10 (by omega) (fun z hz => HGE9.out z hz)) (by omega)); obtain ⟨a', c', e', ho, _, _⟩ := rowO_own hrow; subst e'; have HO := Lib.hid ho; have z10 := HB10.out.size; have c0 := B_10.out.at 0 rfl; have c1 := B_10.out.at 1 rfl; have f0 := B_10.out.free 0 rfl; have f1 := B_10.out.free 1 rfl; have lB := B_10.out.1; clear hown10 hgrow10 hrow ho)))
            try go_wp2
            refine bodyPost_ret (v := .agg #[.int .i64 0, .slice a' (mgR A B (ttF M t) NA NB ks).length c']) (by simp [results, Try.results30, go_sem, c0, c1, World.cell?_setCell_other, World.cell?_setCell_same']) rfl ⟨a', c', rfl, ?_, ?_⟩
            · exact (HO.out.keeps (two_keeps w10 w.heap.size _ _) (.inr (by omega))).widen (by omega) (by simp)
            · repeat (first | (with_reducible refine Below.setCell ?_ (by (try simp); (try omega)) _) | (with_reducible refine Below.alloc ?_ (by (try simp); (try omega)) _))
              exact HB10.out
        · have hxa' : ¬ (X : Int) < (NA : Int) := by omega
          clear hcond
          by_cases hca9 : ca = X
          · by_cases hcb9 : cb = Y
            · go_wp2_with (at_builtin; first | (refine append_ops rfl _ _ rfl (w.heap.size + 1) _ L.length (rowO L) rfl OW_r.out ⟨ba, qa, none⟩ _ _ (fun j => A (X + j)) rfl (.inl (by omega)) (by omega) (by omega) ?_; intro v9 w9 hown9 hgrow9; have HB9 : Hid (Below (w.heap.size + 1) w1 w9) := HB_r.out.grown hgrow9 (by omega) (fun z hz => HGE.out z hz); have HB9w : Hid (Below w.heap.size w w9) := Lib.hid (HB1.out.trans (HB9.out.mono (by omega))); have HGE9 : Hid (∀ z, v9.ownBlock = some z → w.heap.size + 1 ≤ z) := Lib.hid (fun z hz => (hown9.lt z hz).1); have OW9 := Lib.hid hown9; have HBD := Lib.hid (ov_drop (HBB.out.below HB9w.out) Y); have z9 := HB9.out.size; clear hown9 hgrow9) | (go_loud (refine append_ops rfl _ _ rfl (w.heap.size + 1) _ (L.length + (NA - X)) (rowO L ++ rowO (allO (fun j => A (X + j)) (NA - X))) rfl OW9.out ⟨bb, qb, none⟩ _ _ (fun j => B (Y + j)) rfl (.inl (by omega)) (by omega) (by omega) ?_; intro v10 w10 hown10 hgrow10; have HB10 : Hid (Below w.heap.size w w10) := Lib.hid (HB1.out.trans ((HB9.out.grown hgrow10 (by omega) (fun z hz => HGE9.out z hz)).mono (by omega))); have hrow : w10.ownsRow (w.heap.size + 1) 96 7 v10 (mgR A B (ttF M t) NA NB ks).length (rowO (mgR A B (ttF M t) NA NB ks)) := (by rw [← HRR.out, rowO_app, rowO_app, List.length_append, List.length_append, dropO_len, dropO_len]; exact hown10); have B_10 := Lib.hid (blk_under2 B_1.out (HB9.out.grown hgrow10 (by omega) (fun z hz => HGE9.out z hz)) (by omega)); obtain ⟨a', c', e', ho, _, _⟩ := rowO_own hrow; subst e'; have HO := Lib.hid ho; have z10 := HB10.out.size; have c0 := B_10.out.at 0 rfl; have c1 := B_10.out.at 1 rfl; have f0 := B_10.out.free 0 rfl; have f1 := B_10.out.free 1 rfl; have lB := B_10.out.1; clear hown10 hgrow10 hrow ho)))
              try go_wp2
              refine bodyPost_ret (v := .agg #[.int .i64 0, .slice a' (mgR A B (ttF M t) NA NB ks).length c']) (by simp [results, Try.results30, go_sem, c0, c1, World.cell?_setCell_other, World.cell?_setCell_same']) rfl ⟨a', c', rfl, ?_, ?_⟩
              · exact (HO.out.keeps (two_keeps w10 w.heap.size _ _) (.inr (by omega))).widen (by omega) (by simp)
              · repeat (first | (with_reducible refine Below.setCell ?_ (by (try simp); (try omega)) _) | (with_reducible refine Below.alloc ?_ (by (try simp); (try omega)) _))
                exact HB10.out
            · go_wp2_with (at_builtin; first | (refine append_ops rfl _ _ rfl (w.heap.size + 1) _ L.length (rowO L) rfl OW_r.out ⟨ba, qa, none⟩ _ _ (fun j => A (X + j)) rfl (.inl (by omega)) (by omega) (by omega) ?_; intro v9 w9 hown9 hgrow9; have HB9 : Hid (Below (w.heap.size + 1) w1 w9) := HB_r.out.grown hgrow9 (by omega) (fun z hz => HGE.out z hz); have HB9w : Hid (Below w.heap.size w w9) := Lib.hid (HB1.out.trans (HB9.out.mono (by omega))); have HGE9 : Hid (∀ z, v9.ownBlock = some z → w.heap.size + 1 ≤ z) := Lib.hid (fun z hz => (hown9.lt z hz).1); have OW9 := Lib.hid hown9; have HBD := Lib.hid (ov_drop (HBB.out.below HB9w.out) Y); have z9 := HB9.out.size; clear hown9 hgrow9) | (go_loud (refine append_ops rfl _ _ rfl (w.heap.size + 1) _ (L.length + (NA - X)) (rowO L ++ rowO (allO (fun j => A (X + j)) (NA - X))) rfl OW9.out ⟨bb, qb + Y * 7, none⟩ _ _ (fun j => B (Y + j)) rfl HBD.out (by omega) (by omega) ?_; intro v10 w10 hown10 hgrow10; have HB10 : Hid (Below w.heap.size w w10) := Lib.hid (HB1.out.trans ((HB9.out.grown hgrow10 (by omega) (fun z hz => HGE9.out z hz)).mono (by omega))); have hrow : w10.ownsRow (w.heap.size + 1) 96 7 v10 (mgR A B (ttF M t) NA NB ks).length (rowO (mgR A B (ttF M t) NA NB ks)) := (by rw [← HRR.out, rowO_app, rowO_app, List.length_append, List.length_append, dropO_len, dropO_len]; exact hown10); have B_10 := Lib.hid (blk_under2 B_1.out (HB9.out.grown hgrow10 (by omega) (fun z hz => HGE9.out z hz)) (by omega)); obtain ⟨a', c', e', ho, _, _⟩ := rowO_own hrow; subst e'; have HO := Lib.hid ho; have z10 := HB10.out.size; have c0 := B_10.out.at 0 rfl; have c1 := B_10.out.at 1 rfl; have f0 := B_10.out.free 0 rfl; have f1 := B_10.out.free 1 rfl; have lB := B_10.out.1; clear hown10 hgrow10 hrow ho)))
              try go_wp2
              refine bodyPost_ret (v := .agg #[.int .i64 0, .slice a' (mgR A B (ttF M t) NA NB ks).length c']) (by simp [results, Try.results30, go_sem, c0, c1, World.cell?_setCell_other, World.cell?_setCell_same']) rfl ⟨a', c', rfl, ?_, ?_⟩
              · exact (HO.out.keeps (two_keeps w10 w.heap.size _ _) (.inr (by omega))).widen (by omega) (by simp)
              · repeat (first | (with_reducible refine Below.setCell ?_ (by (try simp); (try omega)) _) | (with_reducible refine Below.alloc ?_ (by (try simp); (try omega)) _))
                exact HB10.out
          · by_cases hcb9 : cb = Y
            · go_wp2_with (at_builtin; first | (refine append_ops rfl _ _ rfl (w.heap.size + 1) _ L.length (rowO L) rfl OW_r.out ⟨ba, qa + X * 7, none⟩ _ _ (fun j => A (X + j)) rfl (.inl (by omega)) (by omega) (by omega) ?_; intro v9 w9 hown9 hgrow9; have HB9 : Hid (Below (w.heap.size + 1) w1 w9) := HB_r.out.grown hgrow9 (by omega) (fun z hz => HGE.out z hz); have HB9w : Hid (Below w.heap.size w w9) := Lib.hid (HB1.out.trans (HB9.out.mono (by omega))); have HGE9 : Hid (∀ z, v9.ownBlock = some z → w.heap.size + 1 ≤ z) := Lib.hid (fun z hz => (hown9.lt z hz).1); have OW9 := Lib.hid hown9; have HBD := Lib.hid (ov_drop (HBB.out.below HB9w.out) Y); have z9 := HB9.out.size; clear hown9 hgrow9) | (go_loud (refine append_ops rfl _ _ rfl (w.heap.size + 1) _ (L.length + (NA - X)) (rowO L ++ rowO (allO (fun j => A (X + j)) (NA - X))) rfl OW9.out ⟨bb, qb, none⟩ _ _ (fun j => B (Y + j)) rfl (.inl (by omega)) (by omega) (by omega) ?_; intro v10 w10 hown10 hgrow10; have HB10 : Hid (Below w.heap.size w w10) := Lib.hid (HB1.out.trans ((HB9.out.grown hgrow10 (by omega) (fun z hz => HGE9.out z hz)).mono (by omega))); have hrow : w10.ownsRow (w.heap.size + 1) 96 7 v10 (mgR A B (ttF M t) NA NB ks).length (rowO (mgR A B (ttF M t) NA NB ks)) := (by rw [← HRR.out, rowO_app, rowO_app, List.length_append, List.length_append, dropO_len, dropO_len]; exact hown10); have B_10 := Lib.hid (blk_under2 B_1.out (HB9.out.grown hgrow10 (by omega) (fun z hz => HGE9.out z hz)) (by omega)); obtain ⟨a', c', e', ho, _, _⟩ := rowO_own hrow; subst e'; have HO := Lib.hid ho; have z10 := HB10.out.size; have c0 := B_10.out.at 0 rfl; have c1 := B_10.out.at 1 rfl; have f0 := B_10.out.free 0 rfl; have f1 := B_10.out.free 1 rfl; have lB := B_10.out.1; clear hown10 hgrow10 hrow ho)))
              try go_wp2
              refine bodyPost_ret (v := .agg #[.int .i64 0, .slice a' (mgR A B (ttF M t) NA NB ks).length c']) (by simp [results, Try.results30, go_sem, c0, c1, World.cell?_setCell_other, World.cell?_setCell_same']) rfl ⟨a', c', rfl, ?_, ?_⟩
              · exact (HO.out.keeps (two_keeps w10 w.heap.size _ _) (.inr (by omega))).widen (by omega) (by simp)
              · repeat (first | (with_reducible refine Below.setCell ?_ (by (try simp); (try omega)) _) | (with_reducible refine Below.alloc ?_ (by (try simp); (try omega)) _))
                exact HB10.out
            · go_wp2_with (at_builtin; first | (refine append_ops rfl _ _ rfl (w.heap.size + 1) _ L.length (rowO L) rfl OW_r.out ⟨ba, qa + X * 7, none⟩ _ _ (fun j => A (X + j)) rfl (.inl (by omega)) (by omega) (by omega) ?_; intro v9 w9 hown9 hgrow9; have HB9 : Hid (Below (w.heap.size + 1) w1 w9) := HB_r.out.grown hgrow9 (by omega) (fun z hz => HGE.out z hz); have HB9w : Hid (Below w.heap.size w w9) := Lib.hid (HB1.out.trans (HB9.out.mono (by omega))); have HGE9 : Hid (∀ z, v9.ownBlock = some z → w.heap.size + 1 ≤ z) := Lib.hid (fun z hz => (hown9.lt z hz).1); have OW9 := Lib.hid hown9; have HBD := Lib.hid (ov_drop (HBB.out.below HB9w.out) Y); have z9 := HB9.out.size; clear hown9 hgrow9) | (go_loud (refine append_ops rfl _ _ rfl (w.heap.size + 1) _ (L.length + (NA - X)) (rowO L ++ rowO (allO (fun j => A (X + j)) (NA - X))) rfl OW9.out ⟨bb, qb + Y * 7, none⟩ _ _ (fun j => B (Y + j)) rfl HBD.out (by omega) (by omega) ?_; intro v10 w10 hown10 hgrow10; have HB10 : Hid (Below w.heap.size w w10) := Lib.hid (HB1.out.trans ((HB9.out.grown hgrow10 (by omega) (fun z hz => HGE9.out z hz)).mono (by omega))); have hrow : w10.ownsRow (w.heap.size + 1) 96 7 v10 (mgR A B (ttF M t) NA NB ks).length (rowO (mgR A B (ttF M t) NA NB ks)) := (by rw [← HRR.out, rowO_app, rowO_app, List.length_append, List.length_append, dropO_len, dropO_len]; exact hown10); have B_10 := Lib.hid (blk_under2 B_1.out (HB9.out.grown hgrow10 (by omega) (fun z hz => HGE9.out z hz)) (by omega)); obtain ⟨a', c', e', ho, _, _⟩ := rowO_own hrow; subst e'; have HO := Lib.hid ho; have z10 := HB10.out.size; have c0 := B_10.out.at 0 rfl; have c1 := B_10.out.at 1 rfl; have f0 := B_10.out.free 0 rfl; have f1 := B_10.out.free 1 rfl; have lB := B_10.out.1; clear hown10 hgrow10 hrow ho)))
              try go_wp2
              refine bodyPost_ret (v := .agg #[.int .i64 0, .slice a' (mgR A B (ttF M t) NA NB ks).length c']) (by simp [results, Try.results30, go_sem, c0, c1, World.cell?_setCell_other, World.cell?_setCell_same']) rfl ⟨a', c', rfl, ?_, ?_⟩
              · exact (HO.out.keeps (two_keeps w10 w.heap.size _ _) (.inr (by omega))).widen (by omega) (by simp)
              · repeat (first | (with_reducible refine Below.setCell ?_ (by (try simp); (try omega)) _) | (with_reducible refine Below.alloc ?_ (by (try simp); (try omega)) _))
                exact HB10.out
  · have h1' : (300 : Int) < (NA : Int) + (NB : Int) := by omega
    go_enter Try.func30, Try.ntmps30
    go_wp2
    refine bodyPost_ret (v := .agg #[.int .i64 2, .slice none 0 0]) (by simp [results, Try.results30, go_sem]) rfl ⟨none, 0, rfl, .inl rfl, ?_⟩
    repeat (first | (with_reducible refine Below.setCell ?_ (by (try simp); (try omega)) _) | (with_reducible refine Below.alloc ?_ (by (try simp); (try omega)) _))
    exact Below.refl _ _
end Go.Proofs.Ytpmhbdiddcnhfaa

namespace Go.Proofs.Ytpmhbdiddcnhfaa
open Go.RowKit
set_option linter.unusedVariables false

/-- The load of what is merged (a name of its own: the walk looks at it when its turn comes). -/
def opT : Oper := { dst := some 3, op := .load 24 (.tmp 1), type := 24, pos := "l08_view.go:100", after := #[], guard := none }
end Go.Proofs.Ytpmhbdiddcnhfaa

namespace Go.Proofs.Ytpmhbdiddcnhfaa
open Go.RowKit
set_option linter.unusedVariables false
attribute [local go_sem] opT

/-- A row of ops that may be nothing is appended to a row of the call's own. -/
theorem append_opsO {w : World} {ops : Array Oper} {rest : List Oper} {o : Oper} {a : Act} {Q : Exit → Act → World → Prop} (hgd : o.guard = none) (s x : Operand)
    (ho : o.op = .call { callee := .builtin .append, args := #[s, x], argTypes := #[24, 24] })
    (base : Nat) (v : Value) (n : Nat) (xs : List Value) (hs : a.eval s = v) (hown : w.ownsRow base 96 7 v n xs) (b : Option Addr) (m c : Nat) (T : Nat → OpC) (hx : a.eval x = .slice b m c) (hsrc : OV w b m T) (hna : b = none → m = 0 ∧ c = 0)
    (h63 : n + m ≤ 1000000) (hbase : base ≤ w.heap.size)
    (h : ∀ v' w', w'.ownsRow base 96 7 v' (n + m) (xs ++ rowO (allO T m)) → w.grownBy w' v.ownBlock → wpList Try.prog ops Q rest (a.put o.dst v') w') : wpList Try.prog ops Q (o :: rest) a w := by
  obtain ⟨j0, hif, hj0, hj1, hj2⟩ := info_parts Try.infoOPl
  cases b with
  | none =>
    obtain ⟨rfl, rfl⟩ := hna rfl
    exact wpList_append_own_none hgd s x 24 ho base 96 j0 7 Try.underlyingROPl hif v n xs hs hown hx (h v w (by simpa [allO, selL, rowO] using hown) (World.grownBy.refl _ _))
  | some ad => exact append_ops hgd s x ho base v n xs hs hown ad m c T hx hsrc h63 hbase h

/-- Where the turns stand. -/
def TurnAt (w : World) (tb bt qt M ct k : Nat) : Prop := ∃ ad, Blk w tb [.slice ad (M - k) (ct - k)] ∧ (k < M → ad = some ⟨bt, qt + k, none⟩)

theorem blk_same {w w' : World} {b : Nat} {cs : List Value} (h : Blk w b cs) (e : w'.heap[b]? = w.heap[b]?) (hs : w.heap.size ≤ w'.heap.size) : Blk w' b cs := by
  refine ⟨Nat.lt_of_lt_of_le h.1 hs, fun j u hu => ?_⟩
  obtain ⟨x1, x2⟩ := h.2 j u hu
  exact ⟨(World.cell?_of_block (w := w) e).trans x1, (World.frozen?_of_block (w := w) e).trans x2⟩

set_option maxRecDepth 100000 in
set_option maxHeartbeats 1600000 in
theorem turns1_any (tb bt qt M ct k : Nat) (t : Nat → Bool) (w : World) (h : TurnAt w tb bt qt M ct (min k M)) (hT : BV w (some ⟨bt, qt, none⟩) M t) (hM : M ≤ 1048576) (hc : M ≤ ct) (hcm : ct ≤ maxLen) :
    Calls Try.prog 120 #[.pointer (some ⟨tb, 0, none⟩)] w fun e w' => e = .returned (.bool (ttF M t k)) ∧ TurnAt w' tb bt qt M ct (min (k + 1) M) ∧ Keeps w w' tb (tb + 1) := by
  obtain ⟨ad, hB, had⟩ := h
  have B_0 := Lib.hid hB
  have c0 := hB.at 0 rfl; have f0 := hB.free 0 rfl; have lB := hB.1
  have HCM := Lib.hid hcm
  clear hB hcm
  by_cases hk : k < M
  · have e1 : min k M = k := by omega
    have e2 : min (k + 1) M = k + 1 := by omega
    rw [e1] at c0 B_0 had
    rw [e2]
    have had' := had hk
    subst had'
    rcases hT with h0 | ⟨b', q', e, hg⟩
    · omega
    simp only [Option.some.injEq, Addr.mk.injEq, and_true] at e
    obtain ⟨rfl, rfl⟩ := e
    have x0 : w.cell? ⟨bt, qt + k, none⟩ = some (.bool (t k)) := hg.one k hk
    have lb := hg.lt
    have hr : ttF M t k = t k := by unfold ttF; rw [if_pos hk]
    rw [hr]
    generalize t k = tk at *
    have h0 : (0 : Int) < ((M - k : Nat) : Int) := by omega
    have h0' : (((M - k : Nat) : Int) == 0) = false := by simp; omega
    have h1 : (1 : Int) ≤ ((M - k : Nat) : Int) := by omega
    have h2 : ((M - k : Nat) : Int) ≤ ((ct - k : Nat) : Int) := by omega
    have hMk : 1 ≤ M - k := by omega
    have hck : M - k ≤ ct - k := by omega
    clear had hr e1 e2 hg
    have HS := fun v => Lib.hid (B_0.out.set 0 (by simp) v)
    by_cases hz : ct - k = 1
    · have hfin : Hid (∀ v, v = Value.slice (some ⟨bt, qt + k, none⟩) (M - k - 1) 0 → TurnAt (w.setCell ⟨tb, 0, none⟩ v) tb bt qt M ct (k + 1)) := Lib.hid (fun v hv => by
        subst hv
        refine ⟨some ⟨bt, qt + k, none⟩, ?_, fun h => by omega⟩
        rw [show M - (k + 1) = M - k - 1 by omega, show ct - (k + 1) = 0 by omega]
        exact (HS _).out)
      go_enter Try.func120, Try.ntmps120
      go_wp2
      go_ret
      exact ⟨rfl, hfin.out _ rfl, keeps_setCell (p := ⟨tb, 0, none⟩) (Nat.le_refl _) (Nat.lt_succ_self _) _⟩
    · have hfin : Hid (∀ v, v = Value.slice (some ⟨bt, qt + k + 1, none⟩) (M - k - 1) (ct - k - 1) → TurnAt (w.setCell ⟨tb, 0, none⟩ v) tb bt qt M ct (k + 1)) := Lib.hid (fun v hv => by
        subst hv
        refine ⟨some ⟨bt, qt + k + 1, none⟩, ?_, fun h => by rw [show qt + (k + 1) = qt + k + 1 by omega]⟩
        rw [show M - (k + 1) = M - k - 1 by omega, show ct - (k + 1) = ct - k - 1 by omega]
        exact (HS _).out)
      go_enter Try.func120, Try.ntmps120
      go_wp2
      go_ret
      exact ⟨rfl, hfin.out _ rfl, keeps_setCell (p := ⟨tb, 0, none⟩) (Nat.le_refl _) (Nat.lt_succ_self _) _⟩
  · have e1 : min k M = M := by omega
    have e2 : min (k + 1) M = M := by omega
    rw [e1] at c0 B_0 had
    rw [e2]
    have hr : ttF M t k = true := by unfold ttF; rw [if_neg hk]
    rw [hr]
    rw [Nat.sub_self] at c0
    have hfin : Hid (TurnAt w tb bt qt M ct M) := Lib.hid ⟨ad, B_0.out, fun h => by omega⟩
    clear had hr e1 e2 hT
    go_enter Try.func120, Try.ntmps120
    go_wp2
    go_ret
    exact ⟨rfl, hfin.out, Keeps.refl _ _ _⟩

/-- All blocks below a bound, but one, are as they were. -/
def Oth (lo mb : Nat) (w w' : World) : Prop := w.heap.size ≤ w'.heap.size ∧ ∀ b, b < lo → b ≠ mb → w'.heap[b]? = w.heap[b]?

theorem Oth.refl (lo mb : Nat) (w : World) : Oth lo mb w w := ⟨Nat.le_refl _, fun _ _ _ => rfl⟩

theorem Oth.drew {lo mb : Nat} {w w' : World} (h : Oth lo mb w w') : Oth lo mb w w'.drew := ⟨by simpa using h.1, fun b h1 h2 => h.2 b h1 h2⟩

theorem Oth.alloc {lo mb : Nat} {w w' : World} (h : Oth lo mb w w') (hl : lo ≤ w.heap.size) (o : Obj) : Oth lo mb w (w'.alloc o) := ⟨by have := h.1; simp; omega, fun b h1 h2 => (Below.heap_alloc _ _ _ (by have := h.1; omega)).trans (h.2 b h1 h2)⟩

theorem Oth.grown {lo mb : Nat} {w w' w2 : World} {r : Option Nat} (h : Oth lo mb w w') (hl : lo ≤ w.heap.size) (hg : w'.grownBy w2 r) (hr : ∀ k, r = some k → lo ≤ k) : Oth lo mb w w2 := ⟨Nat.le_trans h.1 hg.size, fun b h1 h2 => (hg.block b (by have := h.1; omega) (fun e => by have := hr b e.symm; omega)).trans (h.2 b h1 h2)⟩

theorem Oth.set {lo mb : Nat} {w w' : World} (h : Oth lo mb w w') (o : Nat) (v : Value) : Oth lo mb w (w'.setCell ⟨mb, o, none⟩ v) := ⟨by have := h.1; simpa using this, fun b h1 h2 => (Below.heap_setCell _ _ _ b h2).trans (h.2 b h1 h2)⟩

/-- What is left of a list that is merged. -/
def Left (w : World) (fb ba qa N c x : Nat) : Prop := ∃ ad, Blk w fb [.slice (some ad) (N - x) (c - x)] ∧ (x < N → ad = ⟨ba, qa + x * 7, none⟩)

set_option maxRecDepth 100000 in
set_option maxHeartbeats 3200000 in
theorem take1_any (fb mb lo ba qa N c x : Nat) (A : Nat → OpC) (v : Value) (L : List OpC) (w : World) (hF : Left w fb ba qa N c x) (hA : OV w (some ⟨ba, qa, none⟩) N A) (hx : x < N) (hN : N ≤ 1048576) (hc : N ≤ c) (hcm : c ≤ maxLen)
    (hM : Blk w mb [v]) (hown : w.ownsRow lo 96 7 v L.length (rowO L)) (hL : L.length ≤ 1000) (h1 : fb < lo) (h2 : mb < lo) (h3 : fb ≠ mb) (h4 : lo ≤ w.heap.size) (h5 : ba < w.heap.size) (h6 : ba ≠ fb) (h7 : ba ≠ mb) (h8 : ba < lo) :
    Calls Try.prog 69 #[.pointer (some ⟨fb, 0, none⟩), .pointer (some ⟨mb, 0, none⟩)] w fun e w' => (∃ u, e = .returned u) ∧ Left w' fb ba qa N c (x + 1) ∧ (∃ v', Blk w' mb [v'] ∧ w'.ownsRow lo 96 7 v' (L ++ [A x]).length (rowO (L ++ [A x]))) ∧ (∀ k, k ≤ fb → k ≤ mb → Below k w w') ∧ (∀ b, b < lo → b ≠ fb → b ≠ mb → w'.heap[b]? = w.heap[b]?) := by
  obtain ⟨j0, hif, hj0, hj1, hj2⟩ := info_parts Try.infoOPl
  obtain ⟨ad, hB, had⟩ := hF
  obtain rfl := had hx
  have F_0 := Lib.hid hB; have M_0 := Lib.hid hM; have OW := Lib.hid hown
  obtain ⟨b9, q9, e9, lb, hsev⟩ := ov_get hA hx
  simp only [Option.some.injEq, Addr.mk.injEq, and_true] at e9
  obtain ⟨rfl, rfl⟩ := e9
  have SV := Lib.hid hsev
  have c0 := hB.at 0 rfl; have f0 := hB.free 0 rfl; have lF := hB.1
  have lM := hM.1
  have HCM := Lib.hid hcm
  obtain ⟨n1, hn1⟩ : ∃ n1, N - x = n1 := ⟨_, rfl⟩
  obtain ⟨c1, hc1⟩ : ∃ c1, c - x = c1 := ⟨_, rfl⟩
  rw [hn1, hc1] at c0 F_0
  have h0 : (0 : Int) < (n1 : Int) := by omega
  have h1' : (1 : Int) ≤ (n1 : Int) := by omega
  have h2' : (n1 : Int) ≤ (c1 : Int) := by omega
  have hMk : 1 ≤ n1 := by omega
  have hn0 : 0 < n1 := by omega
  have hck : n1 ≤ c1 := by omega
  have HN1 := Lib.hid hn1; have HC1 := Lib.hid hc1
  clear hn1 hc1
  generalize A x = xx at *
  have HVO : Hid (∀ k, v.ownBlock = some k → lo ≤ k) := Lib.hid (fun k hk => ownBlock_ge OW.out hk)
  have HVL : Hid (∀ k, v.ownBlock = some k → k < w.heap.size) := Lib.hid (fun k hk => (OW.out.lt k hk).2)
  have OWd := Lib.hid (ownsRow_below OW.out (Below.refl _ _).drew)
  have HSK : Hid (∀ w', Oth lo mb w w' → w'.cell? ⟨fb, 0, none⟩ = some (.slice (some ⟨ba, qa + x * 7, none⟩) n1 c1) ∧ SevG w' ba (qa + x * 7) xx) := Lib.hid (fun w' hb => ⟨(World.cell?_of_block (w := w) (a := ⟨fb, 0, none⟩) (hb.2 fb h1 h3)).trans (F_0.out.at 0 rfl), SV.out.block (hb.2 ba h8 h7)⟩)
  clear hB hM hown had hsev hcm
  have m0 := M_0.out.at 0 rfl; have mf := M_0.out.free 0 rfl
  go_enter Try.func69, Try.ntmps69
  go_wp2_with fail
  change Code.wp Try.prog (Code.region 0 #[opT, _, _, _, _, _, _, _, _] true) _ _ _
  go_region_held3 (fun w' => w'.cell? ⟨fb, 0, none⟩ = some (.slice (some ⟨ba, qa + x * 7, none⟩) n1 c1) ∧ w'.cell? ⟨ba, qa + x * 7, none⟩ = some (.int .i64 xx.te) ∧ w'.cell? ⟨ba, qa + x * 7 + 1, none⟩ = some (.int .i64 xx.k) ∧ w'.cell? ⟨ba, qa + x * 7 + 2, none⟩ = some (.int .i64 xx.h) ∧ w'.cell? ⟨ba, qa + x * 7 + 3, none⟩ = some (.int .i64 xx.t) ∧ w'.cell? ⟨ba, qa + x * 7 + 4, none⟩ = some (.int .i64 xx.i) ∧ w'.cell? ⟨ba, qa + x * 7 + 5, none⟩ = some (.int .i64 xx.v) ∧ w'.cell? ⟨ba, qa + x * 7 + 6, none⟩ = some (.bool xx.fo))
    (first | (refine HSK.out _ ?_; (repeat (first | (with_reducible refine Oth.set ?_ _ _) | (with_reducible refine Oth.alloc ?_ h4 _) | (with_reducible refine Oth.drew ?_))); (first | exact Oth.refl _ _ _ | exact HOZ.out)))
    (first | (refine step_append_lies _ rfl (.tmp 3) (.tmp 9) 24 rfl lo 96 j0 _ 7 56 Try.underlyingROPl hif hj0 hj1 hj2 rfl (by decide) v L.length (rowO L) rfl (OWd.out.alloc _) ⟨w.drew.heap.size, 0, none⟩ 1 1 (ocells xx) rfl rfl (cells_new7 w.drew xx (w.drew.heap.size) rfl) (op_one xx) (by omega) (by unfold maxLen; omega) (by omega) (by simp; omega) (w.heap.size + 1) (by simp) ?_; intro g9 cap9 w9 hown9 hgrow9 hat9 hlt9; have HOZ : Hid (Oth lo mb w w9) := Lib.hid (((Oth.refl lo mb w).drew.alloc h4 _).grown h4 hgrow9 (fun k hk => HVO.out k hk)); have T9 := Lib.hid (blk_grown (M_0.out.drew.alloc _) hgrow9 (fun e => by have := HVO.out _ e; omega)); have l9 := T9.out.1; have d90 := T9.out.at 0 rfl; have e90 := T9.out.free 0 rfl))
  all_goals (
    have hg9 : lo ≤ g9 := (by rcases hat9 with he | he; exact HVO.out _ he; omega)
    have BZ : Hid (∀ k, k ≤ fb → k ≤ mb → Below k w (w9.setCell ⟨mb, 0, none⟩ (.slice (some ⟨g9, 0, none⟩) (L.length + 1) cap9))) := Lib.hid (fun k _ hk => (((Below.refl k w).drew.alloc (by simp; omega) _).grown hgrow9 (by simp; omega) (fun z hz => by have := HVO.out z hz; omega)).setCell hk _)
    have OWW : Hid ((w9.setCell ⟨mb, 0, none⟩ (.slice (some ⟨g9, 0, none⟩) (L.length + 1) cap9)).ownsRow lo 96 7 (.slice (some ⟨g9, 0, none⟩) (L.length + 1) cap9) (L ++ [xx]).length (rowO (L ++ [xx]))) := Lib.hid (by
      have := ownsRow_setCell_other hown9 (a := ⟨mb, 0, none⟩) (fun e => by have e' : g9 = mb := (by simpa [Value.ownBlock] using e); omega) (.slice (some ⟨g9, 0, none⟩) (L.length + 1) cap9)
      rw [rowO_snoc, List.length_append]; exact this)
    have MW := Lib.hid (T9.out.set 0 (by simp) (.slice (some ⟨g9, 0, none⟩) (L.length + 1) cap9))
    have HOW := Lib.hid (HOZ.out.set 0 (.slice (some ⟨g9, 0, none⟩) (L.length + 1) cap9))
    have FW : Hid (Blk (w9.setCell ⟨mb, 0, none⟩ (.slice (some ⟨g9, 0, none⟩) (L.length + 1) cap9)) fb [.slice (some ⟨ba, qa + x * 7, none⟩) n1 c1]) := Lib.hid (blk_same F_0.out (HOW.out.2 fb h1 h3) HOW.out.1)
    clear hown9 hgrow9 hat9 T9 l9 d90 e90 HOZ HSK SV OWd m0 mf c0 f0 lM lF
    generalize w9.setCell ⟨mb, 0, none⟩ (.slice (some ⟨g9, 0, none⟩) (L.length + 1) cap9) = w5 at *
    have c0 := FW.out.at 0 rfl; have f0 := FW.out.free 0 rfl; have lF := FW.out.1
    have hne : g9 ≠ fb := (by omega)
    by_cases hz : c1 = 1
    · have hfin : Hid (∀ v', v' = Value.slice (some ⟨ba, qa + x * 7, none⟩) (n1 - 1) 0 → Left (w5.setCell ⟨fb, 0, none⟩ v') fb ba qa N c (x + 1) ∧ (∃ v2, Blk (w5.setCell ⟨fb, 0, none⟩ v') mb [v2] ∧ (w5.setCell ⟨fb, 0, none⟩ v').ownsRow lo 96 7 v2 (L ++ [xx]).length (rowO (L ++ [xx]))) ∧ (∀ k, k ≤ fb → k ≤ mb → Below k w (w5.setCell ⟨fb, 0, none⟩ v')) ∧ (∀ b, b < lo → b ≠ fb → b ≠ mb → (w5.setCell ⟨fb, 0, none⟩ v').heap[b]? = w.heap[b]?)) := Lib.hid (fun v' hv => by
        refine ⟨⟨⟨ba, qa + x * 7, none⟩, ?_, fun h => by have := HN1.out; have := HC1.out; omega⟩, ⟨_, blk_same MW.out (Below.heap_setCell _ _ _ mb (Ne.symm h3)) (by simp), ownsRow_setCell_other OWW.out (a := ⟨fb, 0, none⟩) (fun e => by have e' : g9 = fb := (by simpa [Value.ownBlock] using e); omega) _⟩, fun k h1 h2 => (BZ.out k h1 h2).setCell h1 _, fun b h1 h2 h3 => (Below.heap_setCell _ _ _ b h2).trans (HOW.out.2 b h1 h3)⟩
        subst hv
        rw [show N - (x + 1) = n1 - 1 by have := HN1.out; omega, show c - (x + 1) = 0 by have := HC1.out; omega]
        exact FW.out.set 0 (by simp) _)
      go_wp2
      refine bodyPost_end (v := .tuple #[]) (by simp [results, Try.results69, go_sem]) rfl ⟨⟨_, rfl⟩, hfin.out _ rfl⟩
    · have hfin : Hid (∀ v', v' = Value.slice (some ⟨ba, qa + x * 7 + 7, none⟩) (n1 - 1) (c1 - 1) → Left (w5.setCell ⟨fb, 0, none⟩ v') fb ba qa N c (x + 1) ∧ (∃ v2, Blk (w5.setCell ⟨fb, 0, none⟩ v') mb [v2] ∧ (w5.setCell ⟨fb, 0, none⟩ v').ownsRow lo 96 7 v2 (L ++ [xx]).length (rowO (L ++ [xx]))) ∧ (∀ k, k ≤ fb → k ≤ mb → Below k w (w5.setCell ⟨fb, 0, none⟩ v')) ∧ (∀ b, b < lo → b ≠ fb → b ≠ mb → (w5.setCell ⟨fb, 0, none⟩ v').heap[b]? = w.heap[b]?)) := Lib.hid (fun v' hv => by
        refine ⟨⟨⟨ba, qa + x * 7 + 7, none⟩, ?_, fun h => by rw [show qa + (x + 1) * 7 = qa + x * 7 + 7 by omega]⟩, ⟨_, blk_same MW.out (Below.heap_setCell _ _ _ mb (Ne.symm h3)) (by simp), ownsRow_setCell_other OWW.out (a := ⟨fb, 0, none⟩) (fun e => by have e' : g9 = fb := (by simpa [Value.ownBlock] using e); omega) _⟩, fun k h1 h2 => (BZ.out k h1 h2).setCell h1 _, fun b h1 h2 h3 => (Below.heap_setCell _ _ _ b h2).trans (HOW.out.2 b h1 h3)⟩
        subst hv
        rw [show N - (x + 1) = n1 - 1 by have := HN1.out; omega, show c - (x + 1) = c1 - 1 by have := HC1.out; omega]
        exact FW.out.set 0 (by simp) _)
      go_wp2
      refine bodyPost_end (v := .tuple #[]) (by simp [results, Try.results69, go_sem]) rfl ⟨⟨_, rfl⟩, hfin.out _ rfl⟩)
end Go.Proofs.Ytpmhbdiddcnhfaa

namespace Go.Proofs.Ytpmhbdiddcnhfaa
open Go.RowKit Go.Maps
set_option linter.unusedVariables false

/-- A row with room, of which nothing is used. -/
def RetGr (W : World) (n : Nat) (e : Ending) (w' : World) : Prop :=
  ∃ v, e = .returned v ∧ w'.ownsRow W.heap.size 96 7 v 0 [] ∧ Below W.heap.size W w'

set_option maxRecDepth 100000 in
set_option maxHeartbeats 800000 in
theorem growO_any (n : Nat) (w : World) (hn : n ≤ 1000) : Calls Try.prog 121 #[.slice none 0 0, .int .i64 n] w (RetGr w n) := by
  rcases Nat.eq_zero_or_pos n with rfl | hp
  · go_enter Try.func121, Try.ntmps121
    go_wp2
    go_ret
    exact ⟨_, rfl, World.ownsRow_nil _ _ _ _, Below.refl _ _⟩
  · obtain ⟨i0, hi, hz0, hz1, hz2⟩ := info_parts Try.infoOPl
    have hr := fun ty => Lib.run_append_nil_zeros (P := Try.prog) w 24 3 ty 96 i0 (.agg #[.int .i64 0, .int .i64 0, .int .i64 0, .int .i64 0, .int .i64 0, .int .i64 0, .bool false]) .i64 .i64 Try.underlyingROPl Try.underlying3 hi hz0 n hp (by omega) (by omega) (by rw [hz2]; omega)
    have hg := grownCap_ge w n 0 96
    have hm := grownCap_le_maxLen w n 0 96 (by unfold maxLen; omega)
    obtain ⟨G, hG⟩ : ∃ G, G = grownCap w n 0 96 := ⟨_, rfl⟩
    rw [← hG] at hr hg hm
    unfold maxLen at hm
    clear hG
    have hg0 : 0 < G := by omega
    go_enter Try.func121, Try.ntmps121
    go_wp2_with (at_builtin; refine Lib.wpList_append_run _ rfl _ _ _ _ rfl _ _ rfl rfl _ _ (hr _) ?_)
    go_ret
    refine ⟨_, rfl, ?_, (Below.refl _ _).drew.alloc (Nat.le_refl _) _⟩
    exact World.ownsRow_made w.drew _ G (Nat.le_refl _) (by unfold maxLen; omega) (by simp [size_zeroCells]; omega)

set_option maxRecDepth 100000 in
set_option maxHeartbeats 3200000 in
theorem concatO_any (b : Nat) (a0 a1 a2 : Option Addr) (n0 n1 n2 c0 c1 c2 : Nat) (T0 T1 T2 : Nat → OpC) (w : World) (hB : Blk w b [.slice a0 n0 c0, .slice a1 n1 c1, .slice a2 n2 c2]) (h0 : OV w a0 n0 T0) (h1 : OV w a1 n1 T1) (h2 : OV w a2 n2 T2)
    (k0 : a0 = none → n0 = 0 ∧ c0 = 0) (k1 : a1 = none → n1 = 0 ∧ c1 = 0) (k2 : a2 = none → n2 = 0 ∧ c2 = 0) (hn : n0 + n1 + n2 ≤ 900) :
    Calls Try.prog 71 #[.slice (some ⟨b, 0, none⟩) 3 3] w (RetOps w (allO T0 n0 ++ allO T1 n1 ++ allO T2 n2).length (oT (allO T0 n0 ++ allO T1 n1 ++ allO T2 n2))) := by
  have B_0 := Lib.hid hB; have H0 := Lib.hid h0; have H1 := Lib.hid h1; have H2 := Lib.hid h2; have K0 := Lib.hid k0; have K1 := Lib.hid k1; have K2 := Lib.hid k2
  have b0 := hB.at 0 rfl; have b1 := hB.at 1 rfl; have b2 := hB.at 2 rfl; have lB := hB.1
  have hs0 : ¬ (n0 : Int) < 0 := by omega
  have hs1 : ¬ (n0 : Int) + (n1 : Int) < 0 := by omega
  have hs2 : ¬ (n0 : Int) + (n1 : Int) + (n2 : Int) < 0 := by omega
  clear hB h0 h1 h2 k0 k1 k2
  go_enter Try.func71, Try.ntmps71
  go_wp2
  refine wp_loop_rounds 4 ?_
  rw [rounds_succ]
  go_wp2
  rw [rounds_succ]
  go_wp2
  rw [rounds_succ]
  go_wp2
  rw [rounds_succ]
  go_wp2_with (go_at_call 121; rw [show (n0 : Int) + (n1 : Int) + (n2 : Int) = ((n0 + n1 + n2 : Nat) : Int) by omega]; refine (growO_any (n0 + n1 + n2) _ (by omega)).mono ?_; rintro e w1 ⟨v, rfl, ho, hb⟩; have HO := Lib.hid ho; have HB := Lib.hid hb; have B_1 := Lib.hid (B_0.out.below hb); have hvb : Hid (∀ k, v.ownBlock = some k → w.heap.size ≤ k) := Lib.hid (fun k hk => (ho.lt k hk).1); have z1 := hb.size; clear ho hb b0 b1 b2 lB; have b0 := B_1.out.at 0 rfl; have b1 := B_1.out.at 1 rfl; have b2 := B_1.out.at 2 rfl; have lB := B_1.out.1)
  refine wp_loop_rounds 4 ?_
  rw [rounds_succ]
  go_wp2_with (at_builtin; go_loud (refine append_opsO rfl _ _ rfl w.heap.size v 0 [] rfl HO.out a0 n0 c0 T0 rfl (H0.out.below HB.out) K0.out (by omega) z1 ?_); intro v2 w2 hown2 hgrow2; have HB2 := Lib.hid (HB.out.grown hgrow2 z1 (fun k hk => hvb.out k hk)); have HO2 := Lib.hid hown2; have hvb2 : Hid (∀ k, v2.ownBlock = some k → w.heap.size ≤ k) := Lib.hid (fun k hk => (hown2.lt k hk).1); have z2 := HB2.out.size; have B_2 := Lib.hid (B_0.out.below HB2.out); clear hown2 hgrow2 b0 b1 b2 lB; have b0 := B_2.out.at 0 rfl; have b1 := B_2.out.at 1 rfl; have b2 := B_2.out.at 2 rfl; have lB := B_2.out.1)
  rw [rounds_succ]
  go_wp2_with (at_builtin; go_loud (refine append_opsO rfl _ _ rfl w.heap.size v2 (0 + n0) _ rfl HO2.out a1 n1 c1 T1 rfl (H1.out.below HB2.out) K1.out (by omega) z2 ?_); intro v3 w3 hown3 hgrow3; have HB3 := Lib.hid (HB2.out.grown hgrow3 z2 (fun k hk => hvb2.out k hk)); have HO3 := Lib.hid hown3; have hvb3 : Hid (∀ k, v3.ownBlock = some k → w.heap.size ≤ k) := Lib.hid (fun k hk => (hown3.lt k hk).1); have z3 := HB3.out.size; have B_3 := Lib.hid (B_0.out.below HB3.out); clear hown3 hgrow3 b0 b1 b2 lB; have b0 := B_3.out.at 0 rfl; have b1 := B_3.out.at 1 rfl; have b2 := B_3.out.at 2 rfl; have lB := B_3.out.1)
  rw [rounds_succ]
  go_wp2_with (at_builtin; go_loud (refine append_opsO rfl _ _ rfl w.heap.size v3 (0 + n0 + n1) _ rfl HO3.out a2 n2 c2 T2 rfl (H2.out.below HB3.out) K2.out (by omega) z3 ?_); intro v4 w4 hown4 hgrow4; have HB4 := Lib.hid (HB3.out.grown hgrow4 z3 (fun k hk => hvb3.out k hk)); have HO4 := Lib.hid hown4; clear hown4 hgrow4 b0 b1 b2 lB)
  rw [rounds_succ]
  go_wp2
  go_ret
  have hrow : w4.ownsRow w.heap.size 96 7 v4 (allO T0 n0 ++ allO T1 n1 ++ allO T2 n2).length (rowO (allO T0 n0 ++ allO T1 n1 ++ allO T2 n2)) := by
    have := HO4.out
    rw [List.length_append, List.length_append, allO_len, allO_len, allO_len, rowO_app, rowO_app]
    simpa using this
  obtain ⟨a', c', e', ho, _, _⟩ := rowO_own hrow
  subst e'
  exact ⟨a', c', rfl, ho, HB4.out⟩
end Go.Proofs.Ytpmhbdiddcnhfaa

namespace Go.Proofs.Ytpmhbdiddcnhfaa
open Go.RowKit
set_option linter.unusedVariables false

theorem Left.keeps {w w' : World} {fb ba qa N c x lo hi : Nat} (h : Left w fb ba qa N c x) (hk : Keeps w w' lo hi) (hd : fb < lo ∨ hi ≤ fb) : Left w' fb ba qa N c x := by
  obtain ⟨ad, h1, h2⟩ := h
  exact ⟨ad, h1.keeps hk hd, h2⟩

theorem Left.same {w w' : World} {fb ba qa N c x : Nat} (h : Left w fb ba qa N c x) (e : w'.heap[fb]? = w.heap[fb]?) (hs : w.heap.size ≤ w'.heap.size) : Left w' fb ba qa N c x := by
  obtain ⟨ad, h1, h2⟩ := h
  exact ⟨ad, blk_same h1 e hs, h2⟩

theorem TurnAt.same {w w' : World} {tb bt qt M ct k : Nat} (h : TurnAt w tb bt qt M ct k) (e : w'.heap[tb]? = w.heap[tb]?) (hs : w.heap.size ≤ w'.heap.size) : TurnAt w' tb bt qt M ct k := by
  obtain ⟨ad, h1, h2⟩ := h
  exact ⟨ad, blk_same h1 e hs, h2⟩

/-- How long the row is that a cell holds. -/
def lenAt (w : World) (b : Nat) : Nat := match w.cell? ⟨b, 0, none⟩ with | some (.slice _ n _) => n | _ => 0

theorem lenAt_left {w : World} {fb ba qa N c x : Nat} (h : Left w fb ba qa N c x) : lenAt w fb = N - x := by
  obtain ⟨ad, h1, _⟩ := h
  have := h1.at 0 rfl
  unfold lenAt; rw [this]

theorem allO_oT (L : List OpC) : allO (oT L) L.length = L := by
  apply List.ext_getElem?
  intro i
  by_cases h : i < L.length
  · rw [allO_get _ _ _ h, List.getElem?_eq_getElem h, oT_at (List.getElem?_eq_getElem h)]
  · rw [List.getElem?_eq_none (by rw [allO_len]; omega), List.getElem?_eq_none (by omega)]

/-- The state of the program's merging behind some rounds. -/
structure MgSt (w wr : World) (A : Nat → OpC) (ba qa NA ca : Nat) (B : Nat → OpC) (bb qb NB cb bt qt M ct X Y k : Nat) (L : List OpC) : Prop where
  la : Left wr w.heap.size ba qa NA ca X
  lb : Left wr (w.heap.size + 1) bb qb NB cb Y
  res : Blk wr (w.heap.size + 2) [.int .i64 0, .slice none 0 0]
  mer : ∃ v, Blk wr (w.heap.size + 3) [v] ∧ wr.ownsRow (w.heap.size + 5) 96 7 v L.length (rowO L)
  tur : TurnAt wr (w.heap.size + 4) bt qt M ct (min k M)
  bel : Below w.heap.size w wr
  siz : w.heap.size + 5 ≤ wr.heap.size

set_option maxRecDepth 100000 in
theorem turnsOf_any (ta : Option Addr) (M ct : Nat) (w : World) : Calls Try.prog 70 #[.slice ta M ct] w fun e w' => e = .returned (.func (.func 120) #[] #[.pointer (some ⟨w.heap.size, 0, none⟩)]) ∧ w' = w.alloc (.cells #[.slice ta M ct] 48) := by
  go_enter Try.func70, Try.ntmps70
  go_wp2
  go_ret
  exact ⟨rfl, rfl⟩

set_option maxRecDepth 100000 in
set_option maxHeartbeats 64000000 in
theorem implMg_any (a : Option Addr) (NA ca : Nat) (A : Nat → OpC) (b : Option Addr) (NB cb : Nat) (B : Nat → OpC) (ta : Option Addr) (M ct : Nat) (t : Nat → Bool) (co : Int) (K : Nat) (U : Nat → OpC) (w : World) (hA : OV w a NA A) (hB : OV w b NB B) (hT : BV w ta M t) (hNA : NA ≤ 1048576) (hNB : NB ≤ 1048576) (hM : M ≤ 1048576) (cA : CapF a NA ca) (cB : CapF b NB cb) (cT : CapF ta M ct) (hk : IsMg NA A NB B M t co K U) :
    Calls Try.prog 32 #[.slice a NA ca, .slice b NB cb, .slice ta M ct] w (RetOpR w co K U) := by
  obtain ⟨hca, hcam, ba, qa, rfl⟩ := cA
  obtain ⟨hcb, hcbm, bb, qb, rfl⟩ := cB
  obtain ⟨hct, hctm, bt, qt, rfl⟩ := cT
  have HA := Lib.hid hA; have HBB := Lib.hid hB; have HTT := Lib.hid hT; have HCA := Lib.hid hcam; have HCB := Lib.hid hcbm; have HCT := Lib.hid hctm
  clear hA hB hT hcam hcbm hctm
  have eg1 : ∀ args w, (callFunc 120 args).run Try.prog w = .ok (.enter 120 args) w := enters_of Try.func120 (by kernel_rfl) rfl
  have eg2 : ∀ args w, (callFunc 69 args).run Try.prog w = .ok (.enter 69 args) w := enters_of Try.func69 (by kernel_rfl) rfl
  rcases hk with ⟨h1, rfl, ks, hks, rfl, rfl⟩ | ⟨h1, rfl, rfl, rfl⟩
  · have h1' : ¬ (300 : Int) < (NA : Int) + (NB : Int) := by omega
    have HKS := Lib.hid hks
    have B0 := Lib.hid ((((Blk.new_at (w := w) (cs := #[.slice (some ⟨ba, qa, none⟩) NA ca]) (t := 24) w.heap.size rfl).alloc (.cells #[.slice (some ⟨bb, qb, none⟩) NB cb] 24)).alloc (.cells #[.int .i64 0, .slice none 0 0] 26)).alloc (.cells #[.slice none 0 0] 24))
    have B1 := Lib.hid (((Blk.new_at (w := w.alloc (.cells #[.slice (some ⟨ba, qa, none⟩) NA ca] 24)) (cs := #[.slice (some ⟨bb, qb, none⟩) NB cb]) (t := 24) (w.heap.size + 1) (by simp)).alloc (.cells #[.int .i64 0, .slice none 0 0] 26)).alloc (.cells #[.slice none 0 0] 24))
    have B2 := Lib.hid ((Blk.new_at (w := (w.alloc (.cells #[.slice (some ⟨ba, qa, none⟩) NA ca] 24)).alloc (.cells #[.slice (some ⟨bb, qb, none⟩) NB cb] 24)) (cs := #[.int .i64 0, .slice none 0 0]) (t := 26) (w.heap.size + 2) (by simp)).alloc (.cells #[.slice none 0 0] 24))
    have B3 := Lib.hid (Blk.new_at (w := (((w.alloc (.cells #[.slice (some ⟨ba, qa, none⟩) NA ca] 24)).alloc (.cells #[.slice (some ⟨bb, qb, none⟩) NB cb] 24)).alloc (.cells #[.int .i64 0, .slice none 0 0] 26))) (cs := #[.slice none 0 0]) (t := 24) (w.heap.size + 3) (by simp))
    have HB4 : Hid (Below w.heap.size w ((((w.alloc (.cells #[.slice (some ⟨ba, qa, none⟩) NA ca] 24)).alloc (.cells #[.slice (some ⟨bb, qb, none⟩) NB cb] 24)).alloc (.cells #[.int .i64 0, .slice none 0 0] 26)).alloc (.cells #[.slice none 0 0] 24))) := ((((Below.refl _ _).alloc (Nat.le_refl _) _).alloc (by simp) _).alloc (by simp; omega) _).alloc (by simp; omega) _
    have z4 : w.heap.size + 4 ≤ ((((w.alloc (.cells #[.slice (some ⟨ba, qa, none⟩) NA ca] 24)).alloc (.cells #[.slice (some ⟨bb, qb, none⟩) NB cb] 24)).alloc (.cells #[.int .i64 0, .slice none 0 0] 26)).alloc (.cells #[.slice none 0 0] 24)).heap.size := by simp
    have z4' : ((((w.alloc (.cells #[.slice (some ⟨ba, qa, none⟩) NA ca] 24)).alloc (.cells #[.slice (some ⟨bb, qb, none⟩) NB cb] 24)).alloc (.cells #[.int .i64 0, .slice none 0 0] 26)).alloc (.cells #[.slice none 0 0] 24)).heap.size ≤ w.heap.size + 4 := by simp
    clear hks
    go_enter Try.func32, Try.ntmps32
    go_wp2_with fail
    generalize ((((w.alloc (.cells #[.slice (some ⟨ba, qa, none⟩) NA ca] 24)).alloc (.cells #[.slice (some ⟨bb, qb, none⟩) NB cb] 24)).alloc (.cells #[.int .i64 0, .slice none 0 0] 26)).alloc (.cells #[.slice none 0 0] 24)) = w4 at *
    refine (turnsOf_any (some ⟨bt, qt, none⟩) M ct _).mono ?_
    rintro e w5 ⟨rfl, hw5⟩
    have e4 : w4.heap.size = w.heap.size + 4 := by omega
    rw [e4]
    have HS0 : Hid (MgSt w w5 A ba qa NA ca B bb qb NB cb bt qt M ct 0 0 0 []) := Lib.hid (by
      subst hw5
      have hb : Below w4.heap.size w4 (w4.alloc (.cells #[.slice (some ⟨bt, qt, none⟩) M ct] 48)) := (Below.refl _ _).alloc (Nat.le_refl _) _
      refine ⟨⟨⟨ba, qa, none⟩, B0.out.below hb, fun _ => by simp⟩, ⟨⟨bb, qb, none⟩, B1.out.below hb, fun _ => by simp⟩, B2.out.below hb, ⟨_, B3.out.below hb, World.ownsRow_nil _ _ _ _⟩, ⟨some ⟨bt, qt, none⟩, ?_, fun _ => by simp⟩, HB4.out.trans (hb.mono (by omega)), by simp; omega⟩
      have := Blk.new_at (w := w4) (cs := #[.slice (some ⟨bt, qt, none⟩) M ct]) (t := 48) (w.heap.size + 4) e4.symm
      simpa using this)
    clear hw5 B0 B1 B2 B3 HB4 z4 z4' e4
    go_wp2
    go_loopw [20] (fun _ wr => ∃ k : Nat, Hid (∀ j, j < k → MgB A B (ttF M t) NA NB j) ∧ Hid (MgSt w wr A ba qa NA ca B bb qb NB cb bt qt M ct (mgS A B (ttF M t) k).1 (mgS A B (ttF M t) k).2.1 k (mgS A B (ttF M t) k).2.2)) (fun _ wr => lenAt wr w.heap.size + lenAt wr (w.heap.size + 1))
    case atStart => exact ⟨0, Lib.hid (fun j hj => by omega), HS0⟩
    case round =>
      clear HS0
      obtain ⟨k, HLT, HST⟩ := hrel
      have hle := mgS_le HLT.out
      have hsm := mgS_sum A B (ttF M t) k
      obtain ⟨hx, hy⟩ := hle
      obtain ⟨hs1, hs2⟩ := hsm
      have HYES := Lib.hid (fun h => mgS_yes (A := A) (B := B) (tt := ttF M t) (k := k) h)
      have HNO := Lib.hid (fun h => mgS_no (A := A) (B := B) (tt := ttF M t) (k := k) h)
      have HSTP : Hid (¬ MgB A B (ttF M t) NA NB k → ks = k) := Lib.hid (fun h => mgK_one HKS.out ⟨HLT.out, h⟩)
      have HNXT : Hid (MgB A B (ttF M t) NA NB k → ∀ j, j < k + 1 → MgB A B (ttF M t) NA NB j) := Lib.hid (fun h j hj => by
        rcases Nat.lt_succ_iff_lt_or_eq.mp hj with h1 | rfl
        · exact HLT.out j h1
        · exact h)
      have HMB : Hid (MgB A B (ttF M t) NA NB k ↔ (mgS A B (ttF M t) k).1 < NA ∧ (mgS A B (ttF M t) k).2.1 < NB) := Lib.hid Iff.rfl
      have HMR : Hid (mgR A B (ttF M t) NA NB k = (mgS A B (ttF M t) k).2.2 ++ dropO A (mgS A B (ttF M t) k).1 NA ++ dropO B (mgS A B (ttF M t) k).2.1 NB) := Lib.hid rfl
      obtain ⟨X, hX⟩ : ∃ X, (mgS A B (ttF M t) k).1 = X := ⟨_, rfl⟩
      obtain ⟨Y, hY⟩ : ∃ Y, (mgS A B (ttF M t) k).2.1 = Y := ⟨_, rfl⟩
      obtain ⟨L, hL⟩ : ∃ L, (mgS A B (ttF M t) k).2.2 = L := ⟨_, rfl⟩
      rw [hX, hY, hL] at HYES HNO HMR HST
      rw [hX, hY] at HMB
      rw [hX] at hx hs1
      rw [hY] at hy hs1
      rw [hL] at hs2
      have hLk : L.length ≤ 600 := by omega
      clear hX hY hL HLT hs1 hs2
      have hzr := HST.out.siz
      obtain ⟨adA, FA, hadA⟩ := HST.out.la
      obtain ⟨adB, FB, hadB⟩ := HST.out.lb
      have F1 := Lib.hid FA; have F2 := Lib.hid FB; have HDA := Lib.hid hadA; have HDB := Lib.hid hadB
      obtain ⟨n1, hn1⟩ : ∃ n1, NA - X = n1 := ⟨_, rfl⟩
      obtain ⟨c1, hc1⟩ : ∃ c1, ca - X = c1 := ⟨_, rfl⟩
      obtain ⟨n2, hn2⟩ : ∃ n2, NB - Y = n2 := ⟨_, rfl⟩
      obtain ⟨c2, hc2⟩ : ∃ c2, cb - Y = c2 := ⟨_, rfl⟩
      rw [hn1, hc1] at F1
      rw [hn2, hc2] at F2
      have HN1 := Lib.hid hn1; have HN2 := Lib.hid hn2; have HC1 := Lib.hid hc1; have HC2 := Lib.hid hc2
      have HLA : Hid (lenAt wr w.heap.size + lenAt wr (w.heap.size + 1) = n1 + n2) := Lib.hid (by rw [lenAt_left HST.out.la, lenAt_left HST.out.lb, hn1, hn2])
      have a0 := F1.out.at 0 rfl; have lA := F1.out.1
      have b0 := F2.out.at 0 rfl; have lB := F2.out.1
      clear FA FB hadA hadB
      by_cases hboth : X < NA ∧ Y < NB
      · have HNJ := Lib.hid (HNXT.out (HMB.out.2 hboth))
        obtain ⟨hxa, hyb⟩ := hboth
        have hp1 : 0 < n1 := by omega
        have hp2 : 0 < n2 := by omega
        have hp1' : (0 : Int) < (n1 : Int) := by omega
        have hp2' : (0 : Int) < (n2 : Int) := by omega
        have HXA := Lib.hid hxa; have HYB := Lib.hid hyb
        clear HNXT HSTP HMR HMB hn1 hn2 hc1 hc2
        obtain ⟨rt, hrt⟩ : ∃ rt, ttF M t k = rt := ⟨_, rfl⟩
        have HRT := Lib.hid hrt
        cases rt with
        | true =>
          go_wp2_with (go_at_fn 120; refine (turns1_any (w.heap.size + 4) bt qt M ct k t _ HST.out.tur (HTT.out.below HST.out.bel) hM hct HCT.out).mono ?_; rw [HRT.out]; rintro e w2 ⟨rfl, ht2, hkp⟩; have T2 := Lib.hid ht2; have KP := Lib.hid hkp; have hz2 := hkp.size; clear ht2 hkp a0 b0 lA lB)
          have LA2 := Lib.hid (HST.out.la.keeps KP.out (.inl (by omega)))
          have LB2 := Lib.hid (HST.out.lb.keeps KP.out (.inl (by omega)))
          have RS2 := Lib.hid (HST.out.res.keeps KP.out (.inl (by omega)))
          have BL2 : Hid (Below w.heap.size w w2) := Lib.hid (HST.out.bel.trans (KP.out.below (by omega) HST.out.bel.size))
          have MR2 : Hid (∃ v, Blk w2 (w.heap.size + 3) [v] ∧ w2.ownsRow (w.heap.size + 5) 96 7 v L.length (rowO L)) := Lib.hid (by
            obtain ⟨v, h1, h2⟩ := HST.out.mer
            exact ⟨v, h1.keeps KP.out (.inl (by omega)), h2.kept (keeps_grown KP.out) (.inr (fun e => by have := (h2.lt _ e).1; omega))⟩)
          clear HST KP F1 F2
          have HE := HYES.out hrt
          have HE1 : Hid ((mgS A B (ttF M t) (k + 1)).1 = X + 1) := Lib.hid (by rw [HE]); have HE2 : Hid ((mgS A B (ttF M t) (k + 1)).2.1 = Y) := Lib.hid (by rw [HE]); have HE3 : Hid ((mgS A B (ttF M t) (k + 1)).2.2 = L ++ [A X]) := Lib.hid (by rw [HE])
          clear HE HYES HNO hrt HRT
          obtain ⟨v, hv1, hv2⟩ := MR2.out
          obtain ⟨b9, q9, e9, lb9, -⟩ := ov_get HA.out hxa
          simp only [Option.some.injEq, Addr.mk.injEq, and_true] at e9
          obtain ⟨rfl, rfl⟩ := e9
          have HV1 := Lib.hid hv1; have HV2 := Lib.hid hv2
          clear hv1 hv2 MR2
          go_wp2_with (go_at_fn 69; refine (take1_any w.heap.size (w.heap.size + 3) (w.heap.size + 5) ba qa NA ca X A v L _ LA2.out (HA.out.below BL2.out) hxa hNA hca HCA.out HV1.out HV2.out (by omega) (by omega) (by omega) (by omega) (by omega) (by omega) (by omega) (by omega) (by omega)).mono ?_; rintro e w3 ⟨⟨u, rfl⟩, hl, hm, hbl, hot⟩; have LA3 := Lib.hid hl; have MR3 := Lib.hid hm; have BL3 : Hid (Below w.heap.size w w3) := Lib.hid (BL2.out.trans (hbl w.heap.size (Nat.le_refl _) (by omega))); have hz3 := (hbl 0 (Nat.zero_le _) (Nat.zero_le _)).size; have OT := Lib.hid hot; clear hl hm hbl hot)
          have HFIN : Hid (MgSt w w3 A ba qa NA ca B bb qb NB cb bt qt M ct (mgS A B (ttF M t) (k + 1)).1 (mgS A B (ttF M t) (k + 1)).2.1 (k + 1) (mgS A B (ttF M t) (k + 1)).2.2) := Lib.hid (by
            rw [HE1.out, HE2.out, HE3.out]
            exact ⟨LA3.out, LB2.out.same (OT.out _ (by omega) (by omega) (by omega)) hz3, blk_same RS2.out (OT.out _ (by omega) (by omega) (by omega)) hz3, MR3.out, T2.out.same (OT.out _ (by omega) (by omega) (by omega)) hz3, BL3.out, by omega⟩)
          have hmeas : lenAt w3 w.heap.size + lenAt w3 (w.heap.size + 1) < lenAt wr w.heap.size + lenAt wr (w.heap.size + 1) := by
            rw [HLA.out, lenAt_left HFIN.out.la, lenAt_left HFIN.out.lb, HE1.out, HE2.out]
            have := HN1.out; have := HN2.out; omega
          have HME := Lib.hid hmeas
          clear hmeas LA2 LB2 RS2 HV1 HV2 OT MR3 LA3 T2
          try go_wp2
          go_roundw
          case rel => exact ⟨k + 1, HNJ, HFIN⟩
          case measure => exact HME.out
        | false =>
          go_wp2_with (go_at_fn 120; refine (turns1_any (w.heap.size + 4) bt qt M ct k t _ HST.out.tur (HTT.out.below HST.out.bel) hM hct HCT.out).mono ?_; rw [HRT.out]; rintro e w2 ⟨rfl, ht2, hkp⟩; have T2 := Lib.hid ht2; have KP := Lib.hid hkp; have hz2 := hkp.size; clear ht2 hkp a0 b0 lA lB)
          have LA2 := Lib.hid (HST.out.la.keeps KP.out (.inl (by omega)))
          have LB2 := Lib.hid (HST.out.lb.keeps KP.out (.inl (by omega)))
          have RS2 := Lib.hid (HST.out.res.keeps KP.out (.inl (by omega)))
          have BL2 : Hid (Below w.heap.size w w2) := Lib.hid (HST.out.bel.trans (KP.out.below (by omega) HST.out.bel.size))
          have MR2 : Hid (∃ v, Blk w2 (w.heap.size + 3) [v] ∧ w2.ownsRow (w.heap.size + 5) 96 7 v L.length (rowO L)) := Lib.hid (by
            obtain ⟨v, h1, h2⟩ := HST.out.mer
            exact ⟨v, h1.keeps KP.out (.inl (by omega)), h2.kept (keeps_grown KP.out) (.inr (fun e => by have := (h2.lt _ e).1; omega))⟩)
          clear HST KP F1 F2
          have HE := HNO.out hrt
          have HE1 : Hid ((mgS A B (ttF M t) (k + 1)).1 = X) := Lib.hid (by rw [HE]); have HE2 : Hid ((mgS A B (ttF M t) (k + 1)).2.1 = Y + 1) := Lib.hid (by rw [HE]); have HE3 : Hid ((mgS A B (ttF M t) (k + 1)).2.2 = L ++ [B Y]) := Lib.hid (by rw [HE])
          clear HE HYES HNO hrt HRT
          obtain ⟨v, hv1, hv2⟩ := MR2.out
          obtain ⟨b9, q9, e9, lb9, -⟩ := ov_get HBB.out hyb
          simp only [Option.some.injEq, Addr.mk.injEq, and_true] at e9
          obtain ⟨rfl, rfl⟩ := e9
          have HV1 := Lib.hid hv1; have HV2 := Lib.hid hv2
          clear hv1 hv2 MR2
          go_wp2_with (go_at_fn 69; refine (take1_any (w.heap.size + 1) (w.heap.size + 3) (w.heap.size + 5) bb qb NB cb Y B v L _ LB2.out (HBB.out.below BL2.out) hyb hNB hcb HCB.out HV1.out HV2.out (by omega) (by omega) (by omega) (by omega) (by omega) (by omega) (by omega) (by omega) (by omega)).mono ?_; rintro e w3 ⟨⟨u, rfl⟩, hl, hm, hbl, hot⟩; have LB3 := Lib.hid hl; have MR3 := Lib.hid hm; have BL3 : Hid (Below w.heap.size w w3) := Lib.hid (BL2.out.trans (hbl w.heap.size (by omega) (by omega))); have hz3 := (hbl 0 (Nat.zero_le _) (Nat.zero_le _)).size; have OT := Lib.hid hot; clear hl hm hbl hot)
          have HFIN : Hid (MgSt w w3 A ba qa NA ca B bb qb NB cb bt qt M ct (mgS A B (ttF M t) (k + 1)).1 (mgS A B (ttF M t) (k + 1)).2.1 (k + 1) (mgS A B (ttF M t) (k + 1)).2.2) := Lib.hid (by
            rw [HE1.out, HE2.out, HE3.out]
            exact ⟨LA2.out.same (OT.out _ (by omega) (by omega) (by omega)) hz3, LB3.out, blk_same RS2.out (OT.out _ (by omega) (by omega) (by omega)) hz3, MR3.out, T2.out.same (OT.out _ (by omega) (by omega) (by omega)) hz3, BL3.out, by omega⟩)
          have hmeas : lenAt w3 w.heap.size + lenAt w3 (w.heap.size + 1) < lenAt wr w.heap.size + lenAt wr (w.heap.size + 1) := by
            rw [HLA.out, lenAt_left HFIN.out.la, lenAt_left HFIN.out.lb, HE1.out, HE2.out]
            have := HN1.out; have := HN2.out; omega
          have HME := Lib.hid hmeas
          clear hmeas LA2 LB2 RS2 HV1 HV2 OT MR3 LB3 T2
          try go_wp2
          go_roundw
          case rel => exact ⟨k + 1, HNJ, HFIN⟩
          case measure => exact HME.out
      · obtain rfl : ks = k := HSTP.out (fun h => hboth (HMB.out.1 h))
        have HRR : Hid (L ++ dropO A X NA ++ dropO B Y NB = mgR A B (ttF M t) NA NB ks) := Lib.hid HMR.out.symm
        obtain ⟨v, hv1, hv2⟩ := HST.out.mer
        obtain ⟨va, vc, e', ho, hvc1, hvc2⟩ := rowO_own hv2
        have hvn : va = none → L.length = 0 ∧ vc = 0 := by
          subst e'
          obtain ⟨a9, c9, e9, _, _, h9⟩ := row_shape2 hv2
          simp only [Value.slice.injEq] at e9
          obtain ⟨rfl, -, rfl⟩ := e9
          exact h9
        subst e'
        have HV := Lib.hid ho.src; have M3 := Lib.hid hv1; have HVN := Lib.hid hvn
        have RS := Lib.hid HST.out.res
        have hcd : Hid ((n1 = 0 ∨ n2 = 0)) := Lib.hid (by omega)
        have HAX : Hid (OV wr (some adA) n1 (fun j => A (X + j))) := Lib.hid (by
          by_cases hxa : X < NA
          · rw [HDA.out hxa, ← hn1]
            exact ov_drop (HA.out.below HST.out.bel) X
          · exact .inl (by omega))
        have HBY : Hid (OV wr (some adB) n2 (fun j => B (Y + j))) := Lib.hid (by
          by_cases hyb : Y < NB
          · rw [HDB.out hyb, ← hn2]
            exact ov_drop (HBB.out.below HST.out.bel) Y
          · exact .inl (by omega))
        have HEQ : Hid (allO (oT L) L.length ++ allO (fun j => A (X + j)) n1 ++ allO (fun j => B (Y + j)) n2 = mgR A B (ttF M t) NA NB ks) := Lib.hid (by
          rw [allO_oT, ← HRR.out, ← hn1, ← hn2]; rfl)
        have hsum : L.length + n1 + n2 ≤ 900 := by omega
        have HBW := Lib.hid HST.out.bel
        clear hv1 hv2 ho hvc1 hvc2 hvn HST HSTP HMB HMR HNXT HYES HNO hboth HRR HDA HDB hn1 hn2 hc1 hc2 hx hy
        have m0 := M3.out.at 0 rfl; have lM := M3.out.1
        by_cases hp1 : 0 < n1
        case neg =>
          have hp1' : ¬ (0 : Int) < (n1 : Int) := by omega
          have LT := Lib.hid (Blk.new_at (w := wr) (cs := #[.slice va L.length vc, .slice (some adA) n1 c1, .slice (some adB) n2 c2]) (t := 24) wr.heap.size rfl)
          have HBL : Hid (Below w.heap.size w (wr.alloc (.cells #[.slice va L.length vc, .slice (some adA) n1 c1, .slice (some adB) n2 c2] 24))) := Lib.hid (HBW.out.alloc HBW.out.size _)
          have HV5 := Lib.hid (HV.out.below ((Below.refl wr.heap.size wr).alloc (Nat.le_refl _) (.cells #[.slice va L.length vc, .slice (some adA) n1 c1, .slice (some adB) n2 c2] 24)))
          have HA5 := Lib.hid (HAX.out.below ((Below.refl wr.heap.size wr).alloc (Nat.le_refl _) (.cells #[.slice va L.length vc, .slice (some adA) n1 c1, .slice (some adB) n2 c2] 24)))
          have HB5 := Lib.hid (HBY.out.below ((Below.refl wr.heap.size wr).alloc (Nat.le_refl _) (.cells #[.slice va L.length vc, .slice (some adA) n1 c1, .slice (some adB) n2 c2] 24)))
          have RS5 := Lib.hid (RS.out.alloc (.cells #[.slice va L.length vc, .slice (some adA) n1 c1, .slice (some adB) n2 c2] 24))
          have z5 : wr.heap.size + 1 ≤ (wr.alloc (.cells #[.slice va L.length vc, .slice (some adA) n1 c1, .slice (some adB) n2 c2] 24)).heap.size := by simp
          go_wp2_with (go_at_call 71; refine (concatO_any wr.heap.size va (some adA) (some adB) L.length n1 n2 vc c1 c2 (oT L) (fun j => A (X + j)) (fun j => B (Y + j)) _ LT.out HV5.out HA5.out HB5.out HVN.out (fun h => by cases h) (fun h => by cases h) hsum).mono ?_; rw [HEQ.out]; rintro e w6 ⟨a', c', rfl, ho, hb⟩; have HO := Lib.hid ho; have HB6 := Lib.hid (thru0 HBL.out hb); have RS6 := Lib.hid (RS5.out.below hb); have z6 := hb.size; clear ho hb a0 b0 m0 lA lB lM; have c0 := RS6.out.at 0 rfl; have c1 := RS6.out.at 1 rfl; have f0 := RS6.out.free 0 rfl; have f1 := RS6.out.free 1 rfl; have lR := RS6.out.1)
          try go_wp2
          refine bodyPost_ret (v := .agg #[.int .i64 0, .slice a' (mgR A B (ttF M t) NA NB ks).length c']) (by simp [results, Try.results32, go_sem, c0, c1, World.cell?_setCell_other, World.cell?_setCell_same']) rfl ⟨a', c', rfl, ?_, ?_⟩
          · exact (HO.out.keeps (two_keeps w6 (w.heap.size + 2) _ _) (.inr (by omega))).widen (by omega) (by simp)
          · repeat (first | (with_reducible refine Below.setCell ?_ (by (try simp); (try omega)) _) | (with_reducible refine Below.alloc ?_ (by (try simp); (try omega)) _))
            exact HB6.out
        case pos =>
          have hp1' : (0 : Int) < (n1 : Int) := by omega
          have hz2 : n2 ≤ 0 := by have := hcd.out; omega
          have hp2' : ¬ (0 : Int) < (n2 : Int) := by omega
          have LT := Lib.hid (Blk.new_at (w := wr) (cs := #[.slice va L.length vc, .slice (some adA) n1 c1, .slice (some adB) n2 c2]) (t := 24) wr.heap.size rfl)
          have HBL : Hid (Below w.heap.size w (wr.alloc (.cells #[.slice va L.length vc, .slice (some adA) n1 c1, .slice (some adB) n2 c2] 24))) := Lib.hid (HBW.out.alloc HBW.out.size _)
          have HV5 := Lib.hid (HV.out.below ((Below.refl wr.heap.size wr).alloc (Nat.le_refl _) (.cells #[.slice va L.length vc, .slice (some adA) n1 c1, .slice (some adB) n2 c2] 24)))
          have HA5 := Lib.hid (HAX.out.below ((Below.refl wr.heap.size wr).alloc (Nat.le_refl _) (.cells #[.slice va L.length vc, .slice (some adA) n1 c1, .slice (some adB) n2 c2] 24)))
          have HB5 := Lib.hid (HBY.out.below ((Below.refl wr.heap.size wr).alloc (Nat.le_refl _) (.cells #[.slice va L.length vc, .slice (some adA) n1 c1, .slice (some adB) n2 c2] 24)))
          have RS5 := Lib.hid (RS.out.alloc (.cells #[.slice va L.length vc, .slice (some adA) n1 c1, .slice (some adB) n2 c2] 24))
          have z5 : wr.heap.size + 1 ≤ (wr.alloc (.cells #[.slice va L.length vc, .slice (some adA) n1 c1, .slice (some adB) n2 c2] 24)).heap.size := by simp
          go_wp2_with (go_at_call 71; refine (concatO_any wr.heap.size va (some adA) (some adB) L.length n1 n2 vc c1 c2 (oT L) (fun j => A (X + j)) (fun j => B (Y + j)) _ LT.out HV5.out HA5.out HB5.out HVN.out (fun h => by cases h) (fun h => by cases h) hsum).mono ?_; rw [HEQ.out]; rintro e w6 ⟨a', c', rfl, ho, hb⟩; have HO := Lib.hid ho; have HB6 := Lib.hid (thru0 HBL.out hb); have RS6 := Lib.hid (RS5.out.below hb); have z6 := hb.size; clear ho hb a0 b0 m0 lA lB lM; have c0 := RS6.out.at 0 rfl; have c1 := RS6.out.at 1 rfl; have f0 := RS6.out.free 0 rfl; have f1 := RS6.out.free 1 rfl; have lR := RS6.out.1)
          try go_wp2
          refine bodyPost_ret (v := .agg #[.int .i64 0, .slice a' (mgR A B (ttF M t) NA NB ks).length c']) (by simp [results, Try.results32, go_sem, c0, c1, World.cell?_setCell_other, World.cell?_setCell_same']) rfl ⟨a', c', rfl, ?_, ?_⟩
          · exact (HO.out.keeps (two_keeps w6 (w.heap.size + 2) _ _) (.inr (by omega))).widen (by omega) (by simp)
          · repeat (first | (with_reducible refine Below.setCell ?_ (by (try simp); (try omega)) _) | (with_reducible refine Below.alloc ?_ (by (try simp); (try omega)) _))
            exact HB6.out
  · have h1' : (300 : Int) < (NA : Int) + (NB : Int) := by omega
    go_enter Try.func32, Try.ntmps32
    go_wp2
    refine bodyPost_ret (v := .agg #[.int .i64 2, .slice none 0 0]) (by simp [results, Try.results32, go_sem]) rfl ⟨none, 0, rfl, .inl rfl, ?_⟩
    repeat (first | (with_reducible refine Below.setCell ?_ (by (try simp); (try omega)) _) | (with_reducible refine Below.alloc ?_ (by (try simp); (try omega)) _))
    exact Below.refl _ _
end Go.Proofs.Ytpmhbdiddcnhfaa

namespace Go.Proofs.Ytpmhbdiddcnhfaa
open Go.RowKit
set_option linter.unusedVariables false

/-- A new row of ops, with what is said of its capacity and its address. -/
def RetOpsC (W : World) (N : Nat) (T : Nat → OpC) (e : Ending) (w' : World) : Prop :=
  ∃ a c, e = .returned (.slice a N c) ∧ OVO w' W.heap.size w'.heap.size a N T ∧ Below W.heap.size W w' ∧ CapF a N c

def RetBlsC (W : World) (N : Nat) (T : Nat → Bool) (e : Ending) (w' : World) : Prop :=
  ∃ a c, e = .returned (.slice a N c) ∧ BVO w' W.heap.size w'.heap.size a N T ∧ Below W.heap.size W w' ∧ CapF a N c

set_option maxRecDepth 100000 in
set_option maxHeartbeats 1600000 in
theorem toOpSC_any (a : Option Addr) (N c : Nat) (T : Nat → OpC) (w : World) (h : OV w a N T) (hN : N ≤ 1048576) :
    Calls Try.prog 12 #[.slice a N c] w (RetOpsC w N T) := by
  obtain ⟨i0, hi, hz0, hz1, hz2⟩ := info_parts Try.infoOP
  have H := Lib.hid h
  clear h
  go_enter Try.func12, Try.ntmps12
  go_wp2_with (at_make; refine wpList_make_full _ rfl _ _ 24 rfl w.heap.size 96 i0 (.agg #[.int .i64 0, .int .i64 0, .int .i64 0, .int .i64 0, .int .i64 0, .int .i64 0, .bool false]) 7 Try.underlyingROP hi hz0 hz1 .i64 .i64 N N N rfl rfl rfl rfl (by rw [hz2]; omega) (by unfold maxLen; omega) (Nat.le_refl _) ?_; intro w1 hown1 hgrow1)
  have hb1 : Below w.heap.size w w1 := (Below.refl _ _).grown hgrow1 (Nat.le_refl _) (by intro k hk; simp at hk)
  have HB1 := Lib.hid hb1
  rcases Nat.eq_zero_or_pos N with rfl | hp
  · clear hown1 hgrow1 hb1
    go_loop [4] (fun p => p = .int .i64 0) (fun _ => 0)
    case atStart => rfl
    case round =>
      obtain rfl := hrel
      go_wp2
      go_ret
      exact ⟨_, _, rfl, .inl rfl, HB1.out, Nat.le_refl _, by unfold maxLen; omega, _, _, rfl⟩
  have hgm := oown_made (b := w.heap.size) (lo := w.heap.size) hown1 (Nat.le_refl _) hp
  have HG := Lib.hid hgm
  have hb2 := hb1.size
  clear hown1 hgrow1 hb1 hgm
  go_loopw [4] (fun p wr => ∃ (i : Nat), i ≤ N ∧ p = .int .i64 (i : Int) ∧ Hid (Below w.heap.size w wr) ∧ Hid (OOwn wr w.heap.size wr.heap.size w.heap.size 0 N (fun j => if j < i then T j else ⟨0, 0, 0, 0, 0, 0, false⟩))) (fun p _ => N - (intOf p).toNat)
  case atStart => exact ⟨0, Nat.zero_le _, rfl, HB1, by simpa using HG⟩
  case round =>
    obtain ⟨i, hi9, rfl, HBr, HR⟩ := hrel
    by_cases hlt : i < N
    · have hlt' : (i : Int) < (N : Int) := by omega
      have hi0 : (0 : Int) ≤ (i : Int) := by omega
      rcases H.out.below HBr.out with h0 | ⟨b, q, rfl, hg⟩
      · omega
      · have lt := hg.lt
        obtain ⟨x0, x1, x2, x3, x4, x5, x6⟩ := hg.sev i hlt
        have hzr := HBr.out.size
        have lR := HR.out.lt
        clear hg
        go_wp2_with fail
        refine (toOpT_any (T i) _).mono ?_
        rintro e w2 ⟨rfl, hb⟩
        have hr2 := HR.out.below hb
        have h6 := hr2.sev i hlt; have h7 := hr2.free i hlt
        have hs2 := hb.size
        have hq := oown_put (i := i) (t := T i) (hr2.widen (Nat.le_refl _) hs2) hlt
        rw [Nat.zero_add] at h6 h7 hq
        obtain ⟨y0, y1, y2, y3, y4, y5, y6⟩ := h6
        obtain ⟨f0, f1, f2, f3, f4, f5, f6⟩ := h7
        have l2 : w.heap.size < w2.heap.size := by omega
        have HQ := Lib.hid hq; have HB2 := Lib.hid (thru0 HBr.out hb)
        clear hb hq hr2 x0 x1 x2 x3 x4 x5 x6
        go_wp2
        go_roundw
        case rel =>
          refine ⟨i + 1, by omega, by go_num, HB2.out.trans (HQ.out.2.below (Nat.le_refl _) (by omega)), (HQ.out.1.widen (Nat.le_refl _) HQ.out.2.size).congr fun j hj => ?_⟩
          by_cases e : j = i
          · subst e; simp
          · have h2 : (j < i + 1) = (j < i) := by simp only [eq_iff_iff]; omega
            simp only [if_neg e, h2]
        case measure => simp [intOf]; omega
    · obtain rfl : i = N := by omega
      go_wp2
      go_ret
      exact ⟨_, _, rfl, .inr ⟨w.heap.size, 0, rfl, HR.out.congr fun j hj => by simp [hj]⟩, HBr.out, Nat.le_refl _, by unfold maxLen; omega, _, _, rfl⟩

set_option maxRecDepth 100000 in
set_option maxHeartbeats 1600000 in
theorem toBoolSC_any (a : Option Addr) (N c : Nat) (T : Nat → Bool) (w : World) (h : BV w a N T) (hN : N ≤ 1048576) :
    Calls Try.prog 31 #[.slice a N c] w (RetBlsC w N T) := by
  obtain ⟨i0, hi, hz0, hz1, hz2⟩ := info_parts Try.infoBl
  have H := Lib.hid h
  clear h
  go_enter Try.func31, Try.ntmps31
  go_wp2_with (at_make; refine wpList_make_full _ rfl _ _ 48 rfl w.heap.size 4 i0 (.bool false) 1 Try.underlyingRBl hi hz0 hz1 .i64 .i64 N N N rfl rfl rfl rfl (by rw [hz2]; omega) (by unfold maxLen; omega) (Nat.le_refl _) ?_; intro w1 hown1 hgrow1)
  have hb1 : Below w.heap.size w w1 := (Below.refl _ _).grown hgrow1 (Nat.le_refl _) (by intro k hk; simp at hk)
  have HB1 := Lib.hid hb1
  rcases Nat.eq_zero_or_pos N with rfl | hp
  · clear hown1 hgrow1 hb1
    go_loop [4] (fun p => p = .int .i64 0) (fun _ => 0)
    case atStart => rfl
    case round =>
      obtain rfl := hrel
      go_wp2
      go_ret
      exact ⟨_, _, rfl, .inl rfl, HB1.out, Nat.le_refl _, by unfold maxLen; omega, _, _, rfl⟩
  have hgm := bown_made (b := w.heap.size) (lo := w.heap.size) hown1 (Nat.le_refl _) hp
  have HG := Lib.hid hgm
  have hb2 := hb1.size
  clear hown1 hgrow1 hb1 hgm
  go_loopw [4] (fun p wr => ∃ (i : Nat), i ≤ N ∧ p = .int .i64 (i : Int) ∧ Hid (Below w.heap.size w wr) ∧ Hid (BOwn wr w.heap.size wr.heap.size w.heap.size 0 N (fun j => if j < i then T j else false))) (fun p _ => N - (intOf p).toNat)
  case atStart => exact ⟨0, Nat.zero_le _, rfl, HB1, by simpa using HG⟩
  case round =>
    obtain ⟨i, hi9, rfl, HBr, HR⟩ := hrel
    by_cases hlt : i < N
    · have hlt' : (i : Int) < (N : Int) := by omega
      have hi0 : (0 : Int) ≤ (i : Int) := by omega
      obtain ⟨b, q, rfl, lb, x0⟩ := bv_get (H.out.below HBr.out) hlt
      have hzr := HBr.out.size
      have lR := HR.out.lt
      obtain ⟨t, ht⟩ : ∃ t, T i = t := ⟨_, rfl⟩
      rw [ht] at x0
      have HTT := Lib.hid ht
      have HQ := Lib.hid (bown_put HR.out hlt t)
      have y0 := HR.out.one i hlt; have f0 := HR.out.free i hlt
      rw [Nat.zero_add] at y0 f0
      unfold OneG at y0
      unfold OneF at f0
      clear ht
      go_wp2
      go_roundw
      case rel =>
        have h6 := HQ.out
        rw [Nat.zero_add] at h6
        refine ⟨i + 1, by omega, by go_num, HBr.out.trans (h6.2.below (Nat.le_refl _) (by omega)), (h6.1.widen (Nat.le_refl _) h6.2.size).congr fun j hj => ?_⟩
        by_cases e : j = i
        · subst e; simp [HTT.out]
        · have h2 : (j < i + 1) = (j < i) := by simp only [eq_iff_iff]; omega
          simp only [if_neg e, h2]
      case measure => simp [intOf]; omega
    · obtain rfl : i = N := by omega
      go_wp2
      go_ret
      exact ⟨_, _, rfl, .inr ⟨w.heap.size, 0, rfl, HR.out.congr fun j hj => by simp [hj]⟩, HBr.out, Nat.le_refl _, by unfold maxLen; omega, _, _, rfl⟩
end Go.Proofs.Ytpmhbdiddcnhfaa

namespace Go.Proofs.Ytpmhbdiddcnhfaa
open Go.RowKit
set_option linter.unusedVariables false

set_option maxRecDepth 100000 in
set_option maxHeartbeats 6400000 in
theorem e6_any (la : Option Addr) (lN lc : Nat) (lT : Nat → OpC) (ra : Option Addr) (rN rc : Nat) (rT : Nat → OpC) (ta : Option Addr) (tN tc : Nat) (tT : Nat → Bool) (w : World) (hl : OV w la lN lT) (nl : lN ≤ maxLen) (hr : OV w ra rN rT) (nr : rN ≤ maxLen) (ht : BV w ta tN tT) (nt : tN ≤ maxLen) :
    Calls Try.prog 6 #[.slice la lN lc, .slice ra rN rc, .slice ta tN tc] w (RetBool w true) := by
  obtain ⟨co, K, U, hk⟩ := isMg_ex lN lT rN rT tN tT
  have hsm := isMg_small hk
  have HK := Lib.hid hk
  have Pl := Lib.hid hl
  have Pr := Lib.hid hr
  have Pt := Lib.hid ht
  clear hk hl hr ht
  go_enter Try.func6, Try.ntmps6
  by_cases qt : tN ≤ 1048576
  case neg =>
    have q' : (1048576 : Int) < (tN : Int) := by omega
    clear qt
    go_wp2
    go_ret
    exact ⟨rfl, Below.refl _ _⟩
  have qt' : ¬ (1048576 : Int) < (tN : Int) := by omega
  by_cases sl : (lN : Int) ≤ 1048576
  case neg =>
    go_wp2_with fail
    refine (szOpS_no la lN lc (1048576) _ (by omega) (by omega) nl (by omega)).mono ?_
    rintro e w' ⟨rfl, rfl⟩
    go_wp2
    go_ret
    exact ⟨rfl, Below.refl _ _⟩
  go_wp2_with fail
  refine (szOpS_ok la lN lc (1048576) _ (by omega) (by omega) nl sl).mono ?_
  rintro e w' ⟨rfl, rfl⟩
  have tl : ¬ (1048576 - lN : Int) < 0 := by omega
  have ql : lN ≤ 1048576 := by omega
  by_cases sr : (rN : Int) ≤ 1048576 - lN
  case neg =>
    go_wp2_with fail
    refine (szOpS_no ra rN rc (1048576 - lN) _ (by omega) (by omega) nr (by omega)).mono ?_
    rintro e w' ⟨rfl, rfl⟩
    go_wp2
    go_ret
    exact ⟨rfl, Below.refl _ _⟩
  go_wp2_with fail
  refine (szOpS_ok ra rN rc (1048576 - lN) _ (by omega) (by omega) nr sr).mono ?_
  rintro e w' ⟨rfl, rfl⟩
  have tr : ¬ (1048576 - lN - rN : Int) < 0 := by omega
  have qr : rN ≤ 1048576 := by omega
  go_wp2_with fail
  refine (toOpSC_any la lN lc lT _ Pl.out ql).mono ?_
  rintro e w1 ⟨sla, slc, rfl, ho, hb, hcp⟩
  have Csl := Lib.hid hcp
  clear hcp
  have HB1 := Lib.hid (thru0 (Below.refl w.heap.size w) hb)
  have z1 : w.heap.size ≤ w1.heap.size := hb.size
  have sl_1 : Hid (OVO w1 w.heap.size w1.heap.size sla lN lT) := Lib.hid ho
  clear ho hb
  go_wp2_with fail
  refine (toOpSC_any ra rN rc rT _ (Pr.out.below HB1.out) qr).mono ?_
  rintro e w2 ⟨sra, src, rfl, ho, hb, hcp⟩
  have Csr := Lib.hid hcp
  clear hcp
  have HB2 := Lib.hid (thru0 HB1.out hb)
  have z2 : w1.heap.size ≤ w2.heap.size := hb.size
  have sl_2 := Lib.hid (sl_1.out.below hb)
  have sr_2 : Hid (OVO w2 w1.heap.size w2.heap.size sra rN rT) := Lib.hid ho
  clear ho hb sl_1 HB1
  go_wp2_with fail
  refine (toBoolSC_any ta tN tc tT _ (Pt.out.below HB2.out) qt).mono ?_
  rintro e w3 ⟨sta, stc, rfl, ho, hb, hcp⟩
  have Cst := Lib.hid hcp
  clear hcp
  have HB3 := Lib.hid (thru0 HB2.out hb)
  have z3 : w2.heap.size ≤ w3.heap.size := hb.size
  have sl_3 := Lib.hid (sl_2.out.below hb)
  have sr_3 := Lib.hid (sr_2.out.below hb)
  have st_3 : Hid (BVO w3 w2.heap.size w3.heap.size sta tN tT) := Lib.hid ho
  clear ho hb sl_2 sr_2 HB2
  go_wp2_with fail
  refine (specMg_any sla lN slc lT sra rN src rT sta tN stc tT co K U _ sl_3.out.src sr_3.out.src st_3.out.src ql qr qt Csl.out Csr.out Cst.out HK.out).mono ?_
  rintro e w4 ⟨wa, wc, rfl, ho, hb⟩
  have HB4 := Lib.hid (thru0 HB3.out hb)
  have z4 : w3.heap.size ≤ w4.heap.size := hb.size
  have Rw_4 : Hid (OVO w4 w3.heap.size w4.heap.size wa K U) := Lib.hid ho
  clear ho hb HB3 sl_3 sr_3 st_3
  have HB5 := Lib.hid (HB4.out.alloc HB4.out.size (.cells #[.int .i64 co, .slice wa K wc] 26))
  have Rw_5 := Lib.hid (Rw_4.out.alloc (.cells #[.int .i64 co, .slice wa K wc] 26))
  have W_5 := Lib.hid (Blk.new_at (w := w4) (cs := #[.int .i64 co, .slice wa K wc]) (t := 26) w4.heap.size rfl)
  have z5 : w4.heap.size + 1 ≤ (w4.alloc (.cells #[.int .i64 co, .slice wa K wc] 26)).heap.size := by simp
  clear HB4 Rw_4
  go_wp2_with fail
  generalize w4.alloc (.cells #[.int .i64 co, .slice wa K wc] 26) = w5 at *
  generalize w4.heap.size = W0 at *
  refine (toOpSC_any la lN lc lT _ (Pl.out.below HB5.out) ql).mono ?_
  rintro e w6 ⟨xla, xlc, rfl, ho, hb, hcp⟩
  have Cxl := Lib.hid hcp
  clear hcp
  have HB6 := Lib.hid (thru0 HB5.out hb)
  have z6 : w5.heap.size ≤ w6.heap.size := hb.size
  have Rw_6 := Lib.hid (Rw_5.out.below hb)
  have W_6 := Lib.hid (W_5.out.below hb)
  have xl_6 : Hid (OVO w6 w5.heap.size w6.heap.size xla lN lT) := Lib.hid ho
  clear ho hb Rw_5 W_5 HB5
  go_wp2_with fail
  refine (toOpSC_any ra rN rc rT _ (Pr.out.below HB6.out) qr).mono ?_
  rintro e w7 ⟨xra, xrc, rfl, ho, hb, hcp⟩
  have Cxr := Lib.hid hcp
  clear hcp
  have HB7 := Lib.hid (thru0 HB6.out hb)
  have z7 : w6.heap.size ≤ w7.heap.size := hb.size
  have Rw_7 := Lib.hid (Rw_6.out.below hb)
  have W_7 := Lib.hid (W_6.out.below hb)
  have xl_7 := Lib.hid (xl_6.out.below hb)
  have xr_7 : Hid (OVO w7 w6.heap.size w7.heap.size xra rN rT) := Lib.hid ho
  clear ho hb Rw_6 W_6 xl_6 HB6
  go_wp2_with fail
  refine (toBoolSC_any ta tN tc tT _ (Pt.out.below HB7.out) qt).mono ?_
  rintro e w8 ⟨xta, xtc, rfl, ho, hb, hcp⟩
  have Cxt := Lib.hid hcp
  clear hcp
  have HB8 := Lib.hid (thru0 HB7.out hb)
  have z8 : w7.heap.size ≤ w8.heap.size := hb.size
  have Rw_8 := Lib.hid (Rw_7.out.below hb)
  have W_8 := Lib.hid (W_7.out.below hb)
  have xl_8 := Lib.hid (xl_7.out.below hb)
  have xr_8 := Lib.hid (xr_7.out.below hb)
  have xt_8 : Hid (BVO w8 w7.heap.size w8.heap.size xta tN tT) := Lib.hid ho
  clear ho hb Rw_7 W_7 xl_7 xr_7 HB7
  go_wp2_with fail
  refine (implMg_any xla lN xlc lT xra rN xrc rT xta tN xtc tT co K U _ xl_8.out.src xr_8.out.src xt_8.out.src ql qr qt Cxl.out Cxr.out Cxt.out HK.out).mono ?_
  rintro e w9 ⟨ga, gc, rfl, ho, hb⟩
  have HB9 := Lib.hid (thru0 HB8.out hb)
  have z9 : w8.heap.size ≤ w9.heap.size := hb.size
  have Rw_9 := Lib.hid (Rw_8.out.below hb)
  have W_9 := Lib.hid (W_8.out.below hb)
  have xl_9 := Lib.hid (xl_8.out.below hb)
  have xr_9 := Lib.hid (xr_8.out.below hb)
  have xt_9 := Lib.hid (xt_8.out.below hb)
  have Rg_9 : Hid (OVO w9 w8.heap.size w9.heap.size ga K U) := Lib.hid ho
  clear ho hb Rw_8 W_8 xl_8 xr_8 xt_8 HB8
  have d0 := W_9.out.at 0 rfl; have d1 := W_9.out.at 1 rfl; have ld := W_9.out.1
  have HB10 := Lib.hid (HB9.out.alloc HB9.out.size (.cells #[.int .i64 co, .slice ga K gc] 26))
  have Rw_10 := Lib.hid (Rw_9.out.alloc (.cells #[.int .i64 co, .slice ga K gc] 26))
  have W_10 := Lib.hid (W_9.out.alloc (.cells #[.int .i64 co, .slice ga K gc] 26))
  have xl_10 := Lib.hid (xl_9.out.alloc (.cells #[.int .i64 co, .slice ga K gc] 26))
  have xr_10 := Lib.hid (xr_9.out.alloc (.cells #[.int .i64 co, .slice ga K gc] 26))
  have xt_10 := Lib.hid (xt_9.out.alloc (.cells #[.int .i64 co, .slice ga K gc] 26))
  have Rg_10 := Lib.hid (Rg_9.out.alloc (.cells #[.int .i64 co, .slice ga K gc] 26))
  have Y_10 := Lib.hid (Blk.new_at (w := w9) (cs := #[.int .i64 co, .slice ga K gc]) (t := 26) w9.heap.size rfl)
  have z10 : w9.heap.size + 1 ≤ (w9.alloc (.cells #[.int .i64 co, .slice ga K gc] 26)).heap.size := by simp
  go_wp2_with fail
  clear d0 d1 ld HB9 Rw_9 W_9 xl_9 xr_9 xt_9 Rg_9
  generalize w9.alloc (.cells #[.int .i64 co, .slice ga K gc] 26) = w10 at *
  generalize hY0 : w9.heap.size = Y0 at *
  refine (eqOpsResult_same co ga wa K gc wc U U _ Rg_10.out.src Rw_10.out.src (fun _ _ => rfl) (by omega)).mono ?_
  rintro e w11 ⟨rfl, hb⟩
  have HB11 := Lib.hid (thru0 HB10.out hb)
  have z11 : w10.heap.size ≤ w11.heap.size := hb.size
  have Rw_11 := Lib.hid (Rw_10.out.below hb)
  have W_11 := Lib.hid (W_10.out.below hb)
  have xl_11 := Lib.hid (xl_10.out.below hb)
  have xr_11 := Lib.hid (xr_10.out.below hb)
  have xt_11 := Lib.hid (xt_10.out.below hb)
  have Rg_11 := Lib.hid (Rg_10.out.below hb)
  have Y_11 := Lib.hid (Y_10.out.below hb)
  clear hb Rw_10 W_10 xl_10 xr_10 xt_10 Rg_10 Y_10 HB10
  go_wp2_with fail
  refine (toOpSC_any la lN lc lT _ (Pl.out.below HB11.out) ql).mono ?_
  rintro e w12 ⟨ya, yc, rfl, ho, hb, -⟩
  have HB12 := Lib.hid (thru0 HB11.out hb)
  have z12 : w11.heap.size ≤ w12.heap.size := hb.size
  have Rw_12 := Lib.hid (Rw_11.out.below hb)
  have W_12 := Lib.hid (W_11.out.below hb)
  have xl_12 := Lib.hid (xl_11.out.below hb)
  have xr_12 := Lib.hid (xr_11.out.below hb)
  have xt_12 := Lib.hid (xt_11.out.below hb)
  have Rg_12 := Lib.hid (Rg_11.out.below hb)
  have Y_12 := Lib.hid (Y_11.out.below hb)
  have yy_12 : Hid (OVO w12 w11.heap.size w12.heap.size ya lN lT) := Lib.hid ho
  clear ho hb Rw_11 W_11 xl_11 xr_11 xt_11 Rg_11 Y_11 HB11
  go_wp2_with fail
  refine (eqOpS_same xla ya lN xlc yc lT lT _ xl_12.out.src yy_12.out.src (fun _ _ => rfl) ql).mono ?_
  rintro e w13 ⟨rfl, hb⟩
  have HB13 := Lib.hid (thru0 HB12.out hb)
  have z13 : w12.heap.size ≤ w13.heap.size := hb.size
  have Rw_13 := Lib.hid (Rw_12.out.below hb)
  have W_13 := Lib.hid (W_12.out.below hb)
  have xl_13 := Lib.hid (xl_12.out.below hb)
  have xr_13 := Lib.hid (xr_12.out.below hb)
  have xt_13 := Lib.hid (xt_12.out.below hb)
  have Rg_13 := Lib.hid (Rg_12.out.below hb)
  have Y_13 := Lib.hid (Y_12.out.below hb)
  clear hb Rw_12 W_12 xl_12 xr_12 xt_12 Rg_12 Y_12 HB12 yy_12
  go_wp2_with fail
  refine (toOpSC_any ra rN rc rT _ (Pr.out.below HB13.out) qr).mono ?_
  rintro e w14 ⟨ya, yc, rfl, ho, hb, -⟩
  have HB14 := Lib.hid (thru0 HB13.out hb)
  have z14 : w13.heap.size ≤ w14.heap.size := hb.size
  have Rw_14 := Lib.hid (Rw_13.out.below hb)
  have W_14 := Lib.hid (W_13.out.below hb)
  have xl_14 := Lib.hid (xl_13.out.below hb)
  have xr_14 := Lib.hid (xr_13.out.below hb)
  have xt_14 := Lib.hid (xt_13.out.below hb)
  have Rg_14 := Lib.hid (Rg_13.out.below hb)
  have Y_14 := Lib.hid (Y_13.out.below hb)
  have yy_14 : Hid (OVO w14 w13.heap.size w14.heap.size ya rN rT) := Lib.hid ho
  clear ho hb Rw_13 W_13 xl_13 xr_13 xt_13 Rg_13 Y_13 HB13
  go_wp2_with fail
  refine (eqOpS_same xra ya rN xrc yc rT rT _ xr_14.out.src yy_14.out.src (fun _ _ => rfl) qr).mono ?_
  rintro e w15 ⟨rfl, hb⟩
  have HB15 := Lib.hid (thru0 HB14.out hb)
  have z15 : w14.heap.size ≤ w15.heap.size := hb.size
  have Rw_15 := Lib.hid (Rw_14.out.below hb)
  have W_15 := Lib.hid (W_14.out.below hb)
  have xl_15 := Lib.hid (xl_14.out.below hb)
  have xr_15 := Lib.hid (xr_14.out.below hb)
  have xt_15 := Lib.hid (xt_14.out.below hb)
  have Rg_15 := Lib.hid (Rg_14.out.below hb)
  have Y_15 := Lib.hid (Y_14.out.below hb)
  clear hb Rw_14 W_14 xl_14 xr_14 xt_14 Rg_14 Y_14 HB14 yy_14
  go_wp2_with fail
  refine (toBoolSC_any ta tN tc tT _ (Pt.out.below HB15.out) qt).mono ?_
  rintro e w16 ⟨ya, yc, rfl, ho, hb, -⟩
  have HB16 := Lib.hid (thru0 HB15.out hb)
  have z16 : w15.heap.size ≤ w16.heap.size := hb.size
  have Rw_16 := Lib.hid (Rw_15.out.below hb)
  have W_16 := Lib.hid (W_15.out.below hb)
  have xl_16 := Lib.hid (xl_15.out.below hb)
  have xr_16 := Lib.hid (xr_15.out.below hb)
  have xt_16 := Lib.hid (xt_15.out.below hb)
  have Rg_16 := Lib.hid (Rg_15.out.below hb)
  have Y_16 := Lib.hid (Y_15.out.below hb)
  have yy_16 : Hid (BVO w16 w15.heap.size w16.heap.size ya tN tT) := Lib.hid ho
  clear ho hb Rw_15 W_15 xl_15 xr_15 xt_15 Rg_15 Y_15 HB15
  go_wp2_with fail
  refine (eqBoolS_same xta ya tN xtc yc tT tT _ xt_16.out.src yy_16.out.src (fun _ _ => rfl) qt).mono ?_
  rintro e w17 ⟨rfl, hb⟩
  have HB17 := Lib.hid (thru0 HB16.out hb)
  have z17 : w16.heap.size ≤ w17.heap.size := hb.size
  have Rw_17 := Lib.hid (Rw_16.out.below hb)
  have W_17 := Lib.hid (W_16.out.below hb)
  have xl_17 := Lib.hid (xl_16.out.below hb)
  have xr_17 := Lib.hid (xr_16.out.below hb)
  have xt_17 := Lib.hid (xt_16.out.below hb)
  have Rg_17 := Lib.hid (Rg_16.out.below hb)
  have Y_17 := Lib.hid (Y_16.out.below hb)
  clear hb Rw_16 W_16 xl_16 xr_16 xt_16 Rg_16 Y_16 HB16 yy_16
  go_wp2_with fail
  refine (markOpS_any xla (w5.heap.size) (w6.heap.size) lN xlc lT 1 _ xl_17.out (by omega) (by omega)).mono ?_
  rintro e w18 ⟨rfl, hm, hkp⟩
  have HB18 := Lib.hid (HB17.out.trans (hkp.below (by omega) HB17.out.size))
  have z18 : w17.heap.size ≤ w18.heap.size := hkp.size
  have Rw_18 := Lib.hid (Rw_17.out.keeps hkp (.inl (by omega)))
  have W_18 := Lib.hid (W_17.out.keeps hkp (.inl (by omega)))
  have xr_18 := Lib.hid (xr_17.out.keeps hkp (.inr (by omega)))
  have xt_18 := Lib.hid (xt_17.out.keeps hkp (.inr (by omega)))
  have Rg_18 := Lib.hid (Rg_17.out.keeps hkp (.inr (by omega)))
  have Y_18 := Lib.hid (Y_17.out.keeps hkp (.inr (by omega)))
  clear hm hkp Rw_17 W_17 xr_17 xt_17 Rg_17 Y_17 HB17 xl_17
  obtain ⟨k1, hk1⟩ : ∃ k, k = 1 + 7 * (lN : Int) := ⟨_, rfl⟩
  try rw [← hk1]
  have kp1 : 1 ≤ k1 := by omega
  have kq1 : k1 ≤ 7340033 := by omega
  clear hk1
  go_wp2_with fail
  refine (markOpS_any xra (w6.heap.size) (w7.heap.size) rN xrc rT k1 _ xr_18.out (by omega) (by omega)).mono ?_
  rintro e w19 ⟨rfl, hm, hkp⟩
  have HB19 := Lib.hid (HB18.out.trans (hkp.below (by omega) HB18.out.size))
  have z19 : w18.heap.size ≤ w19.heap.size := hkp.size
  have Rw_19 := Lib.hid (Rw_18.out.keeps hkp (.inl (by omega)))
  have W_19 := Lib.hid (W_18.out.keeps hkp (.inl (by omega)))
  have xt_19 := Lib.hid (xt_18.out.keeps hkp (.inr (by omega)))
  have Rg_19 := Lib.hid (Rg_18.out.keeps hkp (.inr (by omega)))
  have Y_19 := Lib.hid (Y_18.out.keeps hkp (.inr (by omega)))
  clear hm hkp Rw_18 W_18 xt_18 Rg_18 Y_18 HB18 xr_18
  obtain ⟨k2, hk2⟩ : ∃ k, k = k1 + 7 * (rN : Int) := ⟨_, rfl⟩
  try rw [← hk2]
  have kp2 : 1 ≤ k2 := by omega
  have kq2 : k2 ≤ 14680065 := by omega
  clear hk2
  go_wp2_with fail
  refine (markBoolS_any xta (w7.heap.size) (w8.heap.size) tN xtc tT k2 _ xt_19.out (by omega) (by omega)).mono ?_
  rintro e w20 ⟨rfl, hm, hkp⟩
  have HB20 := Lib.hid (HB19.out.trans (hkp.below (by omega) HB19.out.size))
  have z20 : w19.heap.size ≤ w20.heap.size := hkp.size
  have Rw_20 := Lib.hid (Rw_19.out.keeps hkp (.inl (by omega)))
  have W_20 := Lib.hid (W_19.out.keeps hkp (.inl (by omega)))
  have Rg_20 := Lib.hid (Rg_19.out.keeps hkp (.inr (by omega)))
  have Y_20 := Lib.hid (Y_19.out.keeps hkp (.inr (by omega)))
  clear hm hkp Rw_19 W_19 Rg_19 Y_19 HB19 xt_19
  obtain ⟨k3, hk3⟩ : ∃ k, k = k2 + 1 * (tN : Int) := ⟨_, rfl⟩
  try rw [← hk3]
  have kp3 : 1 ≤ k3 := by omega
  have kq3 : k3 ≤ 15728641 := by omega
  clear hk3
  have kn : ¬ k3 < 0 := by omega
  have d0 := W_20.out.at 0 rfl; have d1 := W_20.out.at 1 rfl; have ld := W_20.out.1
  have e0 := Y_20.out.at 0 rfl; have e1 := Y_20.out.at 1 rfl; have le := Y_20.out.1
  go_wp2_with fail
  refine (eqOpsResult_same co ga wa K gc wc U U _ Rg_20.out.src Rw_20.out.src (fun _ _ => rfl) (by omega)).mono ?_
  rintro e w21 ⟨rfl, hb⟩
  have HB21 := Lib.hid (thru0 HB20.out hb)
  have z21 : w20.heap.size ≤ w21.heap.size := hb.size
  have Rw_21 := Lib.hid (Rw_20.out.below hb)
  have W_21 := Lib.hid (W_20.out.below hb)
  have Rg_21 := Lib.hid (Rg_20.out.below hb)
  have Y_21 := Lib.hid (Y_20.out.below hb)
  clear d0 d1 e0 e1 ld le hb Rw_20 W_20 Rg_20 Y_20 HB20
  have e0 := Y_21.out.at 0 rfl; have e1 := Y_21.out.at 1 rfl; have le := Y_21.out.1
  go_wp2_with fail
  refine (markOpsResult_any co ga (w8.heap.size) (Y0) K gc U 1 _ Rg_21.out (by omega) (by omega) (by omega)).mono ?_
  rintro e w22 ⟨rfl, hm, hkp⟩
  have HB22 := Lib.hid (HB21.out.trans (hkp.below (by omega) HB21.out.size))
  have z22 : w21.heap.size ≤ w22.heap.size := hkp.size
  have Rw_22 := Lib.hid (Rw_21.out.keeps hkp (.inl (by omega)))
  have W_22 := Lib.hid (W_21.out.keeps hkp (.inl (by omega)))
  have Y_22 := Lib.hid (Y_21.out.keeps hkp (.inr (by omega)))
  have Rm_22 := Lib.hid hm
  clear hm e0 e1 le hkp Rw_21 W_21 Y_21 HB21 Rg_21
  obtain ⟨mm, hmm⟩ : ∃ mm, mm = 1 + 7 * (K : Int) := ⟨_, rfl⟩
  rw [← hmm]
  have hmm0 : ¬ mm < 0 := by omega
  have HMM := Lib.hid hmm
  clear hmm
  have e0 := Y_22.out.at 0 rfl; have e1 := Y_22.out.at 1 rfl; have le := Y_22.out.1
  go_wp2_with fail
  refine (heldOpsResult_any co ga K gc 1 _ Rm_22.out.src (by omega) (by omega)).mono ?_
  rintro e w23 ⟨rfl, hb⟩
  rw [← HMM.out]
  have HB23 := Lib.hid (thru0 HB22.out hb)
  have z23 : w22.heap.size ≤ w23.heap.size := hb.size
  have Rw_23 := Lib.hid (Rw_22.out.below hb)
  have W_23 := Lib.hid (W_22.out.below hb)
  have Y_23 := Lib.hid (Y_22.out.below hb)
  have Rm_23 := Lib.hid (Rm_22.out.below hb)
  clear e0 e1 le hb Rw_22 W_22 Y_22 Rm_22 HB22
  go_wp2_with fail
  refine (toOpSC_any la lN lc lT _ (Pl.out.below HB23.out) ql).mono ?_
  rintro e w24 ⟨vla, vlc, rfl, ho, hb, hcp⟩
  have Cvl := Lib.hid hcp
  clear hcp
  have HB24 := Lib.hid (thru0 HB23.out hb)
  have z24 : w23.heap.size ≤ w24.heap.size := hb.size
  have Rw_24 := Lib.hid (Rw_23.out.below hb)
  have W_24 := Lib.hid (W_23.out.below hb)
  have Y_24 := Lib.hid (Y_23.out.below hb)
  have Rm_24 := Lib.hid (Rm_23.out.below hb)
  have vl_24 : Hid (OVO w24 w23.heap.size w24.heap.size vla lN lT) := Lib.hid ho
  clear ho hb Rw_23 W_23 Y_23 Rm_23 HB23
  go_wp2_with fail
  refine (toOpSC_any ra rN rc rT _ (Pr.out.below HB24.out) qr).mono ?_
  rintro e w25 ⟨vra, vrc, rfl, ho, hb, hcp⟩
  have Cvr := Lib.hid hcp
  clear hcp
  have HB25 := Lib.hid (thru0 HB24.out hb)
  have z25 : w24.heap.size ≤ w25.heap.size := hb.size
  have Rw_25 := Lib.hid (Rw_24.out.below hb)
  have W_25 := Lib.hid (W_24.out.below hb)
  have Y_25 := Lib.hid (Y_24.out.below hb)
  have Rm_25 := Lib.hid (Rm_24.out.below hb)
  have vl_25 := Lib.hid (vl_24.out.below hb)
  have vr_25 : Hid (OVO w25 w24.heap.size w25.heap.size vra rN rT) := Lib.hid ho
  clear ho hb Rw_24 W_24 Y_24 Rm_24 vl_24 HB24
  go_wp2_with fail
  refine (toBoolSC_any ta tN tc tT _ (Pt.out.below HB25.out) qt).mono ?_
  rintro e w26 ⟨vta, vtc, rfl, ho, hb, hcp⟩
  have Cvt := Lib.hid hcp
  clear hcp
  have HB26 := Lib.hid (thru0 HB25.out hb)
  have z26 : w25.heap.size ≤ w26.heap.size := hb.size
  have Rw_26 := Lib.hid (Rw_25.out.below hb)
  have W_26 := Lib.hid (W_25.out.below hb)
  have Y_26 := Lib.hid (Y_25.out.below hb)
  have Rm_26 := Lib.hid (Rm_25.out.below hb)
  have vl_26 := Lib.hid (vl_25.out.below hb)
  have vr_26 := Lib.hid (vr_25.out.below hb)
  have vt_26 : Hid (BVO w26 w25.heap.size w26.heap.size vta tN tT) := Lib.hid ho
  clear ho hb Rw_25 W_25 Y_25 Rm_25 vl_25 vr_25 HB25
  go_wp2_with fail
  refine (implMg_any vla lN vlc lT vra rN vrc rT vta tN vtc tT co K U _ vl_26.out.src vr_26.out.src vt_26.out.src ql qr qt Cvl.out Cvr.out Cvt.out HK.out).mono ?_
  rintro e w27 ⟨ha, hc, rfl, ho, hb⟩
  have HB27 := Lib.hid (thru0 HB26.out hb)
  have z27 : w26.heap.size ≤ w27.heap.size := hb.size
  have Rw_27 := Lib.hid (Rw_26.out.below hb)
  have W_27 := Lib.hid (W_26.out.below hb)
  have Y_27 := Lib.hid (Y_26.out.below hb)
  have Rm_27 := Lib.hid (Rm_26.out.below hb)
  have Rh_27 : Hid (OVO w27 w26.heap.size w27.heap.size ha K U) := Lib.hid ho
  clear ho hb Rw_26 W_26 Y_26 Rm_26 HB26 vl_26 vr_26 vt_26
  have d0 := W_27.out.at 0 rfl; have d1 := W_27.out.at 1 rfl; have ld := W_27.out.1
  have HB28 := Lib.hid (HB27.out.alloc HB27.out.size (.cells #[.int .i64 co, .slice ha K hc] 26))
  have Rw_28 := Lib.hid (Rw_27.out.alloc (.cells #[.int .i64 co, .slice ha K hc] 26))
  have W_28 := Lib.hid (W_27.out.alloc (.cells #[.int .i64 co, .slice ha K hc] 26))
  have Y_28 := Lib.hid (Y_27.out.alloc (.cells #[.int .i64 co, .slice ha K hc] 26))
  have Rm_28 := Lib.hid (Rm_27.out.alloc (.cells #[.int .i64 co, .slice ha K hc] 26))
  have Rh_28 := Lib.hid (Rh_27.out.alloc (.cells #[.int .i64 co, .slice ha K hc] 26))
  have Hh_28 := Lib.hid (Blk.new_at (w := w27) (cs := #[.int .i64 co, .slice ha K hc]) (t := 26) w27.heap.size rfl)
  have z28 : w27.heap.size + 1 ≤ (w27.alloc (.cells #[.int .i64 co, .slice ha K hc] 26)).heap.size := by simp
  go_wp2_with fail
  clear d0 d1 ld Hh_28 HB27 Rw_27 W_27 Y_27 Rm_27 Rh_27
  generalize w27.alloc (.cells #[.int .i64 co, .slice ha K hc] 26) = w28 at *
  refine (eqOpsResult_same co ha wa K hc wc U U _ Rh_28.out.src Rw_28.out.src (fun _ _ => rfl) (by omega)).mono ?_
  rintro e w29 ⟨rfl, hb⟩
  have HB29 := Lib.hid (thru0 HB28.out hb)
  have z29 : w28.heap.size ≤ w29.heap.size := hb.size
  have Rw_29 := Lib.hid (Rw_28.out.below hb)
  have W_29 := Lib.hid (W_28.out.below hb)
  have Y_29 := Lib.hid (Y_28.out.below hb)
  have Rm_29 := Lib.hid (Rm_28.out.below hb)
  have Rh_29 := Lib.hid (Rh_28.out.below hb)
  clear hb Rw_28 W_28 Y_28 Rm_28 Rh_28 HB28
  have e0 := Y_29.out.at 0 rfl; have e1 := Y_29.out.at 1 rfl; have le := Y_29.out.1
  go_wp2_with fail
  refine (heldOpsResult_any co ga K gc 1 _ Rm_29.out.src (by omega) (by omega)).mono ?_
  rintro e w30 ⟨rfl, hb⟩
  rw [← HMM.out]
  have HB30 := Lib.hid (thru0 HB29.out hb)
  have z30 : w29.heap.size ≤ w30.heap.size := hb.size
  have Rw_30 := Lib.hid (Rw_29.out.below hb)
  have W_30 := Lib.hid (W_29.out.below hb)
  have Y_30 := Lib.hid (Y_29.out.below hb)
  have Rm_30 := Lib.hid (Rm_29.out.below hb)
  have Rh_30 := Lib.hid (Rh_29.out.below hb)
  clear e0 e1 le hb Rw_29 W_29 Y_29 Rm_29 Rh_29 HB29
  go_wp2
  go_ret
  exact ⟨rfl, HB30.out⟩
end Go.Proofs.Ytpmhbdiddcnhfaa

