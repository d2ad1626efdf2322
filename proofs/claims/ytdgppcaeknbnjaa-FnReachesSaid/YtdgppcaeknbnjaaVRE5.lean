/- Texts merged: U4 to X2. -/
import Derived.Test.YtdgppcaeknbnjaaVRE4
namespace Go.Proofs.Ytdgppcaeknbnjaa
open Go.RowKit Go.Maps
set_option linter.unusedVariables false

/-- What the law of what is reached has at hand. -/
structure LR (W w : World) (P P5 P6 P7 : Nat) (h ac bu : Int) (a : Option Addr) (n c : Nat) (f : Nat → Int) (ra : Option Addr) (l : List Int) (co : Int) (R : List Int) (ua : Option Addr) (uc : Nat) (G : List Int) (ga : Option Addr) (gc : Nat) (wv : Int) : Prop where
  bel : Below W.heap.size W w
  arn : Blk w P [.int .i64 h, .slice a n c, .int .i64 ac, .int .i64 bu]
  wrd : Src w a n f
  rts : Src w ra l.length (lf l)
  rb : Blk w P5 [.int .i64 co, .slice ua R.length uc]
  rl : Src w ua R.length (lf R)
  gb : Blk w P6 [.int .i64 co, .slice ga G.length gc]
  gl : Src w ga G.length (lf G)
  wb : Blk w P7 [.int .i64 co, .int .i64 wv]

section

variable {W w w' : World} {P P5 P6 P7 : Nat} {h ac bu : Int} {a : Option Addr} {n c : Nat} {f : Nat → Int} {ra : Option Addr} {l : List Int} {co : Int} {R : List Int} {ua : Option Addr} {uc : Nat} {G : List Int} {ga : Option Addr} {gc : Nat} {wv : Int}

theorem LR.below (d : LR W w P P5 P6 P7 h ac bu a n c f ra l co R ua uc G ga gc wv) (hb : Below w.heap.size w w') : LR W w' P P5 P6 P7 h ac bu a n c f ra l co R ua uc G ga gc wv :=
  ⟨d.bel.trans (hb.mono d.bel.size), d.arn.below hb, d.wrd.below hb, d.rts.below hb, d.rb.below hb, d.rl.below hb, d.gb.below hb, d.gl.below hb, d.wb.below hb⟩

theorem LR.drew (d : LR W w P P5 P6 P7 h ac bu a n c f ra l co R ua uc G ga gc wv) : LR W w.drew P P5 P6 P7 h ac bu a n c f ra l co R ua uc G ga gc wv := d.below (Below.refl _ _).drew

theorem LR.c7 (d : LR W w P P5 P6 P7 h ac bu a n c f ra l co R ua uc G ga gc wv) : w.cell? ⟨P, 0, none⟩ = some (.int .i64 h) ∧ w.cell? ⟨P, 1, none⟩ = some (.slice a n c) ∧ w.cell? ⟨P, 2, none⟩ = some (.int .i64 ac) ∧ w.cell? ⟨P, 3, none⟩ = some (.int .i64 bu) ∧ w.cell? ⟨P5, 0, none⟩ = some (.int .i64 co) ∧ w.cell? ⟨P6, 0, none⟩ = some (.int .i64 co) ∧ w.cell? ⟨P7, 0, none⟩ = some (.int .i64 co) ∧ w.cell? ⟨P7, 1, none⟩ = some (.int .i64 wv) :=
  ⟨d.arn.at 0 rfl, d.arn.at 1 rfl, d.arn.at 2 rfl, d.arn.at 3 rfl, d.rb.at 0 rfl, d.gb.at 0 rfl, d.wb.at 0 rfl, d.wb.at 1 rfl⟩

theorem LR.c12 (d : LR W w P P5 P6 P7 h ac bu a n c f ra l co R ua uc G ga gc wv) : w.cell? ⟨P, 0, none⟩ = some (.int .i64 h) ∧ w.cell? ⟨P, 1, none⟩ = some (.slice a n c) ∧ w.cell? ⟨P, 2, none⟩ = some (.int .i64 ac) ∧ w.cell? ⟨P, 3, none⟩ = some (.int .i64 bu) ∧ w.cell? ⟨P5, 1, none⟩ = some (.slice ua R.length uc) ∧ w.cell? ⟨P6, 1, none⟩ = some (.slice ga G.length gc) :=
  ⟨d.arn.at 0 rfl, d.arn.at 1 rfl, d.arn.at 2 rfl, d.arn.at 3 rfl, d.rb.at 1 rfl, d.gb.at 1 rfl⟩

end

theorem c32 {W w : World} {P P5 P6 P7 : Nat} {h ac bu : Int} {a : Option Addr} {n c : Nat} {f : Nat → Int} {ra : Option Addr} {l : List Int} {co : Int} {R : List Int} {ua : Option Addr} {uc : Nat} {G : List Int} {ga : Option Addr} {gc : Nat} {wv : Int} (d : LR W w P P5 P6 P7 h ac bu a n c f ra l co R ua uc G ga gc wv) {b : Nat} {v0 v1 v2 v3 v4 v5 u : Value} {p : Addr} (hx : Blk w b [v0, v1, v2, v3, v4, v5]) (hp : w.cell? p = some u) : w.cell? ⟨b, 1, none⟩ = some v1 ∧ w.cell? ⟨b, 2, none⟩ = some v2 ∧ w.cell? ⟨b, 3, none⟩ = some v3 ∧ w.cell? ⟨b, 4, none⟩ = some v4 ∧ w.cell? ⟨b, 5, none⟩ = some v5 ∧ w.cell? p = some u ∧ w.cell? ⟨P5, 1, none⟩ = some (.slice ua R.length uc) :=
  ⟨hx.at 1 rfl, hx.at 2 rfl, hx.at 3 rfl, hx.at 4 rfl, hx.at 5 rfl, hp, d.rb.at 1 rfl⟩

set_option maxRecDepth 100000 in
set_option maxHeartbeats 400000 in
theorem e3_far (ca : Option Addr) (k kc : Nat) (w : World) (hk : k ≤ maxLen) (h : 1048576 < k) : Calls Try.prog 3 #[.slice ca k kc] w (RetBool w true) := by
  go_enter Try.func3, Try.ntmps3
  go_wp2_with (go_at_call 11; refine (big_yes _ _ _ _ hk h).mono ?_; rintro e w' ⟨rfl, rfl⟩)
  go_ret
  exact ⟨rfl, Below.refl _ _⟩

set_option maxRecDepth 100000 in
set_option maxHeartbeats 6400000 in
theorem e3_near (ca : Option Addr) (k kc : Nat) (B : Nat → Int) (w : World) (hs : SrcB w w.heap.size ca k B) (hk : k ≤ 1048576) :
    Calls Try.prog 3 #[.slice ca k kc] w (RetBool w true) := by
  have SB := Lib.hid hs
  have hfc := ir_code; have hfl := ir_list; have hfo := or_list
  clear hs
  go_enter Try.func3, Try.ntmps3
  go_wp2_with fail
  refine (big_no _ _ _ _ hk).mono ?_
  rintro e w' ⟨rfl, rfl⟩
  go_wp2_with fail
  refine (drawRF_any' ca k kc B _ SB.out.now' hk).mono ?_
  rintro e w1 ⟨h, ac, bu, n, c, a, f, l, ra, rc, rfl, ho, hq, hb, hn, hnc, hcm, hl⟩
  have HB1 : Hid (Below w.heap.size w w1) := thru0 (Below.refl _ _) hb
  have SA1 := Lib.hid ho.src; have SR1 := Lib.hid hq.src
  clear hb SB ho hq
  obtain ⟨co, L, hask⟩ := isAsk_some h n f ac bu l
  have HASK := Lib.hid hask
  have hsm1 := (reach_small hask).1
  have hsm2 := (reach_small hask).2
  clear hask
  go_wp2_with fail
  refine (implRF_any h ac bu a n c f ra l rc co L _ (SA1.out.alloc _) hnc hcm (SR1.out.alloc _) HASK.out).mono ?_
  rintro e w2 ⟨ua, uc, rfl, ho, hb⟩
  have HB2 : Hid (Below w.heap.size w w2) := thru1 HB1.out hb
  have z2 : w1.heap.size + 1 ≤ w2.heap.size := by have := hb.size; simp at this; omega
  have SA2 := Lib.hid ((SA1.out.alloc _).below hb); have SR2 := Lib.hid ((SR1.out.alloc _).below hb)
  have A2 := Lib.hid ((Blk.new_at (w := w1) (cs := #[.int .i64 h, .slice a n c, .int .i64 ac, .int .i64 bu]) (t := 26) w1.heap.size rfl).below hb)
  have U2 := Lib.hid ho.src
  clear hb ho HB1 SA1 SR1
  have lA := A2.out.1; have cA0 := A2.out.at 0 rfl; have cA1 := A2.out.at 1 rfl; have cA2 := A2.out.at 2 rfl; have cA3 := A2.out.at 3 rfl
  go_wp2_with fail
  clear lA cA0 cA1 cA2 cA3
  refine (implGI_any h ac bu a n c f ra l rc co L _ (SA2.out.alloc _) hnc hcm (SR2.out.alloc _) HASK.out).mono ?_
  rintro e w3 ⟨ga, gc, rfl, ho, hb⟩
  have HB3 : Hid (Below w.heap.size w w3) := thru1 HB2.out hb
  have z3 : w2.heap.size + 1 ≤ w3.heap.size := by have := hb.size; simp at this; omega
  have SA3 := Lib.hid ((SA2.out.alloc _).below hb); have SR3 := Lib.hid ((SR2.out.alloc _).below hb); have A3 := Lib.hid ((A2.out.alloc _).below hb); have U3 := Lib.hid ((U2.out.alloc _).below hb)
  have B3 := Lib.hid ((Blk.new_at (w := w2) (cs := #[.int .i64 co, .slice ua (outR f L l co).length uc]) (t := 30) w2.heap.size rfl).below hb)
  have G3 := Lib.hid ho.src
  clear hb ho HB2 SA2 SR2 A2 U2
  have lA := A3.out.1; have cA0 := A3.out.at 0 rfl; have cA1 := A3.out.at 1 rfl; have cA2 := A3.out.at 2 rfl; have cA3 := A3.out.at 3 rfl
  go_wp2_with fail
  clear lA cA0 cA1 cA2 cA3
  refine (implLW_any h ac bu a n c f ra l rc co L _ (SA3.out.alloc _) hnc hcm (SR3.out.alloc _) HASK.out).mono ?_
  rintro e w4 ⟨rfl, hb⟩
  have HB4 : Hid (Below w.heap.size w w4) := thru1 HB3.out hb
  have z4 : w3.heap.size + 1 ≤ w4.heap.size := by have := hb.size; simp at this; omega
  have D4 : Hid (LR w (w4.alloc (.cells #[.int .i64 co, .int .i64 (outW f L l co)] 33)) w1.heap.size w2.heap.size w3.heap.size w4.heap.size h ac bu a n c f ra l co (outR f L l co) ua uc (outG f L l co) ga gc (outW f L l co)) := Lib.hid
    ⟨HB4.out.alloc HB4.out.size _, ((A3.out.alloc _).below hb).alloc _, ((SA3.out.alloc _).below hb).alloc _, ((SR3.out.alloc _).below hb).alloc _, ((B3.out.alloc _).below hb).alloc _, ((U3.out.alloc _).below hb).alloc _,
      ((Blk.new_at (w := w3) (cs := #[.int .i64 co, .slice ga (outG f L l co).length gc]) (t := 30) w3.heap.size rfl).below hb).alloc _, ((G3.out.alloc _).below hb).alloc _, Blk.new_at w4.heap.size rfl⟩
  clear hb HB3 SA3 SR3 A3 U3 B3 G3 HB4
  generalize hPa : w1.heap.size = P at *
  generalize hP5 : w2.heap.size = P5 at *
  generalize hP6 : w3.heap.size = P6 at *
  generalize hP7 : w4.heap.size = P7 at *
  obtain ⟨R, hR⟩ : ∃ R, outR f L l co = R := ⟨_, rfl⟩
  obtain ⟨G, hG⟩ : ∃ G, outG f L l co = G := ⟨_, rfl⟩
  obtain ⟨wv, hwv⟩ : ∃ wv, outW f L l co = wv := ⟨_, rfl⟩
  have HRR := Lib.hid hR; have HGG := Lib.hid hG; have HWV := Lib.hid hwv
  rw [hR, hG, hwv] at D4
  rw [hR] at hsm1
  rw [hG] at hsm2
  rw [hR, hG, hwv]
  clear hR hG hwv
  go_wp2_with fail
  generalize w4.alloc (.cells #[.int .i64 co, .int .i64 wv] 33) = w5 at *
  have D5 := Lib.hid D4.out.drew
  go_region_held3 (fun w' => w'.cell? ⟨P, 0, none⟩ = some (.int .i64 h) ∧ w'.cell? ⟨P, 1, none⟩ = some (.slice a n c) ∧ w'.cell? ⟨P, 2, none⟩ = some (.int .i64 ac) ∧ w'.cell? ⟨P, 3, none⟩ = some (.int .i64 bu) ∧ w'.cell? ⟨P5, 0, none⟩ = some (.int .i64 co) ∧ w'.cell? ⟨P6, 0, none⟩ = some (.int .i64 co) ∧ w'.cell? ⟨P7, 0, none⟩ = some (.int .i64 co) ∧ w'.cell? ⟨P7, 1, none⟩ = some (.int .i64 wv))
    (first | (with_reducible exact D4.out.c7) | (with_reducible exact D5.out.c7) | (with_reducible exact D6.out.c7) | (with_reducible exact D7.out.c7))
    (first | (go_at_call 16; refine (specRF_any h ac bu a n c f ra l rc co L _ D5.out.wrd hnc hcm D5.out.rts HASK.out).mono ?_; rintro e w6 ⟨xa, xc, rfl, _, hb⟩; rw [HRR.out]; have D6 := Lib.hid (D5.out.below hb); clear hb) | (go_at_call 17; refine (specLW_any h ac bu a n c f ra l rc co L _ D6.out.wrd hnc hcm D6.out.rts HASK.out).mono ?_; rintro e w7 ⟨rfl, hb⟩; rw [HWV.out]; have D7 := Lib.hid (D6.out.below hb); clear hb))
  by_cases hc0 : co = 0
  case neg =>
    have hd : (co != 0) = true := by simpa using hc0
    have cR := D7.out.rb.at 0 rfl
    clear hc0
    go_wp2
    go_ret
    exact ⟨rfl, D7.out.bel⟩
  subst hc0
  have HKZ := Lib.hid (isAsk_zero HASK.out)
  have HRI := Lib.hid (right_of HKZ.out.1 HKZ.out.2.1)
  have HND := Lib.hid (places_nodup (isOI_zero HKZ.out.2.1).2)
  have hRe : R = reachO f L l := HRR.out.symm
  have hGe : G = (placesO L).filter (fun p => decide (p ∉ R)) := by rw [hRe]; exact HGG.out.symm
  have hWe : wv = (sumW (wordsAt L) R : Int) := by rw [hRe]; exact HWV.out.symm
  have HSB := Lib.hid (show ∀ p ∈ R, p ∈ placesO L by rw [hRe]; exact reachO_sub HRI.out.points HRI.out.size HKZ.out.2.2.2)
  have HNR := Lib.hid (show R.Nodup by rw [hRe]; exact reachO_nodup f L l)
  have HRT := Lib.hid (show ∀ p ∈ l, p ∈ R by rw [hRe]; exact reachO_roots f L l)
  have HCL := Lib.hid (show ∀ p ∈ R, ∀ y ∈ succO f L p, y ∈ R by rw [hRe]; exact reachO_closed HRI.out.points HRI.out.size HKZ.out.2.2.2)
  have hlen : R.length + G.length = L.length := by rw [hGe, split_len HND.out HNR.out HSB.out]; simp [placesO]
  have hWs : sumW (wordsAt L) ((placesO L).filter (fun p => decide (p ∈ R))) = sumW (wordsAt L) R := sumW_perm (filt_perm HND.out HNR.out HSB.out)
  have HGe := Lib.hid hGe; have HWe := Lib.hid hWe; have HWs := Lib.hid hWs
  have hl60 := HKZ.out.2.2.1
  have HR0 : Hid (outR f L l 0 = R) := HRR
  clear hRe hGe hWe hWs HGG HWV
  have cR := D7.out.rb.at 0 rfl
  have cA0 := D7.out.arn.at 0 rfl; have cA1 := D7.out.arn.at 1 rfl; have cA2 := D7.out.arn.at 2 rfl; have cA3 := D7.out.arn.at 3 rfl
  go_wp2_with fail
  clear cR cA0 cA1 cA2 cA3
  refine (specOIG_any h ac bu a n c f 0 L _ D7.out.wrd hnc hcm HKZ.out.2.1).mono ?_
  rintro e w8 ⟨a8, c8, T, rfl, hgo, hT, hb, h81, h82⟩
  have D8 := Lib.hid (D7.out.below hb)
  have HSH := Lib.hid (shaped_of HKZ.out.1 HKZ.out.2.1 hgo.src hT)
  clear hb hgo hT h81 h82 D7
  have hw : IntKind.i64.wrap ((R.length : Int) + (G.length : Int)) = (L.length : Int) := by rw [IntWalk.i64_in _ (by omega)]; omega
  go_wp2_with fail
  have D9 := Lib.hid D8.out.drew
  have HSH9 := Lib.hid (HSH.out.below (Below.refl _ _).drew)
  go_region_held3 (fun w' => w'.cell? ⟨P, 0, none⟩ = some (.int .i64 h) ∧ w'.cell? ⟨P, 1, none⟩ = some (.slice a n c) ∧ w'.cell? ⟨P, 2, none⟩ = some (.int .i64 ac) ∧ w'.cell? ⟨P, 3, none⟩ = some (.int .i64 bu) ∧ w'.cell? ⟨P5, 1, none⟩ = some (.slice ua R.length uc) ∧ w'.cell? ⟨P6, 1, none⟩ = some (.slice ga G.length gc))
    (first | (with_reducible exact D8.out.c12) | (with_reducible exact D9.out.c12) | (with_reducible exact D10.out.c12) | (with_reducible exact D11.out.c12))
    (first | (go_at_call 16; refine (specRF_any h ac bu a n c f ra l rc 0 L _ D9.out.wrd hnc hcm D9.out.rts HASK.out).mono ?_; rintro e w10 ⟨xa, xc, rfl, hxo, hb⟩; rw [HR0.out] at hxo ⊢; have D10 := Lib.hid (D9.out.below hb); have HSH10 := Lib.hid (HSH9.out.below hb); have HX := Lib.hid hxo.src; clear hb hxo) | (go_at_call 19; refine (lwNums_same ua xa R.length uc xc (lf R) (lf R) _ D10.out.rl HX.out (by omega)).mono ?_; rintro e w11 ⟨hret, hb⟩; rw [eqB_yes (fun _ _ => rfl)] at hret; subst hret; have D11 := Lib.hid (D10.out.below hb); have HSH11 := Lib.hid (HSH10.out.below hb); clear hb))
  clear D8 D9 D10 HSH HSH9 HSH10 hw
  go_wp2
  go_loopw [9] (fun p wr => ∃ i : Nat, i ≤ l.length ∧ p = .int .i64 (i : Int) ∧ Hid (Below w11.heap.size w11 wr)) (fun p _ => l.length - (intOf p).toNat)
  case atStart => exact ⟨0, by omega, rfl, Below.refl _ _⟩
  case round =>
    obtain ⟨i, hi, rfl, HB_r⟩ := hrel
    by_cases hlt : i < l.length
    · have hlt' : (i : Int) < (l.length : Int) := by omega
      have hi0 : (0 : Int) ≤ (i : Int) := by omega
      have Dr := Lib.hid (D11.out.below HB_r.out)
      obtain ⟨xb, xo, rfl, hxb, hxc⟩ := src_some Dr.out.rts (by omega)
      have c0 := hxc i hlt
      have hd : decide (lf l i ∈ R) = true := decide_eq_true (HRT.out _ (lf_mem hlt))
      generalize lf l i = y at *
      have cR := Dr.out.rb.at 1 rfl
      have HQ := Lib.hid (fun q => Dr.out.rl.below (drewN_below wr q))
      have HQB := Lib.hid (fun q => below_drewN HB_r.out q)
      clear hxc
      go_wp2_with fail
      go_quiet (first | exact Calls.quiet_of_same (Calls.mono (lwHas_any ua R uc y _ (HQ.out _) (by omega)) fun _ _ hh => ⟨by rw [hh.1, hd], hh.2.symm⟩))
      clear c0 cR
      go_wp2
      go_roundw
      case rel => first | exact ⟨i + 1, by omega, by go_num, HQB.out _⟩ | ((repeat apply Exists.intro); exact ⟨⟨i + 1, by omega, by go_num, HQB.out _⟩, rfl⟩)
      case measure => simp [intOf]; omega
    · have hlt' : ¬ (i : Int) < (l.length : Int) := by omega
      have D12 := Lib.hid (D11.out.below HB_r.out)
      have HSH12 := Lib.hid (HSH11.out.below HB_r.out)
      clear D11 HSH11 HB_r
      generalize wr = w12 at *
      go_wp2
      go_loopw [10, 11] (fun p q wr => ∃ (i N : Nat), i ≤ L.length ∧ q = .int .i64 (i : Int) ∧ p = .int .i64 (N : Int) ∧ N ≤ i * 14 ∧ Hid (N = sumW (wordsAt L) (((placesO L).take i).filter (fun p => decide (p ∈ R)))) ∧ Hid (Below w12.heap.size w12 wr)) (fun _ q _ => L.length - (intOf q).toNat)
      case atStart => exact ⟨0, 0, by omega, rfl, rfl, by omega, Lib.hid rfl, Below.refl _ _⟩
      case round =>
        obtain ⟨i, N, hiL, rfl, rfl, hN, HN, HB_r⟩ := hrel
        have Dr := Lib.hid (D12.out.below HB_r.out)
        have HSHr := Lib.hid (HSH12.out.below HB_r.out)
        have hzr := HB_r.out.size
        have hL4 := HSHr.out.len
        by_cases hlt : i < L.length
        · have hlt' : (i : Int) < (L.length : Int) := by omega
          have hi0 : (0 : Int) ≤ (i : Int) := by omega
          obtain ⟨b, q, rfl, lb, hsix⟩ := gv_get HSHr.out.gv hlt
          have hfl := HSHr.out.src hlt
          obtain ⟨ho1, ho2, ho3⟩ := HSHr.out.obj hlt
          have hxL : L[i] ∈ L := List.getElem_mem hlt
          have hok := HRI.out.ok _ hxL
          have hwd := HSHr.out.word _ hxL
          have hpy : lf (placesO L) i = (T i).at_ := by
            have e1 : (T i).at_ = L[i].at_ := ho2.1
            rw [e1, lf_at (by simpa [placesO] using hlt)]; simp [placesO]
          have hFS := filt_snoc (l := placesO L) (q := fun p => decide (p ∈ R)) (i := i) (by simpa [placesO] using hlt)
          have hyp := HSHr.out.yes hlt
          rw [hpy] at hFS
          have hSC : ∀ k : Nat, k < L[i].s.toNat → L[i].m / P2 (k : Int) % 2 = 1 → ¬ f (L[i].at_.toNat + 2 + k) = 0 → (T i).at_ ∈ R → f (L[i].at_.toNat + 2 + k) - 1 ∈ R := fun k hk h1 h2 hin => HCL.out _ hin _ (by unfold succO; rw [ho1]; exact mem_ptrs.2 ⟨k, hk, h1, h2, rfl⟩)
          have hwA := wordsAt_some ho1
          have HSC := Lib.hid hSC; have HFS := Lib.hid hFS; have HWA := Lib.hid hwA; have HOK := Lib.hid hok; have HWD := Lib.hid hwd; have HSM := Lib.hid ho2; have HFL := Lib.hid hfl; have HYP := Lib.hid hyp
          clear ho1 ho2 ho3 hxL hok hwd hpy hFS hyp hSC hwA hfl
          generalize L[i] = x at *
          generalize T i = t at *
          obtain ⟨s0, s1, s2, s3, s4, s5⟩ := hsix
          have htx : t.s = x.s ∧ t.m = x.m ∧ t.o = x.o ∧ t.h = x.h := ⟨HSM.out.2.1, HSM.out.2.2.1, HSM.out.2.2.2.1, HSM.out.2.2.2.2.1⟩
          have htn : t.n = x.s.toNat := HSM.out.2.2.2.2.2.1
          have HTX := Lib.hid htx; have HTN := Lib.hid htn
          have hs12 : 0 ≤ t.s ∧ t.s ≤ 12 := by rw [htx.1]; exact HOK.out.1.1
          have hxs : x.s = t.s := htx.1.symm
          have HXS := Lib.hid hxs
          obtain ⟨hs1, hs2⟩ := hs12
          have Db := Lib.hid (Dr.out.below ((Below.refl _ _).alloc (Nat.le_refl _) (.cells #[.int .i64 t.at_, .int .i64 t.s, .int .i64 t.m, .int .i64 t.o, .int .i64 t.h, .slice t.a t.n t.c] 44)))
          have HBb := Lib.hid (HB_r.out.alloc hzr (.cells #[.int .i64 t.at_, .int .i64 t.s, .int .i64 t.m, .int .i64 t.o, .int .i64 t.h, .slice t.a t.n t.c] 44))
          have Xb := Lib.hid (Blk.new_at (w := wr) (cs := #[.int .i64 t.at_, .int .i64 t.s, .int .i64 t.m, .int .i64 t.o, .int .i64 t.h, .slice t.a t.n t.c]) (t := 44) wr.heap.size rfl)
          have HFb := Lib.hid (HFL.out.alloc (.cells #[.int .i64 t.at_, .int .i64 t.s, .int .i64 t.m, .int .i64 t.o, .int .i64 t.h, .slice t.a t.n t.c] 44))
          have cR := Db.out.rb.at 1 rfl; have cG := Db.out.gb.at 1 rfl
          clear htx htn hxs HFL
          go_wp2_with fail
          clear s0 s1 s2 s3 s4 s5
          have zb : w12.heap.size ≤ (wr.alloc (.cells #[.int .i64 t.at_, .int .i64 t.s, .int .i64 t.m, .int .i64 t.o, .int .i64 t.h, .slice t.a t.n t.c] 44)).heap.size := by simp; omega
          generalize wr.alloc (.cells #[.int .i64 t.at_, .int .i64 t.s, .int .i64 t.m, .int .i64 t.o, .int .i64 t.h, .slice t.a t.n t.c] 44) = wb at *
          have lX := Xb.out.1; have cX0 := Xb.out.at 0 rfl; have cX1 := Xb.out.at 1 rfl; have cX2 := Xb.out.at 2 rfl; have cX3 := Xb.out.at 3 rfl; have cX4 := Xb.out.at 4 rfl; have cX5 := Xb.out.at 5 rfl
          refine (lwHas_any ua R uc t.at_ _ Db.out.rl (by omega)).mono ?_
          rintro e w' ⟨rfl, rfl⟩
          by_cases hin : t.at_ ∈ R
          · have hd : decide (t.at_ ∈ R) = true := decide_eq_true hin
            have hg : decide (t.at_ ∈ G) = false := decide_eq_false (fun hm => by
              rw [HGe.out, List.mem_filter] at hm
              exact (of_decide_eq_true hm.2) hin)
            have HIN := Lib.hid hin
            have hNx : N + (2 + x.s.toNat) = sumW (wordsAt L) (((placesO L).take (i + 1)).filter (fun p => decide (p ∈ R))) := by
              rw [HFS.out, if_pos (decide_eq_true hin), sumW_snoc, HWA.out, ← HN.out]
            have HNX := Lib.hid hNx
            rw [hd]
            clear hin hNx hd
            go_wp2_with fail
            refine (lwHas_any ga G gc t.at_ _ Db.out.gl (by omega)).mono ?_
            rintro e w' ⟨rfl, rfl⟩
            rw [hg]
            have hwn : IntKind.i64.wrap ((N : Int) + t.s) = (N : Int) + t.s := IntWalk.i64_in _ (by omega)
            go_wp2
            clear lX cX0 cX1 cX2 cX3 cX4 cX5
            clear cR cG hg hwn
            obtain ⟨X0, hX0⟩ : ∃ X0, wr.heap.size = X0 := ⟨_, rfl⟩
            rw [hX0] at Xb ⊢
            go_loopw [14] (fun p wq => ∃ k : Nat, (k : Int) ≤ t.s ∧ p = .int .i64 (k : Int) ∧ Hid (Below wb.heap.size wb wq)) (fun p _ => t.s.toNat - (intOf p).toNat)
            case atStart => exact ⟨0, by omega, rfl, Below.refl _ _⟩
            case round =>
              obtain ⟨k, hks, rfl, HB_q⟩ := hrel
              have Dq := Lib.hid (Db.out.below HB_q.out)
              have Xq := Lib.hid (Xb.out.below HB_q.out)
              have cX1 := Xq.out.at 1 rfl
              by_cases hk : (k : Int) < t.s
              · have hk0 : (0 : Int) ≤ (k : Int) := by omega
                have hkx : k < x.s.toNat := by have := HXS.out; omega
                have hkn : (k : Int) < (t.n : Int) := by have := HTN.out; omega
                obtain ⟨tb, tf, hta, ltb, hck⟩ : ∃ tb tf, t.a = some ⟨tb, tf, none⟩ ∧ tb < wr.heap.size ∧ wr.cell? ⟨tb, tf + k, none⟩ = some (.int .i64 (t.f k)) := by
                  rcases HFb.out.below HB_q.out with h0 | ⟨tb, tf, h1, h2, h3⟩
                  · omega
                  · exact ⟨tb, tf, h1, h2, h3 k (by omega)⟩
                have hfe : t.f k = f (x.at_.toNat + 2 + k) := HSM.out.2.2.2.2.2.2 k (by have := HTN.out; omega)
                obtain ⟨hw1, hw2⟩ := HWD.out k hkx
                have hcl := HSC.out k hkx
                rw [← hfe] at hw1 hw2 hcl
                have hmm : x.m = t.m := HTX.out.2.1.symm
                rw [hmm] at hcl
                obtain ⟨y, hy⟩ : ∃ y, t.f k = y := ⟨_, rfl⟩
                rw [hy] at hw1 hw2 hcl hck
                have HCK := Lib.hid hcl
                have hwy : IntKind.i64.wrap (y - 1) = y - 1 := IntWalk.i64_in _ (by omega)
                have cf := hck
                have Dd := Lib.hid Dq.out.drew
                rw [hta] at Xq ⊢
                have Xd := Lib.hid Xq.out.drew
                have cd : wr.drew.cell? ⟨tb, tf + k, none⟩ = some (.int .i64 y) := by simpa using hck
                have ltd : tb < wr.drew.heap.size := by simpa using ltb
                have HBd := Lib.hid (HB_q.out.drew)
                have hokt : HOk t.s t.m t.o t.h := by rw [HTX.out.1, HTX.out.2.1, HTX.out.2.2.1, HTX.out.2.2.2]; exact HOK.out.1
                have hkI : (0 : Int) ≤ (k : Int) ∧ (k : Int) ≤ t.s - 1 := by omega
                clear hck hcl hfe hy hmm
                by_cases hd : t.m / P2 (k : Int) % 2 = 1
                · have HIP : Hid (IsIP t.s t.m t.o t.h (k : Int) true) := Lib.hid (.inl ⟨⟨hokt, hkI⟩, by rw [hd]; rfl⟩)
                  by_cases hy0 : y = 0
                  · have hy0' : (y != 0) = false := by simpa using hy0
                    clear hd hokt hkI hy0
                    go_wp2_with fail
                    refine wp_region_held_drew (S := (fun w' => w'.cell? ⟨X0, 1, none⟩ = some (.int .i64 t.s) ∧ w'.cell? ⟨X0, 2, none⟩ = some (.int .i64 t.m) ∧ w'.cell? ⟨X0, 3, none⟩ = some (.int .i64 t.o) ∧ w'.cell? ⟨X0, 4, none⟩ = some (.int .i64 t.h) ∧ w'.cell? ⟨X0, 5, none⟩ = some (.slice (some ⟨tb, tf, none⟩) t.n t.c) ∧ w'.cell? ⟨tb, tf + k, none⟩ = some (.int .i64 y) ∧ w'.cell? ⟨P5, 1, none⟩ = some (.slice ua R.length uc))) (by kernel_rfl) (by (try dsimp only); (first | (with_reducible exact c32 Dq.out Xq.out cf) | (with_reducible exact c32 Dd.out Xd.out cd) | (with_reducible exact c32 D2.out X2.out c2))) (fun hHeld => ?_)
                    refine wpAnyH_take (i := 0) (oi := ({ dst := some 129, op := Op.fieldAddr 44 (Operand.tmp 12) 1, type := 0, pos := "laws.go:282", after := #[], guard := none } : Oper)) (v := ?_) rfl (by kernel_rfl) (by kernel_rfl) (by kernel_rfl) (fun _ _ _ h => h) (Or.inl ⟨by rfl, ?_⟩) (by assumption) ?_
                    rotate_left
                    · intro w hSw; (try dsimp only at hSw); go_simp <;> with_reducible rfl
                    try simp only [Act.put, List.setIfInBounds_toArray, List.set_cons_zero, List.set_cons_succ]
                    refine wpAnyH_take (i := 1) (oi := ({ dst := some 130, op := Op.load 42 (Operand.tmp 129), type := 42, pos := "laws.go:282", after := #[{ on := 0, ground := Ground.data }], guard := none } : Oper)) (v := ?_) rfl (by kernel_rfl) (by kernel_rfl) (by kernel_rfl) (fun _ _ _ h => h) (Or.inl ⟨by rfl, ?_⟩) (by assumption) ?_
                    rotate_left
                    · intro w hSw; (try dsimp only at hSw); go_simp <;> with_reducible rfl
                    try simp only [Act.put, List.setIfInBounds_toArray, List.set_cons_zero, List.set_cons_succ]
                    refine wpAnyH_take (i := 2) (oi := ({ dst := some 131, op := Op.move (Operand.tmp 14), type := 2, pos := "laws.go:282", after := #[], guard := none } : Oper)) (v := ?_) rfl (by kernel_rfl) (by kernel_rfl) (by kernel_rfl) (fun _ _ _ h => h) (Or.inl ⟨by rfl, ?_⟩) (by assumption) ?_
                    rotate_left
                    · intro w hSw; (try dsimp only at hSw); go_simp <;> with_reducible rfl
                    try simp only [Act.put, List.setIfInBounds_toArray, List.set_cons_zero, List.set_cons_succ]
                    refine wpAnyH_ready (rs := [3]) (by kernel_rfl) (by simp) ?_
                    refine AllReadyH.cons (o := ({ dst := some 132, op := Op.call { callee := Callee.value (Operand.func 21), args := #[Operand.tmp 130, Operand.tmp 131], argTypes := #[42, 2] }, type := 4, pos := "laws.go:282", after := #[{ on := 1, ground := Ground.data }, { on := 2, ground := Ground.data }], guard := none } : Oper)) rfl (fun K hK => ?_) AllReadyH.nil
                    go_simp
                    (go_at_call 21; (refine (implIP_any t.s t.m t.o t.h (k : Int) true _ HIP.out).mono ?_; rintro e w3 ⟨rfl, hb⟩; have D2 := Lib.hid (Dd.out.below hb); have X2 := Lib.hid (Xd.out.below hb); have c2 := (hb.cell (p := ⟨tb, tf + k, none⟩) ltd).trans cd; have HB2 := Lib.hid (HBd.out.trans (hb.mono HBd.out.size)); clear hb))
                    clear hHeld
                    refine hK.out _ _ ?_ (fun hHeld => ?_)
                    · (try dsimp only); (first | (with_reducible exact c32 Dq.out Xq.out cf) | (with_reducible exact c32 Dd.out Xd.out cd) | (with_reducible exact c32 D2.out X2.out c2))
                    clear hK K
                    try simp only [Act.put, List.setIfInBounds_toArray, List.set_cons_zero, List.set_cons_succ]
                    refine wpAnyH_take (i := 4) (oi := ({ dst := some 133, op := Op.move (Operand.tmp 132), type := 4, pos := "laws.go:282", after := #[{ on := 3, ground := Ground.data }, { on := 3, ground := Ground.chain }], guard := none } : Oper)) (v := ?_) rfl (by kernel_rfl) (by kernel_rfl) (by kernel_rfl) (fun _ _ _ h => h) (Or.inl ⟨by rfl, ?_⟩) (by assumption) ?_
                    rotate_left
                    · intro w hSw; (try dsimp only at hSw); go_simp <;> with_reducible rfl
                    try simp only [Act.put, List.setIfInBounds_toArray, List.set_cons_zero, List.set_cons_succ]
                    refine wpAnyH_take (i := 5) (oi := ({ dst := some 134, op := Op.fieldAddr 44 (Operand.tmp 12) 2, type := 0, pos := "laws.go:282", after := #[{ on := 4, ground := Ground.guard }], guard := some (4, true) } : Oper)) (v := ?_) rfl (by kernel_rfl) (by kernel_rfl) (by kernel_rfl) (fun _ _ _ h => h) (Or.inl ⟨by rfl, ?_⟩) (by assumption) ?_
                    rotate_left
                    · intro w hSw; (try dsimp only at hSw); go_simp <;> with_reducible rfl
                    try simp only [Act.put, List.setIfInBounds_toArray, List.set_cons_zero, List.set_cons_succ]
                    refine wpAnyH_take (i := 6) (oi := ({ dst := some 135, op := Op.load 24 (Operand.tmp 134), type := 24, pos := "laws.go:282", after := #[{ on := 5, ground := Ground.data }, { on := 4, ground := Ground.guard }], guard := some (4, true) } : Oper)) (v := ?_) rfl (by kernel_rfl) (by kernel_rfl) (by kernel_rfl) (fun _ _ _ h => h) (Or.inl ⟨by rfl, ?_⟩) (by assumption) ?_
                    rotate_left
                    · intro w hSw; (try dsimp only at hSw); go_simp <;> with_reducible rfl
                    try simp only [Act.put, List.setIfInBounds_toArray, List.set_cons_zero, List.set_cons_succ]
                    refine wpAnyH_take (i := 7) (oi := ({ dst := some 136, op := Op.move (Operand.tmp 14), type := 2, pos := "laws.go:282", after := #[{ on := 4, ground := Ground.guard }], guard := some (4, true) } : Oper)) (v := ?_) rfl (by kernel_rfl) (by kernel_rfl) (by kernel_rfl) (fun _ _ _ h => h) (Or.inl ⟨by rfl, ?_⟩) (by assumption) ?_
                    rotate_left
                    · intro w hSw; (try dsimp only at hSw); go_simp <;> with_reducible rfl
                    try simp only [Act.put, List.setIfInBounds_toArray, List.set_cons_zero, List.set_cons_succ]
                    refine wpAnyH_take (i := 8) (oi := ({ dst := some 137, op := Op.indexAddr 24 (Operand.tmp 135) (Operand.tmp 136), type := 0, pos := "laws.go:282", after := #[{ on := 6, ground := Ground.data }, { on := 7, ground := Ground.data }, { on := 4, ground := Ground.guard }], guard := some (4, true) } : Oper)) (v := ?_) rfl (by kernel_rfl) (by kernel_rfl) (by kernel_rfl) (fun _ _ _ h => h) (Or.inl ⟨by rfl, ?_⟩) (by assumption) ?_
                    rotate_left
                    · intro w hSw; (try dsimp only at hSw); go_simp <;> with_reducible rfl
                    try simp only [Act.put, List.setIfInBounds_toArray, List.set_cons_zero, List.set_cons_succ]
                    refine wpAnyH_take (i := 9) (oi := ({ dst := some 138, op := Op.load 2 (Operand.tmp 137), type := 2, pos := "laws.go:282", after := #[{ on := 8, ground := Ground.data }, { on := 4, ground := Ground.guard }], guard := some (4, true) } : Oper)) (v := ?_) rfl (by kernel_rfl) (by kernel_rfl) (by kernel_rfl) (fun _ _ _ h => h) (Or.inl ⟨by rfl, ?_⟩) (by assumption) ?_
                    rotate_left
                    · intro w hSw; (try dsimp only at hSw); go_simp <;> with_reducible rfl
                    try simp only [Act.put, List.setIfInBounds_toArray, List.set_cons_zero, List.set_cons_succ]
                    refine wpAnyH_take (i := 10) (oi := ({ dst := some 139, op := Op.binOp BinOp.neq 2 (Operand.tmp 138) (Operand.const (Value.int IntKind.i64 0)) 2, type := 4, pos := "laws.go:282", after := #[{ on := 9, ground := Ground.data }, { on := 4, ground := Ground.guard }], guard := some (4, true) } : Oper)) (v := ?_) rfl (by kernel_rfl) (by kernel_rfl) (by kernel_rfl) (fun _ _ _ h => h) (Or.inl ⟨by rfl, ?_⟩) (by assumption) ?_
                    rotate_left
                    · intro w hSw; (try dsimp only at hSw); go_simp <;> with_reducible rfl
                    try simp only [Act.put, List.setIfInBounds_toArray, List.set_cons_zero, List.set_cons_succ]
                    refine wpAnyH_take (i := 11) (oi := ({ dst := some 140, op := Op.pick (Operand.tmp 133) (Operand.tmp 139) (Operand.const (Value.bool false)), type := 4, pos := "laws.go:282", after := #[{ on := 4, ground := Ground.data }, { on := 10, ground := Ground.data }], guard := none } : Oper)) (v := ?_) rfl (by kernel_rfl) (by kernel_rfl) (by kernel_rfl) (fun _ _ _ h => h) (Or.inl ⟨by rfl, ?_⟩) (by assumption) ?_
                    rotate_left
                    · intro w hSw; (try dsimp only at hSw); go_simp <;> with_reducible rfl
                    try simp only [Act.put, List.setIfInBounds_toArray, List.set_cons_zero, List.set_cons_succ]
                    refine wpAnyH_take (i := 12) (oi := ({ dst := some 141, op := Op.move (Operand.tmp 140), type := 4, pos := "laws.go:282", after := #[{ on := 11, ground := Ground.data }, { on := 4, ground := Ground.chain }], guard := none } : Oper)) (v := ?_) rfl (by kernel_rfl) (by kernel_rfl) (by kernel_rfl) (fun _ _ _ h => h) (Or.inl ⟨by rfl, ?_⟩) (by assumption) ?_
                    rotate_left
                    · intro w hSw; (try dsimp only at hSw); go_simp <;> with_reducible rfl
                    try simp only [Act.put, List.setIfInBounds_toArray, List.set_cons_zero, List.set_cons_succ]
                    refine wpAnyH_take (i := 13) (oi := ({ dst := some 142, op := Op.fieldAddr 30 (Operand.tmp 5) 1, type := 0, pos := "laws.go:282", after := #[{ on := 12, ground := Ground.guard }], guard := some (12, true) } : Oper)) (v := undef) rfl (by kernel_rfl) (by kernel_rfl) (by kernel_rfl) (fun _ _ _ h => h) (Or.inr ⟨by rfl, rfl⟩) (by assumption) ?_
                    try simp only [Act.put, List.setIfInBounds_toArray, List.set_cons_zero, List.set_cons_succ]
                    refine wpAnyH_take (i := 14) (oi := ({ dst := some 143, op := Op.load 24 (Operand.tmp 142), type := 24, pos := "laws.go:282", after := #[{ on := 13, ground := Ground.data }, { on := 12, ground := Ground.guard }], guard := some (12, true) } : Oper)) (v := undef) rfl (by kernel_rfl) (by kernel_rfl) (by kernel_rfl) (fun _ _ _ h => h) (Or.inr ⟨by rfl, rfl⟩) (by assumption) ?_
                    try simp only [Act.put, List.setIfInBounds_toArray, List.set_cons_zero, List.set_cons_succ]
                    refine wpAnyH_take (i := 15) (oi := ({ dst := some 144, op := Op.fieldAddr 44 (Operand.tmp 12) 2, type := 0, pos := "laws.go:282", after := #[{ on := 12, ground := Ground.guard }], guard := some (12, true) } : Oper)) (v := undef) rfl (by kernel_rfl) (by kernel_rfl) (by kernel_rfl) (fun _ _ _ h => h) (Or.inr ⟨by rfl, rfl⟩) (by assumption) ?_
                    try simp only [Act.put, List.setIfInBounds_toArray, List.set_cons_zero, List.set_cons_succ]
                    refine wpAnyH_take (i := 16) (oi := ({ dst := some 145, op := Op.load 24 (Operand.tmp 144), type := 24, pos := "laws.go:282", after := #[{ on := 15, ground := Ground.data }, { on := 12, ground := Ground.guard }], guard := some (12, true) } : Oper)) (v := undef) rfl (by kernel_rfl) (by kernel_rfl) (by kernel_rfl) (fun _ _ _ h => h) (Or.inr ⟨by rfl, rfl⟩) (by assumption) ?_
                    try simp only [Act.put, List.setIfInBounds_toArray, List.set_cons_zero, List.set_cons_succ]
                    refine wpAnyH_take (i := 17) (oi := ({ dst := some 146, op := Op.move (Operand.tmp 14), type := 2, pos := "laws.go:282", after := #[{ on := 12, ground := Ground.guard }], guard := some (12, true) } : Oper)) (v := undef) rfl (by kernel_rfl) (by kernel_rfl) (by kernel_rfl) (fun _ _ _ h => h) (Or.inr ⟨by rfl, rfl⟩) (by assumption) ?_
                    try simp only [Act.put, List.setIfInBounds_toArray, List.set_cons_zero, List.set_cons_succ]
                    refine wpAnyH_take (i := 18) (oi := ({ dst := some 147, op := Op.indexAddr 24 (Operand.tmp 145) (Operand.tmp 146), type := 0, pos := "laws.go:282", after := #[{ on := 16, ground := Ground.data }, { on := 17, ground := Ground.data }, { on := 12, ground := Ground.guard }], guard := some (12, true) } : Oper)) (v := undef) rfl (by kernel_rfl) (by kernel_rfl) (by kernel_rfl) (fun _ _ _ h => h) (Or.inr ⟨by rfl, rfl⟩) (by assumption) ?_
                    try simp only [Act.put, List.setIfInBounds_toArray, List.set_cons_zero, List.set_cons_succ]
                    refine wpAnyH_take (i := 19) (oi := ({ dst := some 148, op := Op.load 2 (Operand.tmp 147), type := 2, pos := "laws.go:282", after := #[{ on := 18, ground := Ground.data }, { on := 12, ground := Ground.guard }], guard := some (12, true) } : Oper)) (v := undef) rfl (by kernel_rfl) (by kernel_rfl) (by kernel_rfl) (fun _ _ _ h => h) (Or.inr ⟨by rfl, rfl⟩) (by assumption) ?_
                    try simp only [Act.put, List.setIfInBounds_toArray, List.set_cons_zero, List.set_cons_succ]
                    refine wpAnyH_take (i := 20) (oi := ({ dst := some 149, op := Op.binOp BinOp.sub 2 (Operand.tmp 148) (Operand.const (Value.int IntKind.i64 1)) 2, type := 2, pos := "laws.go:282", after := #[{ on := 19, ground := Ground.data }, { on := 12, ground := Ground.guard }], guard := some (12, true) } : Oper)) (v := undef) rfl (by kernel_rfl) (by kernel_rfl) (by kernel_rfl) (fun _ _ _ h => h) (Or.inr ⟨by rfl, rfl⟩) (by assumption) ?_
                    try simp only [Act.put, List.setIfInBounds_toArray, List.set_cons_zero, List.set_cons_succ]
                    refine wpAnyH_take (i := 21) (oi := ({ dst := some 150, op := Op.call { callee := Callee.value (Operand.func 20), args := #[Operand.tmp 143, Operand.tmp 149], argTypes := #[24, 2] }, type := 4, pos := "laws.go:282", after := #[{ on := 14, ground := Ground.data }, { on := 20, ground := Ground.data }, { on := 12, ground := Ground.chain }, { on := 12, ground := Ground.guard }], guard := some (12, true) } : Oper)) (v := undef) rfl (by kernel_rfl) (by kernel_rfl) (by kernel_rfl) (fun _ _ _ h => h) (Or.inr ⟨by rfl, rfl⟩) (by assumption) ?_
                    try simp only [Act.put, List.setIfInBounds_toArray, List.set_cons_zero, List.set_cons_succ]
                    refine wpAnyH_take (i := 22) (oi := ({ dst := some 151, op := Op.unOp UnOp.not 4 (Operand.tmp 150), type := 4, pos := "laws.go:282", after := #[{ on := 21, ground := Ground.data }, { on := 12, ground := Ground.guard }], guard := some (12, true) } : Oper)) (v := undef) rfl (by kernel_rfl) (by kernel_rfl) (by kernel_rfl) (fun _ _ _ h => h) (Or.inr ⟨by rfl, rfl⟩) (by assumption) ?_
                    try simp only [Act.put, List.setIfInBounds_toArray, List.set_cons_zero, List.set_cons_succ]
                    refine wpAnyH_take (i := 23) (oi := ({ dst := some 152, op := Op.pick (Operand.tmp 141) (Operand.tmp 151) (Operand.const (Value.bool false)), type := 4, pos := "laws.go:282", after := #[{ on := 12, ground := Ground.data }, { on := 22, ground := Ground.data }], guard := none } : Oper)) (v := ?_) rfl (by kernel_rfl) (by kernel_rfl) (by kernel_rfl) (fun _ _ _ h => h) (Or.inl ⟨by rfl, ?_⟩) (by assumption) ?_
                    rotate_left
                    · intro w hSw; (try dsimp only at hSw); go_simp <;> with_reducible rfl
                    try simp only [Act.put, List.setIfInBounds_toArray, List.set_cons_zero, List.set_cons_succ]
                    refine wpAnyH_done (by kernel_rfl) ?_ _
                    clear c2 cf cd
                    go_wp2
                    go_roundw
                    case rel => first | exact ⟨k + 1, by omega, by go_num, HB2⟩ | ((repeat apply Exists.intro); exact ⟨⟨k + 1, by omega, by go_num, HB2⟩, rfl⟩)
                    case measure => simp [intOf]; omega
                  · have hyR : decide (y - 1 ∈ R) = true := decide_eq_true (HCK.out hd hy0 HIN.out)
                    have hy0' : (y != 0) = true := by simpa using hy0
                    clear hd hokt hkI hy0
                    go_wp2_with fail
                    go_region_held3 (fun w' => w'.cell? ⟨X0, 1, none⟩ = some (.int .i64 t.s) ∧ w'.cell? ⟨X0, 2, none⟩ = some (.int .i64 t.m) ∧ w'.cell? ⟨X0, 3, none⟩ = some (.int .i64 t.o) ∧ w'.cell? ⟨X0, 4, none⟩ = some (.int .i64 t.h) ∧ w'.cell? ⟨X0, 5, none⟩ = some (.slice (some ⟨tb, tf, none⟩) t.n t.c) ∧ w'.cell? ⟨tb, tf + k, none⟩ = some (.int .i64 y) ∧ w'.cell? ⟨P5, 1, none⟩ = some (.slice ua R.length uc))
                      (first | (with_reducible exact c32 Dq.out Xq.out cf) | (with_reducible exact c32 Dd.out Xd.out cd) | (with_reducible exact c32 D2.out X2.out c2))
                      (first | (go_at_call 21; (refine (implIP_any t.s t.m t.o t.h (k : Int) true _ HIP.out).mono ?_; rintro e w3 ⟨rfl, hb⟩; have D2 := Lib.hid (Dd.out.below hb); have X2 := Lib.hid (Xd.out.below hb); have c2 := (hb.cell (p := ⟨tb, tf + k, none⟩) ltd).trans cd; have HB2 := Lib.hid (HBd.out.trans (hb.mono HBd.out.size)); clear hb)) | (go_at_call 20; refine (lwHas_any ua R uc (y - 1) _ D2.out.rl (by omega)).mono ?_; rintro e w' ⟨rfl, rfl⟩; rw [hyR]))
                    clear c2 cf cd
                    go_wp2
                    go_roundw
                    case rel => first | exact ⟨k + 1, by omega, by go_num, HB2⟩ | ((repeat apply Exists.intro); exact ⟨⟨k + 1, by omega, by go_num, HB2⟩, rfl⟩)
                    case measure => simp [intOf]; omega
                · have HIP : Hid (IsIP t.s t.m t.o t.h (k : Int) false) := Lib.hid (.inl ⟨⟨hokt, hkI⟩, by symm; simpa using hd⟩)
                  clear hd hokt hkI
                  go_wp2_with fail
                  refine wp_region_held_drew (S := (fun w' => w'.cell? ⟨X0, 1, none⟩ = some (.int .i64 t.s) ∧ w'.cell? ⟨X0, 2, none⟩ = some (.int .i64 t.m) ∧ w'.cell? ⟨X0, 3, none⟩ = some (.int .i64 t.o) ∧ w'.cell? ⟨X0, 4, none⟩ = some (.int .i64 t.h) ∧ w'.cell? ⟨X0, 5, none⟩ = some (.slice (some ⟨tb, tf, none⟩) t.n t.c) ∧ w'.cell? ⟨tb, tf + k, none⟩ = some (.int .i64 y) ∧ w'.cell? ⟨P5, 1, none⟩ = some (.slice ua R.length uc))) (by kernel_rfl) (by (try dsimp only); (first | (with_reducible exact c32 Dq.out Xq.out cf) | (with_reducible exact c32 Dd.out Xd.out cd) | (with_reducible exact c32 D2.out X2.out c2))) (fun hHeld => ?_)
                  refine wpAnyH_take (i := 0) (oi := ({ dst := some 129, op := Op.fieldAddr 44 (Operand.tmp 12) 1, type := 0, pos := "laws.go:282", after := #[], guard := none } : Oper)) (v := ?_) rfl (by kernel_rfl) (by kernel_rfl) (by kernel_rfl) (fun _ _ _ h => h) (Or.inl ⟨by rfl, ?_⟩) (by assumption) ?_
                  rotate_left
                  · intro w hSw; (try dsimp only at hSw); go_simp <;> with_reducible rfl
                  try simp only [Act.put, List.setIfInBounds_toArray, List.set_cons_zero, List.set_cons_succ]
                  refine wpAnyH_take (i := 1) (oi := ({ dst := some 130, op := Op.load 42 (Operand.tmp 129), type := 42, pos := "laws.go:282", after := #[{ on := 0, ground := Ground.data }], guard := none } : Oper)) (v := ?_) rfl (by kernel_rfl) (by kernel_rfl) (by kernel_rfl) (fun _ _ _ h => h) (Or.inl ⟨by rfl, ?_⟩) (by assumption) ?_
                  rotate_left
                  · intro w hSw; (try dsimp only at hSw); go_simp <;> with_reducible rfl
                  try simp only [Act.put, List.setIfInBounds_toArray, List.set_cons_zero, List.set_cons_succ]
                  refine wpAnyH_take (i := 2) (oi := ({ dst := some 131, op := Op.move (Operand.tmp 14), type := 2, pos := "laws.go:282", after := #[], guard := none } : Oper)) (v := ?_) rfl (by kernel_rfl) (by kernel_rfl) (by kernel_rfl) (fun _ _ _ h => h) (Or.inl ⟨by rfl, ?_⟩) (by assumption) ?_
                  rotate_left
                  · intro w hSw; (try dsimp only at hSw); go_simp <;> with_reducible rfl
                  try simp only [Act.put, List.setIfInBounds_toArray, List.set_cons_zero, List.set_cons_succ]
                  refine wpAnyH_ready (rs := [3]) (by kernel_rfl) (by simp) ?_
                  refine AllReadyH.cons (o := ({ dst := some 132, op := Op.call { callee := Callee.value (Operand.func 21), args := #[Operand.tmp 130, Operand.tmp 131], argTypes := #[42, 2] }, type := 4, pos := "laws.go:282", after := #[{ on := 1, ground := Ground.data }, { on := 2, ground := Ground.data }], guard := none } : Oper)) rfl (fun K hK => ?_) AllReadyH.nil
                  go_simp
                  (go_at_call 21; (refine (implIP_any t.s t.m t.o t.h (k : Int) false _ HIP.out).mono ?_; rintro e w3 ⟨rfl, hb⟩; have D2 := Lib.hid (Dd.out.below hb); have X2 := Lib.hid (Xd.out.below hb); have c2 := (hb.cell (p := ⟨tb, tf + k, none⟩) ltd).trans cd; have HB2 := Lib.hid (HBd.out.trans (hb.mono HBd.out.size)); clear hb))
                  clear hHeld
                  refine hK.out _ _ ?_ (fun hHeld => ?_)
                  · (try dsimp only); (first | (with_reducible exact c32 Dq.out Xq.out cf) | (with_reducible exact c32 Dd.out Xd.out cd) | (with_reducible exact c32 D2.out X2.out c2))
                  clear hK K
                  try simp only [Act.put, List.setIfInBounds_toArray, List.set_cons_zero, List.set_cons_succ]
                  refine wpAnyH_take (i := 4) (oi := ({ dst := some 133, op := Op.move (Operand.tmp 132), type := 4, pos := "laws.go:282", after := #[{ on := 3, ground := Ground.data }, { on := 3, ground := Ground.chain }], guard := none } : Oper)) (v := ?_) rfl (by kernel_rfl) (by kernel_rfl) (by kernel_rfl) (fun _ _ _ h => h) (Or.inl ⟨by rfl, ?_⟩) (by assumption) ?_
                  rotate_left
                  · intro w hSw; (try dsimp only at hSw); go_simp <;> with_reducible rfl
                  try simp only [Act.put, List.setIfInBounds_toArray, List.set_cons_zero, List.set_cons_succ]
                  refine wpAnyH_take (i := 5) (oi := ({ dst := some 134, op := Op.fieldAddr 44 (Operand.tmp 12) 2, type := 0, pos := "laws.go:282", after := #[{ on := 4, ground := Ground.guard }], guard := some (4, true) } : Oper)) (v := undef) rfl (by kernel_rfl) (by kernel_rfl) (by kernel_rfl) (fun _ _ _ h => h) (Or.inr ⟨by rfl, rfl⟩) (by assumption) ?_
                  try simp only [Act.put, List.setIfInBounds_toArray, List.set_cons_zero, List.set_cons_succ]
                  refine wpAnyH_take (i := 6) (oi := ({ dst := some 135, op := Op.load 24 (Operand.tmp 134), type := 24, pos := "laws.go:282", after := #[{ on := 5, ground := Ground.data }, { on := 4, ground := Ground.guard }], guard := some (4, true) } : Oper)) (v := undef) rfl (by kernel_rfl) (by kernel_rfl) (by kernel_rfl) (fun _ _ _ h => h) (Or.inr ⟨by rfl, rfl⟩) (by assumption) ?_
                  try simp only [Act.put, List.setIfInBounds_toArray, List.set_cons_zero, List.set_cons_succ]
                  refine wpAnyH_take (i := 7) (oi := ({ dst := some 136, op := Op.move (Operand.tmp 14), type := 2, pos := "laws.go:282", after := #[{ on := 4, ground := Ground.guard }], guard := some (4, true) } : Oper)) (v := undef) rfl (by kernel_rfl) (by kernel_rfl) (by kernel_rfl) (fun _ _ _ h => h) (Or.inr ⟨by rfl, rfl⟩) (by assumption) ?_
                  try simp only [Act.put, List.setIfInBounds_toArray, List.set_cons_zero, List.set_cons_succ]
                  refine wpAnyH_take (i := 8) (oi := ({ dst := some 137, op := Op.indexAddr 24 (Operand.tmp 135) (Operand.tmp 136), type := 0, pos := "laws.go:282", after := #[{ on := 6, ground := Ground.data }, { on := 7, ground := Ground.data }, { on := 4, ground := Ground.guard }], guard := some (4, true) } : Oper)) (v := undef) rfl (by kernel_rfl) (by kernel_rfl) (by kernel_rfl) (fun _ _ _ h => h) (Or.inr ⟨by rfl, rfl⟩) (by assumption) ?_
                  try simp only [Act.put, List.setIfInBounds_toArray, List.set_cons_zero, List.set_cons_succ]
                  refine wpAnyH_take (i := 9) (oi := ({ dst := some 138, op := Op.load 2 (Operand.tmp 137), type := 2, pos := "laws.go:282", after := #[{ on := 8, ground := Ground.data }, { on := 4, ground := Ground.guard }], guard := some (4, true) } : Oper)) (v := undef) rfl (by kernel_rfl) (by kernel_rfl) (by kernel_rfl) (fun _ _ _ h => h) (Or.inr ⟨by rfl, rfl⟩) (by assumption) ?_
                  try simp only [Act.put, List.setIfInBounds_toArray, List.set_cons_zero, List.set_cons_succ]
                  refine wpAnyH_take (i := 10) (oi := ({ dst := some 139, op := Op.binOp BinOp.neq 2 (Operand.tmp 138) (Operand.const (Value.int IntKind.i64 0)) 2, type := 4, pos := "laws.go:282", after := #[{ on := 9, ground := Ground.data }, { on := 4, ground := Ground.guard }], guard := some (4, true) } : Oper)) (v := undef) rfl (by kernel_rfl) (by kernel_rfl) (by kernel_rfl) (fun _ _ _ h => h) (Or.inr ⟨by rfl, rfl⟩) (by assumption) ?_
                  try simp only [Act.put, List.setIfInBounds_toArray, List.set_cons_zero, List.set_cons_succ]
                  refine wpAnyH_take (i := 11) (oi := ({ dst := some 140, op := Op.pick (Operand.tmp 133) (Operand.tmp 139) (Operand.const (Value.bool false)), type := 4, pos := "laws.go:282", after := #[{ on := 4, ground := Ground.data }, { on := 10, ground := Ground.data }], guard := none } : Oper)) (v := ?_) rfl (by kernel_rfl) (by kernel_rfl) (by kernel_rfl) (fun _ _ _ h => h) (Or.inl ⟨by rfl, ?_⟩) (by assumption) ?_
                  rotate_left
                  · intro w hSw; (try dsimp only at hSw); go_simp <;> with_reducible rfl
                  try simp only [Act.put, List.setIfInBounds_toArray, List.set_cons_zero, List.set_cons_succ]
                  refine wpAnyH_take (i := 12) (oi := ({ dst := some 141, op := Op.move (Operand.tmp 140), type := 4, pos := "laws.go:282", after := #[{ on := 11, ground := Ground.data }, { on := 4, ground := Ground.chain }], guard := none } : Oper)) (v := ?_) rfl (by kernel_rfl) (by kernel_rfl) (by kernel_rfl) (fun _ _ _ h => h) (Or.inl ⟨by rfl, ?_⟩) (by assumption) ?_
                  rotate_left
                  · intro w hSw; (try dsimp only at hSw); go_simp <;> with_reducible rfl
                  try simp only [Act.put, List.setIfInBounds_toArray, List.set_cons_zero, List.set_cons_succ]
                  refine wpAnyH_take (i := 13) (oi := ({ dst := some 142, op := Op.fieldAddr 30 (Operand.tmp 5) 1, type := 0, pos := "laws.go:282", after := #[{ on := 12, ground := Ground.guard }], guard := some (12, true) } : Oper)) (v := undef) rfl (by kernel_rfl) (by kernel_rfl) (by kernel_rfl) (fun _ _ _ h => h) (Or.inr ⟨by rfl, rfl⟩) (by assumption) ?_
                  try simp only [Act.put, List.setIfInBounds_toArray, List.set_cons_zero, List.set_cons_succ]
                  refine wpAnyH_take (i := 14) (oi := ({ dst := some 143, op := Op.load 24 (Operand.tmp 142), type := 24, pos := "laws.go:282", after := #[{ on := 13, ground := Ground.data }, { on := 12, ground := Ground.guard }], guard := some (12, true) } : Oper)) (v := undef) rfl (by kernel_rfl) (by kernel_rfl) (by kernel_rfl) (fun _ _ _ h => h) (Or.inr ⟨by rfl, rfl⟩) (by assumption) ?_
                  try simp only [Act.put, List.setIfInBounds_toArray, List.set_cons_zero, List.set_cons_succ]
                  refine wpAnyH_take (i := 15) (oi := ({ dst := some 144, op := Op.fieldAddr 44 (Operand.tmp 12) 2, type := 0, pos := "laws.go:282", after := #[{ on := 12, ground := Ground.guard }], guard := some (12, true) } : Oper)) (v := undef) rfl (by kernel_rfl) (by kernel_rfl) (by kernel_rfl) (fun _ _ _ h => h) (Or.inr ⟨by rfl, rfl⟩) (by assumption) ?_
                  try simp only [Act.put, List.setIfInBounds_toArray, List.set_cons_zero, List.set_cons_succ]
                  refine wpAnyH_take (i := 16) (oi := ({ dst := some 145, op := Op.load 24 (Operand.tmp 144), type := 24, pos := "laws.go:282", after := #[{ on := 15, ground := Ground.data }, { on := 12, ground := Ground.guard }], guard := some (12, true) } : Oper)) (v := undef) rfl (by kernel_rfl) (by kernel_rfl) (by kernel_rfl) (fun _ _ _ h => h) (Or.inr ⟨by rfl, rfl⟩) (by assumption) ?_
                  try simp only [Act.put, List.setIfInBounds_toArray, List.set_cons_zero, List.set_cons_succ]
                  refine wpAnyH_take (i := 17) (oi := ({ dst := some 146, op := Op.move (Operand.tmp 14), type := 2, pos := "laws.go:282", after := #[{ on := 12, ground := Ground.guard }], guard := some (12, true) } : Oper)) (v := undef) rfl (by kernel_rfl) (by kernel_rfl) (by kernel_rfl) (fun _ _ _ h => h) (Or.inr ⟨by rfl, rfl⟩) (by assumption) ?_
                  try simp only [Act.put, List.setIfInBounds_toArray, List.set_cons_zero, List.set_cons_succ]
                  refine wpAnyH_take (i := 18) (oi := ({ dst := some 147, op := Op.indexAddr 24 (Operand.tmp 145) (Operand.tmp 146), type := 0, pos := "laws.go:282", after := #[{ on := 16, ground := Ground.data }, { on := 17, ground := Ground.data }, { on := 12, ground := Ground.guard }], guard := some (12, true) } : Oper)) (v := undef) rfl (by kernel_rfl) (by kernel_rfl) (by kernel_rfl) (fun _ _ _ h => h) (Or.inr ⟨by rfl, rfl⟩) (by assumption) ?_
                  try simp only [Act.put, List.setIfInBounds_toArray, List.set_cons_zero, List.set_cons_succ]
                  refine wpAnyH_take (i := 19) (oi := ({ dst := some 148, op := Op.load 2 (Operand.tmp 147), type := 2, pos := "laws.go:282", after := #[{ on := 18, ground := Ground.data }, { on := 12, ground := Ground.guard }], guard := some (12, true) } : Oper)) (v := undef) rfl (by kernel_rfl) (by kernel_rfl) (by kernel_rfl) (fun _ _ _ h => h) (Or.inr ⟨by rfl, rfl⟩) (by assumption) ?_
                  try simp only [Act.put, List.setIfInBounds_toArray, List.set_cons_zero, List.set_cons_succ]
                  refine wpAnyH_take (i := 20) (oi := ({ dst := some 149, op := Op.binOp BinOp.sub 2 (Operand.tmp 148) (Operand.const (Value.int IntKind.i64 1)) 2, type := 2, pos := "laws.go:282", after := #[{ on := 19, ground := Ground.data }, { on := 12, ground := Ground.guard }], guard := some (12, true) } : Oper)) (v := undef) rfl (by kernel_rfl) (by kernel_rfl) (by kernel_rfl) (fun _ _ _ h => h) (Or.inr ⟨by rfl, rfl⟩) (by assumption) ?_
                  try simp only [Act.put, List.setIfInBounds_toArray, List.set_cons_zero, List.set_cons_succ]
                  refine wpAnyH_take (i := 21) (oi := ({ dst := some 150, op := Op.call { callee := Callee.value (Operand.func 20), args := #[Operand.tmp 143, Operand.tmp 149], argTypes := #[24, 2] }, type := 4, pos := "laws.go:282", after := #[{ on := 14, ground := Ground.data }, { on := 20, ground := Ground.data }, { on := 12, ground := Ground.chain }, { on := 12, ground := Ground.guard }], guard := some (12, true) } : Oper)) (v := undef) rfl (by kernel_rfl) (by kernel_rfl) (by kernel_rfl) (fun _ _ _ h => h) (Or.inr ⟨by rfl, rfl⟩) (by assumption) ?_
                  try simp only [Act.put, List.setIfInBounds_toArray, List.set_cons_zero, List.set_cons_succ]
                  refine wpAnyH_take (i := 22) (oi := ({ dst := some 151, op := Op.unOp UnOp.not 4 (Operand.tmp 150), type := 4, pos := "laws.go:282", after := #[{ on := 21, ground := Ground.data }, { on := 12, ground := Ground.guard }], guard := some (12, true) } : Oper)) (v := undef) rfl (by kernel_rfl) (by kernel_rfl) (by kernel_rfl) (fun _ _ _ h => h) (Or.inr ⟨by rfl, rfl⟩) (by assumption) ?_
                  try simp only [Act.put, List.setIfInBounds_toArray, List.set_cons_zero, List.set_cons_succ]
                  refine wpAnyH_take (i := 23) (oi := ({ dst := some 152, op := Op.pick (Operand.tmp 141) (Operand.tmp 151) (Operand.const (Value.bool false)), type := 4, pos := "laws.go:282", after := #[{ on := 12, ground := Ground.data }, { on := 22, ground := Ground.data }], guard := none } : Oper)) (v := ?_) rfl (by kernel_rfl) (by kernel_rfl) (by kernel_rfl) (fun _ _ _ h => h) (Or.inl ⟨by rfl, ?_⟩) (by assumption) ?_
                  rotate_left
                  · intro w hSw; (try dsimp only at hSw); go_simp <;> with_reducible rfl
                  try simp only [Act.put, List.setIfInBounds_toArray, List.set_cons_zero, List.set_cons_succ]
                  refine wpAnyH_done (by kernel_rfl) ?_ _
                  clear c2 cf cd
                  go_wp2
                  go_roundw
                  case rel => first | exact ⟨k + 1, by omega, by go_num, HB2⟩ | ((repeat apply Exists.intro); exact ⟨⟨k + 1, by omega, by go_num, HB2⟩, rfl⟩)
                  case measure => simp [intOf]; omega
              · have hk' : ¬ (k : Int) < t.s := hk
                have HBf := Lib.hid (HBb.out.trans (HB_q.out.mono zb))
                go_wp2
                go_roundw
                case rel => first | exact ⟨i + 1, N + (2 + x.s.toNat), by omega, by go_num, by have := HXS.out; push_cast; congr 1; omega, by have := HXS.out; omega, HNX, HBf⟩ | ((repeat apply Exists.intro); exact ⟨⟨i + 1, N + (2 + x.s.toNat), by omega, by go_num, by have := HXS.out; push_cast; congr 1; omega, by have := HXS.out; omega, HNX, HBf⟩, rfl⟩)
                case measure => simp [intOf]; omega
          · have hd : decide (t.at_ ∈ R) = false := decide_eq_false hin
            have hg : decide (t.at_ ∈ G) = true := decide_eq_true (by
              rw [HGe.out, List.mem_filter]
              exact ⟨HYP.out, decide_eq_true hin⟩)
            have hNx : N = sumW (wordsAt L) (((placesO L).take (i + 1)).filter (fun p => decide (p ∈ R))) := by
              rw [HFS.out, if_neg (by rw [decide_eq_false hin]; simp), ← HN.out]
            have HNX := Lib.hid hNx
            rw [hd]
            clear hin hNx hd
            go_wp2_with fail
            refine (lwHas_any ga G gc t.at_ _ Db.out.gl (by omega)).mono ?_
            rintro e w' ⟨rfl, rfl⟩
            rw [hg]
            clear lX cX0 cX1 cX2 cX3 cX4 cX5
            clear cR cG hg
            go_wp2
            go_roundw
            case rel => first | exact ⟨i + 1, N, by omega, by go_num, rfl, by omega, HNX, HBb⟩ | ((repeat apply Exists.intro); exact ⟨⟨i + 1, N, by omega, by go_num, rfl, by omega, HNX, HBb⟩, rfl⟩)
            case measure => simp [intOf]; omega
        · have hlt' : ¬ (i : Int) < (L.length : Int) := by omega
          have hNe : (N : Int) = wv := by
            rw [HWe.out, HN.out, List.take_of_length_le (by simp [placesO]; omega), HWs.out]
          have cW := Dr.out.wb.at 1 rfl
          have HF := Lib.hid Dr.out.bel
          subst hNe
          clear Dr HSHr
          go_wp2
          go_ret
          exact ⟨by simp, HF.out⟩

theorem e3_any (ca : Option Addr) (k kc : Nat) (B : Nat → Int) (w : World) (hs : SrcB w w.heap.size ca k B) (hk : k ≤ maxLen) : Calls Try.prog 3 #[.slice ca k kc] w (RetBool w true) := by
  by_cases h : k ≤ 1048576
  · exact e3_near ca k kc B w hs h
  · exact e3_far ca k kc w hk (by omega)
end Go.Proofs.Ytdgppcaeknbnjaa

namespace Go.Proofs.Ytdgppcaeknbnjaa
open Go.RowKit
set_option linter.unusedVariables false

/-- A head lies amid a block. -/
structure HdAt (w : World) (d q : Nat) (s m o h : Int) : Prop where
  lt : d < w.heap.size
  c0 : w.cell? ⟨d, q, none⟩ = some (.int .i64 s)
  c1 : w.cell? ⟨d, q + 1, none⟩ = some (.int .i64 m)
  c2 : w.cell? ⟨d, q + 2, none⟩ = some (.int .i64 o)
  c3 : w.cell? ⟨d, q + 3, none⟩ = some (.int .i64 h)

theorem HdAt.block {w w' : World} {d q : Nat} {s m o h : Int} (x : HdAt w d q s m o h) (e : w'.heap[d]? = w.heap[d]?) (z : w.heap.size ≤ w'.heap.size) : HdAt w' d q s m o h :=
  ⟨Nat.lt_of_lt_of_le x.lt z, (World.cell?_of_block (a := ⟨d, q, none⟩) e).trans x.c0, (World.cell?_of_block (a := ⟨d, q + 1, none⟩) e).trans x.c1, (World.cell?_of_block (a := ⟨d, q + 2, none⟩) e).trans x.c2, (World.cell?_of_block (a := ⟨d, q + 3, none⟩) e).trans x.c3⟩
end Go.Proofs.Ytdgppcaeknbnjaa

