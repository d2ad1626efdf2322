/- Texts merged: FC2 to FC2. -/
import Derived.Test.YtbhjmomphajnnaaPCO6
import Derived.IntWalk
namespace Go.Proofs.Ytbhjmomphajnnaa
open Go.RowKit Go.Maps
set_option linter.unusedVariables false

set_option maxRecDepth 100000 in
set_option maxHeartbeats 800000 in
theorem drawCO_any (ca : Option Addr) (k kc : Nat) (B : Nat → Int) (w : World) (hs : SrcB w w.heap.size ca k B) (hk0 : k ≤ 1048576) :
    Calls Try.prog 11 #[.slice ca k kc] w (RetDR w) := by
  have SB := Lib.hid hs
  clear hs
  go_enter Try.func11, Try.ntmps11
  go_wp2_with fail
  refine (drawRF_any' ca k kc B _ ((SB.out.alloc _).mono (by simp)) hk0).mono ?_
  rintro e w1 ⟨h, ac, bu, n, c, a, f, l, ra, rc, rfl, ho, hq, hb, hn, hnc, hcm, hl⟩
  have HB1 := Lib.hid (thru1 (Below.refl _ _) hb)
  have R_1 := Lib.hid ((Blk.new_at (w := w) (cs := #[.int .i64 0, .slice none 0 0, .int .i64 0, .int .i64 0]) (t := 26) w.heap.size rfl).below hb)
  have HO := Lib.hid (ho.mono (B' := w.heap.size + 1) (by simp)); have HQ := Lib.hid (hq.mono (B' := w.heap.size + 1) (by simp))
  clear hb ho hq SB
  have cR0 := R_1.out.at 0 rfl; have fR0 := R_1.out.free 0 rfl; have cR1 := R_1.out.at 1 rfl; have fR1 := R_1.out.free 1 rfl; have cR2 := R_1.out.at 2 rfl; have fR2 := R_1.out.free 2 rfl; have cR3 := R_1.out.at 3 rfl; have fR3 := R_1.out.free 3 rfl; have lR := R_1.out.1
  go_wp2
  refine bodyPost_ret (v := .tuple #[.agg #[.int .i64 h, .slice a n c, .int .i64 ac, .int .i64 bu], .slice ra l.length rc]) (by simp [results, Try.results11, go_sem, cR0, cR1, cR2, cR3]) rfl ⟨h, ac, bu, n, c, a, f, l, ra, rc, rfl, ?_, ?_, ?_, hn, hnc, hcm, hl⟩
  · refine Own.mono (B := w.heap.size + 1) ?_ (by omega)
    repeat (with_reducible refine Own.setCell ?_ (by (try simp); (try omega)) _)
    exact HO.out
  · refine Own.mono (B := w.heap.size + 1) ?_ (by omega)
    repeat (with_reducible refine Own.setCell ?_ (by (try simp); (try omega)) _)
    exact HQ.out
  · repeat (with_reducible refine Below.setCell ?_ (by (try simp); (try omega)) _)
    exact HB1.out

/-- What is carried: the arena and its roots, and what was collected. -/
structure FCD (W w : World) (P G : Nat) (h ac bu : Int) (a : Option Addr) (n c : Nat) (f : Nat → Int) (ra : Option Addr) (l : List Int) (rco rh : Int) (b : Option Addr) (m d : Nat) (g : Nat → Int) (rac rbu : Int) (rb : Option Addr) (l2 : List Int) (rd : Nat) (mv : Int) : Prop where
  bel : Below W.heap.size W w
  ab : Blk w P [.int .i64 h, .slice a n c, .int .i64 ac, .int .i64 bu]
  gb : Blk w G [.int .i64 rco, .int .i64 rh, .slice b m d, .int .i64 rac, .int .i64 rbu, .slice rb l2.length rd, .int .i64 mv]
  wa : Src w a n f
  ra : Src w ra l.length (lf l)
  wb : Src w b m g
  rb : Src w rb l2.length (lf l2)

section

variable {W w w' : World} {P G : Nat} {h ac bu : Int} {a : Option Addr} {n c : Nat} {f : Nat → Int} {ra : Option Addr} {l : List Int} {rco rh : Int} {b : Option Addr} {m d : Nat} {g : Nat → Int} {rac rbu : Int} {rb : Option Addr} {l2 : List Int} {rd : Nat} {mv : Int}

theorem FCD.below (x : FCD W w P G h ac bu a n c f ra l rco rh b m d g rac rbu rb l2 rd mv) (hb : Below w.heap.size w w') : FCD W w' P G h ac bu a n c f ra l rco rh b m d g rac rbu rb l2 rd mv :=
  ⟨x.bel.trans (hb.mono x.bel.size), x.ab.below hb, x.gb.below hb, x.wa.below hb, x.ra.below hb, x.wb.below hb, x.rb.below hb⟩

theorem FCD.c5 (x : FCD W w P G h ac bu a n c f ra l rco rh b m d g rac rbu rb l2 rd mv) : w.cell? ⟨P, 0, none⟩ = some (.int .i64 h) ∧ w.cell? ⟨P, 1, none⟩ = some (.slice a n c) ∧ w.cell? ⟨P, 2, none⟩ = some (.int .i64 ac) ∧ w.cell? ⟨P, 3, none⟩ = some (.int .i64 bu) ∧ w.cell? ⟨G, 0, none⟩ = some (.int .i64 rco) := ⟨x.ab.at 0 rfl, x.ab.at 1 rfl, x.ab.at 2 rfl, x.ab.at 3 rfl, x.gb.at 0 rfl⟩

end

theorem fld_cr0 (v0 v1 v2 v3 v4 v5 v6 : Value) (w : World) : (Instr.field 30 (.agg #[v0, v1, v2, v3, v4, v5, v6]) 0).run Try.prog w = .ok v0 w := by kernel_rfl

theorem fld_ir1c (x y : Value) (w : World) : (Instr.field 38 (.agg #[x, y]) 1).run Try.prog w = .ok y w := by kernel_rfl

theorem fld_cr1 (v0 v1 v2 v3 v4 v5 v6 : Value) (w : World) : (Instr.field 30 (.agg #[v0, v1, v2, v3, v4, v5, v6]) 1).run Try.prog w = .ok (.agg #[v1, v2, v3, v4]) w := by kernel_rfl

set_option maxRecDepth 100000 in
set_option maxHeartbeats 400000 in
theorem e3_far (ca : Option Addr) (k kc : Nat) (w : World) (hk : k ≤ maxLen) (h : 1048576 < k) : Calls Try.prog 3 #[.slice ca k kc] w (RetBool w true) := by
  go_enter Try.func3, Try.ntmps3
  go_wp2_with (go_at_call 10; refine (big_yes _ _ _ _ hk h).mono ?_; rintro e w' ⟨rfl, rfl⟩)
  go_ret
  exact ⟨rfl, Below.refl _ _⟩

theorem fc18 {W w : World} {P G : Nat} {h ac bu : Int} {a : Option Addr} {n c : Nat} {f : Nat → Int} {ra : Option Addr} {l : List Int} {rco rh : Int} {b : Option Addr} {m d : Nat} {g : Nat → Int} {rac rbu : Int} {rb : Option Addr} {l2 : List Int} {rd : Nat} {mv : Int} {G6 : Nat} {u0 u1 u2 u3 u4 u5 u6 : Value} (x : FCD W w P G h ac bu a n c f ra l rco rh b m d g rac rbu rb l2 rd mv) (e : Blk w G6 [u0, u1, u2, u3, u4, u5, u6]) :
    w.cell? ⟨P, 0, none⟩ = some (.int .i64 h) ∧ w.cell? ⟨P, 1, none⟩ = some (.slice a n c) ∧ w.cell? ⟨P, 2, none⟩ = some (.int .i64 ac) ∧ w.cell? ⟨P, 3, none⟩ = some (.int .i64 bu) ∧ w.cell? ⟨G, 0, none⟩ = some (.int .i64 rco) ∧ w.cell? ⟨G, 1, none⟩ = some (.int .i64 rh) ∧ w.cell? ⟨G, 2, none⟩ = some (.slice b m d) ∧ w.cell? ⟨G, 3, none⟩ = some (.int .i64 rac) ∧ w.cell? ⟨G, 4, none⟩ = some (.int .i64 rbu) ∧ w.cell? ⟨G, 5, none⟩ = some (.slice rb l2.length rd) ∧ w.cell? ⟨G, 6, none⟩ = some (.int .i64 mv) ∧ w.cell? ⟨G6, 0, none⟩ = some u0 ∧ w.cell? ⟨G6, 1, none⟩ = some u1 ∧ w.cell? ⟨G6, 2, none⟩ = some u2 ∧ w.cell? ⟨G6, 3, none⟩ = some u3 ∧ w.cell? ⟨G6, 4, none⟩ = some u4 ∧ w.cell? ⟨G6, 5, none⟩ = some u5 ∧ w.cell? ⟨G6, 6, none⟩ = some u6 :=
  ⟨x.ab.at 0 rfl, x.ab.at 1 rfl, x.ab.at 2 rfl, x.ab.at 3 rfl, x.gb.at 0 rfl, x.gb.at 1 rfl, x.gb.at 2 rfl, x.gb.at 3 rfl, x.gb.at 4 rfl, x.gb.at 5 rfl, x.gb.at 6 rfl, e.at 0 rfl, e.at 1 rfl, e.at 2 rfl, e.at 3 rfl, e.at 4 rfl, e.at 5 rfl, e.at 6 rfl⟩

theorem fc_sf (h ac bu : Int) (a : Option Addr) (n c : Nat) (f : Nat → Int) (k : Int) (w : World) (hs : Src w a n f) (hnc : n ≤ c) (hcm : c ≤ maxLen) (hk : IsSF h n f ac bu k) :
    Calls Try.prog 14 #[.agg #[.int .i64 h, .slice a n c, .int .i64 ac, .int .i64 bu]] w (fun e w' => e = .returned (.int .i64 k) ∧ Below w.heap.size w w') := implSF h ac bu a n c f k w hs hnc hcm hk

theorem fc_gi (h ac bu : Int) (a : Option Addr) (n c : Nat) (f : Nat → Int) (ra : Option Addr) (roots : List Int) (rc : Nat) (L : List Ob) (w : World) (hs : Src w a n f) (hcn : n ≤ c) (hcm : c ≤ maxLen) (hrs : Src w ra roots.length (lf roots)) (hk : IsAsk h n f ac bu roots 0 L) (hG : outG f L roots 0 = []) :
    Calls Try.prog 17 #[.agg #[.int .i64 h, .slice a n c, .int .i64 ac, .int .i64 bu], .slice ra roots.length rc] w (RetIR w 0 0 (lf [])) := by
  have h9 := implGI_any h ac bu a n c f ra roots rc 0 L w hs hcn hcm hrs hk
  rw [hG] at h9
  exact h9

theorem fc_lw (h ac bu : Int) (a : Option Addr) (n c : Nat) (f : Nat → Int) (ra : Option Addr) (roots : List Int) (rc : Nat) (L : List Ob) (tt : Nat) (w : World) (hs : Src w a n f) (hcn : n ≤ c) (hcm : c ≤ maxLen) (hrs : Src w ra roots.length (lf roots)) (hk : IsAsk h n f ac bu roots 0 L) (hW : outW f L roots 0 = (tt : Int)) :
    Calls Try.prog 18 #[.agg #[.int .i64 h, .slice a n c, .int .i64 ac, .int .i64 bu], .slice ra roots.length rc] w (RetPair w 0 (tt : Int)) := by
  have h9 := implLW_any h ac bu a n c f ra roots rc 0 L w hs hcn hcm hrs hk
  rw [hW] at h9
  exact h9

theorem fc_sa (h ac bu : Int) (a b : Option Addr) (n c c' : Nat) (f : Nat → Int) (w : World) (s1 : Src w a n f) (s2 : Src w b n f) (hn : n ≤ 1048576) : Calls Try.prog 19 #[.agg #[.int .i64 h, .slice a n c, .int .i64 ac, .int .i64 bu], .agg #[.int .i64 h, .slice b n c', .int .i64 ac, .int .i64 bu]] w (RetBool w true) := by
  have h9 := implSame_any h ac bu h ac bu a b n c n c' f f w s1 s2 hn hn
  rw [show eqA h n f ac bu h n f ac bu = true from by unfold eqA; rw [eqB_yes fun _ _ => rfl]; simp] at h9
  exact h9

set_option maxRecDepth 100000 in
set_option maxHeartbeats 6400000 in
theorem e3_near (ca : Option Addr) (k kc : Nat) (B : Nat → Int) (w : World) (hs : SrcB w w.heap.size ca k B) (hk : k ≤ 1048576) :
    Calls Try.prog 3 #[.slice ca k kc] w (RetBool w true) := by
  have SB := Lib.hid hs; have hf0 := fld_cr0; have hf1 := fld_cr1; have hfs := fld_irs; have hfi := fld_ir1c
  clear hs
  go_enter Try.func3, Try.ntmps3
  go_wp2_with fail
  refine (big_no _ _ _ _ hk).mono ?_
  rintro e w' ⟨rfl, rfl⟩
  go_wp2_with fail
  refine (drawCO_any ca k kc B _ SB.out hk).mono ?_
  rintro e w1 ⟨h, ac, bu, n, c, a, f, l, ra, rc, rfl, ho, hq, hb, hn, hnc, hcm, hl⟩
  obtain ⟨co, L, hask⟩ := isAsk_some h n f ac bu l
  obtain ⟨r, hr⟩ := isCR_some h n f ac bu l co L
  obtain ⟨rco, rh, m, g, rac, rbu, l2, mv⟩ := r
  have HASK := Lib.hid hask; have HR := Lib.hid hr
  have HB1 := Lib.hid (hb.alloc hb.size (.cells #[.int .i64 h, .slice a n c, .int .i64 ac, .int .i64 bu] 26))
  have A_1 := Lib.hid (Blk.new_at (w := w1) (cs := #[.int .i64 h, .slice a n c, .int .i64 ac, .int .i64 bu]) (t := 26) w1.heap.size rfl)
  have WA := Lib.hid (ho.src.alloc (.cells #[.int .i64 h, .slice a n c, .int .i64 ac, .int .i64 bu] 26)); have RA := Lib.hid (hq.src.alloc (.cells #[.int .i64 h, .slice a n c, .int .i64 ac, .int .i64 bu] 26))
  clear hb ho hq hask hr SB
  go_wp2_with fail
  generalize w1.alloc (.cells #[.int .i64 h, .slice a n c, .int .i64 ac, .int .i64 bu] 26) = w2 at *
  generalize w1.heap.size = P at *
  refine (implCol_any h ac bu a n c f ra l rc co L _ _ WA.out hnc hcm RA.out HASK.out HR.out).mono ?_
  rintro e w3 ⟨b, d, rb, rd, mid, rfl, ho, hq, _, _, hb, hnd⟩
  have HND : Hid (rco = 0 → m ≤ d ∧ d ≤ maxLen) := Lib.hid hnd
  have D3 : Hid (FCD w (w3.alloc (.cells #[.int .i64 rco, .int .i64 rh, .slice b m d, .int .i64 rac, .int .i64 rbu, .slice rb l2.length rd, .int .i64 mv] 30)) P w3.heap.size h ac bu a n c f ra l rco rh b m d g rac rbu rb l2 rd mv) := Lib.hid
    ⟨(thru0 HB1.out hb).alloc (thru0 HB1.out hb).size _, (A_1.out.below hb).alloc _, Blk.new_at (w := w3) w3.heap.size rfl, (WA.out.below hb).alloc _, (RA.out.below hb).alloc _, ho.src.alloc _, hq.src.alloc _⟩
  clear hb ho hq hnd HB1 A_1 WA RA
  go_upto_region 5 with (fail)
  generalize w3.alloc (.cells #[.int .i64 rco, .int .i64 rh, .slice b m d, .int .i64 rac, .int .i64 rbu, .slice rb l2.length rd, .int .i64 mv] 30) = w4 at *
  generalize w3.heap.size = G at *
  have Dd := Lib.hid (D3.out.below (Below.refl _ _).drew)
  have lP := D3.out.ab.1; have lG := D3.out.gb.1
  go_region_held3 (fun w' => w'.cell? ⟨P, 0, none⟩ = some (.int .i64 h) ∧ w'.cell? ⟨P, 1, none⟩ = some (.slice a n c) ∧ w'.cell? ⟨P, 2, none⟩ = some (.int .i64 ac) ∧ w'.cell? ⟨P, 3, none⟩ = some (.int .i64 bu) ∧ w'.cell? ⟨G, 0, none⟩ = some (.int .i64 rco))
    (first | (with_reducible exact D3.out.c5) | (with_reducible exact Dd.out.c5) | (with_reducible exact D5.out.c5))
    (first | (go_at_call 13; (refine (specCol_any h ac bu a n c f ra l rc co L _ _ Dd.out.wa hnc hcm Dd.out.ra HASK.out HR.out).mono ?_); rintro e w5 ⟨b5, d5, rb5, rd5, mid5, rfl, _, _, _, _, hb, _⟩; have D5 := Lib.hid (Dd.out.below hb); clear hb))
  clear D3 Dd lP lG
  have cA0 := D5.out.ab.at 0 rfl; have cA1 := D5.out.ab.at 1 rfl; have cA2 := D5.out.ab.at 2 rfl; have cA3 := D5.out.ab.at 3 rfl; have lA := D5.out.ab.1
  have cG0 := D5.out.gb.at 0 rfl; have cG1 := D5.out.gb.at 1 rfl; have cG2 := D5.out.gb.at 2 rfl; have cG3 := D5.out.gb.at 3 rfl; have cG4 := D5.out.gb.at 4 rfl; have cG5 := D5.out.gb.at 5 rfl; have cG6 := D5.out.gb.at 6 rfl; have lG := D5.out.gb.1
  by_cases h0 : rco = 0
  · subst h0
    obtain ⟨hmd, hdm⟩ := HND.out rfl
    have hz : co = 0 ∧ IsCol f L (reachO f L l) (baseI (1 - ac) h).toNat g ∧ rh = h ∧ m = n ∧ rac = 1 - ac ∧ rbu = (liveO f L l : Int) ∧ l2 = wentL f L l (baseI (1 - ac) h).toNat ∧ mv = (liveO f L l : Int) := by
      rcases HR.out with ⟨h1, h2⟩ | ⟨h1, g', h2, h3⟩
      · simp only [errCR, CR.mk.injEq] at h2
        exact absurd h2.1.symm h1
      · simp only [CR.mk.injEq] at h3
        obtain ⟨_, e1, e2, e3, e4, e5, e6, e7⟩ := h3
        subst e3
        exact ⟨h1, h2, e1, e2, e4, e5, e6, e7⟩
    obtain ⟨rfl, hcol, rfl, rfl, rfl, rfl, hl2, rfl⟩ := hz
    have hask2 := fc_ask HASK.out hcol
    have hal := fc_alike HASK.out hcol
    have hgar := fc_garbage HASK.out hcol
    have hliv := fc_live HASK.out
    have haga := fc_again HASK.out hcol
    have hac := (isFault_ok (isOI_zero (isAsk_zero HASK.out).2.1).1).1.2.1
    rw [← hl2] at hask2 hal hgar haga
    obtain ⟨q, hq⟩ := isCR_some rh m g (1 - ac) (liveO f L l : Int) l2 0 (movedL f L l (baseI (1 - ac) rh).toNat)
    obtain ⟨g3, hcol3, hq3⟩ : ∃ g3, IsCol g (movedL f L l (baseI (1 - ac) rh).toNat) (reachO g (movedL f L l (baseI (1 - ac) rh).toNat) l2) (baseI (1 - (1 - ac)) rh).toNat g3 ∧ q = ⟨0, rh, m, g3, 1 - (1 - ac), (liveO f L l : Int), wentL g (movedL f L l (baseI (1 - ac) rh).toNat) l2 (baseI (1 - (1 - ac)) rh).toNat, (liveO f L l : Int)⟩ := by
      rcases hq with ⟨h1, _⟩ | ⟨_, g3, h2, h3⟩
      · exact absurd rfl h1
      · refine ⟨g3, h2, h3.trans ?_⟩
        rw [← haga]
        rfl
    have hal3 := hal.trans (fc_alike hask2 hcol3)
    have hask3 := fc_ask hask2 hcol3
    rw [haga] at hask3
    have HQ : Hid (IsCR rh m g (1 - ac) (liveO f L l : Int) l2 0 (movedL f L l (baseI (1 - ac) rh).toNat) ⟨0, rh, m, g3, 1 - (1 - ac), (liveO f L l : Int), wentL g (movedL f L l (baseI (1 - ac) rh).toNat) l2 (baseI (1 - (1 - ac)) rh).toNat, (liveO f L l : Int)⟩) := Lib.hid (hq3 ▸ hq)
    obtain ⟨l3, hl3⟩ : ∃ l3, wentL g (movedL f L l (baseI (1 - ac) rh).toNat) l2 (baseI (1 - (1 - ac)) rh).toNat = l3 := ⟨_, rfl⟩
    rw [hl3] at hal3 hask3 HQ
    have HSF := Lib.hid (isAsk_zero hask2).1
    have HA2 := Lib.hid hask2; have HA3 := Lib.hid hask3
    have HI2 : Hid (IsIA 0 0 f L l g (movedL f L l (baseI (1 - ac) rh).toNat) l2 true) := Lib.hid ⟨fun _ => ⟨rfl, rfl, hal⟩, fun _ => rfl⟩
    have HI3 : Hid (IsIA 0 0 f L l g3 (movedL g (movedL f L l (baseI (1 - ac) rh).toNat) l2 (baseI (1 - (1 - ac)) rh).toNat) l3 true) := Lib.hid ⟨fun _ => ⟨rfl, rfl, hal3⟩, fun _ => rfl⟩
    have HG := Lib.hid hgar; have HLV := Lib.hid hliv; have HCOL := Lib.hid hcol
    have hn1 : m ≤ 1048576 := by omega
    clear hask2 hal hgar hliv haga hq hq3 hcol3 hal3 hask3 hl3 hl2 hcol HND hn
    generalize movedL g (movedL f L l (baseI (1 - ac) rh).toNat) l2 (baseI (1 - (1 - ac)) rh).toNat = L3 at *
    generalize movedL f L l (baseI (1 - ac) rh).toNat = L2 at *
    generalize liveO f L l = tt at *
    go_wp2_with fail
    refine (implCol_any rh (1 - ac) (tt : Int) b m d g rb l2 rd 0 L2 _ _ D5.out.wb hmd hdm D5.out.rb HA2.out HQ.out).mono ?_
    rintro e w6 ⟨b6, d6, rb6, rd6, mid6, rfl, ho, hq, _, _, hb, hnd6⟩
    obtain ⟨hnd6a, hnd6b⟩ := hnd6 rfl
    have D6 := Lib.hid ((D5.out.below hb).below ((Below.refl _ _).alloc (Nat.le_refl _) (.cells #[.int .i64 0, .int .i64 rh, .slice b6 m d6, .int .i64 (1 - (1 - ac)), .int .i64 (tt : Int), .slice rb6 l3.length rd6, .int .i64 (tt : Int)] 30)))
    have E6 := Lib.hid (Blk.new_at (w := w6) (cs := #[.int .i64 0, .int .i64 rh, .slice b6 m d6, .int .i64 (1 - (1 - ac)), .int .i64 (tt : Int), .slice rb6 l3.length rd6, .int .i64 (tt : Int)]) (t := 30) w6.heap.size rfl)
    have WB6 := Lib.hid (ho.src.alloc (.cells #[.int .i64 0, .int .i64 rh, .slice b6 m d6, .int .i64 (1 - (1 - ac)), .int .i64 (tt : Int), .slice rb6 l3.length rd6, .int .i64 (tt : Int)] 30)); have RB6 := Lib.hid (hq.src.alloc (.cells #[.int .i64 0, .int .i64 rh, .slice b6 m d6, .int .i64 (1 - (1 - ac)), .int .i64 (tt : Int), .slice rb6 l3.length rd6, .int .i64 (tt : Int)] 30))
    clear hb ho hq hnd6 D5 cA0 cA1 cA2 cA3 lA cG0 cG1 cG2 cG3 cG4 cG5 cG6 lG
    have cG0 := D6.out.gb.at 0 rfl; have cG1 := D6.out.gb.at 1 rfl; have cG2 := D6.out.gb.at 2 rfl; have cG3 := D6.out.gb.at 3 rfl; have cG4 := D6.out.gb.at 4 rfl; have cG5 := D6.out.gb.at 5 rfl; have cG6 := D6.out.gb.at 6 rfl; have lG := D6.out.gb.1
    go_wp2_with fail
    generalize w6.alloc (.cells #[.int .i64 0, .int .i64 rh, .slice b6 m d6, .int .i64 (1 - (1 - ac)), .int .i64 (tt : Int), .slice rb6 l3.length rd6, .int .i64 (tt : Int)] 30) = w7 at *
    generalize w6.heap.size = G6 at *
    clear cG0 cG1 cG2 cG3 cG4 cG5 cG6 lG
    have D7 := Lib.hid (D6.out.below (Below.refl _ _).drew); have E7 := Lib.hid E6.out.drew; have WB7 := Lib.hid WB6.out.drew; have RB7 := Lib.hid RB6.out.drew
    have lA := D6.out.ab.1; have lG := D6.out.gb.1; have lE := E6.out.1
    have hw1 : IntKind.i64.wrap (1 - ac) = 1 - ac := IntWalk.i64_in _ (by omega)
    simp only [List.append_eq, List.cons_append, List.nil_append]
    go_region_held3 (fun w' => w'.cell? ⟨P, 0, none⟩ = some (.int .i64 rh) ∧ w'.cell? ⟨P, 1, none⟩ = some (.slice a m c) ∧ w'.cell? ⟨P, 2, none⟩ = some (.int .i64 ac) ∧ w'.cell? ⟨P, 3, none⟩ = some (.int .i64 bu) ∧ w'.cell? ⟨G, 0, none⟩ = some (.int .i64 0) ∧ w'.cell? ⟨G, 1, none⟩ = some (.int .i64 rh) ∧ w'.cell? ⟨G, 2, none⟩ = some (.slice b m d) ∧ w'.cell? ⟨G, 3, none⟩ = some (.int .i64 (1 - ac)) ∧ w'.cell? ⟨G, 4, none⟩ = some (.int .i64 (tt : Int)) ∧ w'.cell? ⟨G, 5, none⟩ = some (.slice rb l2.length rd) ∧ w'.cell? ⟨G, 6, none⟩ = some (.int .i64 (tt : Int)) ∧ w'.cell? ⟨G6, 0, none⟩ = some (.int .i64 0) ∧ w'.cell? ⟨G6, 1, none⟩ = some (.int .i64 rh) ∧ w'.cell? ⟨G6, 2, none⟩ = some (.slice b6 m d6) ∧ w'.cell? ⟨G6, 3, none⟩ = some (.int .i64 (1 - (1 - ac))) ∧ w'.cell? ⟨G6, 4, none⟩ = some (.int .i64 (tt : Int)) ∧ w'.cell? ⟨G6, 5, none⟩ = some (.slice rb6 l3.length rd6) ∧ w'.cell? ⟨G6, 6, none⟩ = some (.int .i64 (tt : Int)))
      (first | (with_reducible exact fc18 D6.out E6.out) | (with_reducible exact fc18 D7.out E7.out) | (with_reducible exact fc18 D8.out E8.out) | (with_reducible exact fc18 D9.out E9.out) | (with_reducible exact fc18 D10.out E10.out) | (with_reducible exact fc18 D11.out E11.out) | (with_reducible exact fc18 D12.out E12.out) | (with_reducible exact fc18 D13.out E13.out) | (with_reducible exact fc18 D14.out E14.out) | (with_reducible exact fc18 D15.out E15.out))
      (first | (go_at_call 14; (with_reducible refine (fc_sf rh (1 - ac) (tt : Int) b m d g 0 _ D7.out.wb hmd hdm HSF.out).mono ?_); rintro e v8 ⟨rfl, hb⟩; have D8 := Lib.hid (D7.out.below hb); have E8 := Lib.hid (E7.out.below hb); have WB8 := Lib.hid (WB7.out.below hb); have RB8 := Lib.hid (RB7.out.below hb); clear hb) | (go_at_call 15; (with_reducible refine (implIA_any rh ac bu a m c f ra l rc 0 L rh (1 - ac) (tt : Int) b m d g rb l2 rd 0 L2 true _ D8.out.wa hnc hcm D8.out.ra HASK.out D8.out.wb hmd hdm D8.out.rb HA2.out HI2.out).mono ?_); rintro e v9 ⟨rfl, hb⟩; have D9 := Lib.hid (D8.out.below hb); have E9 := Lib.hid (E8.out.below hb); have WB9 := Lib.hid (WB8.out.below hb); have RB9 := Lib.hid (RB8.out.below hb); clear hb) | (go_at_call 16; (with_reducible refine (specIA_any rh ac bu a m c f ra l rc 0 L rh (1 - ac) (tt : Int) b m d g rb l2 rd 0 L2 true _ D9.out.wa hnc hcm D9.out.ra HASK.out D9.out.wb hmd hdm D9.out.rb HA2.out HI2.out).mono ?_); rintro e v10 ⟨rfl, hb⟩; have D10 := Lib.hid (D9.out.below hb); have E10 := Lib.hid (E9.out.below hb); have WB10 := Lib.hid (WB9.out.below hb); have RB10 := Lib.hid (RB9.out.below hb); clear hb) | (go_at_call 17; (with_reducible refine (fc_gi rh (1 - ac) (tt : Int) b m d g rb l2 rd L2 _ D10.out.wb hmd hdm D10.out.rb HA2.out HG.out).mono ?_); rintro e v11 ⟨ga, gc, rfl, _, hb⟩; have D11 := Lib.hid (D10.out.below hb); have E11 := Lib.hid (E10.out.below hb); have WB11 := Lib.hid (WB10.out.below hb); have RB11 := Lib.hid (RB10.out.below hb); clear hb) | (go_at_call 18; (with_reducible refine (fc_lw rh ac bu a m c f ra l rc L tt _ D11.out.wa hnc hcm D11.out.ra HASK.out HLV.out).mono ?_); rintro e v12 ⟨rfl, hb⟩; have D12 := Lib.hid (D11.out.below hb); have E12 := Lib.hid (E11.out.below hb); have WB12 := Lib.hid (WB11.out.below hb); have RB12 := Lib.hid (RB11.out.below hb); clear hb) | (go_at_call 15; (with_reducible refine (implIA_any rh ac bu a m c f ra l rc 0 L rh (1 - (1 - ac)) (tt : Int) b6 m d6 g3 rb6 l3 rd6 0 L3 true _ D12.out.wa hnc hcm D12.out.ra HASK.out WB12.out hnd6a hnd6b RB12.out HA3.out HI3.out).mono ?_); rintro e v13 ⟨rfl, hb⟩; have D13 := Lib.hid (D12.out.below hb); have E13 := Lib.hid (E12.out.below hb); have WB13 := Lib.hid (WB12.out.below hb); have RB13 := Lib.hid (RB12.out.below hb); clear hb) | (go_at_call 13; (with_reducible refine (specCol_any rh ac bu a m c f ra l rc 0 L _ _ D13.out.wa hnc hcm D13.out.ra HASK.out HR.out).mono ?_); rintro e v14 ⟨b9, d9, rb9, rd9, mid9, rfl, ho9, _, _, _, hb, _⟩; have D14 := Lib.hid (D13.out.below hb); have E14 := Lib.hid (E13.out.below hb); have WB14 := Lib.hid (WB13.out.below hb); have RB14 := Lib.hid (RB13.out.below hb); have HO9 := Lib.hid ho9.src; clear ho9; clear hb) | (go_at_call 19; (with_reducible refine (fc_sa rh (1 - ac) (tt : Int) b b9 m d d9 g _ D14.out.wb HO9.out hn1).mono ?_); rintro e v15 ⟨rfl, hb⟩; have D15 := Lib.hid (D14.out.below hb); have E15 := Lib.hid (E14.out.below hb); have WB15 := Lib.hid (WB14.out.below hb); have RB15 := Lib.hid (RB14.out.below hb); clear hb))
    go_wp2
    go_ret
    exact ⟨rfl, D15.out.bel⟩
  · have hd : (rco != 0) = true := by simpa using h0
    clear h0
    go_wp2
    go_ret
    exact ⟨rfl, D5.out.bel⟩

theorem e3_any (ca : Option Addr) (k kc : Nat) (B : Nat → Int) (w : World) (hs : SrcB w w.heap.size ca k B) (hk : k ≤ maxLen) : Calls Try.prog 3 #[.slice ca k kc] w (RetBool w true) := by
  by_cases h : k ≤ 1048576
  · exact e3_near ca k kc B w hs h
  · exact e3_far ca k kc w hk (by omega)
end Go.Proofs.Ytbhjmomphajnnaa

