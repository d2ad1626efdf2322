/- Texts merged: CW4 to LCA. -/
import Derived.Test.YtnacdhnnpddccaaPT4
namespace Go.Proofs.Ytnacdhnnpddccaa
open Go.RowKit
set_option linter.unusedVariables false

theorem cw_bring_some {f W : Nat → Int} {L : List Ob} {B U P H s kk : Nat} {R : List Int} {p : Int} (c : CW f L P R s kk W) (a : Cop f L B U P H) (hp : p ∈ placesO L) : ∃ W', CW f L P (addNew R [p]) s kk W' := by
  obtain ⟨pn, rfl⟩ : ∃ pn : Nat, p = (pn : Int) := ⟨p.toNat, by have := (a.word_x hp).1; omega⟩
  by_cases hR : (pn : Int) ∈ R
  · rw [addNew_one, if_pos hR]; exact ⟨W, c⟩
  · rw [addNew_one, if_neg hR]
    obtain ⟨x, hx⟩ := mem_placesO.1 hp
    exact ⟨_, c.brought a hx hR rfl⟩

theorem cw_look_some {f W : Nat → Int} {L : List Ob} {B U P H s : Nat} {R : List Int} {x : Ob} (c : CW f L P R s 0 W) (a : Cop f L B U P H) (hs : s < R.length) (hx : findO L R[s] = some x) : ∀ k, k ≤ x.s.toNat → ∃ W', CW f L P (addNew R (ptrsK f x k)) s k W'
  | 0, _ => ⟨W, c⟩
  | k + 1, hk => by
    obtain ⟨W1, c1⟩ := cw_look_some c a hs hx k (by omega)
    by_cases hb : x.m / P2 (k : Int) % 2 = 1 ∧ ¬ f (x.at_.toNat + 2 + k) = 0
    · obtain ⟨W2, c2⟩ := cw_bring_some c1 a (a.leads (List.mem_of_find?_eq_some hx) (by omega) hb)
      exact ⟨_, CW.lookLead (W' := W2) a c.sub hs hx (by omega) hb c2⟩
    · exact ⟨W1, c1.lookStay a c.sub hs hx (by omega) hb⟩

theorem cw_gst_some {f : Nat → Int} {L : List Ob} {B U P H : Nat} {roots : List Int} (a : Cop f L B U P H) (hr : ∀ p ∈ roots, p ∈ placesO L) : ∀ n, ∃ W, CW f L P (gst (succO f L) roots n).R (gst (succO f L) roots n).s 0 W
  | 0 => ⟨f, cw_init f L P⟩
  | n + 1 => by
    obtain ⟨W, c⟩ := cw_gst_some a hr n
    have gi := gst_gi (L := L) (roots := roots) hr (succO_sub a.right.points a.right.size) n
    show ∃ W, CW f L P (gstep (succO f L) roots (gst (succO f L) roots n)).R (gstep (succO f L) roots (gst (succO f L) roots n)).s 0 W
    generalize gst (succO f L) roots n = t at c gi ⊢
    unfold gstep
    by_cases h1 : t.nx < roots.length
    · rw [if_pos h1]
      exact cw_bring_some c a (hr _ (lf_mem h1))
    · rw [if_neg h1]
      by_cases h2 : t.s < t.R.length
      · rw [if_pos h2]
        obtain ⟨x, hx⟩ := mem_placesO.1 (c.sub _ (List.getElem_mem h2))
        obtain ⟨W1, c1⟩ := cw_look_some c a h2 hx x.s.toNat (Nat.le_refl _)
        refine ⟨W1, ?_⟩
        rw [succ_at h2 hx]
        exact c1.lookEnd a c.sub h2 hx rfl
      · rw [if_neg h2]; exact ⟨W, c⟩
end Go.Proofs.Ytnacdhnnpddccaa

namespace Go.Proofs.Ytnacdhnnpddccaa
open Go.RowKit
set_option linter.unusedVariables false

theorem isCT_some (h : Int) (n : Nat) (f : Nat → Int) (ac bu : Int) (roots : List Int) (m : Int) : ∃ x co k L, IsCT h n f ac bu roots m x co k L := by
  obtain ⟨co, L, hk⟩ := isAsk_some h n f ac bu roots
  obtain ⟨k, ha⟩ := isAft_some co m
  by_cases h0 : k = 0
  · subst h0
    obtain ⟨hc, hm⟩ := isAft_zero ha
    subst hc
    have fx := fixed_of hk (b := 1) (g := 0) (c := n) (by omega) ⟨Nat.le_refl _, by have := (asked hk).2.2.2.1; unfold maxLen; omega⟩
    obtain ⟨W, hW⟩ := cw_gst_some fx.cop fx.roots m.toNat
    obtain ⟨d, hd⟩ : ∃ d : Bool, d = true ↔ GDone roots (gst (succO f L) roots m.toNat) := by
      by_cases h : GDone roots (gst (succO f L) roots m.toNat)
      · exact ⟨true, fun _ => h, fun _ => rfl⟩
      · exact ⟨false, fun k => (by cases k), fun k => absurd k h⟩
    exact ⟨⟨0, n, W, _, _, _, d⟩, 0, 0, L, hk, ha, fun h => absurd rfl h, fun _ => ⟨rfl, rfl, hW, rfl, rfl, rfl, hd⟩⟩
  · exact ⟨⟨k, 0, fun _ => 0, 0, 0, 0, false⟩, co, k, L, hk, ha, fun _ => rfl, fun h => absurd h h0⟩

theorem isCT_small {h : Int} {n : Nat} {f : Nat → Int} {ac bu : Int} {roots : List Int} {m : Int} {x : CT} {co k : Int} {L : List Ob} (hx : IsCT h n f ac bu roots m x co k L) : x.n ≤ 400 := by
  by_cases h0 : k = 0
  · have h1 := (hx.yes h0).2.1
    have h2 := hx.aft
    rw [h0] at h2
    have h3 := hx.ask
    rw [(isAft_zero h2).1] at h3
    have := (asked h3).2.2.2.1
    omega
  · rw [hx.no h0]; exact Nat.zero_le _

theorem cells1567 {w : World} {b : Nat} {v0 v1 v2 v3 v4 v5 v6 v7 : Value} (h : Blk w b [v0, v1, v2, v3, v4, v5, v6, v7]) : w.cell? ⟨b, 1, none⟩ = some v1 ∧ w.cell? ⟨b, 5, none⟩ = some v5 ∧ w.cell? ⟨b, 6, none⟩ = some v6 ∧ w.cell? ⟨b, 7, none⟩ = some v7 := ⟨h.at 1 rfl, h.at 5 rfl, h.at 6 rfl, h.at 7 rfl⟩

set_option maxRecDepth 100000 in
set_option maxHeartbeats 3200000 in
theorem specCA_any (h ac bu : Int) (a : Option Addr) (n c : Nat) (f : Nat → Int) (ra : Option Addr) (roots : List Int) (rc : Nat) (co : Int) (L : List Ob) (m k : Int) (x : CT) (w : World) (hs : Src w a n f) (hcn : n ≤ c) (hcm : c ≤ maxLen) (hrs : Src w ra roots.length (lf roots)) (hx : IsCT h n f ac bu roots m x co k L) :
    Calls Try.prog 16 #[.agg #[.int .i64 h, .slice a n c, .int .i64 ac, .int .i64 bu], .slice ra roots.length rc, .int .i64 m] w (RetCT w x) := by
  have HS := Lib.hid hs; have HX := Lib.hid hx; have HCM := Lib.hid hcm; have HRS := Lib.hid hrs
  clear hs hx hcm hrs
  go_enter Try.func16, Try.ntmps16
  have A0 := Lib.hid (((Blk.new_at (w := w) (cs := #[.int .i64 h, .slice a n c, .int .i64 ac, .int .i64 bu]) (t := 34) w.heap.size rfl)).alloc (.cells #[.int .i64 0, .slice none 0 0, .int .i64 0, .int .i64 0, .int .i64 0, .bool false] 27))
  have HB0 : Hid (Below w.heap.size w ((w.alloc (.cells #[.int .i64 h, .slice a n c, .int .i64 ac, .int .i64 bu] 34)).alloc (.cells #[.int .i64 0, .slice none 0 0, .int .i64 0, .int .i64 0, .int .i64 0, .bool false] 27))) := Lib.hid (((Below.refl _ _).alloc (Nat.le_refl _) _).alloc (by simp) _)
  have R0 := Lib.hid (Blk.new_at (w := w.alloc (.cells #[.int .i64 h, .slice a n c, .int .i64 ac, .int .i64 bu] 34)) (cs := #[.int .i64 0, .slice none 0 0, .int .i64 0, .int .i64 0, .int .i64 0, .bool false]) (t := 27) (w.heap.size + 1) (by simp))
  go_wp2_with fail
  refine (l11After_any w.heap.size h ac bu a n c f ra roots rc co L m k _ A0.out (HS.out.below HB0.out) hcn HCM.out (HRS.out.below HB0.out) HX.out.ask HX.out.aft).mono ?_
  rintro e w1 hr
  rcases hr with ⟨h0, hb, rfl⟩ | ⟨rfl, hb, g, q, gc, ra1, rc1, rg, F, rfl, hw, hc, hge, hgc, hgm, hglt, hrt⟩
  · have hxe := HX.out.no h0
    subst hxe
    have H0 := Lib.hid h0
    have R1 := Lib.hid ((R0.out.below hb).alloc (.cells #[.int .i64 0, .slice none 0 0, .int .i64 0, .int .i64 0, .slice none 0 0, .int .i64 0, .int .i64 0, .int .i64 0] 65)); have HB1 := Lib.hid ((thru0 HB0.out hb).alloc (thru0 HB0.out hb).size (.cells #[.int .i64 0, .slice none 0 0, .int .i64 0, .int .i64 0, .slice none 0 0, .int .i64 0, .int .i64 0, .int .i64 0] 65))
    clear hb
    have lr := R1.out.1; have r0 := R1.out.at 0 rfl; have rf0 := R1.out.free 0 rfl; have r1 := R1.out.at 1 rfl; have rf1 := R1.out.free 1 rfl; have r2 := R1.out.at 2 rfl; have rf2 := R1.out.free 2 rfl; have r3 := R1.out.at 3 rfl; have rf3 := R1.out.free 3 rfl; have r4 := R1.out.at 4 rfl; have rf4 := R1.out.free 4 rfl; have r5 := R1.out.at 5 rfl; have rf5 := R1.out.free 5 rfl
    go_wp2
    refine bodyPost_ret (v := .agg #[.int .i64 k, .slice none 0 0, .int .i64 0, .int .i64 0, .int .i64 0, .bool false]) (by simp [results, Try.results16, go_sem, r0, r1, r2, r3, r4, r5]) rfl ⟨none, 0, rfl, .inl rfl, ?_, Nat.le_refl _, Nat.zero_le _⟩
    repeat (first | (with_reducible refine Below.setCell ?_ (by (try simp); (try omega)) _))
    exact HB1.out
  · obtain ⟨hx1, hx2, hx3, hx4, hx5, hx6, hx7⟩ := HX.out.yes rfl
    obtain ⟨hco, hm⟩ := isAft_zero HX.out.aft
    have hkz := HX.out.ask
    rw [hco] at hkz
    have HFX := Lib.hid (fixed_of hkz (b := g + 1) (g := g) (c := gc) (by omega) ⟨hgc, hgm⟩)
    have HGI := Lib.hid (HFX.out.gi m.toNat)
    obtain ⟨P, hP⟩ : ∃ P, (baseI (1 - ac) h).toNat = P := ⟨_, rfl⟩
    rw [hP] at hx3 hx5 hx6 hc ⊢
    obtain ⟨t, ht⟩ : ∃ t, gst (succO f L) roots m.toNat = t := ⟨_, rfl⟩
    rw [ht] at hx3 hx4 hx5 hx6 hx7 hc HGI hrt ⊢
    obtain ⟨xco, xn, xW, xnx, xsc, xfr, xd⟩ := x
    simp only at hx1 hx2 hx3 hx4 hx5 hx6 hx7
    subst hx1 hx2 hx4 hx5
    obtain ⟨fr, hfr⟩ : ∃ fr, ((P + totO (objsO L t.R) : Nat) : Int) = fr := ⟨_, rfl⟩
    have HDN : Hid (xd = true ↔ ((t.nx : Int) = (roots.length : Int) ∧ ((placeAt P (objsO L t.R) t.s : Nat) : Int) = fr)) := Lib.hid (by
      refine hx7.trans ?_
      have hp : placeAt P (objsO L t.R) t.s = P + totO (objsO L t.R) ↔ t.s = t.R.length := by
        rw [← placeAt_all]
        constructor
        · intro he
          rcases hc.pos with h2 | ⟨h2, _⟩
          · have := placeAt_lt P (objsO L t.R) t.s _ (by rw [hc.len]; exact h2) (Nat.le_refl _)
            omega
          · exact h2
        · intro he
          rw [he, hc.len]
      constructor
      · intro hd
        exact ⟨by rw [hd.1], by rw [hp.2 hd.2, hfr]⟩
      · intro hd
        exact ⟨by have := hd.1; omega, hp.1 (by have := hd.2; omega)⟩)
    rw [hfr] at hx6 ⊢
    subst hx6
    have HX3 := Lib.hid hx3; have HC := Lib.hid hc; have HGC := Lib.hid (And.intro hgc hgm)
    have HGE := Lib.hid (show w.heap.size + 2 ≤ g by simpa using hge)
    have hz1 := hb.size
    have R1 := Lib.hid ((R0.out.below hb).alloc (.cells #[.int .i64 h, .slice (some ⟨g, q, none⟩) xn gc, .int .i64 ac, .int .i64 bu, .slice ra1 roots.length rc1, .int .i64 (t.nx : Int), .int .i64 ((placeAt P (objsO L t.R) t.s : Nat) : Int), .int .i64 xfr] 65))
    have X1 := Lib.hid (Blk.new_at (w := w1) (cs := #[.int .i64 h, .slice (some ⟨g, q, none⟩) xn gc, .int .i64 ac, .int .i64 bu, .slice ra1 roots.length rc1, .int .i64 (t.nx : Int), .int .i64 ((placeAt P (objsO L t.R) t.s : Nat) : Int), .int .i64 xfr]) (t := 65) w1.heap.size rfl)
    have W1 := Lib.hid (hw.alloc (.cells #[.int .i64 h, .slice (some ⟨g, q, none⟩) xn gc, .int .i64 ac, .int .i64 bu, .slice ra1 roots.length rc1, .int .i64 (t.nx : Int), .int .i64 ((placeAt P (objsO L t.R) t.s : Nat) : Int), .int .i64 xfr] 65))
    have HB1 := Lib.hid ((thru0 HB0.out hb).alloc (thru0 HB0.out hb).size (.cells #[.int .i64 h, .slice (some ⟨g, q, none⟩) xn gc, .int .i64 ac, .int .i64 bu, .slice ra1 roots.length rc1, .int .i64 (t.nx : Int), .int .i64 ((placeAt P (objsO L t.R) t.s : Nat) : Int), .int .i64 xfr] 65))
    have z1 : w.heap.size + 2 ≤ w1.heap.size := by have := R0.out.1; have := (R0.out.below hb).1; simp at hz1; omega
    clear hb hw hx3 hx7 hc hge hgc hgm hrt hfr hco hkz hm HFX
    have lx := X1.out.1; have x0 := X1.out.at 0 rfl; have xf0 := X1.out.free 0 rfl; have x1 := X1.out.at 1 rfl; have xf1 := X1.out.free 1 rfl; have x2 := X1.out.at 2 rfl; have xf2 := X1.out.free 2 rfl; have x3 := X1.out.at 3 rfl; have xf3 := X1.out.free 3 rfl; have x4 := X1.out.at 4 rfl; have xf4 := X1.out.free 4 rfl; have x5 := X1.out.at 5 rfl; have xf5 := X1.out.free 5 rfl; have x6 := X1.out.at 6 rfl; have xf6 := X1.out.free 6 rfl; have x7 := X1.out.at 7 rfl; have xf7 := X1.out.free 7 rfl
    go_upto_region 4 with (fail)
    clear lx x0 xf0 x1 xf1 x2 xf2 x3 xf3 x4 xf4 x5 xf5 x6 xf6 x7 xf7
    generalize w1.alloc (.cells #[.int .i64 h, .slice (some ⟨g, q, none⟩) xn gc, .int .i64 ac, .int .i64 bu, .slice ra1 roots.length rc1, .int .i64 (t.nx : Int), .int .i64 ((placeAt P (objsO L t.R) t.s : Nat) : Int), .int .i64 xfr] 65) = w2 at *
    have Xd := Lib.hid X1.out.drew; have Rd := Lib.hid R1.out.drew; have Wd := Lib.hid W1.out.drew; have HBd := Lib.hid HB1.out.drew
    have hxz : w.heap.size + 1 ≠ w1.heap.size := by omega
    go_region_held3 (fun w' => w'.cell? ⟨w1.heap.size, 1, none⟩ = some (.slice (some ⟨g, q, none⟩) xn gc) ∧ w'.cell? ⟨w1.heap.size, 5, none⟩ = some (.int .i64 (t.nx : Int)) ∧ w'.cell? ⟨w1.heap.size, 6, none⟩ = some (.int .i64 ((placeAt P (objsO L t.R) t.s : Nat) : Int)) ∧ w'.cell? ⟨w1.heap.size, 7, none⟩ = some (.int .i64 xfr))
      (first | (with_reducible exact cells1567 X1.out) | (with_reducible exact cells1567 Xd.out) | (with_reducible exact cells1567 X5.out) | (with_reducible exact cells1567 ((((((X5.out.other (by exact hxz) _).other (by exact hxz) _).other (by exact hxz) _).other (by exact hxz) _).other (by exact hxz) _).other (by exact hxz) _)))
      (first | (go_at_call 50; (refine (l11Done_any w1.heap.size g q xn gc roots.length rc1 ra1 h ac bu (t.nx : Int) _ xfr xd _ Xd.out HDN.out).mono ?_; rintro e w5 ⟨rfl, hb⟩; have X5 := Lib.hid (Xd.out.below hb); have R5 := Lib.hid (Rd.out.below hb); have W5 := Lib.hid (Wd.out.below hb); have HB5 := Lib.hid (thru0 HBd.out hb); clear hb; have lr := R5.out.1; have r0 := R5.out.at 0 rfl; have rf0 := R5.out.free 0 rfl; have r1 := R5.out.at 1 rfl; have rf1 := R5.out.free 1 rfl; have r2 := R5.out.at 2 rfl; have rf2 := R5.out.free 2 rfl; have r3 := R5.out.at 3 rfl; have rf3 := R5.out.free 3 rfl; have r4 := R5.out.at 4 rfl; have rf4 := R5.out.free 4 rfl; have r5 := R5.out.at 5 rfl; have rf5 := R5.out.free 5 rfl)))
    go_wp2
    refine bodyPost_ret (v := .agg #[.int .i64 0, .slice (some ⟨g, q, none⟩) xn gc, .int .i64 (t.nx : Int), .int .i64 ((placeAt P (objsO L t.R) t.s : Nat) : Int), .int .i64 xfr, .bool xd]) (by simp [results, Try.results16, go_sem, r0, r1, r2, r3, r4, r5]) rfl ⟨some ⟨g, q, none⟩, gc, rfl, ?_, ?_, HGC.out.1, HGC.out.2⟩
    · refine Own.mono (B := w.heap.size + 2) ?_ (by omega)
      repeat (first | (with_reducible refine Own.setCell ?_ (by (try simp); (try omega)) _))
      exact .inr ⟨g, q, rfl, HGE.out, W5.out.lt, fun i hi => ⟨by rw [W5.out.cell i hi, HC.out.same HX3.out i], W5.out.free i hi⟩⟩
    · repeat (first | (with_reducible refine Below.setCell ?_ (by (try simp); (try omega)) _))
      exact HB5.out

/-- Both answer the same. -/
def BothT (sp im : Nat) (h : Int) (n : Nat) (f : Nat → Int) (ac bu : Int) (roots : List Int) (m : Int) (co : Int) (n1 : Nat) (f1 : Nat → Int) (nx sc fr : Int) (d : Bool) : Prop :=
  n1 ≤ 1048576 ∧ (∀ (a : Option Addr) (c : Nat) (ra : Option Addr) (rc : Nat) (w : World), Src w a n f → n ≤ c → c ≤ maxLen → Src w ra roots.length (lf roots) → Calls Try.prog sp #[.agg #[.int .i64 h, .slice a n c, .int .i64 ac, .int .i64 bu], .slice ra roots.length rc, .int .i64 m] w (RetCT w ⟨co, n1, f1, nx, sc, fr, d⟩)) ∧
  (∀ (a : Option Addr) (c : Nat) (ra : Option Addr) (rc : Nat) (w : World), Src w a n f → n ≤ c → c ≤ maxLen → Src w ra roots.length (lf roots) → Calls Try.prog im #[.agg #[.int .i64 h, .slice a n c, .int .i64 ac, .int .i64 bu], .slice ra roots.length rc, .int .i64 m] w (RetCT w ⟨co, n1, f1, nx, sc, fr, d⟩))

theorem both_ca (h : Int) (n : Nat) (f : Nat → Int) (ac bu : Int) (roots : List Int) (m : Int) : ∃ co n1 f1 nx sc fr d, BothT 16 19 h n f ac bu roots m co n1 f1 nx sc fr d := by
  obtain ⟨x, co, k, L, hx⟩ := isCT_some h n f ac bu roots m
  have hn := isCT_small hx
  exact ⟨x.co, x.n, x.W, x.nx, x.sc, x.fr, x.d, by omega, fun a c ra rc w h1 h2 h3 h4 => specCA_any h ac bu a n c f ra roots rc co L m k x w h1 h2 h3 h4 hx, fun a c ra rc w h1 h2 h3 h4 => implCA_any h ac bu a n c f ra roots rc co L m k x w h1 h2 h3 h4 hx⟩
end Go.Proofs.Ytnacdhnnpddccaa

namespace Go.Proofs.Ytnacdhnnpddccaa
open Go.RowKit
set_option linter.unusedVariables false

set_option maxRecDepth 100000 in
set_option maxHeartbeats 400000 in
theorem eqCT_same (co nx sc fr : Int) (d : Bool) (a a' : Option Addr) (n c c' : Nat) (f g : Nat → Int) (w : World) (s1 : Src w a n f) (s2 : Src w a' n g) (hn : n ≤ 1048576) (he : ∀ i, i < n → f i = g i) :
    Calls Try.prog 14 #[.agg #[.int .i64 co, .slice a n c, .int .i64 nx, .int .i64 sc, .int .i64 fr, .bool d], .agg #[.int .i64 co, .slice a' n c', .int .i64 nx, .int .i64 sc, .int .i64 fr, .bool d]] w (RetBool w true) := by
  have S1 := Lib.hid s1
  have S2 := Lib.hid s2
  have HE := Lib.hid he
  clear s1 s2 he
  go_enter Try.func14, Try.ntmps14
  have X_1 := Lib.hid ((Blk.new_at (w := w) (cs := #[.int .i64 co, .slice a n c, .int .i64 nx, .int .i64 sc, .int .i64 fr, .bool d]) (t := 27) w.heap.size rfl).alloc (.cells #[.int .i64 co, .slice a' n c', .int .i64 nx, .int .i64 sc, .int .i64 fr, .bool d] 27))
  have Y_1 := Lib.hid (Blk.new_at (w := w.alloc (.cells #[.int .i64 co, .slice a n c, .int .i64 nx, .int .i64 sc, .int .i64 fr, .bool d] 27)) (cs := #[.int .i64 co, .slice a' n c', .int .i64 nx, .int .i64 sc, .int .i64 fr, .bool d]) (t := 27) (w.heap.size + 1) (by simp))
  have HB0 : Hid (Below w.heap.size w ((w.alloc (.cells #[.int .i64 co, .slice a n c, .int .i64 nx, .int .i64 sc, .int .i64 fr, .bool d] 27)).alloc (.cells #[.int .i64 co, .slice a' n c', .int .i64 nx, .int .i64 sc, .int .i64 fr, .bool d] 27))) := Lib.hid (((Below.refl _ _).alloc (Nat.le_refl _) _).alloc (by simp) _)
  go_wp2_with fail
  refine (eqInts_same _ _ _ _ _ f g _ (S1.out.below HB0.out) (S2.out.below HB0.out) hn).mono ?_
  rw [eqB_yes HE.out]
  rintro e w1 ⟨rfl, hb⟩
  have X_2 := Lib.hid (X_1.out.below hb); have Y_2 := Lib.hid (Y_1.out.below hb); have HB1 := Lib.hid (thru0 HB0.out hb)
  clear hb
  have lx := X_2.out.1; have x0 := X_2.out.at 0 rfl; have xf0 := X_2.out.free 0 rfl; have x1 := X_2.out.at 1 rfl; have xf1 := X_2.out.free 1 rfl; have x2 := X_2.out.at 2 rfl; have xf2 := X_2.out.free 2 rfl; have x3 := X_2.out.at 3 rfl; have xf3 := X_2.out.free 3 rfl; have x4 := X_2.out.at 4 rfl; have xf4 := X_2.out.free 4 rfl; have x5 := X_2.out.at 5 rfl; have xf5 := X_2.out.free 5 rfl
  have ly := Y_2.out.1; have y0 := Y_2.out.at 0 rfl; have yf0 := Y_2.out.free 0 rfl; have y1 := Y_2.out.at 1 rfl; have yf1 := Y_2.out.free 1 rfl; have y2 := Y_2.out.at 2 rfl; have yf2 := Y_2.out.free 2 rfl; have y3 := Y_2.out.at 3 rfl; have yf3 := Y_2.out.free 3 rfl; have y4 := Y_2.out.at 4 rfl; have yf4 := Y_2.out.free 4 rfl; have y5 := Y_2.out.at 5 rfl; have yf5 := Y_2.out.free 5 rfl
  go_wp2
  go_ret
  exact ⟨rfl, HB1.out⟩

set_option maxRecDepth 100000 in
set_option maxHeartbeats 400000 in
theorem markCT_any (co nx sc fr : Int) (d : Bool) (a : Option Addr) (n c lo hi : Nat) (f : Nat → Int) (k : Int) (w : World) (ho : OwnIn w lo hi a n f) (hn : n ≤ 1048576) (hk0 : 0 ≤ k) (hk1 : k ≤ 1048576) :
    Calls Try.prog 24 #[.agg #[.int .i64 co, .slice a n c, .int .i64 nx, .int .i64 sc, .int .i64 fr, .bool d], .int .i64 k] w (RetMark w lo hi a n k) := by
  have HO := Lib.hid ho
  clear ho
  go_enter Try.func24, Try.ntmps24
  go_wp2_with (go_at_call 23; (with_reducible refine (markInts_any _ _ _ _ _ _ _ _ (HO.out.alloc _) hn hk0 hk1).mono ?_); rintro e w1 ⟨rfl, ho1, hk⟩; have HO1 := Lib.hid ho1; have HK1 := Lib.hid hk; clear ho1 hk)
  go_ret
  exact ⟨rfl, HO1.out, (keeps_of_below ((Below.refl _ _).alloc (Nat.le_refl _) _) lo hi).trans HK1.out⟩

set_option maxRecDepth 100000 in
set_option maxHeartbeats 400000 in
theorem heldCT_any (co nx sc fr : Int) (d : Bool) (a : Option Addr) (n c : Nat) (k : Int) (w : World) (hs : Src w a n (fun i => k + i)) (hn : n ≤ 1048576) (hk0 : 0 ≤ k) (hk1 : k ≤ 1048576) :
    Calls Try.prog 25 #[.agg #[.int .i64 co, .slice a n c, .int .i64 nx, .int .i64 sc, .int .i64 fr, .bool d], .int .i64 k] w (RetInt w (k + n)) := by
  have HS := Lib.hid hs
  clear hs
  go_enter Try.func25, Try.ntmps25
  go_wp2_with (go_at_call 54; (with_reducible refine (heldInts_any _ _ _ _ _ (HS.out.alloc _) hn hk0 hk1).mono ?_); rintro e w1 ⟨rfl, rfl⟩)
  go_ret
  exact ⟨rfl, (Below.refl _ _).alloc (Nat.le_refl _) _⟩
end Go.Proofs.Ytnacdhnnpddccaa

namespace Go.Proofs.Ytnacdhnnpddccaa
open Go.RowKit
set_option linter.unusedVariables false

set_option maxRecDepth 100000 in
set_option maxHeartbeats 400000 in
theorem szInts_ok (a : Option Addr) (n cap : Nat) (l : Int) (w : World) (hl0 : 0 ≤ l) (hl : l ≤ 1048576) (hn : n ≤ maxLen) (h : n ≤ l) :
    Calls Try.prog 46 #[.slice a n cap, .int .i64 l] w fun e w' => e = .returned (.int .i64 (l - n)) ∧ w = w' := by
  unfold maxLen at hn
  go_enter Try.func46, Try.ntmps46
  go_wp2
  go_ret
  exact ⟨rfl, rfl⟩

set_option maxRecDepth 100000 in
set_option maxHeartbeats 400000 in
theorem szInts_no (a : Option Addr) (n cap : Nat) (l : Int) (w : World) (hl0 : 0 ≤ l) (hl : l ≤ 1048576) (hn : n ≤ maxLen) (h : l < n) :
    Calls Try.prog 46 #[.slice a n cap, .int .i64 l] w fun e w' => e = .returned (.int .i64 (-1)) ∧ w = w' := by
  unfold maxLen at hn
  go_enter Try.func46, Try.ntmps46
  go_wp2
  go_ret
  exact ⟨rfl, rfl⟩

set_option maxRecDepth 100000 in
set_option maxHeartbeats 400000 in
theorem szArena_ok (h ac bu : Int) (a : Option Addr) (n cap : Nat) (l : Int) (w : World) (hl0 : 0 ≤ l) (hl : l ≤ 1048576) (hn : n ≤ maxLen) (hh : n ≤ l) :
    Calls Try.prog 15 #[.agg #[.int .i64 h, .slice a n cap, .int .i64 ac, .int .i64 bu], .int .i64 l] w fun e w' => e = .returned (.int .i64 (l - n)) ∧ Below w.heap.size w w' := by
  go_enter Try.func15, Try.ntmps15
  go_wp2_with (go_at_call 46; refine (szInts_ok _ _ _ _ _ hl0 hl hn hh).mono ?_; rintro e w' ⟨rfl, rfl⟩)
  go_ret
  exact ⟨rfl, (Below.refl _ _).alloc (Nat.le_refl _) _⟩

set_option maxRecDepth 100000 in
set_option maxHeartbeats 400000 in
theorem szArena_no (h ac bu : Int) (a : Option Addr) (n cap : Nat) (l : Int) (w : World) (hl0 : 0 ≤ l) (hl : l ≤ 1048576) (hn : n ≤ maxLen) (hh : l < n) :
    Calls Try.prog 15 #[.agg #[.int .i64 h, .slice a n cap, .int .i64 ac, .int .i64 bu], .int .i64 l] w fun e w' => e = .returned (.int .i64 (-1)) ∧ Below w.heap.size w w' := by
  go_enter Try.func15, Try.ntmps15
  go_wp2_with (go_at_call 46; refine (szInts_no _ _ _ _ _ hl0 hl hn hh).mono ?_; rintro e w' ⟨rfl, rfl⟩)
  go_ret
  exact ⟨rfl, (Below.refl _ _).alloc (Nat.le_refl _) _⟩
end Go.Proofs.Ytnacdhnnpddccaa

namespace Go.Proofs.Ytnacdhnnpddccaa
open Go.RowKit Go.Maps
set_option linter.unusedVariables false

theorem src_list {w : World} {a : Option Addr} {n : Nat} {f : Nat → Int} (h : Src w a n f) : ∃ l : List Int, l.length = n ∧ Src w a l.length (lf l) := by
  refine ⟨(List.range n).map f, by simp, ?_⟩
  rw [show ((List.range n).map f).length = n by simp]
  refine h.congr fun i hi => ?_
  unfold lf
  rw [List.getD_eq_getElem?_getD]
  simp [hi]

set_option maxRecDepth 100000 in
set_option maxHeartbeats 400000 in
theorem markInts_big (a : Option Addr) (n c lo hi : Nat) (f : Nat → Int) (k : Int) (w : World) (ho : OwnIn w lo hi a n f) (hn : n ≤ 1048576) (hk0 : 0 ≤ k) (hk1 : k ≤ 4194304) :
    Calls Try.prog 23 #[.slice a n c, .int .i64 k] w (RetMark w lo hi a n k) := by
  have HO := Lib.hid ho
  clear ho
  go_enter Try.func23, Try.ntmps23
  go_wp2
  go_loopw [1, 5] (fun q p wr => ∃ i : Nat, i ≤ n ∧ p = .int .i64 i ∧ q = .int .i64 (k + i) ∧ Hid (Keeps w wr lo hi) ∧ Hid (OwnIn wr lo hi a n (fun j => if j < i then k + j else f j))) (fun _ p _ => n - (intOf p).toNat)
  case atStart => exact ⟨0, Nat.zero_le _, rfl, by simp, Keeps.refl _ _ _, by simpa using HO⟩
  case round =>
    obtain ⟨i, hi', rfl, rfl, HK, HR⟩ := hrel
    by_cases hlt : i < n
    · obtain ⟨b, off, rfl, hb, hc⟩ := src_some HR.out.src (by omega)
      have c1 := hc i hlt
      have hfz : wr.frozen? ⟨b, off + i, none⟩ = false := by
        rcases HR.out with h | ⟨b', off', h1, _, _, h4⟩
        · omega
        · simp only [Option.some.injEq, Addr.mk.injEq, and_true] at h1
          obtain ⟨rfl, rfl⟩ := h1
          exact (h4 i hlt).2
      have hst := Lib.hid (HR.out.stored i hlt (k + i))
      have hlt' : (i : Int) < (n : Int) := by omega
      clear hc
      go_wp2
      go_roundw
      case rel =>
        refine ⟨i + 1, by omega, by go_num, by go_num, HK.out.trans hst.out.2, hst.out.1.congr fun j hj => ?_⟩
        by_cases h1 : j = i
        · subst h1; simp
        · have h2 : (j < i + 1) = (j < i) := by simp only [eq_iff_iff]; omega
          simp only [h1, if_false, h2]
      case measure => simp [intOf]; omega
    · go_wp2
      go_ret
      obtain rfl : i = n := by omega
      exact ⟨rfl, HR.out.congr fun j hj => by simp [hj], HK.out⟩
end Go.Proofs.Ytnacdhnnpddccaa

namespace Go.Proofs.Ytnacdhnnpddccaa
open Go.RowKit
set_option linter.unusedVariables false

set_option maxRecDepth 100000 in
set_option maxHeartbeats 800000 in
theorem e4_farA (h ac bu : Int) (a : Option Addr) (n c : Nat) (f : Nat → Int) (ra : Option Addr) (roots : List Int) (rc : Nat) (m : Int) (w : World) (hn : n ≤ maxLen) (hbig : 1048576 < n) (hrb : roots.length ≤ 1048576) :
    Calls Try.prog 4 #[.agg #[.int .i64 h, .slice a n c, .int .i64 ac, .int .i64 bu], .slice ra roots.length rc, .int .i64 m] w (RetBool w true) := by
  have hrd : ¬ (1048576 : Int) < (roots.length : Int) := by omega
  go_enter Try.func4, Try.ntmps4
  go_wp2_with (go_at_call 15; (with_reducible refine (szArena_no _ _ _ _ _ _ _ _ (by omega) (by omega) hn (by omega)).mono ?_); rintro e w1 ⟨rfl, hb⟩; obtain ⟨hc, hf⟩ := bcell hb; have HB := Lib.hid hb; have hz := hb.size; clear hb)
  go_ret
  exact ⟨rfl, ((Below.refl _ _).alloc (Nat.le_refl _) _).trans (HB.out.mono (by simp; try omega))⟩

set_option maxRecDepth 100000 in
set_option maxHeartbeats 400000 in
theorem e4_farR (h ac bu : Int) (a : Option Addr) (n c : Nat) (f : Nat → Int) (ra : Option Addr) (roots : List Int) (rc : Nat) (m : Int) (w : World) (hrb : 1048576 < roots.length) :
    Calls Try.prog 4 #[.agg #[.int .i64 h, .slice a n c, .int .i64 ac, .int .i64 bu], .slice ra roots.length rc, .int .i64 m] w (RetBool w true) := by
  have hrd : (1048576 : Int) < (roots.length : Int) := by omega
  go_enter Try.func4, Try.ntmps4
  go_wp2
  go_ret
  exact ⟨rfl, (Below.refl _ _).alloc (Nat.le_refl _) _⟩

set_option maxRecDepth 100000 in
set_option maxHeartbeats 6400000 in
theorem e4_near (h ac bu : Int) (a : Option Addr) (n c : Nat) (f : Nat → Int) (ra : Option Addr) (roots : List Int) (rc : Nat) (m : Int) (w : World) (hs : Src w a n f) (hq : Src w ra roots.length (lf roots)) (hbig : n ≤ 1048576) (hrb : roots.length ≤ 1048576) :
    Calls Try.prog 4 #[.agg #[.int .i64 h, .slice a n c, .int .i64 ac, .int .i64 bu], .slice ra roots.length rc, .int .i64 m] w (RetBool w true) := by
  obtain ⟨co, n1, f1, xnx, xsc, xfr, xd, hbo⟩ := both_ca h n f ac bu roots m
  have hn1 : n1 ≤ 1048576 := hbo.1
  have HSP := Lib.hid hbo.2.1; have HIM := Lib.hid hbo.2.2
  have hrd : ¬ (1048576 : Int) < (roots.length : Int) := by omega
  clear hbo
  have HS := Lib.hid hs
  have HQ := Lib.hid hq
  clear hs hq
  have HS0 := HS; have HQ0 := HQ
  go_enter Try.func4, Try.ntmps4
  go_wp2_with fail
  refine (szArena_ok _ _ _ _ _ _ _ _ (by omega) (by omega) (by unfold maxLen; omega) (by omega)).mono ?_
  rintro e w1 ⟨rfl, hb⟩
  have HB1 : Hid (Below w.heap.size w w1) := thru1 (Below.refl _ _) hb
  have z1 : w.heap.size + 1 ≤ w1.heap.size := by have := hb.size; simp at this; omega
  have HS_1 := Lib.hid ((HS.out.alloc _).below hb)
  have HQ_1 := Lib.hid ((HQ.out.alloc _).below hb)
  have A_1 := Lib.hid ((Blk.new_at (w.heap.size) (by simp)).below hb)
  clear hb HS HQ
  have lA := A_1.out.1
  have cA0 := A_1.out.at 0 rfl
  have cA1 := A_1.out.at 1 rfl
  have cA2 := A_1.out.at 2 rfl
  have cA3 := A_1.out.at 3 rfl
  go_wp2_with fail
  refine (toArena_any _ _ _ _ _ _ f _ HS_1.out hbig).mono ?_
  rintro e w2 ⟨u2, c2, rfl, ho, hb, hc2, hcm2, hn2⟩
  have HB2 : Hid (Below w.heap.size w w2) := thru0 HB1.out hb
  have z2 : w1.heap.size ≤ w2.heap.size := hb.size
  have HS_2 := Lib.hid (HS_1.out.below hb)
  have HQ_2 := Lib.hid (HQ_1.out.below hb)
  have A_2 := Lib.hid (A_1.out.below hb)
  have RA_2 : Hid (OwnIn w2 (w1.heap.size) w2.heap.size u2 n f) := ho.into
  clear hb lA cA0 cA1 cA2 cA3 HS_1 HQ_1 A_1 HB1 ho
  go_wp2_with fail
  refine (toInts_any _ _ _ (lf roots) _ HQ_2.out hrb).mono ?_
  rintro e w3 ⟨u3, c3, rfl, ho, hb, hc3, hcm3, hn3⟩
  have HB3 : Hid (Below w.heap.size w w3) := thru0 HB2.out hb
  have z3 : w2.heap.size ≤ w3.heap.size := hb.size
  have HS_3 := Lib.hid (HS_2.out.below hb)
  have HQ_3 := Lib.hid (HQ_2.out.below hb)
  have A_3 := Lib.hid (A_2.out.below hb)
  have RA_3 := Lib.hid (RA_2.out.below hb)
  have QA_3 : Hid (OwnIn w3 (w2.heap.size) w3.heap.size u3 roots.length (lf roots)) := ho.into
  clear hb HS_2 HQ_2 A_2 RA_2 HB2 ho
  go_wp2_with fail
  refine (HSP.out _ _ _ _ _ RA_3.out.src hc2 hcm2 QA_3.out.src).mono ?_
  rintro e w4 ⟨u4, c4, rfl, ho, hb, _, _⟩
  have HB4 : Hid (Below w.heap.size w w4) := thru0 HB3.out hb
  have z4 : w3.heap.size ≤ w4.heap.size := hb.size
  have HS_4 := Lib.hid (HS_3.out.below hb)
  have HQ_4 := Lib.hid (HQ_3.out.below hb)
  have A_4 := Lib.hid (A_3.out.below hb)
  have RA_4 := Lib.hid (RA_3.out.below hb)
  have QA_4 := Lib.hid (QA_3.out.below hb)
  have RW_4 : Hid (OwnIn w4 (w3.heap.size) w4.heap.size u4 n1 f1) := ho.into
  clear hb HS_3 HQ_3 A_3 RA_3 QA_3 HB3 ho
  clear RA_4 QA_4
  have lA := A_4.out.1
  have cA0 := A_4.out.at 0 rfl
  have cA1 := A_4.out.at 1 rfl
  have cA2 := A_4.out.at 2 rfl
  have cA3 := A_4.out.at 3 rfl
  go_wp2_with fail
  refine (toArena_any _ _ _ _ _ _ f _ (HS_4.out.alloc _) hbig).mono ?_
  rintro e w5 ⟨u5, c5, rfl, ho, hb, hc5, hcm5, hn5⟩
  have HB5 : Hid (Below w.heap.size w w5) := thru1 HB4.out hb
  have z5 : w4.heap.size + 1 ≤ w5.heap.size := by have := hb.size; simp at this; omega
  have HS_5 := Lib.hid ((HS_4.out.alloc _).below hb)
  have HQ_5 := Lib.hid ((HQ_4.out.alloc _).below hb)
  have A_5 := Lib.hid ((A_4.out.alloc _).below hb)
  have RW_5 := Lib.hid ((RW_4.out.alloc _).below hb)
  have W_5 := Lib.hid ((Blk.new_at (w4.heap.size) (by simp)).below hb)
  have RX_5 : Hid (OwnIn w5 (w4.heap.size + 1) w5.heap.size u5 n f) := (ho.mono (by simp)).into
  clear hb lA cA0 cA1 cA2 cA3 HS_4 HQ_4 A_4 RW_4 HB4 ho
  go_wp2_with fail
  refine (toInts_any _ _ _ (lf roots) _ (HQ_5.out.alloc _) hrb).mono ?_
  rintro e w6 ⟨u6, c6, rfl, ho, hb, hc6, hcm6, hn6⟩
  have HB6 : Hid (Below w.heap.size w w6) := thru1 HB5.out hb
  have z6 : w5.heap.size + 1 ≤ w6.heap.size := by have := hb.size; simp at this; omega
  have HS_6 := Lib.hid ((HS_5.out.alloc _).below hb)
  have HQ_6 := Lib.hid ((HQ_5.out.alloc _).below hb)
  have A_6 := Lib.hid ((A_5.out.alloc _).below hb)
  have RW_6 := Lib.hid ((RW_5.out.alloc _).below hb)
  have W_6 := Lib.hid ((W_5.out.alloc _).below hb)
  have RX_6 := Lib.hid ((RX_5.out.alloc _).below hb)
  have X_6 := Lib.hid ((Blk.new_at (w5.heap.size) (by simp)).below hb)
  have RQ_6 : Hid (OwnIn w6 (w5.heap.size + 1) w6.heap.size u6 roots.length (lf roots)) := (ho.mono (by simp)).into
  clear hb HS_5 HQ_5 A_5 RW_5 W_5 RX_5 HB5 ho
  have lX := X_6.out.1
  have cX0 := X_6.out.at 0 rfl
  have cX1 := X_6.out.at 1 rfl
  have cX2 := X_6.out.at 2 rfl
  have cX3 := X_6.out.at 3 rfl
  go_wp2_with fail
  refine (HIM.out _ _ _ _ _ RX_6.out.src hc5 hcm5 RQ_6.out.src).mono ?_
  rintro e w7 ⟨u7, c7, rfl, ho, hb, _, _⟩
  have HB7 : Hid (Below w.heap.size w w7) := thru0 HB6.out hb
  have z7 : w6.heap.size ≤ w7.heap.size := hb.size
  have HS_7 := Lib.hid (HS_6.out.below hb)
  have HQ_7 := Lib.hid (HQ_6.out.below hb)
  have A_7 := Lib.hid (A_6.out.below hb)
  have RW_7 := Lib.hid (RW_6.out.below hb)
  have W_7 := Lib.hid (W_6.out.below hb)
  have RX_7 := Lib.hid (RX_6.out.below hb)
  have X_7 := Lib.hid (X_6.out.below hb)
  have RQ_7 := Lib.hid (RQ_6.out.below hb)
  have RG_7 : Hid (OwnIn w7 (w6.heap.size) w7.heap.size u7 n1 f1) := ho.into
  clear hb lX cX0 cX1 cX2 cX3 HS_6 HQ_6 A_6 RW_6 W_6 RX_6 X_6 RQ_6 HB6 ho
  have lW := W_7.out.1
  have cW0 := W_7.out.at 0 rfl
  have cW1 := W_7.out.at 1 rfl
  have cW2 := W_7.out.at 2 rfl
  have cW3 := W_7.out.at 3 rfl
  have cW4 := W_7.out.at 4 rfl
  have cW5 := W_7.out.at 5 rfl
  go_wp2_with fail
  refine (eqCT_same _ _ _ _ _ _ _ _ _ _ f1 f1 _ (RG_7.out.alloc _).src (RW_7.out.alloc _).src hn1 (fun _ _ => rfl)).mono ?_
  rintro e w8 ⟨rfl, hb⟩
  have HB8 : Hid (Below w.heap.size w w8) := thru1 HB7.out hb
  have z8 : w7.heap.size + 1 ≤ w8.heap.size := by have := hb.size; simp at this; omega
  have HS_8 := Lib.hid ((HS_7.out.alloc _).below hb)
  have HQ_8 := Lib.hid ((HQ_7.out.alloc _).below hb)
  have A_8 := Lib.hid ((A_7.out.alloc _).below hb)
  have RW_8 := Lib.hid ((RW_7.out.alloc _).below hb)
  have W_8 := Lib.hid ((W_7.out.alloc _).below hb)
  have RX_8 := Lib.hid ((RX_7.out.alloc _).below hb)
  have X_8 := Lib.hid ((X_7.out.alloc _).below hb)
  have RQ_8 := Lib.hid ((RQ_7.out.alloc _).below hb)
  have RG_8 := Lib.hid ((RG_7.out.alloc _).below hb)
  have G_8 := Lib.hid ((Blk.new_at (w7.heap.size) (by simp)).below hb)
  clear hb lW cW0 cW1 cW2 cW3 cW4 cW5 HS_7 HQ_7 A_7 RW_7 W_7 RX_7 X_7 RQ_7 RG_7 HB7
  have lA := A_8.out.1
  have cA0 := A_8.out.at 0 rfl
  have cA1 := A_8.out.at 1 rfl
  have cA2 := A_8.out.at 2 rfl
  have cA3 := A_8.out.at 3 rfl
  have lX := X_8.out.1
  have cX0 := X_8.out.at 0 rfl
  have cX1 := X_8.out.at 1 rfl
  have cX2 := X_8.out.at 2 rfl
  have cX3 := X_8.out.at 3 rfl
  go_wp2_with fail
  have HS_8d := Lib.hid HS_8.out.drew
  have HQ_8d := Lib.hid HQ_8.out.drew
  have A_8d := Lib.hid A_8.out.drew
  have RW_8d := Lib.hid RW_8.out.drew
  have W_8d := Lib.hid W_8.out.drew
  have RX_8d := Lib.hid RX_8.out.drew
  have X_8d := Lib.hid X_8.out.drew
  have RQ_8d := Lib.hid RQ_8.out.drew
  have RG_8d := Lib.hid RG_8.out.drew
  have G_8d := Lib.hid G_8.out.drew
  have HB8d := Lib.hid HB8.out.drew
  go_region_held3 (fun w' => w'.cell? ⟨w.heap.size, 0, none⟩ = some (.int .i64 h) ∧ w'.cell? ⟨w.heap.size, 1, none⟩ = some (.slice a n c) ∧ w'.cell? ⟨w.heap.size, 2, none⟩ = some (.int .i64 ac) ∧ w'.cell? ⟨w.heap.size, 3, none⟩ = some (.int .i64 bu) ∧ w'.cell? ⟨w5.heap.size, 0, none⟩ = some (.int .i64 h) ∧ w'.cell? ⟨w5.heap.size, 1, none⟩ = some (.slice u5 n c5) ∧ w'.cell? ⟨w5.heap.size, 2, none⟩ = some (.int .i64 ac) ∧ w'.cell? ⟨w5.heap.size, 3, none⟩ = some (.int .i64 bu))
    (first | exact ⟨A_8d.out.at 0 rfl, A_8d.out.at 1 rfl, A_8d.out.at 2 rfl, A_8d.out.at 3 rfl, X_8d.out.at 0 rfl, X_8d.out.at 1 rfl, X_8d.out.at 2 rfl, X_8d.out.at 3 rfl⟩ | exact ⟨A_9.out.at 0 rfl, A_9.out.at 1 rfl, A_9.out.at 2 rfl, A_9.out.at 3 rfl, X_9.out.at 0 rfl, X_9.out.at 1 rfl, X_9.out.at 2 rfl, X_9.out.at 3 rfl⟩ | exact ⟨A_10.out.at 0 rfl, A_10.out.at 1 rfl, A_10.out.at 2 rfl, A_10.out.at 3 rfl, X_10.out.at 0 rfl, X_10.out.at 1 rfl, X_10.out.at 2 rfl, X_10.out.at 3 rfl⟩)
    (first | (go_at_call 17; refine (toArena_any _ _ _ _ _ _ f _ HS_8d.out hbig).mono ?_; rintro e w9 ⟨u9, c9, rfl, ho, hb, hc9, hcm9, hn9⟩; have HB9 := Lib.hid (thru0 HB8d.out hb); have z9 : w8.heap.size ≤ w9.heap.size := hb.size; have HS_9 := Lib.hid (HS_8d.out.below hb); have HQ_9 := Lib.hid (HQ_8d.out.below hb); have A_9 := Lib.hid (A_8d.out.below hb); have RW_9 := Lib.hid (RW_8d.out.below hb); have W_9 := Lib.hid (W_8d.out.below hb); have RX_9 := Lib.hid (RX_8d.out.below hb); have X_9 := Lib.hid (X_8d.out.below hb); have RQ_9 := Lib.hid (RQ_8d.out.below hb); have RG_9 := Lib.hid (RG_8d.out.below hb); have G_9 := Lib.hid (G_8d.out.below hb); have RT_9 : Hid (OwnIn w9 w8.heap.size w9.heap.size u9 n f) := ho.into; clear hb ho) | (go_at_call 20; refine (eqArena_same _ _ _ _ _ _ _ _ f f _ RX_9.out.src RT_9.out.src hbig (fun _ _ => rfl)).mono ?_; rintro e w10 ⟨rfl, hb⟩; have HB10 := Lib.hid (thru0 HB9.out hb); have z10 : w9.heap.size ≤ w10.heap.size := hb.size; have HS_10 := Lib.hid (HS_9.out.below hb); have HQ_10 := Lib.hid (HQ_9.out.below hb); have A_10 := Lib.hid (A_9.out.below hb); have RW_10 := Lib.hid (RW_9.out.below hb); have W_10 := Lib.hid (W_9.out.below hb); have RX_10 := Lib.hid (RX_9.out.below hb); have X_10 := Lib.hid (X_9.out.below hb); have RQ_10 := Lib.hid (RQ_9.out.below hb); have RG_10 := Lib.hid (RG_9.out.below hb); have G_10 := Lib.hid (G_9.out.below hb); have RT_10 := Lib.hid (RT_9.out.below hb); clear hb))

  go_wp2_with fail
  refine (toInts_any _ _ _ (lf roots) _ HQ_10.out hrb).mono ?_
  rintro e w11 ⟨u11, c11, rfl, ho, hb, hc11, hcm11, hn11⟩
  have HB11 : Hid (Below w.heap.size w w11) := thru0 HB10.out hb
  have z11 : w10.heap.size ≤ w11.heap.size := hb.size
  have HS_11 := Lib.hid (HS_10.out.below hb)
  have HQ_11 := Lib.hid (HQ_10.out.below hb)
  have A_11 := Lib.hid (A_10.out.below hb)
  have RW_11 := Lib.hid (RW_10.out.below hb)
  have W_11 := Lib.hid (W_10.out.below hb)
  have RX_11 := Lib.hid (RX_10.out.below hb)
  have X_11 := Lib.hid (X_10.out.below hb)
  have RQ_11 := Lib.hid (RQ_10.out.below hb)
  have RG_11 := Lib.hid (RG_10.out.below hb)
  have G_11 := Lib.hid (G_10.out.below hb)
  have QT_11 : Hid (OwnIn w11 (w10.heap.size) w11.heap.size u11 roots.length (lf roots)) := ho.into
  clear hb HS_10 HQ_10 A_10 RW_10 W_10 RX_10 X_10 RQ_10 RG_10 G_10 HB10 ho
  go_wp2_with fail
  refine (eqInts_same _ _ _ _ _ (lf roots) (lf roots) _ RQ_11.out.src QT_11.out.src hrb).mono ?_
  rintro e w12 ⟨hret, hb⟩
  have HB12 : Hid (Below w.heap.size w w12) := thru0 HB11.out hb
  have z12 : w11.heap.size ≤ w12.heap.size := hb.size
  have HS_12 := Lib.hid (HS_11.out.below hb)
  have HQ_12 := Lib.hid (HQ_11.out.below hb)
  have A_12 := Lib.hid (A_11.out.below hb)
  have RW_12 := Lib.hid (RW_11.out.below hb)
  have W_12 := Lib.hid (W_11.out.below hb)
  have RX_12 := Lib.hid (RX_11.out.below hb)
  have X_12 := Lib.hid (X_11.out.below hb)
  have RQ_12 := Lib.hid (RQ_11.out.below hb)
  have RG_12 := Lib.hid (RG_11.out.below hb)
  have G_12 := Lib.hid (G_11.out.below hb)
  have QT_12 := Lib.hid (QT_11.out.below hb)
  rw [eqB_yes (fun _ _ => rfl)] at hret
  subst hret
  clear hb HS_11 HQ_11 A_11 RW_11 W_11 RX_11 X_11 RQ_11 RG_11 G_11 QT_11 HB11
  clear QT_12
  have lX := X_12.out.1
  have cX0 := X_12.out.at 0 rfl
  have cX1 := X_12.out.at 1 rfl
  have cX2 := X_12.out.at 2 rfl
  have cX3 := X_12.out.at 3 rfl
  go_wp2_with fail
  clear HS_12 HQ_12
  refine (markArena_any _ _ _ _ _ _ _ _ _ _ _ RX_12.out hbig (by omega) (by omega)).mono ?_
  rintro e w13 ⟨rfl, ho, hk⟩
  have HB13 : Hid (Below w.heap.size w w13) := HB12.out.trans (hk.below (by omega) HB12.out.size)
  have z13 : w12.heap.size ≤ w13.heap.size := hk.size
  have A_13 := Lib.hid (A_12.out.keeps hk (by omega))
  have RW_13 := Lib.hid (RW_12.out.keeps hk (by omega))
  have W_13 := Lib.hid (W_12.out.keeps hk (by omega))
  have X_13 := Lib.hid (X_12.out.keeps hk (by omega))
  have RQ_13 := Lib.hid (RQ_12.out.keeps hk (by omega))
  have RG_13 := Lib.hid (RG_12.out.keeps hk (by omega))
  have G_13 := Lib.hid (G_12.out.keeps hk (by omega))
  have RX_13 : Hid (OwnIn w13 (w4.heap.size + 1) w5.heap.size u5 n (fun i => 1 + i)) := ho
  clear hk lX cX0 cX1 cX2 cX3 A_12 RW_12 W_12 RX_12 X_12 RQ_12 RG_12 G_12 HB12 ho
  go_wp2_with fail
  refine (markInts_big _ _ _ _ _ _ _ _ RQ_13.out hrb (by omega) (by omega)).mono ?_
  rintro e w14 ⟨rfl, ho, hk⟩
  have HB14 : Hid (Below w.heap.size w w14) := HB13.out.trans (hk.below (by omega) HB13.out.size)
  have z14 : w13.heap.size ≤ w14.heap.size := hk.size
  have A_14 := Lib.hid (A_13.out.keeps hk (by omega))
  have RW_14 := Lib.hid (RW_13.out.keeps hk (by omega))
  have W_14 := Lib.hid (W_13.out.keeps hk (by omega))
  have X_14 := Lib.hid (X_13.out.keeps hk (by omega))
  have RG_14 := Lib.hid (RG_13.out.keeps hk (by omega))
  have G_14 := Lib.hid (G_13.out.keeps hk (by omega))
  have RX_14 := Lib.hid (RX_13.out.keeps hk (by omega))
  have RQ_14 : Hid (OwnIn w14 (w5.heap.size + 1) w6.heap.size u6 roots.length (fun i => (1 + (n : Int)) + i)) := ho
  clear hk A_13 RW_13 W_13 X_13 RQ_13 RG_13 G_13 RX_13 HB13 ho
  have lW := W_14.out.1
  have cW0 := W_14.out.at 0 rfl
  have cW1 := W_14.out.at 1 rfl
  have cW2 := W_14.out.at 2 rfl
  have cW3 := W_14.out.at 3 rfl
  have cW4 := W_14.out.at 4 rfl
  have cW5 := W_14.out.at 5 rfl
  have lG := G_14.out.1
  have cG0 := G_14.out.at 0 rfl
  have cG1 := G_14.out.at 1 rfl
  have cG2 := G_14.out.at 2 rfl
  have cG3 := G_14.out.at 3 rfl
  have cG4 := G_14.out.at 4 rfl
  have cG5 := G_14.out.at 5 rfl
  go_wp2_with fail
  refine (eqCT_same _ _ _ _ _ _ _ _ _ _ f1 f1 _ RG_14.out.src RW_14.out.src hn1 (fun _ _ => rfl)).mono ?_
  rintro e w15 ⟨rfl, hb⟩
  have HB15 : Hid (Below w.heap.size w w15) := thru0 HB14.out hb
  have z15 : w14.heap.size ≤ w15.heap.size := hb.size
  have A_15 := Lib.hid (A_14.out.below hb)
  have RW_15 := Lib.hid (RW_14.out.below hb)
  have W_15 := Lib.hid (W_14.out.below hb)
  have X_15 := Lib.hid (X_14.out.below hb)
  have RG_15 := Lib.hid (RG_14.out.below hb)
  have G_15 := Lib.hid (G_14.out.below hb)
  have RX_15 := Lib.hid (RX_14.out.below hb)
  have RQ_15 := Lib.hid (RQ_14.out.below hb)
  clear hb lW cW0 cW1 cW2 cW3 cW4 cW5 lG cG0 cG1 cG2 cG3 cG4 cG5 A_14 RW_14 W_14 X_14 RG_14 G_14 RX_14 RQ_14 HB14
  have lG := G_15.out.1
  have cG0 := G_15.out.at 0 rfl
  have cG1 := G_15.out.at 1 rfl
  have cG2 := G_15.out.at 2 rfl
  have cG3 := G_15.out.at 3 rfl
  have cG4 := G_15.out.at 4 rfl
  have cG5 := G_15.out.at 5 rfl
  go_wp2_with fail
  refine (markCT_any _ _ _ _ _ _ _ _ _ _ _ _ _ RG_15.out hn1 (by omega) (by omega)).mono ?_
  rintro e w16 ⟨rfl, ho, hk⟩
  have HB16 : Hid (Below w.heap.size w w16) := HB15.out.trans (hk.below (by omega) HB15.out.size)
  have z16 : w15.heap.size ≤ w16.heap.size := hk.size
  have A_16 := Lib.hid (A_15.out.keeps hk (by omega))
  have RW_16 := Lib.hid (RW_15.out.keeps hk (by omega))
  have W_16 := Lib.hid (W_15.out.keeps hk (by omega))
  have X_16 := Lib.hid (X_15.out.keeps hk (by omega))
  have G_16 := Lib.hid (G_15.out.keeps hk (by omega))
  have RX_16 := Lib.hid (RX_15.out.keeps hk (by omega))
  have RQ_16 := Lib.hid (RQ_15.out.keeps hk (by omega))
  have RG_16 : Hid (OwnIn w16 (w6.heap.size) w7.heap.size u7 n1 (fun i => 1 + i)) := ho
  clear hk lG cG0 cG1 cG2 cG3 cG4 cG5 A_15 RW_15 W_15 X_15 RG_15 G_15 RX_15 RQ_15 HB15 ho
  have lG := G_16.out.1
  have cG0 := G_16.out.at 0 rfl
  have cG1 := G_16.out.at 1 rfl
  have cG2 := G_16.out.at 2 rfl
  have cG3 := G_16.out.at 3 rfl
  have cG4 := G_16.out.at 4 rfl
  have cG5 := G_16.out.at 5 rfl
  go_wp2_with fail
  refine (heldCT_any _ _ _ _ _ _ _ _ 1 _ RG_16.out.src hn1 (by omega) (by omega)).mono ?_
  rintro e w17 ⟨rfl, hb⟩
  have HB17 : Hid (Below w.heap.size w w17) := thru0 HB16.out hb
  have z17 : w16.heap.size ≤ w17.heap.size := hb.size
  have A_17 := Lib.hid (A_16.out.below hb)
  have RW_17 := Lib.hid (RW_16.out.below hb)
  have W_17 := Lib.hid (W_16.out.below hb)
  have X_17 := Lib.hid (X_16.out.below hb)
  have G_17 := Lib.hid (G_16.out.below hb)
  have RX_17 := Lib.hid (RX_16.out.below hb)
  have RQ_17 := Lib.hid (RQ_16.out.below hb)
  have RG_17 := Lib.hid (RG_16.out.below hb)
  clear hb lG cG0 cG1 cG2 cG3 cG4 cG5 A_16 RW_16 W_16 X_16 G_16 RX_16 RQ_16 RG_16 HB16
  have lA := A_17.out.1
  have cA0 := A_17.out.at 0 rfl
  have cA1 := A_17.out.at 1 rfl
  have cA2 := A_17.out.at 2 rfl
  have cA3 := A_17.out.at 3 rfl
  have HSk := Lib.hid (HS0.out.below HB17.out); have HQk := Lib.hid (HQ0.out.below HB17.out)
  go_wp2_with fail
  refine (toArena_any _ _ _ _ _ _ f _ HSk.out hbig).mono ?_
  rintro e w18 ⟨u18, c18, rfl, ho, hb, hc18, hcm18, hn18⟩
  have HB18 : Hid (Below w.heap.size w w18) := thru0 HB17.out hb
  have z18 : w17.heap.size ≤ w18.heap.size := hb.size
  have A_18 := Lib.hid (A_17.out.below hb)
  have RW_18 := Lib.hid (RW_17.out.below hb)
  have W_18 := Lib.hid (W_17.out.below hb)
  have X_18 := Lib.hid (X_17.out.below hb)
  have G_18 := Lib.hid (G_17.out.below hb)
  have RX_18 := Lib.hid (RX_17.out.below hb)
  have RQ_18 := Lib.hid (RQ_17.out.below hb)
  have RG_18 := Lib.hid (RG_17.out.below hb)
  have HS_18 := Lib.hid (HSk.out.below hb)
  have HQ_18 := Lib.hid (HQk.out.below hb)
  have RT_18 : Hid (OwnIn w18 (w17.heap.size) w18.heap.size u18 n f) := ho.into
  clear hb lA cA0 cA1 cA2 cA3 A_17 RW_17 W_17 X_17 G_17 RX_17 RQ_17 RG_17 HSk HQk HB17 ho
  go_wp2_with fail
  refine (toInts_any _ _ _ (lf roots) _ HQ_18.out hrb).mono ?_
  rintro e w19 ⟨u19, c19, rfl, ho, hb, hc19, hcm19, hn19⟩
  have HB19 : Hid (Below w.heap.size w w19) := thru0 HB18.out hb
  have z19 : w18.heap.size ≤ w19.heap.size := hb.size
  have A_19 := Lib.hid (A_18.out.below hb)
  have RW_19 := Lib.hid (RW_18.out.below hb)
  have W_19 := Lib.hid (W_18.out.below hb)
  have X_19 := Lib.hid (X_18.out.below hb)
  have G_19 := Lib.hid (G_18.out.below hb)
  have RX_19 := Lib.hid (RX_18.out.below hb)
  have RQ_19 := Lib.hid (RQ_18.out.below hb)
  have RG_19 := Lib.hid (RG_18.out.below hb)
  have HS_19 := Lib.hid (HS_18.out.below hb)
  have HQ_19 := Lib.hid (HQ_18.out.below hb)
  have RT_19 := Lib.hid (RT_18.out.below hb)
  have QT_19 : Hid (OwnIn w19 (w18.heap.size) w19.heap.size u19 roots.length (lf roots)) := ho.into
  clear hb A_18 RW_18 W_18 X_18 G_18 RX_18 RQ_18 RG_18 HS_18 HQ_18 RT_18 HB18 ho
  go_wp2_with fail
  refine (HIM.out _ _ _ _ _ RT_19.out.src hc18 hcm18 QT_19.out.src).mono ?_
  rintro e w20 ⟨u20, c20, rfl, ho, hb, _, _⟩
  have HB20 : Hid (Below w.heap.size w w20) := thru0 HB19.out hb
  have z20 : w19.heap.size ≤ w20.heap.size := hb.size
  have A_20 := Lib.hid (A_19.out.below hb)
  have RW_20 := Lib.hid (RW_19.out.below hb)
  have W_20 := Lib.hid (W_19.out.below hb)
  have X_20 := Lib.hid (X_19.out.below hb)
  have G_20 := Lib.hid (G_19.out.below hb)
  have RX_20 := Lib.hid (RX_19.out.below hb)
  have RQ_20 := Lib.hid (RQ_19.out.below hb)
  have RG_20 := Lib.hid (RG_19.out.below hb)
  have HS_20 := Lib.hid (HS_19.out.below hb)
  have HQ_20 := Lib.hid (HQ_19.out.below hb)
  have RT_20 := Lib.hid (RT_19.out.below hb)
  have QT_20 := Lib.hid (QT_19.out.below hb)
  have RH_20 : Hid (OwnIn w20 (w19.heap.size) w20.heap.size u20 n1 f1) := ho.into
  clear hb A_19 RW_19 W_19 X_19 G_19 RX_19 RQ_19 RG_19 HS_19 HQ_19 RT_19 QT_19 HB19 ho
  clear RT_20 QT_20
  have lW := W_20.out.1
  have cW0 := W_20.out.at 0 rfl
  have cW1 := W_20.out.at 1 rfl
  have cW2 := W_20.out.at 2 rfl
  have cW3 := W_20.out.at 3 rfl
  have cW4 := W_20.out.at 4 rfl
  have cW5 := W_20.out.at 5 rfl
  have lG := G_20.out.1
  have cG0 := G_20.out.at 0 rfl
  have cG1 := G_20.out.at 1 rfl
  have cG2 := G_20.out.at 2 rfl
  have cG3 := G_20.out.at 3 rfl
  have cG4 := G_20.out.at 4 rfl
  have cG5 := G_20.out.at 5 rfl
  go_wp2_with fail
  refine (eqCT_same _ _ _ _ _ _ _ _ _ _ f1 f1 _ (RH_20.out.alloc _).src (RW_20.out.alloc _).src hn1 (fun _ _ => rfl)).mono ?_
  rintro e w21 ⟨rfl, hb⟩
  have HB21 : Hid (Below w.heap.size w w21) := thru1 HB20.out hb
  have z21 : w20.heap.size + 1 ≤ w21.heap.size := by have := hb.size; simp at this; omega
  have A_21 := Lib.hid ((A_20.out.alloc _).below hb)
  have RW_21 := Lib.hid ((RW_20.out.alloc _).below hb)
  have W_21 := Lib.hid ((W_20.out.alloc _).below hb)
  have X_21 := Lib.hid ((X_20.out.alloc _).below hb)
  have G_21 := Lib.hid ((G_20.out.alloc _).below hb)
  have RX_21 := Lib.hid ((RX_20.out.alloc _).below hb)
  have RQ_21 := Lib.hid ((RQ_20.out.alloc _).below hb)
  have RG_21 := Lib.hid ((RG_20.out.alloc _).below hb)
  have HS_21 := Lib.hid ((HS_20.out.alloc _).below hb)
  have HQ_21 := Lib.hid ((HQ_20.out.alloc _).below hb)
  have RH_21 := Lib.hid ((RH_20.out.alloc _).below hb)
  clear hb lW cW0 cW1 cW2 cW3 cW4 cW5 lG cG0 cG1 cG2 cG3 cG4 cG5 A_20 RW_20 W_20 X_20 G_20 RX_20 RQ_20 RG_20 HS_20 HQ_20 RH_20 HB20
  have lG := G_21.out.1
  have cG0 := G_21.out.at 0 rfl
  have cG1 := G_21.out.at 1 rfl
  have cG2 := G_21.out.at 2 rfl
  have cG3 := G_21.out.at 3 rfl
  have cG4 := G_21.out.at 4 rfl
  have cG5 := G_21.out.at 5 rfl
  go_wp2_with fail
  refine (heldCT_any _ _ _ _ _ _ _ _ 1 _ RG_21.out.src hn1 (by omega) (by omega)).mono ?_
  rintro e w22 ⟨rfl, hb⟩
  have HB22 : Hid (Below w.heap.size w w22) := thru0 HB21.out hb
  have z22 : w21.heap.size ≤ w22.heap.size := hb.size
  have A_22 := Lib.hid (A_21.out.below hb)
  have RW_22 := Lib.hid (RW_21.out.below hb)
  have W_22 := Lib.hid (W_21.out.below hb)
  have X_22 := Lib.hid (X_21.out.below hb)
  have G_22 := Lib.hid (G_21.out.below hb)
  have RX_22 := Lib.hid (RX_21.out.below hb)
  have RQ_22 := Lib.hid (RQ_21.out.below hb)
  have RG_22 := Lib.hid (RG_21.out.below hb)
  have HS_22 := Lib.hid (HS_21.out.below hb)
  have HQ_22 := Lib.hid (HQ_21.out.below hb)
  have RH_22 := Lib.hid (RH_21.out.below hb)
  clear hb lG cG0 cG1 cG2 cG3 cG4 cG5 A_21 RW_21 W_21 X_21 G_21 RX_21 RQ_21 RG_21 HS_21 HQ_21 RH_21 HB21
  go_wp2
  go_ret
  exact ⟨rfl, HB22.out⟩

theorem e4_any (h ac bu : Int) (a : Option Addr) (n c : Nat) (f : Nat → Int) (ra : Option Addr) (rn rc : Nat) (rf : Nat → Int) (m : Int) (w : World) (hs : Src w a n f) (hn : n ≤ maxLen) (hq : Src w ra rn rf) (hqn : rn ≤ maxLen) : Calls Try.prog 4 #[.agg #[.int .i64 h, .slice a n c, .int .i64 ac, .int .i64 bu], .slice ra rn rc, .int .i64 m] w (RetBool w true) := by
  obtain ⟨roots, rfl, hq'⟩ := src_list hq
  by_cases hr : roots.length ≤ 1048576
  · by_cases hb : n ≤ 1048576
    · exact e4_near h ac bu a n c f ra roots rc m w hs hq' hb hr
    · exact e4_farA h ac bu a n c f ra roots rc m w hn (by omega) hr
  · exact e4_farR h ac bu a n c f ra roots rc m w (by omega)
end Go.Proofs.Ytnacdhnnpddccaa

