/- Texts merged: Z8 to Z9. -/
import Derived.Test.YtaenbjilcgpgcaaPSL2
namespace Go.Proofs.Ytaenbjilcgpgcaa
open Go.RowKit Go.Maps
set_option linter.unusedVariables false

theorem MapH.mono {w : World} {b n n' : Nat} {te : Int} {S : Nat → SL} {i : Nat} (h : MapH w b n te S i) (hn : n ≤ n') : MapH w b n' te S i := by
  obtain ⟨D, h1, h2⟩ := h
  exact ⟨D, h1.mono hn, h2⟩

set_option maxRecDepth 100000 in
set_option maxHeartbeats 3200000 in
theorem nbh_any (te qu ha : Int) (sa : Option Addr) (M kc : Nat) (S : Nat → SL) (na : Option Addr) (K nc : Nat) (T : Nat → GM) (w : World)
    (hp : PV w sa M S) (hg : NV w na K T) (hok : MOk te qu ha M S K T) :
    Calls Try.prog 91 #[.agg #[.int .i64 te, .int .i64 qu, .int .i64 ha, .slice sa M kc, .slice na K nc]] w fun e w' => ∃ mb, e = .returned (.map (some mb)) ∧ MapH w' mb M te S M ∧ Below w.heap.size w w' := by
  have P := Lib.hid hp; have G := Lib.hid hg; have HOK := Lib.hid hok
  have hM : M ≤ 8 := by have := hok.len.1.2; omega
  have hK : K ≤ 150 := by have := hok.len.2.2; omega
  have HTE : Hid (I64 te) := Lib.hid ⟨by have := hok.num.1; omega, by have := hok.num.1; omega⟩
  have HSG : Hid (∀ i, i < M → I64 (S i).g) := Lib.hid (fun i hi => by have := (hok.slot i hi).1; exact ⟨by omega, by omega⟩)
  have HLD : Hid (∀ i, i < M → ¬ (S i).nd = 0 → Has K T (S i).nd) := Lib.hid (fun i hi h0 => (hok.lead.1 i hi).resolve_left h0)
  have HM : Hid (∀ i j, i < j → j < K → (T i).at_ < (T j).at_) := Lib.hid (fun i j h1 h2 => rise_lt hok.rise j i h1 h2)
  have hmk := @run_makeMap Try.prog
  have A_0 := Lib.hid (Blk.new_at (w := w) (cs := #[.int .i64 te, .int .i64 qu, .int .i64 ha, .slice sa M kc, .slice na K nc]) (t := 54) w.heap.size rfl)
  have HB0 := Lib.hid ((Below.refl w.heap.size w).alloc (Nat.le_refl _) (.cells #[.int .i64 te, .int .i64 qu, .int .i64 ha, .slice sa M kc, .slice na K nc] 54))
  have zW : (w.alloc (.cells #[.int .i64 te, .int .i64 qu, .int .i64 ha, .slice sa M kc, .slice na K nc] 54)).heap.size = w.heap.size + 1 := by simp
  clear hp hg hok
  go_enter Try.func91, Try.ntmps91
  go_wp2_with fail
  generalize w.alloc (.cells #[.int .i64 te, .int .i64 qu, .int .i64 ha, .slice sa M kc, .slice na K nc] 54) = W0 at *
  have M_1 := Lib.hid (MapH.made W0 te S)
  rw [zW] at M_1
  have HB1 : Hid (Below (w.heap.size + 1) W0 (W0.alloc (.map #[] 0))) := Lib.hid ((Below.refl _ _).alloc (by omega) _)
  have HBW : Hid (∀ wr, Below (w.heap.size + 1) W0 wr → Below w.heap.size w wr) := Lib.hid (fun wr hb => HB0.out.trans (hb.mono (by omega)))
  generalize W0.alloc (.map #[] 0) = W1 at *
  generalize hmb : w.heap.size + 1 = mb at *
  go_loopw [10] (fun p wr => ∃ (i : Nat), i ≤ M ∧ p = .int .i64 (i : Int) ∧ Hid (Below mb W0 wr) ∧ Hid (MapH wr mb i te S i)) (fun p _ => M - (intOf p).toNat)
  case atStart => exact ⟨0, Nat.zero_le _, rfl, HB1, M_1⟩
  case round =>
    clear HB1 M_1
    obtain ⟨i, hi, rfl, HB_r, M_r⟩ := hrel
    have hzr : mb + 1 ≤ wr.heap.size := by have := M_r.out.lt; omega
    by_cases hlt : i < M
    · have hlt' : (i : Int) < (M : Int) := by omega
      have hi0 : (0 : Int) ≤ (i : Int) := by omega
      obtain ⟨pb, pq, rfl, lp, s0, s1⟩ := pv_get (P.out.below (HBW.out _ HB_r.out)) hlt
      have A_r := Lib.hid (blk_under A_0.out HB_r.out (by omega))
      have HSK := Lib.hid (fun h0 => M_r.out.skip (i := i) h0)
      have HLI := Lib.hid (HLD.out i hlt)
      have HGI := Lib.hid (HSG.out i hlt)
      have HUP := Lib.hid (fun (wx : World) (hm : MapH wx mb i te S i) h0 p => hm.update (by unfold maxLen; omega) HTE.out (by omega) HGI.out h0 p)
      obtain ⟨g, hg⟩ : ∃ g, (S i).g = g := ⟨_, rfl⟩
      obtain ⟨y, hy⟩ : ∃ y, (S i).nd = y := ⟨_, rfl⟩
      rw [hg] at s0 HUP
      rw [hy] at s1 HSK HLI HUP
      have HB2 := Lib.hid (HB_r.out.alloc (by omega) (.cells #[.int .i64 g, .int .i64 y] 131))
      have M_2 := Lib.hid (M_r.out.below ((Below.refl _ _).alloc (Nat.le_refl _) (.cells #[.int .i64 g, .int .i64 y] 131)))
      have A_2 := Lib.hid (A_r.out.alloc (.cells #[.int .i64 g, .int .i64 y] 131))
      have X_2 := Lib.hid (Blk.new_at (w := wr) (cs := #[.int .i64 g, .int .i64 y]) (t := 131) wr.heap.size rfl)
      have z2 : mb + 1 ≤ (wr.alloc (.cells #[.int .i64 g, .int .i64 y] 131)).heap.size := by simp; omega
      clear hg hy A_r
      by_cases h0 : y = 0
      · subst h0
        have M_3 := Lib.hid (((HSK.out rfl).mono (Nat.le_succ i)).below ((Below.refl _ _).alloc (Nat.le_refl _) (.cells #[.int .i64 g, .int .i64 0] 131)))
        clear HSK HLI HUP M_2 X_2 A_2
        go_wp2
        go_roundw
        case rel => first | exact ⟨i + 1, by omega, by go_num, HB2, M_3⟩ | ((repeat apply Exists.intro); exact ⟨⟨i + 1, by omega, by go_num, HB2, M_3⟩, rfl⟩)
        case measure => simp [intOf]; omega
      · have h0' : (y != 0) = true := by simpa using h0
        have HHY := Lib.hid (HLI.out h0)
        have H0 := Lib.hid h0
        clear h0
        have lX := X_2.out.1; have c0 := X_2.out.at 0 rfl; have c1 := X_2.out.at 1 rfl
        have lA := A_2.out.1; have a0 := A_2.out.at 0 rfl; have a4 := A_2.out.at 4 rfl
        go_wp2_with fail
        generalize wr.alloc (.cells #[.int .i64 g, .int .i64 y] 131) = w2 at *
        generalize wr.heap.size = X0 at *
        go_region_law (first | (go_simp; go_at_call 152; refine (nodeWith_any na K nc T y _ ((G.out.below (HBW.out _ HB2.out)).drew) (by omega) HM.out).mono ?_; rintro e w4 hnw; obtain ⟨hb, hnw⟩ := hnw; (rcases hnw with ⟨j, b, q, hj, he, hna, rfl⟩ | ⟨hno, rfl⟩); rotate_left; exact absurd HHY.out hno; clear hna; obtain ⟨w5, hr5, hm5, hg5⟩ := HUP.out w4 (M_2.out.below ((Below.refl _ _).drew.trans (hb.mono (by simp)))) H0.out ⟨b, q + j * 5, none⟩; unfold haV at hr5; have A_4 := Lib.hid (A_2.out.drew.below hb); have X_4 := Lib.hid (X_2.out.drew.below hb); have a40 := A_4.out.at 0 rfl; have a44 := A_4.out.at 4 rfl; have lA4 := A_4.out.1; have x40 := X_4.out.at 0 rfl; have x41 := X_4.out.at 1 rfl; have lX4 := X_4.out.1))
        all_goals (
          have z4 : mb + 1 ≤ w4.heap.size := (by have := hb.size; simp at this; omega)
          have HB5 : Hid (Below mb W0 w5) := Lib.hid ((HB2.out.drew.trans (hb.mono (by simp; omega))).grown hg5 (by omega) (fun k hk => by cases hk; exact Nat.le_refl _))
          have M_5 := Lib.hid hm5
          clear hr5 hm5 hg5 a40 a44 lA4 x40 x41 lX4 A_4 X_4 hb lX c0 c1 lA a0 a4 HB2 M_2 A_2 X_2 z2 HHY he
          go_wp2
          go_roundw
          (case rel => first | exact ⟨i + 1, by omega, by go_num, HB5, M_5⟩ | ((repeat apply Exists.intro); exact ⟨⟨i + 1, by omega, by go_num, HB5, M_5⟩, rfl⟩))
          (case measure => simp [intOf]; omega))
    · have hlt' : ¬ (i : Int) < (M : Int) := by omega
      obtain rfl : i = M := by omega
      go_wp2
      go_ret
      exact ⟨mb, rfl, M_r.out, HBW.out _ HB_r.out⟩
end Go.Proofs.Ytaenbjilcgpgcaa

namespace Go.Proofs.Ytaenbjilcgpgcaa
open Go.RowKit Go.Maps
set_option linter.unusedVariables false

theorem cap9 {w : World} {H A : Nat} {v0 v1 v2 v3 te qu ha sa na : Value} (hH : Blk w H [v0, v1, v2, v3]) (hA : Blk w A [te, qu, ha, sa, na]) : w.cell? ⟨H, 0, none⟩ = some v0 ∧ w.cell? ⟨H, 1, none⟩ = some v1 ∧ w.cell? ⟨H, 2, none⟩ = some v2 ∧ w.cell? ⟨H, 3, none⟩ = some v3 ∧ w.cell? ⟨A, 0, none⟩ = some te ∧ w.cell? ⟨A, 1, none⟩ = some qu ∧ w.cell? ⟨A, 2, none⟩ = some ha ∧ w.cell? ⟨A, 3, none⟩ = some sa ∧ w.cell? ⟨A, 4, none⟩ = some na :=
  ⟨hH.at 0 rfl, hH.at 1 rfl, hH.at 2 rfl, hH.at 3 rfl, hA.at 0 rfl, hA.at 1 rfl, hA.at 2 rfl, hA.at 3 rfl, hA.at 4 rfl⟩

set_option maxRecDepth 100000 in
set_option maxHeartbeats 3200000 in
theorem implSO_any (te qu ha : Int) (sa : Option Addr) (M kc : Nat) (S : Nat → SL) (na : Option Addr) (K nc : Nat) (T : Nat → GM) (x c v : Int) (w : World)
    (hp : PV w sa M S) (hg : NV w na K T) (hM : M ≤ 1048576) (hK : K ≤ 1048576) (hn : ∀ i, i < K → (T i).n ≤ 1048576) (hx : I64 x) (hk : IsSlo te qu ha M S K T x c v) :
    Calls Try.prog 32 #[.agg #[.int .i64 te, .int .i64 qu, .int .i64 ha, .slice sa M kc, .slice na K nc], .int .i64 x] w (RetPair w c v) := by
  obtain ⟨c0, hc0⟩ : ∃ c0, IsMF te qu ha M S K T c0 := isMF_some te qu ha M S K T
  have P0 := Lib.hid hp; have G0 := Lib.hid hg; have HN := Lib.hid hn; have HK := Lib.hid hk; have HC := Lib.hid hc0
  have HB0 := Lib.hid (((Below.refl w.heap.size w).alloc (Nat.le_refl _) (.cells #[.int .i64 te, .int .i64 qu, .int .i64 ha, .slice sa M kc, .slice na K nc] 54)).alloc (by simp) (.cells #[.int .i64 0, .int .i64 0] 38))
  have A_0 := Lib.hid ((Blk.new_at (w := w) (cs := #[.int .i64 te, .int .i64 qu, .int .i64 ha, .slice sa M kc, .slice na K nc]) (t := 54) w.heap.size rfl).alloc (.cells #[.int .i64 0, .int .i64 0] 38))
  have R_0 := Lib.hid (Blk.new_at (w := w.alloc (.cells #[.int .i64 te, .int .i64 qu, .int .i64 ha, .slice sa M kc, .slice na K nc] 54)) (cs := #[.int .i64 0, .int .i64 0]) (t := 38) (w.heap.size + 1) (by simp))
  clear hp hg hn hk hc0
  go_enter Try.func32, Try.ntmps32
  go_wp2_with fail
  refine (implMF_any te qu ha sa M kc S na K nc T c0 _ (P0.out.below HB0.out) (G0.out.below HB0.out) hM hK HN.out HC.out).mono ?_
  rintro e w1 ⟨rfl, hb⟩
  have HB1 := Lib.hid (thru0 HB0.out hb)
  have A_1 := Lib.hid (A_0.out.below hb); have R_1 := Lib.hid (R_0.out.below hb)
  have z1 : w.heap.size + 2 ≤ w1.heap.size := by have := R_1.out.1; omega
  clear hb A_0 R_0 HB0
  by_cases h0 : c0 = 0
  · subst h0
    have HOK := Lib.hid (isMF_zero HC.out)
    have hcv : (HSl te M S x ∧ c = 0 ∧ v = (slN x : Int)) ∨ (¬ HSl te M S x ∧ c = 6 ∧ v = 0) := by
      rcases HK.out with ⟨h1, h2, _⟩ | ⟨_, h⟩
      · exact absurd (isMF_one h1 HC.out) h2
      · exact h
    have HCV := Lib.hid hcv
    obtain ⟨rc, rt, rs, rg, hrh⟩ := isRHa_some x
    have HRH := Lib.hid hrh
    clear hcv hrh
    go_wp2_with fail
    refine (implRHa_any x rc rt rs rg _ hx HRH.out).mono ?_
    rintro e w2 ⟨rfl, hb⟩
    have HB2 := Lib.hid (thru0 HB1.out hb)
    have R_2 := Lib.hid (R_1.out.below hb); have A_2 := Lib.hid (A_1.out.below hb)
    clear hb A_1 R_1 HB1
    have HB3 := Lib.hid (HB2.out.alloc HB2.out.size (.cells #[.int .i64 rc, .int .i64 rt, .int .i64 rs, .int .i64 rg] 47))
    have H_3 := Lib.hid (Blk.new_at (w := w2) (cs := #[.int .i64 rc, .int .i64 rt, .int .i64 rs, .int .i64 rg]) (t := 47) w2.heap.size rfl)
    have R_3 := Lib.hid (R_2.out.alloc (.cells #[.int .i64 rc, .int .i64 rt, .int .i64 rs, .int .i64 rg] 47)); have A_3 := Lib.hid (A_2.out.alloc (.cells #[.int .i64 rc, .int .i64 rt, .int .i64 rs, .int .i64 rg] 47))
    clear A_2 R_2 HB2
    go_wp2_with fail
    generalize w2.alloc (.cells #[.int .i64 rc, .int .i64 rt, .int .i64 rs, .int .i64 rg] 47) = w3 at *
    generalize w2.heap.size = H0 at *
    by_cases h6 : rc = 0
    · subst h6
      obtain ⟨e1, e2, e3, hx3⟩ : rt = x % 4 ∧ rs = x / 4 % 8 ∧ rg = x / 32 ∧ (0 ≤ x ∧ 1 ≤ x / 32 ∧ x / 32 ≤ 99) := by
        rcases HRH.out with ⟨h, _, h1, h2, h3⟩ | ⟨_, h, _⟩
        · exact ⟨h1, h2, h3, h⟩
        · omega
      have HIF : Hid (HSl te M S x ↔ Leads te S M rt rs rg) := Lib.hid (by
        unfold HSl Leads
        rw [e1, e2, e3]
        constructor
        · rintro ⟨h1, h2, h3, h4, h5⟩
          exact ⟨h2, (x / 4 % 8).toNat, by omega, by omega, h5.symm, h4⟩
        · rintro ⟨h2, j, h3, h4, h5, h6⟩
          have ej : (x / 4 % 8).toNat = j := by omega
          rw [ej]
          exact ⟨hx3, h2, by omega, h6, h5.symm⟩)
      have hI1 : I64 rt := ⟨by omega, by omega⟩
      have hI2 : I64 rs := ⟨by omega, by omega⟩
      have hI3 : I64 rg := ⟨by omega, by omega⟩
      have HSN : Hid (rs = (slN x : Int)) := Lib.hid (by rw [e2]; unfold slN; omega)
      have HI := Lib.hid (And.intro hI1 (And.intro hI2 hI3))
      clear e1 e2 e3 hx3 hI1 hI2 hI3 hx
      have H_d := Lib.hid H_3.out.drew; have A_d := Lib.hid A_3.out.drew; have HB_d := Lib.hid HB3.out.drew
      have fh0 := H_3.out.at 0 rfl; have fh1 := H_3.out.at 1 rfl; have fh2 := H_3.out.at 2 rfl; have fh3 := H_3.out.at 3 rfl; have lH := H_3.out.1
      have fa0 := A_3.out.at 0 rfl; have fa1 := A_3.out.at 1 rfl; have fa2 := A_3.out.at 2 rfl; have fa3 := A_3.out.at 3 rfl; have fa4 := A_3.out.at 4 rfl; have lA := A_3.out.1
      by_cases hs : HSl te M S x
      · obtain ⟨h1, h2⟩ : c = 0 ∧ v = rs := by
          rcases HCV.out with ⟨_, h1, h2⟩ | ⟨h, _⟩
          · exact ⟨h1, by rw [h2, HSN.out]⟩
          · exact absurd hs h
        subst h1 h2
        have HLE := Lib.hid (HIF.out.1 hs)
        clear hs
        go_region_held3 (fun w' => w'.cell? ⟨H0, 0, none⟩ = some (.int .i64 0) ∧ w'.cell? ⟨H0, 1, none⟩ = some (.int .i64 rt) ∧ w'.cell? ⟨H0, 2, none⟩ = some (.int .i64 v) ∧ w'.cell? ⟨H0, 3, none⟩ = some (.int .i64 rg) ∧ w'.cell? ⟨w.heap.size, 0, none⟩ = some (.int .i64 te) ∧ w'.cell? ⟨w.heap.size, 1, none⟩ = some (.int .i64 qu) ∧ w'.cell? ⟨w.heap.size, 2, none⟩ = some (.int .i64 ha) ∧ w'.cell? ⟨w.heap.size, 3, none⟩ = some (.slice sa M kc) ∧ w'.cell? ⟨w.heap.size, 4, none⟩ = some (.slice na K nc))
          (first | (with_reducible exact cap9 H_3.out A_3.out) | (with_reducible exact cap9 H_d.out A_d.out) | (with_reducible exact cap9 H_4.out A_4.out))
          (first | (go_at_call 91; refine (nbh_any te qu ha sa M kc S na K nc T _ (P0.out.below HB_d.out) (G0.out.below HB_d.out) HOK.out).mono ?_; rintro e w4 ⟨mb, rfl, hmh, hb⟩; have HB4 := Lib.hid (thru0 HB_d.out hb); have H_4 := Lib.hid (H_d.out.below hb); have A_4 := Lib.hid (A_d.out.below hb); have R_4 := Lib.hid (R_3.out.drew.below hb); obtain ⟨pp, hlk, hpi⟩ := hmh.look HI.out.1 HI.out.2.1 HI.out.2.2; obtain ⟨ad, rfl⟩ := Option.isSome_iff_exists.1 (hpi.2 HLE.out); unfold haV at hlk; clear hb hmh hpi))
        clear hlk fh0 fh1 fh2 fh3 lH fa0 fa1 fa2 fa3 fa4 lA
        have r0 := R_4.out.at 0 rfl; have f0 := R_4.out.free 0 rfl; have r1 := R_4.out.at 1 rfl; have f1 := R_4.out.free 1 rfl; have lR := R_4.out.1
        have fh2 := H_4.out.at 2 rfl; have lH := H_4.out.1
        go_wp2
        refine bodyPost_ret (v := .agg #[.int .i64 0, .int .i64 v]) (by simp [results, Try.results32, go_sem, r0, r1]) rfl ⟨rfl, ?_⟩
        repeat (first | (with_reducible refine Below.setCell ?_ (by (try simp); (try omega)) _) | (with_reducible refine Below.alloc ?_ (by (try simp); (try omega)) _) | (with_reducible refine Below.drew ?_))
        exact HB4.out
      · obtain ⟨h1, h2⟩ : c = 6 ∧ v = 0 := by
          rcases HCV.out with ⟨h, _⟩ | ⟨_, h1, h2⟩
          · exact absurd h hs
          · exact ⟨h1, h2⟩
        subst h1 h2
        have HLE := Lib.hid (fun h => hs (HIF.out.2 h))
        clear hs
        go_region_held3 (fun w' => w'.cell? ⟨H0, 0, none⟩ = some (.int .i64 0) ∧ w'.cell? ⟨H0, 1, none⟩ = some (.int .i64 rt) ∧ w'.cell? ⟨H0, 2, none⟩ = some (.int .i64 rs) ∧ w'.cell? ⟨H0, 3, none⟩ = some (.int .i64 rg) ∧ w'.cell? ⟨w.heap.size, 0, none⟩ = some (.int .i64 te) ∧ w'.cell? ⟨w.heap.size, 1, none⟩ = some (.int .i64 qu) ∧ w'.cell? ⟨w.heap.size, 2, none⟩ = some (.int .i64 ha) ∧ w'.cell? ⟨w.heap.size, 3, none⟩ = some (.slice sa M kc) ∧ w'.cell? ⟨w.heap.size, 4, none⟩ = some (.slice na K nc))
          (first | (with_reducible exact cap9 H_3.out A_3.out) | (with_reducible exact cap9 H_d.out A_d.out) | (with_reducible exact cap9 H_4.out A_4.out))
          (first | (go_at_call 91; refine (nbh_any te qu ha sa M kc S na K nc T _ (P0.out.below HB_d.out) (G0.out.below HB_d.out) HOK.out).mono ?_; rintro e w4 ⟨mb, rfl, hmh, hb⟩; have HB4 := Lib.hid (thru0 HB_d.out hb); have H_4 := Lib.hid (H_d.out.below hb); have A_4 := Lib.hid (A_d.out.below hb); have R_4 := Lib.hid (R_3.out.drew.below hb); obtain ⟨pp, hlk, hpi⟩ := hmh.look HI.out.1 HI.out.2.1 HI.out.2.2; (have hpn : pp = none := Option.not_isSome_iff_eq_none.1 (fun h => HLE.out (hpi.1 h))); subst hpn; unfold haV at hlk; clear hb hmh hpi))
        clear hlk fh0 fh1 fh2 fh3 lH fa0 fa1 fa2 fa3 fa4 lA
        have r0 := R_4.out.at 0 rfl; have f0 := R_4.out.free 0 rfl; have r1 := R_4.out.at 1 rfl; have f1 := R_4.out.free 1 rfl; have lR := R_4.out.1
        go_wp2
        refine bodyPost_ret (v := .agg #[.int .i64 6, .int .i64 0]) (by simp [results, Try.results32, go_sem, r0, r1]) rfl ⟨rfl, ?_⟩
        repeat (first | (with_reducible refine Below.setCell ?_ (by (try simp); (try omega)) _) | (with_reducible refine Below.alloc ?_ (by (try simp); (try omega)) _) | (with_reducible refine Below.drew ?_))
        exact HB4.out
    · obtain ⟨h1, h2⟩ : c = 6 ∧ v = 0 := by
        rcases HCV.out with ⟨h, _⟩ | ⟨_, h1, h2⟩
        · rcases HRH.out with ⟨_, h3, _⟩ | ⟨h3, _⟩
          · exact absurd h3 h6
          · exact absurd h.1 h3
        · exact ⟨h1, h2⟩
      subst h1 h2
      have h6' : (rc != 0) = true := by simpa using h6
      clear h6 hx
      have fh0 := H_3.out.at 0 rfl; have lH := H_3.out.1
      go_quiet (fail)
      have R_4 := Lib.hid (R_3.out.below (drewN_below w3 nq))
      clear fh0 lH
      have r0 := R_4.out.at 0 rfl; have f0 := R_4.out.free 0 rfl; have r1 := R_4.out.at 1 rfl; have f1 := R_4.out.free 1 rfl; have lR := R_4.out.1
      go_wp2
      refine bodyPost_ret (v := .agg #[.int .i64 6, .int .i64 0]) (by simp [results, Try.results32, go_sem, r0, r1]) rfl ⟨rfl, ?_⟩
      repeat (first | (with_reducible refine Below.setCell ?_ (by (try simp); (try omega)) _) | (with_reducible refine Below.alloc ?_ (by (try simp); (try omega)) _) | (with_reducible refine Below.drew ?_))
      exact below_drewN HB3.out nq
  · have h0' : (c0 != 0) = true := by simpa using h0
    obtain ⟨h1, h2⟩ : c = c0 ∧ v = 0 := by
      rcases HK.out with ⟨h1, _, h2⟩ | ⟨h, _⟩
      · exact ⟨isMF_one h1 HC.out, h2⟩
      · exact absurd (isMF_one HC.out h) h0
    subst h1 h2
    clear h0 hx
    have r0 := R_1.out.at 0 rfl; have f0 := R_1.out.free 0 rfl; have r1 := R_1.out.at 1 rfl; have f1 := R_1.out.free 1 rfl; have lR := R_1.out.1
    go_wp2
    refine bodyPost_ret (v := .agg #[.int .i64 c, .int .i64 0]) (by simp [results, Try.results32, go_sem, r0, r1]) rfl ⟨rfl, ?_⟩
    repeat (first | (with_reducible refine Below.setCell ?_ (by (try simp); (try omega)) _) | (with_reducible refine Below.alloc ?_ (by (try simp); (try omega)) _) | (with_reducible refine Below.drew ?_))
    exact HB1.out
end Go.Proofs.Ytaenbjilcgpgcaa

namespace Go.Proofs.Ytaenbjilcgpgcaa
open Go.RowKit
set_option linter.unusedVariables false

set_option maxRecDepth 100000 in
set_option maxHeartbeats 3200000 in
theorem e9_any (te qu ha : Int) (sa : Option Addr) (M kc : Nat) (S : Nat → SL) (na : Option Addr) (K nc : Nat) (T : Nat → GM) (x : Int) (w : World) (hp : PV w sa M S) (hg : NV w na K T) (hM : M ≤ maxLen) (hK : K ≤ maxLen) (hn : ∀ i, i < K → (T i).n ≤ maxLen) (hx : I64 x) :
    Calls Try.prog 9 #[.agg #[.int .i64 te, .int .i64 qu, .int .i64 ha, .slice sa M kc, .slice na K nc], .int .i64 x] w (RetBool w true) := by
  obtain ⟨c, v, hk⟩ := isSlo_some te qu ha M S K T x
  have HX := Lib.hid hx
  have HK := Lib.hid hk; have P0 := Lib.hid hp; have G0 := Lib.hid hg; have HN := Lib.hid hn
  have A_0 := Lib.hid (Blk.new_at (w := w) (cs := #[.int .i64 te, .int .i64 qu, .int .i64 ha, .slice sa M kc, .slice na K nc]) (t := 70) w.heap.size rfl)
  have HB0 := Lib.hid ((Below.refl w.heap.size w).alloc (Nat.le_refl _) (.cells #[.int .i64 te, .int .i64 qu, .int .i64 ha, .slice sa M kc, .slice na K nc] 70))
  have c0 := A_0.out.at 0 rfl; have c1 := A_0.out.at 1 rfl; have c2 := A_0.out.at 2 rfl; have c3 := A_0.out.at 3 rfl; have c4 := A_0.out.at 4 rfl; have lA := A_0.out.1
  clear hk hp hg hn hx
  go_enter Try.func9, Try.ntmps9
  go_wp2_with fail
  refine (szMachine_any te qu ha sa M kc S na K nc T 1048576 _ (P0.out.below HB0.out) (G0.out.below HB0.out) hM hK HN.out (by omega) (by omega)).mono ?_
  rintro e w1 ⟨hb, r, rfl, hr1, hr2⟩
  have HB1 := Lib.hid (thru0 HB0.out hb)
  have A_1 := Lib.hid (A_0.out.below hb)
  clear hb c0 c1 c2 c3 c4 lA A_0 HB0
  rcases hr2 with rfl | ⟨h0, h1, h2, h3⟩
  · go_wp2
    go_ret
    exact ⟨rfl, HB1.out⟩
  have h9 : ¬ r < 0 := by omega
  have hM1 : M ≤ 1048576 := by omega
  have hK1 : K ≤ 1048576 := by omega
  have HN1 : Hid (∀ i, i < K → (T i).n ≤ 1048576) := Lib.hid fun i hi => by have := h3 i hi; omega
  clear h1 h2 h3 HN hM hK
  have c0 := A_1.out.at 0 rfl; have c1 := A_1.out.at 1 rfl; have c2 := A_1.out.at 2 rfl; have c3 := A_1.out.at 3 rfl; have c4 := A_1.out.at 4 rfl; have lA := A_1.out.1
  go_wp2_with fail
  refine (toMachine_any te qu ha sa M kc S na K nc T _ (P0.out.below HB1.out) (G0.out.below HB1.out) hM1 hK1 HN1.out).mono ?_
  rintro e w2 ⟨sb, kb, nb, mb, U, rfl, p2, g2, s2, hb⟩
  have HB2 := Lib.hid (thru0 HB1.out hb)
  have A_2 := Lib.hid (A_1.out.below hb)
  have P2 := Lib.hid p2; have G2 := Lib.hid g2; have S2 := Lib.hid s2
  clear hb c0 c1 c2 c3 c4 lA A_1 HB1 p2 g2 s2
  go_wp2_with fail
  refine (specSO_any te qu ha sb M kb S nb K mb U x c v _ P2.out G2.out hM1 hK1 (fun i hi => by have := (S2.out i hi).2.2.2.2.2.1; have := HN1.out i hi; omega) HX.out (isSlo_same S2.out HK.out)).mono ?_
  rintro e w3 ⟨rfl, hb⟩
  have HB3 := Lib.hid (thru0 HB2.out hb)
  have A_3 := Lib.hid (A_2.out.below hb)

  clear hb A_2 HB2 P2 G2 S2
  have HB4 := Lib.hid (HB3.out.alloc HB3.out.size (.cells #[.int .i64 c, .int .i64 v] 38))
  have A_4 := Lib.hid (A_3.out.alloc (.cells #[.int .i64 c, .int .i64 v] 38))
  have W_4 := Lib.hid (Blk.new_at (w := w3) (cs := #[.int .i64 c, .int .i64 v]) (t := 38) w3.heap.size rfl)
  have c0 := A_4.out.at 0 rfl; have c1 := A_4.out.at 1 rfl; have c2 := A_4.out.at 2 rfl; have c3 := A_4.out.at 3 rfl; have c4 := A_4.out.at 4 rfl; have lA := A_4.out.1
  clear A_3 HB3
  go_wp2_with fail
  generalize w3.alloc (.cells #[.int .i64 c, .int .i64 v] 38) = w4 at *
  refine (toMachine_any te qu ha sa M kc S na K nc T _ (P0.out.below HB4.out) (G0.out.below HB4.out) hM1 hK1 HN1.out).mono ?_
  rintro e w5 ⟨sx, kx, nx, mx, X, rfl, p4, g4, s4, hb⟩
  have HB5 := Lib.hid (thru0 HB4.out hb)
  have A_5 := Lib.hid (A_4.out.below hb); have W_5 := Lib.hid (W_4.out.below hb)
  have P5 := Lib.hid p4; have G5 := Lib.hid g4; have S4 := Lib.hid s4
  clear hb c0 c1 c2 c3 c4 lA A_4 W_4 HB4 p4 g4 s4
  have hnX : ∀ i, i < K → (X i).n ≤ 1048576 := fun i hi => by have := (S4.out i hi).2.2.2.2.2.1; have := HN1.out i hi; omega
  have HNX := Lib.hid hnX
  clear hnX
  generalize w3.heap.size = W0 at *
  go_wp2_with fail
  have A_6 := Lib.hid (A_5.out.alloc (.cells #[.int .i64 te, .int .i64 qu, .int .i64 ha, .slice sx M kx, .slice nx K mx] 54)); have W_6 := Lib.hid (W_5.out.alloc (.cells #[.int .i64 te, .int .i64 qu, .int .i64 ha, .slice sx M kx, .slice nx K mx] 54))
  have X_6 := Lib.hid (Blk.new_at (w := w5) (cs := #[.int .i64 te, .int .i64 qu, .int .i64 ha, .slice sx M kx, .slice nx K mx]) (t := 54) w5.heap.size rfl)
  have HB6 := Lib.hid (HB5.out.alloc HB5.out.size (.cells #[.int .i64 te, .int .i64 qu, .int .i64 ha, .slice sx M kx, .slice nx K mx] 54))
  have P6 := Lib.hid (P5.out.alloc (.cells #[.int .i64 te, .int .i64 qu, .int .i64 ha, .slice sx M kx, .slice nx K mx] 54))
  have G6 := Lib.hid (G5.out.alloc (.cells #[.int .i64 te, .int .i64 qu, .int .i64 ha, .slice sx M kx, .slice nx K mx] 54))
  clear A_5 W_5 HB5 P5 G5
  generalize w5.alloc (.cells #[.int .i64 te, .int .i64 qu, .int .i64 ha, .slice sx M kx, .slice nx K mx] 54) = w6 at *
  generalize w5.heap.size = X0 at *
  refine (implSO_any te qu ha sx M kx S nx K mx X x c v _ P6.out G6.out hM1 hK1 HNX.out HX.out (isSlo_same S4.out HK.out)).mono ?_
  rintro e w7 ⟨rfl, hb⟩
  have HB7 := Lib.hid (thru0 HB6.out hb)
  have A_7 := Lib.hid (A_6.out.below hb); have W_7 := Lib.hid (W_6.out.below hb); have X_7 := Lib.hid (X_6.out.below hb); have P7 := Lib.hid (P6.out.below hb); have G7 := Lib.hid (G6.out.below hb)
  clear hb A_6 W_6 X_6 HB6 P6 G6

  have d0 := W_7.out.at 0 rfl; have d1 := W_7.out.at 1 rfl; have ld := W_7.out.1

  go_wp2_with fail
  refine (eqIntResult_same c v _).mono ?_
  rintro e w8 ⟨rfl, hb⟩
  have HB8 := Lib.hid (thru1 HB7.out hb)
  have hb7 : Below w7.heap.size w7 w8 := thru1 (Below.refl _ _) hb
  have A_8 := Lib.hid (A_7.out.below hb7); have X_8 := Lib.hid (X_7.out.below hb7); have P8 := Lib.hid (P7.out.below hb7); have G8 := Lib.hid (G7.out.below hb7)
  clear hb hb7 d0 d1 ld A_7 W_7 X_7 HB7 P7 G7
  have c0 := A_8.out.at 0 rfl; have c1 := A_8.out.at 1 rfl; have c2 := A_8.out.at 2 rfl; have c3 := A_8.out.at 3 rfl; have c4 := A_8.out.at 4 rfl; have lA := A_8.out.1
  have d0 := X_8.out.at 0 rfl; have d1 := X_8.out.at 1 rfl; have d2 := X_8.out.at 2 rfl; have d3 := X_8.out.at 3 rfl; have d4 := X_8.out.at 4 rfl; have lX := X_8.out.1
  go_wp2_with fail
  have A_d := Lib.hid A_8.out.drew; have X_d := Lib.hid X_8.out.drew; have HB_d := Lib.hid HB8.out.drew
  go_region_held3 (fun w' => w'.cell? ⟨w.heap.size, 0, none⟩ = some (.int .i64 te) ∧ w'.cell? ⟨w.heap.size, 1, none⟩ = some (.int .i64 qu) ∧ w'.cell? ⟨w.heap.size, 2, none⟩ = some (.int .i64 ha) ∧ w'.cell? ⟨w.heap.size, 3, none⟩ = some (.slice sa M kc) ∧ w'.cell? ⟨w.heap.size, 4, none⟩ = some (.slice na K nc) ∧ w'.cell? ⟨X0, 0, none⟩ = some (.int .i64 te) ∧ w'.cell? ⟨X0, 1, none⟩ = some (.int .i64 qu) ∧ w'.cell? ⟨X0, 2, none⟩ = some (.int .i64 ha) ∧ w'.cell? ⟨X0, 3, none⟩ = some (.slice sx M kx) ∧ w'.cell? ⟨X0, 4, none⟩ = some (.slice nx K mx))
    (first | (with_reducible exact cap10 A_8.out X_8.out) | (with_reducible exact cap10 A_d.out X_d.out) | (with_reducible exact cap10 A_9.out X_9.out) | (with_reducible exact cap10 A_10.out X_10.out))
    (first | (go_at_call 44; refine (toMachine_any te qu ha sa M kc S na K nc T _ (P0.out.below HB_d.out) (G0.out.below HB_d.out) hM1 hK1 HN1.out).mono ?_; rintro e w9 ⟨sy, ky, ny, my, Y, rfl, p7, g7, s7, hb⟩; have HB9 := Lib.hid (thru0 HB_d.out hb); have A_9 := Lib.hid (A_d.out.below hb); have X_9 := Lib.hid (X_d.out.below hb); have P9 := Lib.hid ((P8.out.drew).below hb); have G9 := Lib.hid ((G8.out.drew).below hb); have P9' := Lib.hid p7; have G9' := Lib.hid g7; have S7 := Lib.hid (show ∀ i, i < K → GSame (X i) (Y i) from fun i hi => gsame_trans (gsame_symm (S4.out i hi)) (s7 i hi)); clear hb p7 g7 s7) | (go_at_call 46; refine (eqMachine_same te qu ha sx sy M kx ky S nx ny K mx my X Y _ P9.out G9.out P9'.out G9'.out S7.out hM1 hK1 HNX.out).mono ?_; rintro e w10 ⟨rfl, hb⟩; have HB10 := Lib.hid (thru0 HB9.out hb); have A_10 := Lib.hid (A_9.out.below hb); have X_10 := Lib.hid (X_9.out.below hb); clear hb))
  go_wp2
  go_ret
  exact ⟨rfl, HB10.out⟩
end Go.Proofs.Ytaenbjilcgpgcaa

