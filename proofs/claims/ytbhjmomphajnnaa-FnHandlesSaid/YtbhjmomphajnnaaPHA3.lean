/- Texts merged: Z8 to HA2. -/
import Derived.Test.YtbhjmomphajnnaaPHA2
import Derived.Laws.EntriesVeiled
import Derived.Deep.MidRow
import Derived.IntWalk
namespace Go.Proofs.Ytbhjmomphajnnaa
open Go.RowKit Go.Maps
set_option linter.unusedVariables false

theorem MapH.mono {w : World} {b n n' : Nat} {te : Int} {S : Nat → SL} {i : Nat} (h : MapH w b n te S i) (hn : n ≤ n') : MapH w b n' te S i := by
  obtain ⟨D, h1, h2⟩ := h
  exact ⟨D, h1.mono hn, h2⟩

set_option maxRecDepth 100000 in
set_option maxHeartbeats 3200000 in
theorem nbh_any (te qu ha : Int) (sa : Option Addr) (M kc : Nat) (S : Nat → SL) (na : Option Addr) (K nc : Nat) (T : Nat → GM) (w : World)
    (hp : PV w sa M S) (hg : NV w na K T) (hok : MOk te qu ha M S K T) :
    Calls Try.prog 93 #[.agg #[.int .i64 te, .int .i64 qu, .int .i64 ha, .slice sa M kc, .slice na K nc]] w fun e w' => ∃ mb, e = .returned (.map (some mb)) ∧ MapH w' mb M te S M ∧ Below w.heap.size w w' := by
  have P := Lib.hid hp; have G := Lib.hid hg; have HOK := Lib.hid hok
  have hM : M ≤ 8 := by have := hok.len.1.2; omega
  have hK : K ≤ 150 := by have := hok.len.2.2; omega
  have HTE : Hid (I64 te) := Lib.hid ⟨by have := hok.num.1; omega, by have := hok.num.1; omega⟩
  have HSG : Hid (∀ i, i < M → I64 (S i).g) := Lib.hid (fun i hi => by have := (hok.slot i hi).1; exact ⟨by omega, by omega⟩)
  have HLD : Hid (∀ i, i < M → ¬ (S i).nd = 0 → Has K T (S i).nd) := Lib.hid (fun i hi h0 => (hok.lead.1 i hi).resolve_left h0)
  have HM : Hid (∀ i j, i < j → j < K → (T i).at_ < (T j).at_) := Lib.hid (fun i j h1 h2 => rise_lt hok.rise j i h1 h2)
  have hmk := @run_makeMap Try.prog
  have A_0 := Lib.hid (Blk.new_at (w := w) (cs := #[.int .i64 te, .int .i64 qu, .int .i64 ha, .slice sa M kc, .slice na K nc]) (t := 54) w.heap.size rfl)
  have HB0 := Lib.hid ((Below.refl w.heap.size w).alloc (Nat.le_refl _) (.cells #[.int .i64 te, .int .i64 qu, .int .i64 ha, .slice sa M kc, .slice na K nc] 54))
  have zW : (w.alloc (.cells #[.int .i64 te, .int .i64 qu, .int .i64 ha, .slice sa M kc, .slice na K nc] 54)).heap.size = w.heap.size + 1 := by simp
  clear hp hg hok
  go_enter Try.func93, Try.ntmps93
  go_wp2_with fail
  generalize w.alloc (.cells #[.int .i64 te, .int .i64 qu, .int .i64 ha, .slice sa M kc, .slice na K nc] 54) = W0 at *
  have M_1 := Lib.hid (MapH.made W0 te S)
  rw [zW] at M_1
  have HB1 : Hid (Below (w.heap.size + 1) W0 (W0.alloc (.map #[] 0))) := Lib.hid ((Below.refl _ _).alloc (by omega) _)
  have HBW : Hid (∀ wr, Below (w.heap.size + 1) W0 wr → Below w.heap.size w wr) := Lib.hid (fun wr hb => HB0.out.trans (hb.mono (by omega)))
  generalize W0.alloc (.map #[] 0) = W1 at *
  generalize hmb : w.heap.size + 1 = mb at *
  go_loopw [10] (fun p wr => ∃ (i : Nat), i ≤ M ∧ p = .int .i64 (i : Int) ∧ Hid (Below mb W0 wr) ∧ Hid (MapH wr mb i te S i)) (fun p _ => M - (intOf p).toNat)
  case atStart => exact ⟨0, Nat.zero_le _, rfl, HB1, M_1⟩
  case round =>
    clear HB1 M_1
    obtain ⟨i, hi, rfl, HB_r, M_r⟩ := hrel
    have hzr : mb + 1 ≤ wr.heap.size := by have := M_r.out.lt; omega
    by_cases hlt : i < M
    · have hlt' : (i : Int) < (M : Int) := by omega
      have hi0 : (0 : Int) ≤ (i : Int) := by omega
      obtain ⟨pb, pq, rfl, lp, s0, s1⟩ := pv_get (P.out.below (HBW.out _ HB_r.out)) hlt
      have A_r := Lib.hid (blk_under A_0.out HB_r.out (by omega))
      have HSK := Lib.hid (fun h0 => M_r.out.skip (i := i) h0)
      have HLI := Lib.hid (HLD.out i hlt)
      have HGI := Lib.hid (HSG.out i hlt)
      have HUP := Lib.hid (fun (wx : World) (hm : MapH wx mb i te S i) h0 p => hm.update (by unfold maxLen; omega) HTE.out (by omega) HGI.out h0 p)
      obtain ⟨g, hg⟩ : ∃ g, (S i).g = g := ⟨_, rfl⟩
      obtain ⟨y, hy⟩ : ∃ y, (S i).nd = y := ⟨_, rfl⟩
      rw [hg] at s0 HUP
      rw [hy] at s1 HSK HLI HUP
      have HB2 := Lib.hid (HB_r.out.alloc (by omega) (.cells #[.int .i64 g, .int .i64 y] 147))
      have M_2 := Lib.hid (M_r.out.below ((Below.refl _ _).alloc (Nat.le_refl _) (.cells #[.int .i64 g, .int .i64 y] 147)))
      have A_2 := Lib.hid (A_r.out.alloc (.cells #[.int .i64 g, .int .i64 y] 147))
      have X_2 := Lib.hid (Blk.new_at (w := wr) (cs := #[.int .i64 g, .int .i64 y]) (t := 147) wr.heap.size rfl)
      have z2 : mb + 1 ≤ (wr.alloc (.cells #[.int .i64 g, .int .i64 y] 147)).heap.size := by simp; omega
      clear hg hy A_r
      by_cases h0 : y = 0
      · subst h0
        have M_3 := Lib.hid (((HSK.out rfl).mono (Nat.le_succ i)).below ((Below.refl _ _).alloc (Nat.le_refl _) (.cells #[.int .i64 g, .int .i64 0] 147)))
        clear HSK HLI HUP M_2 X_2 A_2
        go_wp2
        go_roundw
        case rel => first | exact ⟨i + 1, by omega, by go_num, HB2, M_3⟩ | ((repeat apply Exists.intro); exact ⟨⟨i + 1, by omega, by go_num, HB2, M_3⟩, rfl⟩)
        case measure => simp [intOf]; omega
      · have h0' : (y != 0) = true := by simpa using h0
        have HHY := Lib.hid (HLI.out h0)
        have H0 := Lib.hid h0
        clear h0
        have lX := X_2.out.1; have c0 := X_2.out.at 0 rfl; have c1 := X_2.out.at 1 rfl
        have lA := A_2.out.1; have a0 := A_2.out.at 0 rfl; have a4 := A_2.out.at 4 rfl
        go_wp2_with fail
        generalize wr.alloc (.cells #[.int .i64 g, .int .i64 y] 147) = w2 at *
        generalize wr.heap.size = X0 at *
        go_region_law (first | (go_simp; go_at_call 162; refine (nodeWith_any na K nc T y _ ((G.out.below (HBW.out _ HB2.out)).drew) (by omega) HM.out).mono ?_; rintro e w4 hnw; obtain ⟨hb, hnw⟩ := hnw; (rcases hnw with ⟨j, b, q, hj, he, hna, rfl⟩ | ⟨hno, rfl⟩); rotate_left; exact absurd HHY.out hno; clear hna; obtain ⟨w5, hr5, hm5, hg5⟩ := HUP.out w4 (M_2.out.below ((Below.refl _ _).drew.trans (hb.mono (by simp)))) H0.out ⟨b, q + j * 5, none⟩; unfold haV at hr5; have A_4 := Lib.hid (A_2.out.drew.below hb); have X_4 := Lib.hid (X_2.out.drew.below hb); have a40 := A_4.out.at 0 rfl; have a44 := A_4.out.at 4 rfl; have lA4 := A_4.out.1; have x40 := X_4.out.at 0 rfl; have x41 := X_4.out.at 1 rfl; have lX4 := X_4.out.1))
        all_goals (
          have z4 : mb + 1 ≤ w4.heap.size := (by have := hb.size; simp at this; omega)
          have HB5 : Hid (Below mb W0 w5) := Lib.hid ((HB2.out.drew.trans (hb.mono (by simp; omega))).grown hg5 (by omega) (fun k hk => by cases hk; exact Nat.le_refl _))
          have M_5 := Lib.hid hm5
          clear hr5 hm5 hg5 a40 a44 lA4 x40 x41 lX4 A_4 X_4 hb lX c0 c1 lA a0 a4 HB2 M_2 A_2 X_2 z2 HHY he
          go_wp2
          go_roundw
          (case rel => first | exact ⟨i + 1, by omega, by go_num, HB5, M_5⟩ | ((repeat apply Exists.intro); exact ⟨⟨i + 1, by omega, by go_num, HB5, M_5⟩, rfl⟩))
          (case measure => simp [intOf]; omega))
    · have hlt' : ¬ (i : Int) < (M : Int) := by omega
      obtain rfl : i = M := by omega
      go_wp2
      go_ret
      exact ⟨mb, rfl, M_r.out, HBW.out _ HB_r.out⟩
end Go.Proofs.Ytbhjmomphajnnaa

namespace Go.Proofs.Ytbhjmomphajnnaa
open Go.RowKit Go.Maps
set_option linter.unusedVariables false

theorem cap9 {w : World} {H A : Nat} {v0 v1 v2 v3 te qu ha sa na : Value} (hH : Blk w H [v0, v1, v2, v3]) (hA : Blk w A [te, qu, ha, sa, na]) : w.cell? ⟨H, 0, none⟩ = some v0 ∧ w.cell? ⟨H, 1, none⟩ = some v1 ∧ w.cell? ⟨H, 2, none⟩ = some v2 ∧ w.cell? ⟨H, 3, none⟩ = some v3 ∧ w.cell? ⟨A, 0, none⟩ = some te ∧ w.cell? ⟨A, 1, none⟩ = some qu ∧ w.cell? ⟨A, 2, none⟩ = some ha ∧ w.cell? ⟨A, 3, none⟩ = some sa ∧ w.cell? ⟨A, 4, none⟩ = some na :=
  ⟨hH.at 0 rfl, hH.at 1 rfl, hH.at 2 rfl, hH.at 3 rfl, hA.at 0 rfl, hA.at 1 rfl, hA.at 2 rfl, hA.at 3 rfl, hA.at 4 rfl⟩

set_option maxRecDepth 100000 in
set_option maxHeartbeats 3200000 in
theorem implSO_any (te qu ha : Int) (sa : Option Addr) (M kc : Nat) (S : Nat → SL) (na : Option Addr) (K nc : Nat) (T : Nat → GM) (x c v : Int) (w : World)
    (hp : PV w sa M S) (hg : NV w na K T) (hM : M ≤ 1048576) (hK : K ≤ 1048576) (hn : ∀ i, i < K → (T i).n ≤ 1048576) (hx : I64 x) (hk : IsSlo te qu ha M S K T x c v) :
    Calls Try.prog 31 #[.agg #[.int .i64 te, .int .i64 qu, .int .i64 ha, .slice sa M kc, .slice na K nc], .int .i64 x] w (RetPair w c v) := by
  obtain ⟨c0, hc0⟩ : ∃ c0, IsMF te qu ha M S K T c0 := isMF_some te qu ha M S K T
  have P0 := Lib.hid hp; have G0 := Lib.hid hg; have HN := Lib.hid hn; have HK := Lib.hid hk; have HC := Lib.hid hc0
  have HB0 := Lib.hid (((Below.refl w.heap.size w).alloc (Nat.le_refl _) (.cells #[.int .i64 te, .int .i64 qu, .int .i64 ha, .slice sa M kc, .slice na K nc] 54)).alloc (by simp) (.cells #[.int .i64 0, .int .i64 0] 38))
  have A_0 := Lib.hid ((Blk.new_at (w := w) (cs := #[.int .i64 te, .int .i64 qu, .int .i64 ha, .slice sa M kc, .slice na K nc]) (t := 54) w.heap.size rfl).alloc (.cells #[.int .i64 0, .int .i64 0] 38))
  have R_0 := Lib.hid (Blk.new_at (w := w.alloc (.cells #[.int .i64 te, .int .i64 qu, .int .i64 ha, .slice sa M kc, .slice na K nc] 54)) (cs := #[.int .i64 0, .int .i64 0]) (t := 38) (w.heap.size + 1) (by simp))
  clear hp hg hn hk hc0
  go_enter Try.func31, Try.ntmps31
  go_wp2_with fail
  refine (implMF_any te qu ha sa M kc S na K nc T c0 _ (P0.out.below HB0.out) (G0.out.below HB0.out) hM hK HN.out HC.out).mono ?_
  rintro e w1 ⟨rfl, hb⟩
  have HB1 := Lib.hid (thru0 HB0.out hb)
  have A_1 := Lib.hid (A_0.out.below hb); have R_1 := Lib.hid (R_0.out.below hb)
  have z1 : w.heap.size + 2 ≤ w1.heap.size := by have := R_1.out.1; omega
  clear hb A_0 R_0 HB0
  by_cases h0 : c0 = 0
  · subst h0
    have HOK := Lib.hid (isMF_zero HC.out)
    have hcv : (HSl te M S x ∧ c = 0 ∧ v = (slN x : Int)) ∨ (¬ HSl te M S x ∧ c = 6 ∧ v = 0) := by
      rcases HK.out with ⟨h1, h2, _⟩ | ⟨_, h⟩
      · exact absurd (isMF_one h1 HC.out) h2
      · exact h
    have HCV := Lib.hid hcv
    obtain ⟨rc, rt, rs, rg, hrh⟩ := isRHa_some x
    have HRH := Lib.hid hrh
    clear hcv hrh
    go_wp2_with fail
    refine (implRHa_any x rc rt rs rg _ hx HRH.out).mono ?_
    rintro e w2 ⟨rfl, hb⟩
    have HB2 := Lib.hid (thru0 HB1.out hb)
    have R_2 := Lib.hid (R_1.out.below hb); have A_2 := Lib.hid (A_1.out.below hb)
    clear hb A_1 R_1 HB1
    have HB3 := Lib.hid (HB2.out.alloc HB2.out.size (.cells #[.int .i64 rc, .int .i64 rt, .int .i64 rs, .int .i64 rg] 47))
    have H_3 := Lib.hid (Blk.new_at (w := w2) (cs := #[.int .i64 rc, .int .i64 rt, .int .i64 rs, .int .i64 rg]) (t := 47) w2.heap.size rfl)
    have R_3 := Lib.hid (R_2.out.alloc (.cells #[.int .i64 rc, .int .i64 rt, .int .i64 rs, .int .i64 rg] 47)); have A_3 := Lib.hid (A_2.out.alloc (.cells #[.int .i64 rc, .int .i64 rt, .int .i64 rs, .int .i64 rg] 47))
    clear A_2 R_2 HB2
    go_wp2_with fail
    generalize w2.alloc (.cells #[.int .i64 rc, .int .i64 rt, .int .i64 rs, .int .i64 rg] 47) = w3 at *
    generalize w2.heap.size = H0 at *
    by_cases h6 : rc = 0
    · subst h6
      obtain ⟨e1, e2, e3, hx3⟩ : rt = x % 4 ∧ rs = x / 4 % 8 ∧ rg = x / 32 ∧ (0 ≤ x ∧ 1 ≤ x / 32 ∧ x / 32 ≤ 99) := by
        rcases HRH.out with ⟨h, _, h1, h2, h3⟩ | ⟨_, h, _⟩
        · exact ⟨h1, h2, h3, h⟩
        · omega
      have HIF : Hid (HSl te M S x ↔ Leads te S M rt rs rg) := Lib.hid (by
        unfold HSl Leads
        rw [e1, e2, e3]
        constructor
        · rintro ⟨h1, h2, h3, h4, h5⟩
          exact ⟨h2, (x / 4 % 8).toNat, by omega, by omega, h5.symm, h4⟩
        · rintro ⟨h2, j, h3, h4, h5, h6⟩
          have ej : (x / 4 % 8).toNat = j := by omega
          rw [ej]
          exact ⟨hx3, h2, by omega, h6, h5.symm⟩)
      have hI1 : I64 rt := ⟨by omega, by omega⟩
      have hI2 : I64 rs := ⟨by omega, by omega⟩
      have hI3 : I64 rg := ⟨by omega, by omega⟩
      have HSN : Hid (rs = (slN x : Int)) := Lib.hid (by rw [e2]; unfold slN; omega)
      have HI := Lib.hid (And.intro hI1 (And.intro hI2 hI3))
      clear e1 e2 e3 hx3 hI1 hI2 hI3 hx
      have H_d := Lib.hid H_3.out.drew; have A_d := Lib.hid A_3.out.drew; have HB_d := Lib.hid HB3.out.drew
      have fh0 := H_3.out.at 0 rfl; have fh1 := H_3.out.at 1 rfl; have fh2 := H_3.out.at 2 rfl; have fh3 := H_3.out.at 3 rfl; have lH := H_3.out.1
      have fa0 := A_3.out.at 0 rfl; have fa1 := A_3.out.at 1 rfl; have fa2 := A_3.out.at 2 rfl; have fa3 := A_3.out.at 3 rfl; have fa4 := A_3.out.at 4 rfl; have lA := A_3.out.1
      by_cases hs : HSl te M S x
      · obtain ⟨h1, h2⟩ : c = 0 ∧ v = rs := by
          rcases HCV.out with ⟨_, h1, h2⟩ | ⟨h, _⟩
          · exact ⟨h1, by rw [h2, HSN.out]⟩
          · exact absurd hs h
        subst h1 h2
        have HLE := Lib.hid (HIF.out.1 hs)
        clear hs
        go_region_held3 (fun w' => w'.cell? ⟨H0, 0, none⟩ = some (.int .i64 0) ∧ w'.cell? ⟨H0, 1, none⟩ = some (.int .i64 rt) ∧ w'.cell? ⟨H0, 2, none⟩ = some (.int .i64 v) ∧ w'.cell? ⟨H0, 3, none⟩ = some (.int .i64 rg) ∧ w'.cell? ⟨w.heap.size, 0, none⟩ = some (.int .i64 te) ∧ w'.cell? ⟨w.heap.size, 1, none⟩ = some (.int .i64 qu) ∧ w'.cell? ⟨w.heap.size, 2, none⟩ = some (.int .i64 ha) ∧ w'.cell? ⟨w.heap.size, 3, none⟩ = some (.slice sa M kc) ∧ w'.cell? ⟨w.heap.size, 4, none⟩ = some (.slice na K nc))
          (first | (with_reducible exact cap9 H_3.out A_3.out) | (with_reducible exact cap9 H_d.out A_d.out) | (with_reducible exact cap9 H_4.out A_4.out))
          (first | (go_at_call 93; refine (nbh_any te qu ha sa M kc S na K nc T _ (P0.out.below HB_d.out) (G0.out.below HB_d.out) HOK.out).mono ?_; rintro e w4 ⟨mb, rfl, hmh, hb⟩; have HB4 := Lib.hid (thru0 HB_d.out hb); have H_4 := Lib.hid (H_d.out.below hb); have A_4 := Lib.hid (A_d.out.below hb); have R_4 := Lib.hid (R_3.out.drew.below hb); obtain ⟨pp, hlk, hpi⟩ := hmh.look HI.out.1 HI.out.2.1 HI.out.2.2; obtain ⟨ad, rfl⟩ := Option.isSome_iff_exists.1 (hpi.2 HLE.out); unfold haV at hlk; clear hb hmh hpi))
        clear hlk fh0 fh1 fh2 fh3 lH fa0 fa1 fa2 fa3 fa4 lA
        have r0 := R_4.out.at 0 rfl; have f0 := R_4.out.free 0 rfl; have r1 := R_4.out.at 1 rfl; have f1 := R_4.out.free 1 rfl; have lR := R_4.out.1
        have fh2 := H_4.out.at 2 rfl; have lH := H_4.out.1
        go_wp2
        refine bodyPost_ret (v := .agg #[.int .i64 0, .int .i64 v]) (by simp [results, Try.results31, go_sem, r0, r1]) rfl ⟨rfl, ?_⟩
        repeat (first | (with_reducible refine Below.setCell ?_ (by (try simp); (try omega)) _) | (with_reducible refine Below.alloc ?_ (by (try simp); (try omega)) _) | (with_reducible refine Below.drew ?_))
        exact HB4.out
      · obtain ⟨h1, h2⟩ : c = 6 ∧ v = 0 := by
          rcases HCV.out with ⟨h, _⟩ | ⟨_, h1, h2⟩
          · exact absurd h hs
          · exact ⟨h1, h2⟩
        subst h1 h2
        have HLE := Lib.hid (fun h => hs (HIF.out.2 h))
        clear hs
        go_region_held3 (fun w' => w'.cell? ⟨H0, 0, none⟩ = some (.int .i64 0) ∧ w'.cell? ⟨H0, 1, none⟩ = some (.int .i64 rt) ∧ w'.cell? ⟨H0, 2, none⟩ = some (.int .i64 rs) ∧ w'.cell? ⟨H0, 3, none⟩ = some (.int .i64 rg) ∧ w'.cell? ⟨w.heap.size, 0, none⟩ = some (.int .i64 te) ∧ w'.cell? ⟨w.heap.size, 1, none⟩ = some (.int .i64 qu) ∧ w'.cell? ⟨w.heap.size, 2, none⟩ = some (.int .i64 ha) ∧ w'.cell? ⟨w.heap.size, 3, none⟩ = some (.slice sa M kc) ∧ w'.cell? ⟨w.heap.size, 4, none⟩ = some (.slice na K nc))
          (first | (with_reducible exact cap9 H_3.out A_3.out) | (with_reducible exact cap9 H_d.out A_d.out) | (with_reducible exact cap9 H_4.out A_4.out))
          (first | (go_at_call 93; refine (nbh_any te qu ha sa M kc S na K nc T _ (P0.out.below HB_d.out) (G0.out.below HB_d.out) HOK.out).mono ?_; rintro e w4 ⟨mb, rfl, hmh, hb⟩; have HB4 := Lib.hid (thru0 HB_d.out hb); have H_4 := Lib.hid (H_d.out.below hb); have A_4 := Lib.hid (A_d.out.below hb); have R_4 := Lib.hid (R_3.out.drew.below hb); obtain ⟨pp, hlk, hpi⟩ := hmh.look HI.out.1 HI.out.2.1 HI.out.2.2; (have hpn : pp = none := Option.not_isSome_iff_eq_none.1 (fun h => HLE.out (hpi.1 h))); subst hpn; unfold haV at hlk; clear hb hmh hpi))
        clear hlk fh0 fh1 fh2 fh3 lH fa0 fa1 fa2 fa3 fa4 lA
        have r0 := R_4.out.at 0 rfl; have f0 := R_4.out.free 0 rfl; have r1 := R_4.out.at 1 rfl; have f1 := R_4.out.free 1 rfl; have lR := R_4.out.1
        go_wp2
        refine bodyPost_ret (v := .agg #[.int .i64 6, .int .i64 0]) (by simp [results, Try.results31, go_sem, r0, r1]) rfl ⟨rfl, ?_⟩
        repeat (first | (with_reducible refine Below.setCell ?_ (by (try simp); (try omega)) _) | (with_reducible refine Below.alloc ?_ (by (try simp); (try omega)) _) | (with_reducible refine Below.drew ?_))
        exact HB4.out
    · obtain ⟨h1, h2⟩ : c = 6 ∧ v = 0 := by
        rcases HCV.out with ⟨h, _⟩ | ⟨_, h1, h2⟩
        · rcases HRH.out with ⟨_, h3, _⟩ | ⟨h3, _⟩
          · exact absurd h3 h6
          · exact absurd h.1 h3
        · exact ⟨h1, h2⟩
      subst h1 h2
      have h6' : (rc != 0) = true := by simpa using h6
      clear h6 hx
      have fh0 := H_3.out.at 0 rfl; have lH := H_3.out.1
      go_quiet (fail)
      have R_4 := Lib.hid (R_3.out.below (drewN_below w3 nq))
      clear fh0 lH
      have r0 := R_4.out.at 0 rfl; have f0 := R_4.out.free 0 rfl; have r1 := R_4.out.at 1 rfl; have f1 := R_4.out.free 1 rfl; have lR := R_4.out.1
      go_wp2
      refine bodyPost_ret (v := .agg #[.int .i64 6, .int .i64 0]) (by simp [results, Try.results31, go_sem, r0, r1]) rfl ⟨rfl, ?_⟩
      repeat (first | (with_reducible refine Below.setCell ?_ (by (try simp); (try omega)) _) | (with_reducible refine Below.alloc ?_ (by (try simp); (try omega)) _) | (with_reducible refine Below.drew ?_))
      exact below_drewN HB3.out nq
  · have h0' : (c0 != 0) = true := by simpa using h0
    obtain ⟨h1, h2⟩ : c = c0 ∧ v = 0 := by
      rcases HK.out with ⟨h1, _, h2⟩ | ⟨h, _⟩
      · exact ⟨isMF_one h1 HC.out, h2⟩
      · exact absurd (isMF_one HC.out h) h0
    subst h1 h2
    clear h0 hx
    have r0 := R_1.out.at 0 rfl; have f0 := R_1.out.free 0 rfl; have r1 := R_1.out.at 1 rfl; have f1 := R_1.out.free 1 rfl; have lR := R_1.out.1
    go_wp2
    refine bodyPost_ret (v := .agg #[.int .i64 c, .int .i64 0]) (by simp [results, Try.results31, go_sem, r0, r1]) rfl ⟨rfl, ?_⟩
    repeat (first | (with_reducible refine Below.setCell ?_ (by (try simp); (try omega)) _) | (with_reducible refine Below.alloc ?_ (by (try simp); (try omega)) _) | (with_reducible refine Below.drew ?_))
    exact HB1.out
end Go.Proofs.Ytbhjmomphajnnaa

namespace Go.Proofs.Ytbhjmomphajnnaa
open Go.RowKit
set_option linter.unusedVariables false

set_option maxRecDepth 100000 in
set_option maxHeartbeats 3200000 in
theorem drawNM_any (ca : Option Addr) (k kc : Nat) (B : Nat → Int) (w : World) (hs : SrcB w w.heap.size ca k B) (hk0 : k ≤ 1048576) :
    Calls Try.prog 24 #[.slice ca k kc] w (fun e w' => ∃ x y z : Int, e = .returned (.tuple #[.int .i64 x, .int .i64 y, .int .i64 z]) ∧ I64 x ∧ I64 y ∧ I64 z ∧ Below w.heap.size w w') := by
  have hS0 := Lib.hid hs
  clear hs
  go_enter Try.func24, Try.ntmps24
  go_wp2_with fail
  refine (source_any ca k kc _).mono ?_
  rintro e w' ⟨rfl, rfl⟩
  have HW : Hid (Below w.heap.size w (w.alloc (.cells #[.slice ca k kc, .int .i64 0] 235))) := ((Below.refl _ _).alloc (Nat.le_refl _) _)
  have S_0 : Hid (Blk (w.alloc (.cells #[.slice ca k kc, .int .i64 0] 235)) w.heap.size [.slice ca k kc, .int .i64 ((0 : Nat) : Int)]) := Blk.new_at w.heap.size (by simp)
  have B_0 : Hid (SrcB (w.alloc (.cells #[.slice ca k kc, .int .i64 0] 235)) w.heap.size ca k B) := (hS0.out.alloc _)
  have HK_0 : Hid (Keeps (w.alloc (.cells #[.slice ca k kc, .int .i64 0] 235)) (w.alloc (.cells #[.slice ca k kc, .int .i64 0] 235)) w.heap.size (w.heap.size + 1)) := Keeps.refl _ _ _
  have za : w.heap.size + 1 ≤ (w.alloc (.cells #[.slice ca k kc, .int .i64 0] 235)).heap.size := by simp
  have hS : w.heap.size ≤ w.heap.size := by omega
  clear hS0
  generalize w.alloc (.cells #[.slice ca k kc, .int .i64 0] 235) = wa at *
  go_wp2_with fail
  refine (of_any [0, 1, 3, 4, -1] w.heap.size w.heap.size _ ca k kc (0) 5 B _ _ S_0.out B_0.out hS hk0 (by omega) rfl (by simp) (by simp) rfl (by simp)).mono ?_
  rintro e w1 ⟨x1, rfl, mx, hB, hk⟩
  have z1 : wa.heap.size + 1 ≤ w1.heap.size := by have := hk.size; simp at this; omega
  have HK_1 := Lib.hid ((HK_0.out.alloc _).trans hk)
  have S_1 := Lib.hid (src_cast hB)
  have B_1 := Lib.hid ((B_0.out.alloc _).keeps hk hS)
  have hx1 : -10 ≤ x1 ∧ x1 ≤ 10000 := by
    simp only [List.mem_cons, List.mem_nil_iff, or_false] at mx
    omega
  clear hk hB mx S_0 B_0 HK_0
  go_wp2_with fail
  refine (of_any [2, 20, 200, 1, 201] w.heap.size w.heap.size _ ca k kc (0 + 1) 5 B _ _ S_1.out B_1.out hS hk0 (by omega) rfl (by simp) (by simp) rfl (by simp)).mono ?_
  rintro e w2 ⟨x2, rfl, mx, hB, hk⟩
  have z2 : w1.heap.size + 1 ≤ w2.heap.size := by have := hk.size; simp at this; omega
  have HK_2 := Lib.hid ((HK_1.out.alloc _).trans hk)
  have S_2 := Lib.hid (src_cast hB)
  have B_2 := Lib.hid ((B_1.out.alloc _).keeps hk hS)
  have hx2 : -10 ≤ x2 ∧ x2 ≤ 10000 := by
    simp only [List.mem_cons, List.mem_nil_iff, or_false] at mx
    omega
  clear hk hB mx S_1 B_1 HK_1
  go_wp2_with fail
  refine (of_any [1, 4, 8, 0, 9, -1] w.heap.size w.heap.size _ ca k kc (0 + 1 + 1) 6 B _ _ S_2.out B_2.out hS hk0 (by omega) rfl (by simp) (by simp) rfl (by simp)).mono ?_
  rintro e w3 ⟨x3, rfl, mx, hB, hk⟩
  have z3 : w2.heap.size + 1 ≤ w3.heap.size := by have := hk.size; simp at this; omega
  have HK_3 := Lib.hid ((HK_2.out.alloc _).trans hk)
  have S_3 := Lib.hid (src_cast hB)
  have B_3 := Lib.hid ((B_2.out.alloc _).keeps hk hS)
  have hx3 : -10 ≤ x3 ∧ x3 ≤ 10000 := by
    simp only [List.mem_cons, List.mem_nil_iff, or_false] at mx
    omega
  clear hk hB mx S_2 B_2 HK_2
  have hz := HK_3.out.size
  go_wp2
  refine bodyPost_ret (v := .tuple #[.int .i64 x1, .int .i64 x2, .int .i64 x3]) (by simp [results, Try.results24, go_sem]) rfl ?_
  exact ⟨x1, x2, x3, rfl, ⟨by omega, by omega⟩, ⟨by omega, by omega⟩, ⟨by omega, by omega⟩, HW.out.trans (HK_3.out.below (by omega) (by omega))⟩

set_option maxRecDepth 100000 in
set_option maxHeartbeats 3200000 in
theorem drawHW_any (ca : Option Addr) (k kc : Nat) (B : Nat → Int) (w : World) (hs : SrcB w w.heap.size ca k B) (hk0 : k ≤ 1048576) :
    Calls Try.prog 20 #[.slice ca k kc] w (fun e w' => ∃ x y z : Int, e = .returned (.agg #[.int .i64 x, .int .i64 y, .int .i64 z]) ∧ I64 x ∧ I64 y ∧ I64 z ∧ Below w.heap.size w w') := by
  have hS0 := Lib.hid hs
  clear hs
  go_enter Try.func20, Try.ntmps20
  go_wp2_with fail
  refine (source_any ca k kc _).mono ?_
  rintro e w' ⟨rfl, rfl⟩
  have HW : Hid (Below w.heap.size w ((w.alloc (.cells #[.int .i64 0, .int .i64 0, .int .i64 0] 42)).alloc (.cells #[.slice ca k kc, .int .i64 0] 235))) := (((Below.refl _ _).alloc (Nat.le_refl _) _).alloc (by simp) _)
  have S_0 : Hid (Blk ((w.alloc (.cells #[.int .i64 0, .int .i64 0, .int .i64 0] 42)).alloc (.cells #[.slice ca k kc, .int .i64 0] 235)) (w.heap.size + 1) [.slice ca k kc, .int .i64 ((0 : Nat) : Int)]) := Blk.new_at (w.heap.size + 1) (by simp)
  have B_0 : Hid (SrcB ((w.alloc (.cells #[.int .i64 0, .int .i64 0, .int .i64 0] 42)).alloc (.cells #[.slice ca k kc, .int .i64 0] 235)) w.heap.size ca k B) := ((hS0.out.alloc _).alloc _)
  have HK_0 : Hid (Keeps ((w.alloc (.cells #[.int .i64 0, .int .i64 0, .int .i64 0] 42)).alloc (.cells #[.slice ca k kc, .int .i64 0] 235)) ((w.alloc (.cells #[.int .i64 0, .int .i64 0, .int .i64 0] 42)).alloc (.cells #[.slice ca k kc, .int .i64 0] 235)) (w.heap.size + 1) ((w.heap.size + 1) + 1)) := Keeps.refl _ _ _
  have R_0 : Hid (Blk ((w.alloc (.cells #[.int .i64 0, .int .i64 0, .int .i64 0] 42)).alloc (.cells #[.slice ca k kc, .int .i64 0] 235)) w.heap.size [.int .i64 0, .int .i64 0, .int .i64 0]) := (Blk.new_at (w.heap.size) rfl).alloc _
  have za : w.heap.size + 2 ≤ ((w.alloc (.cells #[.int .i64 0, .int .i64 0, .int .i64 0] 42)).alloc (.cells #[.slice ca k kc, .int .i64 0] 235)).heap.size := by simp
  have hS : w.heap.size ≤ (w.heap.size + 1) := by omega
  clear hS0
  generalize ((w.alloc (.cells #[.int .i64 0, .int .i64 0, .int .i64 0] 42)).alloc (.cells #[.slice ca k kc, .int .i64 0] 235)) = wa at *
  go_wp2_with fail
  refine (of_any [0, 1, 3, 4, -1, 2] (w.heap.size + 1) w.heap.size _ ca k kc (0) 6 B _ _ S_0.out B_0.out hS hk0 (by omega) rfl (by simp) (by simp) rfl (by simp)).mono ?_
  rintro e w1 ⟨x1, rfl, mx, hB, hk⟩
  have z1 : wa.heap.size + 1 ≤ w1.heap.size := by have := hk.size; simp at this; omega
  have HK_1 := Lib.hid ((HK_0.out.alloc _).trans hk)
  have S_1 := Lib.hid (src_cast hB)
  have B_1 := Lib.hid ((B_0.out.alloc _).keeps hk hS)
  have R_1 := Lib.hid ((R_0.out.alloc _).keeps hk (by omega))
  have hx1 : -10 ≤ x1 ∧ x1 ≤ 10000 := by
    simp only [List.mem_cons, List.mem_nil_iff, or_false] at mx
    omega
  clear hk hB mx S_0 B_0 HK_0 R_0
  go_wp2_with fail
  refine (of_any [0, 1, 7, 8, 2, 3] (w.heap.size + 1) w.heap.size _ ca k kc (0 + 1) 6 B _ _ S_1.out B_1.out hS hk0 (by omega) rfl (by simp) (by simp) rfl (by simp)).mono ?_
  rintro e w2 ⟨x2, rfl, mx, hB, hk⟩
  have z2 : w1.heap.size + 1 ≤ w2.heap.size := by have := hk.size; simp at this; omega
  have HK_2 := Lib.hid ((HK_1.out.alloc _).trans hk)
  have S_2 := Lib.hid (src_cast hB)
  have B_2 := Lib.hid ((B_1.out.alloc _).keeps hk hS)
  have R_2 := Lib.hid ((R_1.out.alloc _).keeps hk (by omega))
  have hx2 : -10 ≤ x2 ∧ x2 ≤ 10000 := by
    simp only [List.mem_cons, List.mem_nil_iff, or_false] at mx
    omega
  clear hk hB mx S_1 B_1 HK_1 R_1
  go_wp2_with fail
  refine (of_any [1, 2, 99, 0, 100, 5] (w.heap.size + 1) w.heap.size _ ca k kc (0 + 1 + 1) 6 B _ _ S_2.out B_2.out hS hk0 (by omega) rfl (by simp) (by simp) rfl (by simp)).mono ?_
  rintro e w3 ⟨x3, rfl, mx, hB, hk⟩
  have z3 : w2.heap.size + 1 ≤ w3.heap.size := by have := hk.size; simp at this; omega
  have HK_3 := Lib.hid ((HK_2.out.alloc _).trans hk)
  have S_3 := Lib.hid (src_cast hB)
  have B_3 := Lib.hid ((B_2.out.alloc _).keeps hk hS)
  have R_3 := Lib.hid ((R_2.out.alloc _).keeps hk (by omega))
  have hx3 : -10 ≤ x3 ∧ x3 ≤ 10000 := by
    simp only [List.mem_cons, List.mem_nil_iff, or_false] at mx
    omega
  clear hk hB mx S_2 B_2 HK_2 R_2
  have hz := HK_3.out.size
  have lR := R_3.out.1
  have cR0 := R_3.out.at 0 rfl; have cR1 := R_3.out.at 1 rfl; have cR2 := R_3.out.at 2 rfl
  have fR0 := R_3.out.free 0 rfl; have fR1 := R_3.out.free 1 rfl; have fR2 := R_3.out.free 2 rfl
  go_wp2
  refine bodyPost_ret (v := .agg #[.int .i64 x1, .int .i64 x2, .int .i64 x3]) (by simp [results, Try.results20, go_sem, cR0, cR1, cR2]) rfl ⟨x1, x2, x3, rfl, ⟨by omega, by omega⟩, ⟨by omega, by omega⟩, ⟨by omega, by omega⟩, ?_⟩
  repeat (with_reducible refine Below.setCell ?_ (by (try simp); (try omega)) _)
  exact HW.out.trans (HK_3.out.below (by omega) (by omega))

set_option maxRecDepth 100000 in
set_option maxHeartbeats 3200000 in
theorem drawRHa_any (ca : Option Addr) (k kc : Nat) (B : Nat → Int) (w : World) (hs : SrcB w w.heap.size ca k B) (hk0 : k ≤ 1048576) :
    Calls Try.prog 22 #[.slice ca k kc] w (fun e w' => ∃ x : Int, e = .returned (.int .i64 x) ∧ I64 x ∧ Below w.heap.size w w') := by
  have hS0 := Lib.hid hs
  clear hs
  go_enter Try.func22, Try.ntmps22
  go_wp2_with fail
  refine (source_any ca k kc _).mono ?_
  rintro e w' ⟨rfl, rfl⟩
  have HW : Hid (Below w.heap.size w (w.alloc (.cells #[.slice ca k kc, .int .i64 0] 235))) := ((Below.refl _ _).alloc (Nat.le_refl _) _)
  have S_0 : Hid (Blk (w.alloc (.cells #[.slice ca k kc, .int .i64 0] 235)) w.heap.size [.slice ca k kc, .int .i64 ((0 : Nat) : Int)]) := Blk.new_at w.heap.size (by simp)
  have B_0 : Hid (SrcB (w.alloc (.cells #[.slice ca k kc, .int .i64 0] 235)) w.heap.size ca k B) := (hS0.out.alloc _)
  have HK_0 : Hid (Keeps (w.alloc (.cells #[.slice ca k kc, .int .i64 0] 235)) (w.alloc (.cells #[.slice ca k kc, .int .i64 0] 235)) w.heap.size (w.heap.size + 1)) := Keeps.refl _ _ _
  have za : w.heap.size + 1 ≤ (w.alloc (.cells #[.slice ca k kc, .int .i64 0] 235)).heap.size := by simp
  have hS : w.heap.size ≤ w.heap.size := by omega
  clear hS0
  generalize w.alloc (.cells #[.slice ca k kc, .int .i64 0] 235) = wa at *
  go_wp2_with fail
  refine (next_is 3300 w.heap.size w.heap.size ca k kc (0) 3300 B _ rfl S_0.out B_0.out hS hk0 (by omega) (by omega) (by omega)).mono ?_
  rintro e w1 ⟨v1, rfl, hv1, hB, hk⟩
  have z1 : wa.heap.size ≤ w1.heap.size := hk.size
  have HK_1 := Lib.hid (HK_0.out.trans hk)
  have S_1 := Lib.hid (src_cast hB)
  have B_1 := Lib.hid (B_0.out.keeps hk hS)
  clear hk hB S_0 B_0 HK_0
  go_wp2_with fail
  refine (next_is 3300 w.heap.size w.heap.size ca k kc (0 + 1) 3300 B _ rfl S_1.out B_1.out hS hk0 (by omega) (by omega) (by omega)).mono ?_
  rintro e w2 ⟨v2, rfl, hv2, hB, hk⟩
  have z2 : w1.heap.size ≤ w2.heap.size := hk.size
  have HK_2 := Lib.hid (HK_1.out.trans hk)
  have S_2 := Lib.hid (src_cast hB)
  have B_2 := Lib.hid (B_1.out.keeps hk hS)
  clear hk hB S_1 B_1 HK_1
  go_wp2_with fail
  refine (of_any [32, 33, 3199, 3200, 31, 0, -1, (v1 : Int), (v2 : Int)] w.heap.size w.heap.size _ ca k kc (0 + 1 + 1) 9 B _ _ S_2.out B_2.out hS hk0 (by omega) rfl (by simp) (by simp) rfl (by simp)).mono ?_
  rintro e w3 ⟨x1, rfl, mx, hB, hk⟩
  have z3 : w2.heap.size + 1 ≤ w3.heap.size := by have := hk.size; simp at this; omega
  have HK_3 := Lib.hid ((HK_2.out.alloc _).trans hk)
  have hx1 : -10 ≤ x1 ∧ x1 ≤ 10000 := by
    simp only [List.mem_cons, List.mem_nil_iff, or_false] at mx
    omega
  clear hk hB mx S_2 B_2 HK_2
  have hz := HK_3.out.size
  go_wp2
  go_ret
  exact ⟨x1, rfl, ⟨by omega, by omega⟩, HW.out.trans (HK_3.out.below (by omega) (by omega))⟩
end Go.Proofs.Ytbhjmomphajnnaa

namespace Go.Proofs.Ytbhjmomphajnnaa
open Go.RowKit Go.Maps
set_option linter.unusedVariables false

/-- What is carried: the arena and its roots, and what was collected. -/
structure FCD (W w : World) (P G : Nat) (h ac bu : Int) (a : Option Addr) (n c : Nat) (f : Nat → Int) (ra : Option Addr) (l : List Int) (rco rh : Int) (b : Option Addr) (m d : Nat) (g : Nat → Int) (rac rbu : Int) (rb : Option Addr) (l2 : List Int) (rd : Nat) (mv : Int) : Prop where
  bel : Below W.heap.size W w
  ab : Blk w P [.int .i64 h, .slice a n c, .int .i64 ac, .int .i64 bu]
  gb : Blk w G [.int .i64 rco, .int .i64 rh, .slice b m d, .int .i64 rac, .int .i64 rbu, .slice rb l2.length rd, .int .i64 mv]
  wa : Src w a n f
  ra : Src w ra l.length (lf l)
  wb : Src w b m g
  rb : Src w rb l2.length (lf l2)

section

variable {W w w' : World} {P G : Nat} {h ac bu : Int} {a : Option Addr} {n c : Nat} {f : Nat → Int} {ra : Option Addr} {l : List Int} {rco rh : Int} {b : Option Addr} {m d : Nat} {g : Nat → Int} {rac rbu : Int} {rb : Option Addr} {l2 : List Int} {rd : Nat} {mv : Int}

theorem FCD.below (x : FCD W w P G h ac bu a n c f ra l rco rh b m d g rac rbu rb l2 rd mv) (hb : Below w.heap.size w w') : FCD W w' P G h ac bu a n c f ra l rco rh b m d g rac rbu rb l2 rd mv :=
  ⟨x.bel.trans (hb.mono x.bel.size), x.ab.below hb, x.gb.below hb, x.wa.below hb, x.ra.below hb, x.wb.below hb, x.rb.below hb⟩

end
end Go.Proofs.Ytbhjmomphajnnaa

namespace Go.Proofs.Ytbhjmomphajnnaa
open Go.RowKit
set_option linter.unusedVariables false

/-- A handle is told back by its word. -/
theorem ha_back {x y z c v : Int} (h : IsHW x y z c v) (h0 : c = 0) : IsRHa v 0 x y z ∧ I64 v := by
  rcases h with ⟨⟨⟨a1, a2⟩, ⟨b1, b2⟩, g1, g2⟩, _, rfl⟩ | ⟨_, h1, _⟩
  · refine ⟨.inl ⟨⟨by omega, by omega, by omega⟩, rfl, by omega, by omega, by omega⟩, by unfold I64; omega⟩
  · omega

/-- A word is told back by its handle. -/
theorem ha_forth {x c t s g : Int} (h : IsRHa x c t s g) (h0 : c = 0) : IsHW t s g 0 x := by
  rcases h with ⟨⟨a1, a2, a3⟩, _, rfl, rfl, rfl⟩ | ⟨_, h1, _⟩
  · exact .inl ⟨⟨⟨by omega, by omega⟩, ⟨by omega, by omega⟩, a2, a3⟩, rfl, by omega⟩
  · omega

theorem nz_zeros (M : Nat) : nz (slotL M zS) = [] := by
  unfold nz
  exact List.filter_eq_nil_iff.mpr fun x hx => by
    obtain ⟨i, _, rfl⟩ := mem_slotL.1 hx
    simp [zS]

theorem nm_used (M : Nat) (T : Nat → GM) : outU M zS 0 T 0 = 0 := by
  unfold outU usedM reachM
  rw [if_pos rfl, nz_zeros]
  rfl

theorem nm_slot {te qu : Int} {M : Nat} {T : Nat → GM} {x : Int} (h : IsMF te qu 0 M zS 0 T 0) : IsSlo te qu 0 M zS 0 T x 6 0 :=
  .inr ⟨h, .inr ⟨fun hs => hs.2.2.2.1 rfl, rfl, rfl⟩⟩

theorem nm_len {te qu x : Int} {T : Nat → GM} (h : IsMF te qu 0 (nSl x) zS 0 T 0) : (nSl x : Int) = x := by
  have h1 := (isMF_zero h).len
  unfold MLen at h1
  have h2 : (nSl x : Int) = min (max x 0) 9 := by unfold nSl; omega
  omega
end Go.Proofs.Ytbhjmomphajnnaa

namespace Go.Proofs.Ytbhjmomphajnnaa
open Go.RowKit
set_option linter.unusedVariables false

/-- What is carried: a handle, its word, what is read, a new machine. -/
structure HSt (W w : World) (Bh Bw Br Bn : Nat) (x y z c v rc t s g nc te qu : Int) (sa : Option Addr) (n kc : Nat) : Prop where
  bel : Below W.heap.size W w
  hb : Blk w Bh [.int .i64 x, .int .i64 y, .int .i64 z]
  wb : Blk w Bw [.int .i64 c, .int .i64 v]
  rb : Blk w Br [.int .i64 rc, .int .i64 t, .int .i64 s, .int .i64 g]
  nb : Blk w Bn [.int .i64 nc, .int .i64 te, .int .i64 qu, .int .i64 0, .slice sa n kc, .slice none 0 0]
  pv : PV w sa n zS

theorem HSt.below {W w w' : World} {Bh Bw Br Bn : Nat} {x y z c v rc t s g nc te qu : Int} {sa : Option Addr} {n kc : Nat} (d : HSt W w Bh Bw Br Bn x y z c v rc t s g nc te qu sa n kc) (hb : Below w.heap.size w w') : HSt W w' Bh Bw Br Bn x y z c v rc t s g nc te qu sa n kc :=
  ⟨d.bel.trans (hb.mono d.bel.size), d.hb.below hb, d.wb.below hb, d.rb.below hb, d.nb.below hb, d.pv.below hb⟩

theorem HSt.c10 {W w : World} {Bh Bw Br Bn : Nat} {x y z c v rc t s g nc te qu : Int} {sa : Option Addr} {n kc : Nat} (d : HSt W w Bh Bw Br Bn x y z c v rc t s g nc te qu sa n kc) :
    w.cell? ⟨Bh, 0, none⟩ = some (.int .i64 x) ∧ w.cell? ⟨Bh, 1, none⟩ = some (.int .i64 y) ∧ w.cell? ⟨Bh, 2, none⟩ = some (.int .i64 z) ∧ w.cell? ⟨Bw, 0, none⟩ = some (.int .i64 c) ∧ w.cell? ⟨Bw, 1, none⟩ = some (.int .i64 v) ∧ w.cell? ⟨Br, 0, none⟩ = some (.int .i64 rc) ∧ w.cell? ⟨Br, 1, none⟩ = some (.int .i64 t) ∧ w.cell? ⟨Br, 2, none⟩ = some (.int .i64 s) ∧ w.cell? ⟨Br, 3, none⟩ = some (.int .i64 g) ∧ w.cell? ⟨Bn, 0, none⟩ = some (.int .i64 nc) :=
  ⟨d.hb.at 0 rfl, d.hb.at 1 rfl, d.hb.at 2 rfl, d.wb.at 0 rfl, d.wb.at 1 rfl, d.rb.at 0 rfl, d.rb.at 1 rfl, d.rb.at 2 rfl, d.rb.at 3 rfl, d.nb.at 0 rfl⟩

theorem fld_mr0 (a b c d e f : Value) (w : World) : (Instr.field 56 (.agg #[a, b, c, d, e, f]) 0).run Try.prog w = .ok a w := by kernel_rfl

set_option maxRecDepth 100000 in
set_option maxHeartbeats 400000 in
theorem e4_far (ca : Option Addr) (k kc : Nat) (w : World) (hk : k ≤ maxLen) (h : 1048576 < k) : Calls Try.prog 4 #[.slice ca k kc] w (RetBool w true) := by
  go_enter Try.func4, Try.ntmps4
  go_wp2_with (go_at_call 10; refine (big_yes _ _ _ _ hk h).mono ?_; rintro e w' ⟨rfl, rfl⟩)
  go_ret
  exact ⟨rfl, Below.refl _ _⟩

set_option maxRecDepth 100000 in
set_option maxHeartbeats 6400000 in
theorem e4_near (ca : Option Addr) (k kc : Nat) (B : Nat → Int) (w : World) (hs : SrcB w w.heap.size ca k B) (hk : k ≤ 1048576) :
    Calls Try.prog 4 #[.slice ca k kc] w (RetBool w true) := by
  have SB := Lib.hid hs; have hf0 := fld_mr0; have hf1 := fld_ir0
  clear hs
  go_enter Try.func4, Try.ntmps4
  go_wp2_with fail
  refine (big_no _ _ _ _ hk).mono ?_
  rintro e w' ⟨rfl, rfl⟩
  go_wp2_with fail
  refine (drawHW_any ca k kc B _ SB.out hk).mono ?_
  rintro e w1 ⟨x, y, z, rfl, hx, hy, hz, hb⟩
  obtain ⟨c, v, hk1⟩ := isHW_some x y z
  have HW := Lib.hid hk1
  have HB1 := Lib.hid (hb.alloc hb.size (.cells #[.int .i64 x, .int .i64 y, .int .i64 z] 42))
  have X1 := Lib.hid (Blk.new_at (w := w1) (cs := #[.int .i64 x, .int .i64 y, .int .i64 z]) (t := 42) w1.heap.size rfl)
  have SB1 := Lib.hid ((SB.out.below hb).alloc (.cells #[.int .i64 x, .int .i64 y, .int .i64 z] 42))
  clear hb hk1 SB hx hy hz
  go_wp2_with fail
  generalize w1.alloc (.cells #[.int .i64 x, .int .i64 y, .int .i64 z] 42) = w2 at *
  generalize w1.heap.size = Bh at *
  refine (implHW_any x y z c v _ HW.out).mono ?_
  rintro e w3 ⟨rfl, hb⟩
  have HB3 := Lib.hid ((thru0 HB1.out hb).alloc (thru0 HB1.out hb).size (.cells #[.int .i64 c, .int .i64 v] 38))
  have X3 := Lib.hid ((X1.out.below hb).alloc (.cells #[.int .i64 c, .int .i64 v] 38))
  have Y3 := Lib.hid (Blk.new_at (w := w3) (cs := #[.int .i64 c, .int .i64 v]) (t := 38) w3.heap.size rfl)
  have SB3 := Lib.hid ((SB1.out.below hb).alloc (.cells #[.int .i64 c, .int .i64 v] 38))
  clear hb X1 SB1 HB1
  go_wp2_with fail
  generalize w3.alloc (.cells #[.int .i64 c, .int .i64 v] 38) = w4 at *
  generalize w3.heap.size = Bw at *
  refine (drawRHa_any ca k kc B _ (SB3.out.mono HB3.out.size) hk).mono ?_
  rintro e w5 ⟨u, rfl, hu, hb⟩
  obtain ⟨rc, t, s, g, hk2⟩ := isRHa_some u
  have HRH := Lib.hid hk2; have HU := Lib.hid hu
  have HB5 := Lib.hid (thru0 HB3.out hb); have X5 := Lib.hid (X3.out.below hb); have Y5 := Lib.hid (Y3.out.below hb); have SB5 := Lib.hid (SB3.out.below hb)
  clear hb hk2 hu X3 Y3 SB3 HB3
  go_wp2_with fail
  refine (implRHa_any u rc t s g _ HU.out HRH.out).mono ?_
  rintro e w6 ⟨rfl, hb⟩
  have HB6 := Lib.hid ((thru0 HB5.out hb).alloc (thru0 HB5.out hb).size (.cells #[.int .i64 rc, .int .i64 t, .int .i64 s, .int .i64 g] 47))
  have X6 := Lib.hid ((X5.out.below hb).alloc (.cells #[.int .i64 rc, .int .i64 t, .int .i64 s, .int .i64 g] 47))
  have Y6 := Lib.hid ((Y5.out.below hb).alloc (.cells #[.int .i64 rc, .int .i64 t, .int .i64 s, .int .i64 g] 47))
  have Z6 := Lib.hid (Blk.new_at (w := w6) (cs := #[.int .i64 rc, .int .i64 t, .int .i64 s, .int .i64 g]) (t := 47) w6.heap.size rfl)
  have SB6 := Lib.hid ((SB5.out.below hb).alloc (.cells #[.int .i64 rc, .int .i64 t, .int .i64 s, .int .i64 g] 47))
  clear hb X5 Y5 SB5 HB5
  go_wp2_with fail
  generalize w6.alloc (.cells #[.int .i64 rc, .int .i64 t, .int .i64 s, .int .i64 g] 47) = w7 at *
  generalize w6.heap.size = Br at *
  refine (drawNM_any ca k kc B _ (SB6.out.mono HB6.out.size) hk).mono ?_
  rintro e w8 ⟨te, qu, sl, rfl, hte, hqu, hsl, hb⟩
  obtain ⟨nc, te', qu', n', hk3⟩ := isNM_some te qu sl
  have HNM := Lib.hid hk3; have HSL := Lib.hid hsl
  have HB8 := Lib.hid (thru0 HB6.out hb); have X8 := Lib.hid (X6.out.below hb); have Y8 := Lib.hid (Y6.out.below hb); have Z8 := Lib.hid (Z6.out.below hb)
  clear hb hk3 hsl hte hqu X6 Y6 Z6 SB6 HB6
  go_wp2_with fail
  refine (implNM_any te qu sl nc te' qu' n' _ HSL.out HNM.out).mono ?_
  rintro e w9 ⟨sa, kd, rfl, ho, hb⟩
  have D9 : Hid (HSt w (w9.alloc (.cells #[.int .i64 nc, .int .i64 te', .int .i64 qu', .int .i64 0, .slice sa n' kd, .slice none 0 0] 56)) Bh Bw Br w9.heap.size x y z c v rc t s g nc te' qu' sa n' kd) := Lib.hid
    ⟨(thru0 HB8.out hb).alloc (thru0 HB8.out hb).size _, (X8.out.below hb).alloc _, (Y8.out.below hb).alloc _, (Z8.out.below hb).alloc _, Blk.new_at (w := w9) w9.heap.size rfl, ho.src.alloc _⟩
  clear hb ho X8 Y8 Z8 HB8
  go_upto_region 9 with (fail)
  generalize w9.alloc (.cells #[.int .i64 nc, .int .i64 te', .int .i64 qu', .int .i64 0, .slice sa n' kd, .slice none 0 0] 56) = wA at *
  generalize w9.heap.size = Bn at *
  have Dd := Lib.hid (D9.out.below (Below.refl _ _).drew)
  have lh := D9.out.hb.1; have lw := D9.out.wb.1; have lr := D9.out.rb.1; have ln := D9.out.nb.1
  go_region_held3 (fun w' => w'.cell? ⟨Bh, 0, none⟩ = some (.int .i64 x) ∧ w'.cell? ⟨Bh, 1, none⟩ = some (.int .i64 y) ∧ w'.cell? ⟨Bh, 2, none⟩ = some (.int .i64 z) ∧ w'.cell? ⟨Bw, 0, none⟩ = some (.int .i64 c) ∧ w'.cell? ⟨Bw, 1, none⟩ = some (.int .i64 v) ∧ w'.cell? ⟨Br, 0, none⟩ = some (.int .i64 rc) ∧ w'.cell? ⟨Br, 1, none⟩ = some (.int .i64 t) ∧ w'.cell? ⟨Br, 2, none⟩ = some (.int .i64 s) ∧ w'.cell? ⟨Br, 3, none⟩ = some (.int .i64 g) ∧ w'.cell? ⟨Bn, 0, none⟩ = some (.int .i64 nc))
    (first | (with_reducible exact D9.out.c10) | (with_reducible exact Dd.out.c10) | (with_reducible exact D10.out.c10) | (with_reducible exact D11.out.c10) | (with_reducible exact D12.out.c10))
    (first | (go_at_call 26; (with_reducible refine (specHW_any x y z c v _ HW.out).mono ?_); rintro e w10 ⟨rfl, hb⟩; have D10 := Lib.hid (Dd.out.below hb); clear hb) | (go_at_call 27; (with_reducible refine (specRHa_any u rc t s g _ HU.out HRH.out).mono ?_); rintro e w11 ⟨rfl, hb⟩; have D11 := Lib.hid (D10.out.below hb); clear hb) | (go_at_call 28; (with_reducible refine (specNM_any te qu sl nc te' qu' n' _ HSL.out HNM.out).mono ?_); rintro e w12 ⟨sb, ke, rfl, _, hb⟩; have D12 := Lib.hid (D11.out.below hb); clear hb))
  clear D9 Dd D10 D11 lh lw lr ln
  go_upto_region 11 with (fail)
  have Dq := Lib.hid (D12.out.below (Below.refl _ _).drew)
  clear D12
  by_cases hc : c = 0
  · have HBK := Lib.hid (ha_back HW.out hc)
    subst hc
    by_cases hr : rc = 0
    · have HFO := Lib.hid (ha_forth HRH.out hr)
      subst hr
      refine wp_region_held_drew (S := (fun w' => w'.cell? ⟨Bh, 0, none⟩ = some (.int .i64 x) ∧ w'.cell? ⟨Bh, 1, none⟩ = some (.int .i64 y) ∧ w'.cell? ⟨Bh, 2, none⟩ = some (.int .i64 z) ∧ w'.cell? ⟨Bw, 0, none⟩ = some (.int .i64 0) ∧ w'.cell? ⟨Bw, 1, none⟩ = some (.int .i64 v) ∧ w'.cell? ⟨Br, 0, none⟩ = some (.int .i64 0) ∧ w'.cell? ⟨Br, 1, none⟩ = some (.int .i64 t) ∧ w'.cell? ⟨Br, 2, none⟩ = some (.int .i64 s) ∧ w'.cell? ⟨Br, 3, none⟩ = some (.int .i64 g) ∧ w'.cell? ⟨Bn, 0, none⟩ = some (.int .i64 nc))) (by kernel_rfl) (Dq.out.c10) (fun hHeld => ?_)
      refine wpAnyH_take (i := 0) (oi := { dst := some 51, op := Op.fieldAddr 38 (Operand.tmp 4) 0, type := 0, pos := "laws.go:334", after := #[], guard := none }) (v := ?_) rfl (by kernel_rfl) (by kernel_rfl) (by kernel_rfl) (fun _ _ _ h => h) (Or.inl ⟨by rfl, ?_⟩) (by assumption) ?_
      rotate_left
      · intro w hSw; (try dsimp only at hSw); go_simp; (try with_reducible rfl)
      try simp only [Act.put, List.setIfInBounds_toArray, List.set_cons_zero, List.set_cons_succ]
      refine wpAnyH_take (i := 1) (oi := { dst := some 52, op := Op.load 2 (Operand.tmp 51), type := 2, pos := "laws.go:334", after := #[{ on := 0, ground := Ground.data }], guard := none }) (v := ?_) rfl (by kernel_rfl) (by kernel_rfl) (by kernel_rfl) (fun _ _ _ h => h) (Or.inl ⟨by rfl, ?_⟩) (by assumption) ?_
      rotate_left
      · intro w hSw; (try dsimp only at hSw); go_simp; (try with_reducible rfl)
      try simp only [Act.put, List.setIfInBounds_toArray, List.set_cons_zero, List.set_cons_succ]
      refine wpAnyH_take (i := 2) (oi := { dst := some 53, op := Op.binOp BinOp.eql 2 (Operand.tmp 52) (Operand.const (Value.int IntKind.i64 0)) 2, type := 4, pos := "laws.go:334", after := #[{ on := 1, ground := Ground.data }], guard := none }) (v := ?_) rfl (by kernel_rfl) (by kernel_rfl) (by kernel_rfl) (fun _ _ _ h => h) (Or.inl ⟨by rfl, ?_⟩) (by assumption) ?_
      rotate_left
      · intro w hSw; (try dsimp only at hSw); go_simp; (try with_reducible rfl)
      try simp only [Act.put, List.setIfInBounds_toArray, List.set_cons_zero, List.set_cons_succ]
      refine wpAnyH_take (i := 3) (oi := { dst := some 54, op := Op.move (Operand.tmp 53), type := 4, pos := "laws.go:334", after := #[{ on := 2, ground := Ground.data }], guard := none }) (v := ?_) rfl (by kernel_rfl) (by kernel_rfl) (by kernel_rfl) (fun _ _ _ h => h) (Or.inl ⟨by rfl, ?_⟩) (by assumption) ?_
      rotate_left
      · intro w hSw; (try dsimp only at hSw); go_simp; (try with_reducible rfl)
      try simp only [Act.put, List.setIfInBounds_toArray, List.set_cons_zero, List.set_cons_succ]
      refine wpAnyH_take (i := 4) (oi := { dst := some 55, op := Op.fieldAddr 38 (Operand.tmp 4) 1, type := 0, pos := "laws.go:334", after := #[{ on := 3, ground := Ground.guard }], guard := some (3, true) }) (v := ?_) rfl (by kernel_rfl) (by kernel_rfl) (by kernel_rfl) (fun _ _ _ h => h) (Or.inl ⟨by rfl, ?_⟩) (by assumption) ?_
      rotate_left
      · intro w hSw; (try dsimp only at hSw); go_simp; (try with_reducible rfl)
      try simp only [Act.put, List.setIfInBounds_toArray, List.set_cons_zero, List.set_cons_succ]
      refine wpAnyH_take (i := 5) (oi := { dst := some 56, op := Op.load 2 (Operand.tmp 55), type := 2, pos := "laws.go:334", after := #[{ on := 4, ground := Ground.data }, { on := 3, ground := Ground.guard }], guard := some (3, true) }) (v := ?_) rfl (by kernel_rfl) (by kernel_rfl) (by kernel_rfl) (fun _ _ _ h => h) (Or.inl ⟨by rfl, ?_⟩) (by assumption) ?_
      rotate_left
      · intro w hSw; (try dsimp only at hSw); go_simp; (try with_reducible rfl)
      try simp only [Act.put, List.setIfInBounds_toArray, List.set_cons_zero, List.set_cons_succ]
      refine wpAnyH_take (i := 7) (oi := { dst := some 58, op := Op.load 42 (Operand.tmp 3), type := 42, pos := "laws.go:334", after := #[{ on := 3, ground := Ground.guard }], guard := some (3, true) }) (v := ?_) rfl (by kernel_rfl) (by kernel_rfl) (by kernel_rfl) (fun _ _ _ h => h) (Or.inl ⟨by rfl, ?_⟩) (by assumption) ?_
      rotate_left
      · intro w hSw; (try dsimp only at hSw); go_simp; (try with_reducible rfl)
      try simp only [Act.put, List.setIfInBounds_toArray, List.set_cons_zero, List.set_cons_succ]
      refine wpAnyH_take (i := 8) (oi := { dst := some 59, op := Op.build 47 #[(1, Operand.tmp 58)], type := 47, pos := "laws.go:334", after := #[{ on := 7, ground := Ground.data }, { on := 3, ground := Ground.guard }], guard := some (3, true) }) (v := ?_) rfl (by kernel_rfl) (by kernel_rfl) (by kernel_rfl) (fun _ _ _ h => h) (Or.inl ⟨by rfl, ?_⟩) (by assumption) ?_
      rotate_left
      · intro w hSw; (try dsimp only at hSw); go_simp; (try with_reducible rfl)
      try simp only [Act.put, List.setIfInBounds_toArray, List.set_cons_zero, List.set_cons_succ]
      refine wpAnyH_ready (rs := [6]) (by kernel_rfl) (by simp) ?_
      refine AllReadyH.cons (o := _) rfl (fun Kq hKq => ?_) AllReadyH.nil
      go_simp
      (go_at_call 23; refine (implRHa_any v 0 x y z _ HBK.out.2 HBK.out.1).mono ?_; rintro e w13 ⟨rfl, hb⟩; have D13 := Lib.hid (Dq.out.below hb); clear hb)
      first | (refine hKq.out _ _ (D13.out.c10) (fun hHeld => ?_)) | (go_wp2_with fail; refine hKq.out _ _ (D13.out.c10) (fun hHeld => ?_))
      clear hKq Kq
      try simp only [Act.put, List.setIfInBounds_toArray, List.set_cons_zero, List.set_cons_succ]
      refine wpAnyH_take (i := 9) (oi := { dst := some 60, op := Op.binOp BinOp.neq 47 (Operand.tmp 57) (Operand.tmp 59) 47, type := 4, pos := "laws.go:334", after := #[{ on := 6, ground := Ground.data }, { on := 8, ground := Ground.data }, { on := 3, ground := Ground.guard }], guard := some (3, true) }) (v := ?_) rfl (by kernel_rfl) (by kernel_rfl) (by kernel_rfl) (fun _ _ _ h => h) (Or.inl ⟨by rfl, ?_⟩) (by assumption) ?_
      rotate_left
      · intro w hSw; (try dsimp only at hSw); go_simp; (try with_reducible rfl)
      try simp only [Act.put, List.setIfInBounds_toArray, List.set_cons_zero, List.set_cons_succ]
      refine wpAnyH_take (i := 10) (oi := { dst := some 61, op := Op.pick (Operand.tmp 54) (Operand.tmp 60) (Operand.const (Value.bool false)), type := 4, pos := "laws.go:334", after := #[{ on := 3, ground := Ground.data }, { on := 9, ground := Ground.data }], guard := none }) (v := ?_) rfl (by kernel_rfl) (by kernel_rfl) (by kernel_rfl) (fun _ _ _ h => h) (Or.inl ⟨by rfl, ?_⟩) (by assumption) ?_
      rotate_left
      · intro w hSw; (try dsimp only at hSw); go_simp; (try with_reducible rfl)
      try simp only [Act.put, List.setIfInBounds_toArray, List.set_cons_zero, List.set_cons_succ]
      refine wpAnyH_take (i := 11) (oi := { dst := some 62, op := Op.move (Operand.tmp 61), type := 4, pos := "laws.go:334", after := #[{ on := 10, ground := Ground.data }, { on := 6, ground := Ground.chain }], guard := none }) (v := ?_) rfl (by kernel_rfl) (by kernel_rfl) (by kernel_rfl) (fun _ _ _ h => h) (Or.inl ⟨by rfl, ?_⟩) (by assumption) ?_
      rotate_left
      · intro w hSw; (try dsimp only at hSw); go_simp; (try with_reducible rfl)
      try simp only [Act.put, List.setIfInBounds_toArray, List.set_cons_zero, List.set_cons_succ]
      refine wpAnyH_take (i := 12) (oi := { dst := some 63, op := Op.fieldAddr 47 (Operand.tmp 6) 0, type := 0, pos := "laws.go:334", after := #[{ on := 11, ground := Ground.guard }], guard := some (11, false) }) (v := ?_) rfl (by kernel_rfl) (by kernel_rfl) (by kernel_rfl) (fun _ _ _ h => h) (Or.inl ⟨by rfl, ?_⟩) (by assumption) ?_
      rotate_left
      · intro w hSw; (try dsimp only at hSw); go_simp; (try with_reducible rfl)
      try simp only [Act.put, List.setIfInBounds_toArray, List.set_cons_zero, List.set_cons_succ]
      refine wpAnyH_take (i := 13) (oi := { dst := some 64, op := Op.load 2 (Operand.tmp 63), type := 2, pos := "laws.go:334", after := #[{ on := 12, ground := Ground.data }, { on := 11, ground := Ground.guard }], guard := some (11, false) }) (v := ?_) rfl (by kernel_rfl) (by kernel_rfl) (by kernel_rfl) (fun _ _ _ h => h) (Or.inl ⟨by rfl, ?_⟩) (by assumption) ?_
      rotate_left
      · intro w hSw; (try dsimp only at hSw); go_simp; (try with_reducible rfl)
      try simp only [Act.put, List.setIfInBounds_toArray, List.set_cons_zero, List.set_cons_succ]
      refine wpAnyH_take (i := 14) (oi := { dst := some 65, op := Op.binOp BinOp.eql 2 (Operand.tmp 64) (Operand.const (Value.int IntKind.i64 0)) 2, type := 4, pos := "laws.go:334", after := #[{ on := 13, ground := Ground.data }, { on := 11, ground := Ground.guard }], guard := some (11, false) }) (v := ?_) rfl (by kernel_rfl) (by kernel_rfl) (by kernel_rfl) (fun _ _ _ h => h) (Or.inl ⟨by rfl, ?_⟩) (by assumption) ?_
      rotate_left
      · intro w hSw; (try dsimp only at hSw); go_simp; (try with_reducible rfl)
      try simp only [Act.put, List.setIfInBounds_toArray, List.set_cons_zero, List.set_cons_succ]
      refine wpAnyH_take (i := 15) (oi := { dst := some 66, op := Op.move (Operand.tmp 65), type := 4, pos := "laws.go:334", after := #[{ on := 14, ground := Ground.data }, { on := 11, ground := Ground.chain }, { on := 11, ground := Ground.guard }], guard := some (11, false) }) (v := ?_) rfl (by kernel_rfl) (by kernel_rfl) (by kernel_rfl) (fun _ _ _ h => h) (Or.inl ⟨by rfl, ?_⟩) (by assumption) ?_
      rotate_left
      · intro w hSw; (try dsimp only at hSw); go_simp; (try with_reducible rfl)
      try simp only [Act.put, List.setIfInBounds_toArray, List.set_cons_zero, List.set_cons_succ]
      refine wpAnyH_take (i := 16) (oi := { dst := some 67, op := Op.fieldAddr 47 (Operand.tmp 6) 1, type := 0, pos := "laws.go:334", after := #[{ on := 15, ground := Ground.guard }], guard := some (15, true) }) (v := ?_) rfl (by kernel_rfl) (by kernel_rfl) (by kernel_rfl) (fun _ _ _ h => h) (Or.inl ⟨by rfl, ?_⟩) (by assumption) ?_
      rotate_left
      · intro w hSw; (try dsimp only at hSw); go_simp; (try with_reducible rfl)
      try simp only [Act.put, List.setIfInBounds_toArray, List.set_cons_zero, List.set_cons_succ]
      refine wpAnyH_take (i := 17) (oi := { dst := some 68, op := Op.load 42 (Operand.tmp 67), type := 42, pos := "laws.go:334", after := #[{ on := 16, ground := Ground.data }, { on := 15, ground := Ground.guard }], guard := some (15, true) }) (v := ?_) rfl (by kernel_rfl) (by kernel_rfl) (by kernel_rfl) (fun _ _ _ h => h) (Or.inl ⟨by rfl, ?_⟩) (by assumption) ?_
      rotate_left
      · intro w hSw; (try dsimp only at hSw); go_simp; (try with_reducible rfl)
      try simp only [Act.put, List.setIfInBounds_toArray, List.set_cons_zero, List.set_cons_succ]
      refine wpAnyH_take (i := 19) (oi := { dst := some 70, op := Op.move (Operand.tmp 5), type := 2, pos := "laws.go:334", after := #[{ on := 15, ground := Ground.guard }], guard := some (15, true) }) (v := ?_) rfl (by kernel_rfl) (by kernel_rfl) (by kernel_rfl) (fun _ _ _ h => h) (Or.inl ⟨by rfl, ?_⟩) (by assumption) ?_
      rotate_left
      · intro w hSw; (try dsimp only at hSw); go_simp; (try with_reducible rfl)
      try simp only [Act.put, List.setIfInBounds_toArray, List.set_cons_zero, List.set_cons_succ]
      refine wpAnyH_take (i := 20) (oi := { dst := some 71, op := Op.build 38 #[(1, Operand.tmp 70)], type := 38, pos := "laws.go:334", after := #[{ on := 19, ground := Ground.data }, { on := 15, ground := Ground.guard }], guard := some (15, true) }) (v := ?_) rfl (by kernel_rfl) (by kernel_rfl) (by kernel_rfl) (fun _ _ _ h => h) (Or.inl ⟨by rfl, ?_⟩) (by assumption) ?_
      rotate_left
      · intro w hSw; (try dsimp only at hSw); go_simp; (try with_reducible rfl)
      try simp only [Act.put, List.setIfInBounds_toArray, List.set_cons_zero, List.set_cons_succ]
      refine wpAnyH_ready (rs := [18]) (by kernel_rfl) (by simp) ?_
      refine AllReadyH.cons (o := _) rfl (fun Kq hKq => ?_) AllReadyH.nil
      go_simp
      (go_at_call 21; refine (implHW_any t s g 0 u _ HFO.out).mono ?_; rintro e w14 ⟨rfl, hb⟩; have D14 := Lib.hid (D13.out.below hb); clear hb)
      first | (refine hKq.out _ _ (D14.out.c10) (fun hHeld => ?_)) | (go_wp2_with fail; refine hKq.out _ _ (D14.out.c10) (fun hHeld => ?_))
      clear hKq Kq
      try simp only [Act.put, List.setIfInBounds_toArray, List.set_cons_zero, List.set_cons_succ]
      refine wpAnyH_take (i := 21) (oi := { dst := some 72, op := Op.binOp BinOp.neq 38 (Operand.tmp 69) (Operand.tmp 71) 38, type := 4, pos := "laws.go:334", after := #[{ on := 18, ground := Ground.data }, { on := 20, ground := Ground.data }, { on := 15, ground := Ground.guard }], guard := some (15, true) }) (v := ?_) rfl (by kernel_rfl) (by kernel_rfl) (by kernel_rfl) (fun _ _ _ h => h) (Or.inl ⟨by rfl, ?_⟩) (by assumption) ?_
      rotate_left
      · intro w hSw; (try dsimp only at hSw); go_simp; (try with_reducible rfl)
      try simp only [Act.put, List.setIfInBounds_toArray, List.set_cons_zero, List.set_cons_succ]
      refine wpAnyH_take (i := 22) (oi := { dst := some 73, op := Op.pick (Operand.tmp 66) (Operand.tmp 72) (Operand.const (Value.bool false)), type := 4, pos := "laws.go:334", after := #[{ on := 15, ground := Ground.data }, { on := 21, ground := Ground.data }, { on := 11, ground := Ground.guard }], guard := some (11, false) }) (v := ?_) rfl (by kernel_rfl) (by kernel_rfl) (by kernel_rfl) (fun _ _ _ h => h) (Or.inl ⟨by rfl, ?_⟩) (by assumption) ?_
      rotate_left
      · intro w hSw; (try dsimp only at hSw); go_simp; (try with_reducible rfl)
      try simp only [Act.put, List.setIfInBounds_toArray, List.set_cons_zero, List.set_cons_succ]
      refine wpAnyH_take (i := 23) (oi := { dst := some 74, op := Op.pick (Operand.tmp 62) (Operand.const (Value.bool true)) (Operand.tmp 73), type := 4, pos := "laws.go:334", after := #[{ on := 11, ground := Ground.data }, { on := 22, ground := Ground.data }], guard := none }) (v := ?_) rfl (by kernel_rfl) (by kernel_rfl) (by kernel_rfl) (fun _ _ _ h => h) (Or.inl ⟨by rfl, ?_⟩) (by assumption) ?_
      rotate_left
      · intro w hSw; (try dsimp only at hSw); go_simp; (try with_reducible rfl)
      try simp only [Act.put, List.setIfInBounds_toArray, List.set_cons_zero, List.set_cons_succ]
      refine wpAnyH_done (by kernel_rfl) ?_ _
      have DF := D14
      have PF := Lib.hid DF.out.pv
      have nb0 := DF.out.nb.at 0 rfl; have nb1 := DF.out.nb.at 1 rfl; have nb2 := DF.out.nb.at 2 rfl; have nb3 := DF.out.nb.at 3 rfl; have nb4 := DF.out.nb.at 4 rfl; have nb5 := DF.out.nb.at 5 rfl; have lnb := DF.out.nb.1
      by_cases hn0 : nc = 0
      · subst hn0
        obtain ⟨hmf, hq⟩ := HNM.out
        obtain ⟨rfl, rfl, rfl⟩ : te' = te ∧ qu' = qu ∧ n' = nSl sl := by
          rcases hq with ⟨_, h1, h2, h3⟩ | ⟨h1, _⟩
          · exact ⟨h1, h2, h3⟩
          · exact absurd rfl h1
        have HMF := Lib.hid hmf
        have hlen : (nSl sl : Int) = sl := nm_len hmf
        have hn9 := nSl_le sl
        have HLN := Lib.hid hlen
        clear hmf hq hlen
        generalize hN : nSl sl = N at *
        have HNN := Lib.hid hN
        clear hN
        obtain rfl := HLN.out
        go_wp2_with fail
        refine (implMF_any te' qu' 0 sa N kd zS none 0 0 (fun _ => gzero) 0 _ PF.out (.inl rfl) (by omega) (by omega) (fun i hi => by omega) HMF.out).mono ?_
        rintro e wF ⟨rfl, hb⟩
        have DG := Lib.hid (DF.out.below hb)
        have PG := Lib.hid DG.out.pv
        clear hb nb0 nb1 nb2 nb3 nb4 nb5 lnb
        have nb0 := DG.out.nb.at 0 rfl; have nb1 := DG.out.nb.at 1 rfl; have nb2 := DG.out.nb.at 2 rfl; have nb3 := DG.out.nb.at 3 rfl; have nb4 := DG.out.nb.at 4 rfl; have nb5 := DG.out.nb.at 5 rfl; have lnb := DG.out.nb.1
        go_wp2_with fail
        refine (implUB_is te' qu' 0 sa N kd zS none 0 0 (fun _ => gzero) 0 0 _ PG.out (.inl rfl) (by omega) (by omega) (fun i hi => by omega) HMF.out (nm_used _ _)).mono ?_
        rintro e wG ⟨rfl, hb⟩
        have DH := Lib.hid (DG.out.below hb)
        have PH := Lib.hid DH.out.pv
        clear hb nb0 nb1 nb2 nb3 nb4 nb5 lnb
        have nb0 := DH.out.nb.at 0 rfl; have nb1 := DH.out.nb.at 1 rfl; have nb2 := DH.out.nb.at 2 rfl; have nb3 := DH.out.nb.at 3 rfl; have nb4 := DH.out.nb.at 4 rfl; have nb5 := DH.out.nb.at 5 rfl; have lnb := DH.out.nb.1
        go_wp2_with fail
        refine (implSO_any te' qu' 0 sa N kd zS none 0 0 (fun _ => gzero) u 6 0 _ PH.out (.inl rfl) (by omega) (by omega) (fun i hi => by omega) HU.out (nm_slot HMF.out)).mono ?_
        rintro e wH ⟨rfl, hb⟩
        have DI := Lib.hid (DH.out.below hb)
        clear hb nb0 nb1 nb2 nb3 nb4 nb5 lnb
        go_wp2
        go_ret
        exact ⟨rfl, DI.out.bel⟩
      · have hnd : (nc != 0) = true := by simpa using hn0
        clear hn0
        go_wp2
        go_ret
        exact ⟨rfl, DF.out.bel⟩
    · have hrf : (rc == 0) = false := by simpa using hr
      clear hr
      refine wp_region_held_drew (S := (fun w' => w'.cell? ⟨Bh, 0, none⟩ = some (.int .i64 x) ∧ w'.cell? ⟨Bh, 1, none⟩ = some (.int .i64 y) ∧ w'.cell? ⟨Bh, 2, none⟩ = some (.int .i64 z) ∧ w'.cell? ⟨Bw, 0, none⟩ = some (.int .i64 0) ∧ w'.cell? ⟨Bw, 1, none⟩ = some (.int .i64 v) ∧ w'.cell? ⟨Br, 0, none⟩ = some (.int .i64 rc) ∧ w'.cell? ⟨Br, 1, none⟩ = some (.int .i64 t) ∧ w'.cell? ⟨Br, 2, none⟩ = some (.int .i64 s) ∧ w'.cell? ⟨Br, 3, none⟩ = some (.int .i64 g) ∧ w'.cell? ⟨Bn, 0, none⟩ = some (.int .i64 nc))) (by kernel_rfl) (Dq.out.c10) (fun hHeld => ?_)
      refine wpAnyH_take (i := 0) (oi := { dst := some 51, op := Op.fieldAddr 38 (Operand.tmp 4) 0, type := 0, pos := "laws.go:334", after := #[], guard := none }) (v := ?_) rfl (by kernel_rfl) (by kernel_rfl) (by kernel_rfl) (fun _ _ _ h => h) (Or.inl ⟨by rfl, ?_⟩) (by assumption) ?_
      rotate_left
      · intro w hSw; (try dsimp only at hSw); go_simp; (try with_reducible rfl)
      try simp only [Act.put, List.setIfInBounds_toArray, List.set_cons_zero, List.set_cons_succ]
      refine wpAnyH_take (i := 1) (oi := { dst := some 52, op := Op.load 2 (Operand.tmp 51), type := 2, pos := "laws.go:334", after := #[{ on := 0, ground := Ground.data }], guard := none }) (v := ?_) rfl (by kernel_rfl) (by kernel_rfl) (by kernel_rfl) (fun _ _ _ h => h) (Or.inl ⟨by rfl, ?_⟩) (by assumption) ?_
      rotate_left
      · intro w hSw; (try dsimp only at hSw); go_simp; (try with_reducible rfl)
      try simp only [Act.put, List.setIfInBounds_toArray, List.set_cons_zero, List.set_cons_succ]
      refine wpAnyH_take (i := 2) (oi := { dst := some 53, op := Op.binOp BinOp.eql 2 (Operand.tmp 52) (Operand.const (Value.int IntKind.i64 0)) 2, type := 4, pos := "laws.go:334", after := #[{ on := 1, ground := Ground.data }], guard := none }) (v := ?_) rfl (by kernel_rfl) (by kernel_rfl) (by kernel_rfl) (fun _ _ _ h => h) (Or.inl ⟨by rfl, ?_⟩) (by assumption) ?_
      rotate_left
      · intro w hSw; (try dsimp only at hSw); go_simp; (try with_reducible rfl)
      try simp only [Act.put, List.setIfInBounds_toArray, List.set_cons_zero, List.set_cons_succ]
      refine wpAnyH_take (i := 3) (oi := { dst := some 54, op := Op.move (Operand.tmp 53), type := 4, pos := "laws.go:334", after := #[{ on := 2, ground := Ground.data }], guard := none }) (v := ?_) rfl (by kernel_rfl) (by kernel_rfl) (by kernel_rfl) (fun _ _ _ h => h) (Or.inl ⟨by rfl, ?_⟩) (by assumption) ?_
      rotate_left
      · intro w hSw; (try dsimp only at hSw); go_simp; (try with_reducible rfl)
      try simp only [Act.put, List.setIfInBounds_toArray, List.set_cons_zero, List.set_cons_succ]
      refine wpAnyH_take (i := 4) (oi := { dst := some 55, op := Op.fieldAddr 38 (Operand.tmp 4) 1, type := 0, pos := "laws.go:334", after := #[{ on := 3, ground := Ground.guard }], guard := some (3, true) }) (v := ?_) rfl (by kernel_rfl) (by kernel_rfl) (by kernel_rfl) (fun _ _ _ h => h) (Or.inl ⟨by rfl, ?_⟩) (by assumption) ?_
      rotate_left
      · intro w hSw; (try dsimp only at hSw); go_simp; (try with_reducible rfl)
      try simp only [Act.put, List.setIfInBounds_toArray, List.set_cons_zero, List.set_cons_succ]
      refine wpAnyH_take (i := 5) (oi := { dst := some 56, op := Op.load 2 (Operand.tmp 55), type := 2, pos := "laws.go:334", after := #[{ on := 4, ground := Ground.data }, { on := 3, ground := Ground.guard }], guard := some (3, true) }) (v := ?_) rfl (by kernel_rfl) (by kernel_rfl) (by kernel_rfl) (fun _ _ _ h => h) (Or.inl ⟨by rfl, ?_⟩) (by assumption) ?_
      rotate_left
      · intro w hSw; (try dsimp only at hSw); go_simp; (try with_reducible rfl)
      try simp only [Act.put, List.setIfInBounds_toArray, List.set_cons_zero, List.set_cons_succ]
      refine wpAnyH_take (i := 7) (oi := { dst := some 58, op := Op.load 42 (Operand.tmp 3), type := 42, pos := "laws.go:334", after := #[{ on := 3, ground := Ground.guard }], guard := some (3, true) }) (v := ?_) rfl (by kernel_rfl) (by kernel_rfl) (by kernel_rfl) (fun _ _ _ h => h) (Or.inl ⟨by rfl, ?_⟩) (by assumption) ?_
      rotate_left
      · intro w hSw; (try dsimp only at hSw); go_simp; (try with_reducible rfl)
      try simp only [Act.put, List.setIfInBounds_toArray, List.set_cons_zero, List.set_cons_succ]
      refine wpAnyH_take (i := 8) (oi := { dst := some 59, op := Op.build 47 #[(1, Operand.tmp 58)], type := 47, pos := "laws.go:334", after := #[{ on := 7, ground := Ground.data }, { on := 3, ground := Ground.guard }], guard := some (3, true) }) (v := ?_) rfl (by kernel_rfl) (by kernel_rfl) (by kernel_rfl) (fun _ _ _ h => h) (Or.inl ⟨by rfl, ?_⟩) (by assumption) ?_
      rotate_left
      · intro w hSw; (try dsimp only at hSw); go_simp; (try with_reducible rfl)
      try simp only [Act.put, List.setIfInBounds_toArray, List.set_cons_zero, List.set_cons_succ]
      refine wpAnyH_ready (rs := [6]) (by kernel_rfl) (by simp) ?_
      refine AllReadyH.cons (o := _) rfl (fun Kq hKq => ?_) AllReadyH.nil
      go_simp
      (go_at_call 23; refine (implRHa_any v 0 x y z _ HBK.out.2 HBK.out.1).mono ?_; rintro e w13 ⟨rfl, hb⟩; have D13 := Lib.hid (Dq.out.below hb); clear hb)
      first | (refine hKq.out _ _ (D13.out.c10) (fun hHeld => ?_)) | (go_wp2_with fail; refine hKq.out _ _ (D13.out.c10) (fun hHeld => ?_))
      clear hKq Kq
      try simp only [Act.put, List.setIfInBounds_toArray, List.set_cons_zero, List.set_cons_succ]
      refine wpAnyH_take (i := 9) (oi := { dst := some 60, op := Op.binOp BinOp.neq 47 (Operand.tmp 57) (Operand.tmp 59) 47, type := 4, pos := "laws.go:334", after := #[{ on := 6, ground := Ground.data }, { on := 8, ground := Ground.data }, { on := 3, ground := Ground.guard }], guard := some (3, true) }) (v := ?_) rfl (by kernel_rfl) (by kernel_rfl) (by kernel_rfl) (fun _ _ _ h => h) (Or.inl ⟨by rfl, ?_⟩) (by assumption) ?_
      rotate_left
      · intro w hSw; (try dsimp only at hSw); go_simp; (try with_reducible rfl)
      try simp only [Act.put, List.setIfInBounds_toArray, List.set_cons_zero, List.set_cons_succ]
      refine wpAnyH_take (i := 10) (oi := { dst := some 61, op := Op.pick (Operand.tmp 54) (Operand.tmp 60) (Operand.const (Value.bool false)), type := 4, pos := "laws.go:334", after := #[{ on := 3, ground := Ground.data }, { on := 9, ground := Ground.data }], guard := none }) (v := ?_) rfl (by kernel_rfl) (by kernel_rfl) (by kernel_rfl) (fun _ _ _ h => h) (Or.inl ⟨by rfl, ?_⟩) (by assumption) ?_
      rotate_left
      · intro w hSw; (try dsimp only at hSw); go_simp; (try with_reducible rfl)
      try simp only [Act.put, List.setIfInBounds_toArray, List.set_cons_zero, List.set_cons_succ]
      refine wpAnyH_take (i := 11) (oi := { dst := some 62, op := Op.move (Operand.tmp 61), type := 4, pos := "laws.go:334", after := #[{ on := 10, ground := Ground.data }, { on := 6, ground := Ground.chain }], guard := none }) (v := ?_) rfl (by kernel_rfl) (by kernel_rfl) (by kernel_rfl) (fun _ _ _ h => h) (Or.inl ⟨by rfl, ?_⟩) (by assumption) ?_
      rotate_left
      · intro w hSw; (try dsimp only at hSw); go_simp; (try with_reducible rfl)
      try simp only [Act.put, List.setIfInBounds_toArray, List.set_cons_zero, List.set_cons_succ]
      refine wpAnyH_take (i := 12) (oi := { dst := some 63, op := Op.fieldAddr 47 (Operand.tmp 6) 0, type := 0, pos := "laws.go:334", after := #[{ on := 11, ground := Ground.guard }], guard := some (11, false) }) (v := ?_) rfl (by kernel_rfl) (by kernel_rfl) (by kernel_rfl) (fun _ _ _ h => h) (Or.inl ⟨by rfl, ?_⟩) (by assumption) ?_
      rotate_left
      · intro w hSw; (try dsimp only at hSw); go_simp; (try with_reducible rfl)
      try simp only [Act.put, List.setIfInBounds_toArray, List.set_cons_zero, List.set_cons_succ]
      refine wpAnyH_take (i := 13) (oi := { dst := some 64, op := Op.load 2 (Operand.tmp 63), type := 2, pos := "laws.go:334", after := #[{ on := 12, ground := Ground.data }, { on := 11, ground := Ground.guard }], guard := some (11, false) }) (v := ?_) rfl (by kernel_rfl) (by kernel_rfl) (by kernel_rfl) (fun _ _ _ h => h) (Or.inl ⟨by rfl, ?_⟩) (by assumption) ?_
      rotate_left
      · intro w hSw; (try dsimp only at hSw); go_simp; (try with_reducible rfl)
      try simp only [Act.put, List.setIfInBounds_toArray, List.set_cons_zero, List.set_cons_succ]
      refine wpAnyH_take (i := 14) (oi := { dst := some 65, op := Op.binOp BinOp.eql 2 (Operand.tmp 64) (Operand.const (Value.int IntKind.i64 0)) 2, type := 4, pos := "laws.go:334", after := #[{ on := 13, ground := Ground.data }, { on := 11, ground := Ground.guard }], guard := some (11, false) }) (v := ?_) rfl (by kernel_rfl) (by kernel_rfl) (by kernel_rfl) (fun _ _ _ h => h) (Or.inl ⟨by rfl, ?_⟩) (by assumption) ?_
      rotate_left
      · intro w hSw; (try dsimp only at hSw); go_simp; (try with_reducible rfl)
      try simp only [Act.put, List.setIfInBounds_toArray, List.set_cons_zero, List.set_cons_succ]
      refine wpAnyH_take (i := 15) (oi := { dst := some 66, op := Op.move (Operand.tmp 65), type := 4, pos := "laws.go:334", after := #[{ on := 14, ground := Ground.data }, { on := 11, ground := Ground.chain }, { on := 11, ground := Ground.guard }], guard := some (11, false) }) (v := ?_) rfl (by kernel_rfl) (by kernel_rfl) (by kernel_rfl) (fun _ _ _ h => h) (Or.inl ⟨by rfl, ?_⟩) (by assumption) ?_
      rotate_left
      · intro w hSw; (try dsimp only at hSw); go_simp; (try with_reducible rfl)
      try simp only [Act.put, List.setIfInBounds_toArray, List.set_cons_zero, List.set_cons_succ]
      refine wpAnyH_take (i := 16) (oi := { dst := some 67, op := Op.fieldAddr 47 (Operand.tmp 6) 1, type := 0, pos := "laws.go:334", after := #[{ on := 15, ground := Ground.guard }], guard := some (15, true) }) (v := _) rfl (by kernel_rfl) (by kernel_rfl) (by kernel_rfl) (fun _ _ _ h => h) (Or.inr ⟨by rfl, rfl⟩) (by assumption) ?_
      refine wpAnyH_take (i := 17) (oi := { dst := some 68, op := Op.load 42 (Operand.tmp 67), type := 42, pos := "laws.go:334", after := #[{ on := 16, ground := Ground.data }, { on := 15, ground := Ground.guard }], guard := some (15, true) }) (v := _) rfl (by kernel_rfl) (by kernel_rfl) (by kernel_rfl) (fun _ _ _ h => h) (Or.inr ⟨by rfl, rfl⟩) (by assumption) ?_
      refine wpAnyH_take (i := 19) (oi := { dst := some 70, op := Op.move (Operand.tmp 5), type := 2, pos := "laws.go:334", after := #[{ on := 15, ground := Ground.guard }], guard := some (15, true) }) (v := _) rfl (by kernel_rfl) (by kernel_rfl) (by kernel_rfl) (fun _ _ _ h => h) (Or.inr ⟨by rfl, rfl⟩) (by assumption) ?_
      refine wpAnyH_take (i := 20) (oi := { dst := some 71, op := Op.build 38 #[(1, Operand.tmp 70)], type := 38, pos := "laws.go:334", after := #[{ on := 19, ground := Ground.data }, { on := 15, ground := Ground.guard }], guard := some (15, true) }) (v := _) rfl (by kernel_rfl) (by kernel_rfl) (by kernel_rfl) (fun _ _ _ h => h) (Or.inr ⟨by rfl, rfl⟩) (by assumption) ?_
      refine wpAnyH_ready (rs := [18]) (by kernel_rfl) (by simp) ?_
      refine AllReadyH.cons (o := _) rfl (fun Kq hKq => ?_) AllReadyH.nil
      go_simp
      refine hKq.out _ _ (D13.out.c10) (fun hHeld => ?_)
      clear hKq Kq
      try simp only [Act.put, List.setIfInBounds_toArray, List.set_cons_zero, List.set_cons_succ]
      refine wpAnyH_take (i := 21) (oi := { dst := some 72, op := Op.binOp BinOp.neq 38 (Operand.tmp 69) (Operand.tmp 71) 38, type := 4, pos := "laws.go:334", after := #[{ on := 18, ground := Ground.data }, { on := 20, ground := Ground.data }, { on := 15, ground := Ground.guard }], guard := some (15, true) }) (v := _) rfl (by kernel_rfl) (by kernel_rfl) (by kernel_rfl) (fun _ _ _ h => h) (Or.inr ⟨by rfl, rfl⟩) (by assumption) ?_
      refine wpAnyH_take (i := 22) (oi := { dst := some 73, op := Op.pick (Operand.tmp 66) (Operand.tmp 72) (Operand.const (Value.bool false)), type := 4, pos := "laws.go:334", after := #[{ on := 15, ground := Ground.data }, { on := 21, ground := Ground.data }, { on := 11, ground := Ground.guard }], guard := some (11, false) }) (v := ?_) rfl (by kernel_rfl) (by kernel_rfl) (by kernel_rfl) (fun _ _ _ h => h) (Or.inl ⟨by rfl, ?_⟩) (by assumption) ?_
      rotate_left
      · intro w hSw; (try dsimp only at hSw); go_simp; (try with_reducible rfl)
      try simp only [Act.put, List.setIfInBounds_toArray, List.set_cons_zero, List.set_cons_succ]
      refine wpAnyH_take (i := 23) (oi := { dst := some 74, op := Op.pick (Operand.tmp 62) (Operand.const (Value.bool true)) (Operand.tmp 73), type := 4, pos := "laws.go:334", after := #[{ on := 11, ground := Ground.data }, { on := 22, ground := Ground.data }], guard := none }) (v := ?_) rfl (by kernel_rfl) (by kernel_rfl) (by kernel_rfl) (fun _ _ _ h => h) (Or.inl ⟨by rfl, ?_⟩) (by assumption) ?_
      rotate_left
      · intro w hSw; (try dsimp only at hSw); go_simp; (try with_reducible rfl)
      try simp only [Act.put, List.setIfInBounds_toArray, List.set_cons_zero, List.set_cons_succ]
      refine wpAnyH_done (by kernel_rfl) ?_ _
      have DF := D13
      have PF := Lib.hid DF.out.pv
      have nb0 := DF.out.nb.at 0 rfl; have nb1 := DF.out.nb.at 1 rfl; have nb2 := DF.out.nb.at 2 rfl; have nb3 := DF.out.nb.at 3 rfl; have nb4 := DF.out.nb.at 4 rfl; have nb5 := DF.out.nb.at 5 rfl; have lnb := DF.out.nb.1
      by_cases hn0 : nc = 0
      · subst hn0
        obtain ⟨hmf, hq⟩ := HNM.out
        obtain ⟨rfl, rfl, rfl⟩ : te' = te ∧ qu' = qu ∧ n' = nSl sl := by
          rcases hq with ⟨_, h1, h2, h3⟩ | ⟨h1, _⟩
          · exact ⟨h1, h2, h3⟩
          · exact absurd rfl h1
        have HMF := Lib.hid hmf
        have hlen : (nSl sl : Int) = sl := nm_len hmf
        have hn9 := nSl_le sl
        have HLN := Lib.hid hlen
        clear hmf hq hlen
        generalize hN : nSl sl = N at *
        have HNN := Lib.hid hN
        clear hN
        obtain rfl := HLN.out
        go_wp2_with fail
        refine (implMF_any te' qu' 0 sa N kd zS none 0 0 (fun _ => gzero) 0 _ PF.out (.inl rfl) (by omega) (by omega) (fun i hi => by omega) HMF.out).mono ?_
        rintro e wF ⟨rfl, hb⟩
        have DG := Lib.hid (DF.out.below hb)
        have PG := Lib.hid DG.out.pv
        clear hb nb0 nb1 nb2 nb3 nb4 nb5 lnb
        have nb0 := DG.out.nb.at 0 rfl; have nb1 := DG.out.nb.at 1 rfl; have nb2 := DG.out.nb.at 2 rfl; have nb3 := DG.out.nb.at 3 rfl; have nb4 := DG.out.nb.at 4 rfl; have nb5 := DG.out.nb.at 5 rfl; have lnb := DG.out.nb.1
        go_wp2_with fail
        refine (implUB_is te' qu' 0 sa N kd zS none 0 0 (fun _ => gzero) 0 0 _ PG.out (.inl rfl) (by omega) (by omega) (fun i hi => by omega) HMF.out (nm_used _ _)).mono ?_
        rintro e wG ⟨rfl, hb⟩
        have DH := Lib.hid (DG.out.below hb)
        have PH := Lib.hid DH.out.pv
        clear hb nb0 nb1 nb2 nb3 nb4 nb5 lnb
        have nb0 := DH.out.nb.at 0 rfl; have nb1 := DH.out.nb.at 1 rfl; have nb2 := DH.out.nb.at 2 rfl; have nb3 := DH.out.nb.at 3 rfl; have nb4 := DH.out.nb.at 4 rfl; have nb5 := DH.out.nb.at 5 rfl; have lnb := DH.out.nb.1
        go_wp2_with fail
        refine (implSO_any te' qu' 0 sa N kd zS none 0 0 (fun _ => gzero) u 6 0 _ PH.out (.inl rfl) (by omega) (by omega) (fun i hi => by omega) HU.out (nm_slot HMF.out)).mono ?_
        rintro e wH ⟨rfl, hb⟩
        have DI := Lib.hid (DH.out.below hb)
        clear hb nb0 nb1 nb2 nb3 nb4 nb5 lnb
        go_wp2
        go_ret
        exact ⟨rfl, DI.out.bel⟩
      · have hnd : (nc != 0) = true := by simpa using hn0
        clear hn0
        go_wp2
        go_ret
        exact ⟨rfl, DF.out.bel⟩
  · have hcf : (c == 0) = false := by simpa using hc
    clear hc
    by_cases hr : rc = 0
    · have HFO := Lib.hid (ha_forth HRH.out hr)
      subst hr
      refine wp_region_held_drew (S := (fun w' => w'.cell? ⟨Bh, 0, none⟩ = some (.int .i64 x) ∧ w'.cell? ⟨Bh, 1, none⟩ = some (.int .i64 y) ∧ w'.cell? ⟨Bh, 2, none⟩ = some (.int .i64 z) ∧ w'.cell? ⟨Bw, 0, none⟩ = some (.int .i64 c) ∧ w'.cell? ⟨Bw, 1, none⟩ = some (.int .i64 v) ∧ w'.cell? ⟨Br, 0, none⟩ = some (.int .i64 0) ∧ w'.cell? ⟨Br, 1, none⟩ = some (.int .i64 t) ∧ w'.cell? ⟨Br, 2, none⟩ = some (.int .i64 s) ∧ w'.cell? ⟨Br, 3, none⟩ = some (.int .i64 g) ∧ w'.cell? ⟨Bn, 0, none⟩ = some (.int .i64 nc))) (by kernel_rfl) (Dq.out.c10) (fun hHeld => ?_)
      refine wpAnyH_take (i := 0) (oi := { dst := some 51, op := Op.fieldAddr 38 (Operand.tmp 4) 0, type := 0, pos := "laws.go:334", after := #[], guard := none }) (v := ?_) rfl (by kernel_rfl) (by kernel_rfl) (by kernel_rfl) (fun _ _ _ h => h) (Or.inl ⟨by rfl, ?_⟩) (by assumption) ?_
      rotate_left
      · intro w hSw; (try dsimp only at hSw); go_simp; (try with_reducible rfl)
      try simp only [Act.put, List.setIfInBounds_toArray, List.set_cons_zero, List.set_cons_succ]
      refine wpAnyH_take (i := 1) (oi := { dst := some 52, op := Op.load 2 (Operand.tmp 51), type := 2, pos := "laws.go:334", after := #[{ on := 0, ground := Ground.data }], guard := none }) (v := ?_) rfl (by kernel_rfl) (by kernel_rfl) (by kernel_rfl) (fun _ _ _ h => h) (Or.inl ⟨by rfl, ?_⟩) (by assumption) ?_
      rotate_left
      · intro w hSw; (try dsimp only at hSw); go_simp; (try with_reducible rfl)
      try simp only [Act.put, List.setIfInBounds_toArray, List.set_cons_zero, List.set_cons_succ]
      refine wpAnyH_take (i := 2) (oi := { dst := some 53, op := Op.binOp BinOp.eql 2 (Operand.tmp 52) (Operand.const (Value.int IntKind.i64 0)) 2, type := 4, pos := "laws.go:334", after := #[{ on := 1, ground := Ground.data }], guard := none }) (v := ?_) rfl (by kernel_rfl) (by kernel_rfl) (by kernel_rfl) (fun _ _ _ h => h) (Or.inl ⟨by rfl, ?_⟩) (by assumption) ?_
      rotate_left
      · intro w hSw; (try dsimp only at hSw); go_simp; (try with_reducible rfl)
      try simp only [Act.put, List.setIfInBounds_toArray, List.set_cons_zero, List.set_cons_succ]
      refine wpAnyH_take (i := 3) (oi := { dst := some 54, op := Op.move (Operand.tmp 53), type := 4, pos := "laws.go:334", after := #[{ on := 2, ground := Ground.data }], guard := none }) (v := ?_) rfl (by kernel_rfl) (by kernel_rfl) (by kernel_rfl) (fun _ _ _ h => h) (Or.inl ⟨by rfl, ?_⟩) (by assumption) ?_
      rotate_left
      · intro w hSw; (try dsimp only at hSw); go_simp; (try with_reducible rfl)
      try simp only [Act.put, List.setIfInBounds_toArray, List.set_cons_zero, List.set_cons_succ]
      refine wpAnyH_take (i := 4) (oi := { dst := some 55, op := Op.fieldAddr 38 (Operand.tmp 4) 1, type := 0, pos := "laws.go:334", after := #[{ on := 3, ground := Ground.guard }], guard := some (3, true) }) (v := _) rfl (by kernel_rfl) (by kernel_rfl) (by kernel_rfl) (fun _ _ _ h => h) (Or.inr ⟨by rfl, rfl⟩) (by assumption) ?_
      refine wpAnyH_take (i := 5) (oi := { dst := some 56, op := Op.load 2 (Operand.tmp 55), type := 2, pos := "laws.go:334", after := #[{ on := 4, ground := Ground.data }, { on := 3, ground := Ground.guard }], guard := some (3, true) }) (v := _) rfl (by kernel_rfl) (by kernel_rfl) (by kernel_rfl) (fun _ _ _ h => h) (Or.inr ⟨by rfl, rfl⟩) (by assumption) ?_
      refine wpAnyH_take (i := 7) (oi := { dst := some 58, op := Op.load 42 (Operand.tmp 3), type := 42, pos := "laws.go:334", after := #[{ on := 3, ground := Ground.guard }], guard := some (3, true) }) (v := _) rfl (by kernel_rfl) (by kernel_rfl) (by kernel_rfl) (fun _ _ _ h => h) (Or.inr ⟨by rfl, rfl⟩) (by assumption) ?_
      refine wpAnyH_take (i := 8) (oi := { dst := some 59, op := Op.build 47 #[(1, Operand.tmp 58)], type := 47, pos := "laws.go:334", after := #[{ on := 7, ground := Ground.data }, { on := 3, ground := Ground.guard }], guard := some (3, true) }) (v := _) rfl (by kernel_rfl) (by kernel_rfl) (by kernel_rfl) (fun _ _ _ h => h) (Or.inr ⟨by rfl, rfl⟩) (by assumption) ?_
      refine wpAnyH_ready (rs := [6]) (by kernel_rfl) (by simp) ?_
      refine AllReadyH.cons (o := _) rfl (fun Kq hKq => ?_) AllReadyH.nil
      go_simp
      refine hKq.out _ _ (Dq.out.c10) (fun hHeld => ?_)
      clear hKq Kq
      try simp only [Act.put, List.setIfInBounds_toArray, List.set_cons_zero, List.set_cons_succ]
      refine wpAnyH_take (i := 9) (oi := { dst := some 60, op := Op.binOp BinOp.neq 47 (Operand.tmp 57) (Operand.tmp 59) 47, type := 4, pos := "laws.go:334", after := #[{ on := 6, ground := Ground.data }, { on := 8, ground := Ground.data }, { on := 3, ground := Ground.guard }], guard := some (3, true) }) (v := _) rfl (by kernel_rfl) (by kernel_rfl) (by kernel_rfl) (fun _ _ _ h => h) (Or.inr ⟨by rfl, rfl⟩) (by assumption) ?_
      refine wpAnyH_take (i := 10) (oi := { dst := some 61, op := Op.pick (Operand.tmp 54) (Operand.tmp 60) (Operand.const (Value.bool false)), type := 4, pos := "laws.go:334", after := #[{ on := 3, ground := Ground.data }, { on := 9, ground := Ground.data }], guard := none }) (v := ?_) rfl (by kernel_rfl) (by kernel_rfl) (by kernel_rfl) (fun _ _ _ h => h) (Or.inl ⟨by rfl, ?_⟩) (by assumption) ?_
      rotate_left
      · intro w hSw; (try dsimp only at hSw); go_simp; (try with_reducible rfl)
      try simp only [Act.put, List.setIfInBounds_toArray, List.set_cons_zero, List.set_cons_succ]
      refine wpAnyH_take (i := 11) (oi := { dst := some 62, op := Op.move (Operand.tmp 61), type := 4, pos := "laws.go:334", after := #[{ on := 10, ground := Ground.data }, { on := 6, ground := Ground.chain }], guard := none }) (v := ?_) rfl (by kernel_rfl) (by kernel_rfl) (by kernel_rfl) (fun _ _ _ h => h) (Or.inl ⟨by rfl, ?_⟩) (by assumption) ?_
      rotate_left
      · intro w hSw; (try dsimp only at hSw); go_simp; (try with_reducible rfl)
      try simp only [Act.put, List.setIfInBounds_toArray, List.set_cons_zero, List.set_cons_succ]
      refine wpAnyH_take (i := 12) (oi := { dst := some 63, op := Op.fieldAddr 47 (Operand.tmp 6) 0, type := 0, pos := "laws.go:334", after := #[{ on := 11, ground := Ground.guard }], guard := some (11, false) }) (v := ?_) rfl (by kernel_rfl) (by kernel_rfl) (by kernel_rfl) (fun _ _ _ h => h) (Or.inl ⟨by rfl, ?_⟩) (by assumption) ?_
      rotate_left
      · intro w hSw; (try dsimp only at hSw); go_simp; (try with_reducible rfl)
      try simp only [Act.put, List.setIfInBounds_toArray, List.set_cons_zero, List.set_cons_succ]
      refine wpAnyH_take (i := 13) (oi := { dst := some 64, op := Op.load 2 (Operand.tmp 63), type := 2, pos := "laws.go:334", after := #[{ on := 12, ground := Ground.data }, { on := 11, ground := Ground.guard }], guard := some (11, false) }) (v := ?_) rfl (by kernel_rfl) (by kernel_rfl) (by kernel_rfl) (fun _ _ _ h => h) (Or.inl ⟨by rfl, ?_⟩) (by assumption) ?_
      rotate_left
      · intro w hSw; (try dsimp only at hSw); go_simp; (try with_reducible rfl)
      try simp only [Act.put, List.setIfInBounds_toArray, List.set_cons_zero, List.set_cons_succ]
      refine wpAnyH_take (i := 14) (oi := { dst := some 65, op := Op.binOp BinOp.eql 2 (Operand.tmp 64) (Operand.const (Value.int IntKind.i64 0)) 2, type := 4, pos := "laws.go:334", after := #[{ on := 13, ground := Ground.data }, { on := 11, ground := Ground.guard }], guard := some (11, false) }) (v := ?_) rfl (by kernel_rfl) (by kernel_rfl) (by kernel_rfl) (fun _ _ _ h => h) (Or.inl ⟨by rfl, ?_⟩) (by assumption) ?_
      rotate_left
      · intro w hSw; (try dsimp only at hSw); go_simp; (try with_reducible rfl)
      try simp only [Act.put, List.setIfInBounds_toArray, List.set_cons_zero, List.set_cons_succ]
      refine wpAnyH_take (i := 15) (oi := { dst := some 66, op := Op.move (Operand.tmp 65), type := 4, pos := "laws.go:334", after := #[{ on := 14, ground := Ground.data }, { on := 11, ground := Ground.chain }, { on := 11, ground := Ground.guard }], guard := some (11, false) }) (v := ?_) rfl (by kernel_rfl) (by kernel_rfl) (by kernel_rfl) (fun _ _ _ h => h) (Or.inl ⟨by rfl, ?_⟩) (by assumption) ?_
      rotate_left
      · intro w hSw; (try dsimp only at hSw); go_simp; (try with_reducible rfl)
      try simp only [Act.put, List.setIfInBounds_toArray, List.set_cons_zero, List.set_cons_succ]
      refine wpAnyH_take (i := 16) (oi := { dst := some 67, op := Op.fieldAddr 47 (Operand.tmp 6) 1, type := 0, pos := "laws.go:334", after := #[{ on := 15, ground := Ground.guard }], guard := some (15, true) }) (v := ?_) rfl (by kernel_rfl) (by kernel_rfl) (by kernel_rfl) (fun _ _ _ h => h) (Or.inl ⟨by rfl, ?_⟩) (by assumption) ?_
      rotate_left
      · intro w hSw; (try dsimp only at hSw); go_simp; (try with_reducible rfl)
      try simp only [Act.put, List.setIfInBounds_toArray, List.set_cons_zero, List.set_cons_succ]
      refine wpAnyH_take (i := 17) (oi := { dst := some 68, op := Op.load 42 (Operand.tmp 67), type := 42, pos := "laws.go:334", after := #[{ on := 16, ground := Ground.data }, { on := 15, ground := Ground.guard }], guard := some (15, true) }) (v := ?_) rfl (by kernel_rfl) (by kernel_rfl) (by kernel_rfl) (fun _ _ _ h => h) (Or.inl ⟨by rfl, ?_⟩) (by assumption) ?_
      rotate_left
      · intro w hSw; (try dsimp only at hSw); go_simp; (try with_reducible rfl)
      try simp only [Act.put, List.setIfInBounds_toArray, List.set_cons_zero, List.set_cons_succ]
      refine wpAnyH_take (i := 19) (oi := { dst := some 70, op := Op.move (Operand.tmp 5), type := 2, pos := "laws.go:334", after := #[{ on := 15, ground := Ground.guard }], guard := some (15, true) }) (v := ?_) rfl (by kernel_rfl) (by kernel_rfl) (by kernel_rfl) (fun _ _ _ h => h) (Or.inl ⟨by rfl, ?_⟩) (by assumption) ?_
      rotate_left
      · intro w hSw; (try dsimp only at hSw); go_simp; (try with_reducible rfl)
      try simp only [Act.put, List.setIfInBounds_toArray, List.set_cons_zero, List.set_cons_succ]
      refine wpAnyH_take (i := 20) (oi := { dst := some 71, op := Op.build 38 #[(1, Operand.tmp 70)], type := 38, pos := "laws.go:334", after := #[{ on := 19, ground := Ground.data }, { on := 15, ground := Ground.guard }], guard := some (15, true) }) (v := ?_) rfl (by kernel_rfl) (by kernel_rfl) (by kernel_rfl) (fun _ _ _ h => h) (Or.inl ⟨by rfl, ?_⟩) (by assumption) ?_
      rotate_left
      · intro w hSw; (try dsimp only at hSw); go_simp; (try with_reducible rfl)
      try simp only [Act.put, List.setIfInBounds_toArray, List.set_cons_zero, List.set_cons_succ]
      refine wpAnyH_ready (rs := [18]) (by kernel_rfl) (by simp) ?_
      refine AllReadyH.cons (o := _) rfl (fun Kq hKq => ?_) AllReadyH.nil
      go_simp
      (go_at_call 21; refine (implHW_any t s g 0 u _ HFO.out).mono ?_; rintro e w14 ⟨rfl, hb⟩; have D14 := Lib.hid (Dq.out.below hb); clear hb)
      first | (refine hKq.out _ _ (D14.out.c10) (fun hHeld => ?_)) | (go_wp2_with fail; refine hKq.out _ _ (D14.out.c10) (fun hHeld => ?_))
      clear hKq Kq
      try simp only [Act.put, List.setIfInBounds_toArray, List.set_cons_zero, List.set_cons_succ]
      refine wpAnyH_take (i := 21) (oi := { dst := some 72, op := Op.binOp BinOp.neq 38 (Operand.tmp 69) (Operand.tmp 71) 38, type := 4, pos := "laws.go:334", after := #[{ on := 18, ground := Ground.data }, { on := 20, ground := Ground.data }, { on := 15, ground := Ground.guard }], guard := some (15, true) }) (v := ?_) rfl (by kernel_rfl) (by kernel_rfl) (by kernel_rfl) (fun _ _ _ h => h) (Or.inl ⟨by rfl, ?_⟩) (by assumption) ?_
      rotate_left
      · intro w hSw; (try dsimp only at hSw); go_simp; (try with_reducible rfl)
      try simp only [Act.put, List.setIfInBounds_toArray, List.set_cons_zero, List.set_cons_succ]
      refine wpAnyH_take (i := 22) (oi := { dst := some 73, op := Op.pick (Operand.tmp 66) (Operand.tmp 72) (Operand.const (Value.bool false)), type := 4, pos := "laws.go:334", after := #[{ on := 15, ground := Ground.data }, { on := 21, ground := Ground.data }, { on := 11, ground := Ground.guard }], guard := some (11, false) }) (v := ?_) rfl (by kernel_rfl) (by kernel_rfl) (by kernel_rfl) (fun _ _ _ h => h) (Or.inl ⟨by rfl, ?_⟩) (by assumption) ?_
      rotate_left
      · intro w hSw; (try dsimp only at hSw); go_simp; (try with_reducible rfl)
      try simp only [Act.put, List.setIfInBounds_toArray, List.set_cons_zero, List.set_cons_succ]
      refine wpAnyH_take (i := 23) (oi := { dst := some 74, op := Op.pick (Operand.tmp 62) (Operand.const (Value.bool true)) (Operand.tmp 73), type := 4, pos := "laws.go:334", after := #[{ on := 11, ground := Ground.data }, { on := 22, ground := Ground.data }], guard := none }) (v := ?_) rfl (by kernel_rfl) (by kernel_rfl) (by kernel_rfl) (fun _ _ _ h => h) (Or.inl ⟨by rfl, ?_⟩) (by assumption) ?_
      rotate_left
      · intro w hSw; (try dsimp only at hSw); go_simp; (try with_reducible rfl)
      try simp only [Act.put, List.setIfInBounds_toArray, List.set_cons_zero, List.set_cons_succ]
      refine wpAnyH_done (by kernel_rfl) ?_ _
      have DF := D14
      have PF := Lib.hid DF.out.pv
      have nb0 := DF.out.nb.at 0 rfl; have nb1 := DF.out.nb.at 1 rfl; have nb2 := DF.out.nb.at 2 rfl; have nb3 := DF.out.nb.at 3 rfl; have nb4 := DF.out.nb.at 4 rfl; have nb5 := DF.out.nb.at 5 rfl; have lnb := DF.out.nb.1
      by_cases hn0 : nc = 0
      · subst hn0
        obtain ⟨hmf, hq⟩ := HNM.out
        obtain ⟨rfl, rfl, rfl⟩ : te' = te ∧ qu' = qu ∧ n' = nSl sl := by
          rcases hq with ⟨_, h1, h2, h3⟩ | ⟨h1, _⟩
          · exact ⟨h1, h2, h3⟩
          · exact absurd rfl h1
        have HMF := Lib.hid hmf
        have hlen : (nSl sl : Int) = sl := nm_len hmf
        have hn9 := nSl_le sl
        have HLN := Lib.hid hlen
        clear hmf hq hlen
        generalize hN : nSl sl = N at *
        have HNN := Lib.hid hN
        clear hN
        obtain rfl := HLN.out
        go_wp2_with fail
        refine (implMF_any te' qu' 0 sa N kd zS none 0 0 (fun _ => gzero) 0 _ PF.out (.inl rfl) (by omega) (by omega) (fun i hi => by omega) HMF.out).mono ?_
        rintro e wF ⟨rfl, hb⟩
        have DG := Lib.hid (DF.out.below hb)
        have PG := Lib.hid DG.out.pv
        clear hb nb0 nb1 nb2 nb3 nb4 nb5 lnb
        have nb0 := DG.out.nb.at 0 rfl; have nb1 := DG.out.nb.at 1 rfl; have nb2 := DG.out.nb.at 2 rfl; have nb3 := DG.out.nb.at 3 rfl; have nb4 := DG.out.nb.at 4 rfl; have nb5 := DG.out.nb.at 5 rfl; have lnb := DG.out.nb.1
        go_wp2_with fail
        refine (implUB_is te' qu' 0 sa N kd zS none 0 0 (fun _ => gzero) 0 0 _ PG.out (.inl rfl) (by omega) (by omega) (fun i hi => by omega) HMF.out (nm_used _ _)).mono ?_
        rintro e wG ⟨rfl, hb⟩
        have DH := Lib.hid (DG.out.below hb)
        have PH := Lib.hid DH.out.pv
        clear hb nb0 nb1 nb2 nb3 nb4 nb5 lnb
        have nb0 := DH.out.nb.at 0 rfl; have nb1 := DH.out.nb.at 1 rfl; have nb2 := DH.out.nb.at 2 rfl; have nb3 := DH.out.nb.at 3 rfl; have nb4 := DH.out.nb.at 4 rfl; have nb5 := DH.out.nb.at 5 rfl; have lnb := DH.out.nb.1
        go_wp2_with fail
        refine (implSO_any te' qu' 0 sa N kd zS none 0 0 (fun _ => gzero) u 6 0 _ PH.out (.inl rfl) (by omega) (by omega) (fun i hi => by omega) HU.out (nm_slot HMF.out)).mono ?_
        rintro e wH ⟨rfl, hb⟩
        have DI := Lib.hid (DH.out.below hb)
        clear hb nb0 nb1 nb2 nb3 nb4 nb5 lnb
        go_wp2
        go_ret
        exact ⟨rfl, DI.out.bel⟩
      · have hnd : (nc != 0) = true := by simpa using hn0
        clear hn0
        go_wp2
        go_ret
        exact ⟨rfl, DF.out.bel⟩
    · have hrf : (rc == 0) = false := by simpa using hr
      clear hr
      refine wp_region_held_drew (S := (fun w' => w'.cell? ⟨Bh, 0, none⟩ = some (.int .i64 x) ∧ w'.cell? ⟨Bh, 1, none⟩ = some (.int .i64 y) ∧ w'.cell? ⟨Bh, 2, none⟩ = some (.int .i64 z) ∧ w'.cell? ⟨Bw, 0, none⟩ = some (.int .i64 c) ∧ w'.cell? ⟨Bw, 1, none⟩ = some (.int .i64 v) ∧ w'.cell? ⟨Br, 0, none⟩ = some (.int .i64 rc) ∧ w'.cell? ⟨Br, 1, none⟩ = some (.int .i64 t) ∧ w'.cell? ⟨Br, 2, none⟩ = some (.int .i64 s) ∧ w'.cell? ⟨Br, 3, none⟩ = some (.int .i64 g) ∧ w'.cell? ⟨Bn, 0, none⟩ = some (.int .i64 nc))) (by kernel_rfl) (Dq.out.c10) (fun hHeld => ?_)
      refine wpAnyH_take (i := 0) (oi := { dst := some 51, op := Op.fieldAddr 38 (Operand.tmp 4) 0, type := 0, pos := "laws.go:334", after := #[], guard := none }) (v := ?_) rfl (by kernel_rfl) (by kernel_rfl) (by kernel_rfl) (fun _ _ _ h => h) (Or.inl ⟨by rfl, ?_⟩) (by assumption) ?_
      rotate_left
      · intro w hSw; (try dsimp only at hSw); go_simp; (try with_reducible rfl)
      try simp only [Act.put, List.setIfInBounds_toArray, List.set_cons_zero, List.set_cons_succ]
      refine wpAnyH_take (i := 1) (oi := { dst := some 52, op := Op.load 2 (Operand.tmp 51), type := 2, pos := "laws.go:334", after := #[{ on := 0, ground := Ground.data }], guard := none }) (v := ?_) rfl (by kernel_rfl) (by kernel_rfl) (by kernel_rfl) (fun _ _ _ h => h) (Or.inl ⟨by rfl, ?_⟩) (by assumption) ?_
      rotate_left
      · intro w hSw; (try dsimp only at hSw); go_simp; (try with_reducible rfl)
      try simp only [Act.put, List.setIfInBounds_toArray, List.set_cons_zero, List.set_cons_succ]
      refine wpAnyH_take (i := 2) (oi := { dst := some 53, op := Op.binOp BinOp.eql 2 (Operand.tmp 52) (Operand.const (Value.int IntKind.i64 0)) 2, type := 4, pos := "laws.go:334", after := #[{ on := 1, ground := Ground.data }], guard := none }) (v := ?_) rfl (by kernel_rfl) (by kernel_rfl) (by kernel_rfl) (fun _ _ _ h => h) (Or.inl ⟨by rfl, ?_⟩) (by assumption) ?_
      rotate_left
      · intro w hSw; (try dsimp only at hSw); go_simp; (try with_reducible rfl)
      try simp only [Act.put, List.setIfInBounds_toArray, List.set_cons_zero, List.set_cons_succ]
      refine wpAnyH_take (i := 3) (oi := { dst := some 54, op := Op.move (Operand.tmp 53), type := 4, pos := "laws.go:334", after := #[{ on := 2, ground := Ground.data }], guard := none }) (v := ?_) rfl (by kernel_rfl) (by kernel_rfl) (by kernel_rfl) (fun _ _ _ h => h) (Or.inl ⟨by rfl, ?_⟩) (by assumption) ?_
      rotate_left
      · intro w hSw; (try dsimp only at hSw); go_simp; (try with_reducible rfl)
      try simp only [Act.put, List.setIfInBounds_toArray, List.set_cons_zero, List.set_cons_succ]
      refine wpAnyH_take (i := 4) (oi := { dst := some 55, op := Op.fieldAddr 38 (Operand.tmp 4) 1, type := 0, pos := "laws.go:334", after := #[{ on := 3, ground := Ground.guard }], guard := some (3, true) }) (v := _) rfl (by kernel_rfl) (by kernel_rfl) (by kernel_rfl) (fun _ _ _ h => h) (Or.inr ⟨by rfl, rfl⟩) (by assumption) ?_
      refine wpAnyH_take (i := 5) (oi := { dst := some 56, op := Op.load 2 (Operand.tmp 55), type := 2, pos := "laws.go:334", after := #[{ on := 4, ground := Ground.data }, { on := 3, ground := Ground.guard }], guard := some (3, true) }) (v := _) rfl (by kernel_rfl) (by kernel_rfl) (by kernel_rfl) (fun _ _ _ h => h) (Or.inr ⟨by rfl, rfl⟩) (by assumption) ?_
      refine wpAnyH_take (i := 7) (oi := { dst := some 58, op := Op.load 42 (Operand.tmp 3), type := 42, pos := "laws.go:334", after := #[{ on := 3, ground := Ground.guard }], guard := some (3, true) }) (v := _) rfl (by kernel_rfl) (by kernel_rfl) (by kernel_rfl) (fun _ _ _ h => h) (Or.inr ⟨by rfl, rfl⟩) (by assumption) ?_
      refine wpAnyH_take (i := 8) (oi := { dst := some 59, op := Op.build 47 #[(1, Operand.tmp 58)], type := 47, pos := "laws.go:334", after := #[{ on := 7, ground := Ground.data }, { on := 3, ground := Ground.guard }], guard := some (3, true) }) (v := _) rfl (by kernel_rfl) (by kernel_rfl) (by kernel_rfl) (fun _ _ _ h => h) (Or.inr ⟨by rfl, rfl⟩) (by assumption) ?_
      refine wpAnyH_ready (rs := [6]) (by kernel_rfl) (by simp) ?_
      refine AllReadyH.cons (o := _) rfl (fun Kq hKq => ?_) AllReadyH.nil
      go_simp
      refine hKq.out _ _ (Dq.out.c10) (fun hHeld => ?_)
      clear hKq Kq
      try simp only [Act.put, List.setIfInBounds_toArray, List.set_cons_zero, List.set_cons_succ]
      refine wpAnyH_take (i := 9) (oi := { dst := some 60, op := Op.binOp BinOp.neq 47 (Operand.tmp 57) (Operand.tmp 59) 47, type := 4, pos := "laws.go:334", after := #[{ on := 6, ground := Ground.data }, { on := 8, ground := Ground.data }, { on := 3, ground := Ground.guard }], guard := some (3, true) }) (v := _) rfl (by kernel_rfl) (by kernel_rfl) (by kernel_rfl) (fun _ _ _ h => h) (Or.inr ⟨by rfl, rfl⟩) (by assumption) ?_
      refine wpAnyH_take (i := 10) (oi := { dst := some 61, op := Op.pick (Operand.tmp 54) (Operand.tmp 60) (Operand.const (Value.bool false)), type := 4, pos := "laws.go:334", after := #[{ on := 3, ground := Ground.data }, { on := 9, ground := Ground.data }], guard := none }) (v := ?_) rfl (by kernel_rfl) (by kernel_rfl) (by kernel_rfl) (fun _ _ _ h => h) (Or.inl ⟨by rfl, ?_⟩) (by assumption) ?_
      rotate_left
      · intro w hSw; (try dsimp only at hSw); go_simp; (try with_reducible rfl)
      try simp only [Act.put, List.setIfInBounds_toArray, List.set_cons_zero, List.set_cons_succ]
      refine wpAnyH_take (i := 11) (oi := { dst := some 62, op := Op.move (Operand.tmp 61), type := 4, pos := "laws.go:334", after := #[{ on := 10, ground := Ground.data }, { on := 6, ground := Ground.chain }], guard := none }) (v := ?_) rfl (by kernel_rfl) (by kernel_rfl) (by kernel_rfl) (fun _ _ _ h => h) (Or.inl ⟨by rfl, ?_⟩) (by assumption) ?_
      rotate_left
      · intro w hSw; (try dsimp only at hSw); go_simp; (try with_reducible rfl)
      try simp only [Act.put, List.setIfInBounds_toArray, List.set_cons_zero, List.set_cons_succ]
      refine wpAnyH_take (i := 12) (oi := { dst := some 63, op := Op.fieldAddr 47 (Operand.tmp 6) 0, type := 0, pos := "laws.go:334", after := #[{ on := 11, ground := Ground.guard }], guard := some (11, false) }) (v := ?_) rfl (by kernel_rfl) (by kernel_rfl) (by kernel_rfl) (fun _ _ _ h => h) (Or.inl ⟨by rfl, ?_⟩) (by assumption) ?_
      rotate_left
      · intro w hSw; (try dsimp only at hSw); go_simp; (try with_reducible rfl)
      try simp only [Act.put, List.setIfInBounds_toArray, List.set_cons_zero, List.set_cons_succ]
      refine wpAnyH_take (i := 13) (oi := { dst := some 64, op := Op.load 2 (Operand.tmp 63), type := 2, pos := "laws.go:334", after := #[{ on := 12, ground := Ground.data }, { on := 11, ground := Ground.guard }], guard := some (11, false) }) (v := ?_) rfl (by kernel_rfl) (by kernel_rfl) (by kernel_rfl) (fun _ _ _ h => h) (Or.inl ⟨by rfl, ?_⟩) (by assumption) ?_
      rotate_left
      · intro w hSw; (try dsimp only at hSw); go_simp; (try with_reducible rfl)
      try simp only [Act.put, List.setIfInBounds_toArray, List.set_cons_zero, List.set_cons_succ]
      refine wpAnyH_take (i := 14) (oi := { dst := some 65, op := Op.binOp BinOp.eql 2 (Operand.tmp 64) (Operand.const (Value.int IntKind.i64 0)) 2, type := 4, pos := "laws.go:334", after := #[{ on := 13, ground := Ground.data }, { on := 11, ground := Ground.guard }], guard := some (11, false) }) (v := ?_) rfl (by kernel_rfl) (by kernel_rfl) (by kernel_rfl) (fun _ _ _ h => h) (Or.inl ⟨by rfl, ?_⟩) (by assumption) ?_
      rotate_left
      · intro w hSw; (try dsimp only at hSw); go_simp; (try with_reducible rfl)
      try simp only [Act.put, List.setIfInBounds_toArray, List.set_cons_zero, List.set_cons_succ]
      refine wpAnyH_take (i := 15) (oi := { dst := some 66, op := Op.move (Operand.tmp 65), type := 4, pos := "laws.go:334", after := #[{ on := 14, ground := Ground.data }, { on := 11, ground := Ground.chain }, { on := 11, ground := Ground.guard }], guard := some (11, false) }) (v := ?_) rfl (by kernel_rfl) (by kernel_rfl) (by kernel_rfl) (fun _ _ _ h => h) (Or.inl ⟨by rfl, ?_⟩) (by assumption) ?_
      rotate_left
      · intro w hSw; (try dsimp only at hSw); go_simp; (try with_reducible rfl)
      try simp only [Act.put, List.setIfInBounds_toArray, List.set_cons_zero, List.set_cons_succ]
      refine wpAnyH_take (i := 16) (oi := { dst := some 67, op := Op.fieldAddr 47 (Operand.tmp 6) 1, type := 0, pos := "laws.go:334", after := #[{ on := 15, ground := Ground.guard }], guard := some (15, true) }) (v := _) rfl (by kernel_rfl) (by kernel_rfl) (by kernel_rfl) (fun _ _ _ h => h) (Or.inr ⟨by rfl, rfl⟩) (by assumption) ?_
      refine wpAnyH_take (i := 17) (oi := { dst := some 68, op := Op.load 42 (Operand.tmp 67), type := 42, pos := "laws.go:334", after := #[{ on := 16, ground := Ground.data }, { on := 15, ground := Ground.guard }], guard := some (15, true) }) (v := _) rfl (by kernel_rfl) (by kernel_rfl) (by kernel_rfl) (fun _ _ _ h => h) (Or.inr ⟨by rfl, rfl⟩) (by assumption) ?_
      refine wpAnyH_take (i := 19) (oi := { dst := some 70, op := Op.move (Operand.tmp 5), type := 2, pos := "laws.go:334", after := #[{ on := 15, ground := Ground.guard }], guard := some (15, true) }) (v := _) rfl (by kernel_rfl) (by kernel_rfl) (by kernel_rfl) (fun _ _ _ h => h) (Or.inr ⟨by rfl, rfl⟩) (by assumption) ?_
      refine wpAnyH_take (i := 20) (oi := { dst := some 71, op := Op.build 38 #[(1, Operand.tmp 70)], type := 38, pos := "laws.go:334", after := #[{ on := 19, ground := Ground.data }, { on := 15, ground := Ground.guard }], guard := some (15, true) }) (v := _) rfl (by kernel_rfl) (by kernel_rfl) (by kernel_rfl) (fun _ _ _ h => h) (Or.inr ⟨by rfl, rfl⟩) (by assumption) ?_
      refine wpAnyH_ready (rs := [18]) (by kernel_rfl) (by simp) ?_
      refine AllReadyH.cons (o := _) rfl (fun Kq hKq => ?_) AllReadyH.nil
      go_simp
      refine hKq.out _ _ (Dq.out.c10) (fun hHeld => ?_)
      clear hKq Kq
      try simp only [Act.put, List.setIfInBounds_toArray, List.set_cons_zero, List.set_cons_succ]
      refine wpAnyH_take (i := 21) (oi := { dst := some 72, op := Op.binOp BinOp.neq 38 (Operand.tmp 69) (Operand.tmp 71) 38, type := 4, pos := "laws.go:334", after := #[{ on := 18, ground := Ground.data }, { on := 20, ground := Ground.data }, { on := 15, ground := Ground.guard }], guard := some (15, true) }) (v := _) rfl (by kernel_rfl) (by kernel_rfl) (by kernel_rfl) (fun _ _ _ h => h) (Or.inr ⟨by rfl, rfl⟩) (by assumption) ?_
      refine wpAnyH_take (i := 22) (oi := { dst := some 73, op := Op.pick (Operand.tmp 66) (Operand.tmp 72) (Operand.const (Value.bool false)), type := 4, pos := "laws.go:334", after := #[{ on := 15, ground := Ground.data }, { on := 21, ground := Ground.data }, { on := 11, ground := Ground.guard }], guard := some (11, false) }) (v := ?_) rfl (by kernel_rfl) (by kernel_rfl) (by kernel_rfl) (fun _ _ _ h => h) (Or.inl ⟨by rfl, ?_⟩) (by assumption) ?_
      rotate_left
      · intro w hSw; (try dsimp only at hSw); go_simp; (try with_reducible rfl)
      try simp only [Act.put, List.setIfInBounds_toArray, List.set_cons_zero, List.set_cons_succ]
      refine wpAnyH_take (i := 23) (oi := { dst := some 74, op := Op.pick (Operand.tmp 62) (Operand.const (Value.bool true)) (Operand.tmp 73), type := 4, pos := "laws.go:334", after := #[{ on := 11, ground := Ground.data }, { on := 22, ground := Ground.data }], guard := none }) (v := ?_) rfl (by kernel_rfl) (by kernel_rfl) (by kernel_rfl) (fun _ _ _ h => h) (Or.inl ⟨by rfl, ?_⟩) (by assumption) ?_
      rotate_left
      · intro w hSw; (try dsimp only at hSw); go_simp; (try with_reducible rfl)
      try simp only [Act.put, List.setIfInBounds_toArray, List.set_cons_zero, List.set_cons_succ]
      refine wpAnyH_done (by kernel_rfl) ?_ _
      have DF := Dq
      have PF := Lib.hid DF.out.pv
      have nb0 := DF.out.nb.at 0 rfl; have nb1 := DF.out.nb.at 1 rfl; have nb2 := DF.out.nb.at 2 rfl; have nb3 := DF.out.nb.at 3 rfl; have nb4 := DF.out.nb.at 4 rfl; have nb5 := DF.out.nb.at 5 rfl; have lnb := DF.out.nb.1
      by_cases hn0 : nc = 0
      · subst hn0
        obtain ⟨hmf, hq⟩ := HNM.out
        obtain ⟨rfl, rfl, rfl⟩ : te' = te ∧ qu' = qu ∧ n' = nSl sl := by
          rcases hq with ⟨_, h1, h2, h3⟩ | ⟨h1, _⟩
          · exact ⟨h1, h2, h3⟩
          · exact absurd rfl h1
        have HMF := Lib.hid hmf
        have hlen : (nSl sl : Int) = sl := nm_len hmf
        have hn9 := nSl_le sl
        have HLN := Lib.hid hlen
        clear hmf hq hlen
        generalize hN : nSl sl = N at *
        have HNN := Lib.hid hN
        clear hN
        obtain rfl := HLN.out
        go_wp2_with fail
        refine (implMF_any te' qu' 0 sa N kd zS none 0 0 (fun _ => gzero) 0 _ PF.out (.inl rfl) (by omega) (by omega) (fun i hi => by omega) HMF.out).mono ?_
        rintro e wF ⟨rfl, hb⟩
        have DG := Lib.hid (DF.out.below hb)
        have PG := Lib.hid DG.out.pv
        clear hb nb0 nb1 nb2 nb3 nb4 nb5 lnb
        have nb0 := DG.out.nb.at 0 rfl; have nb1 := DG.out.nb.at 1 rfl; have nb2 := DG.out.nb.at 2 rfl; have nb3 := DG.out.nb.at 3 rfl; have nb4 := DG.out.nb.at 4 rfl; have nb5 := DG.out.nb.at 5 rfl; have lnb := DG.out.nb.1
        go_wp2_with fail
        refine (implUB_is te' qu' 0 sa N kd zS none 0 0 (fun _ => gzero) 0 0 _ PG.out (.inl rfl) (by omega) (by omega) (fun i hi => by omega) HMF.out (nm_used _ _)).mono ?_
        rintro e wG ⟨rfl, hb⟩
        have DH := Lib.hid (DG.out.below hb)
        have PH := Lib.hid DH.out.pv
        clear hb nb0 nb1 nb2 nb3 nb4 nb5 lnb
        have nb0 := DH.out.nb.at 0 rfl; have nb1 := DH.out.nb.at 1 rfl; have nb2 := DH.out.nb.at 2 rfl; have nb3 := DH.out.nb.at 3 rfl; have nb4 := DH.out.nb.at 4 rfl; have nb5 := DH.out.nb.at 5 rfl; have lnb := DH.out.nb.1
        go_wp2_with fail
        refine (implSO_any te' qu' 0 sa N kd zS none 0 0 (fun _ => gzero) u 6 0 _ PH.out (.inl rfl) (by omega) (by omega) (fun i hi => by omega) HU.out (nm_slot HMF.out)).mono ?_
        rintro e wH ⟨rfl, hb⟩
        have DI := Lib.hid (DH.out.below hb)
        clear hb nb0 nb1 nb2 nb3 nb4 nb5 lnb
        go_wp2
        go_ret
        exact ⟨rfl, DI.out.bel⟩
      · have hnd : (nc != 0) = true := by simpa using hn0
        clear hn0
        go_wp2
        go_ret
        exact ⟨rfl, DF.out.bel⟩

theorem e4_any (ca : Option Addr) (k kc : Nat) (B : Nat → Int) (w : World) (hs : SrcB w w.heap.size ca k B) (hk : k ≤ maxLen) : Calls Try.prog 4 #[.slice ca k kc] w (RetBool w true) := by
  by_cases h : k ≤ 1048576
  · exact e4_near ca k kc B w hs h
  · exact e4_far ca k kc w hk (by omega)
end Go.Proofs.Ytbhjmomphajnnaa

