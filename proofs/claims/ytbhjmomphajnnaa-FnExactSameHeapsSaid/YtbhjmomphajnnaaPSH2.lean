/- Texts merged: HT4 to SH2. -/
import Derived.Test.YtbhjmomphajnnaaPSH1
namespace Go.Proofs.Ytbhjmomphajnnaa
open Go.RowKit
set_option linter.unusedVariables false

set_option maxRecDepth 100000 in
set_option maxHeartbeats 800000 in
theorem szHeap_any (h ac bu : Int) (a : Option Addr) (n c : Nat) (ta : Option Addr) (N tc : Nat) (T : Nat → TN) (l : Int) (w : World) (ht : TV w ta N T) (hn : n ≤ maxLen) (hN : N ≤ maxLen) (hm : ∀ i, i < N → (T i).n ≤ maxLen) (hl0 : 0 ≤ l) (hl : l ≤ 1048576) :
    Calls Try.prog 51 #[.agg #[.int .i64 h, .slice a n c, .int .i64 ac, .int .i64 bu, .slice ta N tc], .int .i64 l] w (fun e w' => Below w.heap.size w w' ∧ ∃ r : Int, e = .returned (.int .i64 r) ∧ r ≤ l ∧ (r = -1 ∨ (0 ≤ r ∧ (n : Int) ≤ l ∧ (N : Int) ≤ l ∧ ∀ i, i < N → ((T i).n : Int) ≤ l))) := by
  have G := Lib.hid ht; have HM := Lib.hid hm
  clear ht hm
  have HB0 := Lib.hid ((Below.refl w.heap.size w).alloc (Nat.le_refl _) (.cells #[.int .i64 h, .slice a n c, .int .i64 ac, .int .i64 bu, .slice ta N tc] 93))
  have A_0 := Lib.hid (Blk.new_at (w := w) (cs := #[.int .i64 h, .slice a n c, .int .i64 ac, .int .i64 bu, .slice ta N tc]) (t := 93) w.heap.size rfl)
  by_cases h1 : (n : Int) ≤ l
  · have h9 : ¬ l - (n : Int) < 0 := by omega
    go_enter Try.func51, Try.ntmps51
    go_wp2_with fail
    refine (szArena_ok h ac bu a n c l _ hl0 hl hn h1).mono ?_
    rintro e w1 ⟨rfl, hb⟩
    have HB1 := Lib.hid (thru0 HB0.out hb); have A_1 := Lib.hid (A_0.out.below hb)
    clear hb A_0 HB0
    have c4 := A_1.out.at 4 rfl; have lA := A_1.out.1
    go_wp2_with fail
    refine (szTenS_any ta N tc T (l - (n : Int)) _ (G.out.below HB1.out) hN HM.out (by omega) (by omega)).mono ?_
    rintro e w2 ⟨hb, r, rfl, hr1, hr2⟩
    have HB2 := Lib.hid (thru0 HB1.out hb)
    clear hb
    rcases hr2 with rfl | ⟨h0, h3, h2⟩
    · go_wp2
      go_ret
      exact ⟨HB2.out, -1, rfl, by omega, .inl rfl⟩
    · have h8 : ¬ r < 0 := by omega
      have H2 := Lib.hid h2
      clear h2
      go_wp2
      go_ret
      exact ⟨HB2.out, r, rfl, by omega, .inr ⟨h0, h1, by omega, fun i hi => by have := H2.out i hi; omega⟩⟩
  · go_enter Try.func51, Try.ntmps51
    go_wp2_with fail
    refine (szArena_no h ac bu a n c l _ hl0 hl hn (by omega)).mono ?_
    rintro e w1 ⟨rfl, hb⟩
    have HB1 := Lib.hid (thru0 HB0.out hb)
    clear hb
    go_wp2
    go_ret
    exact ⟨HB1.out, -1, rfl, by omega, .inl rfl⟩

/-- A new heap that holds the same. -/
def RetTH (W : World) (h : Int) (n : Nat) (f : Nat → Int) (ac bu : Int) (N : Nat) (T : Nat → TN) (e : Ending) (w' : World) : Prop :=
  ∃ (a : Option Addr) (c : Nat) (ta : Option Addr) (tc mid : Nat) (U : Nat → TN), e = .returned (.agg #[.int .i64 h, .slice a n c, .int .i64 ac, .int .i64 bu, .slice ta N tc]) ∧ OwnIn w' W.heap.size mid a n f ∧ TVO w' mid w'.heap.size ta N U ∧ W.heap.size ≤ mid ∧ mid ≤ w'.heap.size ∧ (∀ i, i < N → TnSame (T i) (U i)) ∧ Below W.heap.size W w' ∧ n ≤ c ∧ c ≤ maxLen

set_option maxRecDepth 100000 in
set_option maxHeartbeats 1600000 in
theorem toHeap_any (h ac bu : Int) (a : Option Addr) (n c : Nat) (f : Nat → Int) (ta : Option Addr) (N tc : Nat) (T : Nat → TN) (w : World) (hs : Src w a n f) (ht : TV w ta N T) (hn : n ≤ 1048576) (hN : N ≤ 1048576) (hm : ∀ i, i < N → (T i).n ≤ 1048576) :
    Calls Try.prog 53 #[.agg #[.int .i64 h, .slice a n c, .int .i64 ac, .int .i64 bu, .slice ta N tc]] w (RetTH w h n f ac bu N T) := by
  have S0 := Lib.hid hs; have G := Lib.hid ht; have HM := Lib.hid hm
  clear hs ht hm
  go_enter Try.func53, Try.ntmps53
  go_wp2_with fail
  refine (toArena_any h ac bu a n c f _ (((S0.out.alloc _).alloc _).alloc _) hn).mono ?_
  rintro e w1 ⟨a', c', rfl, ho, hb, hnc, hcm, _⟩
  have A_1 := Lib.hid ((((Blk.new_at (w := w) (cs := #[.int .i64 h, .slice a n c, .int .i64 ac, .int .i64 bu, .slice ta N tc]) (t := 93) w.heap.size rfl).alloc _).alloc _).below hb)
  have R_1 := Lib.hid (((Blk.new_at (w := w.alloc (.cells #[.int .i64 h, .slice a n c, .int .i64 ac, .int .i64 bu, .slice ta N tc] 93)) (cs := #[.int .i64 0, .slice none 0 0, .int .i64 0, .int .i64 0, .slice none 0 0]) (t := 83) (w.heap.size + 1) (by simp)).alloc _).below hb)
  have O_1 := Lib.hid ((Blk.new_at (w := (w.alloc (.cells #[.int .i64 h, .slice a n c, .int .i64 ac, .int .i64 bu, .slice ta N tc] 93)).alloc (.cells #[.int .i64 0, .slice none 0 0, .int .i64 0, .int .i64 0, .slice none 0 0] 83)) (cs := #[.int .i64 0, .slice none 0 0, .int .i64 0, .int .i64 0, .slice none 0 0]) (t := 83) (w.heap.size + 2) (by simp)).below hb)
  have HB1 := Lib.hid (((((Below.refl w.heap.size w).alloc (Nat.le_refl _) _).alloc (by simp) _).alloc (by simp; omega) _).trans (hb.mono (by simp; omega)))
  have z1 : w.heap.size + 3 ≤ w1.heap.size := by have := hb.size; simp at this; omega
  have HO1 := Lib.hid ((ho.mono (B' := w.heap.size + 3) (by simp)).into)
  clear hb ho S0
  have cA4 := A_1.out.at 4 rfl; have lA := A_1.out.1
  have cO0 := O_1.out.at 0 rfl; have fO0 := O_1.out.free 0 rfl; have cO1 := O_1.out.at 1 rfl; have fO1 := O_1.out.free 1 rfl; have cO2 := O_1.out.at 2 rfl; have fO2 := O_1.out.free 2 rfl; have cO3 := O_1.out.at 3 rfl; have fO3 := O_1.out.free 3 rfl; have cO4 := O_1.out.at 4 rfl; have fO4 := O_1.out.free 4 rfl; have lO := O_1.out.1
  go_wp2_with fail
  obtain ⟨ws, hws⟩ : ∃ ws, ws = (((w1.setCell ⟨w.heap.size + 1 + 1, 0, none⟩ (.int .i64 h)).setCell ⟨w.heap.size + 1 + 1, 1, none⟩ (.slice a' n c')).setCell ⟨w.heap.size + 1 + 1, 2, none⟩ (.int .i64 ac)).setCell ⟨w.heap.size + 1 + 1, 3, none⟩ (.int .i64 bu) := ⟨_, rfl⟩
  have hkw : Keeps w1 ws (w.heap.size + 2) (w.heap.size + 2 + 1) := by
    rw [hws]
    repeat (refine Keeps.trans ?_ (keeps_setCell (by (try simp); (try omega)) (by (try simp); (try omega)) _))
    exact Keeps.refl _ _ _
  have HBs : Hid (Below w.heap.size w ws) := Lib.hid (HB1.out.trans (hkw.below (by omega) HB1.out.size))
  have O_s : Hid (Blk ws (w.heap.size + 2) [.int .i64 h, .slice a' n c', .int .i64 ac, .int .i64 bu, .slice none 0 0]) := Lib.hid (by rw [hws]; exact (((O_1.out.set 0 (by simp) _).set 1 (by simp) _).set 2 (by simp) _).set 3 (by simp) _)
  have R_s := Lib.hid (R_1.out.keeps hkw (.inl (by omega)))
  have HOs := Lib.hid (HO1.out.keeps hkw (.inr (by omega)))
  have Gs := Lib.hid (G.out.below HBs.out)
  have zs : w.heap.size + 3 ≤ ws.heap.size := by have := hkw.size; omega
  have zz : ws.heap.size = w1.heap.size := by rw [hws]; simp
  rw [← hws]
  have HZ := Lib.hid zz
  clear hws hkw O_1 R_1 A_1 HB1 HO1 G cA4 cO0 fO0 cO1 fO1 cO2 fO2 cO3 fO3 cO4 fO4 lA lO zz
  refine (toTenS_any ta N tc T _ Gs.out hN HM.out).mono ?_
  rintro e w2 ⟨ta', tc', U, rfl, hno, hsm, hb⟩
  have HB2 := Lib.hid (thru0 HBs.out hb)
  have O_1 := Lib.hid (O_s.out.below hb); have R_1 := Lib.hid (R_s.out.below hb)
  have HO2 := Lib.hid (HOs.out.below hb); have HNO := Lib.hid hno; have HSM := Lib.hid hsm
  have z2 : ws.heap.size ≤ w2.heap.size := hb.size
  clear hb hno hsm O_s R_s HBs HOs Gs
  have cR0 := R_1.out.at 0 rfl; have fR0 := R_1.out.free 0 rfl; have cR1 := R_1.out.at 1 rfl; have fR1 := R_1.out.free 1 rfl; have cR2 := R_1.out.at 2 rfl; have fR2 := R_1.out.free 2 rfl; have cR3 := R_1.out.at 3 rfl; have fR3 := R_1.out.free 3 rfl; have cR4 := R_1.out.at 4 rfl; have fR4 := R_1.out.free 4 rfl; have lR := R_1.out.1
  have cO0 := O_1.out.at 0 rfl; have fO0 := O_1.out.free 0 rfl; have cO1 := O_1.out.at 1 rfl; have fO1 := O_1.out.free 1 rfl; have cO2 := O_1.out.at 2 rfl; have fO2 := O_1.out.free 2 rfl; have cO3 := O_1.out.at 3 rfl; have fO3 := O_1.out.free 3 rfl; have cO4 := O_1.out.at 4 rfl; have fO4 := O_1.out.free 4 rfl; have lO := O_1.out.1
  go_wp2
  refine bodyPost_ret (v := .agg #[.int .i64 h, .slice a' n c', .int .i64 ac, .int .i64 bu, .slice ta' N tc']) (by simp [results, Try.results53, go_sem, cR0, cR1, cR2, cR3, cR4]) rfl ⟨a', c', ta', tc', ws.heap.size, U, rfl, ?_, ?_, by omega, by (try simp); omega, HSM.out, ?_, hnc, hcm⟩
  · refine OwnIn.widen (lo := w.heap.size + 3) (hi := w1.heap.size) ?_ (by omega) (Nat.le_of_eq HZ.out.symm)
    refine OwnIn.keeps (lo' := w.heap.size + 1) (hi' := w.heap.size + 3) HO2.out ?_ (.inr (by omega))
    repeat (refine Keeps.trans ?_ (keeps_setCell (by (try simp); (try omega)) (by (try simp); (try omega)) _))
    exact Keeps.refl _ _ _
  · refine TVO.widen (lo := ws.heap.size) (hi := w2.heap.size) ?_ (Nat.le_refl _) (by simp)
    refine TVO.keeps (lo' := w.heap.size + 1) (hi' := w.heap.size + 3) HNO.out ?_ (.inr (by omega))
    repeat (refine Keeps.trans ?_ (keeps_setCell (by (try simp); (try omega)) (by (try simp); (try omega)) _))
    exact Keeps.refl _ _ _
  · repeat (with_reducible refine Below.setCell ?_ (by (try simp); (try omega)) _)
    exact HB2.out

set_option maxRecDepth 100000 in
set_option maxHeartbeats 800000 in
theorem eqHeap_same (h ac bu : Int) (a a' : Option Addr) (n c c' : Nat) (f g : Nat → Int) (ta ta' : Option Addr) (N tc tc' : Nat) (T U : Nat → TN) (w : World) (s1 : Src w a n f) (s2 : Src w a' n g) (t1 : TV w ta N T) (t2 : TV w ta' N U) (he : ∀ i, i < n → f i = g i) (hs : ∀ i, i < N → TnSame (T i) (U i)) (hn : n ≤ 1048576) (hN : N ≤ 1048576) (hm : ∀ i, i < N → (T i).n ≤ 1048576) :
    Calls Try.prog 55 #[.agg #[.int .i64 h, .slice a n c, .int .i64 ac, .int .i64 bu, .slice ta N tc], .agg #[.int .i64 h, .slice a' n c', .int .i64 ac, .int .i64 bu, .slice ta' N tc']] w (RetBool w true) := by
  have S1 := Lib.hid s1; have S2 := Lib.hid s2; have T1 := Lib.hid t1; have T2 := Lib.hid t2; have HE := Lib.hid he; have HS := Lib.hid hs; have HM := Lib.hid hm
  have HB0 := Lib.hid (((Below.refl w.heap.size w).alloc (Nat.le_refl _) (.cells #[.int .i64 h, .slice a n c, .int .i64 ac, .int .i64 bu, .slice ta N tc] 83)).alloc (by simp) (.cells #[.int .i64 h, .slice a' n c', .int .i64 ac, .int .i64 bu, .slice ta' N tc'] 83))
  have A_0 := Lib.hid ((Blk.new_at (w := w) (cs := #[.int .i64 h, .slice a n c, .int .i64 ac, .int .i64 bu, .slice ta N tc]) (t := 83) w.heap.size rfl).alloc (.cells #[.int .i64 h, .slice a' n c', .int .i64 ac, .int .i64 bu, .slice ta' N tc'] 83))
  have A_1 := Lib.hid (Blk.new_at (w := w.alloc (.cells #[.int .i64 h, .slice a n c, .int .i64 ac, .int .i64 bu, .slice ta N tc] 83)) (cs := #[.int .i64 h, .slice a' n c', .int .i64 ac, .int .i64 bu, .slice ta' N tc']) (t := 83) (w.heap.size + 1) (by simp))
  clear s1 s2 t1 t2 he hs hm
  go_enter Try.func55, Try.ntmps55
  go_wp2_with fail
  refine (eqArena_same h ac bu a a' n c c' f g _ ((S1.out.alloc _).alloc _) ((S2.out.alloc _).alloc _) hn HE.out).mono ?_
  rintro e w1 ⟨rfl, hb⟩
  have HB1 := Lib.hid (HB0.out.trans (hb.mono HB0.out.size))
  have B_0 := Lib.hid (A_0.out.below hb); have B_1 := Lib.hid (A_1.out.below hb)
  clear hb A_0 A_1
  have c0 := B_0.out.at 4 rfl; have c1 := B_1.out.at 4 rfl; have l0 := B_0.out.1; have l1 := B_1.out.1
  go_wp2_with fail
  refine (eqTV_same ta ta' N tc tc' T U _ (T1.out.below HB1.out) (T2.out.below HB1.out) HS.out hN HM.out).mono ?_
  rintro e w2 ⟨rfl, hb⟩
  have HB2 := Lib.hid (thru0 HB1.out hb)
  clear hb
  go_wp2
  go_ret
  exact ⟨rfl, HB2.out⟩
end Go.Proofs.Ytbhjmomphajnnaa

namespace Go.Proofs.Ytbhjmomphajnnaa
open Go.RowKit
set_option linter.unusedVariables false

/-- Two heaps that are the same. -/
def HSame (h : Int) (n : Nat) (f : Nat → Int) (ac bu : Int) (N : Nat) (T : Nat → TN) (h' : Int) (n' : Nat) (f' : Nat → Int) (ac' bu' : Int) (N' : Nat) (U : Nat → TN) : Prop :=
  eqA h n f ac bu h' n' f' ac' bu' = true ∧ N = N' ∧ ∀ i, i < N → TnSame (T i) (U i)

theorem hsame_some (h : Int) (n : Nat) (f : Nat → Int) (ac bu : Int) (N : Nat) (T : Nat → TN) (h' : Int) (n' : Nat) (f' : Nat → Int) (ac' bu' : Int) (N' : Nat) (U : Nat → TN) : ∃ r : Bool, r = true ↔ HSame h n f ac bu N T h' n' f' ac' bu' N' U := by
  rcases Classical.em (HSame h n f ac bu N T h' n' f' ac' bu' N' U) with x | x
  · exact ⟨true, fun _ => x, fun _ => rfl⟩
  · exact ⟨false, fun g => absurd g (by simp), fun g => absurd g x⟩

set_option maxRecDepth 100000 in
set_option maxHeartbeats 6400000 in
theorem specSH_any (h ac bu : Int) (a : Option Addr) (n c : Nat) (f : Nat → Int) (ta : Option Addr) (N tc : Nat) (T : Nat → TN) (h' ac' bu' : Int) (a' : Option Addr) (n' c' : Nat) (f' : Nat → Int) (tb : Option Addr) (N' td : Nat) (U : Nat → TN) (r : Bool) (w : World)
    (s1 : Src w a n f) (s2 : Src w a' n' f') (t1 : TV w ta N T) (t2 : TV w tb N' U) (hn : n ≤ 1048576) (hn' : n' ≤ 1048576) (hN : N ≤ 1048576) (hN' : N' ≤ 1048576) (hm : ∀ i, i < N → (T i).n ≤ 1048576) (hm' : ∀ i, i < N' → (U i).n ≤ 1048576) (hr : r = true ↔ HSame h n f ac bu N T h' n' f' ac' bu' N' U) :
    Calls Try.prog 52 #[.agg #[.int .i64 h, .slice a n c, .int .i64 ac, .int .i64 bu, .slice ta N tc], .agg #[.int .i64 h', .slice a' n' c', .int .i64 ac', .int .i64 bu', .slice tb N' td]] w (RetBool w r) := by
  have S1 := Lib.hid s1; have S2 := Lib.hid s2; have T1 := Lib.hid t1; have T2 := Lib.hid t2; have HM := Lib.hid hm; have HM' := Lib.hid hm'; have HR := Lib.hid hr
  have hno : ¬ HSame h n f ac bu N T h' n' f' ac' bu' N' U → r = false := fun x => by
    cases hq : r
    · rfl
    · exact absurd (hr.1 hq) x
  have HNO := Lib.hid hno
  have HB0 := Lib.hid (((Below.refl w.heap.size w).alloc (Nat.le_refl _) (.cells #[.int .i64 h, .slice a n c, .int .i64 ac, .int .i64 bu, .slice ta N tc] 83)).alloc (by simp) (.cells #[.int .i64 h', .slice a' n' c', .int .i64 ac', .int .i64 bu', .slice tb N' td] 83))
  have A_0 := Lib.hid ((Blk.new_at (w := w) (cs := #[.int .i64 h, .slice a n c, .int .i64 ac, .int .i64 bu, .slice ta N tc]) (t := 83) w.heap.size rfl).alloc (.cells #[.int .i64 h', .slice a' n' c', .int .i64 ac', .int .i64 bu', .slice tb N' td] 83))
  have B_0 := Lib.hid (Blk.new_at (w := w.alloc (.cells #[.int .i64 h, .slice a n c, .int .i64 ac, .int .i64 bu, .slice ta N tc] 83)) (cs := #[.int .i64 h', .slice a' n' c', .int .i64 ac', .int .i64 bu', .slice tb N' td]) (t := 83) (w.heap.size + 1) (by simp))
  obtain ⟨q, hq⟩ : ∃ q, eqA h n f ac bu h' n' f' ac' bu' = q := ⟨_, rfl⟩
  have HQ := Lib.hid hq
  clear s1 s2 t1 t2 hm hm' hr hno hq
  go_enter Try.func52, Try.ntmps52
  go_wp2_with fail
  refine (specSame_any h ac bu h' ac' bu' a a' n c n' c' f f' _ (S1.out.below HB0.out) (S2.out.below HB0.out) hn hn').mono ?_
  rw [HQ.out]
  rintro e w1 ⟨rfl, hb⟩
  have HB1 := Lib.hid (HB0.out.trans (hb.mono HB0.out.size))
  have A_1 := Lib.hid (A_0.out.below hb); have B_1 := Lib.hid (B_0.out.below hb)
  have TA1 := Lib.hid (T1.out.below HB1.out); have TB1 := Lib.hid (T2.out.below HB1.out)
  clear hb A_0 B_0 HB0 S1 S2 T1 T2
  have a4 := A_1.out.at 4 rfl; have b4 := B_1.out.at 4 rfl; have la := A_1.out.1; have lb := B_1.out.1
  cases q with
  | false =>
    obtain rfl := HNO.out fun x => by have := x.1; rw [HQ.out] at this; cases this
    clear HR HNO
    go_wp2
    go_ret
    exact ⟨rfl, HB1.out⟩
  | true =>
    by_cases hl : N = N'
    · subst hl
      go_wp2
      clear a4 b4 la lb
      go_loopw [5, 6, 7, 8] (fun p x y z wr => ∃ i : Nat, i ≤ N ∧ p = .int .i64 (i : Int) ∧ Hid (Below w1.heap.size w1 wr) ∧ Hid (∀ j, j < i → TnSame (T j) (U j))) (fun p _ _ _ _ => N - (intOf p).toNat)
      case atStart => exact ⟨0, Nat.zero_le _, rfl, Below.refl _ _, Lib.hid (fun j hj => by omega)⟩
      case round =>
        obtain ⟨i, hi, rfl, HBr, HD⟩ := hrel
        have HBW := Lib.hid (HB1.out.trans (HBr.out.mono HB1.out.size))
        have a4 := (A_1.out.below HBr.out).at 4 rfl; have b4 := (B_1.out.below HBr.out).at 4 rfl; have la := (A_1.out.below HBr.out).1; have lb := (B_1.out.below HBr.out).1
        by_cases hlt : i < N
        · have hlt' : (i : Int) < (N : Int) := by omega
          have hi0 : (0 : Int) ≤ (i : Int) := by omega
          obtain ⟨b1, q1, e1, l1', hx, hsx⟩ := tv_get (TA1.out.below HBr.out) hlt
          obtain ⟨b2, q2, e2, l2', hy, hsy⟩ := tv_get (TB1.out.below HBr.out) hlt
          subst e1 e2
          have P1 := Lib.hid hsx; have P2 := Lib.hid hsy
          have hns1 := HM.out i hlt
          have hns2 := HM'.out i hlt
          have HNX : Hid (TnSame (T i) (U i) → ∀ j, j < i + 1 → TnSame (T j) (U j)) := Lib.hid fun x j hj => by
            rcases Nat.lt_succ_iff_lt_or_eq.mp hj with h1 | h1
            · exact HD.out j h1
            · subst h1; exact x
          have HNJ : Hid (¬ TnSame (T i) (U i) → r = false) := Lib.hid fun x => HNO.out fun h2 => x (h2.2.2 i hlt)
          clear hsx hsy HD
          generalize T i = t at *
          generalize U i = u at *
          obtain ⟨x0, x1, x2⟩ := hx
          obtain ⟨y0, y1, y2⟩ := hy
          have HBz : Hid (∀ m, Below w.heap.size w (wr.drewN m)) := Lib.hid fun m => below_drewN HBW.out m
          by_cases d0 : t.q = u.q
          · rw [← d0] at y0
            by_cases d1 : t.h = u.h
            · rw [← d1] at y1
              by_cases d2 : t.n = u.n
              · rw [← d2] at y2
                have P2' : Hid (PV wr u.a t.n u.S) := Lib.hid (by rw [d2]; exact P2.out)
                have HTS : Hid ((∀ j, j < t.n → t.S j = u.S j) ↔ TnSame t u) := Lib.hid ⟨fun x => ⟨d0, d1, d2, x⟩, fun x => x.2.2.2⟩
                have HX2 := Lib.hid x2; have HY2 := Lib.hid y2
                clear P2 d0 d1 d2 hns2 HBz
                obtain ⟨wo, hwo⟩ : ∃ wo, wo = wr := ⟨_, rfl⟩
                subst hwo
                go_wp2_with fail
                go_quiet (fail)
                go_wp2
                clear x0 x1 x2 y0 y1 y2 a4 b4 la lb
                go_loopw [8] (fun p wr => ∃ j : Nat, j ≤ t.n ∧ p = .int .i64 (j : Int) ∧ Hid (Below wo.heap.size wo wr) ∧ Hid (∀ k, k < j → t.S k = u.S k)) (fun p _ => t.n - (intOf p).toNat)
                case atStart => exact ⟨0, Nat.zero_le _, rfl, Lib.hid (below_drewN (Below.refl _ _) _), Lib.hid (fun k hk => by omega)⟩
                case round =>
                  obtain ⟨j, hj, rfl, HB2, HS⟩ := hrel
                  have x2 := (HB2.out.cell (p := ⟨b1, q1 + i * 3 + 2, none⟩) l1').trans HX2.out
                  have y2 := (HB2.out.cell (p := ⟨b2, q2 + i * 3 + 2, none⟩) l2').trans HY2.out
                  have l1 : b1 < wr.heap.size := Nat.lt_of_lt_of_le l1' HB2.out.size
                  have l2 : b2 < wr.heap.size := Nat.lt_of_lt_of_le l2' HB2.out.size
                  have HBX := Lib.hid (HBW.out.trans (HB2.out.mono HBW.out.size))
                  by_cases hlj : j < t.n
                  · have hlj' : (j : Int) < (t.n : Int) := by omega
                    have hj0 : (0 : Int) ≤ (j : Int) := by omega
                    obtain ⟨b3, q3, e3, l3, z0, z1⟩ := pv_get (P1.out.below HB2.out) hlj
                    obtain ⟨b4, q4, e4, l4, v0, v1⟩ := pv_get (P2'.out.below HB2.out) hlj
                    rw [e3] at x2
                    rw [e4] at y2
                    by_cases he : t.S j = u.S j
                    · have HS' : Hid (∀ k, k < j + 1 → t.S k = u.S k) := Lib.hid fun k hk => by
                        rcases Nat.lt_succ_iff_lt_or_eq.mp hk with h1 | h1
                        · exact HS.out k h1
                        · subst h1; exact he
                      rw [← he] at v0 v1
                      generalize t.S j = s at *
                      clear HS he e3 e4
                      have HBd := Lib.hid HB2.out.drew
                      go_wp2
                      go_region
                      go_wp2
                      first | exact ⟨⟨j + 1, by omega, by go_num, HBd, HS'⟩, by simp [intOf]; omega⟩ | (go_roundw; (case rel => first | exact ⟨j + 1, by omega, by go_num, HBd, HS'⟩ | ((repeat apply Exists.intro); exact ⟨⟨j + 1, by omega, by go_num, HBd, HS'⟩, rfl⟩)); (case measure => simp [intOf]; omega))
                    · have hne : ¬ ((t.S j).g = (u.S j).g ∧ (t.S j).nd = (u.S j).nd) := fun h => he (by
                        cases hs : t.S j; cases hs' : u.S j; rw [hs, hs'] at h; obtain ⟨h1, h2⟩ := h; simp only at h1 h2; subst h1 h2; rfl)
                      obtain rfl := HNJ.out fun x => he (x.2.2.2 j hlj)
                      clear HS he HNO HR HTS HNX HNJ e3 e4
                      generalize t.S j = s at *
                      generalize u.S j = s' at *
                      by_cases hg : s.g = s'.g
                      · have hnd : ¬ s.nd = s'.nd := fun h => hne ⟨hg, h⟩
                        rw [← hg] at v0
                        clear hne
                        go_wp2
                        go_region
                        go_wp2
                        go_ret
                        exact ⟨rfl, HBX.out.drew⟩
                      · clear hne
                        go_wp2
                        go_region
                        go_wp2
                        go_ret
                        exact ⟨rfl, HBX.out.drew⟩
                  · have hlj' : ¬ (j : Int) < (t.n : Int) := by omega
                    have HG := Lib.hid (HNX.out (HTS.out.1 fun k hk => HS.out k (by omega)))
                    have HBY := Lib.hid (HBr.out.trans (HB2.out.mono HBr.out.size))
                    clear HS HBX
                    go_wp2
                    first | exact ⟨⟨i + 1, by omega, by go_num, HBY, HG⟩, by simp [intOf]; omega⟩ | (go_roundw; (case rel => first | exact ⟨i + 1, by omega, by go_num, HBY, HG⟩ | ((repeat apply Exists.intro); exact ⟨⟨i + 1, by omega, by go_num, HBY, HG⟩, rfl⟩)); (case measure => simp [intOf]; omega))
              · have hd2 : ((t.n : Int) != (u.n : Int)) = true := by simp; omega
                obtain rfl := HNJ.out fun x => d2 x.2.2.1
                clear HR HNO d2
                go_wp2_with fail
                go_quiet (fail)
                go_wp2
                go_ret
                exact ⟨rfl, HBz.out _⟩
            · have hd1 : (t.h != u.h) = true := by simpa using d1
              obtain rfl := HNJ.out fun x => d1 x.2.1
              clear HR HNO d1
              go_wp2_with fail
              go_quiet (fail)
              go_wp2
              go_ret
              exact ⟨rfl, HBz.out _⟩
          · have hd0 : (t.q != u.q) = true := by simpa using d0
            obtain rfl := HNJ.out fun x => d0 x.1
            clear HR HNO d0
            go_wp2_with fail
            go_quiet (fail)
            go_wp2
            go_ret
            exact ⟨rfl, HBz.out _⟩
        · have hlt' : ¬ (i : Int) < (N : Int) := by omega
          obtain rfl : r = true := HR.out.2 ⟨HQ.out, rfl, fun j hj => HD.out j (by omega)⟩
          go_wp2
          go_ret
          exact ⟨rfl, HBW.out⟩
    · have hd : ((N : Int) != (N' : Int)) = true := by simp; omega
      obtain rfl := HNO.out fun x => hl x.2.1
      clear hl HNO HR
      go_wp2
      go_ret
      exact ⟨rfl, HB1.out⟩
end Go.Proofs.Ytbhjmomphajnnaa

namespace Go.Proofs.Ytbhjmomphajnnaa
open Go.RowKit
set_option linter.unusedVariables false

theorem tnsame_not {t u : TN} {r : Bool} (hr : r = true ↔ TnSame t u) (h : ¬ TnSame t u) : r = false := by
  cases hq : r
  · rfl
  · exact absurd (hr.1 hq) h

set_option maxRecDepth 100000 in
set_option maxHeartbeats 1600000 in
theorem sh1_any (t u : TN) (r : Bool) (w : World) (s1 : PV w t.a t.n t.S) (s2 : PV w u.a u.n u.S) (hn : t.n ≤ 1048576) (hm : u.n ≤ 1048576) (hr : r = true ↔ TnSame t u) :
    Calls Try.prog 124 #[.agg #[.int .i64 t.q, .int .i64 t.h, .slice t.a t.n t.c], .agg #[.int .i64 u.q, .int .i64 u.h, .slice u.a u.n u.c]] w (RetBool w r) := by
  have HB0 := Lib.hid (((Below.refl w.heap.size w).alloc (Nat.le_refl _) (.cells #[.int .i64 t.q, .int .i64 t.h, .slice t.a t.n t.c] 191)).alloc (by simp) (.cells #[.int .i64 u.q, .int .i64 u.h, .slice u.a u.n u.c] 191))
  have S1 := Lib.hid (s1.below HB0.out); have S2 := Lib.hid (s2.below HB0.out)
  clear s1 s2
  by_cases d0 : t.q = u.q
  · by_cases d1 : t.h = u.h
    · have HR : Hid (r = true ↔ t.n = u.n ∧ ∀ i, i < t.n → t.S i = u.S i) := Lib.hid (hr.trans ⟨fun x => x.2.2, fun x => ⟨d0, d1, x⟩⟩)
      clear hr
      rw [← d0, ← d1] at HB0 S1 S2 ⊢
      clear d0 d1
      generalize t.q = q at *
      generalize t.h = h at *
      go_enter Try.func124, Try.ntmps124
      go_wp2_with fail
      refine (slEqualHeapSlotS_any t.a u.a t.n u.n t.c u.c t.S u.S r _ S1.out S2.out hn hm HR.out).mono ?_
      rintro e w1 ⟨rfl, hb⟩
      have HB1 := Lib.hid (HB0.out.trans (hb.mono HB0.out.size))
      clear hb
      go_wp2
      go_ret
      exact ⟨rfl, HB1.out⟩
    · obtain rfl := tnsame_not hr fun x => d1 x.2.1
      have hd1 : (t.h == u.h) = false := by simpa using d1
      rw [← d0] at HB0 S1 S2 ⊢
      clear hr d0 d1
      go_enter Try.func124, Try.ntmps124
      go_wp2
      go_ret
      exact ⟨rfl, HB0.out⟩
  · obtain rfl := tnsame_not hr fun x => d0 x.1
    have hd0 : (t.q == u.q) = false := by simpa using d0
    clear hr d0
    go_enter Try.func124, Try.ntmps124
    go_wp2
    go_ret
    exact ⟨rfl, HB0.out⟩

set_option maxRecDepth 100000 in
set_option maxHeartbeats 1600000 in
theorem efTen_any (a1 a2 : Option Addr) (N N' k1 k2 : Nat) (T U : Nat → TN) (r : Bool) (w : World) (g1 : TV w a1 N T) (g2 : TV w a2 N' U) (hr : r = true ↔ N = N' ∧ ∀ i, i < N → TnSame (T i) (U i)) (hn : N ≤ 1048576) (hn' : N' ≤ 1048576) (ht : ∀ i, i < N → (T i).n ≤ 1048576) (hu : ∀ i, i < N' → (U i).n ≤ 1048576) :
    Calls Try.prog 123 #[.slice a1 N k1, .slice a2 N' k2, .func (.func 124) #[] #[]] w (RetBool w r) := by
  have G1 := Lib.hid g1; have G2 := Lib.hid g2; have HR := Lib.hid hr; have HT := Lib.hid ht; have HU := Lib.hid hu
  clear g1 g2 hr ht hu
  have eg : ∀ args w, (callFunc 124 args).run Try.prog w = .ok (.enter 124 args) w := enters_of Try.func124 (by kernel_rfl) rfl
  by_cases hl : N = N'
  · subst hl
    go_enter Try.func123, Try.ntmps123
    go_wp2
    go_loopw [17] (fun p wr => ∃ i : Nat, i ≤ N ∧ p = .int .i64 (i : Int) ∧ Hid (Below w.heap.size w wr) ∧ Hid (∀ j, j < i → TnSame (T j) (U j))) (fun p _ => N - (intOf p).toNat)
    case atStart => exact ⟨0, Nat.zero_le _, rfl, Below.refl _ _, Lib.hid (fun j hj => by omega)⟩
    case round =>
      obtain ⟨i, hi, rfl, HBr, HE⟩ := hrel
      by_cases hlt : i < N
      · have hlt' : (i : Int) < (N : Int) := by omega
        have hi0 : (0 : Int) ≤ (i : Int) := by omega
        obtain ⟨b1, q1, e1, l1', x1, f1⟩ := tv_get (G1.out.below HBr.out) hlt
        obtain ⟨b2, q2, e2, hl2, x2, f2⟩ := tv_get (G2.out.below HBr.out) hlt
        subst e1 e2
        have htn := HT.out i hlt
        have hun := HU.out i hlt
        have hnext : Hid (TnSame (T i) (U i) → ∀ j, j < i + 1 → TnSame (T j) (U j)) := Lib.hid (fun hx j hj => by
          rcases Nat.lt_succ_iff_lt_or_eq.mp hj with h | h
          · exact HE.out j h
          · subst h; exact hx)
        have hbad : Hid (¬ TnSame (T i) (U i) → r = false) := Lib.hid (fun hx => by
          cases r with
          | false => rfl
          | true => exact absurd ((HR.out.1 rfl).2 i hlt) hx)
        obtain ⟨t, hte⟩ : ∃ t, T i = t := ⟨_, rfl⟩
        obtain ⟨u, hue⟩ : ∃ u, U i = u := ⟨_, rfl⟩
        rw [hte] at x1 f1 htn hnext hbad
        rw [hue] at x2 f2 hun hnext hbad
        have ST := Lib.hid f1; have SU := Lib.hid f2; have X1 := Lib.hid x1; have X2 := Lib.hid x2
        clear hte hue x1 x2 f1 f2
        have Y2 := Lib.hid (X2.out.below ((Below.refl wr.heap.size wr).alloc (Nat.le_refl _) (.cells #[.int .i64 t.q, .int .i64 t.h, .slice t.a t.n t.c] 191)) hl2)
        obtain ⟨p0, p1, p2⟩ := X1.out
        obtain ⟨y0, y1, y2⟩ := Y2.out
        by_cases hs : TnSame t u
        · have HS := Lib.hid hs
          clear hs
          go_wp2_with (go_at_fn 124; refine (sh1_any t u true _ (ST.out.below (((Below.refl wr.heap.size wr).alloc (Nat.le_refl _) _).alloc (by simp) _)) (SU.out.below (((Below.refl wr.heap.size wr).alloc (Nat.le_refl _) _).alloc (by simp) _)) htn hun ⟨fun _ => HS.out, fun _ => rfl⟩).mono ?_; rintro e w1 ⟨rfl, hb⟩; have HB1 := Lib.hid (thru2 HBr.out hb); clear hb)
          clear p0 p1 p2 y0 y1 y2
          have HN := Lib.hid (hnext.out HS.out)
          go_roundw
          case rel => exact ⟨i + 1, by omega, by go_num, HB1, HN⟩
          case measure => simp [intOf]; omega
        · have hrf := hbad.out hs
          subst hrf
          have HS := Lib.hid hs
          clear hs
          go_wp2_with (go_at_fn 124; refine (sh1_any t u false _ (ST.out.below (((Below.refl wr.heap.size wr).alloc (Nat.le_refl _) _).alloc (by simp) _)) (SU.out.below (((Below.refl wr.heap.size wr).alloc (Nat.le_refl _) _).alloc (by simp) _)) htn hun ⟨fun hx => (by cases hx), fun hx => absurd hx HS.out⟩).mono ?_; rintro e w1 ⟨rfl, hb⟩; have HB1 := Lib.hid (thru2 HBr.out hb); clear hb)
          go_ret
          exact ⟨rfl, HB1.out⟩
      · have hlt' : ¬ (i : Int) < (N : Int) := by omega
        have hrt : r = true := HR.out.2 ⟨by first | rfl | trivial, fun j hj => HE.out j (by omega)⟩
        subst hrt
        go_wp2
        go_ret
        exact ⟨rfl, HBr.out⟩
  · have hrf : r = false := by
      cases r with
      | false => rfl
      | true => exact absurd (HR.out.1 rfl).1 hl
    subst hrf
    have hd : ((N : Int) == (N' : Int)) = false := by simp; omega
    go_enter Try.func123, Try.ntmps123
    go_wp2
    go_ret
    exact ⟨rfl, Below.refl _ _⟩

set_option maxRecDepth 100000 in
set_option maxHeartbeats 1600000 in
theorem implSH_any (h ac bu : Int) (a : Option Addr) (n c : Nat) (f : Nat → Int) (ta : Option Addr) (N tc : Nat) (T : Nat → TN) (h' ac' bu' : Int) (a' : Option Addr) (n' c' : Nat) (f' : Nat → Int) (tb : Option Addr) (N' td : Nat) (U : Nat → TN) (r : Bool) (w : World)
    (s1 : Src w a n f) (s2 : Src w a' n' f') (t1 : TV w ta N T) (t2 : TV w tb N' U) (hn : n ≤ 1048576) (hn' : n' ≤ 1048576) (hN : N ≤ 1048576) (hN' : N' ≤ 1048576) (hm : ∀ i, i < N → (T i).n ≤ 1048576) (hm' : ∀ i, i < N' → (U i).n ≤ 1048576) (hr : r = true ↔ HSame h n f ac bu N T h' n' f' ac' bu' N' U) :
    Calls Try.prog 54 #[.agg #[.int .i64 h, .slice a n c, .int .i64 ac, .int .i64 bu, .slice ta N tc], .agg #[.int .i64 h', .slice a' n' c', .int .i64 ac', .int .i64 bu', .slice tb N' td]] w (RetBool w r) := by
  have S1 := Lib.hid s1; have S2 := Lib.hid s2; have T1 := Lib.hid t1; have T2 := Lib.hid t2; have HM := Lib.hid hm; have HM' := Lib.hid hm'; have HR := Lib.hid hr
  have hno : ¬ HSame h n f ac bu N T h' n' f' ac' bu' N' U → r = false := fun x => by
    cases hq : r
    · rfl
    · exact absurd (hr.1 hq) x
  have HNO := Lib.hid hno
  have HB0 := Lib.hid (((Below.refl w.heap.size w).alloc (Nat.le_refl _) (.cells #[.int .i64 h, .slice a n c, .int .i64 ac, .int .i64 bu, .slice ta N tc] 83)).alloc (by simp) (.cells #[.int .i64 h', .slice a' n' c', .int .i64 ac', .int .i64 bu', .slice tb N' td] 83))
  have A_0 := Lib.hid ((Blk.new_at (w := w) (cs := #[.int .i64 h, .slice a n c, .int .i64 ac, .int .i64 bu, .slice ta N tc]) (t := 83) w.heap.size rfl).alloc (.cells #[.int .i64 h', .slice a' n' c', .int .i64 ac', .int .i64 bu', .slice tb N' td] 83))
  have B_0 := Lib.hid (Blk.new_at (w := w.alloc (.cells #[.int .i64 h, .slice a n c, .int .i64 ac, .int .i64 bu, .slice ta N tc] 83)) (cs := #[.int .i64 h', .slice a' n' c', .int .i64 ac', .int .i64 bu', .slice tb N' td]) (t := 83) (w.heap.size + 1) (by simp))
  obtain ⟨q, hq⟩ : ∃ q, eqA h n f ac bu h' n' f' ac' bu' = q := ⟨_, rfl⟩
  have HQ := Lib.hid hq
  clear s1 s2 t1 t2 hm hm' hr hno hq
  go_enter Try.func54, Try.ntmps54
  go_wp2_with fail
  refine (implSame_any h ac bu h' ac' bu' a a' n c n' c' f f' _ (S1.out.below HB0.out) (S2.out.below HB0.out) hn hn').mono ?_
  rw [HQ.out]
  rintro e w1 ⟨rfl, hb⟩
  have HB1 := Lib.hid (HB0.out.trans (hb.mono HB0.out.size))
  have A_1 := Lib.hid (A_0.out.below hb); have B_1 := Lib.hid (B_0.out.below hb)
  have TA1 := Lib.hid (T1.out.below HB1.out); have TB1 := Lib.hid (T2.out.below HB1.out)
  clear hb A_0 B_0 HB0 S1 S2 T1 T2
  have a4 := A_1.out.at 4 rfl; have b4 := B_1.out.at 4 rfl; have la := A_1.out.1; have lb := B_1.out.1
  cases q with
  | false =>
    obtain rfl := HNO.out fun x => by have := x.1; rw [HQ.out] at this; cases this
    clear HR HNO
    go_wp2
    go_ret
    exact ⟨rfl, HB1.out⟩
  | true =>
    have HR2 : Hid (r = true ↔ N = N' ∧ ∀ i, i < N → TnSame (T i) (U i)) := Lib.hid (HR.out.trans ⟨fun x => x.2, fun x => ⟨HQ.out, x⟩⟩)
    clear HR HNO
    go_wp2_with fail
    have HC := efTen_any ta tb N N' tc td T U r _ TA1.out TB1.out HR2.out hN hN' HM.out HM'.out
    with_reducible refine HC.mono ?_
    clear HC
    rintro e w2 ⟨rfl, hb⟩
    have HB2 := Lib.hid (thru0 HB1.out hb)
    clear hb
    go_wp2
    go_ret
    exact ⟨rfl, HB2.out⟩
end Go.Proofs.Ytbhjmomphajnnaa

