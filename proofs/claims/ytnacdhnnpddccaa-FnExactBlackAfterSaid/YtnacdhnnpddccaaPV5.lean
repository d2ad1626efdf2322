/- Texts merged: CM6 to LBA. -/
import Derived.Test.YtnacdhnnpddccaaPV4
namespace Go.Proofs.Ytnacdhnnpddccaa
open Go.RowKit
set_option linter.unusedVariables false

/-- A copying of the model that begins. -/
def RetStart (W : World) (h ac bu : Int) (n : Nat) (f : Nat → Int) (N : Nat) (RF : Nat → Int) (P : Nat) (e : Ending) (w' : World) : Prop :=
  Below W.heap.size W w' ∧ ∃ g q c ra rc, e = .returned (.agg #[.int .i64 h, .slice (some ⟨g, q, none⟩) n c, .int .i64 ac, .int .i64 bu, .slice ra N rc, .int .i64 0, .int .i64 (P : Int), .int .i64 (P : Int)]) ∧ Wrd w' g q n f ∧ W.heap.size ≤ g ∧ n ≤ c ∧ c ≤ maxLen ∧ (N = 0 ∨ ∃ rg ro, ra = some ⟨rg, ro, none⟩ ∧ Wrd w' rg ro N RF ∧ g < rg)

set_option maxRecDepth 100000 in
set_option maxHeartbeats 3200000 in
theorem l11Start_any (b : Nat) (h ac bu : Int) (a : Option Addr) (n c : Nat) (f : Nat → Int) (ra : Option Addr) (N rc : Nat) (RF : Nat → Int) (P : Nat) (w : World) (hB : Blk w b [.int .i64 h, .slice a n c, .int .i64 ac, .int .i64 bu]) (hs : Src w a n f) (hp : 0 < n) (hn : n ≤ 1048576) (hr : Src w ra N RF) (hN : N ≤ 1048576) (h1 : 8 ≤ h ∧ h ≤ 200) (h2 : 0 ≤ ac ∧ ac ≤ 1) (hP : baseI (1 - ac) h = (P : Int)) :
    Calls Try.prog 76 #[.pointer (some ⟨b, 0, none⟩), .slice ra N rc] w (RetStart w h ac bu n f N RF P) := by
  have hmul : (1 - ac) * h = (P : Int) := by rw [← hP, baseI_mul (by omega) (by omega)]
  have hPb : (P : Int) ≤ 200 := by rw [← hP]; have := baseI_bd (ac := 1 - ac) h1.1; omega
  have B0 := Lib.hid hB; have S0 := Lib.hid hs; have R0 := Lib.hid hr
  have hw1 : IntKind.i64.wrap (1 - ac) = 1 - ac := IntWalk.i64_in _ (by omega)
  have hw2 : IntKind.i64.wrap ((1 - ac) * h) = (P : Int) := by rw [hmul]; exact IntWalk.i64_in _ (by omega)
  clear hB hs hr hP hmul
  go_enter Try.func76, Try.ntmps76
  have HB0 : Hid (Below w.heap.size w (w.alloc (.cells #[.int .i64 0, .slice none 0 0, .int .i64 0, .int .i64 0, .slice none 0 0, .int .i64 0, .int .i64 0, .int .i64 0] 65))) := Lib.hid ((Below.refl _ _).alloc (Nat.le_refl _) _)
  have X0 := Lib.hid (Blk.new_at (w := w) (cs := #[.int .i64 0, .slice none 0 0, .int .i64 0, .int .i64 0, .slice none 0 0, .int .i64 0, .int .i64 0, .int .i64 0]) (t := 65) w.heap.size rfl)
  have B1 := Lib.hid (B0.out.below HB0.out)
  have hz0 : w.heap.size + 1 = (w.alloc (.cells #[.int .i64 0, .slice none 0 0, .int .i64 0, .int .i64 0, .slice none 0 0, .int .i64 0, .int .i64 0, .int .i64 0] 65)).heap.size := by simp
  have HZ0 := Lib.hid hz0
  have d0 := B1.out.at 0 rfl; have d2 := B1.out.at 2 rfl; have lB := B1.out.1
  clear hz0
  go_wp2
  go_quiet (fail)
  have HB1 := Lib.hid (HB0.out.trans ((drewN_below (w.alloc (.cells #[.int .i64 0, .slice none 0 0, .int .i64 0, .int .i64 0, .slice none 0 0, .int .i64 0, .int .i64 0, .int .i64 0] 65)) nq).mono HB0.out.size))
  have X1 := Lib.hid (X0.out.below (drewN_below (w.alloc (.cells #[.int .i64 0, .slice none 0 0, .int .i64 0, .int .i64 0, .slice none 0 0, .int .i64 0, .int .i64 0, .int .i64 0] 65)) nq))
  have hz1 := (drewN_below (w.alloc (.cells #[.int .i64 0, .slice none 0 0, .int .i64 0, .int .i64 0, .slice none 0 0, .int .i64 0, .int .i64 0, .int .i64 0] 65)) nq).size
  have hz2 : w.heap.size + 1 ≤ ((w.alloc (.cells #[.int .i64 0, .slice none 0 0, .int .i64 0, .int .i64 0, .slice none 0 0, .int .i64 0, .int .i64 0, .int .i64 0] 65)).drewN nq).heap.size := by have := HZ0.out; omega
  clear d0 d2 lB X0 HB0 hz1 HZ0 B1
  generalize (w.alloc (.cells #[.int .i64 0, .slice none 0 0, .int .i64 0, .int .i64 0, .slice none 0 0, .int .i64 0, .int .i64 0, .int .i64 0] 65)).drewN nq = w1 at *
  go_wp2_with fail
  refine (l1Copy_any b h ac bu a n c f _ (B0.out.below HB1.out) (S0.out.below HB1.out) hp hn).mono ?_
  rintro e w2 ⟨a2, c2, rfl, ho, hb, hc1, hc2, _⟩
  obtain ⟨g, q, rfl, hge, hgl, hcell⟩ : ∃ g q, a2 = some ⟨g, q, none⟩ ∧ w1.heap.size ≤ g ∧ g < w2.heap.size ∧ ∀ i, i < n → w2.cell? ⟨g, q + i, none⟩ = some (.int .i64 (f i)) ∧ w2.frozen? ⟨g, q + i, none⟩ = false := by
    rcases ho with h9 | h9
    · omega
    · exact h9
  have W2 : Hid (Wrd w2 g q n f) := Lib.hid ⟨hgl, fun i hi => (hcell i hi).1, fun i hi => (hcell i hi).2⟩
  have X2 := Lib.hid (X1.out.below hb); have HB2 := Lib.hid (HB1.out.trans (hb.mono HB1.out.size)); have HC2 := Lib.hid (And.intro hc1 hc2)
  have HGE := Lib.hid hge
  clear hb ho hcell hc1 hc2 hge X1 HB1
  go_wp2_with fail
  refine (l1Ints_opt2 ra N rc RF _ (R0.out.below HB2.out) hN).mono ?_
  rintro e w3 ⟨a3, c3, rfl, ho, hb⟩
  have X3 := Lib.hid (X2.out.below hb); have HB3 := Lib.hid (HB2.out.trans (hb.mono HB2.out.size)); have W3 := Lib.hid (W2.out.below hb); have O3 := Lib.hid ho
  clear hb ho
  have lx := X3.out.1; have x0 := X3.out.at 0 rfl; have xf0 := X3.out.free 0 rfl; have x1 := X3.out.at 1 rfl; have xf1 := X3.out.free 1 rfl; have x2 := X3.out.at 2 rfl; have xf2 := X3.out.free 2 rfl; have x3 := X3.out.at 3 rfl; have xf3 := X3.out.free 3 rfl; have x4 := X3.out.at 4 rfl; have xf4 := X3.out.free 4 rfl; have x5 := X3.out.at 5 rfl; have xf5 := X3.out.free 5 rfl; have x6 := X3.out.at 6 rfl; have xf6 := X3.out.free 6 rfl; have x7 := X3.out.at 7 rfl; have xf7 := X3.out.free 7 rfl
  go_wp2
  refine bodyPost_ret (v := .agg #[.int .i64 h, .slice (some ⟨g, q, none⟩) n c2, .int .i64 ac, .int .i64 bu, .slice a3 N c3, .int .i64 0, .int .i64 (P : Int), .int .i64 (P : Int)]) (by simp [results, Try.results76, go_sem, x0, x1, x2, x3, x4, x5, x6, x7]) rfl ⟨?_, g, q, c2, a3, c3, rfl, ?_, ?_, HC2.out.1, HC2.out.2, ?_⟩
  · repeat (first | (with_reducible refine Below.setCell ?_ (by (try simp); (try omega)) _))
    exact HB3.out
  · repeat (first | (with_reducible refine Wrd.other ?_ (by show w.heap.size ≠ g; have := HGE.out; omega) _))
    exact W3.out
  · have := HGE.out; omega
  · rcases O3.out with h9 | ⟨rg, ro, e9, l9, l10, c9⟩
    · exact .inl h9
    · refine .inr ⟨rg, ro, e9, ?_, by omega⟩
      have hw3 : Wrd w3 rg ro N RF := ⟨l10, fun i hi => (c9 i hi).1, fun i hi => (c9 i hi).2⟩
      repeat (first | (with_reducible refine Wrd.other ?_ (by show w.heap.size ≠ rg; have := HGE.out; omega) _))
      exact hw3

/-- The model's copying begins, in a block of its own. -/
theorem mst_begin {w w1 : World} {b g q n c : Nat} {h ac bu : Int} {ra : Option Addr} {rc : Nat} {f : Nat → Int} {L : List Ob} {P : Nat} {roots : List Int} (hB : Blk w b [.int .i64 h, .slice (some ⟨g, q, none⟩) n c, .int .i64 ac, .int .i64 bu, .slice ra roots.length rc, .int .i64 0, .int .i64 (P : Int), .int .i64 (P : Int)]) (hW : Wrd w g q n f) (hgb : g < b) (hr : roots.length = 0 ∨ ∃ rg ro, ra = some ⟨rg, ro, none⟩ ∧ Wrd w rg ro roots.length (lf roots) ∧ g < rg ∧ rg < b) :
    ∃ rg, b ≠ rg ∧ g ≠ rg ∧ g < rg ∧ MSt w b g q n c rg h ac bu ra rc f L P roots ⟨[], 0, 0⟩ := by
  have e0 : placeAt P (objsO L []) 0 = P := placeAt_zero P _
  have e1 : P + totO (objsO L []) = P := by simp [objsO, totO]
  have hb : Blk w b [.int .i64 h, .slice (some ⟨g, q, none⟩) n c, .int .i64 ac, .int .i64 bu, .slice ra roots.length rc, .int .i64 (((⟨[], 0, 0⟩ : GT).nx : Nat) : Int), .int .i64 ((placeAt P (objsO L []) 0 : Nat) : Int), .int .i64 ((P + totO (objsO L []) : Nat) : Int)] := by
    rw [e0, e1]
    exact hB
  rcases hr with h0 | ⟨rg, ro, e, hr, h1, h2⟩
  · exact ⟨b + 1, by omega, by omega, by omega, ⟨f, hW, cw_init f L P⟩, hb, .inl h0⟩
  · refine ⟨rg, by omega, by omega, h1, ⟨f, hW, cw_init f L P⟩, hb, .inr ⟨ro, e, hr.congr fun i _ => ?_⟩⟩
    unfold rtF
    rw [if_neg (Nat.not_lt_zero _)]
end Go.Proofs.Ytnacdhnnpddccaa

namespace Go.Proofs.Ytnacdhnnpddccaa
open Go.RowKit
set_option linter.unusedVariables false

/-- A copying of the model behind steps, and a number. -/
def RetCpM (W : World) (h ac bu : Int) (n : Nat) (f : Nat → Int) (L : List Ob) (P : Nat) (roots : List Int) (t : GT) (v : Int) (e : Ending) (w' : World) : Prop :=
  Below W.heap.size W w' ∧ ∃ (g q c : Nat) (ra : Option Addr) (rc rg : Nat) (F : Nat → Int), e = .returned (.tuple #[.agg #[.int .i64 h, .slice (some ⟨g, q, none⟩) n c, .int .i64 ac, .int .i64 bu, .slice ra roots.length rc, .int .i64 (t.nx : Int), .int .i64 ((placeAt P (objsO L t.R) t.s : Nat) : Int), .int .i64 ((P + totO (objsO L t.R) : Nat) : Int)], .int .i64 v]) ∧
    Wrd w' g q n F ∧ CW f L P t.R t.s 0 F ∧ W.heap.size ≤ g ∧ n ≤ c ∧ c ≤ maxLen ∧ g < rg ∧ (roots.length = 0 ∨ ∃ ro, ra = some ⟨rg, ro, none⟩ ∧ Wrd w' rg ro roots.length (rtF L P roots t))

theorem asked {h : Int} {n : Nat} {f : Nat → Int} {ac bu : Int} {roots : List Int} {L : List Ob} (hk : IsAsk h n f ac bu roots 0 L) : (8 ≤ h ∧ h ≤ 200) ∧ (0 ≤ ac ∧ ac ≤ 1) ∧ 0 < n ∧ n ≤ 400 ∧ roots.length ≤ 60 ∧ L.length ≤ 400 ∧ baseI (1 - ac) h = (((baseI (1 - ac) h).toNat : Nat) : Int) := by
  obtain ⟨hk1, hk2, hk3, hk4⟩ := isAsk_zero hk
  obtain ⟨⟨⟨g1, g2⟩, ⟨g3, g4⟩, g5, g6⟩, gn, gw⟩ := isFault_ok (isOI_zero hk2).1
  have hb := baseI_bd (ac := 1 - ac) g1
  exact ⟨⟨g1, g2⟩, ⟨g3, g4⟩, by omega, by omega, hk3, (isOI_small hk2).1, by omega⟩
end Go.Proofs.Ytnacdhnnpddccaa

namespace Go.Proofs.Ytnacdhnnpddccaa
open Go.RowKit
set_option linter.unusedVariables false

/-- A copying of the model behind some steps, or a code. -/
def RetAftM (W : World) (h ac bu : Int) (n : Nat) (f : Nat → Int) (L : List Ob) (P : Nat) (roots : List Int) (m k : Int) (e : Ending) (w' : World) : Prop :=
  (¬ k = 0 ∧ Below W.heap.size W w' ∧ e = .returned (.tuple #[.agg #[.int .i64 0, .slice none 0 0, .int .i64 0, .int .i64 0, .slice none 0 0, .int .i64 0, .int .i64 0, .int .i64 0], .int .i64 k])) ∨ (k = 0 ∧ RetCpM W h ac bu n f L P roots (gst (succO f L) roots m.toNat) 0 e w')

set_option maxRecDepth 100000 in
set_option maxHeartbeats 3200000 in
theorem l11After_any (b : Nat) (h ac bu : Int) (a : Option Addr) (n c : Nat) (f : Nat → Int) (ra : Option Addr) (roots : List Int) (rc : Nat) (co : Int) (L : List Ob) (m k : Int) (w : World) (hB : Blk w b [.int .i64 h, .slice a n c, .int .i64 ac, .int .i64 bu]) (hs : Src w a n f) (hcn : n ≤ c) (hcm : c ≤ maxLen) (hr : Src w ra roots.length (lf roots)) (hk : IsAsk h n f ac bu roots co L) (hm : IsAft co m k) :
    Calls Try.prog 49 #[.pointer (some ⟨b, 0, none⟩), .slice ra roots.length rc, .int .i64 m] w (RetAftM w h ac bu n f L (baseI (1 - ac) h).toNat roots m k) := by
  obtain ⟨P, hP⟩ : ∃ P, (baseI (1 - ac) h).toNat = P := ⟨_, rfl⟩
  have HPE := Lib.hid hP
  rw [hP]
  have B0 := Lib.hid hB; have S0 := Lib.hid hs; have R0 := Lib.hid hr; have HK := Lib.hid hk; have HM := Lib.hid hm; have HCM := Lib.hid hcm
  clear hB hs hr hk hP hm hcm
  go_enter Try.func49, Try.ntmps49
  have HB0 : Hid (Below w.heap.size w (w.alloc (.cells #[.int .i64 0, .slice none 0 0, .int .i64 0, .int .i64 0, .slice none 0 0, .int .i64 0, .int .i64 0, .int .i64 0] 65))) := Lib.hid ((Below.refl _ _).alloc (Nat.le_refl _) _)
  have X0 := Lib.hid (Blk.new_at (w := w) (cs := #[.int .i64 0, .slice none 0 0, .int .i64 0, .int .i64 0, .slice none 0 0, .int .i64 0, .int .i64 0, .int .i64 0]) (t := 65) w.heap.size rfl)
  go_wp2_with fail
  refine (l4Ask_any b h ac bu a n c f ra roots rc co L _ (B0.out.below HB0.out) (S0.out.below HB0.out) hcn HCM.out (R0.out.below HB0.out) HK.out).mono ?_
  rintro e w1 ⟨hb, hrr⟩
  have X1 := Lib.hid (X0.out.below hb); have HB1 := Lib.hid (thru0 HB0.out hb)
  clear hb X0 HB0
  rcases hrr with ⟨h0, rfl⟩ | ⟨rfl, v1, M1, a1, c1, hL, rfl, _, _, _, _⟩
  · have hkc : k = co := by
      rcases HM.out with ⟨_, h1⟩ | ⟨h1, _⟩ | ⟨h1, _⟩
      · exact h1
      · exact absurd h1 h0
      · exact absurd h1 h0
    subst hkc
    have H0 := Lib.hid h0
    have lx := X1.out.1; have x0 := X1.out.at 0 rfl; have xf0 := X1.out.free 0 rfl; have x1 := X1.out.at 1 rfl; have xf1 := X1.out.free 1 rfl; have x2 := X1.out.at 2 rfl; have xf2 := X1.out.free 2 rfl; have x3 := X1.out.at 3 rfl; have xf3 := X1.out.free 3 rfl; have x4 := X1.out.at 4 rfl; have xf4 := X1.out.free 4 rfl; have x5 := X1.out.at 5 rfl; have xf5 := X1.out.free 5 rfl; have x6 := X1.out.at 6 rfl; have xf6 := X1.out.free 6 rfl; have x7 := X1.out.at 7 rfl; have xf7 := X1.out.free 7 rfl
    go_wp2
    refine bodyPost_ret (v := .tuple #[.agg #[.int .i64 0, .slice none 0 0, .int .i64 0, .int .i64 0, .slice none 0 0, .int .i64 0, .int .i64 0, .int .i64 0], .int .i64 k]) (by simp [results, Try.results49, go_sem, x0, x1, x2, x3, x4, x5, x6, x7]) rfl (.inl ⟨H0.out, ?_, rfl⟩)
    repeat (first | (with_reducible refine Below.setCell ?_ (by (try simp); (try omega)) _))
    exact HB1.out
  · clear hL
    by_cases hm : 0 ≤ m ∧ m ≤ 500
    · have hk0 : k = 0 := by
        rcases HM.out with ⟨h1, _⟩ | ⟨_, h1, _⟩ | ⟨_, _, h1⟩
        · exact absurd rfl h1
        · exact absurd hm h1
        · exact h1
      subst hk0
      obtain ⟨a1', a2, a3, a4, a5, a6, a7⟩ := asked HK.out
      rw [HPE.out] at a7
      have A7 := Lib.hid a7
      clear a7 HM
      obtain ⟨M, rfl⟩ : ∃ M : Nat, m = (M : Int) := ⟨m.toNat, by omega⟩
      have hM5 : M ≤ 500 := by omega
      go_wp2_with fail
      refine (l1In_yes _ _ _ _ hm.1 hm.2).mono ?_
      rintro e w' ⟨rfl, rfl⟩
      clear hm
      go_wp2_with fail
      refine (l11Start_any b h ac bu a n c f ra roots.length rc (lf roots) P _ (B0.out.below HB1.out) (S0.out.below HB1.out) a3 (by omega) (R0.out.below HB1.out) (by omega) a1' a2 A7.out).mono ?_
      rintro e w2 ⟨hb, g, q, gc, ra1, rc1, rfl, hw, hge, hgc, hgm, hrr⟩
      have X2 := Lib.hid (X1.out.below hb); have HB2 := Lib.hid (HB1.out.trans (hb.mono HB1.out.size))
      have HGE := Lib.hid (show w.heap.size + 1 ≤ g by have := X1.out.1; omega)
      have HGC := Lib.hid (And.intro hgc hgm)
      have hgl := hw.lt
      have M0 := Lib.hid (Blk.new_at (w := w2) (cs := #[.int .i64 h, .slice (some ⟨g, q, none⟩) n gc, .int .i64 ac, .int .i64 bu, .slice ra1 roots.length rc1, .int .i64 0, .int .i64 (P : Int), .int .i64 (P : Int)]) (t := 65) w2.heap.size rfl)
      have HB3 := Lib.hid (HB2.out.alloc HB2.out.size (.cells #[.int .i64 h, .slice (some ⟨g, q, none⟩) n gc, .int .i64 ac, .int .i64 bu, .slice ra1 roots.length rc1, .int .i64 0, .int .i64 (P : Int), .int .i64 (P : Int)] 65))
      have X3 := Lib.hid (X2.out.alloc (.cells #[.int .i64 h, .slice (some ⟨g, q, none⟩) n gc, .int .i64 ac, .int .i64 bu, .slice ra1 roots.length rc1, .int .i64 0, .int .i64 (P : Int), .int .i64 (P : Int)] 65))
      have HMS := Lib.hid (mst_begin (w1 := w2) (L := L) M0.out (hw.alloc _) hgl (by
        rcases hrr with h0 | ⟨rg, ro, e, hr, h1⟩
        · exact .inl h0
        · exact .inr ⟨rg, ro, e, hr.alloc _, h1, hr.lt⟩))
      have hxb := X2.out.1
      clear hb hw hge hgc hgm hrr M0 X1 X2 HB1 HB2
      go_wp2
      generalize w2.alloc (.cells #[.int .i64 h, .slice (some ⟨g, q, none⟩) n gc, .int .i64 ac, .int .i64 bu, .slice ra1 roots.length rc1, .int .i64 0, .int .i64 (P : Int), .int .i64 (P : Int)] 65) = w3 at *
      generalize w2.heap.size = xb at *
      obtain ⟨rg, hbr, hgr, hglt, hms⟩ := HMS.out
      have HM0 := Lib.hid hms
      have HFX : Hid (Fixed xb g n gc h (1 - ac) f L (baseI ac h).toNat bu.toNat P h.toNat roots) := Lib.hid (by rw [← HPE.out]; exact fixed_of HK.out (by omega) HGC.out)
      clear hms HMS
      go_loopw [2] (fun k wr => ∃ i : Nat, i ≤ M ∧ k = .int .i64 ((M - i : Nat) : Int) ∧ Hid (MSt wr xb g q n gc rg h ac bu ra1 rc1 f L P roots (gst (succO f L) roots i)) ∧ Hid (Kep3 w3 wr xb g rg)) (fun k _ => (intOf k).toNat)
      case atStart => exact ⟨0, Nat.zero_le _, by simp, HM0, Lib.hid ((Kep.refl _ _ _).three rg)⟩
      case round =>
        obtain ⟨i, hi, rfl, HR, HKP⟩ := hrel
        by_cases hlt : i < M
        · have hlt' : (0 : Int) < ((M - i : Nat) : Int) := by omega
          have HE : Hid (gst (succO f L) roots (i + 1) = gstep (succO f L) roots (gst (succO f L) roots i)) := Lib.hid rfl
          obtain ⟨D, hD⟩ : ∃ D : Nat, M - i = D + 1 := ⟨M - i - 1, by omega⟩
          rw [hD] at hlt' ⊢
          go_wp2_with fail
          refine (l11Step_any xb g q n gc rg rc1 h ac bu ra1 f L _ _ P _ roots (gst (succO f L) roots i) _ HR.out HFX.out hbr hgr (HFX.out.gi i)).mono ?_
          rintro e w4 ⟨rfl, hs, hk⟩
          rw [← HE.out] at hs
          have HR3 := Lib.hid hs; have HK3 := Lib.hid (HKP.out.trans hk)
          clear hs hk
          go_wp2
          go_roundw
          case rel => exact ⟨i + 1, by omega, by congr 1; omega, HR3, HK3⟩
          case measure => first | (simp [intOf]; done) | (simp [intOf]; omega)
        · have hMi : i = M := by omega
          subst hMi
          have h00 : i - i = 0 := Nat.sub_self i
          rw [h00]
          have Y2 := Lib.hid HR.out.blk
          have X4 : Hid (Blk wr w.heap.size [.int .i64 0, .slice none 0 0, .int .i64 0, .int .i64 0, .slice none 0 0, .int .i64 0, .int .i64 0, .int .i64 0]) := Lib.hid (by
            have hl := X3.out.1
            have e := HKP.out.block w.heap.size hl (by omega) (by have := HGE.out; omega) (by have := HGE.out; omega)
            exact ⟨Nat.lt_of_lt_of_le hl HKP.out.size, fun i u hu => ⟨(World.cell?_of_block (w := w3) (a := ⟨w.heap.size, i, none⟩) e).trans (X3.out.2 i u hu).1, (World.frozen?_of_block (w := w3) (a := ⟨w.heap.size, i, none⟩) e).trans (X3.out.2 i u hu).2⟩⟩)
          have ly := Y2.out.1; have y0 := Y2.out.at 0 rfl; have yf0 := Y2.out.free 0 rfl; have y1 := Y2.out.at 1 rfl; have yf1 := Y2.out.free 1 rfl; have y2 := Y2.out.at 2 rfl; have yf2 := Y2.out.free 2 rfl; have y3 := Y2.out.at 3 rfl; have yf3 := Y2.out.free 3 rfl; have y4 := Y2.out.at 4 rfl; have yf4 := Y2.out.free 4 rfl; have y5 := Y2.out.at 5 rfl; have yf5 := Y2.out.free 5 rfl; have y6 := Y2.out.at 6 rfl; have yf6 := Y2.out.free 6 rfl; have y7 := Y2.out.at 7 rfl; have yf7 := Y2.out.free 7 rfl
          have lx := X4.out.1; have x0 := X4.out.at 0 rfl; have xf0 := X4.out.free 0 rfl; have x1 := X4.out.at 1 rfl; have xf1 := X4.out.free 1 rfl; have x2 := X4.out.at 2 rfl; have xf2 := X4.out.free 2 rfl; have x3 := X4.out.at 3 rfl; have xf3 := X4.out.free 3 rfl; have x4 := X4.out.at 4 rfl; have xf4 := X4.out.free 4 rfl; have x5 := X4.out.at 5 rfl; have xf5 := X4.out.free 5 rfl; have x6 := X4.out.at 6 rfl; have xf6 := X4.out.free 6 rfl; have x7 := X4.out.at 7 rfl; have xf7 := X4.out.free 7 rfl
          go_wp2
          obtain ⟨F, hw, hc⟩ := HR.out.ex
          have hge := HGE.out
          refine bodyPost_ret (v := .tuple #[.agg #[.int .i64 h, .slice (some ⟨g, q, none⟩) n gc, .int .i64 ac, .int .i64 bu, .slice ra1 roots.length rc1, .int .i64 ((gst (succO f L) roots i).nx : Int), .int .i64 ((placeAt P (objsO L (gst (succO f L) roots i).R) (gst (succO f L) roots i).s : Nat) : Int), .int .i64 ((P : Int) + ((totO (objsO L (gst (succO f L) roots i).R) : Nat) : Int))], .int .i64 0]) (by simp [results, Try.results49, go_sem, x0, x1, x2, x3, x4, x5, x6, x7]) rfl (.inr ⟨rfl, ?_, g, q, gc, ra1, rc1, rg, F, by simp only [Int.toNat_natCast, Int.natCast_add], ?_, by simpa only [Int.toNat_natCast] using hc, by omega, HGC.out.1, HGC.out.2, hglt, ?_⟩)
          · repeat (first | (with_reducible refine Below.setCell ?_ (by (try simp); (try omega)) _))
            exact HB3.out.trans (HKP.out.below (by omega) (by omega) (by omega) HB3.out.size)
          · repeat (first | (with_reducible refine Wrd.other ?_ (by show w.heap.size ≠ g; omega) _))
            exact hw
          · simp only [Int.toNat_natCast]
            rcases HR.out.rt with h0 | ⟨ro, e, hr⟩
            · exact .inl h0
            · refine .inr ⟨ro, e, ?_⟩
              repeat (first | (with_reducible refine Wrd.other ?_ (by show w.heap.size ≠ rg; omega) _))
              exact hr
    · have hk3 : k = 3 := by
        rcases HM.out with ⟨h1, _⟩ | ⟨_, _, h1⟩ | ⟨_, h1, _⟩
        · exact absurd rfl h1
        · exact h1
        · exact absurd h1 hm
      subst hk3
      go_wp2_with fail
      refine (l1In_no _ _ _ _ hm).mono ?_
      rintro e w' ⟨rfl, rfl⟩
      have lx := X1.out.1; have x0 := X1.out.at 0 rfl; have xf0 := X1.out.free 0 rfl; have x1 := X1.out.at 1 rfl; have xf1 := X1.out.free 1 rfl; have x2 := X1.out.at 2 rfl; have xf2 := X1.out.free 2 rfl; have x3 := X1.out.at 3 rfl; have xf3 := X1.out.free 3 rfl; have x4 := X1.out.at 4 rfl; have xf4 := X1.out.free 4 rfl; have x5 := X1.out.at 5 rfl; have xf5 := X1.out.free 5 rfl; have x6 := X1.out.at 6 rfl; have xf6 := X1.out.free 6 rfl; have x7 := X1.out.at 7 rfl; have xf7 := X1.out.free 7 rfl
      go_wp2
      refine bodyPost_ret (v := .tuple #[.agg #[.int .i64 0, .slice none 0 0, .int .i64 0, .int .i64 0, .slice none 0 0, .int .i64 0, .int .i64 0, .int .i64 0], .int .i64 3]) (by simp [results, Try.results49, go_sem, x0, x1, x2, x3, x4, x5, x6, x7]) rfl (.inl ⟨by decide, ?_, rfl⟩)
      repeat (first | (with_reducible refine Below.setCell ?_ (by (try simp); (try omega)) _))
      exact HB1.out
end Go.Proofs.Ytnacdhnnpddccaa

namespace Go.Proofs.Ytnacdhnnpddccaa
open Go.RowKit
set_option linter.unusedVariables false

theorem cw_bring_some {f W : Nat → Int} {L : List Ob} {B U P H s kk : Nat} {R : List Int} {p : Int} (c : CW f L P R s kk W) (a : Cop f L B U P H) (hp : p ∈ placesO L) : ∃ W', CW f L P (addNew R [p]) s kk W' := by
  obtain ⟨pn, rfl⟩ : ∃ pn : Nat, p = (pn : Int) := ⟨p.toNat, by have := (a.word_x hp).1; omega⟩
  by_cases hR : (pn : Int) ∈ R
  · rw [addNew_one, if_pos hR]; exact ⟨W, c⟩
  · rw [addNew_one, if_neg hR]
    obtain ⟨x, hx⟩ := mem_placesO.1 hp
    exact ⟨_, c.brought a hx hR rfl⟩

theorem cw_look_some {f W : Nat → Int} {L : List Ob} {B U P H s : Nat} {R : List Int} {x : Ob} (c : CW f L P R s 0 W) (a : Cop f L B U P H) (hs : s < R.length) (hx : findO L R[s] = some x) : ∀ k, k ≤ x.s.toNat → ∃ W', CW f L P (addNew R (ptrsK f x k)) s k W'
  | 0, _ => ⟨W, c⟩
  | k + 1, hk => by
    obtain ⟨W1, c1⟩ := cw_look_some c a hs hx k (by omega)
    by_cases hb : x.m / P2 (k : Int) % 2 = 1 ∧ ¬ f (x.at_.toNat + 2 + k) = 0
    · obtain ⟨W2, c2⟩ := cw_bring_some c1 a (a.leads (List.mem_of_find?_eq_some hx) (by omega) hb)
      exact ⟨_, CW.lookLead (W' := W2) a c.sub hs hx (by omega) hb c2⟩
    · exact ⟨W1, c1.lookStay a c.sub hs hx (by omega) hb⟩

theorem cw_gst_some {f : Nat → Int} {L : List Ob} {B U P H : Nat} {roots : List Int} (a : Cop f L B U P H) (hr : ∀ p ∈ roots, p ∈ placesO L) : ∀ n, ∃ W, CW f L P (gst (succO f L) roots n).R (gst (succO f L) roots n).s 0 W
  | 0 => ⟨f, cw_init f L P⟩
  | n + 1 => by
    obtain ⟨W, c⟩ := cw_gst_some a hr n
    have gi := gst_gi (L := L) (roots := roots) hr (succO_sub a.right.points a.right.size) n
    show ∃ W, CW f L P (gstep (succO f L) roots (gst (succO f L) roots n)).R (gstep (succO f L) roots (gst (succO f L) roots n)).s 0 W
    generalize gst (succO f L) roots n = t at c gi ⊢
    unfold gstep
    by_cases h1 : t.nx < roots.length
    · rw [if_pos h1]
      exact cw_bring_some c a (hr _ (lf_mem h1))
    · rw [if_neg h1]
      by_cases h2 : t.s < t.R.length
      · rw [if_pos h2]
        obtain ⟨x, hx⟩ := mem_placesO.1 (c.sub _ (List.getElem_mem h2))
        obtain ⟨W1, c1⟩ := cw_look_some c a h2 hx x.s.toNat (Nat.le_refl _)
        refine ⟨W1, ?_⟩
        rw [succ_at h2 hx]
        exact c1.lookEnd a c.sub h2 hx rfl
      · rw [if_neg h2]; exact ⟨W, c⟩
end Go.Proofs.Ytnacdhnnpddccaa

namespace Go.Proofs.Ytnacdhnnpddccaa
open Go.RowKit
set_option linter.unusedVariables false

theorem places2 (b g q n c N : Nat) (rv : Value) (h ac bu nx sc fr x0 y0 : Int) (F : Nat → Int) (pl : Nat → Nat) (w : World) (hB : Blk w b [.int .i64 h, .slice (some ⟨g, q, none⟩) n c, .int .i64 ac, .int .i64 bu, rv, .int .i64 nx, .int .i64 sc, .int .i64 fr]) (hW : Wrd w g q n F) (hn : n ≤ 400) (hN : N ≤ 400) (hpl : ∀ i, i < N → ∃ x : Ob, ObOk x ∧ F (pl i) = packO x ∧ F (pl i + 1) = x.h ∧ Word (F (pl i)) ∧ pl (i + 1) = pl i + 2 + x.s.toNat ∧ pl i < pl N ∧ pl (i + 1) ≤ n) (h1 : x0 = (pl 0 : Int)) (h2 : y0 = (pl N : Int)) :
    Calls Try.prog 67 #[.pointer (some ⟨b, 0, none⟩), .int .i64 x0, .int .i64 y0] w (RetInts w N (fun j => (pl j : Int))) := by
  subst h1 h2
  exact l11Places_any b g q n c N rv h ac bu nx sc fr F pl w hB hW hn hN hpl

theorem bm_facts {f W : Nat → Int} {L : List Ob} {B U P H s kk n : Nat} {R : List Int} (c : CW f L P R s kk W) (a : Cop f L B U P H) (hn : n = 2 * H) : ∀ i, i < (objsO L R).length → ∃ x : Ob, ObOk x ∧ W (placeAt P (objsO L R) i) = packO x ∧ W (placeAt P (objsO L R) i + 1) = x.h ∧ Word (W (placeAt P (objsO L R) i)) ∧ placeAt P (objsO L R) (i + 1) = placeAt P (objsO L R) i + 2 + x.s.toNat ∧ placeAt P (objsO L R) (i + 1) ≤ n := fun i hi => by
  have hf := objsO_get c.sub i (by rw [← c.len]; exact hi) hi
  have he := placeAt_end P (objsO L R) hi
  have hst := placeAt_step P (objsO L R) hi
  have hw : wordsO (objsO L R)[i] = 2 + (objsO L R)[i].s.toNat := rfl
  have hh := headsAt_get _ _ c.heads i hi
  have ht := c.tot a
  have hr := a.room
  exact ⟨(objsO L R)[i], a.right.ok _ (List.mem_of_find?_eq_some hf), hh.1, hh.2, c.words a _ (by omega), by omega, by omega⟩

set_option maxRecDepth 100000 in
set_option maxHeartbeats 3200000 in
theorem specGA_any (h ac bu : Int) (a : Option Addr) (n c : Nat) (f : Nat → Int) (ra : Option Addr) (roots : List Int) (rc : Nat) (co : Int) (L : List Ob) (m k : Int) (P : Nat) (t : GT) (w : World) (hs : Src w a n f) (hcn : n ≤ c) (hcm : c ≤ maxLen) (hrs : Src w ra roots.length (lf roots)) (hk : IsAsk h n f ac bu roots co L) (hm : IsAft co m k) (hP : (baseI (1 - ac) h).toNat = P) (ht : gst (succO f L) roots m.toNat = t) :
    Calls Try.prog 34 #[.agg #[.int .i64 h, .slice a n c, .int .i64 ac, .int .i64 bu], .slice ra roots.length rc, .int .i64 m] w (RetIR w k (grN L P t k) (grF L P t)) := by
  have HS := Lib.hid hs; have HCM := Lib.hid hcm; have HRS := Lib.hid hrs; have HK := Lib.hid hk; have HM := Lib.hid hm; have HP := Lib.hid hP; have HT := Lib.hid ht
  clear hs hcm hrs hk hm hP ht
  go_enter Try.func34, Try.ntmps34
  have A0 := Lib.hid ((Blk.new_at (w := w) (cs := #[.int .i64 h, .slice a n c, .int .i64 ac, .int .i64 bu]) (t := 34) w.heap.size rfl).alloc (.cells #[.int .i64 0, .slice none 0 0] 55))
  have HB0 : Hid (Below w.heap.size w ((w.alloc (.cells #[.int .i64 h, .slice a n c, .int .i64 ac, .int .i64 bu] 34)).alloc (.cells #[.int .i64 0, .slice none 0 0] 55))) := Lib.hid (((Below.refl _ _).alloc (Nat.le_refl _) _).alloc (by simp) _)
  have R0 := Lib.hid (Blk.new_at (w := w.alloc (.cells #[.int .i64 h, .slice a n c, .int .i64 ac, .int .i64 bu] 34)) (cs := #[.int .i64 0, .slice none 0 0]) (t := 55) (w.heap.size + 1) (by simp))
  go_wp2_with fail
  refine (l11After_any w.heap.size h ac bu a n c f ra roots rc co L m k _ A0.out (HS.out.below HB0.out) hcn HCM.out (HRS.out.below HB0.out) HK.out HM.out).mono ?_
  rintro e w1 hr
  rcases hr with ⟨h0, hb, rfl⟩ | ⟨rfl, hb, g, q, gc, ra1, rc1, rg, F, rfl, hw, hc, hge, hgc, hgm, hglt, hrt⟩
  · have HN := Lib.hid (show grN L P t k = 0 by unfold grN; rw [if_neg h0])
    have R1 := Lib.hid ((R0.out.below hb).alloc (.cells #[.int .i64 0, .slice none 0 0, .int .i64 0, .int .i64 0, .slice none 0 0, .int .i64 0, .int .i64 0, .int .i64 0] 65)); have HB1 := Lib.hid ((thru0 HB0.out hb).alloc (thru0 HB0.out hb).size (.cells #[.int .i64 0, .slice none 0 0, .int .i64 0, .int .i64 0, .slice none 0 0, .int .i64 0, .int .i64 0, .int .i64 0] 65))
    clear hb
    have lr := R1.out.1; have r0 := R1.out.at 0 rfl; have rf0 := R1.out.free 0 rfl; have r1 := R1.out.at 1 rfl; have rf1 := R1.out.free 1 rfl
    go_wp2
    refine bodyPost_ret (v := .agg #[.int .i64 k, .slice none 0 0]) (by simp [results, Try.results34, go_sem, r0, r1]) rfl ⟨none, 0, (by rw [HN.out]), .inl HN.out, ?_⟩
    repeat (first | (with_reducible refine Below.setCell ?_ (by (try simp); (try omega)) _))
    exact HB1.out
  · have HN := Lib.hid (show grN L P t 0 = (objsO L t.R).length - t.s by unfold grN; rw [if_pos rfl]; rw [bgO_length])
    obtain ⟨hco, hm⟩ := isAft_zero HM.out
    have hkz := HK.out
    rw [hco] at hkz
    obtain ⟨hk1, hk2, hk3, hk4⟩ := isAsk_zero hkz
    obtain ⟨⟨s1, s2⟩, ⟨s3, s4⟩, s5, s6, s7, s8, s9⟩ := asked hkz
    have HFX := Lib.hid (fixed_of hkz (b := g + 1) (g := g) (c := gc) (by omega) ⟨hgc, hgm⟩)
    rw [HP.out, HT.out] at hc
    rw [HP.out] at s9
    rw [HP.out, HT.out]
    obtain ⟨fr, hfr⟩ : ∃ fr : Int, ((P + totO (objsO L t.R) : Nat) : Int) = fr := ⟨_, rfl⟩
    rw [hfr]
    have HFR := Lib.hid hfr
    clear hfr
    have hcop := HFX.out.cop
    rw [HP.out] at hcop
    have hmul : (1 - ac) * h = (P : Int) := by rw [← s9, baseI_mul (by omega) (by omega)]
    have hPb : (P : Int) ≤ 200 := by rw [← s9]; have := baseI_bd (ac := 1 - ac) s1; omega
    have hw1 : IntKind.i64.wrap (1 - ac) = 1 - ac := IntWalk.i64_in _ (by omega)
    have hw2 : IntKind.i64.wrap ((1 - ac) * h) = (P : Int) := by rw [hmul]; exact IntWalk.i64_in _ (by omega)
    have HBM := Lib.hid (bm_facts hc hcop HFX.out.len)
    have HLN := Lib.hid (show (objsO L t.R).length ≤ 400 by have := (isOI_small (hc.isOI hk1 hk2 HP.out.symm)).1; rw [moved_length] at this; exact this)
    have hpos : t.s ≤ (objsO L t.R).length := by have := hc.len; rcases hc.pos with h | ⟨h, _⟩ <;> omega
    have HPOS := Lib.hid hpos
    have hz1 := hb.size
    have A1 := Lib.hid ((A0.out.below hb).alloc (.cells #[.int .i64 h, .slice (some ⟨g, q, none⟩) n gc, .int .i64 ac, .int .i64 bu, .slice ra1 roots.length rc1, .int .i64 (t.nx : Int), .int .i64 ((placeAt P (objsO L t.R) t.s : Nat) : Int), .int .i64 fr] 65))
    have R1 := Lib.hid ((R0.out.below hb).alloc (.cells #[.int .i64 h, .slice (some ⟨g, q, none⟩) n gc, .int .i64 ac, .int .i64 bu, .slice ra1 roots.length rc1, .int .i64 (t.nx : Int), .int .i64 ((placeAt P (objsO L t.R) t.s : Nat) : Int), .int .i64 fr] 65))
    have X1 := Lib.hid (Blk.new_at (w := w1) (cs := #[.int .i64 h, .slice (some ⟨g, q, none⟩) n gc, .int .i64 ac, .int .i64 bu, .slice ra1 roots.length rc1, .int .i64 (t.nx : Int), .int .i64 ((placeAt P (objsO L t.R) t.s : Nat) : Int), .int .i64 fr]) (t := 65) w1.heap.size rfl)
    have W1 := Lib.hid (hw.alloc (.cells #[.int .i64 h, .slice (some ⟨g, q, none⟩) n gc, .int .i64 ac, .int .i64 bu, .slice ra1 roots.length rc1, .int .i64 (t.nx : Int), .int .i64 ((placeAt P (objsO L t.R) t.s : Nat) : Int), .int .i64 fr] 65))
    have HB1 := Lib.hid ((thru0 HB0.out hb).alloc (thru0 HB0.out hb).size (.cells #[.int .i64 h, .slice (some ⟨g, q, none⟩) n gc, .int .i64 ac, .int .i64 bu, .slice ra1 roots.length rc1, .int .i64 (t.nx : Int), .int .i64 ((placeAt P (objsO L t.R) t.s : Nat) : Int), .int .i64 fr] 65))
    have z1 : w.heap.size + 2 ≤ w1.heap.size := by have := R0.out.1; have := (R0.out.below hb).1; simp at hz1; omega
    have z2 : w1.heap.size + 1 = (w1.alloc (.cells #[.int .i64 h, .slice (some ⟨g, q, none⟩) n gc, .int .i64 ac, .int .i64 bu, .slice ra1 roots.length rc1, .int .i64 (t.nx : Int), .int .i64 ((placeAt P (objsO L t.R) t.s : Nat) : Int), .int .i64 fr] 65)).heap.size := by simp
    clear hb hw hc hge hgc hgm hrt hco hm hkz HFX hcop hk1 hk2 hk3 hk4 hpos hmul s9 hz1 HB0 R0 A0
    have lx := X1.out.1; have x0 := X1.out.at 0 rfl; have xf0 := X1.out.free 0 rfl; have x1 := X1.out.at 1 rfl; have xf1 := X1.out.free 1 rfl; have x2 := X1.out.at 2 rfl; have xf2 := X1.out.free 2 rfl; have x3 := X1.out.at 3 rfl; have xf3 := X1.out.free 3 rfl; have x4 := X1.out.at 4 rfl; have xf4 := X1.out.free 4 rfl; have x5 := X1.out.at 5 rfl; have xf5 := X1.out.free 5 rfl; have x6 := X1.out.at 6 rfl; have xf6 := X1.out.free 6 rfl; have x7 := X1.out.at 7 rfl; have xf7 := X1.out.free 7 rfl
    go_upto_region 4 with (fail)
    generalize w1.alloc (.cells #[.int .i64 h, .slice (some ⟨g, q, none⟩) n gc, .int .i64 ac, .int .i64 bu, .slice ra1 roots.length rc1, .int .i64 (t.nx : Int), .int .i64 ((placeAt P (objsO L t.R) t.s : Nat) : Int), .int .i64 fr] 65) = w2 at *
    have a0 := A1.out.at 0 rfl; have a2 := A1.out.at 2 rfl; have la := A1.out.1
    go_wp2_with fail
    refine (places2 w1.heap.size g q n gc ((objsO L t.R).length - t.s) (.slice ra1 roots.length rc1) h ac bu (t.nx : Int) _ _ _ _ F (fun i => placeAt P (objsO L t.R) (t.s + i)) _ X1.out W1.out s6 (by have := HLN.out; have := HPOS.out; omega) (fun i hi => by
        have := HPOS.out
        obtain ⟨x, b1, b2, b3, b4, b5, b6⟩ := HBM.out (t.s + i) (by omega)
        have hl := placeAt_lt P (objsO L t.R) (t.s + i) (objsO L t.R).length (by omega) (Nat.le_refl _)
        refine ⟨x, b1, b2, b3, b4, b5, ?_, b6⟩
        show placeAt P (objsO L t.R) (t.s + i) < placeAt P (objsO L t.R) (t.s + ((objsO L t.R).length - t.s))
        rw [show t.s + ((objsO L t.R).length - t.s) = (objsO L t.R).length by omega]
        omega) (rfl) (by have := HPOS.out; show _ = ((placeAt P (objsO L t.R) (t.s + ((objsO L t.R).length - t.s)) : Nat) : Int); rw [← HFR.out, show t.s + ((objsO L t.R).length - t.s) = (objsO L t.R).length by omega, placeAt_all])).mono ?_
    rintro e w3 ⟨xx, cc, rfl, ox, hb, _, _, _⟩
    have HB3 := Lib.hid (thru0 HB1.out hb); have R3 := Lib.hid (R1.out.below hb)
    have OA := Lib.hid (ox.mono (B' := w.heap.size + 2) (by omega))
    clear hb ox lx x0 xf0 x1 xf1 x2 xf2 x3 xf3 x4 xf4 x5 xf5 x6 xf6 x7 xf7 a0 a2 la HB1 R1 X1 W1 A1
    have lr := R3.out.1; have r0 := R3.out.at 0 rfl; have rf0 := R3.out.free 0 rfl; have r1 := R3.out.at 1 rfl; have rf1 := R3.out.free 1 rfl
    go_wp2
    refine bodyPost_ret (v := .agg #[.int .i64 0, .slice xx ((objsO L t.R).length - t.s) cc]) (by simp [results, Try.results34, go_sem, r0, r1]) rfl ⟨xx, cc, (by rw [HN.out]), ?_, ?_⟩
    · rw [HN.out]
      refine Own.mono (B := w.heap.size + 2) ?_ (by omega)
      repeat (first | (with_reducible refine Own.setCell ?_ (by (try simp); (try omega)) _))
      exact OA.out.congr fun j hj => (by have := HPOS.out; exact (bgO_get L P t (by omega)).symm)
    · repeat (first | (with_reducible refine Below.setCell ?_ (by (try simp); (try omega)) _))
      exact HB3.out

set_option maxRecDepth 100000 in
set_option maxHeartbeats 3200000 in
theorem specBA_any (h ac bu : Int) (a : Option Addr) (n c : Nat) (f : Nat → Int) (ra : Option Addr) (roots : List Int) (rc : Nat) (co : Int) (L : List Ob) (m k : Int) (P : Nat) (t : GT) (w : World) (hs : Src w a n f) (hcn : n ≤ c) (hcm : c ≤ maxLen) (hrs : Src w ra roots.length (lf roots)) (hk : IsAsk h n f ac bu roots co L) (hm : IsAft co m k) (hP : (baseI (1 - ac) h).toNat = P) (ht : gst (succO f L) roots m.toNat = t) :
    Calls Try.prog 39 #[.agg #[.int .i64 h, .slice a n c, .int .i64 ac, .int .i64 bu], .slice ra roots.length rc, .int .i64 m] w (RetIR w k (blN t k) (blF L P t)) := by
  have HS := Lib.hid hs; have HCM := Lib.hid hcm; have HRS := Lib.hid hrs; have HK := Lib.hid hk; have HM := Lib.hid hm; have HP := Lib.hid hP; have HT := Lib.hid ht
  clear hs hcm hrs hk hm hP ht
  go_enter Try.func39, Try.ntmps39
  have A0 := Lib.hid ((Blk.new_at (w := w) (cs := #[.int .i64 h, .slice a n c, .int .i64 ac, .int .i64 bu]) (t := 34) w.heap.size rfl).alloc (.cells #[.int .i64 0, .slice none 0 0] 55))
  have HB0 : Hid (Below w.heap.size w ((w.alloc (.cells #[.int .i64 h, .slice a n c, .int .i64 ac, .int .i64 bu] 34)).alloc (.cells #[.int .i64 0, .slice none 0 0] 55))) := Lib.hid (((Below.refl _ _).alloc (Nat.le_refl _) _).alloc (by simp) _)
  have R0 := Lib.hid (Blk.new_at (w := w.alloc (.cells #[.int .i64 h, .slice a n c, .int .i64 ac, .int .i64 bu] 34)) (cs := #[.int .i64 0, .slice none 0 0]) (t := 55) (w.heap.size + 1) (by simp))
  go_wp2_with fail
  refine (l11After_any w.heap.size h ac bu a n c f ra roots rc co L m k _ A0.out (HS.out.below HB0.out) hcn HCM.out (HRS.out.below HB0.out) HK.out HM.out).mono ?_
  rintro e w1 hr
  rcases hr with ⟨h0, hb, rfl⟩ | ⟨rfl, hb, g, q, gc, ra1, rc1, rg, F, rfl, hw, hc, hge, hgc, hgm, hglt, hrt⟩
  · have HN := Lib.hid (show blN t k = 0 by unfold blN; rw [if_neg h0])
    have R1 := Lib.hid ((R0.out.below hb).alloc (.cells #[.int .i64 0, .slice none 0 0, .int .i64 0, .int .i64 0, .slice none 0 0, .int .i64 0, .int .i64 0, .int .i64 0] 65)); have HB1 := Lib.hid ((thru0 HB0.out hb).alloc (thru0 HB0.out hb).size (.cells #[.int .i64 0, .slice none 0 0, .int .i64 0, .int .i64 0, .slice none 0 0, .int .i64 0, .int .i64 0, .int .i64 0] 65))
    clear hb
    have lr := R1.out.1; have r0 := R1.out.at 0 rfl; have rf0 := R1.out.free 0 rfl; have r1 := R1.out.at 1 rfl; have rf1 := R1.out.free 1 rfl
    go_wp2
    refine bodyPost_ret (v := .agg #[.int .i64 k, .slice none 0 0]) (by simp [results, Try.results39, go_sem, r0, r1]) rfl ⟨none, 0, (by rw [HN.out]), .inl HN.out, ?_⟩
    repeat (first | (with_reducible refine Below.setCell ?_ (by (try simp); (try omega)) _))
    exact HB1.out
  · have HN := Lib.hid (show blN t 0 = t.s by unfold blN; rw [if_pos rfl])
    obtain ⟨hco, hm⟩ := isAft_zero HM.out
    have hkz := HK.out
    rw [hco] at hkz
    obtain ⟨hk1, hk2, hk3, hk4⟩ := isAsk_zero hkz
    obtain ⟨⟨s1, s2⟩, ⟨s3, s4⟩, s5, s6, s7, s8, s9⟩ := asked hkz
    have HFX := Lib.hid (fixed_of hkz (b := g + 1) (g := g) (c := gc) (by omega) ⟨hgc, hgm⟩)
    rw [HP.out, HT.out] at hc
    rw [HP.out] at s9
    rw [HP.out, HT.out]
    obtain ⟨fr, hfr⟩ : ∃ fr : Int, ((P + totO (objsO L t.R) : Nat) : Int) = fr := ⟨_, rfl⟩
    rw [hfr]
    have HFR := Lib.hid hfr
    clear hfr
    have hcop := HFX.out.cop
    rw [HP.out] at hcop
    have hmul : (1 - ac) * h = (P : Int) := by rw [← s9, baseI_mul (by omega) (by omega)]
    have hPb : (P : Int) ≤ 200 := by rw [← s9]; have := baseI_bd (ac := 1 - ac) s1; omega
    have hw1 : IntKind.i64.wrap (1 - ac) = 1 - ac := IntWalk.i64_in _ (by omega)
    have hw2 : IntKind.i64.wrap ((1 - ac) * h) = (P : Int) := by rw [hmul]; exact IntWalk.i64_in _ (by omega)
    have HBM := Lib.hid (bm_facts hc hcop HFX.out.len)
    have HLN := Lib.hid (show (objsO L t.R).length ≤ 400 by have := (isOI_small (hc.isOI hk1 hk2 HP.out.symm)).1; rw [moved_length] at this; exact this)
    have hpos : t.s ≤ (objsO L t.R).length := by have := hc.len; rcases hc.pos with h | ⟨h, _⟩ <;> omega
    have HPOS := Lib.hid hpos
    have hz1 := hb.size
    have A1 := Lib.hid ((A0.out.below hb).alloc (.cells #[.int .i64 h, .slice (some ⟨g, q, none⟩) n gc, .int .i64 ac, .int .i64 bu, .slice ra1 roots.length rc1, .int .i64 (t.nx : Int), .int .i64 ((placeAt P (objsO L t.R) t.s : Nat) : Int), .int .i64 fr] 65))
    have R1 := Lib.hid ((R0.out.below hb).alloc (.cells #[.int .i64 h, .slice (some ⟨g, q, none⟩) n gc, .int .i64 ac, .int .i64 bu, .slice ra1 roots.length rc1, .int .i64 (t.nx : Int), .int .i64 ((placeAt P (objsO L t.R) t.s : Nat) : Int), .int .i64 fr] 65))
    have X1 := Lib.hid (Blk.new_at (w := w1) (cs := #[.int .i64 h, .slice (some ⟨g, q, none⟩) n gc, .int .i64 ac, .int .i64 bu, .slice ra1 roots.length rc1, .int .i64 (t.nx : Int), .int .i64 ((placeAt P (objsO L t.R) t.s : Nat) : Int), .int .i64 fr]) (t := 65) w1.heap.size rfl)
    have W1 := Lib.hid (hw.alloc (.cells #[.int .i64 h, .slice (some ⟨g, q, none⟩) n gc, .int .i64 ac, .int .i64 bu, .slice ra1 roots.length rc1, .int .i64 (t.nx : Int), .int .i64 ((placeAt P (objsO L t.R) t.s : Nat) : Int), .int .i64 fr] 65))
    have HB1 := Lib.hid ((thru0 HB0.out hb).alloc (thru0 HB0.out hb).size (.cells #[.int .i64 h, .slice (some ⟨g, q, none⟩) n gc, .int .i64 ac, .int .i64 bu, .slice ra1 roots.length rc1, .int .i64 (t.nx : Int), .int .i64 ((placeAt P (objsO L t.R) t.s : Nat) : Int), .int .i64 fr] 65))
    have z1 : w.heap.size + 2 ≤ w1.heap.size := by have := R0.out.1; have := (R0.out.below hb).1; simp at hz1; omega
    have z2 : w1.heap.size + 1 = (w1.alloc (.cells #[.int .i64 h, .slice (some ⟨g, q, none⟩) n gc, .int .i64 ac, .int .i64 bu, .slice ra1 roots.length rc1, .int .i64 (t.nx : Int), .int .i64 ((placeAt P (objsO L t.R) t.s : Nat) : Int), .int .i64 fr] 65)).heap.size := by simp
    clear hb hw hc hge hgc hgm hrt hco hm hkz HFX hcop hk1 hk2 hk3 hk4 hpos hmul s9 hz1 HB0 R0 A0
    have lx := X1.out.1; have x0 := X1.out.at 0 rfl; have xf0 := X1.out.free 0 rfl; have x1 := X1.out.at 1 rfl; have xf1 := X1.out.free 1 rfl; have x2 := X1.out.at 2 rfl; have xf2 := X1.out.free 2 rfl; have x3 := X1.out.at 3 rfl; have xf3 := X1.out.free 3 rfl; have x4 := X1.out.at 4 rfl; have xf4 := X1.out.free 4 rfl; have x5 := X1.out.at 5 rfl; have xf5 := X1.out.free 5 rfl; have x6 := X1.out.at 6 rfl; have xf6 := X1.out.free 6 rfl; have x7 := X1.out.at 7 rfl; have xf7 := X1.out.free 7 rfl
    go_upto_region 4 with (fail)
    generalize w1.alloc (.cells #[.int .i64 h, .slice (some ⟨g, q, none⟩) n gc, .int .i64 ac, .int .i64 bu, .slice ra1 roots.length rc1, .int .i64 (t.nx : Int), .int .i64 ((placeAt P (objsO L t.R) t.s : Nat) : Int), .int .i64 fr] 65) = w2 at *
    have a0 := A1.out.at 0 rfl; have a2 := A1.out.at 2 rfl; have la := A1.out.1
    go_wp2_with fail
    refine (places2 w1.heap.size g q n gc (t.s) (.slice ra1 roots.length rc1) h ac bu (t.nx : Int) _ _ _ _ F (fun i => placeAt P (objsO L t.R) i) _ X1.out W1.out s6 (by have := HLN.out; have := HPOS.out; omega) (fun i hi => by
        have := HPOS.out
        obtain ⟨x, b1, b2, b3, b4, b5, b6⟩ := HBM.out i (by omega)
        have hl := placeAt_lt P (objsO L t.R) i t.s (by omega) (by omega)
        refine ⟨x, b1, b2, b3, b4, b5, ?_, b6⟩
        show placeAt P (objsO L t.R) i < placeAt P (objsO L t.R) t.s
        omega) (by show _ = ((placeAt P (objsO L t.R) 0 : Nat) : Int); rw [placeAt_zero]) (rfl)).mono ?_
    rintro e w3 ⟨xx, cc, rfl, ox, hb, _, _, _⟩
    have HB3 := Lib.hid (thru0 HB1.out hb); have R3 := Lib.hid (R1.out.below hb)
    have OA := Lib.hid (ox.mono (B' := w.heap.size + 2) (by omega))
    clear hb ox lx x0 xf0 x1 xf1 x2 xf2 x3 xf3 x4 xf4 x5 xf5 x6 xf6 x7 xf7 a0 a2 la HB1 R1 X1 W1 A1
    have lr := R3.out.1; have r0 := R3.out.at 0 rfl; have rf0 := R3.out.free 0 rfl; have r1 := R3.out.at 1 rfl; have rf1 := R3.out.free 1 rfl
    go_wp2
    refine bodyPost_ret (v := .agg #[.int .i64 0, .slice xx (t.s) cc]) (by simp [results, Try.results39, go_sem, r0, r1]) rfl ⟨xx, cc, (by rw [HN.out]), ?_, ?_⟩
    · rw [HN.out]
      refine Own.mono (B := w.heap.size + 2) ?_ (by omega)
      repeat (first | (with_reducible refine Own.setCell ?_ (by (try simp); (try omega)) _))
      exact OA.out.congr fun j hj => (by have := HPOS.out; exact (bgO_get L P t (by omega)).symm)
    · repeat (first | (with_reducible refine Below.setCell ?_ (by (try simp); (try omega)) _))
      exact HB3.out
end Go.Proofs.Ytnacdhnnpddccaa

namespace Go.Proofs.Ytnacdhnnpddccaa
open Go.RowKit
set_option linter.unusedVariables false

theorem bg_small {h : Int} {n : Nat} {f : Nat → Int} {ac bu : Int} {roots : List Int} {m co k : Int} {L : List Ob} (hk : IsAsk h n f ac bu roots co L) (ha : IsAft co m k) : grN L (baseI (1 - ac) h).toNat (gst (succO f L) roots m.toNat) k ≤ 400 ∧ blN (gst (succO f L) roots m.toNat) k ≤ 400 := by
  by_cases h0 : k = 0
  · subst h0
    obtain ⟨hc, hm⟩ := isAft_zero ha
    subst hc
    have fx := fixed_of hk (b := 1) (g := 0) (c := n) (by omega) ⟨Nat.le_refl _, by have := (asked hk).2.2.2.1; unfold maxLen; omega⟩
    obtain ⟨W, hW⟩ := cw_gst_some fx.cop fx.roots m.toNat
    obtain ⟨hk1, hk2, _, _⟩ := isAsk_zero hk
    have h1 := (isOI_small (hW.isOI hk1 hk2 rfl)).1
    rw [moved_length] at h1
    have h2 := hW.len
    unfold grN blN
    rw [if_pos rfl, if_pos rfl, bgO_length]
    have h3 : (gst (succO f L) roots m.toNat).s ≤ (gst (succO f L) roots m.toNat).R.length := by rcases hW.pos with h | ⟨h, _⟩ <;> omega
    omega
  · unfold grN blN
    rw [if_neg h0, if_neg h0]
    omega

/-- Both answer the same code and the same list. -/
def BothG (sp im : Nat) (h : Int) (n : Nat) (f : Nat → Int) (ac bu : Int) (roots : List Int) (m : Int) (co : Int) (n1 : Nat) (f1 : Nat → Int) : Prop :=
  n1 ≤ 1048576 ∧ (∀ (a : Option Addr) (c : Nat) (ra : Option Addr) (rc : Nat) (w : World), Src w a n f → n ≤ c → c ≤ maxLen → Src w ra roots.length (lf roots) → Calls Try.prog sp #[.agg #[.int .i64 h, .slice a n c, .int .i64 ac, .int .i64 bu], .slice ra roots.length rc, .int .i64 m] w (RetIR w co n1 f1)) ∧
  (∀ (a : Option Addr) (c : Nat) (ra : Option Addr) (rc : Nat) (w : World), Src w a n f → n ≤ c → c ≤ maxLen → Src w ra roots.length (lf roots) → Calls Try.prog im #[.agg #[.int .i64 h, .slice a n c, .int .i64 ac, .int .i64 bu], .slice ra roots.length rc, .int .i64 m] w (RetIR w co n1 f1))

theorem both_ga (h : Int) (n : Nat) (f : Nat → Int) (ac bu : Int) (roots : List Int) (m : Int) : ∃ co n1 f1, BothG 34 35 h n f ac bu roots m co n1 f1 := by
  obtain ⟨co, L, hk⟩ := isAsk_some h n f ac bu roots
  obtain ⟨k, ha⟩ := isAft_some co m
  have hs := (bg_small hk ha).1
  exact ⟨k, _, _, by omega, fun a c ra rc w h1 h2 h3 h4 => specGA_any h ac bu a n c f ra roots rc co L m k _ _ w h1 h2 h3 h4 hk ha rfl rfl, fun a c ra rc w h1 h2 h3 h4 => implGA_any h ac bu a n c f ra roots rc co L m k _ _ w h1 h2 h3 h4 hk ha rfl rfl⟩

theorem both_ba (h : Int) (n : Nat) (f : Nat → Int) (ac bu : Int) (roots : List Int) (m : Int) : ∃ co n1 f1, BothG 39 40 h n f ac bu roots m co n1 f1 := by
  obtain ⟨co, L, hk⟩ := isAsk_some h n f ac bu roots
  obtain ⟨k, ha⟩ := isAft_some co m
  have hs := (bg_small hk ha).2
  exact ⟨k, _, _, by omega, fun a c ra rc w h1 h2 h3 h4 => specBA_any h ac bu a n c f ra roots rc co L m k _ _ w h1 h2 h3 h4 hk ha rfl rfl, fun a c ra rc w h1 h2 h3 h4 => implBA_any h ac bu a n c f ra roots rc co L m k _ _ w h1 h2 h3 h4 hk ha rfl rfl⟩
end Go.Proofs.Ytnacdhnnpddccaa

namespace Go.Proofs.Ytnacdhnnpddccaa
open Go.RowKit
set_option linter.unusedVariables false

set_option maxRecDepth 100000 in
set_option maxHeartbeats 400000 in
theorem szInts_ok (a : Option Addr) (n cap : Nat) (l : Int) (w : World) (hl0 : 0 ≤ l) (hl : l ≤ 1048576) (hn : n ≤ maxLen) (h : n ≤ l) :
    Calls Try.prog 46 #[.slice a n cap, .int .i64 l] w fun e w' => e = .returned (.int .i64 (l - n)) ∧ w = w' := by
  unfold maxLen at hn
  go_enter Try.func46, Try.ntmps46
  go_wp2
  go_ret
  exact ⟨rfl, rfl⟩

set_option maxRecDepth 100000 in
set_option maxHeartbeats 400000 in
theorem szInts_no (a : Option Addr) (n cap : Nat) (l : Int) (w : World) (hl0 : 0 ≤ l) (hl : l ≤ 1048576) (hn : n ≤ maxLen) (h : l < n) :
    Calls Try.prog 46 #[.slice a n cap, .int .i64 l] w fun e w' => e = .returned (.int .i64 (-1)) ∧ w = w' := by
  unfold maxLen at hn
  go_enter Try.func46, Try.ntmps46
  go_wp2
  go_ret
  exact ⟨rfl, rfl⟩

set_option maxRecDepth 100000 in
set_option maxHeartbeats 400000 in
theorem szArena_ok (h ac bu : Int) (a : Option Addr) (n cap : Nat) (l : Int) (w : World) (hl0 : 0 ≤ l) (hl : l ≤ 1048576) (hn : n ≤ maxLen) (hh : n ≤ l) :
    Calls Try.prog 15 #[.agg #[.int .i64 h, .slice a n cap, .int .i64 ac, .int .i64 bu], .int .i64 l] w fun e w' => e = .returned (.int .i64 (l - n)) ∧ Below w.heap.size w w' := by
  go_enter Try.func15, Try.ntmps15
  go_wp2_with (go_at_call 46; refine (szInts_ok _ _ _ _ _ hl0 hl hn hh).mono ?_; rintro e w' ⟨rfl, rfl⟩)
  go_ret
  exact ⟨rfl, (Below.refl _ _).alloc (Nat.le_refl _) _⟩

set_option maxRecDepth 100000 in
set_option maxHeartbeats 400000 in
theorem szArena_no (h ac bu : Int) (a : Option Addr) (n cap : Nat) (l : Int) (w : World) (hl0 : 0 ≤ l) (hl : l ≤ 1048576) (hn : n ≤ maxLen) (hh : l < n) :
    Calls Try.prog 15 #[.agg #[.int .i64 h, .slice a n cap, .int .i64 ac, .int .i64 bu], .int .i64 l] w fun e w' => e = .returned (.int .i64 (-1)) ∧ Below w.heap.size w w' := by
  go_enter Try.func15, Try.ntmps15
  go_wp2_with (go_at_call 46; refine (szInts_no _ _ _ _ _ hl0 hl hn hh).mono ?_; rintro e w' ⟨rfl, rfl⟩)
  go_ret
  exact ⟨rfl, (Below.refl _ _).alloc (Nat.le_refl _) _⟩
end Go.Proofs.Ytnacdhnnpddccaa

namespace Go.Proofs.Ytnacdhnnpddccaa
open Go.RowKit Go.Maps
set_option linter.unusedVariables false

theorem src_list {w : World} {a : Option Addr} {n : Nat} {f : Nat → Int} (h : Src w a n f) : ∃ l : List Int, l.length = n ∧ Src w a l.length (lf l) := by
  refine ⟨(List.range n).map f, by simp, ?_⟩
  rw [show ((List.range n).map f).length = n by simp]
  refine h.congr fun i hi => ?_
  unfold lf
  rw [List.getD_eq_getElem?_getD]
  simp [hi]

set_option maxRecDepth 100000 in
set_option maxHeartbeats 400000 in
theorem markInts_big (a : Option Addr) (n c lo hi : Nat) (f : Nat → Int) (k : Int) (w : World) (ho : OwnIn w lo hi a n f) (hn : n ≤ 1048576) (hk0 : 0 ≤ k) (hk1 : k ≤ 4194304) :
    Calls Try.prog 23 #[.slice a n c, .int .i64 k] w (RetMark w lo hi a n k) := by
  have HO := Lib.hid ho
  clear ho
  go_enter Try.func23, Try.ntmps23
  go_wp2
  go_loopw [1, 5] (fun q p wr => ∃ i : Nat, i ≤ n ∧ p = .int .i64 i ∧ q = .int .i64 (k + i) ∧ Hid (Keeps w wr lo hi) ∧ Hid (OwnIn wr lo hi a n (fun j => if j < i then k + j else f j))) (fun _ p _ => n - (intOf p).toNat)
  case atStart => exact ⟨0, Nat.zero_le _, rfl, by simp, Keeps.refl _ _ _, by simpa using HO⟩
  case round =>
    obtain ⟨i, hi', rfl, rfl, HK, HR⟩ := hrel
    by_cases hlt : i < n
    · obtain ⟨b, off, rfl, hb, hc⟩ := src_some HR.out.src (by omega)
      have c1 := hc i hlt
      have hfz : wr.frozen? ⟨b, off + i, none⟩ = false := by
        rcases HR.out with h | ⟨b', off', h1, _, _, h4⟩
        · omega
        · simp only [Option.some.injEq, Addr.mk.injEq, and_true] at h1
          obtain ⟨rfl, rfl⟩ := h1
          exact (h4 i hlt).2
      have hst := Lib.hid (HR.out.stored i hlt (k + i))
      have hlt' : (i : Int) < (n : Int) := by omega
      clear hc
      go_wp2
      go_roundw
      case rel =>
        refine ⟨i + 1, by omega, by go_num, by go_num, HK.out.trans hst.out.2, hst.out.1.congr fun j hj => ?_⟩
        by_cases h1 : j = i
        · subst h1; simp
        · have h2 : (j < i + 1) = (j < i) := by simp only [eq_iff_iff]; omega
          simp only [h1, if_false, h2]
      case measure => simp [intOf]; omega
    · go_wp2
      go_ret
      obtain rfl : i = n := by omega
      exact ⟨rfl, HR.out.congr fun j hj => by simp [hj], HK.out⟩
end Go.Proofs.Ytnacdhnnpddccaa

namespace Go.Proofs.Ytnacdhnnpddccaa
open Go.RowKit
set_option linter.unusedVariables false

set_option maxRecDepth 100000 in
set_option maxHeartbeats 400000 in
theorem eqIR_same (co : Int) (a a' : Option Addr) (n c c' : Nat) (f g : Nat → Int) (w : World) (s1 : Src w a n f) (s2 : Src w a' n g) (hn : n ≤ 1048576) (he : ∀ i, i < n → f i = g i) :
    Calls Try.prog 36 #[.agg #[.int .i64 co, .slice a n c], .agg #[.int .i64 co, .slice a' n c']] w (RetBool w true) := by
  have S1 := Lib.hid s1
  have S2 := Lib.hid s2
  have HE := Lib.hid he
  clear s1 s2 he
  go_enter Try.func36, Try.ntmps36
  go_wp2_with (go_at_call 21; refine (eqInts_same _ _ _ _ _ f g _ ((S1.out.alloc _).alloc _) ((S2.out.alloc _).alloc _) hn).mono ?_; rw [eqB_yes HE.out]; rintro e w1 ⟨rfl, hb⟩; obtain ⟨hc, hf⟩ := bcell hb; have HB := Lib.hid hb; have hz := hb.size; clear hb)
  go_ret
  exact ⟨rfl, (((Below.refl _ _).alloc (Nat.le_refl _) _).alloc (by simp) _).trans (HB.out.mono (by simp; try omega))⟩

set_option maxRecDepth 100000 in
set_option maxHeartbeats 400000 in
theorem markIR_any (co : Int) (a : Option Addr) (n c lo hi : Nat) (f : Nat → Int) (k : Int) (w : World) (ho : OwnIn w lo hi a n f) (hn : n ≤ 1048576) (hk0 : 0 ≤ k) (hk1 : k ≤ 1048576) :
    Calls Try.prog 37 #[.agg #[.int .i64 co, .slice a n c], .int .i64 k] w (RetMark w lo hi a n k) := by
  have HO := Lib.hid ho
  clear ho
  go_enter Try.func37, Try.ntmps37
  go_wp2_with (go_at_call 23; (with_reducible refine (markInts_any _ _ _ _ _ _ _ _ (HO.out.alloc _) hn hk0 hk1).mono ?_); rintro e w1 ⟨rfl, ho1, hk⟩; have HO1 := Lib.hid ho1; have HK1 := Lib.hid hk; clear ho1 hk)
  go_ret
  exact ⟨rfl, HO1.out, (keeps_of_below ((Below.refl _ _).alloc (Nat.le_refl _) _) lo hi).trans HK1.out⟩

set_option maxRecDepth 100000 in
set_option maxHeartbeats 400000 in
theorem heldIR_any (co : Int) (a : Option Addr) (n c : Nat) (k : Int) (w : World) (hs : Src w a n (fun i => k + i)) (hn : n ≤ 1048576) (hk0 : 0 ≤ k) (hk1 : k ≤ 1048576) :
    Calls Try.prog 38 #[.agg #[.int .i64 co, .slice a n c], .int .i64 k] w (RetInt w (k + n)) := by
  have HS := Lib.hid hs
  clear hs
  go_enter Try.func38, Try.ntmps38
  go_wp2_with (go_at_call 54; (with_reducible refine (heldInts_any _ _ _ _ _ (HS.out.alloc _) hn hk0 hk1).mono ?_); rintro e w1 ⟨rfl, rfl⟩)
  go_ret
  exact ⟨rfl, (Below.refl _ _).alloc (Nat.le_refl _) _⟩
end Go.Proofs.Ytnacdhnnpddccaa

namespace Go.Proofs.Ytnacdhnnpddccaa
open Go.RowKit
set_option linter.unusedVariables false

set_option maxRecDepth 100000 in
set_option maxHeartbeats 800000 in
theorem e7_farA (h ac bu : Int) (a : Option Addr) (n c : Nat) (f : Nat → Int) (ra : Option Addr) (roots : List Int) (rc : Nat) (m : Int) (w : World) (hn : n ≤ maxLen) (hbig : 1048576 < n) (hrb : roots.length ≤ 1048576) :
    Calls Try.prog 7 #[.agg #[.int .i64 h, .slice a n c, .int .i64 ac, .int .i64 bu], .slice ra roots.length rc, .int .i64 m] w (RetBool w true) := by
  have hrd : ¬ (1048576 : Int) < (roots.length : Int) := by omega
  go_enter Try.func7, Try.ntmps7
  go_wp2_with (go_at_call 15; (with_reducible refine (szArena_no _ _ _ _ _ _ _ _ (by omega) (by omega) hn (by omega)).mono ?_); rintro e w1 ⟨rfl, hb⟩; obtain ⟨hc, hf⟩ := bcell hb; have HB := Lib.hid hb; have hz := hb.size; clear hb)
  go_ret
  exact ⟨rfl, ((Below.refl _ _).alloc (Nat.le_refl _) _).trans (HB.out.mono (by simp; try omega))⟩

set_option maxRecDepth 100000 in
set_option maxHeartbeats 400000 in
theorem e7_farR (h ac bu : Int) (a : Option Addr) (n c : Nat) (f : Nat → Int) (ra : Option Addr) (roots : List Int) (rc : Nat) (m : Int) (w : World) (hrb : 1048576 < roots.length) :
    Calls Try.prog 7 #[.agg #[.int .i64 h, .slice a n c, .int .i64 ac, .int .i64 bu], .slice ra roots.length rc, .int .i64 m] w (RetBool w true) := by
  have hrd : (1048576 : Int) < (roots.length : Int) := by omega
  go_enter Try.func7, Try.ntmps7
  go_wp2
  go_ret
  exact ⟨rfl, (Below.refl _ _).alloc (Nat.le_refl _) _⟩

set_option maxRecDepth 100000 in
set_option maxHeartbeats 6400000 in
theorem e7_near (h ac bu : Int) (a : Option Addr) (n c : Nat) (f : Nat → Int) (ra : Option Addr) (roots : List Int) (rc : Nat) (m : Int) (w : World) (hs : Src w a n f) (hq : Src w ra roots.length (lf roots)) (hbig : n ≤ 1048576) (hrb : roots.length ≤ 1048576) :
    Calls Try.prog 7 #[.agg #[.int .i64 h, .slice a n c, .int .i64 ac, .int .i64 bu], .slice ra roots.length rc, .int .i64 m] w (RetBool w true) := by
  obtain ⟨co, n1, f1, hbo⟩ := both_ga h n f ac bu roots m
  have hn1 : n1 ≤ 1048576 := hbo.1
  have HSP := Lib.hid hbo.2.1; have HIM := Lib.hid hbo.2.2
  have hrd : ¬ (1048576 : Int) < (roots.length : Int) := by omega
  clear hbo
  have HS := Lib.hid hs
  have HQ := Lib.hid hq
  clear hs hq
  have HS0 := HS; have HQ0 := HQ
  go_enter Try.func7, Try.ntmps7
  go_wp2_with fail
  refine (szArena_ok _ _ _ _ _ _ _ _ (by omega) (by omega) (by unfold maxLen; omega) (by omega)).mono ?_
  rintro e w1 ⟨rfl, hb⟩
  have HB1 : Hid (Below w.heap.size w w1) := thru1 (Below.refl _ _) hb
  have z1 : w.heap.size + 1 ≤ w1.heap.size := by have := hb.size; simp at this; omega
  have HS_1 := Lib.hid ((HS.out.alloc _).below hb)
  have HQ_1 := Lib.hid ((HQ.out.alloc _).below hb)
  have A_1 := Lib.hid ((Blk.new_at (w.heap.size) (by simp)).below hb)
  clear hb HS HQ
  have lA := A_1.out.1
  have cA0 := A_1.out.at 0 rfl
  have cA1 := A_1.out.at 1 rfl
  have cA2 := A_1.out.at 2 rfl
  have cA3 := A_1.out.at 3 rfl
  go_wp2_with fail
  refine (toArena_any _ _ _ _ _ _ f _ HS_1.out hbig).mono ?_
  rintro e w2 ⟨u2, c2, rfl, ho, hb, hc2, hcm2, hn2⟩
  have HB2 : Hid (Below w.heap.size w w2) := thru0 HB1.out hb
  have z2 : w1.heap.size ≤ w2.heap.size := hb.size
  have HS_2 := Lib.hid (HS_1.out.below hb)
  have HQ_2 := Lib.hid (HQ_1.out.below hb)
  have A_2 := Lib.hid (A_1.out.below hb)
  have RA_2 : Hid (OwnIn w2 (w1.heap.size) w2.heap.size u2 n f) := ho.into
  clear hb lA cA0 cA1 cA2 cA3 HS_1 HQ_1 A_1 HB1 ho
  go_wp2_with fail
  refine (toInts_any _ _ _ (lf roots) _ HQ_2.out hrb).mono ?_
  rintro e w3 ⟨u3, c3, rfl, ho, hb, hc3, hcm3, hn3⟩
  have HB3 : Hid (Below w.heap.size w w3) := thru0 HB2.out hb
  have z3 : w2.heap.size ≤ w3.heap.size := hb.size
  have HS_3 := Lib.hid (HS_2.out.below hb)
  have HQ_3 := Lib.hid (HQ_2.out.below hb)
  have A_3 := Lib.hid (A_2.out.below hb)
  have RA_3 := Lib.hid (RA_2.out.below hb)
  have QA_3 : Hid (OwnIn w3 (w2.heap.size) w3.heap.size u3 roots.length (lf roots)) := ho.into
  clear hb HS_2 HQ_2 A_2 RA_2 HB2 ho
  go_wp2_with fail
  refine (HSP.out _ _ _ _ _ RA_3.out.src hc2 hcm2 QA_3.out.src).mono ?_
  rintro e w4 ⟨u4, c4, rfl, ho, hb⟩
  have HB4 : Hid (Below w.heap.size w w4) := thru0 HB3.out hb
  have z4 : w3.heap.size ≤ w4.heap.size := hb.size
  have HS_4 := Lib.hid (HS_3.out.below hb)
  have HQ_4 := Lib.hid (HQ_3.out.below hb)
  have A_4 := Lib.hid (A_3.out.below hb)
  have RA_4 := Lib.hid (RA_3.out.below hb)
  have QA_4 := Lib.hid (QA_3.out.below hb)
  have RW_4 : Hid (OwnIn w4 (w3.heap.size) w4.heap.size u4 n1 f1) := ho.into
  clear hb HS_3 HQ_3 A_3 RA_3 QA_3 HB3 ho
  clear RA_4 QA_4
  have lA := A_4.out.1
  have cA0 := A_4.out.at 0 rfl
  have cA1 := A_4.out.at 1 rfl
  have cA2 := A_4.out.at 2 rfl
  have cA3 := A_4.out.at 3 rfl
  go_wp2_with fail
  refine (toArena_any _ _ _ _ _ _ f _ (HS_4.out.alloc _) hbig).mono ?_
  rintro e w5 ⟨u5, c5, rfl, ho, hb, hc5, hcm5, hn5⟩
  have HB5 : Hid (Below w.heap.size w w5) := thru1 HB4.out hb
  have z5 : w4.heap.size + 1 ≤ w5.heap.size := by have := hb.size; simp at this; omega
  have HS_5 := Lib.hid ((HS_4.out.alloc _).below hb)
  have HQ_5 := Lib.hid ((HQ_4.out.alloc _).below hb)
  have A_5 := Lib.hid ((A_4.out.alloc _).below hb)
  have RW_5 := Lib.hid ((RW_4.out.alloc _).below hb)
  have W_5 := Lib.hid ((Blk.new_at (w4.heap.size) (by simp)).below hb)
  have RX_5 : Hid (OwnIn w5 (w4.heap.size + 1) w5.heap.size u5 n f) := (ho.mono (by simp)).into
  clear hb lA cA0 cA1 cA2 cA3 HS_4 HQ_4 A_4 RW_4 HB4 ho
  go_wp2_with fail
  refine (toInts_any _ _ _ (lf roots) _ (HQ_5.out.alloc _) hrb).mono ?_
  rintro e w6 ⟨u6, c6, rfl, ho, hb, hc6, hcm6, hn6⟩
  have HB6 : Hid (Below w.heap.size w w6) := thru1 HB5.out hb
  have z6 : w5.heap.size + 1 ≤ w6.heap.size := by have := hb.size; simp at this; omega
  have HS_6 := Lib.hid ((HS_5.out.alloc _).below hb)
  have HQ_6 := Lib.hid ((HQ_5.out.alloc _).below hb)
  have A_6 := Lib.hid ((A_5.out.alloc _).below hb)
  have RW_6 := Lib.hid ((RW_5.out.alloc _).below hb)
  have W_6 := Lib.hid ((W_5.out.alloc _).below hb)
  have RX_6 := Lib.hid ((RX_5.out.alloc _).below hb)
  have X_6 := Lib.hid ((Blk.new_at (w5.heap.size) (by simp)).below hb)
  have RQ_6 : Hid (OwnIn w6 (w5.heap.size + 1) w6.heap.size u6 roots.length (lf roots)) := (ho.mono (by simp)).into
  clear hb HS_5 HQ_5 A_5 RW_5 W_5 RX_5 HB5 ho
  have lX := X_6.out.1
  have cX0 := X_6.out.at 0 rfl
  have cX1 := X_6.out.at 1 rfl
  have cX2 := X_6.out.at 2 rfl
  have cX3 := X_6.out.at 3 rfl
  go_wp2_with fail
  refine (HIM.out _ _ _ _ _ RX_6.out.src hc5 hcm5 RQ_6.out.src).mono ?_
  rintro e w7 ⟨u7, c7, rfl, ho, hb⟩
  have HB7 : Hid (Below w.heap.size w w7) := thru0 HB6.out hb
  have z7 : w6.heap.size ≤ w7.heap.size := hb.size
  have HS_7 := Lib.hid (HS_6.out.below hb)
  have HQ_7 := Lib.hid (HQ_6.out.below hb)
  have A_7 := Lib.hid (A_6.out.below hb)
  have RW_7 := Lib.hid (RW_6.out.below hb)
  have W_7 := Lib.hid (W_6.out.below hb)
  have RX_7 := Lib.hid (RX_6.out.below hb)
  have X_7 := Lib.hid (X_6.out.below hb)
  have RQ_7 := Lib.hid (RQ_6.out.below hb)
  have RG_7 : Hid (OwnIn w7 (w6.heap.size) w7.heap.size u7 n1 f1) := ho.into
  clear hb lX cX0 cX1 cX2 cX3 HS_6 HQ_6 A_6 RW_6 W_6 RX_6 X_6 RQ_6 HB6 ho
  have lW := W_7.out.1
  have cW0 := W_7.out.at 0 rfl
  have cW1 := W_7.out.at 1 rfl
  go_wp2_with fail
  refine (eqIR_same _ _ _ _ _ _ f1 f1 _ (RG_7.out.alloc _).src (RW_7.out.alloc _).src hn1 (fun _ _ => rfl)).mono ?_
  rintro e w8 ⟨rfl, hb⟩
  have HB8 : Hid (Below w.heap.size w w8) := thru1 HB7.out hb
  have z8 : w7.heap.size + 1 ≤ w8.heap.size := by have := hb.size; simp at this; omega
  have HS_8 := Lib.hid ((HS_7.out.alloc _).below hb)
  have HQ_8 := Lib.hid ((HQ_7.out.alloc _).below hb)
  have A_8 := Lib.hid ((A_7.out.alloc _).below hb)
  have RW_8 := Lib.hid ((RW_7.out.alloc _).below hb)
  have W_8 := Lib.hid ((W_7.out.alloc _).below hb)
  have RX_8 := Lib.hid ((RX_7.out.alloc _).below hb)
  have X_8 := Lib.hid ((X_7.out.alloc _).below hb)
  have RQ_8 := Lib.hid ((RQ_7.out.alloc _).below hb)
  have RG_8 := Lib.hid ((RG_7.out.alloc _).below hb)
  have G_8 := Lib.hid ((Blk.new_at (w7.heap.size) (by simp)).below hb)
  clear hb lW cW0 cW1 HS_7 HQ_7 A_7 RW_7 W_7 RX_7 X_7 RQ_7 RG_7 HB7
  have lA := A_8.out.1
  have cA0 := A_8.out.at 0 rfl
  have cA1 := A_8.out.at 1 rfl
  have cA2 := A_8.out.at 2 rfl
  have cA3 := A_8.out.at 3 rfl
  have lX := X_8.out.1
  have cX0 := X_8.out.at 0 rfl
  have cX1 := X_8.out.at 1 rfl
  have cX2 := X_8.out.at 2 rfl
  have cX3 := X_8.out.at 3 rfl
  go_wp2_with fail
  have HS_8d := Lib.hid HS_8.out.drew
  have HQ_8d := Lib.hid HQ_8.out.drew
  have A_8d := Lib.hid A_8.out.drew
  have RW_8d := Lib.hid RW_8.out.drew
  have W_8d := Lib.hid W_8.out.drew
  have RX_8d := Lib.hid RX_8.out.drew
  have X_8d := Lib.hid X_8.out.drew
  have RQ_8d := Lib.hid RQ_8.out.drew
  have RG_8d := Lib.hid RG_8.out.drew
  have G_8d := Lib.hid G_8.out.drew
  have HB8d := Lib.hid HB8.out.drew
  go_region_held3 (fun w' => w'.cell? ⟨w.heap.size, 0, none⟩ = some (.int .i64 h) ∧ w'.cell? ⟨w.heap.size, 1, none⟩ = some (.slice a n c) ∧ w'.cell? ⟨w.heap.size, 2, none⟩ = some (.int .i64 ac) ∧ w'.cell? ⟨w.heap.size, 3, none⟩ = some (.int .i64 bu) ∧ w'.cell? ⟨w5.heap.size, 0, none⟩ = some (.int .i64 h) ∧ w'.cell? ⟨w5.heap.size, 1, none⟩ = some (.slice u5 n c5) ∧ w'.cell? ⟨w5.heap.size, 2, none⟩ = some (.int .i64 ac) ∧ w'.cell? ⟨w5.heap.size, 3, none⟩ = some (.int .i64 bu))
    (first | exact ⟨A_8d.out.at 0 rfl, A_8d.out.at 1 rfl, A_8d.out.at 2 rfl, A_8d.out.at 3 rfl, X_8d.out.at 0 rfl, X_8d.out.at 1 rfl, X_8d.out.at 2 rfl, X_8d.out.at 3 rfl⟩ | exact ⟨A_9.out.at 0 rfl, A_9.out.at 1 rfl, A_9.out.at 2 rfl, A_9.out.at 3 rfl, X_9.out.at 0 rfl, X_9.out.at 1 rfl, X_9.out.at 2 rfl, X_9.out.at 3 rfl⟩ | exact ⟨A_10.out.at 0 rfl, A_10.out.at 1 rfl, A_10.out.at 2 rfl, A_10.out.at 3 rfl, X_10.out.at 0 rfl, X_10.out.at 1 rfl, X_10.out.at 2 rfl, X_10.out.at 3 rfl⟩)
    (first | (go_at_call 17; refine (toArena_any _ _ _ _ _ _ f _ HS_8d.out hbig).mono ?_; rintro e w9 ⟨u9, c9, rfl, ho, hb, hc9, hcm9, hn9⟩; have HB9 := Lib.hid (thru0 HB8d.out hb); have z9 : w8.heap.size ≤ w9.heap.size := hb.size; have HS_9 := Lib.hid (HS_8d.out.below hb); have HQ_9 := Lib.hid (HQ_8d.out.below hb); have A_9 := Lib.hid (A_8d.out.below hb); have RW_9 := Lib.hid (RW_8d.out.below hb); have W_9 := Lib.hid (W_8d.out.below hb); have RX_9 := Lib.hid (RX_8d.out.below hb); have X_9 := Lib.hid (X_8d.out.below hb); have RQ_9 := Lib.hid (RQ_8d.out.below hb); have RG_9 := Lib.hid (RG_8d.out.below hb); have G_9 := Lib.hid (G_8d.out.below hb); have RT_9 : Hid (OwnIn w9 w8.heap.size w9.heap.size u9 n f) := ho.into; clear hb ho) | (go_at_call 20; refine (eqArena_same _ _ _ _ _ _ _ _ f f _ RX_9.out.src RT_9.out.src hbig (fun _ _ => rfl)).mono ?_; rintro e w10 ⟨rfl, hb⟩; have HB10 := Lib.hid (thru0 HB9.out hb); have z10 : w9.heap.size ≤ w10.heap.size := hb.size; have HS_10 := Lib.hid (HS_9.out.below hb); have HQ_10 := Lib.hid (HQ_9.out.below hb); have A_10 := Lib.hid (A_9.out.below hb); have RW_10 := Lib.hid (RW_9.out.below hb); have W_10 := Lib.hid (W_9.out.below hb); have RX_10 := Lib.hid (RX_9.out.below hb); have X_10 := Lib.hid (X_9.out.below hb); have RQ_10 := Lib.hid (RQ_9.out.below hb); have RG_10 := Lib.hid (RG_9.out.below hb); have G_10 := Lib.hid (G_9.out.below hb); have RT_10 := Lib.hid (RT_9.out.below hb); clear hb))

  go_wp2_with fail
  refine (toInts_any _ _ _ (lf roots) _ HQ_10.out hrb).mono ?_
  rintro e w11 ⟨u11, c11, rfl, ho, hb, hc11, hcm11, hn11⟩
  have HB11 : Hid (Below w.heap.size w w11) := thru0 HB10.out hb
  have z11 : w10.heap.size ≤ w11.heap.size := hb.size
  have HS_11 := Lib.hid (HS_10.out.below hb)
  have HQ_11 := Lib.hid (HQ_10.out.below hb)
  have A_11 := Lib.hid (A_10.out.below hb)
  have RW_11 := Lib.hid (RW_10.out.below hb)
  have W_11 := Lib.hid (W_10.out.below hb)
  have RX_11 := Lib.hid (RX_10.out.below hb)
  have X_11 := Lib.hid (X_10.out.below hb)
  have RQ_11 := Lib.hid (RQ_10.out.below hb)
  have RG_11 := Lib.hid (RG_10.out.below hb)
  have G_11 := Lib.hid (G_10.out.below hb)
  have QT_11 : Hid (OwnIn w11 (w10.heap.size) w11.heap.size u11 roots.length (lf roots)) := ho.into
  clear hb HS_10 HQ_10 A_10 RW_10 W_10 RX_10 X_10 RQ_10 RG_10 G_10 HB10 ho
  go_wp2_with fail
  refine (eqInts_same _ _ _ _ _ (lf roots) (lf roots) _ RQ_11.out.src QT_11.out.src hrb).mono ?_
  rintro e w12 ⟨hret, hb⟩
  have HB12 : Hid (Below w.heap.size w w12) := thru0 HB11.out hb
  have z12 : w11.heap.size ≤ w12.heap.size := hb.size
  have HS_12 := Lib.hid (HS_11.out.below hb)
  have HQ_12 := Lib.hid (HQ_11.out.below hb)
  have A_12 := Lib.hid (A_11.out.below hb)
  have RW_12 := Lib.hid (RW_11.out.below hb)
  have W_12 := Lib.hid (W_11.out.below hb)
  have RX_12 := Lib.hid (RX_11.out.below hb)
  have X_12 := Lib.hid (X_11.out.below hb)
  have RQ_12 := Lib.hid (RQ_11.out.below hb)
  have RG_12 := Lib.hid (RG_11.out.below hb)
  have G_12 := Lib.hid (G_11.out.below hb)
  have QT_12 := Lib.hid (QT_11.out.below hb)
  rw [eqB_yes (fun _ _ => rfl)] at hret
  subst hret
  clear hb HS_11 HQ_11 A_11 RW_11 W_11 RX_11 X_11 RQ_11 RG_11 G_11 QT_11 HB11
  clear QT_12
  have lX := X_12.out.1
  have cX0 := X_12.out.at 0 rfl
  have cX1 := X_12.out.at 1 rfl
  have cX2 := X_12.out.at 2 rfl
  have cX3 := X_12.out.at 3 rfl
  go_wp2_with fail
  clear HS_12 HQ_12
  refine (markArena_any _ _ _ _ _ _ _ _ _ _ _ RX_12.out hbig (by omega) (by omega)).mono ?_
  rintro e w13 ⟨rfl, ho, hk⟩
  have HB13 : Hid (Below w.heap.size w w13) := HB12.out.trans (hk.below (by omega) HB12.out.size)
  have z13 : w12.heap.size ≤ w13.heap.size := hk.size
  have A_13 := Lib.hid (A_12.out.keeps hk (by omega))
  have RW_13 := Lib.hid (RW_12.out.keeps hk (by omega))
  have W_13 := Lib.hid (W_12.out.keeps hk (by omega))
  have X_13 := Lib.hid (X_12.out.keeps hk (by omega))
  have RQ_13 := Lib.hid (RQ_12.out.keeps hk (by omega))
  have RG_13 := Lib.hid (RG_12.out.keeps hk (by omega))
  have G_13 := Lib.hid (G_12.out.keeps hk (by omega))
  have RX_13 : Hid (OwnIn w13 (w4.heap.size + 1) w5.heap.size u5 n (fun i => 1 + i)) := ho
  clear hk lX cX0 cX1 cX2 cX3 A_12 RW_12 W_12 RX_12 X_12 RQ_12 RG_12 G_12 HB12 ho
  go_wp2_with fail
  refine (markInts_big _ _ _ _ _ _ _ _ RQ_13.out hrb (by omega) (by omega)).mono ?_
  rintro e w14 ⟨rfl, ho, hk⟩
  have HB14 : Hid (Below w.heap.size w w14) := HB13.out.trans (hk.below (by omega) HB13.out.size)
  have z14 : w13.heap.size ≤ w14.heap.size := hk.size
  have A_14 := Lib.hid (A_13.out.keeps hk (by omega))
  have RW_14 := Lib.hid (RW_13.out.keeps hk (by omega))
  have W_14 := Lib.hid (W_13.out.keeps hk (by omega))
  have X_14 := Lib.hid (X_13.out.keeps hk (by omega))
  have RG_14 := Lib.hid (RG_13.out.keeps hk (by omega))
  have G_14 := Lib.hid (G_13.out.keeps hk (by omega))
  have RX_14 := Lib.hid (RX_13.out.keeps hk (by omega))
  have RQ_14 : Hid (OwnIn w14 (w5.heap.size + 1) w6.heap.size u6 roots.length (fun i => (1 + (n : Int)) + i)) := ho
  clear hk A_13 RW_13 W_13 X_13 RQ_13 RG_13 G_13 RX_13 HB13 ho
  have lW := W_14.out.1
  have cW0 := W_14.out.at 0 rfl
  have cW1 := W_14.out.at 1 rfl
  have lG := G_14.out.1
  have cG0 := G_14.out.at 0 rfl
  have cG1 := G_14.out.at 1 rfl
  go_wp2_with fail
  refine (eqIR_same _ _ _ _ _ _ f1 f1 _ RG_14.out.src RW_14.out.src hn1 (fun _ _ => rfl)).mono ?_
  rintro e w15 ⟨rfl, hb⟩
  have HB15 : Hid (Below w.heap.size w w15) := thru0 HB14.out hb
  have z15 : w14.heap.size ≤ w15.heap.size := hb.size
  have A_15 := Lib.hid (A_14.out.below hb)
  have RW_15 := Lib.hid (RW_14.out.below hb)
  have W_15 := Lib.hid (W_14.out.below hb)
  have X_15 := Lib.hid (X_14.out.below hb)
  have RG_15 := Lib.hid (RG_14.out.below hb)
  have G_15 := Lib.hid (G_14.out.below hb)
  have RX_15 := Lib.hid (RX_14.out.below hb)
  have RQ_15 := Lib.hid (RQ_14.out.below hb)
  clear hb lW cW0 cW1 lG cG0 cG1 A_14 RW_14 W_14 X_14 RG_14 G_14 RX_14 RQ_14 HB14
  have lG := G_15.out.1
  have cG0 := G_15.out.at 0 rfl
  have cG1 := G_15.out.at 1 rfl
  go_wp2_with fail
  refine (markIR_any _ _ _ _ _ _ _ _ _ RG_15.out hn1 (by omega) (by omega)).mono ?_
  rintro e w16 ⟨rfl, ho, hk⟩
  have HB16 : Hid (Below w.heap.size w w16) := HB15.out.trans (hk.below (by omega) HB15.out.size)
  have z16 : w15.heap.size ≤ w16.heap.size := hk.size
  have A_16 := Lib.hid (A_15.out.keeps hk (by omega))
  have RW_16 := Lib.hid (RW_15.out.keeps hk (by omega))
  have W_16 := Lib.hid (W_15.out.keeps hk (by omega))
  have X_16 := Lib.hid (X_15.out.keeps hk (by omega))
  have G_16 := Lib.hid (G_15.out.keeps hk (by omega))
  have RX_16 := Lib.hid (RX_15.out.keeps hk (by omega))
  have RQ_16 := Lib.hid (RQ_15.out.keeps hk (by omega))
  have RG_16 : Hid (OwnIn w16 (w6.heap.size) w7.heap.size u7 n1 (fun i => 1 + i)) := ho
  clear hk lG cG0 cG1 A_15 RW_15 W_15 X_15 RG_15 G_15 RX_15 RQ_15 HB15 ho
  have lG := G_16.out.1
  have cG0 := G_16.out.at 0 rfl
  have cG1 := G_16.out.at 1 rfl
  go_wp2_with fail
  refine (heldIR_any _ _ _ _ 1 _ RG_16.out.src hn1 (by omega) (by omega)).mono ?_
  rintro e w17 ⟨rfl, hb⟩
  have HB17 : Hid (Below w.heap.size w w17) := thru0 HB16.out hb
  have z17 : w16.heap.size ≤ w17.heap.size := hb.size
  have A_17 := Lib.hid (A_16.out.below hb)
  have RW_17 := Lib.hid (RW_16.out.below hb)
  have W_17 := Lib.hid (W_16.out.below hb)
  have X_17 := Lib.hid (X_16.out.below hb)
  have G_17 := Lib.hid (G_16.out.below hb)
  have RX_17 := Lib.hid (RX_16.out.below hb)
  have RQ_17 := Lib.hid (RQ_16.out.below hb)
  have RG_17 := Lib.hid (RG_16.out.below hb)
  clear hb lG cG0 cG1 A_16 RW_16 W_16 X_16 G_16 RX_16 RQ_16 RG_16 HB16
  have lA := A_17.out.1
  have cA0 := A_17.out.at 0 rfl
  have cA1 := A_17.out.at 1 rfl
  have cA2 := A_17.out.at 2 rfl
  have cA3 := A_17.out.at 3 rfl
  have HSk := Lib.hid (HS0.out.below HB17.out); have HQk := Lib.hid (HQ0.out.below HB17.out)
  go_wp2_with fail
  refine (toArena_any _ _ _ _ _ _ f _ HSk.out hbig).mono ?_
  rintro e w18 ⟨u18, c18, rfl, ho, hb, hc18, hcm18, hn18⟩
  have HB18 : Hid (Below w.heap.size w w18) := thru0 HB17.out hb
  have z18 : w17.heap.size ≤ w18.heap.size := hb.size
  have A_18 := Lib.hid (A_17.out.below hb)
  have RW_18 := Lib.hid (RW_17.out.below hb)
  have W_18 := Lib.hid (W_17.out.below hb)
  have X_18 := Lib.hid (X_17.out.below hb)
  have G_18 := Lib.hid (G_17.out.below hb)
  have RX_18 := Lib.hid (RX_17.out.below hb)
  have RQ_18 := Lib.hid (RQ_17.out.below hb)
  have RG_18 := Lib.hid (RG_17.out.below hb)
  have HS_18 := Lib.hid (HSk.out.below hb)
  have HQ_18 := Lib.hid (HQk.out.below hb)
  have RT_18 : Hid (OwnIn w18 (w17.heap.size) w18.heap.size u18 n f) := ho.into
  clear hb lA cA0 cA1 cA2 cA3 A_17 RW_17 W_17 X_17 G_17 RX_17 RQ_17 RG_17 HSk HQk HB17 ho
  go_wp2_with fail
  refine (toInts_any _ _ _ (lf roots) _ HQ_18.out hrb).mono ?_
  rintro e w19 ⟨u19, c19, rfl, ho, hb, hc19, hcm19, hn19⟩
  have HB19 : Hid (Below w.heap.size w w19) := thru0 HB18.out hb
  have z19 : w18.heap.size ≤ w19.heap.size := hb.size
  have A_19 := Lib.hid (A_18.out.below hb)
  have RW_19 := Lib.hid (RW_18.out.below hb)
  have W_19 := Lib.hid (W_18.out.below hb)
  have X_19 := Lib.hid (X_18.out.below hb)
  have G_19 := Lib.hid (G_18.out.below hb)
  have RX_19 := Lib.hid (RX_18.out.below hb)
  have RQ_19 := Lib.hid (RQ_18.out.below hb)
  have RG_19 := Lib.hid (RG_18.out.below hb)
  have HS_19 := Lib.hid (HS_18.out.below hb)
  have HQ_19 := Lib.hid (HQ_18.out.below hb)
  have RT_19 := Lib.hid (RT_18.out.below hb)
  have QT_19 : Hid (OwnIn w19 (w18.heap.size) w19.heap.size u19 roots.length (lf roots)) := ho.into
  clear hb A_18 RW_18 W_18 X_18 G_18 RX_18 RQ_18 RG_18 HS_18 HQ_18 RT_18 HB18 ho
  go_wp2_with fail
  refine (HIM.out _ _ _ _ _ RT_19.out.src hc18 hcm18 QT_19.out.src).mono ?_
  rintro e w20 ⟨u20, c20, rfl, ho, hb⟩
  have HB20 : Hid (Below w.heap.size w w20) := thru0 HB19.out hb
  have z20 : w19.heap.size ≤ w20.heap.size := hb.size
  have A_20 := Lib.hid (A_19.out.below hb)
  have RW_20 := Lib.hid (RW_19.out.below hb)
  have W_20 := Lib.hid (W_19.out.below hb)
  have X_20 := Lib.hid (X_19.out.below hb)
  have G_20 := Lib.hid (G_19.out.below hb)
  have RX_20 := Lib.hid (RX_19.out.below hb)
  have RQ_20 := Lib.hid (RQ_19.out.below hb)
  have RG_20 := Lib.hid (RG_19.out.below hb)
  have HS_20 := Lib.hid (HS_19.out.below hb)
  have HQ_20 := Lib.hid (HQ_19.out.below hb)
  have RT_20 := Lib.hid (RT_19.out.below hb)
  have QT_20 := Lib.hid (QT_19.out.below hb)
  have RH_20 : Hid (OwnIn w20 (w19.heap.size) w20.heap.size u20 n1 f1) := ho.into
  clear hb A_19 RW_19 W_19 X_19 G_19 RX_19 RQ_19 RG_19 HS_19 HQ_19 RT_19 QT_19 HB19 ho
  clear RT_20 QT_20
  have lW := W_20.out.1
  have cW0 := W_20.out.at 0 rfl
  have cW1 := W_20.out.at 1 rfl
  have lG := G_20.out.1
  have cG0 := G_20.out.at 0 rfl
  have cG1 := G_20.out.at 1 rfl
  go_wp2_with fail
  refine (eqIR_same _ _ _ _ _ _ f1 f1 _ (RH_20.out.alloc _).src (RW_20.out.alloc _).src hn1 (fun _ _ => rfl)).mono ?_
  rintro e w21 ⟨rfl, hb⟩
  have HB21 : Hid (Below w.heap.size w w21) := thru1 HB20.out hb
  have z21 : w20.heap.size + 1 ≤ w21.heap.size := by have := hb.size; simp at this; omega
  have A_21 := Lib.hid ((A_20.out.alloc _).below hb)
  have RW_21 := Lib.hid ((RW_20.out.alloc _).below hb)
  have W_21 := Lib.hid ((W_20.out.alloc _).below hb)
  have X_21 := Lib.hid ((X_20.out.alloc _).below hb)
  have G_21 := Lib.hid ((G_20.out.alloc _).below hb)
  have RX_21 := Lib.hid ((RX_20.out.alloc _).below hb)
  have RQ_21 := Lib.hid ((RQ_20.out.alloc _).below hb)
  have RG_21 := Lib.hid ((RG_20.out.alloc _).below hb)
  have HS_21 := Lib.hid ((HS_20.out.alloc _).below hb)
  have HQ_21 := Lib.hid ((HQ_20.out.alloc _).below hb)
  have RH_21 := Lib.hid ((RH_20.out.alloc _).below hb)
  clear hb lW cW0 cW1 lG cG0 cG1 A_20 RW_20 W_20 X_20 G_20 RX_20 RQ_20 RG_20 HS_20 HQ_20 RH_20 HB20
  have lG := G_21.out.1
  have cG0 := G_21.out.at 0 rfl
  have cG1 := G_21.out.at 1 rfl
  go_wp2_with fail
  refine (heldIR_any _ _ _ _ 1 _ RG_21.out.src hn1 (by omega) (by omega)).mono ?_
  rintro e w22 ⟨rfl, hb⟩
  have HB22 : Hid (Below w.heap.size w w22) := thru0 HB21.out hb
  have z22 : w21.heap.size ≤ w22.heap.size := hb.size
  have A_22 := Lib.hid (A_21.out.below hb)
  have RW_22 := Lib.hid (RW_21.out.below hb)
  have W_22 := Lib.hid (W_21.out.below hb)
  have X_22 := Lib.hid (X_21.out.below hb)
  have G_22 := Lib.hid (G_21.out.below hb)
  have RX_22 := Lib.hid (RX_21.out.below hb)
  have RQ_22 := Lib.hid (RQ_21.out.below hb)
  have RG_22 := Lib.hid (RG_21.out.below hb)
  have HS_22 := Lib.hid (HS_21.out.below hb)
  have HQ_22 := Lib.hid (HQ_21.out.below hb)
  have RH_22 := Lib.hid (RH_21.out.below hb)
  clear hb lG cG0 cG1 A_21 RW_21 W_21 X_21 G_21 RX_21 RQ_21 RG_21 HS_21 HQ_21 RH_21 HB21
  go_wp2
  go_ret
  exact ⟨rfl, HB22.out⟩

theorem e7_any (h ac bu : Int) (a : Option Addr) (n c : Nat) (f : Nat → Int) (ra : Option Addr) (rn rc : Nat) (rf : Nat → Int) (m : Int) (w : World) (hs : Src w a n f) (hn : n ≤ maxLen) (hq : Src w ra rn rf) (hqn : rn ≤ maxLen) : Calls Try.prog 7 #[.agg #[.int .i64 h, .slice a n c, .int .i64 ac, .int .i64 bu], .slice ra rn rc, .int .i64 m] w (RetBool w true) := by
  obtain ⟨roots, rfl, hq'⟩ := src_list hq
  by_cases hr : roots.length ≤ 1048576
  · by_cases hb : n ≤ 1048576
    · exact e7_near h ac bu a n c f ra roots rc m w hs hq' hb hr
    · exact e7_farA h ac bu a n c f ra roots rc m w hn (by omega) hr
  · exact e7_farR h ac bu a n c f ra roots rc m w (by omega)
end Go.Proofs.Ytnacdhnnpddccaa

namespace Go.Proofs.Ytnacdhnnpddccaa
open Go.RowKit
set_option linter.unusedVariables false

set_option maxRecDepth 100000 in
set_option maxHeartbeats 800000 in
theorem e8_farA (h ac bu : Int) (a : Option Addr) (n c : Nat) (f : Nat → Int) (ra : Option Addr) (roots : List Int) (rc : Nat) (m : Int) (w : World) (hn : n ≤ maxLen) (hbig : 1048576 < n) (hrb : roots.length ≤ 1048576) :
    Calls Try.prog 8 #[.agg #[.int .i64 h, .slice a n c, .int .i64 ac, .int .i64 bu], .slice ra roots.length rc, .int .i64 m] w (RetBool w true) := by
  have hrd : ¬ (1048576 : Int) < (roots.length : Int) := by omega
  go_enter Try.func8, Try.ntmps8
  go_wp2_with (go_at_call 15; (with_reducible refine (szArena_no _ _ _ _ _ _ _ _ (by omega) (by omega) hn (by omega)).mono ?_); rintro e w1 ⟨rfl, hb⟩; obtain ⟨hc, hf⟩ := bcell hb; have HB := Lib.hid hb; have hz := hb.size; clear hb)
  go_ret
  exact ⟨rfl, ((Below.refl _ _).alloc (Nat.le_refl _) _).trans (HB.out.mono (by simp; try omega))⟩

set_option maxRecDepth 100000 in
set_option maxHeartbeats 400000 in
theorem e8_farR (h ac bu : Int) (a : Option Addr) (n c : Nat) (f : Nat → Int) (ra : Option Addr) (roots : List Int) (rc : Nat) (m : Int) (w : World) (hrb : 1048576 < roots.length) :
    Calls Try.prog 8 #[.agg #[.int .i64 h, .slice a n c, .int .i64 ac, .int .i64 bu], .slice ra roots.length rc, .int .i64 m] w (RetBool w true) := by
  have hrd : (1048576 : Int) < (roots.length : Int) := by omega
  go_enter Try.func8, Try.ntmps8
  go_wp2
  go_ret
  exact ⟨rfl, (Below.refl _ _).alloc (Nat.le_refl _) _⟩

set_option maxRecDepth 100000 in
set_option maxHeartbeats 6400000 in
theorem e8_near (h ac bu : Int) (a : Option Addr) (n c : Nat) (f : Nat → Int) (ra : Option Addr) (roots : List Int) (rc : Nat) (m : Int) (w : World) (hs : Src w a n f) (hq : Src w ra roots.length (lf roots)) (hbig : n ≤ 1048576) (hrb : roots.length ≤ 1048576) :
    Calls Try.prog 8 #[.agg #[.int .i64 h, .slice a n c, .int .i64 ac, .int .i64 bu], .slice ra roots.length rc, .int .i64 m] w (RetBool w true) := by
  obtain ⟨co, n1, f1, hbo⟩ := both_ba h n f ac bu roots m
  have hn1 : n1 ≤ 1048576 := hbo.1
  have HSP := Lib.hid hbo.2.1; have HIM := Lib.hid hbo.2.2
  have hrd : ¬ (1048576 : Int) < (roots.length : Int) := by omega
  clear hbo
  have HS := Lib.hid hs
  have HQ := Lib.hid hq
  clear hs hq
  have HS0 := HS; have HQ0 := HQ
  go_enter Try.func8, Try.ntmps8
  go_wp2_with fail
  refine (szArena_ok _ _ _ _ _ _ _ _ (by omega) (by omega) (by unfold maxLen; omega) (by omega)).mono ?_
  rintro e w1 ⟨rfl, hb⟩
  have HB1 : Hid (Below w.heap.size w w1) := thru1 (Below.refl _ _) hb
  have z1 : w.heap.size + 1 ≤ w1.heap.size := by have := hb.size; simp at this; omega
  have HS_1 := Lib.hid ((HS.out.alloc _).below hb)
  have HQ_1 := Lib.hid ((HQ.out.alloc _).below hb)
  have A_1 := Lib.hid ((Blk.new_at (w.heap.size) (by simp)).below hb)
  clear hb HS HQ
  have lA := A_1.out.1
  have cA0 := A_1.out.at 0 rfl
  have cA1 := A_1.out.at 1 rfl
  have cA2 := A_1.out.at 2 rfl
  have cA3 := A_1.out.at 3 rfl
  go_wp2_with fail
  refine (toArena_any _ _ _ _ _ _ f _ HS_1.out hbig).mono ?_
  rintro e w2 ⟨u2, c2, rfl, ho, hb, hc2, hcm2, hn2⟩
  have HB2 : Hid (Below w.heap.size w w2) := thru0 HB1.out hb
  have z2 : w1.heap.size ≤ w2.heap.size := hb.size
  have HS_2 := Lib.hid (HS_1.out.below hb)
  have HQ_2 := Lib.hid (HQ_1.out.below hb)
  have A_2 := Lib.hid (A_1.out.below hb)
  have RA_2 : Hid (OwnIn w2 (w1.heap.size) w2.heap.size u2 n f) := ho.into
  clear hb lA cA0 cA1 cA2 cA3 HS_1 HQ_1 A_1 HB1 ho
  go_wp2_with fail
  refine (toInts_any _ _ _ (lf roots) _ HQ_2.out hrb).mono ?_
  rintro e w3 ⟨u3, c3, rfl, ho, hb, hc3, hcm3, hn3⟩
  have HB3 : Hid (Below w.heap.size w w3) := thru0 HB2.out hb
  have z3 : w2.heap.size ≤ w3.heap.size := hb.size
  have HS_3 := Lib.hid (HS_2.out.below hb)
  have HQ_3 := Lib.hid (HQ_2.out.below hb)
  have A_3 := Lib.hid (A_2.out.below hb)
  have RA_3 := Lib.hid (RA_2.out.below hb)
  have QA_3 : Hid (OwnIn w3 (w2.heap.size) w3.heap.size u3 roots.length (lf roots)) := ho.into
  clear hb HS_2 HQ_2 A_2 RA_2 HB2 ho
  go_wp2_with fail
  refine (HSP.out _ _ _ _ _ RA_3.out.src hc2 hcm2 QA_3.out.src).mono ?_
  rintro e w4 ⟨u4, c4, rfl, ho, hb⟩
  have HB4 : Hid (Below w.heap.size w w4) := thru0 HB3.out hb
  have z4 : w3.heap.size ≤ w4.heap.size := hb.size
  have HS_4 := Lib.hid (HS_3.out.below hb)
  have HQ_4 := Lib.hid (HQ_3.out.below hb)
  have A_4 := Lib.hid (A_3.out.below hb)
  have RA_4 := Lib.hid (RA_3.out.below hb)
  have QA_4 := Lib.hid (QA_3.out.below hb)
  have RW_4 : Hid (OwnIn w4 (w3.heap.size) w4.heap.size u4 n1 f1) := ho.into
  clear hb HS_3 HQ_3 A_3 RA_3 QA_3 HB3 ho
  clear RA_4 QA_4
  have lA := A_4.out.1
  have cA0 := A_4.out.at 0 rfl
  have cA1 := A_4.out.at 1 rfl
  have cA2 := A_4.out.at 2 rfl
  have cA3 := A_4.out.at 3 rfl
  go_wp2_with fail
  refine (toArena_any _ _ _ _ _ _ f _ (HS_4.out.alloc _) hbig).mono ?_
  rintro e w5 ⟨u5, c5, rfl, ho, hb, hc5, hcm5, hn5⟩
  have HB5 : Hid (Below w.heap.size w w5) := thru1 HB4.out hb
  have z5 : w4.heap.size + 1 ≤ w5.heap.size := by have := hb.size; simp at this; omega
  have HS_5 := Lib.hid ((HS_4.out.alloc _).below hb)
  have HQ_5 := Lib.hid ((HQ_4.out.alloc _).below hb)
  have A_5 := Lib.hid ((A_4.out.alloc _).below hb)
  have RW_5 := Lib.hid ((RW_4.out.alloc _).below hb)
  have W_5 := Lib.hid ((Blk.new_at (w4.heap.size) (by simp)).below hb)
  have RX_5 : Hid (OwnIn w5 (w4.heap.size + 1) w5.heap.size u5 n f) := (ho.mono (by simp)).into
  clear hb lA cA0 cA1 cA2 cA3 HS_4 HQ_4 A_4 RW_4 HB4 ho
  go_wp2_with fail
  refine (toInts_any _ _ _ (lf roots) _ (HQ_5.out.alloc _) hrb).mono ?_
  rintro e w6 ⟨u6, c6, rfl, ho, hb, hc6, hcm6, hn6⟩
  have HB6 : Hid (Below w.heap.size w w6) := thru1 HB5.out hb
  have z6 : w5.heap.size + 1 ≤ w6.heap.size := by have := hb.size; simp at this; omega
  have HS_6 := Lib.hid ((HS_5.out.alloc _).below hb)
  have HQ_6 := Lib.hid ((HQ_5.out.alloc _).below hb)
  have A_6 := Lib.hid ((A_5.out.alloc _).below hb)
  have RW_6 := Lib.hid ((RW_5.out.alloc _).below hb)
  have W_6 := Lib.hid ((W_5.out.alloc _).below hb)
  have RX_6 := Lib.hid ((RX_5.out.alloc _).below hb)
  have X_6 := Lib.hid ((Blk.new_at (w5.heap.size) (by simp)).below hb)
  have RQ_6 : Hid (OwnIn w6 (w5.heap.size + 1) w6.heap.size u6 roots.length (lf roots)) := (ho.mono (by simp)).into
  clear hb HS_5 HQ_5 A_5 RW_5 W_5 RX_5 HB5 ho
  have lX := X_6.out.1
  have cX0 := X_6.out.at 0 rfl
  have cX1 := X_6.out.at 1 rfl
  have cX2 := X_6.out.at 2 rfl
  have cX3 := X_6.out.at 3 rfl
  go_wp2_with fail
  refine (HIM.out _ _ _ _ _ RX_6.out.src hc5 hcm5 RQ_6.out.src).mono ?_
  rintro e w7 ⟨u7, c7, rfl, ho, hb⟩
  have HB7 : Hid (Below w.heap.size w w7) := thru0 HB6.out hb
  have z7 : w6.heap.size ≤ w7.heap.size := hb.size
  have HS_7 := Lib.hid (HS_6.out.below hb)
  have HQ_7 := Lib.hid (HQ_6.out.below hb)
  have A_7 := Lib.hid (A_6.out.below hb)
  have RW_7 := Lib.hid (RW_6.out.below hb)
  have W_7 := Lib.hid (W_6.out.below hb)
  have RX_7 := Lib.hid (RX_6.out.below hb)
  have X_7 := Lib.hid (X_6.out.below hb)
  have RQ_7 := Lib.hid (RQ_6.out.below hb)
  have RG_7 : Hid (OwnIn w7 (w6.heap.size) w7.heap.size u7 n1 f1) := ho.into
  clear hb lX cX0 cX1 cX2 cX3 HS_6 HQ_6 A_6 RW_6 W_6 RX_6 X_6 RQ_6 HB6 ho
  have lW := W_7.out.1
  have cW0 := W_7.out.at 0 rfl
  have cW1 := W_7.out.at 1 rfl
  go_wp2_with fail
  refine (eqIR_same _ _ _ _ _ _ f1 f1 _ (RG_7.out.alloc _).src (RW_7.out.alloc _).src hn1 (fun _ _ => rfl)).mono ?_
  rintro e w8 ⟨rfl, hb⟩
  have HB8 : Hid (Below w.heap.size w w8) := thru1 HB7.out hb
  have z8 : w7.heap.size + 1 ≤ w8.heap.size := by have := hb.size; simp at this; omega
  have HS_8 := Lib.hid ((HS_7.out.alloc _).below hb)
  have HQ_8 := Lib.hid ((HQ_7.out.alloc _).below hb)
  have A_8 := Lib.hid ((A_7.out.alloc _).below hb)
  have RW_8 := Lib.hid ((RW_7.out.alloc _).below hb)
  have W_8 := Lib.hid ((W_7.out.alloc _).below hb)
  have RX_8 := Lib.hid ((RX_7.out.alloc _).below hb)
  have X_8 := Lib.hid ((X_7.out.alloc _).below hb)
  have RQ_8 := Lib.hid ((RQ_7.out.alloc _).below hb)
  have RG_8 := Lib.hid ((RG_7.out.alloc _).below hb)
  have G_8 := Lib.hid ((Blk.new_at (w7.heap.size) (by simp)).below hb)
  clear hb lW cW0 cW1 HS_7 HQ_7 A_7 RW_7 W_7 RX_7 X_7 RQ_7 RG_7 HB7
  have lA := A_8.out.1
  have cA0 := A_8.out.at 0 rfl
  have cA1 := A_8.out.at 1 rfl
  have cA2 := A_8.out.at 2 rfl
  have cA3 := A_8.out.at 3 rfl
  have lX := X_8.out.1
  have cX0 := X_8.out.at 0 rfl
  have cX1 := X_8.out.at 1 rfl
  have cX2 := X_8.out.at 2 rfl
  have cX3 := X_8.out.at 3 rfl
  go_wp2_with fail
  have HS_8d := Lib.hid HS_8.out.drew
  have HQ_8d := Lib.hid HQ_8.out.drew
  have A_8d := Lib.hid A_8.out.drew
  have RW_8d := Lib.hid RW_8.out.drew
  have W_8d := Lib.hid W_8.out.drew
  have RX_8d := Lib.hid RX_8.out.drew
  have X_8d := Lib.hid X_8.out.drew
  have RQ_8d := Lib.hid RQ_8.out.drew
  have RG_8d := Lib.hid RG_8.out.drew
  have G_8d := Lib.hid G_8.out.drew
  have HB8d := Lib.hid HB8.out.drew
  go_region_held3 (fun w' => w'.cell? ⟨w.heap.size, 0, none⟩ = some (.int .i64 h) ∧ w'.cell? ⟨w.heap.size, 1, none⟩ = some (.slice a n c) ∧ w'.cell? ⟨w.heap.size, 2, none⟩ = some (.int .i64 ac) ∧ w'.cell? ⟨w.heap.size, 3, none⟩ = some (.int .i64 bu) ∧ w'.cell? ⟨w5.heap.size, 0, none⟩ = some (.int .i64 h) ∧ w'.cell? ⟨w5.heap.size, 1, none⟩ = some (.slice u5 n c5) ∧ w'.cell? ⟨w5.heap.size, 2, none⟩ = some (.int .i64 ac) ∧ w'.cell? ⟨w5.heap.size, 3, none⟩ = some (.int .i64 bu))
    (first | exact ⟨A_8d.out.at 0 rfl, A_8d.out.at 1 rfl, A_8d.out.at 2 rfl, A_8d.out.at 3 rfl, X_8d.out.at 0 rfl, X_8d.out.at 1 rfl, X_8d.out.at 2 rfl, X_8d.out.at 3 rfl⟩ | exact ⟨A_9.out.at 0 rfl, A_9.out.at 1 rfl, A_9.out.at 2 rfl, A_9.out.at 3 rfl, X_9.out.at 0 rfl, X_9.out.at 1 rfl, X_9.out.at 2 rfl, X_9.out.at 3 rfl⟩ | exact ⟨A_10.out.at 0 rfl, A_10.out.at 1 rfl, A_10.out.at 2 rfl, A_10.out.at 3 rfl, X_10.out.at 0 rfl, X_10.out.at 1 rfl, X_10.out.at 2 rfl, X_10.out.at 3 rfl⟩)
    (first | (go_at_call 17; refine (toArena_any _ _ _ _ _ _ f _ HS_8d.out hbig).mono ?_; rintro e w9 ⟨u9, c9, rfl, ho, hb, hc9, hcm9, hn9⟩; have HB9 := Lib.hid (thru0 HB8d.out hb); have z9 : w8.heap.size ≤ w9.heap.size := hb.size; have HS_9 := Lib.hid (HS_8d.out.below hb); have HQ_9 := Lib.hid (HQ_8d.out.below hb); have A_9 := Lib.hid (A_8d.out.below hb); have RW_9 := Lib.hid (RW_8d.out.below hb); have W_9 := Lib.hid (W_8d.out.below hb); have RX_9 := Lib.hid (RX_8d.out.below hb); have X_9 := Lib.hid (X_8d.out.below hb); have RQ_9 := Lib.hid (RQ_8d.out.below hb); have RG_9 := Lib.hid (RG_8d.out.below hb); have G_9 := Lib.hid (G_8d.out.below hb); have RT_9 : Hid (OwnIn w9 w8.heap.size w9.heap.size u9 n f) := ho.into; clear hb ho) | (go_at_call 20; refine (eqArena_same _ _ _ _ _ _ _ _ f f _ RX_9.out.src RT_9.out.src hbig (fun _ _ => rfl)).mono ?_; rintro e w10 ⟨rfl, hb⟩; have HB10 := Lib.hid (thru0 HB9.out hb); have z10 : w9.heap.size ≤ w10.heap.size := hb.size; have HS_10 := Lib.hid (HS_9.out.below hb); have HQ_10 := Lib.hid (HQ_9.out.below hb); have A_10 := Lib.hid (A_9.out.below hb); have RW_10 := Lib.hid (RW_9.out.below hb); have W_10 := Lib.hid (W_9.out.below hb); have RX_10 := Lib.hid (RX_9.out.below hb); have X_10 := Lib.hid (X_9.out.below hb); have RQ_10 := Lib.hid (RQ_9.out.below hb); have RG_10 := Lib.hid (RG_9.out.below hb); have G_10 := Lib.hid (G_9.out.below hb); have RT_10 := Lib.hid (RT_9.out.below hb); clear hb))

  go_wp2_with fail
  refine (toInts_any _ _ _ (lf roots) _ HQ_10.out hrb).mono ?_
  rintro e w11 ⟨u11, c11, rfl, ho, hb, hc11, hcm11, hn11⟩
  have HB11 : Hid (Below w.heap.size w w11) := thru0 HB10.out hb
  have z11 : w10.heap.size ≤ w11.heap.size := hb.size
  have HS_11 := Lib.hid (HS_10.out.below hb)
  have HQ_11 := Lib.hid (HQ_10.out.below hb)
  have A_11 := Lib.hid (A_10.out.below hb)
  have RW_11 := Lib.hid (RW_10.out.below hb)
  have W_11 := Lib.hid (W_10.out.below hb)
  have RX_11 := Lib.hid (RX_10.out.below hb)
  have X_11 := Lib.hid (X_10.out.below hb)
  have RQ_11 := Lib.hid (RQ_10.out.below hb)
  have RG_11 := Lib.hid (RG_10.out.below hb)
  have G_11 := Lib.hid (G_10.out.below hb)
  have QT_11 : Hid (OwnIn w11 (w10.heap.size) w11.heap.size u11 roots.length (lf roots)) := ho.into
  clear hb HS_10 HQ_10 A_10 RW_10 W_10 RX_10 X_10 RQ_10 RG_10 G_10 HB10 ho
  go_wp2_with fail
  refine (eqInts_same _ _ _ _ _ (lf roots) (lf roots) _ RQ_11.out.src QT_11.out.src hrb).mono ?_
  rintro e w12 ⟨hret, hb⟩
  have HB12 : Hid (Below w.heap.size w w12) := thru0 HB11.out hb
  have z12 : w11.heap.size ≤ w12.heap.size := hb.size
  have HS_12 := Lib.hid (HS_11.out.below hb)
  have HQ_12 := Lib.hid (HQ_11.out.below hb)
  have A_12 := Lib.hid (A_11.out.below hb)
  have RW_12 := Lib.hid (RW_11.out.below hb)
  have W_12 := Lib.hid (W_11.out.below hb)
  have RX_12 := Lib.hid (RX_11.out.below hb)
  have X_12 := Lib.hid (X_11.out.below hb)
  have RQ_12 := Lib.hid (RQ_11.out.below hb)
  have RG_12 := Lib.hid (RG_11.out.below hb)
  have G_12 := Lib.hid (G_11.out.below hb)
  have QT_12 := Lib.hid (QT_11.out.below hb)
  rw [eqB_yes (fun _ _ => rfl)] at hret
  subst hret
  clear hb HS_11 HQ_11 A_11 RW_11 W_11 RX_11 X_11 RQ_11 RG_11 G_11 QT_11 HB11
  clear QT_12
  have lX := X_12.out.1
  have cX0 := X_12.out.at 0 rfl
  have cX1 := X_12.out.at 1 rfl
  have cX2 := X_12.out.at 2 rfl
  have cX3 := X_12.out.at 3 rfl
  go_wp2_with fail
  clear HS_12 HQ_12
  refine (markArena_any _ _ _ _ _ _ _ _ _ _ _ RX_12.out hbig (by omega) (by omega)).mono ?_
  rintro e w13 ⟨rfl, ho, hk⟩
  have HB13 : Hid (Below w.heap.size w w13) := HB12.out.trans (hk.below (by omega) HB12.out.size)
  have z13 : w12.heap.size ≤ w13.heap.size := hk.size
  have A_13 := Lib.hid (A_12.out.keeps hk (by omega))
  have RW_13 := Lib.hid (RW_12.out.keeps hk (by omega))
  have W_13 := Lib.hid (W_12.out.keeps hk (by omega))
  have X_13 := Lib.hid (X_12.out.keeps hk (by omega))
  have RQ_13 := Lib.hid (RQ_12.out.keeps hk (by omega))
  have RG_13 := Lib.hid (RG_12.out.keeps hk (by omega))
  have G_13 := Lib.hid (G_12.out.keeps hk (by omega))
  have RX_13 : Hid (OwnIn w13 (w4.heap.size + 1) w5.heap.size u5 n (fun i => 1 + i)) := ho
  clear hk lX cX0 cX1 cX2 cX3 A_12 RW_12 W_12 RX_12 X_12 RQ_12 RG_12 G_12 HB12 ho
  go_wp2_with fail
  refine (markInts_big _ _ _ _ _ _ _ _ RQ_13.out hrb (by omega) (by omega)).mono ?_
  rintro e w14 ⟨rfl, ho, hk⟩
  have HB14 : Hid (Below w.heap.size w w14) := HB13.out.trans (hk.below (by omega) HB13.out.size)
  have z14 : w13.heap.size ≤ w14.heap.size := hk.size
  have A_14 := Lib.hid (A_13.out.keeps hk (by omega))
  have RW_14 := Lib.hid (RW_13.out.keeps hk (by omega))
  have W_14 := Lib.hid (W_13.out.keeps hk (by omega))
  have X_14 := Lib.hid (X_13.out.keeps hk (by omega))
  have RG_14 := Lib.hid (RG_13.out.keeps hk (by omega))
  have G_14 := Lib.hid (G_13.out.keeps hk (by omega))
  have RX_14 := Lib.hid (RX_13.out.keeps hk (by omega))
  have RQ_14 : Hid (OwnIn w14 (w5.heap.size + 1) w6.heap.size u6 roots.length (fun i => (1 + (n : Int)) + i)) := ho
  clear hk A_13 RW_13 W_13 X_13 RQ_13 RG_13 G_13 RX_13 HB13 ho
  have lW := W_14.out.1
  have cW0 := W_14.out.at 0 rfl
  have cW1 := W_14.out.at 1 rfl
  have lG := G_14.out.1
  have cG0 := G_14.out.at 0 rfl
  have cG1 := G_14.out.at 1 rfl
  go_wp2_with fail
  refine (eqIR_same _ _ _ _ _ _ f1 f1 _ RG_14.out.src RW_14.out.src hn1 (fun _ _ => rfl)).mono ?_
  rintro e w15 ⟨rfl, hb⟩
  have HB15 : Hid (Below w.heap.size w w15) := thru0 HB14.out hb
  have z15 : w14.heap.size ≤ w15.heap.size := hb.size
  have A_15 := Lib.hid (A_14.out.below hb)
  have RW_15 := Lib.hid (RW_14.out.below hb)
  have W_15 := Lib.hid (W_14.out.below hb)
  have X_15 := Lib.hid (X_14.out.below hb)
  have RG_15 := Lib.hid (RG_14.out.below hb)
  have G_15 := Lib.hid (G_14.out.below hb)
  have RX_15 := Lib.hid (RX_14.out.below hb)
  have RQ_15 := Lib.hid (RQ_14.out.below hb)
  clear hb lW cW0 cW1 lG cG0 cG1 A_14 RW_14 W_14 X_14 RG_14 G_14 RX_14 RQ_14 HB14
  have lG := G_15.out.1
  have cG0 := G_15.out.at 0 rfl
  have cG1 := G_15.out.at 1 rfl
  go_wp2_with fail
  refine (markIR_any _ _ _ _ _ _ _ _ _ RG_15.out hn1 (by omega) (by omega)).mono ?_
  rintro e w16 ⟨rfl, ho, hk⟩
  have HB16 : Hid (Below w.heap.size w w16) := HB15.out.trans (hk.below (by omega) HB15.out.size)
  have z16 : w15.heap.size ≤ w16.heap.size := hk.size
  have A_16 := Lib.hid (A_15.out.keeps hk (by omega))
  have RW_16 := Lib.hid (RW_15.out.keeps hk (by omega))
  have W_16 := Lib.hid (W_15.out.keeps hk (by omega))
  have X_16 := Lib.hid (X_15.out.keeps hk (by omega))
  have G_16 := Lib.hid (G_15.out.keeps hk (by omega))
  have RX_16 := Lib.hid (RX_15.out.keeps hk (by omega))
  have RQ_16 := Lib.hid (RQ_15.out.keeps hk (by omega))
  have RG_16 : Hid (OwnIn w16 (w6.heap.size) w7.heap.size u7 n1 (fun i => 1 + i)) := ho
  clear hk lG cG0 cG1 A_15 RW_15 W_15 X_15 RG_15 G_15 RX_15 RQ_15 HB15 ho
  have lG := G_16.out.1
  have cG0 := G_16.out.at 0 rfl
  have cG1 := G_16.out.at 1 rfl
  go_wp2_with fail
  refine (heldIR_any _ _ _ _ 1 _ RG_16.out.src hn1 (by omega) (by omega)).mono ?_
  rintro e w17 ⟨rfl, hb⟩
  have HB17 : Hid (Below w.heap.size w w17) := thru0 HB16.out hb
  have z17 : w16.heap.size ≤ w17.heap.size := hb.size
  have A_17 := Lib.hid (A_16.out.below hb)
  have RW_17 := Lib.hid (RW_16.out.below hb)
  have W_17 := Lib.hid (W_16.out.below hb)
  have X_17 := Lib.hid (X_16.out.below hb)
  have G_17 := Lib.hid (G_16.out.below hb)
  have RX_17 := Lib.hid (RX_16.out.below hb)
  have RQ_17 := Lib.hid (RQ_16.out.below hb)
  have RG_17 := Lib.hid (RG_16.out.below hb)
  clear hb lG cG0 cG1 A_16 RW_16 W_16 X_16 G_16 RX_16 RQ_16 RG_16 HB16
  have lA := A_17.out.1
  have cA0 := A_17.out.at 0 rfl
  have cA1 := A_17.out.at 1 rfl
  have cA2 := A_17.out.at 2 rfl
  have cA3 := A_17.out.at 3 rfl
  have HSk := Lib.hid (HS0.out.below HB17.out); have HQk := Lib.hid (HQ0.out.below HB17.out)
  go_wp2_with fail
  refine (toArena_any _ _ _ _ _ _ f _ HSk.out hbig).mono ?_
  rintro e w18 ⟨u18, c18, rfl, ho, hb, hc18, hcm18, hn18⟩
  have HB18 : Hid (Below w.heap.size w w18) := thru0 HB17.out hb
  have z18 : w17.heap.size ≤ w18.heap.size := hb.size
  have A_18 := Lib.hid (A_17.out.below hb)
  have RW_18 := Lib.hid (RW_17.out.below hb)
  have W_18 := Lib.hid (W_17.out.below hb)
  have X_18 := Lib.hid (X_17.out.below hb)
  have G_18 := Lib.hid (G_17.out.below hb)
  have RX_18 := Lib.hid (RX_17.out.below hb)
  have RQ_18 := Lib.hid (RQ_17.out.below hb)
  have RG_18 := Lib.hid (RG_17.out.below hb)
  have HS_18 := Lib.hid (HSk.out.below hb)
  have HQ_18 := Lib.hid (HQk.out.below hb)
  have RT_18 : Hid (OwnIn w18 (w17.heap.size) w18.heap.size u18 n f) := ho.into
  clear hb lA cA0 cA1 cA2 cA3 A_17 RW_17 W_17 X_17 G_17 RX_17 RQ_17 RG_17 HSk HQk HB17 ho
  go_wp2_with fail
  refine (toInts_any _ _ _ (lf roots) _ HQ_18.out hrb).mono ?_
  rintro e w19 ⟨u19, c19, rfl, ho, hb, hc19, hcm19, hn19⟩
  have HB19 : Hid (Below w.heap.size w w19) := thru0 HB18.out hb
  have z19 : w18.heap.size ≤ w19.heap.size := hb.size
  have A_19 := Lib.hid (A_18.out.below hb)
  have RW_19 := Lib.hid (RW_18.out.below hb)
  have W_19 := Lib.hid (W_18.out.below hb)
  have X_19 := Lib.hid (X_18.out.below hb)
  have G_19 := Lib.hid (G_18.out.below hb)
  have RX_19 := Lib.hid (RX_18.out.below hb)
  have RQ_19 := Lib.hid (RQ_18.out.below hb)
  have RG_19 := Lib.hid (RG_18.out.below hb)
  have HS_19 := Lib.hid (HS_18.out.below hb)
  have HQ_19 := Lib.hid (HQ_18.out.below hb)
  have RT_19 := Lib.hid (RT_18.out.below hb)
  have QT_19 : Hid (OwnIn w19 (w18.heap.size) w19.heap.size u19 roots.length (lf roots)) := ho.into
  clear hb A_18 RW_18 W_18 X_18 G_18 RX_18 RQ_18 RG_18 HS_18 HQ_18 RT_18 HB18 ho
  go_wp2_with fail
  refine (HIM.out _ _ _ _ _ RT_19.out.src hc18 hcm18 QT_19.out.src).mono ?_
  rintro e w20 ⟨u20, c20, rfl, ho, hb⟩
  have HB20 : Hid (Below w.heap.size w w20) := thru0 HB19.out hb
  have z20 : w19.heap.size ≤ w20.heap.size := hb.size
  have A_20 := Lib.hid (A_19.out.below hb)
  have RW_20 := Lib.hid (RW_19.out.below hb)
  have W_20 := Lib.hid (W_19.out.below hb)
  have X_20 := Lib.hid (X_19.out.below hb)
  have G_20 := Lib.hid (G_19.out.below hb)
  have RX_20 := Lib.hid (RX_19.out.below hb)
  have RQ_20 := Lib.hid (RQ_19.out.below hb)
  have RG_20 := Lib.hid (RG_19.out.below hb)
  have HS_20 := Lib.hid (HS_19.out.below hb)
  have HQ_20 := Lib.hid (HQ_19.out.below hb)
  have RT_20 := Lib.hid (RT_19.out.below hb)
  have QT_20 := Lib.hid (QT_19.out.below hb)
  have RH_20 : Hid (OwnIn w20 (w19.heap.size) w20.heap.size u20 n1 f1) := ho.into
  clear hb A_19 RW_19 W_19 X_19 G_19 RX_19 RQ_19 RG_19 HS_19 HQ_19 RT_19 QT_19 HB19 ho
  clear RT_20 QT_20
  have lW := W_20.out.1
  have cW0 := W_20.out.at 0 rfl
  have cW1 := W_20.out.at 1 rfl
  have lG := G_20.out.1
  have cG0 := G_20.out.at 0 rfl
  have cG1 := G_20.out.at 1 rfl
  go_wp2_with fail
  refine (eqIR_same _ _ _ _ _ _ f1 f1 _ (RH_20.out.alloc _).src (RW_20.out.alloc _).src hn1 (fun _ _ => rfl)).mono ?_
  rintro e w21 ⟨rfl, hb⟩
  have HB21 : Hid (Below w.heap.size w w21) := thru1 HB20.out hb
  have z21 : w20.heap.size + 1 ≤ w21.heap.size := by have := hb.size; simp at this; omega
  have A_21 := Lib.hid ((A_20.out.alloc _).below hb)
  have RW_21 := Lib.hid ((RW_20.out.alloc _).below hb)
  have W_21 := Lib.hid ((W_20.out.alloc _).below hb)
  have X_21 := Lib.hid ((X_20.out.alloc _).below hb)
  have G_21 := Lib.hid ((G_20.out.alloc _).below hb)
  have RX_21 := Lib.hid ((RX_20.out.alloc _).below hb)
  have RQ_21 := Lib.hid ((RQ_20.out.alloc _).below hb)
  have RG_21 := Lib.hid ((RG_20.out.alloc _).below hb)
  have HS_21 := Lib.hid ((HS_20.out.alloc _).below hb)
  have HQ_21 := Lib.hid ((HQ_20.out.alloc _).below hb)
  have RH_21 := Lib.hid ((RH_20.out.alloc _).below hb)
  clear hb lW cW0 cW1 lG cG0 cG1 A_20 RW_20 W_20 X_20 G_20 RX_20 RQ_20 RG_20 HS_20 HQ_20 RH_20 HB20
  have lG := G_21.out.1
  have cG0 := G_21.out.at 0 rfl
  have cG1 := G_21.out.at 1 rfl
  go_wp2_with fail
  refine (heldIR_any _ _ _ _ 1 _ RG_21.out.src hn1 (by omega) (by omega)).mono ?_
  rintro e w22 ⟨rfl, hb⟩
  have HB22 : Hid (Below w.heap.size w w22) := thru0 HB21.out hb
  have z22 : w21.heap.size ≤ w22.heap.size := hb.size
  have A_22 := Lib.hid (A_21.out.below hb)
  have RW_22 := Lib.hid (RW_21.out.below hb)
  have W_22 := Lib.hid (W_21.out.below hb)
  have X_22 := Lib.hid (X_21.out.below hb)
  have G_22 := Lib.hid (G_21.out.below hb)
  have RX_22 := Lib.hid (RX_21.out.below hb)
  have RQ_22 := Lib.hid (RQ_21.out.below hb)
  have RG_22 := Lib.hid (RG_21.out.below hb)
  have HS_22 := Lib.hid (HS_21.out.below hb)
  have HQ_22 := Lib.hid (HQ_21.out.below hb)
  have RH_22 := Lib.hid (RH_21.out.below hb)
  clear hb lG cG0 cG1 A_21 RW_21 W_21 X_21 G_21 RX_21 RQ_21 RG_21 HS_21 HQ_21 RH_21 HB21
  go_wp2
  go_ret
  exact ⟨rfl, HB22.out⟩

theorem e8_any (h ac bu : Int) (a : Option Addr) (n c : Nat) (f : Nat → Int) (ra : Option Addr) (rn rc : Nat) (rf : Nat → Int) (m : Int) (w : World) (hs : Src w a n f) (hn : n ≤ maxLen) (hq : Src w ra rn rf) (hqn : rn ≤ maxLen) : Calls Try.prog 8 #[.agg #[.int .i64 h, .slice a n c, .int .i64 ac, .int .i64 bu], .slice ra rn rc, .int .i64 m] w (RetBool w true) := by
  obtain ⟨roots, rfl, hq'⟩ := src_list hq
  by_cases hr : roots.length ≤ 1048576
  · by_cases hb : n ≤ 1048576
    · exact e8_near h ac bu a n c f ra roots rc m w hs hq' hb hr
    · exact e8_farA h ac bu a n c f ra roots rc m w hn (by omega) hr
  · exact e8_farR h ac bu a n c f ra roots rc m w (by omega)
end Go.Proofs.Ytnacdhnnpddccaa

