/- Texts merged: HB1 to LII. -/
import Derived.Test.YtnpklnpicelcmaaDoorPU4
namespace Go.Proofs.YtnpklnpicelcmaaDoor
open Go.RowKit
set_option linter.unusedVariables false
attribute [local go_sem] opH

set_option maxRecDepth 100000 in
set_option maxHeartbeats 3200000 in
theorem specHb_any (h ac bu : Int) (a : Option Addr) (n c : Nat) (f : Nat → Int) (ta : Option Addr) (N tc : Nat) (T : Nat → TN) (k : Int) (K : Nat) (U : Nat → Int) (w : World) (hs : Src w a n f) (hcn : n ≤ c) (hcm : c ≤ maxLen) (ht : TV w ta N T) (hN : N ≤ maxLen) (hn : ∀ i, i < N → (T i).n ≤ maxLen)
    (hr : ∀ i, i < N → ∀ j, j < (T i).n → -9223372036854775808 ≤ ((T i).S j).nd ∧ ((T i).S j).nd ≤ 9223372036854775807) (hk : IsHb h n f ac bu N T k K U) :
    Calls Tryd.prog 7 #[.agg #[.int .i64 h, .slice a n c, .int .i64 ac, .int .i64 bu, .slice ta N tc]] w (RetIsR w k K U) := by
  obtain ⟨i0, hif, hz0, hz1, hz2⟩ := info_parts Tryd.info2
  have S0 := Lib.hid hs; have T0 := Lib.hid ht; have HN := Lib.hid hn; have HR := Lib.hid hr; have HCM := Lib.hid hcm
  have B_0 := Lib.hid ((Blk.new_at (w := w) (cs := #[.int .i64 h, .slice a n c, .int .i64 ac, .int .i64 bu, .slice ta N tc]) (t := 35) w.heap.size rfl).alloc (.cells #[.int .i64 0, .slice none 0 0] 30))
  have R_0 := Lib.hid (Blk.new_at (w := w.alloc (.cells #[.int .i64 h, .slice a n c, .int .i64 ac, .int .i64 bu, .slice ta N tc] 35)) (cs := #[.int .i64 0, .slice none 0 0]) (t := 30) (w.heap.size + 1) (by simp))
  have HB0 : Hid (Below w.heap.size w ((w.alloc (.cells #[.int .i64 h, .slice a n c, .int .i64 ac, .int .i64 bu, .slice ta N tc] 35)).alloc (.cells #[.int .i64 0, .slice none 0 0] 30))) := ((Below.refl _ _).alloc (Nat.le_refl _) _).alloc (by simp) _
  have z0 : w.heap.size + 2 ≤ ((w.alloc (.cells #[.int .i64 h, .slice a n c, .int .i64 ac, .int .i64 bu, .slice ta N tc] 35)).alloc (.cells #[.int .i64 0, .slice none 0 0] 30)).heap.size := by simp
  have b0 := B_0.out.at 0 rfl; have b1 := B_0.out.at 1 rfl; have b2 := B_0.out.at 2 rfl; have b3 := B_0.out.at 3 rfl; have b4 := B_0.out.at 4 rfl; have lB := B_0.out.1
  have HKF : Hid (IsHpF h n f ac bu N T k) := Lib.hid (by
    rcases hk with ⟨_, h1, _⟩ | ⟨h0, h1, _⟩
    · exact h1
    · rw [h0]; exact h1)
  clear hs ht hn hr hcm
  go_enter Tryd.func7, Tryd.ntmps7
  go_wp2_with fail
  generalize ((w.alloc (.cells #[.int .i64 h, .slice a n c, .int .i64 ac, .int .i64 bu, .slice ta N tc] 35)).alloc (.cells #[.int .i64 0, .slice none 0 0] 30)) = w0 at *
  refine (specHpF_any h ac bu a n c f ta N tc T k _ (S0.out.below HB0.out) hcn HCM.out (T0.out.below HB0.out) hN HN.out HR.out HKF.out).mono ?_
  rintro e w1 ⟨rfl, hb⟩
  have HB1 := Lib.hid (thru0 HB0.out hb); have B_1 := Lib.hid (B_0.out.below hb); have R_1 := Lib.hid (R_0.out.below hb)
  have z1 := hb.size
  clear hb b0 b1 b2 b3 b4 lB B_0 R_0 HB0
  rcases hk with ⟨h0, -, rfl⟩ | ⟨rfl, -, L, h1, h2, h3, rfl, rfl⟩
  · have hq : (k != 0) = true := by simp [h0]
    have c0 := R_1.out.at 0 rfl; have c1 := R_1.out.at 1 rfl; have f0 := R_1.out.free 0 rfl; have f1 := R_1.out.free 1 rfl; have lR := R_1.out.1
    clear h0
    go_wp2
    refine bodyPost_ret (v := .agg #[.int .i64 k, .slice none 0 0]) (by simp [results, Tryd.results7, go_sem, c0, c1, World.cell?_setCell_other, World.cell?_setCell_same']) rfl ⟨none, 0, rfl, .inl rfl, ?_⟩
    repeat (first | (with_reducible refine Below.setCell ?_ (by (try simp); (try omega)) _) | (with_reducible refine Below.alloc ?_ (by (try simp); (try omega)) _))
    exact HB1.out
  · have HPO := Lib.hid (hpOk_of h3)
    have HQA := Lib.hid (hpF_quota h3)
    have HOI := Lib.hid h2
    have HPT := Lib.hid ((isSF_shape h1 h2).1)
    have hN4 := HPO.out.n.2
    have lB := B_1.out.1; have b4 := B_1.out.at 4 rfl
    clear h1 h2 h3
    go_wp2_with fail
    refine (l3Objs_any w.heap.size h ac bu a n c f L _ (blk_pre4 B_1.out) (S0.out.below HB1.out) hcn HCM.out HOI.out).mono ?_
    rintro e w2 ⟨hb, v, M, rfl, rfl, hm⟩
    have HB2 := Lib.hid (thru0 HB1.out hb); have B_2 := Lib.hid (B_1.out.below hb); have R_2 := Lib.hid (R_1.out.below hb)
    have HM2 := Lib.hid hm
    have z2 := hb.size
    clear hb hm lB b4 B_1 R_1 HB1
    have lB := B_2.out.1; have b4 := B_2.out.at 4 rfl
    have X_3 := Lib.hid (Blk.new_at (w := w2) (cs := #[.int .i64 0, .slice none 0 0]) (t := 30) w2.heap.size rfl)
    have B_3 := Lib.hid (B_2.out.alloc (.cells #[.int .i64 0, .slice none 0 0] 30)); have R_3 := Lib.hid (R_2.out.alloc (.cells #[.int .i64 0, .slice none 0 0] 30))
    have HB3 := Lib.hid (HB2.out.alloc HB2.out.size (.cells #[.int .i64 0, .slice none 0 0] 30))
    have HM3 : Hid (∀ w', Below w2.heap.size (w2.alloc (.cells #[.int .i64 0, .slice none 0 0] 30)) w' → OMS w' w1.heap.size w1.heap.size f v M) := Lib.hid (fun w' hb => HM2.out.below (((Below.refl _ _).alloc (Nat.le_refl _) _).trans hb))
    have hz3 : (w2.alloc (.cells #[.int .i64 0, .slice none 0 0] 30)).heap.size = w2.heap.size + 1 := by simp
    have HZ3 := Lib.hid hz3
    clear B_2 R_2 HB2 HM2
    go_wp2
    generalize w2.alloc (.cells #[.int .i64 0, .slice none 0 0] 30) = w3 at *
    clear lB b4
    generalize hX0 : w2.heap.size = X0 at *
    have zX : X0 + 1 ≤ w3.heap.size := by omega
    have zB : w.heap.size + 2 ≤ X0 := by omega
    clear hz3
    go_loopw [7] (fun p wr => ∃ (i : Nat) (R : List Int), i ≤ N ∧ p = .int .i64 (i : Int) ∧ R.length = i ∧ Hid (R = heldL f (M.map OM.x) T i) ∧ Hid (Keeps w3 wr X0 (X0 + 1)) ∧ Hid (∃ bv lv, Blk wr X0 [.int .i64 0, .slice bv R.length lv] ∧ wr.ownsRow w3.heap.size 2 1 (.slice bv R.length lv) R.length (nums R.length (lf R)))) (fun p _ => N - (intOf p).toNat)
    case atStart => exact ⟨0, [], Nat.zero_le _, rfl, rfl, Lib.hid rfl, Keeps.refl _ _ _, Lib.hid ⟨none, 0, X_3.out, World.ownsRow_nil _ _ _ _⟩⟩
    case round =>
      clear X_3
      obtain ⟨i, R, hi, rfl, hRl, HL, HK, HX⟩ := hrel
      have HBx : Hid (Below X0 w3 wr) := Lib.hid (HK.out.below (Nat.le_refl _) (by omega))
      have HBr := Lib.hid (HB3.out.trans (HBx.out.mono (by omega)))
      have Br := Lib.hid (B_3.out.keeps HK.out (.inl (by omega)))
      have Rr := Lib.hid (R_3.out.keeps HK.out (.inl (by omega)))
      have hzr := HK.out.size
      obtain ⟨bv, lv, hob, how⟩ := HX.out
      have OBr := Lib.hid hob; have OWr := Lib.hid how
      clear hob how HX
      have b4 := Br.out.at 4 rfl; have lB := Br.out.1
      by_cases hlt : i < N
      · have hlt' : (i : Int) < (N : Int) := by omega
        have hi0 : (0 : Int) ≤ (i : Int) := by omega
        have hR4 : R.length ≤ 4 := by omega
        have HRl := Lib.hid hRl
        clear hRl
        have HMr := Lib.hid (HM3.out wr HBx.out)
        have OKi := Lib.hid (HPO.out.t i hlt)
        have HL2 : Hid (R ++ [(heldT f (M.map OM.x) (T i) : Int)] = heldL f (M.map OM.x) T (i + 1)) := Lib.hid (by rw [heldL_snoc, ← HL.out])
        obtain ⟨y, hy⟩ : ∃ y : Int, (heldT f (M.map OM.x) (T i) : Int) = y := ⟨_, rfl⟩
        have HY := Lib.hid hy
        rw [hy] at HL2
        have HVO : Hid (∀ k, (Value.slice bv R.length lv).ownBlock = some k → w3.heap.size ≤ k) := Lib.hid (fun k hk => ownBlock_ge OWr.out hk)
        have OBd := Lib.hid OBr.out.drew; have OWd := Lib.hid (ownsRow_below OWr.out (Below.refl _ _).drew)
        have Bd := Lib.hid Br.out.drew; have HBd := Lib.hid HBr.out.drew
        have Td := Lib.hid (T0.out.below HBd.out)
        have HMd := Lib.hid (HMr.out.below (Below.refl wr.heap.size wr).drew)
        have lO := OBr.out.1; have d1 := OBr.out.at 1 rfl; have e1 := OBr.out.free 1 rfl
        clear hy HL
        go_wp2_with fail
        change Code.wp Tryd.prog (Code.region 9 #[_, opH, _, _, _, _, _, _, _] true) _ _ _
        go_region_held3 (fun _ => True)
          (exact trivial)
          (first | (go_at_call 24; refine (l7Held_any w.heap.size h ac bu a n c ta N tc T v M w1.heap.size w1.heap.size f i _ Bd.out Td.out HMd.out HPT.out hlt hN4 OKi.out).mono ?_; rw [HY.out]; rintro e w9 ⟨rfl, hb⟩; have HB9 := Lib.hid ((Below.refl wr.heap.size wr).drew.trans (hb.mono (by simp))); have OB_9 := Lib.hid (OBd.out.below hb); have OW_9 := Lib.hid (ownsRow_below OWd.out hb); have l9 := OB_9.out.1; have d91 := OB_9.out.at 1 rfl; have e91 := OB_9.out.free 1 rfl; have z9 := HB9.out.size; clear hb) | (refine step_append_lies _ rfl (.tmp 28) (.tmp 32) 22 rfl w3.heap.size 2 i0 (.int .i64 0) 1 8 Tryd.underlying22 hif hz0 hz1 hz2 rfl (by decide) (.slice bv R.length lv) R.length (nums R.length (lf R)) rfl (OW_9.out.alloc _) ⟨w9.heap.size, 0, none⟩ 1 1 [.int .i64 y] rfl rfl (news1 w9 y) (by intro u hu; simp only [List.mem_cons, List.mem_nil_iff, or_false] at hu; subst hu; rfl) (by omega) (by unfold maxLen; omega) (by omega) (by simp; omega) (w9.heap.size + 1) (by simp) ?_; intro g8 cap8 w8 hown8 hgrow8 hat8 hlt8; have T8 := Lib.hid (blk_grown (OB_9.out.alloc _) hgrow8 (fun e => by have := HVO.out _ e; omega)); have l8 := T8.out.1; have d81 := T8.out.at 1 rfl; have e81 := T8.out.free 1 rfl))
        all_goals (
          have HBY : Hid (Below w3.heap.size wr w8) := Lib.hid (((HB9.out.mono hzr).alloc (by omega) _).grown hgrow8 (by simp; omega) (fun k hk => HVO.out k hk))
          have hg8 : w3.heap.size ≤ g8 := (by rcases hat8 with he | he; exact HVO.out _ he; omega)
          have OW8 := Lib.hid (nums_one_more R y _ _ _ hown8)
          have HKF : Hid (Keeps w3 (w8.setCell ⟨X0, 1, none⟩ (.slice (some ⟨g8, 0, none⟩) (R.length + 1) cap8)) X0 (X0 + 1)) := Lib.hid ((keeps_u HK.out HBY.out (Nat.le_refl _)).trans (keeps_setCell (p := ⟨X0, 1, none⟩) (Nat.le_refl _) (Nat.lt_succ_self _) _))
          have HXF : Hid (∃ bv lv, Blk (w8.setCell ⟨X0, 1, none⟩ (.slice (some ⟨g8, 0, none⟩) (R.length + 1) cap8)) X0 [.int .i64 0, .slice bv (R ++ [y]).length lv] ∧ (w8.setCell ⟨X0, 1, none⟩ (.slice (some ⟨g8, 0, none⟩) (R.length + 1) cap8)).ownsRow w3.heap.size 2 1 (.slice bv (R ++ [y]).length lv) (R ++ [y]).length (nums (R ++ [y]).length (lf (R ++ [y])))) := Lib.hid ⟨some ⟨g8, 0, none⟩, cap8, by
              have := T8.out.set 1 (by simp) (.slice (some ⟨g8, 0, none⟩) (R.length + 1) cap8)
              rw [List.length_append]; exact this, by
              have := ownsRow_setCell_other OW8.out (a := ⟨X0, 1, none⟩) (fun e => by have e' : g8 = X0 := (by simpa [Value.ownBlock] using e); omega) (.slice (some ⟨g8, 0, none⟩) (R.length + 1) cap8)
              rw [List.length_append] at this ⊢; exact this⟩
          have hRl2 : (R ++ [y]).length = i + 1 := (by rw [List.length_append, HRl.out]; rfl)
          clear hown8 hgrow8 hat8 OW8 T8 HBY OB_9 OW_9 OBd OWd Bd HBd Td HMd HB9 l9 d91 e91 l8 d81 e81 lO d1 e1 b4 lB
          go_wp2
          go_roundw
          (case rel => first | exact ⟨i + 1, R ++ [y], by omega, by go_num, hRl2, HL2, HKF, HXF⟩ | ((repeat apply Exists.intro); exact ⟨⟨i + 1, R ++ [y], by omega, by go_num, hRl2, HL2, HKF, HXF⟩, rfl⟩))
          (case measure => simp [intOf]; omega))
      · have hlt' : ¬ (i : Int) < (N : Int) := by omega
        obtain rfl : i = N := by omega
        have HO := Lib.hid (own_of_row OWr.out)
        have hL := HL.out
        rw [hRl] at HO
        have o0 := OBr.out.at 0 rfl; have o1 := OBr.out.at 1 rfl; have lO := OBr.out.1
        have c0 := Rr.out.at 0 rfl; have c1 := Rr.out.at 1 rfl; have f0 := Rr.out.free 0 rfl; have f1 := Rr.out.free 1 rfl; have lR := Rr.out.1
        rw [hRl] at o1
        rw [hL] at HO
        clear hL HL OBr OWr
        go_wp2
        refine bodyPost_ret (v := .agg #[.int .i64 0, .slice bv i lv]) (by simp [results, Tryd.results7, go_sem, c0, c1, World.cell?_setCell_other, World.cell?_setCell_same']) rfl ⟨bv, lv, rfl, ?_, ?_⟩
        · exact own_two2 HO.out (by omega) (by omega)
        · repeat (first | (with_reducible refine Below.setCell ?_ (by (try simp); (try omega)) _) | (with_reducible refine Below.alloc ?_ (by (try simp); (try omega)) _))
          exact HBr.out
end Go.Proofs.YtnpklnpicelcmaaDoor

namespace Go.Proofs.YtnpklnpicelcmaaDoor
open Go.RowKit
set_option linter.unusedVariables false

set_option maxRecDepth 100000 in
set_option maxHeartbeats 3200000 in
theorem implHb_any (h ac bu : Int) (a : Option Addr) (n c : Nat) (f : Nat → Int) (ta : Option Addr) (N tc : Nat) (T : Nat → TN) (k : Int) (K : Nat) (U : Nat → Int) (w : World) (hs : Src w a n f) (hcn : n ≤ c) (hcm : c ≤ maxLen) (ht : TV w ta N T) (hN : N ≤ maxLen) (hn : ∀ i, i < N → (T i).n ≤ maxLen)
    (hr : ∀ i, i < N → ∀ j, j < (T i).n → -9223372036854775808 ≤ ((T i).S j).nd ∧ ((T i).S j).nd ≤ 9223372036854775807) (hk : IsHb h n f ac bu N T k K U) :
    Calls Tryd.prog 9 #[.agg #[.int .i64 h, .slice a n c, .int .i64 ac, .int .i64 bu, .slice ta N tc]] w (RetIsR w k K U) := by
  obtain ⟨i0, hif, hz0, hz1, hz2⟩ := info_parts Tryd.info2
  have S0 := Lib.hid hs; have T0 := Lib.hid ht; have HN := Lib.hid hn; have HR := Lib.hid hr; have HCM := Lib.hid hcm
  have B_0 := Lib.hid ((Blk.new_at (w := w) (cs := #[.int .i64 h, .slice a n c, .int .i64 ac, .int .i64 bu, .slice ta N tc]) (t := 35) w.heap.size rfl).alloc (.cells #[.int .i64 0, .slice none 0 0] 30))
  have R_0 := Lib.hid (Blk.new_at (w := w.alloc (.cells #[.int .i64 h, .slice a n c, .int .i64 ac, .int .i64 bu, .slice ta N tc] 35)) (cs := #[.int .i64 0, .slice none 0 0]) (t := 30) (w.heap.size + 1) (by simp))
  have HB0 : Hid (Below w.heap.size w ((w.alloc (.cells #[.int .i64 h, .slice a n c, .int .i64 ac, .int .i64 bu, .slice ta N tc] 35)).alloc (.cells #[.int .i64 0, .slice none 0 0] 30))) := ((Below.refl _ _).alloc (Nat.le_refl _) _).alloc (by simp) _
  have z0 : w.heap.size + 2 ≤ ((w.alloc (.cells #[.int .i64 h, .slice a n c, .int .i64 ac, .int .i64 bu, .slice ta N tc] 35)).alloc (.cells #[.int .i64 0, .slice none 0 0] 30)).heap.size := by simp
  have b0 := B_0.out.at 0 rfl; have b1 := B_0.out.at 1 rfl; have b2 := B_0.out.at 2 rfl; have b3 := B_0.out.at 3 rfl; have b4 := B_0.out.at 4 rfl; have lB := B_0.out.1
  have HKF : Hid (IsHpF h n f ac bu N T k) := Lib.hid (by
    rcases hk with ⟨_, h1, _⟩ | ⟨h0, h1, _⟩
    · exact h1
    · rw [h0]; exact h1)
  clear hs ht hn hr hcm
  go_enter Tryd.func9, Tryd.ntmps9
  go_wp2_with fail
  generalize ((w.alloc (.cells #[.int .i64 h, .slice a n c, .int .i64 ac, .int .i64 bu, .slice ta N tc] 35)).alloc (.cells #[.int .i64 0, .slice none 0 0] 30)) = w0 at *
  refine (implHpF_any h ac bu a n c f ta N tc T k _ (S0.out.below HB0.out) hcn HCM.out (T0.out.below HB0.out) hN HN.out HR.out HKF.out).mono ?_
  rintro e w1 ⟨rfl, hb⟩
  have HB1 := Lib.hid (thru0 HB0.out hb); have B_1 := Lib.hid (B_0.out.below hb); have R_1 := Lib.hid (R_0.out.below hb)
  have z1 := hb.size
  clear hb b0 b1 b2 b3 b4 lB B_0 R_0 HB0
  rcases hk with ⟨h0, -, rfl⟩ | ⟨rfl, -, L, h1, h2, h3, rfl, rfl⟩
  · have hq : (k != 0) = true := by simp [h0]
    have c0 := R_1.out.at 0 rfl; have c1 := R_1.out.at 1 rfl; have f0 := R_1.out.free 0 rfl; have f1 := R_1.out.free 1 rfl; have lR := R_1.out.1
    clear h0
    go_wp2
    refine bodyPost_ret (v := .agg #[.int .i64 k, .slice none 0 0]) (by simp [results, Tryd.results9, go_sem, c0, c1, World.cell?_setCell_other, World.cell?_setCell_same']) rfl ⟨none, 0, rfl, .inl rfl, ?_⟩
    repeat (first | (with_reducible refine Below.setCell ?_ (by (try simp); (try omega)) _) | (with_reducible refine Below.alloc ?_ (by (try simp); (try omega)) _))
    exact HB1.out
  · have HPO := Lib.hid (hpOk_of h3)
    have HOI := Lib.hid h2; have HSF := Lib.hid h1
    have HRT := Lib.hid (right_of h1 h2)
    have hN4 := HPO.out.n.2
    have hL4 := (isOI_small h2).1
    have b0 := B_1.out.at 0 rfl; have b1 := B_1.out.at 1 rfl; have b2 := B_1.out.at 2 rfl; have b3 := B_1.out.at 3 rfl; have b4 := B_1.out.at 4 rfl; have lB := B_1.out.1
    clear h1 h2 h3
    go_wp2_with fail
    refine (tenantsOf_any h ac bu a n c f ta N tc T L _ (S0.out.below HB1.out) hcn HCM.out (T0.out.below HB1.out) HSF.out HOI.out HPO.out).mono ?_
    rintro e w2 ⟨hb, va, vc, M, rfl, hMl, hv, hok⟩
    have HB2 := Lib.hid (thru0 HB1.out hb); have R_2 := Lib.hid (R_1.out.below hb)
    have HV2 := Lib.hid hv; have HTO := Lib.hid hok; have HML := Lib.hid hMl
    have z2 := hb.size
    clear hb hv hok hMl b0 b1 b2 b3 b4 lB B_1 R_1 HB1
    go_wp2
    go_loopw [4, 16] (fun u p wr => ∃ (i : Nat) (R : List Int), i ≤ N ∧ p = .int .i64 (i : Int) ∧ R.length = i ∧ Hid (R = heldL f L T i) ∧ Hid (Below w2.heap.size w2 wr) ∧ Hid (wr.ownsRow w2.heap.size 2 1 u R.length (nums R.length (lf R)))) (fun _ p _ => N - (intOf p).toNat)
    case atStart => exact ⟨0, [], Nat.zero_le _, rfl, rfl, Lib.hid rfl, Below.refl _ _, World.ownsRow_nil _ _ _ _⟩
    case round =>
      obtain ⟨i, R, hi, rfl, hRl, HL, HB_r, OW_r⟩ := hrel
      have hzr := HB_r.out.size
      have HBr := Lib.hid (thru0 HB2.out HB_r.out)
      by_cases hlt : i < N
      · have hlt' : (i : Int) < (N : Int) := by omega
        have hi0 : (0 : Int) ≤ (i : Int) := by omega
        have hR4 : R.length ≤ 4 := by omega
        have HRl := Lib.hid hRl
        clear hRl
        have hMi : i < M.length := by rw [HML.out]; exact hlt
        have hg : M[i]? = some M[i] := List.getElem?_eq_getElem hMi
        obtain ⟨hR, -, -, -, -, -, -, hsm⟩ := HTO.out i M[i] hg
        have HL2 : Hid (R ++ [(heldT f L (T i) : Int)] = heldL f L T (i + 1)) := Lib.hid (by rw [heldL_snoc, ← HL.out])
        have OKi := HPO.out.t i hlt
        have hRl4 : Hid (M[i].R.length ≤ 400) := Lib.hid (by
          rw [hR]
          have h1 := reachO_length HRT.out.points HRT.out.size (rootsS_in OKi)
          omega)
        obtain ⟨y, hy⟩ : ∃ y : Int, (heldT f L (T i) : Int) = y := ⟨_, rfl⟩
        have HY : Hid ((sumW (wordsAt L) M[i].R : Int) = y) := Lib.hid (by rw [hR]; exact hy)
        rw [hy] at HL2
        obtain ⟨vb, vq, rfl, lv, v0, v1, v2, v3, v4, v5, v6⟩ := (HV2.out.below HB_r.out).get hg
        have HSM := Lib.hid hsm
        have HAL : Hid (Below w2.heap.size w2 (wr.alloc (.cells #[.slice M[i].a M[i].n M[i].c, .int .i64 0, .slice M[i].oa M[i].R.length M[i].oc, .map (some M[i].mb), .int .i64 M[i].nu, .int .i64 M[i].q, .int .i64 M[i].h] 68))) := Lib.hid (HB_r.out.alloc hzr _)
        have OWA := Lib.hid (OW_r.out.alloc (.cells #[.slice M[i].a M[i].n M[i].c, .int .i64 0, .slice M[i].oa M[i].R.length M[i].oc, .map (some M[i].mb), .int .i64 M[i].nu, .int .i64 M[i].q, .int .i64 M[i].h] 68))
        have HG := Lib.hid ((HV2.out.below HAL.out).2 M[i] (List.getElem_mem hMi))
        have HGE : Hid (∀ k, u4.ownBlock = some k → w2.heap.size ≤ k) := Lib.hid (fun k hk => (OW_r.out.lt k hk).1)
        have HI1 : Hid (i + 1 ≤ N) := Lib.hid hlt
        clear hR hsm hy HL OKi hg
        generalize M[i] = t at *
        go_wp2_with fail
        clear v0 v1 v2 v3 v4 v5 v6
        generalize wr.alloc (.cells #[.slice t.a t.n t.c, .int .i64 0, .slice t.oa t.R.length t.oc, .map (some t.mb), .int .i64 t.nu, .int .i64 t.q, .int .i64 t.h] 68) = w3 at *
        refine (words_any 0 (.map (some t.mb)) t.oa t.R t.oc t.U L f _ HG.out hRl4.out HSM.out HRT.out.ok).mono ?_
        rw [HY.out]
        rintro e w4 ⟨rfl, hb⟩
        have HB4 := Lib.hid (thru0 HAL.out hb)
        have OW4 := Lib.hid (ownsRow_below OWA.out hb)
        have z4 : w2.heap.size ≤ w4.heap.size := HB4.out.size
        clear hb
        go_wp2_with (at_builtin; go_loud (refine wpList_append_lies _ rfl _ _ 22 rfl w2.heap.size 2 i0 (.int .i64 0) 1 8 Tryd.underlying22 hif hz0 hz1 hz2 rfl (by decide) u4 R.length (nums R.length (lf R)) rfl (OW4.out.alloc _) ⟨w4.heap.size, 0, none⟩ 1 1 [.int .i64 y] rfl rfl (news1 w4 y) (by intro u hu; simp only [List.mem_cons, List.mem_nil_iff, or_false] at hu; subst hu; rfl) (by omega) (by unfold maxLen; omega) (by omega) (by simp; omega) (w4.heap.size + 1) (by simp) ?_); intro g9 cap9 w9 hown9 hgrow9 hat9 hlt9)
        have HB9 : Hid (Below w2.heap.size w2 w9) := (HB4.out.alloc z4 _).grown hgrow9 (by simp; omega) (fun k hk => HGE.out k hk)
        have OW9 := Lib.hid (nums_one_more R y _ _ _ hown9)
        have hRl2 : (R ++ [y]).length = i + 1 := by rw [List.length_append, HRl.out]; rfl
        clear hown9 hgrow9 hat9
        go_wp2
        go_roundw
        case rel => first | exact ⟨i + 1, R ++ [y], HI1.out, by go_num, hRl2, HL2, HB9, OW9⟩ | ((repeat apply Exists.intro); exact ⟨⟨i + 1, R ++ [y], HI1.out, by go_num, hRl2, HL2, HB9, OW9⟩, rfl⟩)
        case measure => simp [intOf]; omega
      · have hlt' : ¬ (i : Int) < (N : Int) := by omega
        obtain rfl : i = N := by omega
        obtain ⟨ra, rc, e', -, -, -⟩ := row_shape OW_r.out
        subst e'
        have HO := Lib.hid (own_of_row OW_r.out)
        have hL := HL.out
        rw [hL, heldL_len] at HO
        have R_3 := Lib.hid (R_2.out.below HB_r.out)
        have c0 := R_3.out.at 0 rfl; have c1 := R_3.out.at 1 rfl; have f0 := R_3.out.free 0 rfl; have f1 := R_3.out.free 1 rfl; have lR := R_3.out.1
        clear HL OW_r hL
        rw [hRl]
        go_wp2
        refine bodyPost_ret (v := .agg #[.int .i64 0, .slice ra i rc]) (by simp [results, Tryd.results9, go_sem, c0, c1, World.cell?_setCell_other, World.cell?_setCell_same']) rfl ⟨ra, rc, rfl, ?_, ?_⟩
        · exact own_two2 HO.out (by omega) (by omega)
        · repeat (first | (with_reducible refine Below.setCell ?_ (by (try simp); (try omega)) _) | (with_reducible refine Below.alloc ?_ (by (try simp); (try omega)) _))
          exact HBr.out
end Go.Proofs.YtnpklnpicelcmaaDoor

namespace Go.Proofs.YtnpklnpicelcmaaDoor
open Go.RowKit
set_option linter.unusedVariables false

set_option maxRecDepth 100000 in
set_option maxHeartbeats 400000 in
theorem eqPR_same (co : Int) (a a' : Option Addr) (n c c' : Nat) (f g : Nat → Int) (w : World) (s1 : Src w a n f) (s2 : Src w a' n g) (hn : n ≤ 1048576) (he : ∀ i, i < n → f i = g i) :
    Calls Tryd.prog 10 #[.agg #[.int .i64 co, .slice a n c], .agg #[.int .i64 co, .slice a' n c']] w (RetBool w true) := by
  have S1 := Lib.hid s1
  have S2 := Lib.hid s2
  have HE := Lib.hid he
  clear s1 s2 he
  go_enter Tryd.func10, Tryd.ntmps10
  go_wp2_with (go_at_call 30; refine (eqInts_same _ _ _ _ _ f g _ ((S1.out.alloc _).alloc _) ((S2.out.alloc _).alloc _) hn).mono ?_; rw [eqB_yes HE.out]; rintro e w1 ⟨rfl, hb⟩; obtain ⟨hc, hf⟩ := bcell hb; have HB := Lib.hid hb; have hz := hb.size; clear hb)
  go_ret
  exact ⟨rfl, (((Below.refl _ _).alloc (Nat.le_refl _) _).alloc (by simp) _).trans (HB.out.mono (by simp; try omega))⟩

set_option maxRecDepth 100000 in
set_option maxHeartbeats 400000 in
theorem markPR_any (co : Int) (a : Option Addr) (n c lo hi : Nat) (f : Nat → Int) (k : Int) (w : World) (ho : OwnIn w lo hi a n f) (hn : n ≤ 1048576) (hk0 : 0 ≤ k) (hk1 : k ≤ 1048576) :
    Calls Tryd.prog 13 #[.agg #[.int .i64 co, .slice a n c], .int .i64 k] w (RetMark w lo hi a n k) := by
  have HO := Lib.hid ho
  clear ho
  go_enter Tryd.func13, Tryd.ntmps13
  go_wp2_with (go_at_call 35; (with_reducible refine (markInts_any _ _ _ _ _ _ _ _ (HO.out.alloc _) hn hk0 hk1).mono ?_); rintro e w1 ⟨rfl, ho1, hk⟩; have HO1 := Lib.hid ho1; have HK1 := Lib.hid hk; clear ho1 hk)
  go_ret
  exact ⟨rfl, HO1.out, (keeps_of_below ((Below.refl _ _).alloc (Nat.le_refl _) _) lo hi).trans HK1.out⟩

set_option maxRecDepth 100000 in
set_option maxHeartbeats 400000 in
theorem heldPR_any (co : Int) (a : Option Addr) (n c : Nat) (k : Int) (w : World) (hs : Src w a n (fun i => k + i)) (hn : n ≤ 1048576) (hk0 : 0 ≤ k) (hk1 : k ≤ 1048576) :
    Calls Tryd.prog 14 #[.agg #[.int .i64 co, .slice a n c], .int .i64 k] w (RetInt w (k + n)) := by
  have HS := Lib.hid hs
  clear hs
  go_enter Tryd.func14, Tryd.ntmps14
  go_wp2_with (go_at_call 36; (with_reducible refine (heldInts_any _ _ _ _ _ (HS.out.alloc _) hn hk0 hk1).mono ?_); rintro e w1 ⟨rfl, rfl⟩)
  go_ret
  exact ⟨rfl, (Below.refl _ _).alloc (Nat.le_refl _) _⟩
end Go.Proofs.YtnpklnpicelcmaaDoor

namespace Go.Proofs.YtnpklnpicelcmaaDoor
open Go.RowKit
set_option linter.unusedVariables false

set_option maxRecDepth 100000 in
set_option maxHeartbeats 6400000 in
theorem e3_any (h ac bu : Int) (a : Option Addr) (n c : Nat) (f : Nat → Int) (ta : Option Addr) (N tc : Nat) (T : Nat → TN) (w : World)
    (s1 : Src w a n f) (hn : n ≤ maxLen) (t1 : TV w ta N T) (hN : N ≤ maxLen) (hm : ∀ i, i < N → (T i).n ≤ maxLen) (hw : ∀ i, i < N → TnW (T i)) :
    Calls Tryd.prog 3 #[.agg #[.int .i64 h, .slice a n c, .int .i64 ac, .int .i64 bu, .slice ta N tc]] w (RetBool w true) := by
  obtain ⟨co, K, U, hk⟩ := isHb_some h n f ac bu N T
  have hK9 := isHb_small hk
  have hK1 : K ≤ 1048576 := by omega
  have HK := Lib.hid hk; have S1 := Lib.hid s1; have T1 := Lib.hid t1; have HM := Lib.hid hm; have HW := Lib.hid hw
  have A_0 := Lib.hid (Blk.new_at (w := w) (cs := #[.int .i64 h, .slice a n c, .int .i64 ac, .int .i64 bu, .slice ta N tc]) (t := 27) w.heap.size rfl)
  have HB0 := Lib.hid ((Below.refl w.heap.size w).alloc (Nat.le_refl _) (.cells #[.int .i64 h, .slice a n c, .int .i64 ac, .int .i64 bu, .slice ta N tc] 27))
  have c0 := A_0.out.at 0 rfl; have c1 := A_0.out.at 1 rfl; have c2 := A_0.out.at 2 rfl; have c3 := A_0.out.at 3 rfl; have c4 := A_0.out.at 4 rfl; have lA := A_0.out.1
  clear hk s1 t1 hm hw
  go_enter Tryd.func3, Tryd.ntmps3
  go_wp2_with fail
  refine (szHeap_any h ac bu a n c ta N tc T 1048576 _ (T1.out.below HB0.out) hn hN HM.out (by omega) (by omega)).mono ?_
  rintro e w1 ⟨hb, r, rfl, hr1, hr2⟩
  have HB1 := Lib.hid (thru0 HB0.out hb)
  have A_1 := Lib.hid (A_0.out.below hb)
  clear hb c0 c1 c2 c3 c4 lA A_0 HB0
  rcases hr2 with rfl | ⟨h0, h1, h2, h3⟩
  · go_wp2
    go_ret
    exact ⟨rfl, HB1.out⟩
  have h9 : ¬ r < 0 := by omega
  have hn1 : n ≤ 1048576 := by omega
  have hN1 : N ≤ 1048576 := by omega
  have HM1 : Hid (∀ i, i < N → (T i).n ≤ 1048576) := Lib.hid fun i hi => by have := h3 i hi; omega
  clear h1 h2 h3 HM hn hN
  have c0 := A_1.out.at 0 rfl; have c1 := A_1.out.at 1 rfl; have c2 := A_1.out.at 2 rfl; have c3 := A_1.out.at 3 rfl; have c4 := A_1.out.at 4 rfl; have lA := A_1.out.1
  go_wp2_with fail
  refine (toHeap_any h ac bu a n c f ta N tc T _ (S1.out.below HB1.out) (T1.out.below HB1.out) hn1 hN1 HM1.out).mono ?_
  rintro e w2 ⟨sa, sc, st, sk, sm, G0, rfl, go, gp, _, _, gs, hb, gc1, gc2⟩
  have HB2 := Lib.hid (thru0 HB1.out hb)
  have A_2 := Lib.hid (A_1.out.below hb)
  have P2 := Lib.hid go.src; have G2 := Lib.hid gp.src; have S2 := Lib.hid gs; have C2 := Lib.hid gc2
  clear hb c0 c1 c2 c3 c4 lA A_1 HB1 go gp gs gc2
  go_wp2_with fail
  refine (specHb_any h ac bu sa n sc f st N sk G0 co K U _ P2.out gc1 C2.out G2.out (max_of hN1) (tnsame_max S2.out HM1.out) (tnw_nd HW.out S2.out) (isHb_same HK.out S2.out)).mono ?_
  rintro e w3 ⟨wa, wc, rfl, ho, hb⟩
  have HB3 := Lib.hid (thru0 HB2.out hb)
  have A_3 := Lib.hid (A_2.out.below hb)
  have z3 : w2.heap.size ≤ w3.heap.size := hb.size
  have Rw_3 : Hid (OwnIn w3 w2.heap.size w3.heap.size wa K U) := Lib.hid ho.into
  clear hb A_2 HB2 P2 G2 S2 C2 gc1 ho
  have HB4 := Lib.hid (HB3.out.alloc HB3.out.size (.cells #[.int .i64 co, .slice wa K wc] 30))
  have A_4 := Lib.hid (A_3.out.alloc (.cells #[.int .i64 co, .slice wa K wc] 30))
  have W_4 := Lib.hid (Blk.new_at (w := w3) (cs := #[.int .i64 co, .slice wa K wc]) (t := 30) w3.heap.size rfl)
  have Rw_4 := Lib.hid (Rw_3.out.alloc (.cells #[.int .i64 co, .slice wa K wc] 30))
  have z4 : w3.heap.size + 1 ≤ (w3.alloc (.cells #[.int .i64 co, .slice wa K wc] 30)).heap.size := by simp
  have c0 := A_4.out.at 0 rfl; have c1 := A_4.out.at 1 rfl; have c2 := A_4.out.at 2 rfl; have c3 := A_4.out.at 3 rfl; have c4 := A_4.out.at 4 rfl; have lA := A_4.out.1
  clear A_3 HB3
  go_wp2_with fail
  generalize w3.alloc (.cells #[.int .i64 co, .slice wa K wc] 30) = w4 at *
  have zA4 := A_4.out.1
  refine (toHeap_any h ac bu a n c f ta N tc T _ (S1.out.below HB4.out) (T1.out.below HB4.out) hn1 hN1 HM1.out).mono ?_
  rintro e w5 ⟨xa, xc, xt, xk, xm, X, rfl, p4, g4, xz1, xz2, s4, hb, xc1, xc2⟩
  have HB5 := Lib.hid (thru0 HB4.out hb)
  have A_5 := Lib.hid (A_4.out.below hb); have W_5 := Lib.hid (W_4.out.below hb)
  have Rw_5 := Lib.hid (Rw_4.out.below hb)
  have P5 := Lib.hid p4; have G5 := Lib.hid g4; have S4 := Lib.hid s4; have C4 := Lib.hid xc2
  clear hb c0 c1 c2 c3 c4 lA A_4 W_4 HB4 p4 g4 s4 xc2
  have hnX : ∀ i, i < N → (X i).n ≤ 1048576 := tnsame_n S4.out HM1.out
  have hnoff : toff X N ≤ 2199025352704 := by have := toff_big N hnX; have : N * 2097154 ≤ 1048576 * 2097154 := Nat.mul_le_mul_right _ hN1; omega
  have HNO := Lib.hid hnoff
  clear hnX hnoff
  have z5 : w4.heap.size ≤ w5.heap.size := by omega
  generalize w3.heap.size = W0 at *
  go_wp2_with fail
  have A_6 := Lib.hid (A_5.out.alloc (.cells #[.int .i64 h, .slice xa n xc, .int .i64 ac, .int .i64 bu, .slice xt N xk] 35)); have W_6 := Lib.hid (W_5.out.alloc (.cells #[.int .i64 h, .slice xa n xc, .int .i64 ac, .int .i64 bu, .slice xt N xk] 35))
  have X_6 := Lib.hid (Blk.new_at (w := w5) (cs := #[.int .i64 h, .slice xa n xc, .int .i64 ac, .int .i64 bu, .slice xt N xk]) (t := 35) w5.heap.size rfl)
  have HB6 := Lib.hid (HB5.out.alloc HB5.out.size (.cells #[.int .i64 h, .slice xa n xc, .int .i64 ac, .int .i64 bu, .slice xt N xk] 35))
  have P6 := Lib.hid (P5.out.alloc (.cells #[.int .i64 h, .slice xa n xc, .int .i64 ac, .int .i64 bu, .slice xt N xk] 35))
  have G6 := Lib.hid (G5.out.alloc (.cells #[.int .i64 h, .slice xa n xc, .int .i64 ac, .int .i64 bu, .slice xt N xk] 35))
  have Rw_6 := Lib.hid (Rw_5.out.alloc (.cells #[.int .i64 h, .slice xa n xc, .int .i64 ac, .int .i64 bu, .slice xt N xk] 35))
  have z6 : w5.heap.size + 1 ≤ (w5.alloc (.cells #[.int .i64 h, .slice xa n xc, .int .i64 ac, .int .i64 bu, .slice xt N xk] 35)).heap.size := by simp
  clear A_5 W_5 HB5 P5 G5
  generalize w5.alloc (.cells #[.int .i64 h, .slice xa n xc, .int .i64 ac, .int .i64 bu, .slice xt N xk] 35) = w6 at *
  generalize w5.heap.size = X0 at *
  refine (implHb_any h ac bu xa n xc f xt N xk X co K U _ P6.out.src xc1 C4.out G6.out.src (max_of hN1) (tnsame_max S4.out HM1.out) (tnw_nd HW.out S4.out) (isHb_same HK.out S4.out)).mono ?_
  rintro e w7 ⟨ga, gc, rfl, ho, hb⟩
  have HB7 := Lib.hid (thru0 HB6.out hb)
  have A_7 := Lib.hid (A_6.out.below hb); have W_7 := Lib.hid (W_6.out.below hb); have X_7 := Lib.hid (X_6.out.below hb); have P7 := Lib.hid (P6.out.below hb); have G7 := Lib.hid (G6.out.below hb)
  have z7 : w6.heap.size ≤ w7.heap.size := hb.size
  have Rw_7 := Lib.hid (Rw_6.out.below hb)
  have Rg_7 : Hid (OwnIn w7 w6.heap.size w7.heap.size ga K U) := Lib.hid ho.into
  clear hb A_6 W_6 X_6 HB6 P6 G6 ho
  have d0 := W_7.out.at 0 rfl; have d1 := W_7.out.at 1 rfl; have lW := W_7.out.1
  have A_8 := Lib.hid (A_7.out.alloc (.cells #[.int .i64 co, .slice ga K gc] 30)); have W_8 := Lib.hid (W_7.out.alloc (.cells #[.int .i64 co, .slice ga K gc] 30)); have X_8 := Lib.hid (X_7.out.alloc (.cells #[.int .i64 co, .slice ga K gc] 30)); have P8 := Lib.hid (P7.out.alloc (.cells #[.int .i64 co, .slice ga K gc] 30)); have G8 := Lib.hid (G7.out.alloc (.cells #[.int .i64 co, .slice ga K gc] 30))
  have Y_8 := Lib.hid (Blk.new_at (w := w7) (cs := #[.int .i64 co, .slice ga K gc]) (t := 30) w7.heap.size rfl)
  have HB8 := Lib.hid (HB7.out.alloc HB7.out.size (.cells #[.int .i64 co, .slice ga K gc] 30))
  have Rw_8 := Lib.hid (Rw_7.out.alloc (.cells #[.int .i64 co, .slice ga K gc] 30))
  have Rg_8 := Lib.hid (Rg_7.out.alloc (.cells #[.int .i64 co, .slice ga K gc] 30))
  have z8 : w7.heap.size + 1 ≤ (w7.alloc (.cells #[.int .i64 co, .slice ga K gc] 30)).heap.size := by simp
  go_wp2_with fail
  clear d0 d1 lW A_7 W_7 X_7 P7 G7 HB7
  generalize w7.alloc (.cells #[.int .i64 co, .slice ga K gc] 30) = w8 at *
  generalize w7.heap.size = Y0 at *
  refine (eqPR_same _ _ _ _ _ _ U U _ Rg_8.out.src Rw_8.out.src hK1 (fun _ _ => rfl)).mono ?_
  rintro e w9 ⟨rfl, hb⟩
  have HB9 := Lib.hid (thru0 HB8.out hb)
  have A_9 := Lib.hid (A_8.out.below hb); have W_9 := Lib.hid (W_8.out.below hb); have X_9 := Lib.hid (X_8.out.below hb); have P9 := Lib.hid (P8.out.below hb); have G9 := Lib.hid (G8.out.below hb); have Y_9 := Lib.hid (Y_8.out.below hb)
  have Rw_9 := Lib.hid (Rw_8.out.below hb)
  have Rg_9 := Lib.hid (Rg_8.out.below hb)
  have z9 : w8.heap.size ≤ w9.heap.size := hb.size
  clear hb A_8 W_8 X_8 P8 G8 Y_8 HB8
  have c0 := A_9.out.at 0 rfl; have c1 := A_9.out.at 1 rfl; have c2 := A_9.out.at 2 rfl; have c3 := A_9.out.at 3 rfl; have c4 := A_9.out.at 4 rfl; have lA := A_9.out.1
  have d0 := X_9.out.at 0 rfl; have d1 := X_9.out.at 1 rfl; have d2 := X_9.out.at 2 rfl; have d3 := X_9.out.at 3 rfl; have d4 := X_9.out.at 4 rfl; have lX := X_9.out.1
  go_wp2_with fail
  have A_d := Lib.hid A_9.out.drew; have X_d := Lib.hid X_9.out.drew; have HB_d := Lib.hid HB9.out.drew
  go_region_held3 (fun w' => w'.cell? ⟨w.heap.size, 0, none⟩ = some (.int .i64 h) ∧ w'.cell? ⟨w.heap.size, 1, none⟩ = some (.slice a n c) ∧ w'.cell? ⟨w.heap.size, 2, none⟩ = some (.int .i64 ac) ∧ w'.cell? ⟨w.heap.size, 3, none⟩ = some (.int .i64 bu) ∧ w'.cell? ⟨w.heap.size, 4, none⟩ = some (.slice ta N tc) ∧ w'.cell? ⟨X0, 0, none⟩ = some (.int .i64 h) ∧ w'.cell? ⟨X0, 1, none⟩ = some (.slice xa n xc) ∧ w'.cell? ⟨X0, 2, none⟩ = some (.int .i64 ac) ∧ w'.cell? ⟨X0, 3, none⟩ = some (.int .i64 bu) ∧ w'.cell? ⟨X0, 4, none⟩ = some (.slice xt N xk))
    (first | (with_reducible exact cap10Y A_9.out X_9.out) | (with_reducible exact cap10Y A_d.out X_d.out) | (with_reducible exact cap10Y A_10.out X_10.out) | (with_reducible exact cap10Y A_11.out X_11.out))
    (first | (go_at_call 8; refine (toHeap_any h ac bu a n c f ta N tc T _ (S1.out.below HB_d.out) (T1.out.below HB_d.out) hn1 hN1 HM1.out).mono ?_; rintro e w10 ⟨ya, yc, yt, yk, ym, Y, rfl, p7, g7, _, _, s7, hb, _, _⟩; have HB10 := Lib.hid (thru0 HB_d.out hb); have hb10 : Below w9.heap.size w9 w10 := (Below.refl _ _).drew.trans (hb.mono (by simp)); have BT10 := Lib.hid hb10; have A_10 := Lib.hid (A_9.out.below hb10); have X_10 := Lib.hid (X_9.out.below hb10); have P10 := Lib.hid (P9.out.below hb10); have G10 := Lib.hid (G9.out.below hb10); have P10' := Lib.hid p7.src; have G10' := Lib.hid g7.src; have S7 := Lib.hid (show ∀ i, i < N → TnSame (X i) (Y i) from fun i hi => tnsame_trans (tnsame_symm (S4.out i hi)) (s7 i hi)); clear hb hb10 p7 g7 s7) | (go_at_call 11; refine (eqHeap_same h ac bu xa ya n xc yc f f xt yt N xk yk X Y _ P10.out.src P10'.out G10.out.src G10'.out (fun _ _ => rfl) S7.out hn1 hN1 (tnsame_n S4.out HM1.out)).mono ?_; rintro e w11 ⟨rfl, hb⟩; have HB11 := Lib.hid (thru0 HB10.out hb); have BT11 := Lib.hid (thru0 BT10.out hb); have A_11 := Lib.hid (A_10.out.below hb); have X_11 := Lib.hid (X_10.out.below hb); clear hb))
  have W_11 := Lib.hid (W_9.out.below BT11.out); have P11 := Lib.hid (P9.out.below BT11.out); have G11 := Lib.hid (G9.out.below BT11.out); have Y_11 := Lib.hid (Y_9.out.below BT11.out)
  have Rw_11 := Lib.hid (Rw_9.out.below BT11.out)
  have Rg_11 := Lib.hid (Rg_9.out.below BT11.out)
  have z11 : w9.heap.size ≤ w11.heap.size := BT11.out.size
  clear c0 c1 c2 c3 c4 lA d0 d1 d2 d3 d4 lX A_9 X_9 A_d X_d HB_d HB9 W_9 P9 G9 Y_9 A_10 X_10 P10 G10 P10' G10' S7 BT10 BT11 HB10
  have d0 := X_11.out.at 0 rfl; have d1 := X_11.out.at 1 rfl; have d2 := X_11.out.at 2 rfl; have d3 := X_11.out.at 3 rfl; have d4 := X_11.out.at 4 rfl; have lX := X_11.out.1
  go_wp2_with fail
  refine (markHeap_big h ac bu xa n xc f xt N xk X w4.heap.size xm X0 1 _ P11.out G11.out xz1 xz2 (by omega) hn1 (by omega) (by omega) (by have := HNO.out; omega) hN1).mono ?_
  rintro e w12 ⟨rfl, -, -, hkp⟩
  have HB12 := Lib.hid (HB11.out.trans (hkp.below (by omega) HB11.out.size))
  have A_12 := Lib.hid (A_11.out.keeps hkp (.inl (by omega))); have W_12 := Lib.hid (W_11.out.keeps hkp (.inl (by omega))); have Y_12 := Lib.hid (Y_11.out.keeps hkp (.inr (by omega)))
  have Rw_12 := Lib.hid (Rw_11.out.keeps hkp (.inl (by omega)))
  have Rg_12 := Lib.hid (Rg_11.out.keeps hkp (.inr (by omega)))
  have z12 : w11.heap.size ≤ w12.heap.size := hkp.size
  obtain ⟨kk, hkk⟩ : ∃ kk, kk = 1 + (n : Int) + (toff X N : Int) := ⟨_, rfl⟩
  rw [← hkk]
  have hkk0 : ¬ kk < 0 := by omega
  clear hkk hkp d0 d1 d2 d3 d4 lX A_11 X_11 W_11 P11 G11 Y_11 HB11
  have d0 := W_12.out.at 0 rfl; have d1 := W_12.out.at 1 rfl; have lW := W_12.out.1
  have e0 := Y_12.out.at 0 rfl; have e1 := Y_12.out.at 1 rfl; have lY := Y_12.out.1
  go_wp2_with fail
  refine (eqPR_same _ _ _ _ _ _ U U _ Rg_12.out.src Rw_12.out.src hK1 (fun _ _ => rfl)).mono ?_
  rintro e w13 ⟨rfl, hb⟩
  have HB13 := Lib.hid (thru0 HB12.out hb)
  have A_13 := Lib.hid (A_12.out.below hb); have W_13 := Lib.hid (W_12.out.below hb); have Y_13 := Lib.hid (Y_12.out.below hb)
  have Rw_13 := Lib.hid (Rw_12.out.below hb)
  have Rg_13 := Lib.hid (Rg_12.out.below hb)
  have z13 : w12.heap.size ≤ w13.heap.size := hb.size
  clear hb d0 e0 d1 e1 lW lY A_12 W_12 Y_12 HB12
  have e0 := Y_13.out.at 0 rfl; have e1 := Y_13.out.at 1 rfl; have lY := Y_13.out.1

  go_wp2_with fail
  refine (markPR_any _ _ _ _ _ _ _ _ _ Rg_13.out hK1 (by omega) (by omega)).mono ?_
  rintro e w14 ⟨rfl, ho, hkp⟩
  have HB14 := Lib.hid (HB13.out.trans (hkp.below (by omega) HB13.out.size))
  have A_14 := Lib.hid (A_13.out.keeps hkp (.inl (by omega))); have W_14 := Lib.hid (W_13.out.keeps hkp (.inl (by omega))); have Y_14 := Lib.hid (Y_13.out.keeps hkp (.inr (by omega)))
  have Rw_14 := Lib.hid (Rw_13.out.keeps hkp (.inl (by omega)))
  have Mg_14 : Hid (OwnIn w14 w6.heap.size Y0 ga K (fun i => 1 + i)) := Lib.hid ho
  have z14 : w13.heap.size ≤ w14.heap.size := hkp.size
  clear hkp e0 e1 lY A_13 W_13 Y_13 HB13 ho
  have e0 := Y_14.out.at 0 rfl; have e1 := Y_14.out.at 1 rfl; have lY := Y_14.out.1
  go_wp2_with fail
  refine (heldPR_any _ _ _ _ 1 _ Mg_14.out.src hK1 (by omega) (by omega)).mono ?_
  rintro e w15 ⟨rfl, hb⟩
  skip
  have HB15 := Lib.hid (thru0 HB14.out hb)
  have A_15 := Lib.hid (A_14.out.below hb); have W_15 := Lib.hid (W_14.out.below hb); have Y_15 := Lib.hid (Y_14.out.below hb)
  have Rw_15 := Lib.hid (Rw_14.out.below hb)
  have Mg_15 := Lib.hid (Mg_14.out.below hb)
  have z15 : w14.heap.size ≤ w15.heap.size := hb.size
  clear hb e0 e1 lY A_14 W_14 Y_14 HB14
  have c0 := A_15.out.at 0 rfl; have c1 := A_15.out.at 1 rfl; have c2 := A_15.out.at 2 rfl; have c3 := A_15.out.at 3 rfl; have c4 := A_15.out.at 4 rfl; have lA := A_15.out.1
  go_wp2_with fail
  refine (toHeap_any h ac bu a n c f ta N tc T _ (S1.out.below HB15.out) (T1.out.below HB15.out) hn1 hN1 HM1.out).mono ?_
  rintro e w16 ⟨va, vc, vt, vk, vm, V, rfl, p7, g7, _, _, s7, hb, vc1, vc2⟩
  have HB16 := Lib.hid (thru0 HB15.out hb)
  have W_16 := Lib.hid (W_15.out.below hb); have Y_16 := Lib.hid (Y_15.out.below hb); have P16 := Lib.hid p7.src; have G16 := Lib.hid g7.src; have S7 := Lib.hid s7; have C7 := Lib.hid vc2
  have Rw_16 := Lib.hid (Rw_15.out.below hb)
  have Mg_16 := Lib.hid (Mg_15.out.below hb)
  have z16 : w15.heap.size ≤ w16.heap.size := hb.size
  clear hb c0 c1 c2 c3 c4 lA A_15 W_15 Y_15 HB15 p7 g7 s7 vc2
  go_wp2_with fail
  refine (implHb_any h ac bu va n vc f vt N vk V co K U _ P16.out vc1 C7.out G16.out (max_of hN1) (tnsame_max S7.out HM1.out) (tnw_nd HW.out S7.out) (isHb_same HK.out S7.out)).mono ?_
  rintro e w17 ⟨ha, hc, rfl, ho, hb⟩
  have HB17 := Lib.hid (thru0 HB16.out hb)
  have W_17 := Lib.hid (W_16.out.below hb); have Y_17 := Lib.hid (Y_16.out.below hb)
  have Rw_17 := Lib.hid (Rw_16.out.below hb)
  have Mg_17 := Lib.hid (Mg_16.out.below hb)
  have z17 : w16.heap.size ≤ w17.heap.size := hb.size
  have Rh_17 : Hid (OwnIn w17 w16.heap.size w17.heap.size ha K U) := Lib.hid ho.into
  clear hb W_16 Y_16 HB16 P16 G16 S7 C7 vc1 ho
  have d0 := W_17.out.at 0 rfl; have d1 := W_17.out.at 1 rfl; have lW := W_17.out.1
  have W_18 := Lib.hid (W_17.out.alloc (.cells #[.int .i64 co, .slice ha K hc] 30)); have Y_18 := Lib.hid (Y_17.out.alloc (.cells #[.int .i64 co, .slice ha K hc] 30))
  have HB18 := Lib.hid (HB17.out.alloc HB17.out.size (.cells #[.int .i64 co, .slice ha K hc] 30))
  have Rw_18 := Lib.hid (Rw_17.out.alloc (.cells #[.int .i64 co, .slice ha K hc] 30))
  have Mg_18 := Lib.hid (Mg_17.out.alloc (.cells #[.int .i64 co, .slice ha K hc] 30))
  have Rh_18 := Lib.hid (Rh_17.out.alloc (.cells #[.int .i64 co, .slice ha K hc] 30))
  go_wp2_with fail
  clear d0 d1 lW W_17 Y_17 HB17
  generalize w17.alloc (.cells #[.int .i64 co, .slice ha K hc] 30) = w18 at *
  refine (eqPR_same _ _ _ _ _ _ U U _ Rh_18.out.src Rw_18.out.src hK1 (fun _ _ => rfl)).mono ?_
  rintro e w19 ⟨rfl, hb⟩
  have HB19 := Lib.hid (thru0 HB18.out hb)
  have Y_19 := Lib.hid (Y_18.out.below hb)
  have Mg_19 := Lib.hid (Mg_18.out.below hb)
  clear hb W_18 Y_18 HB18
  have e0 := Y_19.out.at 0 rfl; have e1 := Y_19.out.at 1 rfl; have lY := Y_19.out.1
  go_wp2_with fail
  refine (heldPR_any _ _ _ _ 1 _ Mg_19.out.src hK1 (by omega) (by omega)).mono ?_
  rintro e w20 ⟨rfl, hb⟩
  skip
  have HB20 := Lib.hid (thru0 HB19.out hb)
  clear hb e0 e1 lY
  go_wp2
  go_ret
  exact ⟨rfl, HB20.out⟩
end Go.Proofs.YtnpklnpicelcmaaDoor

namespace Go.Proofs.YtnpklnpicelcmaaDoor
open Go.RowKit
set_option linter.unusedVariables false

/-- A code and a number. -/
def RetSp (W : World) (k v : Int) (e : Ending) (w' : World) : Prop := e = .returned (.agg #[.int .i64 k, .int .i64 v]) ∧ Below W.heap.size W w'

theorem min12 (n y : Int) (w : World) (hy : y = min n 12) : Calls Tryd.prog 42 #[.int .i64 n, .int .i64 12] w fun e w' => e = .returned (.int .i64 y) ∧ w = w' := by
  by_cases h : n < 12
  · obtain rfl : y = n := by omega
    clear hy
    go_enter Tryd.func42, Tryd.ntmps42
    go_wp2
    go_ret
    exact ⟨rfl, rfl⟩
  · obtain rfl : y = 12 := by omega
    clear hy
    go_enter Tryd.func42, Tryd.ntmps42
    go_wp2
    go_ret
    exact ⟨rfl, rfl⟩

set_option maxRecDepth 100000 in
set_option maxHeartbeats 3200000 in
theorem specSp_any (h ac bu : Int) (a : Option Addr) (n c : Nat) (f : Nat → Int) (ta : Option Addr) (N tc : Nat) (T : Nat → TN) (te k v : Int) (w : World) (hs : Src w a n f) (hcn : n ≤ c) (hcm : c ≤ maxLen) (ht : TV w ta N T) (hN : N ≤ maxLen) (hn : ∀ i, i < N → (T i).n ≤ maxLen)
    (hr : ∀ i, i < N → ∀ j, j < (T i).n → -9223372036854775808 ≤ ((T i).S j).nd ∧ ((T i).S j).nd ≤ 9223372036854775807) (hk : IsSp h n f ac bu N T te k v) :
    Calls Tryd.prog 17 #[.agg #[.int .i64 h, .slice a n c, .int .i64 ac, .int .i64 bu, .slice ta N tc], .int .i64 te] w (RetSp w k v) := by
  have S0 := Lib.hid hs; have T0 := Lib.hid ht; have HN := Lib.hid hn; have HR := Lib.hid hr; have HCM := Lib.hid hcm
  have B_0 := Lib.hid ((Blk.new_at (w := w) (cs := #[.int .i64 h, .slice a n c, .int .i64 ac, .int .i64 bu, .slice ta N tc]) (t := 35) w.heap.size rfl).alloc (.cells #[.int .i64 0, .int .i64 0] 44))
  have R_0 := Lib.hid (Blk.new_at (w := w.alloc (.cells #[.int .i64 h, .slice a n c, .int .i64 ac, .int .i64 bu, .slice ta N tc] 35)) (cs := #[.int .i64 0, .int .i64 0]) (t := 44) (w.heap.size + 1) (by simp))
  have HB0 : Hid (Below w.heap.size w ((w.alloc (.cells #[.int .i64 h, .slice a n c, .int .i64 ac, .int .i64 bu, .slice ta N tc] 35)).alloc (.cells #[.int .i64 0, .int .i64 0] 44))) := ((Below.refl _ _).alloc (Nat.le_refl _) _).alloc (by simp) _
  have z0 : w.heap.size + 2 ≤ ((w.alloc (.cells #[.int .i64 h, .slice a n c, .int .i64 ac, .int .i64 bu, .slice ta N tc] 35)).alloc (.cells #[.int .i64 0, .int .i64 0] 44)).heap.size := by simp
  have b0 := B_0.out.at 0 rfl; have b1 := B_0.out.at 1 rfl; have b2 := B_0.out.at 2 rfl; have b3 := B_0.out.at 3 rfl; have b4 := B_0.out.at 4 rfl; have lB := B_0.out.1
  obtain ⟨k0, hk0⟩ : ∃ k0, (¬ k0 = 0 ∧ IsHpF h n f ac bu N T k0 ∧ k = k0 ∧ v = 0) ∨ (k0 = 0 ∧ IsHpF h n f ac bu N T 0 ∧ ∃ L, IsSF h n f ac bu 0 ∧ IsOI h n f ac bu 0 L ∧ hpF f L h N T = 0 ∧
    ((¬ (0 ≤ te ∧ te < (N : Int)) ∧ k = 4 ∧ v = 0) ∨ ∃ i : Nat, te = (i : Int) ∧ i < N ∧ (((T i).q - (heldT f L (T i) : Int) - 2 < 0 ∧ k = 9 ∧ v = 0) ∨ (0 ≤ (T i).q - (heldT f L (T i) : Int) - 2 ∧ k = 0 ∧ v = min ((T i).q - (heldT f L (T i) : Int) - 2) 12)))) := by
    rcases hk with ⟨h1, h2, h3⟩ | ⟨h1, h2⟩
    · exact ⟨k, .inl ⟨h1, h2, rfl, h3⟩⟩
    · exact ⟨0, .inr ⟨rfl, h1, h2⟩⟩
  have HKF : Hid (IsHpF h n f ac bu N T k0) := Lib.hid (by
    rcases hk0 with ⟨_, h1, _⟩ | ⟨h0, h1, _⟩
    · exact h1
    · rw [h0]; exact h1)
  clear hs ht hn hr hcm hk
  go_enter Tryd.func17, Tryd.ntmps17
  go_wp2_with fail
  generalize ((w.alloc (.cells #[.int .i64 h, .slice a n c, .int .i64 ac, .int .i64 bu, .slice ta N tc] 35)).alloc (.cells #[.int .i64 0, .int .i64 0] 44)) = w0 at *
  refine (specHpF_any h ac bu a n c f ta N tc T k0 _ (S0.out.below HB0.out) hcn HCM.out (T0.out.below HB0.out) hN HN.out HR.out HKF.out).mono ?_
  rintro e w1 ⟨rfl, hb⟩
  have HB1 := Lib.hid (thru0 HB0.out hb); have B_1 := Lib.hid (B_0.out.below hb); have R_1 := Lib.hid (R_0.out.below hb)
  have z1 := hb.size
  clear hb b0 b1 b2 b3 b4 lB B_0 R_0 HB0
  rcases hk0 with ⟨h0, -, rfl, rfl⟩ | ⟨rfl, -, L, h1, h2, h3, h4⟩
  · have hq : (k != 0) = true := by simp [h0]
    have c0 := R_1.out.at 0 rfl; have c1 := R_1.out.at 1 rfl; have f0 := R_1.out.free 0 rfl; have f1 := R_1.out.free 1 rfl; have lR := R_1.out.1
    clear h0
    go_wp2
    refine bodyPost_ret (v := .agg #[.int .i64 k, .int .i64 0]) (by simp [results, Tryd.results17, go_sem, c0, c1, World.cell?_setCell_other, World.cell?_setCell_same']) rfl ⟨rfl, ?_⟩
    repeat (first | (with_reducible refine Below.setCell ?_ (by (try simp); (try omega)) _) | (with_reducible refine Below.alloc ?_ (by (try simp); (try omega)) _))
    exact HB1.out
  · have HPO := Lib.hid (hpOk_of h3)
    have HQA := Lib.hid (hpF_quota h3)
    have HOI := Lib.hid h2
    have HPT := Lib.hid ((isSF_shape h1 h2).1)
    have hN4 := HPO.out.n.2
    have lB := B_1.out.1; have b4 := B_1.out.at 4 rfl
    clear h1 h2 h3
    rcases h4 with ⟨h5, rfl, rfl⟩ | ⟨i, rfl, hi, h5⟩
    · have HNO := Lib.hid h5
      clear h5
      have c0 := R_1.out.at 0 rfl; have c1 := R_1.out.at 1 rfl; have f0 := R_1.out.free 0 rfl; have f1 := R_1.out.free 1 rfl; have lR := R_1.out.1
      go_wp2_with fail
      refine (l1In_no te 0 ((N : Int) - 1) _ (fun h => HNO.out ⟨h.1, by omega⟩)).mono ?_
      rintro e w2 ⟨rfl, rfl⟩
      go_wp2
      refine bodyPost_ret (v := .agg #[.int .i64 4, .int .i64 0]) (by simp [results, Tryd.results17, go_sem, c0, c1, World.cell?_setCell_other, World.cell?_setCell_same']) rfl ⟨rfl, ?_⟩
      repeat (first | (with_reducible refine Below.setCell ?_ (by (try simp); (try omega)) _) | (with_reducible refine Below.alloc ?_ (by (try simp); (try omega)) _))
      exact HB1.out
    · have hi' : (i : Int) < (N : Int) := by omega
      have hi0 : (0 : Int) ≤ (i : Int) := by omega
      go_wp2_with fail
      refine (l1In_yes (i : Int) 0 ((N : Int) - 1) _ hi0 (by omega)).mono ?_
      rintro e w2 ⟨rfl, rfl⟩
      go_wp2_with fail
      refine (l3Objs_any w.heap.size h ac bu a n c f L _ (blk_pre4 B_1.out) (S0.out.below HB1.out) hcn HCM.out HOI.out).mono ?_
      rintro e w2 ⟨hb, v, M, rfl, rfl, hm⟩
      have HB2 := Lib.hid (thru0 HB1.out hb); have B_2 := Lib.hid (B_1.out.below hb); have R_2 := Lib.hid (R_1.out.below hb)
      have HM2 := Lib.hid hm
      have z2 := hb.size
      clear hb hm lB b4 B_1 R_1 HB1
      have b4 := B_2.out.at 4 rfl; have lB := B_2.out.1
      obtain ⟨tb, tq, rfl, lt, htn, -⟩ := tv_get (T0.out.below HB2.out) hi
      have G_2 := Lib.hid htn
      obtain ⟨g0, -, -⟩ := htn
      have B_d := Lib.hid B_2.out.drew; have G_d := Lib.hid (G_2.out.below ((Below.refl w2.heap.size w2).drew) lt); have HBd := Lib.hid HB2.out.drew; have HMd := Lib.hid (HM2.out.below (Below.refl w2.heap.size w2).drew); have R_d := Lib.hid R_2.out.drew
      have ltd : tb < w2.drew.heap.size := by simpa using lt
      have OKi := Lib.hid (HPO.out.t i hi)
      have hqv := OKi.out.q
      obtain ⟨hq2, hq200⟩ := hqv
      have hqa := HQA.out i hi
      obtain ⟨y, hy⟩ : ∃ y : Int, (heldT f (M.map OM.x) (T i) : Int) = y := ⟨_, rfl⟩
      have hy0 : 0 ≤ y := by omega
      have HY := Lib.hid hy
      rw [hy] at h5 hqa
      have H5 := Lib.hid h5
      clear h5 hy
      go_wp2_with fail
      go_region_held3 (fun w' => w'.cell? ⟨w.heap.size, 4, none⟩ = some (.slice (some ⟨tb, tq, none⟩) N tc) ∧ w'.cell? ⟨tb, tq + i * 3, none⟩ = some (.int .i64 (T i).q))
        (first | (with_reducible exact capH B_2.out G_2.out) | (with_reducible exact capH B_d.out G_d.out) | (with_reducible exact capH B_9.out G_9.out))
        (first | (go_at_call 24; refine (l7Held_any w.heap.size h ac bu a n c (some ⟨tb, tq, none⟩) N tc T v M w1.heap.size w1.heap.size f i _ B_d.out (T0.out.below HBd.out) HMd.out HPT.out hi hN4 OKi.out).mono ?_; rw [HY.out]; rintro e w9 ⟨rfl, hb⟩; have HB9 := Lib.hid ((Below.refl w2.heap.size w2).drew.trans (hb.mono (by simp))); have B_9 := Lib.hid (B_d.out.below hb); have G_9 := Lib.hid (G_d.out.below hb ltd); have R_9 := Lib.hid (R_d.out.below hb); clear hb))
      have HBF := Lib.hid (thru0 HB2.out HB9.out)
      have z9 := HB9.out.size
      have c0 := R_9.out.at 0 rfl; have c1 := R_9.out.at 1 rfl; have f0 := R_9.out.free 0 rfl; have f1 := R_9.out.free 1 rfl; have lR := R_9.out.1
      clear B_d G_d HBd HMd R_d b4 lB g0
      generalize (T i).q = q at *
      rcases H5.out with ⟨h6, rfl, rfl⟩ | ⟨h6, rfl, rfl⟩
      · go_wp2
        refine bodyPost_ret (v := .agg #[.int .i64 9, .int .i64 0]) (by simp [results, Tryd.results17, go_sem, c0, c1, World.cell?_setCell_other, World.cell?_setCell_same']) rfl ⟨rfl, ?_⟩
        repeat (first | (with_reducible refine Below.setCell ?_ (by (try simp); (try omega)) _) | (with_reducible refine Below.alloc ?_ (by (try simp); (try omega)) _))
        exact HBF.out
      · have h7 : ¬ q - y - 2 < 0 := by omega
        obtain ⟨z, hz⟩ : ∃ z, min (q - y - 2) 12 = z := ⟨_, rfl⟩
        have HZ := Lib.hid hz
        rw [hz]
        clear hz H5
        go_wp2_with fail
        refine (min12 (q - y - 2) z _ HZ.out.symm).mono ?_
        rintro e w10 ⟨rfl, rfl⟩
        go_wp2
        refine bodyPost_ret (v := .agg #[.int .i64 0, .int .i64 z]) (by simp [results, Tryd.results17, go_sem, c0, c1, World.cell?_setCell_other, World.cell?_setCell_same']) rfl ⟨by rw [HZ.out], ?_⟩
        repeat (first | (with_reducible refine Below.setCell ?_ (by (try simp); (try omega)) _) | (with_reducible refine Below.alloc ?_ (by (try simp); (try omega)) _))
        exact HBF.out
end Go.Proofs.YtnpklnpicelcmaaDoor

namespace Go.Proofs.YtnpklnpicelcmaaDoor
open Go.RowKit
set_option linter.unusedVariables false

set_option maxRecDepth 100000 in
set_option maxHeartbeats 3200000 in
theorem implSp_any (h ac bu : Int) (a : Option Addr) (n c : Nat) (f : Nat → Int) (ta : Option Addr) (N tc : Nat) (T : Nat → TN) (te k v : Int) (w : World) (hs : Src w a n f) (hcn : n ≤ c) (hcm : c ≤ maxLen) (ht : TV w ta N T) (hN : N ≤ maxLen) (hn : ∀ i, i < N → (T i).n ≤ maxLen)
    (hr : ∀ i, i < N → ∀ j, j < (T i).n → -9223372036854775808 ≤ ((T i).S j).nd ∧ ((T i).S j).nd ≤ 9223372036854775807) (hk : IsSp h n f ac bu N T te k v) :
    Calls Tryd.prog 18 #[.agg #[.int .i64 h, .slice a n c, .int .i64 ac, .int .i64 bu, .slice ta N tc], .int .i64 te] w (RetSp w k v) := by
  have S0 := Lib.hid hs; have T0 := Lib.hid ht; have HN := Lib.hid hn; have HR := Lib.hid hr; have HCM := Lib.hid hcm
  have B_0 := Lib.hid ((Blk.new_at (w := w) (cs := #[.int .i64 h, .slice a n c, .int .i64 ac, .int .i64 bu, .slice ta N tc]) (t := 35) w.heap.size rfl).alloc (.cells #[.int .i64 0, .int .i64 0] 44))
  have R_0 := Lib.hid (Blk.new_at (w := w.alloc (.cells #[.int .i64 h, .slice a n c, .int .i64 ac, .int .i64 bu, .slice ta N tc] 35)) (cs := #[.int .i64 0, .int .i64 0]) (t := 44) (w.heap.size + 1) (by simp))
  have HB0 : Hid (Below w.heap.size w ((w.alloc (.cells #[.int .i64 h, .slice a n c, .int .i64 ac, .int .i64 bu, .slice ta N tc] 35)).alloc (.cells #[.int .i64 0, .int .i64 0] 44))) := ((Below.refl _ _).alloc (Nat.le_refl _) _).alloc (by simp) _
  have z0 : w.heap.size + 2 ≤ ((w.alloc (.cells #[.int .i64 h, .slice a n c, .int .i64 ac, .int .i64 bu, .slice ta N tc] 35)).alloc (.cells #[.int .i64 0, .int .i64 0] 44)).heap.size := by simp
  have b0 := B_0.out.at 0 rfl; have b1 := B_0.out.at 1 rfl; have b2 := B_0.out.at 2 rfl; have b3 := B_0.out.at 3 rfl; have b4 := B_0.out.at 4 rfl; have lB := B_0.out.1
  obtain ⟨k0, K, U, hk0⟩ : ∃ k0 K U, IsHb h n f ac bu N T k0 K U ∧ ((¬ k0 = 0 ∧ k = k0 ∧ v = 0) ∨ (k0 = 0 ∧ ∃ L, IsSF h n f ac bu 0 ∧ IsOI h n f ac bu 0 L ∧ hpF f L h N T = 0 ∧ K = N ∧ U = lf (heldL f L T N) ∧
    ((¬ (0 ≤ te ∧ te < (N : Int)) ∧ k = 4 ∧ v = 0) ∨ ∃ i : Nat, te = (i : Int) ∧ i < N ∧ (((T i).q - (heldT f L (T i) : Int) - 2 < 0 ∧ k = 9 ∧ v = 0) ∨ (0 ≤ (T i).q - (heldT f L (T i) : Int) - 2 ∧ k = 0 ∧ v = min ((T i).q - (heldT f L (T i) : Int) - 2) 12))))) := by
    rcases hk with ⟨h1, h2, h3⟩ | ⟨h1, L, h2, h3, h4, h5⟩
    · exact ⟨k, 0, fun _ => 0, .inl ⟨h1, h2, rfl⟩, .inl ⟨h1, rfl, h3⟩⟩
    · exact ⟨0, N, _, .inr ⟨rfl, h1, L, h2, h3, h4, rfl, rfl⟩, .inr ⟨rfl, L, h2, h3, h4, rfl, rfl, h5⟩⟩
  obtain ⟨hhb, hk1⟩ := hk0
  have HHB := Lib.hid hhb
  clear hs ht hn hr hcm hk hhb
  go_enter Tryd.func18, Tryd.ntmps18
  go_wp2_with fail
  generalize ((w.alloc (.cells #[.int .i64 h, .slice a n c, .int .i64 ac, .int .i64 bu, .slice ta N tc] 35)).alloc (.cells #[.int .i64 0, .int .i64 0] 44)) = w0 at *
  refine (implHb_any h ac bu a n c f ta N tc T k0 K U _ (S0.out.below HB0.out) hcn HCM.out (T0.out.below HB0.out) hN HN.out HR.out HHB.out).mono ?_
  rintro e w1 ⟨pa, pc, rfl, ho, hb⟩
  have HB1 := Lib.hid (thru0 HB0.out hb); have B_1 := Lib.hid (B_0.out.below hb); have R_1 := Lib.hid (R_0.out.below hb); have HO := Lib.hid ho.src
  have z1 := hb.size
  clear hb ho b0 b1 b2 b3 b4 lB B_0 R_0 HB0
  have HB2 := Lib.hid (HB1.out.alloc HB1.out.size (.cells #[.int .i64 k0, .slice pa K pc] 30))
  have B_2 := Lib.hid (B_1.out.alloc (.cells #[.int .i64 k0, .slice pa K pc] 30)); have R_2 := Lib.hid (R_1.out.alloc (.cells #[.int .i64 k0, .slice pa K pc] 30))
  have X_2 := Lib.hid (Blk.new_at (w := w1) (cs := #[.int .i64 k0, .slice pa K pc]) (t := 30) w1.heap.size rfl)
  have O_2 := Lib.hid (HO.out.alloc (.cells #[.int .i64 k0, .slice pa K pc] 30))
  have z2 : w1.heap.size + 1 ≤ (w1.alloc (.cells #[.int .i64 k0, .slice pa K pc] 30)).heap.size := by simp
  clear HB1 B_1 R_1 HO
  go_upto_region 2 with (fail)
  generalize w1.alloc (.cells #[.int .i64 k0, .slice pa K pc] 30) = w2 at *
  generalize w1.heap.size = X0 at *
  have x0 := X_2.out.at 0 rfl; have x1 := X_2.out.at 1 rfl; have lX := X_2.out.1
  have c0 := R_2.out.at 0 rfl; have c1 := R_2.out.at 1 rfl; have f0 := R_2.out.free 0 rfl; have f1 := R_2.out.free 1 rfl; have lR := R_2.out.1
  rcases hk1 with ⟨h0, rfl, rfl⟩ | ⟨rfl, L, h1, h2, h3, rfl, rfl, h4⟩
  · have hq : (k != 0) = true := by simp [h0]
    clear h0
    go_wp2
    refine bodyPost_ret (v := .agg #[.int .i64 k, .int .i64 0]) (by simp [results, Tryd.results18, go_sem, c0, c1, World.cell?_setCell_other, World.cell?_setCell_same']) rfl ⟨rfl, ?_⟩
    repeat (first | (with_reducible refine Below.setCell ?_ (by (try simp); (try omega)) _) | (with_reducible refine Below.alloc ?_ (by (try simp); (try omega)) _))
    exact HB2.out
  · have HPO := Lib.hid (hpOk_of h3)
    have HQA := Lib.hid (hpF_quota h3)
    have hN4 := HPO.out.n.2
    have b4 := B_2.out.at 4 rfl; have lB := B_2.out.1
    clear h1 h2 h3
    rcases h4 with ⟨h5, rfl, rfl⟩ | ⟨i, rfl, hi, h5⟩
    · have HNO := Lib.hid h5
      clear h5
      go_wp2_with fail
      refine (isTenant_any te K false _ hN (.inr ⟨rfl, HNO.out⟩)).mono ?_
      rintro e w3 ⟨rfl, hb⟩
      have HB3 := Lib.hid (thru0 HB2.out hb); have R_3 := Lib.hid (R_2.out.below hb)
      have z3 := hb.size
      clear hb c0 c1 f0 f1 lR x0 x1 lX b4 lB
      have c0 := R_3.out.at 0 rfl; have c1 := R_3.out.at 1 rfl; have f0 := R_3.out.free 0 rfl; have f1 := R_3.out.free 1 rfl; have lR := R_3.out.1
      go_wp2
      refine bodyPost_ret (v := .agg #[.int .i64 4, .int .i64 0]) (by simp [results, Tryd.results18, go_sem, c0, c1, World.cell?_setCell_other, World.cell?_setCell_same']) rfl ⟨rfl, ?_⟩
      repeat (first | (with_reducible refine Below.setCell ?_ (by (try simp); (try omega)) _) | (with_reducible refine Below.alloc ?_ (by (try simp); (try omega)) _))
      exact HB3.out
    · have hi' : (i : Int) < (K : Int) := by omega
      have hi0 : (0 : Int) ≤ (i : Int) := by omega
      go_wp2_with fail
      refine (isTenant_any (i : Int) K true _ hN (.inl ⟨rfl, hi0, hi'⟩)).mono ?_
      rintro e w3 ⟨rfl, hb⟩
      have HB3 := Lib.hid (thru0 HB2.out hb); have R_3 := Lib.hid (R_2.out.below hb); have B_3 := Lib.hid (B_2.out.below hb); have X_3 := Lib.hid (X_2.out.below hb); have O_3 := Lib.hid (O_2.out.below hb)
      have z3 := hb.size
      clear hb c0 c1 f0 f1 lR x0 x1 lX b4 lB
      have x0 := X_3.out.at 0 rfl; have x1 := X_3.out.at 1 rfl; have lX := X_3.out.1
      have b4 := B_3.out.at 4 rfl; have lB := B_3.out.1
      obtain ⟨tb, tq, rfl, lt, ⟨g0, -, -⟩, -⟩ := tv_get (T0.out.below HB3.out) hi
      obtain ⟨ob, oo, rfl, lo, o0⟩ := src_get O_3.out hi
      rw [heldL_at f L T hi] at o0
      have OKi := HPO.out.t i hi
      have hqv := OKi.q
      obtain ⟨hq2, hq200⟩ := hqv
      have hqa := HQA.out i hi
      obtain ⟨y, hy⟩ : ∃ y : Int, (heldT f L (T i) : Int) = y := ⟨_, rfl⟩
      have hy0 : 0 ≤ y := by omega
      rw [hy] at h5 hqa o0
      have H5 := Lib.hid h5
      clear h5 hy OKi
      generalize (T i).q = q at *
      go_wp2_with fail
      go_quiet (fail)
      have HB4 := Lib.hid (below_drewN HB3.out nq); have R_4 := Lib.hid (R_3.out.below (drewN_below w3 nq))
      have z4 : (w3.drewN nq).heap.size = w3.heap.size := by simp
      clear x0 x1 lX b4 lB g0 o0
      generalize w3.drewN nq = w4 at *
      have c0 := R_4.out.at 0 rfl; have c1 := R_4.out.at 1 rfl; have f0 := R_4.out.free 0 rfl; have f1 := R_4.out.free 1 rfl; have lR := R_4.out.1
      rcases H5.out with ⟨h6, rfl, rfl⟩ | ⟨h6, rfl, rfl⟩
      · go_wp2
        refine bodyPost_ret (v := .agg #[.int .i64 9, .int .i64 0]) (by simp [results, Tryd.results18, go_sem, c0, c1, World.cell?_setCell_other, World.cell?_setCell_same']) rfl ⟨rfl, ?_⟩
        repeat (first | (with_reducible refine Below.setCell ?_ (by (try simp); (try omega)) _) | (with_reducible refine Below.alloc ?_ (by (try simp); (try omega)) _))
        exact HB4.out
      · have h7 : ¬ q - y - 2 < 0 := by omega
        clear H5
        go_wp2
        refine bodyPost_ret (v := .agg #[.int .i64 0, .int .i64 (min (q - y - 2) 12)]) (by simp [results, Tryd.results18, go_sem, c0, c1, World.cell?_setCell_other, World.cell?_setCell_same']) rfl ⟨rfl, ?_⟩
        repeat (first | (with_reducible refine Below.setCell ?_ (by (try simp); (try omega)) _) | (with_reducible refine Below.alloc ?_ (by (try simp); (try omega)) _))
        exact HB4.out
end Go.Proofs.YtnpklnpicelcmaaDoor

namespace Go.Proofs.YtnpklnpicelcmaaDoor
open Go.RowKit
set_option linter.unusedVariables false

set_option maxRecDepth 100000 in
set_option maxHeartbeats 6400000 in
theorem e5_any (h ac bu : Int) (a : Option Addr) (n c : Nat) (f : Nat → Int) (ta : Option Addr) (N tc : Nat) (T : Nat → TN) (te : Int) (w : World)
    (s1 : Src w a n f) (hn : n ≤ maxLen) (t1 : TV w ta N T) (hN : N ≤ maxLen) (hm : ∀ i, i < N → (T i).n ≤ maxLen) (hw : ∀ i, i < N → TnW (T i)) :
    Calls Tryd.prog 5 #[.agg #[.int .i64 h, .slice a n c, .int .i64 ac, .int .i64 bu, .slice ta N tc], .int .i64 te] w (RetBool w true) := by
  obtain ⟨k, v, hk⟩ := isSp_some h n f ac bu N T te
  have HK := Lib.hid hk; have S1 := Lib.hid s1; have T1 := Lib.hid t1; have HM := Lib.hid hm; have HW := Lib.hid hw
  have HB0 := Lib.hid ((Below.refl w.heap.size w).alloc (Nat.le_refl _) (.cells #[.int .i64 h, .slice a n c, .int .i64 ac, .int .i64 bu, .slice ta N tc] 27))
  have A_0 := Lib.hid (Blk.new_at (w := w) (cs := #[.int .i64 h, .slice a n c, .int .i64 ac, .int .i64 bu, .slice ta N tc]) (t := 27) w.heap.size rfl)
  clear hk s1 t1 hm hw
  have c0 := A_0.out.at 0 rfl; have c1 := A_0.out.at 1 rfl; have c2 := A_0.out.at 2 rfl; have c3 := A_0.out.at 3 rfl; have c4 := A_0.out.at 4 rfl; have lc := A_0.out.1
  go_enter Tryd.func5, Tryd.ntmps5
  go_wp2_with fail
  refine (szHeap_any h ac bu a n c ta N tc T 1048576 _ (T1.out.below HB0.out) hn hN HM.out (by omega) (by omega)).mono ?_
  rintro e w1 ⟨hb, r, rfl, hr1, hr2⟩
  have HB1 := Lib.hid (thru0 HB0.out hb); have A_1 := Lib.hid (A_0.out.below hb)
  clear hb A_0 HB0 c0 c1 c2 c3 c4 lc
  rcases hr2 with rfl | ⟨h0, h1, h2, h3⟩
  · go_wp2
    go_ret
    exact ⟨rfl, HB1.out⟩
  have h9 : ¬ r < 0 := by omega
  have hn1 : n ≤ 1048576 := by omega
  have hN1 : N ≤ 1048576 := by omega
  have HM1 : Hid (∀ i, i < N → (T i).n ≤ 1048576) := Lib.hid fun i hi => by have := h3 i hi; omega
  clear h3 HM hn hN h1 h2
  have c0 := A_1.out.at 0 rfl; have c1 := A_1.out.at 1 rfl; have c2 := A_1.out.at 2 rfl; have c3 := A_1.out.at 3 rfl; have c4 := A_1.out.at 4 rfl; have lc := A_1.out.1
  go_wp2_with fail
  refine (toHeap_any h ac bu a n c f ta N tc T _ (S1.out.below HB1.out) (T1.out.below HB1.out) hn1 hN1 HM1.out).mono ?_
  rintro e w2 ⟨ga, gc, gt, gk, gm, G, rfl, go, gp, _, _, gs, hb, gc1, gc2⟩
  have HB2 := Lib.hid (thru0 HB1.out hb); have A_2 := Lib.hid (A_1.out.below hb); have GO := Lib.hid go.src; have GP := Lib.hid gp.src; have GS := Lib.hid gs; have GC := Lib.hid gc2
  clear hb go gp gs gc2 A_1 HB1 c0 c1 c2 c3 c4 lc
  go_wp2_with fail
  refine (specSp_any h ac bu ga n gc f gt N gk G te k v _ GO.out gc1 GC.out GP.out (max_of hN1) (tnsame_max GS.out HM1.out) (tnw_nd HW.out GS.out) (isSp_same HK.out GS.out)).mono ?_
  rintro e w3 ⟨rfl, hb⟩
  have HB3 := Lib.hid ((thru0 HB2.out hb).alloc (thru0 HB2.out hb).size (.cells #[.int .i64 k, .int .i64 v] 44)); have A_3 := Lib.hid ((A_2.out.below hb).alloc (.cells #[.int .i64 k, .int .i64 v] 44))
  have W_3 := Lib.hid (Blk.new_at (w := w3) (cs := #[.int .i64 k, .int .i64 v]) (t := 44) w3.heap.size rfl)
  clear hb A_2 HB2 GO GP GS GC gc1
  have c0 := A_3.out.at 0 rfl; have c1 := A_3.out.at 1 rfl; have c2 := A_3.out.at 2 rfl; have c3 := A_3.out.at 3 rfl; have c4 := A_3.out.at 4 rfl; have lc := A_3.out.1
  have zW : w3.heap.size + 1 ≤ (w3.alloc (.cells #[.int .i64 k, .int .i64 v] 44)).heap.size := by simp
  go_wp2_with fail
  generalize w3.alloc (.cells #[.int .i64 k, .int .i64 v] 44) = w3a at *
  generalize w3.heap.size = W0 at *
  refine (toHeap_any h ac bu a n c f ta N tc T _ (S1.out.below HB3.out) (T1.out.below HB3.out) hn1 hN1 HM1.out).mono ?_
  rintro e w4 ⟨xa, xc, xt, xk, xm, X, rfl, xo, xp, _, _, xs, hb, xc1, xc2⟩
  have HB4 := Lib.hid (thru0 HB3.out hb); have A_4 := Lib.hid (A_3.out.below hb); have W_4 := Lib.hid (W_3.out.below hb); have XS := Lib.hid xs; have XC := Lib.hid xc2
  have XO := Lib.hid (xo.src.alloc (.cells #[.int .i64 h, .slice xa n xc, .int .i64 ac, .int .i64 bu, .slice xt N xk] 35)); have XP := Lib.hid (xp.src.alloc (.cells #[.int .i64 h, .slice xa n xc, .int .i64 ac, .int .i64 bu, .slice xt N xk] 35))
  have W_5 := Lib.hid (W_4.out.alloc (.cells #[.int .i64 h, .slice xa n xc, .int .i64 ac, .int .i64 bu, .slice xt N xk] 35)); have A_5 := Lib.hid (A_4.out.alloc (.cells #[.int .i64 h, .slice xa n xc, .int .i64 ac, .int .i64 bu, .slice xt N xk] 35)); have HB5 := Lib.hid (HB4.out.alloc HB4.out.size (.cells #[.int .i64 h, .slice xa n xc, .int .i64 ac, .int .i64 bu, .slice xt N xk] 35))
  have X_5 := Lib.hid (Blk.new_at (w := w4) (cs := #[.int .i64 h, .slice xa n xc, .int .i64 ac, .int .i64 bu, .slice xt N xk]) (t := 35) w4.heap.size rfl)
  clear hb xo xp xs xc2 A_3 HB3 A_4 HB4 c0 c1 c2 c3 c4 lc
  go_wp2_with fail
  generalize w4.alloc (.cells #[.int .i64 h, .slice xa n xc, .int .i64 ac, .int .i64 bu, .slice xt N xk] 35) = w5 at *
  generalize w4.heap.size = X0 at *
  refine (implSp_any h ac bu xa n xc f xt N xk X te k v _ XO.out xc1 XC.out XP.out (max_of hN1) (tnsame_max XS.out HM1.out) (tnw_nd HW.out XS.out) (isSp_same HK.out XS.out)).mono ?_
  rintro e w6 ⟨rfl, hb⟩
  have HB5b := Lib.hid ((thru0 HB5.out hb).alloc (thru0 HB5.out hb).size (.cells #[.int .i64 k, .int .i64 v] 44)); have A_5b := Lib.hid ((A_5.out.below hb).alloc (.cells #[.int .i64 k, .int .i64 v] 44)); have X_5b := Lib.hid ((X_5.out.below hb).alloc (.cells #[.int .i64 k, .int .i64 v] 44)); have XO5b := Lib.hid ((XO.out.below hb).alloc (.cells #[.int .i64 k, .int .i64 v] 44)); have XP5b := Lib.hid ((XP.out.below hb).alloc (.cells #[.int .i64 k, .int .i64 v] 44)); have W_5b := Lib.hid ((W_5.out.below hb).alloc (.cells #[.int .i64 k, .int .i64 v] 44))
  have V_5b := Lib.hid (Blk.new_at (w := w6) (cs := #[.int .i64 k, .int .i64 v]) (t := 44) w6.heap.size rfl)
  have e0 := W_5b.out.at 0 rfl; have e1 := W_5b.out.at 1 rfl; have le := W_5b.out.1
  go_wp2_with fail
  generalize w6.alloc (.cells #[.int .i64 k, .int .i64 v] 44) = w6a at *
  generalize w6.heap.size = V0 at *
  refine (eqIntResult_same k v _).mono ?_
  rintro e w6b ⟨rfl, hb2⟩
  have HB6 := Lib.hid (thru0 HB5b.out hb2); have A_6 := Lib.hid (A_5b.out.below hb2); have X_6 := Lib.hid (X_5b.out.below hb2); have XO6 := Lib.hid (XO5b.out.below hb2); have XP6 := Lib.hid (XP5b.out.below hb2)
  clear hb2 e0 e1 le HB5b A_5b X_5b XO5b XP5b W_5b V_5b
  clear hb A_5 X_5 HB5 XO XP XC xc1
  have c0 := A_6.out.at 0 rfl; have c1 := A_6.out.at 1 rfl; have c2 := A_6.out.at 2 rfl; have c3 := A_6.out.at 3 rfl; have c4 := A_6.out.at 4 rfl; have lc := A_6.out.1
  have d0 := X_6.out.at 0 rfl; have d1 := X_6.out.at 1 rfl; have d2 := X_6.out.at 2 rfl; have d3 := X_6.out.at 3 rfl; have d4 := X_6.out.at 4 rfl; have ld := X_6.out.1
  go_wp2_with fail
  have A_d := Lib.hid A_6.out.drew; have X_d := Lib.hid X_6.out.drew; have HB_d := Lib.hid HB6.out.drew
  go_region_held3 (fun w' => w'.cell? ⟨w.heap.size, 0, none⟩ = some (.int .i64 h) ∧ w'.cell? ⟨w.heap.size, 1, none⟩ = some (.slice a n c) ∧ w'.cell? ⟨w.heap.size, 2, none⟩ = some (.int .i64 ac) ∧ w'.cell? ⟨w.heap.size, 3, none⟩ = some (.int .i64 bu) ∧ w'.cell? ⟨w.heap.size, 4, none⟩ = some (.slice ta N tc) ∧ w'.cell? ⟨X0, 0, none⟩ = some (.int .i64 h) ∧ w'.cell? ⟨X0, 1, none⟩ = some (.slice xa n xc) ∧ w'.cell? ⟨X0, 2, none⟩ = some (.int .i64 ac) ∧ w'.cell? ⟨X0, 3, none⟩ = some (.int .i64 bu) ∧ w'.cell? ⟨X0, 4, none⟩ = some (.slice xt N xk))
    (first | (with_reducible exact cap10Y A_6.out X_6.out) | (with_reducible exact cap10Y A_d.out X_d.out) | (with_reducible exact cap10Y A_7.out X_7.out) | (with_reducible exact cap10Y A_8.out X_8.out))
    (first | (go_at_call 8; refine (toHeap_any h ac bu a n c f ta N tc T _ (S1.out.below HB_d.out) (T1.out.below HB_d.out) hn1 hN1 HM1.out).mono ?_; rintro e w7 ⟨ya, yc, yt, yk, ym, Y, rfl, yo, yp, _, _, ys, hb, _, _⟩; have HB7 := Lib.hid (thru0 HB_d.out hb); have A_7 := Lib.hid (A_d.out.below hb); have X_7 := Lib.hid (X_d.out.below hb); have XO7 := Lib.hid (XO6.out.drew.below hb); have XP7 := Lib.hid (XP6.out.drew.below hb); have YO := Lib.hid yo.src; have YP := Lib.hid yp.src; have YS := Lib.hid (show ∀ i, i < N → TnSame (X i) (Y i) from fun i hi => tnsame_trans (tnsame_symm (XS.out i hi)) (ys i hi)); clear hb yo yp ys) | (go_at_call 11; refine (eqHeap_same h ac bu xa ya n xc yc f f xt yt N xk yk X Y _ XO7.out YO.out XP7.out YP.out (fun _ _ => rfl) YS.out hn1 hN1 (tnsame_n XS.out HM1.out)).mono ?_; rintro e w8 ⟨rfl, hb⟩; have HB8 := Lib.hid (thru0 HB7.out hb); have A_8 := Lib.hid (A_7.out.below hb); have X_8 := Lib.hid (X_7.out.below hb); clear hb))
  go_wp2
  go_ret
  exact ⟨rfl, HB8.out⟩
end Go.Proofs.YtnpklnpicelcmaaDoor

namespace Go.Proofs.YtnpklnpicelcmaaDoor
open Go.RowKit Go.Maps
set_option linter.unusedVariables false

theorem Tryd.underlyingMB : Tryd.prog.underlying 126 = some (.map 2 4) := by kernel_rfl

theorem zeroBo (w : World) : (zeroValue 4).run Tryd.prog w = .ok (.bool false) w := by kernel_rfl

/-- How an element is told. -/
def boR (v : Value) : Option (DataW Unit × List MemPlace) := match v with | .bool b => some (.lit (.bool b), []) | _ => none

/-- A block is a map that is true at the numbers of a list, and nowhere else. -/
def MapB (w : World) (b n : Nat) (R : List Int) : Prop :=
  ∃ D : DataW Unit, w.ownsMap Tryd.prog 2 boR b n D ∧ ∀ p, (Lit.int .i64 p).wf = true → D.atKey (.int .i64 p) (.lit (.bool false)) = .lit (.bool (decide (p ∈ R)))

section

variable {w : World} {b n : Nat} {R : List Int} {p : Int}

theorem MapB.lt (h : MapB w b n R) : b < w.heap.size := by obtain ⟨D, h1, _⟩ := h; exact h1.lt

theorem MapB.block {w' : World} (h : MapB w b n R) (hb : w'.heap[b]? = w.heap[b]?) : MapB w' b n R := by
  obtain ⟨D, ⟨es, clock, h1, h2⟩, h3⟩ := h
  exact ⟨D, ⟨es, clock, hb.trans h1, h2⟩, h3⟩

theorem MapB.below {w' : World} (h : MapB w b n R) (hb : Below w.heap.size w w') : MapB w' b n R := h.block (hb.block b h.lt)

theorem MapB.alloc (h : MapB w b n R) (o : Obj) : MapB (w.alloc o) b n R := h.below ((Below.refl _ _).alloc (Nat.le_refl _) o)

theorem MapB.made (w : World) : MapB (w.alloc (.map #[] 0)) w.heap.size 0 [] := ⟨.map [], World.ownsMap_made _ _ _ _, fun p _ => by simp; rfl⟩

theorem MapB.look (h : MapB w b n R) (hp : -1000000000 ≤ p ∧ p ≤ 1000000000) : (Instr.lookup 126 (.map (some b)) (.int .i64 p) false).run Tryd.prog w = .ok (.bool (decide (p ∈ R))) w := by
  obtain ⟨D, h1, h2⟩ := h
  obtain ⟨v, ps, hr, hv⟩ := h1.lookup keyI Tryd.underlyingMB (zeroBo w) (zd := .lit (.bool false)) (zp := []) rfl (keyOf_int_mk Tryd.underlyingI (wfI hp))
  have h3 := h2 p (wfI hp)
  rw [h3] at hv
  unfold boR at hv
  split at hv
  · rename_i c
    simp only [Option.some.injEq, Prod.mk.injEq, DataW.lit.injEq, Lit.bool.injEq] at hv
    rw [hr, hv.1]
  · cases hv

theorem MapB.update (h : MapB w b n R) (hn : n < maxLen) (hp : -1000000000 ≤ p ∧ p ≤ 1000000000) (hq : p ∉ R) : ∃ w', (Instr.mapUpdate 126 (.map (some b)) (.int .i64 p) (.bool true)).run Tryd.prog w = .ok () w' ∧ MapB w' b (n + 1) (R ++ [p]) ∧ w.grownBy w' (some b) := by
  obtain ⟨D, h1, h2⟩ := h
  obtain ⟨w', hr, h3, h4⟩ := h1.update keyI Tryd.underlyingMB hn (keyOf_int_mk Tryd.underlyingI (wfI hp)) (val := .bool true) (d := .lit (.bool true)) (ps := []) rfl
  refine ⟨w', hr, ⟨_, h3, fun q hwq => ?_⟩, h4⟩
  have hk : WideAt.IsKeyLit (Lit.int .i64 p) := by trivial
  by_cases e : q = p
  · subst e
    rw [Maps.atKey_put_same h1.isMap hk]; simp
  · have hne : Lit.int .i64 q ≠ Lit.int .i64 p := fun h => e (by simpa using h)
    rw [Maps.atKey_put_other hne, h2 q hwq]; simp [e]

end
end Go.Proofs.YtnpklnpicelcmaaDoor

namespace Go.Proofs.YtnpklnpicelcmaaDoor
open Go.RowKit
set_option linter.unusedVariables false

set_option maxRecDepth 100000 in
set_option maxHeartbeats 3200000 in
theorem specIi_any (h ac bu : Int) (a : Option Addr) (n c : Nat) (f : Nat → Int) (ta : Option Addr) (N tc : Nat) (T : Nat → TN) (k : Int) (r : Bool) (w : World) (hs : Src w a n f) (hcn : n ≤ c) (hcm : c ≤ maxLen) (ht : TV w ta N T) (hN : N ≤ maxLen) (hn : ∀ i, i < N → (T i).n ≤ maxLen)
    (hr : ∀ i, i < N → ∀ j, j < (T i).n → -9223372036854775808 ≤ ((T i).S j).nd ∧ ((T i).S j).nd ≤ 9223372036854775807) (hk : IsHpF h n f ac bu N T k) (hrk : r = decide (k = 0)) :
    Calls Tryd.prog 15 #[.agg #[.int .i64 h, .slice a n c, .int .i64 ac, .int .i64 bu, .slice ta N tc]] w (RetBool w r) := by
  have S0 := Lib.hid hs; have T0 := Lib.hid ht; have HN := Lib.hid hn; have HR := Lib.hid hr; have HCM := Lib.hid hcm; have HK := Lib.hid hk
  have B_0 := Lib.hid (Blk.new_at (w := w) (cs := #[.int .i64 h, .slice a n c, .int .i64 ac, .int .i64 bu, .slice ta N tc]) (t := 35) w.heap.size rfl)
  have HB0 : Hid (Below w.heap.size w (w.alloc (.cells #[.int .i64 h, .slice a n c, .int .i64 ac, .int .i64 bu, .slice ta N tc] 35))) := (Below.refl _ _).alloc (Nat.le_refl _) _
  have z0 : w.heap.size + 1 ≤ (w.alloc (.cells #[.int .i64 h, .slice a n c, .int .i64 ac, .int .i64 bu, .slice ta N tc] 35)).heap.size := by simp
  have b0 := B_0.out.at 0 rfl; have b1 := B_0.out.at 1 rfl; have b2 := B_0.out.at 2 rfl; have b3 := B_0.out.at 3 rfl; have b4 := B_0.out.at 4 rfl; have lB := B_0.out.1
  clear hs ht hn hr hcm
  by_cases h0 : k = 0
  case neg =>
    have hq : (k != 0) = true := by simp [h0]
    have hrf : r = false := by rw [hrk]; simp [h0]
    subst hrf
    clear hrk h0
    go_enter Tryd.func15, Tryd.ntmps15
    go_wp2_with fail
    refine (specHpF_any h ac bu a n c f ta N tc T k _ (S0.out.below HB0.out) hcn HCM.out (T0.out.below HB0.out) hN HN.out HR.out HK.out).mono ?_
    rintro e w1 ⟨rfl, hb⟩
    have HB1 := Lib.hid (thru0 HB0.out hb)
    clear hb b0 b1 b2 b3 b4 lB
    go_wp2
    go_ret
    exact ⟨rfl, HB1.out⟩
  subst h0
  have hrf : r = true := by rw [hrk]; rfl
  subst hrf
  clear hrk
  obtain ⟨L, h1, h2, h3⟩ : ∃ L, IsSF h n f ac bu 0 ∧ IsOI h n f ac bu 0 L ∧ hpF f L h N T = 0 := by
    rcases hk with ⟨_, h1⟩ | ⟨h1, L, h2, h3⟩
    · exact absurd rfl h1
    · exact ⟨L, h1, h2, h3.symm⟩
  have HPO := Lib.hid (hpOk_of h3)
  have HOI := Lib.hid h2
  have HPT := Lib.hid ((isSF_shape h1 h2).1)
  have HSZ := Lib.hid (right_of h1 h2).size
  have hN4 := HPO.out.n.2
  clear h1 h2 h3 hk
  go_enter Tryd.func15, Tryd.ntmps15
  go_wp2_with fail
  generalize w.alloc (.cells #[.int .i64 h, .slice a n c, .int .i64 ac, .int .i64 bu, .slice ta N tc] 35) = w0 at *
  refine (specHpF_any h ac bu a n c f ta N tc T 0 _ (S0.out.below HB0.out) hcn HCM.out (T0.out.below HB0.out) hN HN.out HR.out HK.out).mono ?_
  rintro e w1 ⟨rfl, hb⟩
  have HB1 := Lib.hid (thru0 HB0.out hb); have B_1 := Lib.hid (B_0.out.below hb)
  have z1 := hb.size
  clear hb b0 b1 b2 b3 b4 lB B_0 HB0
  have lB := B_1.out.1
  go_wp2_with fail
  refine (l3Objs_any w.heap.size h ac bu a n c f L _ (blk_pre4 B_1.out) (S0.out.below HB1.out) hcn HCM.out HOI.out).mono ?_
  rintro e w2 ⟨hb, v, M, rfl, rfl, hm⟩
  have HB2 := Lib.hid (thru0 HB1.out hb); have B_2 := Lib.hid (B_1.out.below hb)
  have HM2 := Lib.hid hm
  have z2 := hb.size
  clear hb hm lB B_1 HB1
  have OWa : Hid ((w2.alloc (.cells #[] 2)).ownsRow w2.heap.size 2 1 (.slice (some ⟨w2.heap.size, 0, none⟩) 0 0) ([] : List Int).length (nums ([] : List Int).length (lf []))) := World.ownsRow_lit w2 #[] 0 (Nat.le_refl _) (by simp [maxLen]) rfl
  have HBa : Hid (Below w2.heap.size w2 (w2.alloc (.cells #[] 2))) := (Below.refl _ _).alloc (Nat.le_refl _) _
  go_wp2
  go_loopw [5, 6] (fun u p wr => ∃ (i : Nat) (R : List Int), i ≤ N ∧ p = .int .i64 (i : Int) ∧ R.length ≤ 400 * i ∧ Hid (∀ x ∈ R, ∃ j : Nat, j < i ∧ ofOwn (M.map OM.x) (j : Int) x) ∧ Hid (Below w2.heap.size w2 wr) ∧ Hid (wr.ownsRow w2.heap.size 2 1 u R.length (nums R.length (lf R)))) (fun _ p _ => N - (intOf p).toNat)
  case atStart => exact ⟨0, [], Nat.zero_le _, rfl, by simp, Lib.hid (fun x hx => (by cases hx)), HBa, OWa⟩
  case round =>
    clear OWa HBa
    obtain ⟨i, R, hi, rfl, hRl, HD, HB_r, OW_r⟩ := hrel
    have hzr := HB_r.out.size
    have HBr := Lib.hid (thru0 HB2.out HB_r.out)
    have Br := Lib.hid (B_2.out.below HB_r.out)
    have b4 := Br.out.at 4 rfl; have lB := Br.out.1
    by_cases hlt : i < N
    · have hlt' : (i : Int) < (N : Int) := by omega
      have hi0 : (0 : Int) ≤ (i : Int) := by omega
      obtain ⟨tb, tq, rfl, lt, htn, hsl⟩ := tv_get (T0.out.below HBr.out) hlt
      have OKi := Lib.hid (HPO.out.t i hlt)
      have HTI := Lib.hid (tenant_own HPT.out HSZ.out OKi.out)
      have HTN := Lib.hid htn; have HSL := Lib.hid hsl
      have HMr := Lib.hid (HM2.out.below HB_r.out)
      have hrl : (rootsS (T i).S (T i).n).length ≤ 8 := Nat.le_trans (rootsS_len _ _) OKi.out.n.2
      obtain ⟨a1, k1, hvv⟩ := row_nil HM2.out.row
      have HVV := Lib.hid hvv
      have hL4 : Hid ((reachO f (M.map OM.x) (rootsS (T i).S (T i).n)).length ≤ 400) := Lib.hid (by
        have h1 := reachO_length HPT.out HSZ.out (rootsS_in OKi.out)
        have h2 := HM2.out.len
        simp at h1
        omega)
      have HRL := Lib.hid hRl
      clear htn hsl hvv
      go_wp2_with fail
      refine (l7RootsOf_any tb (tq + i * 3) (T i) _ lt HTN.out HSL.out OKi.out.n.2 (tnok_nd OKi.out (oms_place HM2.out))).mono ?_
      rintro e w3 ⟨ra, rc, rfl, ho, hb, _, _, _⟩
      have HB3 := Lib.hid (thru0 HB_r.out hb); have HS3 := Lib.hid ho.src; have OW3 := Lib.hid (ownsRow_below OW_r.out hb)
      clear ho hb b4 lB
      go_wp2_with fail
      refine (l4Reach_any v M w1.heap.size w1.heap.size ra (rootsS (T i).S (T i).n) rc f _ (HM2.out.below HB3.out) HPT.out HS3.out (by omega) (rootsS_in OKi.out)).mono ?_
      rintro e w4 ⟨qa, qc, rfl, ho, hb, _, _, hna⟩
      have HB4 := Lib.hid (thru0 HB3.out hb); have HS4 := Lib.hid ho.src; have OW4 := Lib.hid (ownsRow_below OW3.out hb); have HNA := Lib.hid hna
      have z4 := HB4.out.size
      clear ho hb hna HS3 OW3
      obtain ⟨QQ, hQQ⟩ : ∃ QQ, reachO f (M.map OM.x) (rootsS (T i).S (T i).n) = QQ := ⟨_, rfl⟩
      rw [hQQ] at HTI HS4 hL4 HNA ⊢
      clear hQQ
      have hq4 := hL4.out
      obtain ⟨ua, uc, hu, -, -, -⟩ := row_shape OW4.out
      subst hu
      go_wp2
      go_loopw [8] (fun p wq => ∃ kk : Nat, kk ≤ QQ.length ∧ p = .int .i64 (kk : Int) ∧ Hid (Below w4.heap.size w4 wq)) (fun p _ => QQ.length - (intOf p).toNat)
      case atStart => exact ⟨0, Nat.zero_le _, rfl, Below.refl _ _⟩
      case round =>
        obtain ⟨kk, hkk, rfl, HB_q⟩ := hrel
        by_cases hlt2 : kk < QQ.length
        · have hlt2' : (kk : Int) < (QQ.length : Int) := by omega
          have hk0 : (0 : Int) ≤ (kk : Int) := by omega
          obtain ⟨qb, qo, rfl, lq, q0⟩ := src_get (HS4.out.below HB_q.out) hlt2
          have hnot : decide (lf QQ kk ∈ R) = false := decide_eq_false (fun hin => by
            obtain ⟨j, hj, hoj⟩ := HD.out _ hin
            have := ofOwn_inj hoj (HTI.out _ (lf_mem hlt2))
            omega)
          have HNOT := Lib.hid hnot
          have OWq := Lib.hid (ownsRow_below OW4.out HB_q.out)
          have HSq : Hid (Src _ ua R.length (lf R)) := Lib.hid (by exact (own_of_row OWq.out).src)
          have hKN : Hid (kk + 1 ≤ QQ.length) := Lib.hid hlt2
          generalize lf QQ kk = y at *
          clear hnot
          go_wp2_with fail
          refine (l1Has_any ua R uc y _ HSq.out (by omega)).mono ?_
          rw [HNOT.out]
          rintro e w5 ⟨rfl, rfl⟩
          go_wp2
          go_roundw
          case rel => first | exact ⟨kk + 1, hKN.out, by go_num, HB_q⟩ | ((repeat apply Exists.intro); exact ⟨⟨kk + 1, hKN.out, by go_num, HB_q⟩, rfl⟩)
          case measure => simp [intOf]; omega
        · have hlt2' : ¬ (kk : Int) < (QQ.length : Int) := by omega
          have HB5 := Lib.hid (thru0 HB4.out HB_q.out)
          have OW5 := Lib.hid (ownsRow_below OW4.out HB_q.out); have HS5 := Lib.hid (HS4.out.below HB_q.out)
          have z5 := HB5.out.size
          have HGE : Hid (∀ k, (Value.slice ua R.length uc).ownBlock = some k → w2.heap.size ≤ k) := Lib.hid (fun k hk => (OW5.out.lt k hk).1)
          have HD2 : Hid (∀ x ∈ R ++ QQ, ∃ j : Nat, j < i + 1 ∧ ofOwn (M.map OM.x) (j : Int) x) := Lib.hid (fun x hx => by
            rcases List.mem_append.mp hx with hx | hx
            · obtain ⟨j, hj, hoj⟩ := HD.out x hx
              exact ⟨j, by omega, hoj⟩
            · exact ⟨i, by omega, HTI.out x hx⟩)
          have hRl2 : Hid ((R ++ QQ).length ≤ 400 * (i + 1)) := Lib.hid (by rw [List.length_append]; omega)
          go_wp2_with (at_builtin; go_loud (refine append_src rfl _ _ rfl w2.heap.size (.slice ua R.length uc) R.length (nums R.length (lf R)) rfl OW5.out qa _ qc _ rfl HS5.out HNA.out (by omega) z5 ?_); intro v9 w9 hown9 hgrow9)
          have HB9 : Hid (Below w2.heap.size w2 w9) := HB5.out.grown hgrow9 z5 (fun k hk => HGE.out k hk)
          have OW9 : Hid (w9.ownsRow w2.heap.size 2 1 v9 (R ++ QQ).length (nums (R ++ QQ).length (lf (R ++ QQ)))) := Lib.hid (by rw [← nums_app, List.length_append]; exact hown9)
          clear hown9 hgrow9 HS5 OW5 OW4 HS4 hRl
          generalize R ++ QQ = R2 at *
          go_wp2
          go_roundw
          case rel => first | exact ⟨i + 1, R2, by omega, by go_num, hRl2.out, HD2, HB9, OW9⟩ | ((repeat apply Exists.intro); exact ⟨⟨i + 1, R2, by omega, by go_num, hRl2.out, HD2, HB9, OW9⟩, rfl⟩)
          case measure => simp [intOf]; omega
    · have hlt' : ¬ (i : Int) < (N : Int) := by omega
      go_wp2
      go_ret
      exact ⟨rfl, HBr.out⟩
end Go.Proofs.YtnpklnpicelcmaaDoor

namespace Go.Proofs.YtnpklnpicelcmaaDoor
open Go.RowKit
set_option linter.unusedVariables false

theorem keeps_grown1 {w w' : World} {b : Nat} (hg : w.grownBy w' (some b)) : Keeps w w' b (b + 1) := ⟨hg.os, hg.tape, hg.output, hg.size, fun k hk hd => hg.block k hk (fun e => by cases e; omega)⟩

set_option maxRecDepth 100000 in
set_option maxHeartbeats 3200000 in
theorem holdIn_any (va : Option Addr) (vc N : Nat) (M : List TT) (L : List Ob) (w : World) (hv : TTV w va M) (hM : M.length = N) (hN : N ≤ 4) (hR : ∀ (j : Nat) (t : TT), M[j]? = some t → t.R.Nodup ∧ t.R.length ≤ 400 ∧ (∀ i, i < t.R.length → (t.U i).at_ = lf t.R i) ∧ (∀ p ∈ t.R, 0 ≤ p ∧ p ≤ 1000000) ∧ ∀ p ∈ t.R, ofOwn L (j : Int) p) :
    Calls Tryd.prog 40 #[.slice va N vc] w (RetBool w false) := by
  have HV := Lib.hid hv; have HML := Lib.hid hM; have HR := Lib.hid hR
  have hmk := @run_makeMap Tryd.prog
  clear hv hM hR
  go_enter Tryd.func40, Tryd.ntmps40
  have HM0 := Lib.hid (MapB.made w)
  have HB0 : Hid (Below w.heap.size w (w.alloc (.map #[] 0))) := (Below.refl _ _).alloc (Nat.le_refl _) _
  go_wp2
  generalize w.alloc (.map #[] 0) = w0 at *
  generalize hmb : w.heap.size = mb at *
  have HMB := Lib.hid hmb
  clear hmb
  go_loopw [11] (fun p wr => ∃ (i m : Nat) (R : List Int), i ≤ N ∧ p = .int .i64 (i : Int) ∧ m ≤ 400 * i ∧ Hid (MapB wr mb m R) ∧ Hid (∀ x ∈ R, ∃ j : Nat, j < i ∧ ofOwn L (j : Int) x) ∧ Hid (Below mb w wr)) (fun p _ => N - (intOf p).toNat)
  case atStart => exact ⟨0, 0, [], Nat.zero_le _, rfl, Nat.zero_le _, HM0, Lib.hid (fun x hx => (by cases hx)), HB0⟩
  case round =>
    clear HM0 HB0
    obtain ⟨i, m, R, hi, rfl, hm, HM_r, HD, HB_r⟩ := hrel
    have HBw : Hid (Below w.heap.size w wr) := Lib.hid (by rw [HMB.out]; exact HB_r.out)
    have hzr := HBw.out.size
    by_cases hlt : i < N
    · have hlt' : (i : Int) < (N : Int) := by omega
      have hi0 : (0 : Int) ≤ (i : Int) := by omega
      have hMi : i < M.length := by rw [HML.out]; exact hlt
      have hg : M[i]? = some M[i] := List.getElem?_eq_getElem hMi
      obtain ⟨hnd, hl4, hat, hpb, hown⟩ := HR.out i M[i] hg
      obtain ⟨vb, vq, rfl, lv, v0, v1, v2, v3, v4, v5, v6⟩ := (HV.out.below HBw.out).get hg
      have HND := Lib.hid hnd; have HL4 := Lib.hid hl4; have HAT := Lib.hid hat; have HPB := Lib.hid hpb; have HOWN := Lib.hid hown
      have HAL : Hid (Below w.heap.size w (wr.alloc (.cells #[.slice M[i].a M[i].n M[i].c, .int .i64 0, .slice M[i].oa M[i].R.length M[i].oc, .map (some M[i].mb), .int .i64 M[i].nu, .int .i64 M[i].q, .int .i64 M[i].h] 68))) := Lib.hid (HBw.out.alloc hzr _)
      have HG := Lib.hid ((HV.out.below HAL.out).2 M[i] (List.getElem_mem hMi))
      have HMA := Lib.hid (HM_r.out.alloc (.cells #[.slice M[i].a M[i].n M[i].c, .int .i64 0, .slice M[i].oa M[i].R.length M[i].oc, .map (some M[i].mb), .int .i64 M[i].nu, .int .i64 M[i].q, .int .i64 M[i].h] 68))
      have HI1 : Hid (i + 1 ≤ N) := Lib.hid hlt
      clear hnd hl4 hat hpb hown hg
      generalize M[i] = t at *
      go_wp2_with fail
      clear v0 v1 v2 v3 v4 v5 v6
      generalize wr.alloc (.cells #[.slice t.a t.n t.c, .int .i64 0, .slice t.oa t.R.length t.oc, .map (some t.mb), .int .i64 t.nu, .int .i64 t.q, .int .i64 t.h] 68) = w3 at *
      refine (places_any t.oa t.R t.oc t.U _ HG.out (by have := HL4.out; omega) HAT.out).mono ?_
      rintro e w4 ⟨pa, pc, rfl, ho, hb, -, -, -⟩
      have HB4 := Lib.hid (thru0 HAL.out hb); have HM4 := Lib.hid (HMA.out.below hb); have HO4 : Hid (OwnIn w4 w3.heap.size w4.heap.size pa t.R.length (lf t.R)) := Lib.hid ho.into
      have hm3 : mb + 1 ≤ w3.heap.size := HMA.out.lt
      have z4 : w3.heap.size ≤ w4.heap.size := hb.size
      clear ho hb
      have hl4 := HL4.out
      go_wp2
      go_loopw [21] (fun p wq => ∃ (kk m2 : Nat) (R2 : List Int), kk ≤ t.R.length ∧ p = .int .i64 (kk : Int) ∧ m2 ≤ 400 * i + kk ∧ Hid (MapB wq mb m2 R2) ∧ Hid (∀ x ∈ R2, (∃ j : Nat, j < i ∧ ofOwn L (j : Int) x) ∨ ∃ q, q < kk ∧ x = lf t.R q) ∧ Hid (Keeps w4 wq mb (mb + 1))) (fun p _ => t.R.length - (intOf p).toNat)
      case atStart => exact ⟨0, m, R, Nat.zero_le _, rfl, by omega, HM4, Lib.hid (fun x hx => .inl (HD.out x hx)), Keeps.refl _ _ _⟩
      case round =>
        clear HM4
        obtain ⟨kk, m2, R2, hkk, rfl, hm2, HM_q, HD2, HK_q⟩ := hrel
        by_cases hlt2 : kk < t.R.length
        · have hlt2' : (kk : Int) < (t.R.length : Int) := by omega
          have hk0 : (0 : Int) ≤ (kk : Int) := by omega
          obtain ⟨qb, qo, rfl, lq, q0⟩ := src_get (HO4.out.keeps HK_q.out (.inr hm3)).src hlt2
          have hyb := HPB.out _ (lf_mem hlt2)
          have hnot : lf t.R kk ∉ R2 := fun hin => by
            rcases HD2.out _ hin with ⟨j, hj, hoj⟩ | ⟨q, hq, he⟩
            · have := ofOwn_inj hoj (HOWN.out _ (lf_mem hlt2))
              omega
            · have hq' : q < t.R.length := by omega
              rw [lf_at hlt2, lf_at hq'] at he
              have := (List.getElem_inj HND.out).mp he
              omega
          have hlk := HM_q.out.look (p := lf t.R kk) (by omega)
          rw [decide_eq_false hnot] at hlk
          obtain ⟨w6, hr6, hm6, hg6⟩ := HM_q.out.update (by unfold maxLen; omega) (p := lf t.R kk) (by omega) hnot
          have HM6 := Lib.hid hm6
          have HK6 := Lib.hid (HK_q.out.trans (keeps_grown1 hg6))
          have HD6 : Hid (∀ x ∈ R2 ++ [lf t.R kk], (∃ j : Nat, j < i ∧ ofOwn L (j : Int) x) ∨ ∃ q, q < kk + 1 ∧ x = lf t.R q) := Lib.hid (fun x hx => by
            rcases List.mem_append.mp hx with hx | hx
            · rcases HD2.out x hx with h1 | ⟨q, hq, he⟩
              · exact .inl h1
              · exact .inr ⟨q, by omega, he⟩
            · simp only [List.mem_singleton] at hx
              exact .inr ⟨kk, by omega, hx⟩)
          have hKN : Hid (kk + 1 ≤ t.R.length) := Lib.hid hlt2
          clear hm6 hg6 hnot hyb
          obtain ⟨y, hy⟩ : ∃ y, lf t.R kk = y := ⟨_, rfl⟩
          rw [hy] at q0 hlk hr6 HM6 HD6
          clear hy
          go_wp2_with fail
          clear hr6 hlk q0
          go_wp2
          go_roundw
          case rel => first | exact ⟨kk + 1, m2 + 1, R2 ++ [y], hKN.out, by go_num, by omega, HM6, HD6, HK6⟩ | ((repeat apply Exists.intro); exact ⟨⟨kk + 1, m2 + 1, R2 ++ [y], hKN.out, by go_num, by omega, HM6, HD6, HK6⟩, rfl⟩)
          case measure => simp [intOf]; omega
        · have hlt2' : ¬ (kk : Int) < (t.R.length : Int) := by omega
          obtain rfl : kk = t.R.length := by omega
          have HD3 : Hid (∀ x ∈ R2, ∃ j : Nat, j < i + 1 ∧ ofOwn L (j : Int) x) := Lib.hid (fun x hx => by
            rcases HD2.out x hx with ⟨j, hj, hoj⟩ | ⟨q, hq, he⟩
            · exact ⟨j, by omega, hoj⟩
            · exact ⟨i, by omega, he ▸ HOWN.out _ (lf_mem hq)⟩)
          have HB6 := Lib.hid ((show Below mb w w4 by have := HB4.out; rw [HMB.out] at this; exact this).trans (HK_q.out.below (Nat.le_refl _) (by omega)))
          go_wp2
          go_roundw
          case rel => first | exact ⟨i + 1, m2, R2, HI1.out, by go_num, by omega, HM_q, HD3, HB6⟩ | ((repeat apply Exists.intro); exact ⟨⟨i + 1, m2, R2, HI1.out, by go_num, by omega, HM_q, HD3, HB6⟩, rfl⟩)
          case measure => simp [intOf]; omega
    · have hlt' : ¬ (i : Int) < (N : Int) := by omega
      go_wp2
      go_ret
      exact ⟨rfl, HBw.out⟩

set_option maxRecDepth 100000 in
set_option maxHeartbeats 3200000 in
theorem implIi_any (h ac bu : Int) (a : Option Addr) (n c : Nat) (f : Nat → Int) (ta : Option Addr) (N tc : Nat) (T : Nat → TN) (k : Int) (r : Bool) (w : World) (hs : Src w a n f) (hcn : n ≤ c) (hcm : c ≤ maxLen) (ht : TV w ta N T) (hN : N ≤ maxLen) (hn : ∀ i, i < N → (T i).n ≤ maxLen)
    (hr : ∀ i, i < N → ∀ j, j < (T i).n → -9223372036854775808 ≤ ((T i).S j).nd ∧ ((T i).S j).nd ≤ 9223372036854775807) (hk : IsHpF h n f ac bu N T k) (hrk : r = decide (k = 0)) :
    Calls Tryd.prog 16 #[.agg #[.int .i64 h, .slice a n c, .int .i64 ac, .int .i64 bu, .slice ta N tc]] w (RetBool w r) := by
  have S0 := Lib.hid hs; have T0 := Lib.hid ht; have HN := Lib.hid hn; have HR := Lib.hid hr; have HCM := Lib.hid hcm; have HK := Lib.hid hk
  have B_0 := Lib.hid (Blk.new_at (w := w) (cs := #[.int .i64 h, .slice a n c, .int .i64 ac, .int .i64 bu, .slice ta N tc]) (t := 35) w.heap.size rfl)
  have HB0 : Hid (Below w.heap.size w (w.alloc (.cells #[.int .i64 h, .slice a n c, .int .i64 ac, .int .i64 bu, .slice ta N tc] 35))) := (Below.refl _ _).alloc (Nat.le_refl _) _
  have z0 : w.heap.size + 1 ≤ (w.alloc (.cells #[.int .i64 h, .slice a n c, .int .i64 ac, .int .i64 bu, .slice ta N tc] 35)).heap.size := by simp
  have b0 := B_0.out.at 0 rfl; have b1 := B_0.out.at 1 rfl; have b2 := B_0.out.at 2 rfl; have b3 := B_0.out.at 3 rfl; have b4 := B_0.out.at 4 rfl; have lB := B_0.out.1
  clear hs ht hn hr hcm
  by_cases h0 : k = 0
  case neg =>
    have hq : (k == 0) = false := by simp [h0]
    have hrf : r = false := by rw [hrk]; simp [h0]
    subst hrf
    clear hrk h0
    go_enter Tryd.func16, Tryd.ntmps16
    go_wp2_with fail
    refine (implHpF_any h ac bu a n c f ta N tc T k _ (S0.out.below HB0.out) hcn HCM.out (T0.out.below HB0.out) hN HN.out HR.out HK.out).mono ?_
    rintro e w1 ⟨rfl, hb⟩
    have HB1 := Lib.hid (thru0 HB0.out hb)
    clear hb b0 b1 b2 b3 b4 lB
    go_wp2
    go_ret
    exact ⟨rfl, HB1.out⟩
  subst h0
  have hrf : r = true := by rw [hrk]; rfl
  subst hrf
  clear hrk
  obtain ⟨L, h1, h2, h3⟩ : ∃ L, IsSF h n f ac bu 0 ∧ IsOI h n f ac bu 0 L ∧ hpF f L h N T = 0 := by
    rcases hk with ⟨_, h1⟩ | ⟨h1, L, h2, h3⟩
    · exact absurd rfl h1
    · exact ⟨L, h1, h2, h3.symm⟩
  have HPO := Lib.hid (hpOk_of h3)
  have HOI := Lib.hid h2; have HSF := Lib.hid h1
  have HRT := Lib.hid (right_of h1 h2)
  have HPB := Lib.hid (fun p hp => place_bound h1 h2 (p := p) hp)
  have hN4 := HPO.out.n.2
  have hL4 := (isOI_small h2).1
  clear h1 h2 h3 hk
  go_enter Tryd.func16, Tryd.ntmps16
  go_wp2_with fail
  generalize w.alloc (.cells #[.int .i64 h, .slice a n c, .int .i64 ac, .int .i64 bu, .slice ta N tc] 35) = w0 at *
  refine (implHpF_any h ac bu a n c f ta N tc T 0 _ (S0.out.below HB0.out) hcn HCM.out (T0.out.below HB0.out) hN HN.out HR.out HK.out).mono ?_
  rintro e w1 ⟨rfl, hb⟩
  have HB1 := Lib.hid (thru0 HB0.out hb); have B_1 := Lib.hid (B_0.out.below hb)
  have z1 := hb.size
  clear hb b0 b1 b2 b3 b4 lB B_0 HB0
  have b0 := B_1.out.at 0 rfl; have b1 := B_1.out.at 1 rfl; have b2 := B_1.out.at 2 rfl; have b3 := B_1.out.at 3 rfl; have b4 := B_1.out.at 4 rfl; have lB := B_1.out.1
  go_wp2_with fail
  refine (tenantsOf_any h ac bu a n c f ta N tc T L _ (S0.out.below HB1.out) hcn HCM.out (T0.out.below HB1.out) HSF.out HOI.out HPO.out).mono ?_
  rintro e w2 ⟨hb, va, vc, M, rfl, hMl, hv, hok⟩
  have HB2 := Lib.hid (thru0 HB1.out hb)
  have HV2 := Lib.hid hv; have HML := Lib.hid hMl
  have HR2 : Hid (∀ (j : Nat) (t : TT), M[j]? = some t → t.R.Nodup ∧ t.R.length ≤ 400 ∧ (∀ i, i < t.R.length → (t.U i).at_ = lf t.R i) ∧ (∀ p ∈ t.R, 0 ≤ p ∧ p ≤ 1000000) ∧ ∀ p ∈ t.R, ofOwn L (j : Int) p) := Lib.hid (fun j t ht => by
    have hjM : j < M.length := (List.getElem?_eq_some_iff.mp ht).1
    have hjN : j < N := by rw [← HML.out]; exact hjM
    obtain ⟨hR, -, -, -, -, -, -, hsm⟩ := hok j t ht
    have OKj := HPO.out.t j hjN
    have hown := tenant_own HRT.out.points HRT.out.size OKj
    rw [← hR] at hown
    refine ⟨by rw [hR]; exact reachO_nodup _ _ _, ?_, fun i hi => ?_, fun p hp => ?_, hown⟩
    · rw [hR]
      have h1 := reachO_length HRT.out.points HRT.out.size (rootsS_in OKj)
      omega
    · obtain ⟨x, hx, hs⟩ := hsm i hi
      have e : (t.U i).at_ = x.at_ := hs.1
      rw [e, findO_place hx]
    · obtain ⟨x, hx, -⟩ := hown p hp
      exact HPB.out p (mem_placesO.2 ⟨x, hx⟩))
  clear hb hv hok hMl b0 b1 b2 b3 b4 lB
  go_wp2_with fail
  refine (holdIn_any va vc N M L _ HV2.out HML.out hN4 HR2.out).mono ?_
  rintro e w3 ⟨rfl, hb⟩
  have HB3 := Lib.hid (thru0 HB2.out hb)
  clear hb
  go_wp2
  go_ret
  exact ⟨rfl, HB3.out⟩
end Go.Proofs.YtnpklnpicelcmaaDoor

namespace Go.Proofs.YtnpklnpicelcmaaDoor
open Go.RowKit
set_option linter.unusedVariables false

set_option maxRecDepth 100000 in
set_option maxHeartbeats 6400000 in
theorem e4_any (h ac bu : Int) (a : Option Addr) (n c : Nat) (f : Nat → Int) (ta : Option Addr) (N tc : Nat) (T : Nat → TN) (w : World)
    (s1 : Src w a n f) (hn : n ≤ maxLen) (t1 : TV w ta N T) (hN : N ≤ maxLen) (hm : ∀ i, i < N → (T i).n ≤ maxLen) (hw : ∀ i, i < N → TnW (T i)) :
    Calls Tryd.prog 4 #[.agg #[.int .i64 h, .slice a n c, .int .i64 ac, .int .i64 bu, .slice ta N tc]] w (RetBool w true) := by
  obtain ⟨k, hk⟩ := isHpF_some h n f ac bu N T
  obtain ⟨r0, hr0⟩ : ∃ r0 : Bool, r0 = decide (k = 0) := ⟨_, rfl⟩
  have HR0 := Lib.hid hr0
  clear hr0
  have HK := Lib.hid hk; have S1 := Lib.hid s1; have T1 := Lib.hid t1; have HM := Lib.hid hm; have HW := Lib.hid hw
  have HB0 := Lib.hid ((Below.refl w.heap.size w).alloc (Nat.le_refl _) (.cells #[.int .i64 h, .slice a n c, .int .i64 ac, .int .i64 bu, .slice ta N tc] 27))
  have A_0 := Lib.hid (Blk.new_at (w := w) (cs := #[.int .i64 h, .slice a n c, .int .i64 ac, .int .i64 bu, .slice ta N tc]) (t := 27) w.heap.size rfl)
  clear hk s1 t1 hm hw
  have c0 := A_0.out.at 0 rfl; have c1 := A_0.out.at 1 rfl; have c2 := A_0.out.at 2 rfl; have c3 := A_0.out.at 3 rfl; have c4 := A_0.out.at 4 rfl; have lc := A_0.out.1
  go_enter Tryd.func4, Tryd.ntmps4
  go_wp2_with fail
  refine (szHeap_any h ac bu a n c ta N tc T 1048576 _ (T1.out.below HB0.out) hn hN HM.out (by omega) (by omega)).mono ?_
  rintro e w1 ⟨hb, r, rfl, hr1, hr2⟩
  have HB1 := Lib.hid (thru0 HB0.out hb); have A_1 := Lib.hid (A_0.out.below hb)
  clear hb A_0 HB0 c0 c1 c2 c3 c4 lc
  rcases hr2 with rfl | ⟨h0, h1, h2, h3⟩
  · go_wp2
    go_ret
    exact ⟨rfl, HB1.out⟩
  have h9 : ¬ r < 0 := by omega
  have hn1 : n ≤ 1048576 := by omega
  have hN1 : N ≤ 1048576 := by omega
  have HM1 : Hid (∀ i, i < N → (T i).n ≤ 1048576) := Lib.hid fun i hi => by have := h3 i hi; omega
  clear h3 HM hn hN h1 h2
  have c0 := A_1.out.at 0 rfl; have c1 := A_1.out.at 1 rfl; have c2 := A_1.out.at 2 rfl; have c3 := A_1.out.at 3 rfl; have c4 := A_1.out.at 4 rfl; have lc := A_1.out.1
  go_wp2_with fail
  refine (toHeap_any h ac bu a n c f ta N tc T _ (S1.out.below HB1.out) (T1.out.below HB1.out) hn1 hN1 HM1.out).mono ?_
  rintro e w2 ⟨ga, gc, gt, gk, gm, G, rfl, go, gp, _, _, gs, hb, gc1, gc2⟩
  have HB2 := Lib.hid (thru0 HB1.out hb); have A_2 := Lib.hid (A_1.out.below hb); have GO := Lib.hid go.src; have GP := Lib.hid gp.src; have GS := Lib.hid gs; have GC := Lib.hid gc2
  clear hb go gp gs gc2 A_1 HB1 c0 c1 c2 c3 c4 lc
  go_wp2_with fail
  refine (specIi_any h ac bu ga n gc f gt N gk G k r0 _ GO.out gc1 GC.out GP.out (max_of hN1) (tnsame_max GS.out HM1.out) (tnw_nd HW.out GS.out) (isHpF_same HK.out GS.out) HR0.out).mono ?_
  rintro e w3 ⟨rfl, hb⟩
  have HB3 := Lib.hid (thru0 HB2.out hb); have A_3 := Lib.hid (A_2.out.below hb)
  clear hb A_2 HB2 GO GP GS GC gc1
  have c0 := A_3.out.at 0 rfl; have c1 := A_3.out.at 1 rfl; have c2 := A_3.out.at 2 rfl; have c3 := A_3.out.at 3 rfl; have c4 := A_3.out.at 4 rfl; have lc := A_3.out.1
  go_wp2_with fail
  refine (toHeap_any h ac bu a n c f ta N tc T _ (S1.out.below HB3.out) (T1.out.below HB3.out) hn1 hN1 HM1.out).mono ?_
  rintro e w4 ⟨xa, xc, xt, xk, xm, X, rfl, xo, xp, _, _, xs, hb, xc1, xc2⟩
  have HB4 := Lib.hid (thru0 HB3.out hb); have A_4 := Lib.hid (A_3.out.below hb); have XS := Lib.hid xs; have XC := Lib.hid xc2
  have XO := Lib.hid (xo.src.alloc (.cells #[.int .i64 h, .slice xa n xc, .int .i64 ac, .int .i64 bu, .slice xt N xk] 35)); have XP := Lib.hid (xp.src.alloc (.cells #[.int .i64 h, .slice xa n xc, .int .i64 ac, .int .i64 bu, .slice xt N xk] 35))
  have A_5 := Lib.hid (A_4.out.alloc (.cells #[.int .i64 h, .slice xa n xc, .int .i64 ac, .int .i64 bu, .slice xt N xk] 35)); have HB5 := Lib.hid (HB4.out.alloc HB4.out.size (.cells #[.int .i64 h, .slice xa n xc, .int .i64 ac, .int .i64 bu, .slice xt N xk] 35))
  have X_5 := Lib.hid (Blk.new_at (w := w4) (cs := #[.int .i64 h, .slice xa n xc, .int .i64 ac, .int .i64 bu, .slice xt N xk]) (t := 35) w4.heap.size rfl)
  clear hb xo xp xs xc2 A_3 HB3 A_4 HB4 c0 c1 c2 c3 c4 lc
  go_wp2_with fail
  generalize w4.alloc (.cells #[.int .i64 h, .slice xa n xc, .int .i64 ac, .int .i64 bu, .slice xt N xk] 35) = w5 at *
  generalize w4.heap.size = X0 at *
  refine (implIi_any h ac bu xa n xc f xt N xk X k r0 _ XO.out xc1 XC.out XP.out (max_of hN1) (tnsame_max XS.out HM1.out) (tnw_nd HW.out XS.out) (isHpF_same HK.out XS.out) HR0.out).mono ?_
  rintro e w6 ⟨rfl, hb⟩
  have HB6 := Lib.hid (thru0 HB5.out hb); have A_6 := Lib.hid (A_5.out.below hb); have X_6 := Lib.hid (X_5.out.below hb); have XO6 := Lib.hid (XO.out.below hb); have XP6 := Lib.hid (XP.out.below hb)
  clear hb A_5 X_5 HB5 XO XP XC xc1
  have c0 := A_6.out.at 0 rfl; have c1 := A_6.out.at 1 rfl; have c2 := A_6.out.at 2 rfl; have c3 := A_6.out.at 3 rfl; have c4 := A_6.out.at 4 rfl; have lc := A_6.out.1
  have d0 := X_6.out.at 0 rfl; have d1 := X_6.out.at 1 rfl; have d2 := X_6.out.at 2 rfl; have d3 := X_6.out.at 3 rfl; have d4 := X_6.out.at 4 rfl; have ld := X_6.out.1
  go_wp2_with fail
  have A_d := Lib.hid A_6.out.drew; have X_d := Lib.hid X_6.out.drew; have HB_d := Lib.hid HB6.out.drew
  go_region_held3 (fun w' => w'.cell? ⟨w.heap.size, 0, none⟩ = some (.int .i64 h) ∧ w'.cell? ⟨w.heap.size, 1, none⟩ = some (.slice a n c) ∧ w'.cell? ⟨w.heap.size, 2, none⟩ = some (.int .i64 ac) ∧ w'.cell? ⟨w.heap.size, 3, none⟩ = some (.int .i64 bu) ∧ w'.cell? ⟨w.heap.size, 4, none⟩ = some (.slice ta N tc) ∧ w'.cell? ⟨X0, 0, none⟩ = some (.int .i64 h) ∧ w'.cell? ⟨X0, 1, none⟩ = some (.slice xa n xc) ∧ w'.cell? ⟨X0, 2, none⟩ = some (.int .i64 ac) ∧ w'.cell? ⟨X0, 3, none⟩ = some (.int .i64 bu) ∧ w'.cell? ⟨X0, 4, none⟩ = some (.slice xt N xk))
    (first | (with_reducible exact cap10Y A_6.out X_6.out) | (with_reducible exact cap10Y A_d.out X_d.out) | (with_reducible exact cap10Y A_7.out X_7.out) | (with_reducible exact cap10Y A_8.out X_8.out))
    (first | (go_at_call 8; refine (toHeap_any h ac bu a n c f ta N tc T _ (S1.out.below HB_d.out) (T1.out.below HB_d.out) hn1 hN1 HM1.out).mono ?_; rintro e w7 ⟨ya, yc, yt, yk, ym, Y, rfl, yo, yp, _, _, ys, hb, _, _⟩; have HB7 := Lib.hid (thru0 HB_d.out hb); have A_7 := Lib.hid (A_d.out.below hb); have X_7 := Lib.hid (X_d.out.below hb); have XO7 := Lib.hid (XO6.out.drew.below hb); have XP7 := Lib.hid (XP6.out.drew.below hb); have YO := Lib.hid yo.src; have YP := Lib.hid yp.src; have YS := Lib.hid (show ∀ i, i < N → TnSame (X i) (Y i) from fun i hi => tnsame_trans (tnsame_symm (XS.out i hi)) (ys i hi)); clear hb yo yp ys) | (go_at_call 11; refine (eqHeap_same h ac bu xa ya n xc yc f f xt yt N xk yk X Y _ XO7.out YO.out XP7.out YP.out (fun _ _ => rfl) YS.out hn1 hN1 (tnsame_n XS.out HM1.out)).mono ?_; rintro e w8 ⟨rfl, hb⟩; have HB8 := Lib.hid (thru0 HB7.out hb); have A_8 := Lib.hid (A_7.out.below hb); have X_8 := Lib.hid (X_7.out.below hb); clear hb))
  go_wp2
  go_ret
  exact ⟨rfl, HB8.out⟩
end Go.Proofs.YtnpklnpicelcmaaDoor

