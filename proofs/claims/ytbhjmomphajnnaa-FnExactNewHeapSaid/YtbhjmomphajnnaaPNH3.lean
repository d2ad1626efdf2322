/- Texts merged: NH2 to NH4. -/
import Derived.Test.YtbhjmomphajnnaaPNH2
namespace Go.Proofs.Ytbhjmomphajnnaa
open Go.RowKit
set_option linter.unusedVariables false
attribute [local go_sem] opN

/-- What a new tenant is. -/
def NT (qf sf : Nat → Int) (i : Nat) (t : TN) : Prop := t.q = qf i ∧ t.h = 0 ∧ (t.n : Int) = sf i ∧ t.S = zS

/-- A new heap. -/
def RetNew (W : World) (m Q : Nat) (qf sf : Nat → Int) (e : Ending) (w' : World) : Prop :=
  ∃ (a : Option Addr) (c : Nat) (ta : Option Addr) (tc mid : Nat) (T : Nat → TN), e = .returned (.agg #[.int .i64 (m : Int), .slice a (2 * m) c, .int .i64 0, .int .i64 0, .slice ta Q tc]) ∧ OwnIn w' W.heap.size mid a (2 * m) (fun _ => 0) ∧ TVO w' mid w'.heap.size ta Q T ∧ W.heap.size ≤ mid ∧ mid ≤ w'.heap.size ∧ (∀ i, i < Q → NT qf sf i (T i)) ∧ Below W.heap.size W w'

set_option maxRecDepth 100000 in
set_option maxHeartbeats 6400000 in
theorem l7New_any (m Q qc sc g : Nat) (qa sa : Option Addr) (qf sf : Nat → Int) (w : World) (hB : Blk w g [.int .i64 (m : Int), .slice qa Q qc, .slice sa Q sc]) (s1 : Src w qa Q qf) (s2 : Src w sa Q sf) (hm : m ≤ 200) (hQ : Q ≤ 4) (hS : ∀ i, i < Q → 1 ≤ sf i ∧ sf i ≤ 8) :
    Calls Try.prog 110 #[.pointer (some ⟨g, 0, none⟩)] w (RetNew w m Q qf sf) := by
  have B := Lib.hid hB; have S1 := Lib.hid s1; have S2 := Lib.hid s2; have HS := Lib.hid hS
  have hgl := hB.1
  obtain ⟨j0, hif, hj0, hj1, hj2⟩ := info_parts Try.infoTN
  obtain ⟨k0, kif, hk0, hk1, hk2⟩ := info_parts Try.infoHS
  clear hB s1 s2 hS
  go_enter Try.func110, Try.ntmps110
  have R_0 := Lib.hid (Blk.new_at (w := w) (cs := #[.int .i64 0, .slice none 0 0, .int .i64 0, .int .i64 0, .slice none 0 0]) (t := 83) w.heap.size rfl)
  have HB0 := Lib.hid ((Below.refl w.heap.size w).alloc (Nat.le_refl _) (.cells #[.int .i64 0, .slice none 0 0, .int .i64 0, .int .i64 0, .slice none 0 0] 83))
  have b0 := (B.out.below HB0.out).at 0 rfl; have lB := (B.out.below HB0.out).1
  go_wp2_with fail
  refine (l1New_any m _ hm).mono ?_
  rintro e w1 ⟨a, c, rfl, ho, hb, _, _, _⟩
  have HB1 := Lib.hid (thru0 HB0.out hb)
  have R_1 := Lib.hid (R_0.out.below hb)
  have O_1 : Hid (OwnIn w1 (w.heap.size + 1) w1.heap.size a (2 * m) (fun _ => 0)) := Lib.hid ((ho.mono (by simp)).into)
  clear ho hb b0 lB R_0 HB0
  have hz1 : w.heap.size + 1 ≤ w1.heap.size := by have := R_1.out.1; omega
  have X_2 := Lib.hid (Blk.new_at (w := w1) (cs := #[.int .i64 (m : Int), .slice a (2 * m) c, .int .i64 0, .int .i64 0, .slice none 0 0]) (t := 83) w1.heap.size rfl)
  have HB2 := Lib.hid (HB1.out.alloc HB1.out.size (.cells #[.int .i64 (m : Int), .slice a (2 * m) c, .int .i64 0, .int .i64 0, .slice none 0 0] 83))
  have R_2 := Lib.hid (R_1.out.alloc (.cells #[.int .i64 (m : Int), .slice a (2 * m) c, .int .i64 0, .int .i64 0, .slice none 0 0] 83))
  have O_2 := Lib.hid (O_1.out.alloc (.cells #[.int .i64 (m : Int), .slice a (2 * m) c, .int .i64 0, .int .i64 0, .slice none 0 0] 83))
  have hz2 : (w1.alloc (.cells #[.int .i64 (m : Int), .slice a (2 * m) c, .int .i64 0, .int .i64 0, .slice none 0 0] 83)).heap.size = w1.heap.size + 1 := by simp
  clear O_1 R_1 HB1
  go_wp2
  generalize w1.alloc (.cells #[.int .i64 (m : Int), .slice a (2 * m) c, .int .i64 0, .int .i64 0, .slice none 0 0] 83) = w2 at *
  generalize w1.heap.size = X0 at *
  go_loopw [4] (fun p wr => ∃ (i : Nat) (L : List TN), i ≤ Q ∧ p = .int .i64 (i : Int) ∧ L.length = i ∧ Hid (Keeps w2 wr X0 (X0 + 1)) ∧ Hid (∃ bv lv, Blk wr X0 [.int .i64 (m : Int), .slice a (2 * m) c, .int .i64 0, .int .i64 0, .slice bv L.length lv] ∧ wr.ownsRow w2.heap.size 191 3 (.slice bv L.length lv) L.length (rowTn L) ∧ FldT wr w2.heap.size (.slice bv L.length lv) L) ∧ Hid (∀ k t, L[k]? = some t → NT qf sf k t)) (fun p _ => Q - (intOf p).toNat)
  case atStart => exact ⟨0, [], Nat.zero_le _, rfl, rfl, Keeps.refl _ _ _, Lib.hid ⟨none, 0, X_2.out, World.ownsRow_nil _ _ _ _, fun t ht => (by cases ht), List.Pairwise.nil⟩, Lib.hid (fun k t ht => by simp at ht)⟩
  case round =>
    clear X_2
    obtain ⟨i, L, hi, rfl, hLl, HK, HX, SM⟩ := hrel
    have HBx : Hid (Below X0 w2 wr) := Lib.hid (HK.out.below (Nat.le_refl _) (by omega))
    have HBr := Lib.hid (HB2.out.trans (HBx.out.mono (by omega)))
    have Br := Lib.hid (B.out.below HBr.out)
    have b1 := Br.out.at 1 rfl; have b2 := Br.out.at 2 rfl; have lB := Br.out.1
    have hzr := HK.out.size
    have HLL := Lib.hid hLl
    obtain ⟨bv, lv, hob, how, hfl⟩ := HX.out
    have OBr := Lib.hid hob; have OWr := Lib.hid how; have FLr := Lib.hid hfl
    clear hob how hfl HX
    by_cases hlt : i < Q
    · have hlt' : (i : Int) < (Q : Int) := by omega
      have hi0 : (0 : Int) ≤ (i : Int) := by omega
      have hL4 : L.length ≤ 4 := by omega
      obtain ⟨n, hn⟩ : ∃ n : Nat, (n : Int) = sf i := ⟨(sf i).toNat, by have := (HS.out i hlt).1; omega⟩
      have hn1 : 0 < n := by have := (HS.out i hlt).1; omega
      have hn8 : n ≤ 8 := by have := (HS.out i hlt).2; omega
      obtain ⟨qb, qo, rfl, hqb, q0⟩ := src_get (S1.out.below HBr.out) hlt
      obtain ⟨sb, so, rfl, hsb, s0⟩ := src_get (S2.out.below HBr.out) hlt
      rw [← hn] at s0
      have HN := Lib.hid hn
      have HSK : Hid (∀ w', Below w.heap.size w w' → w'.cell? ⟨g, 1, none⟩ = some (.slice (some ⟨qb, qo, none⟩) Q qc) ∧ w'.cell? ⟨g, 2, none⟩ = some (.slice (some ⟨sb, so, none⟩) Q sc) ∧ w'.cell? ⟨qb, qo + i, none⟩ = some (.int .i64 (qf i)) ∧ w'.cell? ⟨sb, so + i, none⟩ = some (.int .i64 (n : Int))) := Lib.hid (fun w' hb => ⟨(B.out.below hb).at 1 rfl, (B.out.below hb).at 2 rfl, by
          obtain ⟨b', q', e', _, t0⟩ := src_get (S1.out.below hb) hlt
          simp only [Option.some.injEq, Addr.mk.injEq] at e'
          obtain ⟨rfl, rfl, -⟩ := e'
          exact t0, by
          obtain ⟨b', q', e', _, t0⟩ := src_get (S2.out.below hb) hlt
          simp only [Option.some.injEq, Addr.mk.injEq] at e'
          obtain ⟨rfl, rfl, -⟩ := e'
          rw [HN.out]; exact t0⟩)
      have OWd := Lib.hid (ownsRow_below OWr.out (Below.refl _ _).drew)
      have HVO : Hid (∀ k, (Value.slice bv L.length lv).ownBlock = some k → w2.heap.size ≤ k) := Lib.hid (fun k hk => ownBlock_ge OWr.out hk)
      have HVL : Hid (∀ k, (Value.slice bv L.length lv).ownBlock = some k → k < wr.heap.size) := Lib.hid (fun k hk => (OWr.out.lt k hk).2)
      have OBd := Lib.hid OBr.out.drew
      have lO := OBr.out.1; have d4 := OBr.out.at 4 rfl; have e4 := OBr.out.free 4 rfl
      have hmk := make_hs n (by omega)
      have HB5 : Hid (Below wr.heap.size wr (wr.drew.alloc (.cells (madeCells #[.int .i64 0, .int .i64 0] (n * 2)) 198))) := Lib.hid ((Below.refl wr.heap.size wr).drew.alloc (by simp) (.cells (madeCells #[.int .i64 0, .int .i64 0] (n * 2)) 198))
      have HBA := Lib.hid (thru0 HBr.out HB5.out)
      have hz5 : (wr.drew.alloc (.cells (madeCells #[.int .i64 0, .int .i64 0] (n * 2)) 198)).heap.size = wr.heap.size + 1 := by simp
      have OB5 := Lib.hid (OBr.out.below HB5.out)
      have OW5 := Lib.hid (ownsRow_below OWr.out HB5.out)
      have P5 := Lib.hid (made_PVO wr.drew n (by omega) hn1)
      clear hn hLl
      go_wp2_with fail
      change Code.wp Try.prog (Code.region 5 #[_, opN, _, _, _, _, _, _, _, _, _, _, _, _, _, _, _, _, _, _, _, _] true) _ _ _
      go_region_held3 (fun w' => w'.cell? ⟨g, 1, none⟩ = some (.slice (some ⟨qb, qo, none⟩) Q qc) ∧ w'.cell? ⟨g, 2, none⟩ = some (.slice (some ⟨sb, so, none⟩) Q sc) ∧ w'.cell? ⟨qb, qo + i, none⟩ = some (.int .i64 (qf i)) ∧ w'.cell? ⟨sb, so + i, none⟩ = some (.int .i64 (n : Int)))
        (first | (with_reducible exact HSK.out _ HBr.out) | (refine HSK.out _ ?_; (repeat (first | (with_reducible refine Below.setCell ?_ (by (try simp); (try omega)) _) | (with_reducible refine Below.alloc ?_ (by (try simp); (try omega)) _) | (with_reducible refine Below.drew ?_))); (first | exact HBr.out | exact HBZ.out)))
        (first | (refine step_append_lies _ rfl (.tmp 21) (.tmp 38) 81 rfl w2.heap.size 191 j0 _ 3 40 Try.underlyingRTN hif hj0 hj1 hj2 rfl (by decide) (.slice bv L.length lv) L.length (rowTn L) rfl (OW5.out.alloc _) ⟨wr.heap.size + 1, 0, none⟩ 1 1 (tcells ⟨qf i, 0, some ⟨wr.heap.size, 0, none⟩, n, n, zS⟩) rfl rfl (cells_new3b (wr.drew.alloc (.cells (madeCells #[.int .i64 0, .int .i64 0] (n * 2)) 198)) ⟨qf i, 0, some ⟨wr.heap.size, 0, none⟩, n, n, zS⟩ (wr.heap.size + 1) (by simp)) (tn_one _) (by omega) (by unfold maxLen; omega) (by omega) (by simp; omega) (wr.heap.size + 1 + 1) (by simp) ?_; intro g9 cap9 w9 hown9 hgrow9 hat9 hlt9; have HBZ : Hid (Below w.heap.size w w9) := Lib.hid ((HBA.out.alloc (by simp; omega) _).grown hgrow9 (by simp; omega) (fun k hk => by have := HVO.out k hk; omega)); have T9 := Lib.hid (blk_grown (OB5.out.alloc _) hgrow9 (fun e => by have := HVO.out _ e; omega)); have l9 := T9.out.1; have d94 := T9.out.at 4 rfl; have e94 := T9.out.free 4 rfl))
      all_goals (
        have HBC := Lib.hid (HB5.out.alloc (by simp) (.cells #[.int .i64 (qf i), .int .i64 0, .slice (some ⟨wr.heap.size, 0, none⟩) n n] 191))
        have HBY : Hid (Below w2.heap.size wr w9) := Lib.hid ((HBC.out.mono hzr).grown hgrow9 (by simp; omega) (fun k hk => HVO.out k hk))
        have hg9 : w2.heap.size ≤ g9 := (by rcases hat9 with he | he; exact HVO.out _ he; omega)
        obtain ⟨X, hX⟩ : ∃ X : TN, X = ⟨qf i, 0, some ⟨wr.heap.size, 0, none⟩, n, n, zS⟩ := ⟨_, rfl⟩
        have FL9 : Hid (FldT w9 w2.heap.size (.slice (some ⟨g9, 0, none⟩) (L.length + 1) cap9) (L ++ [X])) := Lib.hid (FldT.snoc X FLr.out HBC.out hgrow9 (by
          rcases hat9 with he | he
          · exact .inl he.symm
          · exact .inr ⟨g9, rfl, by simp; omega⟩) hzr (fun k hk => HVL.out k hk) (by rw [hX]; exact (P5.out.alloc _).widen (by simp) (by simp)))
        have SM9 : Hid (∀ k t, (L ++ [X])[k]? = some t → NT qf sf k t) := Lib.hid (fun k u hu => by
          rcases Nat.lt_or_ge k L.length with hk | hk
          · rw [List.getElem?_append_left hk] at hu
            exact SM.out k u hu
          · have hk' : k = L.length := (by have := (List.getElem?_eq_some_iff.mp hu).1; simp at this; omega)
            subst hk'
            rw [List.getElem?_append_right (Nat.le_refl _), Nat.sub_self] at hu
            have : X = u := (by simpa using hu)
            subst this
            rw [hX, HLL.out]
            exact ⟨rfl, rfl, HN.out, rfl⟩)
        have OW9 : Hid (w9.ownsRow w2.heap.size 191 3 (.slice (some ⟨g9, 0, none⟩) (L.length + 1) cap9) (L ++ [X]).length (rowTn (L ++ [X]))) := Lib.hid (by
          rw [rowTn_snoc, List.length_append, hX]; exact hown9)
        have HKF : Hid (Keeps w2 (w9.setCell ⟨X0, 4, none⟩ (.slice (some ⟨g9, 0, none⟩) (L.length + 1) cap9)) X0 (X0 + 1)) := Lib.hid ((keeps_under HK.out HBY.out (Nat.le_refl _)).trans (keeps_setCell (p := ⟨X0, 4, none⟩) (Nat.le_refl _) (Nat.lt_succ_self _) _))
        have HXF : Hid (∃ bv lv, Blk (w9.setCell ⟨X0, 4, none⟩ (.slice (some ⟨g9, 0, none⟩) (L.length + 1) cap9)) X0 [.int .i64 (m : Int), .slice a (2 * m) c, .int .i64 0, .int .i64 0, .slice bv (L ++ [X]).length lv] ∧ (w9.setCell ⟨X0, 4, none⟩ (.slice (some ⟨g9, 0, none⟩) (L.length + 1) cap9)).ownsRow w2.heap.size 191 3 (.slice bv (L ++ [X]).length lv) (L ++ [X]).length (rowTn (L ++ [X])) ∧ FldT (w9.setCell ⟨X0, 4, none⟩ (.slice (some ⟨g9, 0, none⟩) (L.length + 1) cap9)) w2.heap.size (.slice bv (L ++ [X]).length lv) (L ++ [X])) := Lib.hid ⟨some ⟨g9, 0, none⟩, cap9, by
            have := T9.out.set 4 (by simp) (.slice (some ⟨g9, 0, none⟩) (L.length + 1) cap9)
            rw [List.length_append]; exact this, by
            have := ownsRow_setCell_other OW9.out (a := ⟨X0, 4, none⟩) (fun e => by have e' : g9 = X0 := (by simpa [Value.ownBlock] using e); omega) (.slice (some ⟨g9, 0, none⟩) (L.length + 1) cap9)
            rw [List.length_append] at this ⊢; exact this, by
            have := FL9.out.block (w' := (w9.setCell ⟨X0, 4, none⟩ (.slice (some ⟨g9, 0, none⟩) (L.length + 1) cap9))) (by simp) (fun b h1 h2 h3 => Below.heap_setCell w9 _ _ b (by simp; omega))
            rw [List.length_append]; exact this⟩
        clear hown9 hgrow9 hat9 hX HN HBY HBC FL9 OW9 T9 OWd OBd OW5 OB5 P5 hmk HB5 HBA hz5 l9 d94 e94 lO d4 e4 q0 s0 b1 b2 lB HSK
        go_wp2
        go_roundw
        (case rel => first | exact ⟨i + 1, L ++ [X], by omega, by go_num, by rw [List.length_append, HLL.out]; rfl, HKF, HXF, SM9⟩ | ((repeat apply Exists.intro); exact ⟨⟨i + 1, L ++ [X], by omega, by go_num, by rw [List.length_append, HLL.out]; rfl, HKF, HXF, SM9⟩, rfl⟩))
        (case measure => simp [intOf]; omega))
    · have hlt' : ¬ (i : Int) < (Q : Int) := by omega
      obtain rfl : i = Q := by omega
      obtain ⟨na', nc', e', hnvo⟩ := rowTn_TVO OWr.out FLr.out (Nat.le_refl _)
      simp only [Value.slice.injEq] at e'
      obtain ⟨rfl, -, rfl⟩ := e'
      have HNVO := Lib.hid hnvo
      have SMF : Hid (∀ k, k < i → NT qf sf k (tT L k)) := Lib.hid (fun k hk => by
        have hk' : k < L.length := by omega
        rw [tT_at (List.getElem?_eq_getElem hk')]
        exact SM.out k _ (List.getElem?_eq_getElem hk'))
      have HPF := Lib.hid (O_2.out.keeps HK.out (.inl (Nat.le_refl _)))
      have R_r := Lib.hid (R_2.out.keeps HK.out (.inl (by omega)))
      have o0 := OBr.out.at 0 rfl; have o1 := OBr.out.at 1 rfl; have o2 := OBr.out.at 2 rfl; have o3 := OBr.out.at 3 rfl; have o4 := OBr.out.at 4 rfl; have lO := OBr.out.1
      have r0 := R_r.out.at 0 rfl; have f0 := R_r.out.free 0 rfl; have r1 := R_r.out.at 1 rfl; have f1 := R_r.out.free 1 rfl; have r2 := R_r.out.at 2 rfl; have f2 := R_r.out.free 2 rfl; have r3 := R_r.out.at 3 rfl; have f3 := R_r.out.free 3 rfl; have r4 := R_r.out.at 4 rfl; have f4 := R_r.out.free 4 rfl; have lR := R_r.out.1
      rw [hLl] at HNVO o4
      clear hnvo OWr FLr SM
      go_wp2
      refine bodyPost_ret (v := .agg #[.int .i64 (m : Int), .slice a (2 * m) c, .int .i64 0, .int .i64 0, .slice bv i lv]) (by simp [results, Try.results110, go_sem, r0, r1, r2, r3, r4]) rfl ?_
      refine ⟨a, c, bv, lv, X0, tT L, rfl, ?_, ?_, by omega, by simp; omega, fun k hk => SMF.out k hk, ?_⟩
      · refine OwnIn.widen (lo := w.heap.size + 1) (hi := X0) (OwnIn.keeps (lo' := w.heap.size) (hi' := w.heap.size + 1) HPF.out ?_ (.inr (by omega))) (by omega) (Nat.le_refl _)
        repeat (refine Keeps.trans ?_ (keeps_setCell (by (try simp); (try omega)) (by (try simp); (try omega)) _))
        exact Keeps.refl _ _ _
      · refine (TVO.keeps (lo' := w.heap.size) (hi' := w.heap.size + 1) HNVO.out ?_ (.inr (by omega))).widen (by omega) (by simp)
        repeat (refine Keeps.trans ?_ (keeps_setCell (by (try simp); (try omega)) (by (try simp); (try omega)) _))
        exact Keeps.refl _ _ _
      · repeat (first | (with_reducible refine Below.setCell ?_ (by (try simp); (try omega)) _) | (with_reducible refine Below.alloc ?_ (by (try simp); (try omega)) _) | (with_reducible refine Below.drew ?_))
        exact HBr.out
end Go.Proofs.Ytbhjmomphajnnaa

namespace Go.Proofs.Ytbhjmomphajnnaa
open Go.RowKit
set_option linter.unusedVariables false
attribute [local go_sem] opM

/-- What NewHeap answers: its code, the half and the number of the tenants. -/
def IsNH (hf : Int) (Q : Nat) (qf : Nat → Int) (S : Nat) (sf : Nat → Int) (c : Int) (m Q' : Nat) : Prop :=
  IsCF hf Q qf S sf c ∧ ((c = 0 ∧ hf = (m : Int) ∧ (8 ≤ m ∧ m ≤ 200) ∧ Q' = Q ∧ S = Q ∧ Q ≤ 4 ∧ ∀ i, i < Q → 1 ≤ sf i ∧ sf i ≤ 8) ∨ (¬ c = 0 ∧ m = 0 ∧ Q' = 0))

theorem isNH_some (hf : Int) (Q : Nat) (qf : Nat → Int) (S : Nat) (sf : Nat → Int) : ∃ c m Q', IsNH hf Q qf S sf c m Q' := by
  obtain ⟨c, hc⟩ := isCF_some hf Q qf S sf
  by_cases h : c = 0
  · subst h
    obtain ⟨h1, h2, h3, _, h5, _⟩ := isCF_zero hc
    exact ⟨0, hf.toNat, Q, hc, .inl ⟨rfl, by omega, by omega, rfl, h3, h2.2, h5⟩⟩
  · exact ⟨c, 0, 0, hc, .inr ⟨h, rfl, rfl⟩⟩

/-- A new heap, or a code. -/
def RetNH (W : World) (c : Int) (m Q : Nat) (qf sf : Nat → Int) (e : Ending) (w' : World) : Prop :=
  ∃ (a : Option Addr) (cc : Nat) (ta : Option Addr) (tc mid : Nat) (T : Nat → TN), e = .returned (.agg #[.int .i64 c, .int .i64 (m : Int), .slice a (2 * m) cc, .int .i64 0, .int .i64 0, .slice ta Q tc, .slice none 0 0, .slice none 0 0]) ∧ OwnIn w' W.heap.size mid a (2 * m) (fun _ => 0) ∧ TVO w' mid w'.heap.size ta Q T ∧ W.heap.size ≤ mid ∧ mid ≤ w'.heap.size ∧ (∀ i, i < Q → NT qf sf i (T i)) ∧ Below W.heap.size W w'

theorem fld_ar1 (v0 v1 v2 v3 v4 v5 : Value) (w : World) : (Instr.field 104 (.agg #[v0, v1, v2, v3, v4, v5]) 1).run Try.prog w = .ok (.agg #[v1, v2, v3, v4]) w := by kernel_rfl

theorem implNA_m (m : Nat) (w : World) (h : 8 ≤ m ∧ m ≤ 200) : Calls Try.prog 111 #[.int .i64 (m : Int)] w fun e w' => ∃ a c, e = .returned (.agg #[.int .i64 0, .int .i64 (m : Int), .slice a (2 * m) c, .int .i64 0, .int .i64 0, .int .i64 0]) ∧ Own w' w.heap.size a (2 * m) (fun _ => 0) ∧ Below w.heap.size w w' :=
  implNew_any (m : Int) ⟨0, m, 2 * m, fun _ => 0, 0, 0, 0⟩ w (.inr ⟨by omega, m, rfl, rfl⟩)

set_option maxRecDepth 100000 in
set_option maxHeartbeats 6400000 in
theorem specNH_any (hf : Int) (qa : Option Addr) (Q qc : Nat) (qf : Nat → Int) (sa : Option Addr) (S sc : Nat) (sf : Nat → Int) (c : Int) (m Q' : Nat) (w : World) (s1 : Src w qa Q qf) (s2 : Src w sa S sf) (hQ : Q ≤ 1048576) (hS : S ≤ 1048576) (hk : IsNH hf Q qf S sf c m Q') :
    Calls Try.prog 45 #[.agg #[.int .i64 hf, .slice qa Q qc, .slice sa S sc]] w (RetNH w c m Q' qf sf) := by
  obtain ⟨hc, hk⟩ := hk
  have HC := Lib.hid hc; have HK := Lib.hid hk; have S1 := Lib.hid s1; have S2 := Lib.hid s2
  have HB0 := Lib.hid (((Below.refl w.heap.size w).alloc (Nat.le_refl _) (.cells #[.int .i64 hf, .slice qa Q qc, .slice sa S sc] 77)).alloc (by simp) (.cells #[.int .i64 0, .int .i64 0, .slice none 0 0, .int .i64 0, .int .i64 0, .slice none 0 0, .slice none 0 0, .slice none 0 0] 85))
  have G_0 := Lib.hid ((Blk.new_at (w := w) (cs := #[.int .i64 hf, .slice qa Q qc, .slice sa S sc]) (t := 77) w.heap.size rfl).alloc (.cells #[.int .i64 0, .int .i64 0, .slice none 0 0, .int .i64 0, .int .i64 0, .slice none 0 0, .slice none 0 0, .slice none 0 0] 85))
  have R_0 := Lib.hid (Blk.new_at (w := w.alloc (.cells #[.int .i64 hf, .slice qa Q qc, .slice sa S sc] 77)) (cs := #[.int .i64 0, .int .i64 0, .slice none 0 0, .int .i64 0, .int .i64 0, .slice none 0 0, .slice none 0 0, .slice none 0 0]) (t := 85) (w.heap.size + 1) (by simp))
  clear hc hk s1 s2
  go_enter Try.func45, Try.ntmps45
  go_wp2_with fail
  refine (specCF_any hf qa Q qc qf sa S sc sf c _ (S1.out.below HB0.out) (S2.out.below HB0.out) hQ hS HC.out).mono ?_
  rintro e w1 ⟨rfl, hb⟩
  have HB1 := Lib.hid (thru0 HB0.out hb); have G_1 := Lib.hid (G_0.out.below hb); have R_1 := Lib.hid (R_0.out.below hb)
  have hz1 : w.heap.size + 2 ≤ w1.heap.size := by have := R_1.out.1; omega
  clear hb HB0 G_0 R_0
  by_cases h0 : c = 0
  · obtain ⟨k1, k2, k3, k4, k5, k6⟩ : hf = (m : Int) ∧ (8 ≤ m ∧ m ≤ 200) ∧ Q' = Q ∧ S = Q ∧ Q ≤ 4 ∧ ∀ i, i < Q → 1 ≤ sf i ∧ sf i ≤ 8 := by
      rcases HK.out with ⟨_, h⟩ | ⟨h, _⟩
      · exact h
      · exact absurd h0 h
    have k3' := k3.symm; have k4' := k4.symm
    clear k3 k4
    subst k1 k3' k4' h0
    have HS := Lib.hid k6
    clear k6
    have g0 := G_1.out.at 0 rfl; have lG := G_1.out.1
    go_wp2_with fail
    refine (l7New_any m Q qc sc w.heap.size qa sa qf sf _ G_1.out (S1.out.below HB1.out) (S2.out.below HB1.out) k2.2 k5 HS.out).mono ?_
    rintro e w2 ⟨a, cc, ta, tc, mid, T, rfl, ho, ht, z1, z2, hT, hb⟩
    have HB2 := Lib.hid (thru0 HB1.out hb); have R_2 := Lib.hid (R_1.out.below hb)
    have HO := Lib.hid ho; have HT := Lib.hid ht; have HNT := Lib.hid hT
    clear hb ho ht hT R_1 G_1 HB1 g0 lG
    have r0 := R_2.out.at 0 rfl; have fr0 := R_2.out.free 0 rfl; have r1 := R_2.out.at 1 rfl; have fr1 := R_2.out.free 1 rfl; have r2 := R_2.out.at 2 rfl; have fr2 := R_2.out.free 2 rfl; have r3 := R_2.out.at 3 rfl; have fr3 := R_2.out.free 3 rfl; have r4 := R_2.out.at 4 rfl; have fr4 := R_2.out.free 4 rfl; have r5 := R_2.out.at 5 rfl; have fr5 := R_2.out.free 5 rfl; have r6 := R_2.out.at 6 rfl; have fr6 := R_2.out.free 6 rfl; have r7 := R_2.out.at 7 rfl; have fr7 := R_2.out.free 7 rfl; have lR := R_2.out.1
    go_wp2
    refine bodyPost_ret (v := .agg #[.int .i64 0, .int .i64 (m : Int), .slice a (2 * m) cc, .int .i64 0, .int .i64 0, .slice ta Q tc, .slice none 0 0, .slice none 0 0]) (by simp [results, Try.results45, go_sem, r0, r1, r2, r3, r4, r5, r6, r7]) rfl ⟨a, cc, ta, tc, mid, T, rfl, ?_, ?_, by omega, by simp; omega, HNT.out, ?_⟩
    · refine OwnIn.widen (OwnIn.keeps (lo' := w.heap.size) (hi' := w.heap.size + 2) HO.out ?_ (.inr (by omega))) (by omega) (Nat.le_refl _)
      repeat (first | (refine Keeps.trans ?_ (keeps_setCell (by (try simp); (try omega)) (by (try simp); (try omega)) _)) | (refine Keeps.trans ?_ (keeps_of_below ((Below.refl _ _).alloc (Nat.le_refl _) _) _ _)))
      exact Keeps.refl _ _ _
    · refine (TVO.keeps (lo' := w.heap.size) (hi' := w.heap.size + 2) HT.out ?_ (.inr (by omega))).widen (by omega) (by simp)
      repeat (first | (refine Keeps.trans ?_ (keeps_setCell (by (try simp); (try omega)) (by (try simp); (try omega)) _)) | (refine Keeps.trans ?_ (keeps_of_below ((Below.refl _ _).alloc (Nat.le_refl _) _) _ _)))
      exact Keeps.refl _ _ _
    · repeat (first | (with_reducible refine Below.setCell ?_ (by (try simp); (try omega)) _) | (with_reducible refine Below.alloc ?_ (by (try simp); (try omega)) _) | (with_reducible refine Below.drew ?_))
      exact HB2.out
  · obtain ⟨k1, k2⟩ : m = 0 ∧ Q' = 0 := by
      rcases HK.out with ⟨h, _⟩ | ⟨_, h⟩
      · exact absurd h h0
      · exact h
    subst k1 k2
    have h0' : (c != 0) = true := by simpa using h0
    clear h0
    have r0 := R_1.out.at 0 rfl; have fr0 := R_1.out.free 0 rfl; have r1 := R_1.out.at 1 rfl; have fr1 := R_1.out.free 1 rfl; have r2 := R_1.out.at 2 rfl; have fr2 := R_1.out.free 2 rfl; have r3 := R_1.out.at 3 rfl; have fr3 := R_1.out.free 3 rfl; have r4 := R_1.out.at 4 rfl; have fr4 := R_1.out.free 4 rfl; have r5 := R_1.out.at 5 rfl; have fr5 := R_1.out.free 5 rfl; have r6 := R_1.out.at 6 rfl; have fr6 := R_1.out.free 6 rfl; have r7 := R_1.out.at 7 rfl; have fr7 := R_1.out.free 7 rfl; have lR := R_1.out.1
    go_wp2
    refine bodyPost_ret (v := .agg #[.int .i64 c, .int .i64 0, .slice none 0 0, .int .i64 0, .int .i64 0, .slice none 0 0, .slice none 0 0, .slice none 0 0]) (by simp [results, Try.results45, go_sem, r0, r1, r2, r3, r4, r5, r6, r7]) rfl ⟨none, 0, none, 0, w.heap.size, fun _ => tz, rfl, .inl rfl, .inl rfl, Nat.le_refl _, by simp; omega, fun i hi => by omega, ?_⟩
    repeat (first | (with_reducible refine Below.setCell ?_ (by (try simp); (try omega)) _) | (with_reducible refine Below.alloc ?_ (by (try simp); (try omega)) _) | (with_reducible refine Below.drew ?_))
    exact HB1.out

set_option maxRecDepth 100000 in
set_option maxHeartbeats 6400000 in
theorem implNH_any (hf : Int) (qa : Option Addr) (Q qc : Nat) (qf : Nat → Int) (sa : Option Addr) (S sc : Nat) (sf : Nat → Int) (c : Int) (m Q' : Nat) (w : World) (s1 : Src w qa Q qf) (s2 : Src w sa S sf) (hQ : Q ≤ 1048576) (hS : S ≤ 1048576) (hk : IsNH hf Q qf S sf c m Q') :
    Calls Try.prog 46 #[.agg #[.int .i64 hf, .slice qa Q qc, .slice sa S sc]] w (RetNH w c m Q' qf sf) := by
  obtain ⟨hc, hk⟩ := hk
  have HC := Lib.hid hc; have HK := Lib.hid hk; have S1 := Lib.hid s1; have S2 := Lib.hid s2
  have HB0 := Lib.hid (((Below.refl w.heap.size w).alloc (Nat.le_refl _) (.cells #[.int .i64 hf, .slice qa Q qc, .slice sa S sc] 77)).alloc (by simp) (.cells #[.int .i64 0, .int .i64 0, .slice none 0 0, .int .i64 0, .int .i64 0, .slice none 0 0, .slice none 0 0, .slice none 0 0] 85))
  have G_0 := Lib.hid ((Blk.new_at (w := w) (cs := #[.int .i64 hf, .slice qa Q qc, .slice sa S sc]) (t := 77) w.heap.size rfl).alloc (.cells #[.int .i64 0, .int .i64 0, .slice none 0 0, .int .i64 0, .int .i64 0, .slice none 0 0, .slice none 0 0, .slice none 0 0] 85))
  have R_0 := Lib.hid (Blk.new_at (w := w.alloc (.cells #[.int .i64 hf, .slice qa Q qc, .slice sa S sc] 77)) (cs := #[.int .i64 0, .int .i64 0, .slice none 0 0, .int .i64 0, .int .i64 0, .slice none 0 0, .slice none 0 0, .slice none 0 0]) (t := 85) (w.heap.size + 1) (by simp))
  clear hc hk s1 s2
  go_enter Try.func46, Try.ntmps46
  go_wp2_with fail
  refine (implCF_any hf qa Q qc qf sa S sc sf c _ (S1.out.below HB0.out) (S2.out.below HB0.out) hQ hS HC.out).mono ?_
  rintro e w1 ⟨rfl, hb⟩
  have HB1 := Lib.hid (thru0 HB0.out hb); have G_1 := Lib.hid (G_0.out.below hb); have R_1 := Lib.hid (R_0.out.below hb)
  have hz1 : w.heap.size + 2 ≤ w1.heap.size := by have := R_1.out.1; omega
  clear hb HB0 G_0 R_0
  by_cases h0 : c = 0
  · obtain ⟨k1, k2, k3, k4, k5, k6⟩ : hf = (m : Int) ∧ (8 ≤ m ∧ m ≤ 200) ∧ Q' = Q ∧ S = Q ∧ Q ≤ 4 ∧ ∀ i, i < Q → 1 ≤ sf i ∧ sf i ≤ 8 := by
      rcases HK.out with ⟨_, h⟩ | ⟨h, _⟩
      · exact h
      · exact absurd h0 h
    have k3' := k3.symm; have k4' := k4.symm
    clear k3 k4
    subst k1 k3' k4' h0
    have HS := Lib.hid k6
    clear k6
    have g0 := G_1.out.at 0 rfl; have lG := G_1.out.1
    obtain ⟨j0, hif, hj0, hj1, hj2⟩ := info_parts Try.infoTN
    go_wp2_with fail
    refine (implNA_m m _ k2).mono ?_
    rintro e w1' ⟨a, c, rfl, ho, hb⟩
    have HB1' := Lib.hid (thru0 HB1.out hb)
    have R_1' := Lib.hid (R_1.out.below hb); have G_1' := Lib.hid (G_1.out.below hb)
    have O_1 : Hid (OwnIn w1' (w.heap.size + 2) w1'.heap.size a (2 * m) (fun _ => 0)) := Lib.hid ((ho.mono (by omega)).into)
    have hz1' : w.heap.size + 2 ≤ w1'.heap.size := by have := hb.size; omega
    clear ho hb g0 lG R_1 G_1 HB1 hz1
    have X_2 := Lib.hid (Blk.new_at (w := w1') (cs := #[.int .i64 (m : Int), .slice a (2 * m) c, .int .i64 0, .int .i64 0, .slice none 0 0]) (t := 83) w1'.heap.size rfl)
    have HB2 := Lib.hid (HB1'.out.alloc HB1'.out.size (.cells #[.int .i64 (m : Int), .slice a (2 * m) c, .int .i64 0, .int .i64 0, .slice none 0 0] 83))
    have R_2 := Lib.hid (R_1'.out.alloc (.cells #[.int .i64 (m : Int), .slice a (2 * m) c, .int .i64 0, .int .i64 0, .slice none 0 0] 83)); have G_2 := Lib.hid (G_1'.out.alloc (.cells #[.int .i64 (m : Int), .slice a (2 * m) c, .int .i64 0, .int .i64 0, .slice none 0 0] 83))
    have O_2 := Lib.hid (O_1.out.alloc (.cells #[.int .i64 (m : Int), .slice a (2 * m) c, .int .i64 0, .int .i64 0, .slice none 0 0] 83))
    have hz2 : (w1'.alloc (.cells #[.int .i64 (m : Int), .slice a (2 * m) c, .int .i64 0, .int .i64 0, .slice none 0 0] 83)).heap.size = w1'.heap.size + 1 := by simp
    have g1 := G_2.out.at 1 rfl; have lG := G_2.out.1
    clear O_1 R_1' G_1' HB1'
    have hfld := fld_ar1
    go_wp2
    clear g1 lG hfld
    generalize w1'.alloc (.cells #[.int .i64 (m : Int), .slice a (2 * m) c, .int .i64 0, .int .i64 0, .slice none 0 0] 83) = w2 at *
    generalize w1'.heap.size = X0 at *
    go_loopw [21] (fun p wr => ∃ (i : Nat) (L : List TN), i ≤ Q ∧ p = .int .i64 (i : Int) ∧ L.length = i ∧ Hid (Keeps w2 wr X0 (X0 + 1)) ∧ Hid (∃ bv lv, Blk wr X0 [.int .i64 (m : Int), .slice a (2 * m) c, .int .i64 0, .int .i64 0, .slice bv L.length lv] ∧ wr.ownsRow w2.heap.size 191 3 (.slice bv L.length lv) L.length (rowTn L) ∧ FldT wr w2.heap.size (.slice bv L.length lv) L) ∧ Hid (∀ k t, L[k]? = some t → NT qf sf k t)) (fun p _ => Q - (intOf p).toNat)
    case atStart => exact ⟨0, [], Nat.zero_le _, rfl, rfl, Keeps.refl _ _ _, Lib.hid ⟨none, 0, X_2.out, World.ownsRow_nil _ _ _ _, fun t ht => (by cases ht), List.Pairwise.nil⟩, Lib.hid (fun k t ht => by simp at ht)⟩
    case round =>
      clear X_2
      obtain ⟨i, L, hi, rfl, hLl, HK', HX, SM⟩ := hrel
      have HBx : Hid (Below X0 w2 wr) := Lib.hid (HK'.out.below (Nat.le_refl _) (by omega))
      have HBr := Lib.hid (HB2.out.trans (HBx.out.mono (by omega)))
      have Gr := Lib.hid (blk_block G_2.out (HBx.out.block w.heap.size (by omega)))
      have b1 := Gr.out.at 1 rfl; have b2 := Gr.out.at 2 rfl; have lB := Gr.out.1
      have hzr := HK'.out.size
      have HLL := Lib.hid hLl
      obtain ⟨bv, lv, hob, how, hfl⟩ := HX.out
      have OBr := Lib.hid hob; have OWr := Lib.hid how; have FLr := Lib.hid hfl
      clear hob how hfl HX
      by_cases hlt : i < Q
      · have hlt' : (i : Int) < (Q : Int) := by omega
        have hi0 : (0 : Int) ≤ (i : Int) := by omega
        have hL4 : L.length ≤ 4 := by omega
        obtain ⟨n, hn⟩ : ∃ n : Nat, (n : Int) = sf i := ⟨(sf i).toNat, by have := (HS.out i hlt).1; omega⟩
        have hn1 : 0 < n := by have := (HS.out i hlt).1; omega
        have hn8 : n ≤ 8 := by have := (HS.out i hlt).2; omega
        obtain ⟨qb, qo, rfl, hqb, q0⟩ := src_get (S1.out.below HBr.out) hlt
        obtain ⟨sb, so, rfl, hsb, s0⟩ := src_get (S2.out.below HBr.out) hlt
        rw [← hn] at s0
        have HN := Lib.hid hn
        have HSK : Hid (∀ w', Below X0 w2 w' → w'.cell? ⟨w.heap.size, 2, none⟩ = some (.slice (some ⟨sb, so, none⟩) Q sc) ∧ w'.cell? ⟨sb, so + i, none⟩ = some (.int .i64 (n : Int))) := Lib.hid (fun w' hb => ⟨(blk_block G_2.out (hb.block w.heap.size (by omega))).at 2 rfl, by
            obtain ⟨b', q', e', _, t0⟩ := src_get (S2.out.below (HB2.out.trans (hb.mono (by omega)))) hlt
            simp only [Option.some.injEq, Addr.mk.injEq] at e'
            obtain ⟨rfl, rfl, -⟩ := e'
            rw [HN.out]; exact t0⟩)
        have OWd := Lib.hid (ownsRow_below OWr.out (Below.refl _ _).drew)
        have HVO : Hid (∀ k, (Value.slice bv L.length lv).ownBlock = some k → w2.heap.size ≤ k) := Lib.hid (fun k hk => ownBlock_ge OWr.out hk)
        have HVL : Hid (∀ k, (Value.slice bv L.length lv).ownBlock = some k → k < wr.heap.size) := Lib.hid (fun k hk => (OWr.out.lt k hk).2)
        have OBd := Lib.hid OBr.out.drew
        have lO := OBr.out.1; have d4 := OBr.out.at 4 rfl; have e4 := OBr.out.free 4 rfl
        have hmk := make_hs n (by omega)
        have HB5 : Hid (Below wr.heap.size wr (wr.drew.alloc (.cells (madeCells #[.int .i64 0, .int .i64 0] (n * 2)) 198))) := Lib.hid ((Below.refl wr.heap.size wr).drew.alloc (by simp) (.cells (madeCells #[.int .i64 0, .int .i64 0] (n * 2)) 198))
        have HBA := Lib.hid (HBx.out.trans (HB5.out.mono (by omega)))
        have hz5 : (wr.drew.alloc (.cells (madeCells #[.int .i64 0, .int .i64 0] (n * 2)) 198)).heap.size = wr.heap.size + 1 := by simp
        have OB5 := Lib.hid (OBr.out.below HB5.out)
        have OW5 := Lib.hid (ownsRow_below OWr.out HB5.out)
        have P5 := Lib.hid (made_PVO wr.drew n (by omega) hn1)
        clear hn hLl
        go_wp2_with fail
        change Code.wp Try.prog (Code.region 8 #[_, opM, _, _, _, _, _, _, _, _, _, _, _, _] true) _ _ _
        go_region_held3 (fun w' => w'.cell? ⟨w.heap.size, 2, none⟩ = some (.slice (some ⟨sb, so, none⟩) Q sc) ∧ w'.cell? ⟨sb, so + i, none⟩ = some (.int .i64 (n : Int)))
          (first | (with_reducible exact HSK.out _ HBx.out) | (refine HSK.out _ ?_; (repeat (first | (with_reducible refine Below.setCell ?_ (by (try simp); (try omega)) _) | (with_reducible refine Below.alloc ?_ (by (try simp); (try omega)) _) | (with_reducible refine Below.drew ?_))); (first | exact HBx.out | exact HBZ.out)))
          (first | (refine step_append_lies _ rfl (.tmp 27) (.tmp 36) 81 rfl w2.heap.size 191 j0 _ 3 40 Try.underlyingRTN hif hj0 hj1 hj2 rfl (by decide) (.slice bv L.length lv) L.length (rowTn L) rfl (OW5.out.alloc _) ⟨wr.heap.size + 1, 0, none⟩ 1 1 (tcells ⟨qf i, 0, some ⟨wr.heap.size, 0, none⟩, n, n, zS⟩) rfl rfl (cells_new3b (wr.drew.alloc (.cells (madeCells #[.int .i64 0, .int .i64 0] (n * 2)) 198)) ⟨qf i, 0, some ⟨wr.heap.size, 0, none⟩, n, n, zS⟩ (wr.heap.size + 1) (by simp)) (tn_one _) (by omega) (by unfold maxLen; omega) (by omega) (by simp; omega) (wr.heap.size + 1 + 1) (by simp) ?_; intro g9 cap9 w9 hown9 hgrow9 hat9 hlt9; have HBZ : Hid (Below X0 w2 w9) := Lib.hid ((HBA.out.alloc (by simp; omega) _).grown hgrow9 (by simp; omega) (fun k hk => by have := HVO.out k hk; omega)); have T9 := Lib.hid (blk_grown (OB5.out.alloc _) hgrow9 (fun e => by have := HVO.out _ e; omega)); have l9 := T9.out.1; have d94 := T9.out.at 4 rfl; have e94 := T9.out.free 4 rfl))
        all_goals (
          have HBC := Lib.hid (HB5.out.alloc (by simp) (.cells #[.int .i64 (qf i), .int .i64 0, .slice (some ⟨wr.heap.size, 0, none⟩) n n] 191))
          have HBY : Hid (Below w2.heap.size wr w9) := Lib.hid ((HBC.out.mono hzr).grown hgrow9 (by simp; omega) (fun k hk => HVO.out k hk))
          have hg9 : w2.heap.size ≤ g9 := (by rcases hat9 with he | he; exact HVO.out _ he; omega)
          obtain ⟨X, hX⟩ : ∃ X : TN, X = ⟨qf i, 0, some ⟨wr.heap.size, 0, none⟩, n, n, zS⟩ := ⟨_, rfl⟩
          have FL9 : Hid (FldT w9 w2.heap.size (.slice (some ⟨g9, 0, none⟩) (L.length + 1) cap9) (L ++ [X])) := Lib.hid (FldT.snoc X FLr.out HBC.out hgrow9 (by
            rcases hat9 with he | he
            · exact .inl he.symm
            · exact .inr ⟨g9, rfl, by simp; omega⟩) hzr (fun k hk => HVL.out k hk) (by rw [hX]; exact (P5.out.alloc _).widen (by simp) (by simp)))
          have SM9 : Hid (∀ k t, (L ++ [X])[k]? = some t → NT qf sf k t) := Lib.hid (fun k u hu => by
            rcases Nat.lt_or_ge k L.length with hk | hk
            · rw [List.getElem?_append_left hk] at hu
              exact SM.out k u hu
            · have hk' : k = L.length := (by have := (List.getElem?_eq_some_iff.mp hu).1; simp at this; omega)
              subst hk'
              rw [List.getElem?_append_right (Nat.le_refl _), Nat.sub_self] at hu
              have : X = u := (by simpa using hu)
              subst this
              rw [hX, HLL.out]
              exact ⟨rfl, rfl, HN.out, rfl⟩)
          have OW9 : Hid (w9.ownsRow w2.heap.size 191 3 (.slice (some ⟨g9, 0, none⟩) (L.length + 1) cap9) (L ++ [X]).length (rowTn (L ++ [X]))) := Lib.hid (by
            rw [rowTn_snoc, List.length_append, hX]; exact hown9)
          have HKF : Hid (Keeps w2 (w9.setCell ⟨X0, 4, none⟩ (.slice (some ⟨g9, 0, none⟩) (L.length + 1) cap9)) X0 (X0 + 1)) := Lib.hid ((keeps_under HK'.out HBY.out (Nat.le_refl _)).trans (keeps_setCell (p := ⟨X0, 4, none⟩) (Nat.le_refl _) (Nat.lt_succ_self _) _))
          have HXF : Hid (∃ bv lv, Blk (w9.setCell ⟨X0, 4, none⟩ (.slice (some ⟨g9, 0, none⟩) (L.length + 1) cap9)) X0 [.int .i64 (m : Int), .slice a (2 * m) c, .int .i64 0, .int .i64 0, .slice bv (L ++ [X]).length lv] ∧ (w9.setCell ⟨X0, 4, none⟩ (.slice (some ⟨g9, 0, none⟩) (L.length + 1) cap9)).ownsRow w2.heap.size 191 3 (.slice bv (L ++ [X]).length lv) (L ++ [X]).length (rowTn (L ++ [X])) ∧ FldT (w9.setCell ⟨X0, 4, none⟩ (.slice (some ⟨g9, 0, none⟩) (L.length + 1) cap9)) w2.heap.size (.slice bv (L ++ [X]).length lv) (L ++ [X])) := Lib.hid ⟨some ⟨g9, 0, none⟩, cap9, by
              have := T9.out.set 4 (by simp) (.slice (some ⟨g9, 0, none⟩) (L.length + 1) cap9)
              rw [List.length_append]; exact this, by
              have := ownsRow_setCell_other OW9.out (a := ⟨X0, 4, none⟩) (fun e => by have e' : g9 = X0 := (by simpa [Value.ownBlock] using e); omega) (.slice (some ⟨g9, 0, none⟩) (L.length + 1) cap9)
              rw [List.length_append] at this ⊢; exact this, by
              have := FL9.out.block (w' := (w9.setCell ⟨X0, 4, none⟩ (.slice (some ⟨g9, 0, none⟩) (L.length + 1) cap9))) (by simp) (fun b h1 h2 h3 => Below.heap_setCell w9 _ _ b (by simp; omega))
              rw [List.length_append]; exact this⟩
          clear hown9 hgrow9 hat9 hX HN HBY HBC FL9 OW9 T9 OWd OBd OW5 OB5 P5 hmk HB5 HBA hz5 l9 d94 e94 lO d4 e4 q0 s0 b1 b2 lB HSK
          go_wp2
          go_roundw
          (case rel => first | exact ⟨i + 1, L ++ [X], by omega, by go_num, by rw [List.length_append, HLL.out]; rfl, HKF, HXF, SM9⟩ | ((repeat apply Exists.intro); exact ⟨⟨i + 1, L ++ [X], by omega, by go_num, by rw [List.length_append, HLL.out]; rfl, HKF, HXF, SM9⟩, rfl⟩))
          (case measure => simp [intOf]; omega))
      · have hlt' : ¬ (i : Int) < (Q : Int) := by omega
        obtain rfl : i = Q := by omega
        obtain ⟨na', nc', e', hnvo⟩ := rowTn_TVO OWr.out FLr.out (Nat.le_refl _)
        simp only [Value.slice.injEq] at e'
        obtain ⟨rfl, -, rfl⟩ := e'
        have HNVO := Lib.hid hnvo
        have SMF : Hid (∀ k, k < i → NT qf sf k (tT L k)) := Lib.hid (fun k hk => by
          have hk' : k < L.length := by omega
          rw [tT_at (List.getElem?_eq_getElem hk')]
          exact SM.out k _ (List.getElem?_eq_getElem hk'))
        have HPF := Lib.hid (O_2.out.keeps HK'.out (.inl (Nat.le_refl _)))
        have R_r := Lib.hid (R_2.out.keeps HK'.out (.inl (by omega)))
        have o0 := OBr.out.at 0 rfl; have o1 := OBr.out.at 1 rfl; have o2 := OBr.out.at 2 rfl; have o3 := OBr.out.at 3 rfl; have o4 := OBr.out.at 4 rfl; have lO := OBr.out.1
        rw [hLl] at HNVO o4
        clear hnvo OWr FLr SM
        have r0 := R_r.out.at 0 rfl; have fr0 := R_r.out.free 0 rfl; have r1 := R_r.out.at 1 rfl; have fr1 := R_r.out.free 1 rfl; have r2 := R_r.out.at 2 rfl; have fr2 := R_r.out.free 2 rfl; have r3 := R_r.out.at 3 rfl; have fr3 := R_r.out.free 3 rfl; have r4 := R_r.out.at 4 rfl; have fr4 := R_r.out.free 4 rfl; have r5 := R_r.out.at 5 rfl; have fr5 := R_r.out.free 5 rfl; have r6 := R_r.out.at 6 rfl; have fr6 := R_r.out.free 6 rfl; have r7 := R_r.out.at 7 rfl; have fr7 := R_r.out.free 7 rfl; have lR := R_r.out.1
        go_wp2
        refine bodyPost_ret (v := .agg #[.int .i64 0, .int .i64 (m : Int), .slice a (2 * m) c, .int .i64 0, .int .i64 0, .slice bv i lv, .slice none 0 0, .slice none 0 0]) (by simp [results, Try.results46, go_sem, r0, r1, r2, r3, r4, r5, r6, r7]) rfl ⟨a, c, bv, lv, X0, tT L, rfl, ?_, ?_, by omega, by simp; omega, fun k hk => SMF.out k hk, ?_⟩
        · refine OwnIn.widen (OwnIn.keeps (lo' := w.heap.size) (hi' := w.heap.size + 2) HPF.out ?_ (.inr (by omega))) (by omega) (Nat.le_refl _)
          repeat (first | (refine Keeps.trans ?_ (keeps_setCell (by (try simp); (try omega)) (by (try simp); (try omega)) _)) | (refine Keeps.trans ?_ (keeps_of_below ((Below.refl _ _).alloc (Nat.le_refl _) _) _ _)))
          exact Keeps.refl _ _ _
        · refine (TVO.keeps (lo' := w.heap.size) (hi' := w.heap.size + 2) HNVO.out ?_ (.inr (by omega))).widen (by omega) (by simp)
          repeat (first | (refine Keeps.trans ?_ (keeps_setCell (by (try simp); (try omega)) (by (try simp); (try omega)) _)) | (refine Keeps.trans ?_ (keeps_of_below ((Below.refl _ _).alloc (Nat.le_refl _) _) _ _)))
          exact Keeps.refl _ _ _
        · repeat (first | (with_reducible refine Below.setCell ?_ (by (try simp); (try omega)) _) | (with_reducible refine Below.alloc ?_ (by (try simp); (try omega)) _) | (with_reducible refine Below.drew ?_))
          exact HBr.out
  · obtain ⟨k1, k2⟩ : m = 0 ∧ Q' = 0 := by
      rcases HK.out with ⟨h, _⟩ | ⟨_, h⟩
      · exact absurd h h0
      · exact h
    subst k1 k2
    have h0' : (c != 0) = true := by simpa using h0
    clear h0
    have r0 := R_1.out.at 0 rfl; have fr0 := R_1.out.free 0 rfl; have r1 := R_1.out.at 1 rfl; have fr1 := R_1.out.free 1 rfl; have r2 := R_1.out.at 2 rfl; have fr2 := R_1.out.free 2 rfl; have r3 := R_1.out.at 3 rfl; have fr3 := R_1.out.free 3 rfl; have r4 := R_1.out.at 4 rfl; have fr4 := R_1.out.free 4 rfl; have r5 := R_1.out.at 5 rfl; have fr5 := R_1.out.free 5 rfl; have r6 := R_1.out.at 6 rfl; have fr6 := R_1.out.free 6 rfl; have r7 := R_1.out.at 7 rfl; have fr7 := R_1.out.free 7 rfl; have lR := R_1.out.1
    go_wp2
    refine bodyPost_ret (v := .agg #[.int .i64 c, .int .i64 0, .slice none 0 0, .int .i64 0, .int .i64 0, .slice none 0 0, .slice none 0 0, .slice none 0 0]) (by simp [results, Try.results46, go_sem, r0, r1, r2, r3, r4, r5, r6, r7]) rfl ⟨none, 0, none, 0, w.heap.size, fun _ => tz, rfl, .inl rfl, .inl rfl, Nat.le_refl _, by simp; omega, fun i hi => by omega, ?_⟩
    repeat (first | (with_reducible refine Below.setCell ?_ (by (try simp); (try omega)) _) | (with_reducible refine Below.alloc ?_ (by (try simp); (try omega)) _) | (with_reducible refine Below.drew ?_))
    exact HB1.out
end Go.Proofs.Ytbhjmomphajnnaa

namespace Go.Proofs.Ytbhjmomphajnnaa
open Go.RowKit
set_option linter.unusedVariables false

/-- What is kept but for no block is kept but for some. -/
theorem Keeps.widen0 {w w' : World} (h : Keeps w w' 0 0) (lo hi : Nat) : Keeps w w' lo hi := ⟨h.os, h.tape, h.output, h.size, fun k hk _ => h.block k hk (.inr (Nat.zero_le _))⟩

theorem toff_le (T : Nat → TN) : ∀ N, (∀ i, i < N → (T i).n ≤ 8) → toff T N ≤ 18 * N
  | 0, _ => Nat.le_refl _
  | N + 1, h => by
    have := toff_le T N fun i hi => h i (by omega)
    have := h N (by omega)
    simp only [toff]; omega

set_option maxRecDepth 100000 in
set_option maxHeartbeats 800000 in
theorem markConfig_any (hf : Int) (qa : Option Addr) (Q qc : Nat) (qf : Nat → Int) (sa : Option Addr) (S sc : Nat) (sf : Nat → Int) (lo mid hi : Nat) (k : Int) (w : World) (hp : OwnIn w lo mid qa Q qf) (hg : OwnIn w mid hi sa S sf) (h1 : lo ≤ mid) (h2 : mid ≤ hi) (h3 : hi ≤ w.heap.size) (hQ : Q ≤ 1048576) (hS : S ≤ 1048576) (hk0 : 0 ≤ k) (hk1 : k ≤ 1000) :
    Calls Try.prog 48 #[.agg #[.int .i64 hf, .slice qa Q qc, .slice sa S sc], .int .i64 k] w fun e w' => e = .returned (.int .i64 (k + (Q : Int) + (S : Int))) ∧ Keeps w w' lo hi := by
  have P0 := Lib.hid hp; have G0 := Lib.hid hg
  clear hp hg
  go_enter Try.func48, Try.ntmps48
  have A_0 := Lib.hid (Blk.new_at (w := w) (cs := #[.int .i64 hf, .slice qa Q qc, .slice sa S sc]) (t := 77) w.heap.size rfl)
  have HB0 := Lib.hid ((Below.refl w.heap.size w).alloc (Nat.le_refl _) (.cells #[.int .i64 hf, .slice qa Q qc, .slice sa S sc] 77))
  have P1 := Lib.hid (P0.out.below HB0.out); have G1 := Lib.hid (G0.out.below HB0.out)
  have HK0 := Lib.hid (keeps_of_below HB0.out lo hi)
  go_wp2_with fail
  refine (markInts_big qa Q qc lo mid qf k _ P1.out hQ hk0 (by omega)).mono ?_
  rintro e w1 ⟨rfl, hp, hk⟩
  have HK1 := Lib.hid (HK0.out.trans (hk.widen (Nat.le_refl _) h2))
  have A_1 := Lib.hid (A_0.out.keeps hk (.inr (by omega)))
  have G2 := Lib.hid (G1.out.keeps hk (.inr (Nat.le_refl _)))
  clear hp hk P0 P1 G0 G1 A_0 HK0
  have c2 := A_1.out.at 2 rfl; have lA := A_1.out.1
  go_wp2_with fail
  refine (markInts_big sa S sc mid hi sf (k + (Q : Int)) _ G2.out hS (by omega) (by omega)).mono ?_
  rintro e w2 ⟨rfl, hg, hk⟩
  have HK2 := Lib.hid (HK1.out.trans (hk.widen h1 (Nat.le_refl _)))
  clear hg hk G2 HK1 c2 lA A_1
  go_wp2
  go_ret
  exact ⟨rfl, HK2.out⟩

set_option maxRecDepth 100000 in
set_option maxHeartbeats 800000 in
theorem eqHpR_same (co h ac bu : Int) (a a' : Option Addr) (n c c' : Nat) (f g : Nat → Int) (ta ta' : Option Addr) (N tc tc' : Nat) (T U : Nat → TN) (w : World) (s1 : Src w a n f) (s2 : Src w a' n g) (t1 : TV w ta N T) (t2 : TV w ta' N U) (he : ∀ i, i < n → f i = g i) (hs : ∀ i, i < N → TnSame (T i) (U i)) (hn : n ≤ 1048576) (hN : N ≤ 1048576) (hm : ∀ i, i < N → (T i).n ≤ 1048576) :
    Calls Try.prog 47 #[.agg #[.int .i64 co, .int .i64 h, .slice a n c, .int .i64 ac, .int .i64 bu, .slice ta N tc, .slice none 0 0, .slice none 0 0], .agg #[.int .i64 co, .int .i64 h, .slice a' n c', .int .i64 ac, .int .i64 bu, .slice ta' N tc', .slice none 0 0, .slice none 0 0]] w (RetBool w true) := by
  have S1 := Lib.hid s1; have S2 := Lib.hid s2; have T1 := Lib.hid t1; have T2 := Lib.hid t2; have HE := Lib.hid he; have HS := Lib.hid hs; have HM := Lib.hid hm
  have HB0 := Lib.hid (((Below.refl w.heap.size w).alloc (Nat.le_refl _) (.cells #[.int .i64 co, .int .i64 h, .slice a n c, .int .i64 ac, .int .i64 bu, .slice ta N tc, .slice none 0 0, .slice none 0 0] 85)).alloc (by simp) (.cells #[.int .i64 co, .int .i64 h, .slice a' n c', .int .i64 ac, .int .i64 bu, .slice ta' N tc', .slice none 0 0, .slice none 0 0] 85))
  have A_0 := Lib.hid ((Blk.new_at (w := w) (cs := #[.int .i64 co, .int .i64 h, .slice a n c, .int .i64 ac, .int .i64 bu, .slice ta N tc, .slice none 0 0, .slice none 0 0]) (t := 85) w.heap.size rfl).alloc (.cells #[.int .i64 co, .int .i64 h, .slice a' n c', .int .i64 ac, .int .i64 bu, .slice ta' N tc', .slice none 0 0, .slice none 0 0] 85))
  have A_1 := Lib.hid (Blk.new_at (w := w.alloc (.cells #[.int .i64 co, .int .i64 h, .slice a n c, .int .i64 ac, .int .i64 bu, .slice ta N tc, .slice none 0 0, .slice none 0 0] 85)) (cs := #[.int .i64 co, .int .i64 h, .slice a' n c', .int .i64 ac, .int .i64 bu, .slice ta' N tc', .slice none 0 0, .slice none 0 0]) (t := 85) (w.heap.size + 1) (by simp))
  clear s1 s2 t1 t2 he hs hm
  go_enter Try.func47, Try.ntmps47
  go_wp2_with fail
  refine (eqHeap_same h ac bu a a' n c c' f g ta ta' N tc tc' T U _ (S1.out.below HB0.out) (S2.out.below HB0.out) (T1.out.below HB0.out) (T2.out.below HB0.out) HE.out HS.out hn hN HM.out).mono ?_
  rintro e w1 ⟨rfl, hb⟩
  have HB1 := Lib.hid (thru0 HB0.out hb)
  have B_0 := Lib.hid (A_0.out.below hb); have B_1 := Lib.hid (A_1.out.below hb)
  clear hb A_0 A_1 HB0
  have c6 := B_0.out.at 6 rfl; have d6 := B_1.out.at 6 rfl; have l0 := B_0.out.1; have l1 := B_1.out.1
  go_wp2_with fail
  refine (eqReplyS_same none none 0 0 0 (fun _ => ⟨0, 0⟩) (fun _ => ⟨0, 0⟩) _ (.inl rfl) (.inl rfl) (fun i hi => rfl) (by omega)).mono ?_
  rintro e w2 ⟨rfl, hb⟩
  have HB2 := Lib.hid (thru0 HB1.out hb)
  have C_0 := Lib.hid (B_0.out.below hb); have C_1 := Lib.hid (B_1.out.below hb)
  clear hb B_0 B_1 HB1 c6 d6 l0 l1
  have c7 := C_0.out.at 7 rfl; have d7 := C_1.out.at 7 rfl; have l0 := C_0.out.1; have l1 := C_1.out.1
  go_wp2_with fail
  refine (eqInts_same none none 0 0 0 (fun _ => 0) (fun _ => 0) _ (.inl rfl) (.inl rfl) (by omega)).mono ?_
  rintro e w3 ⟨rfl, hb⟩
  have HB3 := Lib.hid (thru0 HB2.out hb)
  have hq : eqB 0 0 (fun _ => (0 : Int)) (fun _ => 0) = true := eqB_yes fun _ _ => rfl
  clear hb C_0 C_1 HB2 c7 d7 l0 l1
  go_wp2
  go_ret
  exact ⟨rfl, HB3.out⟩

/-- A heap is marked. -/
def RetMkH (W : World) (lo mid hi : Nat) (a : Option Addr) (n : Nat) (ta : Option Addr) (N : Nat) (T : Nat → TN) (k : Int) (e : Ending) (w' : World) : Prop :=
  e = .returned (.int .i64 (k + (n : Int) + (toff T N : Int))) ∧ OwnIn w' lo mid a n (fun i => k + (i : Int)) ∧ TVO w' mid hi ta N (tmkd T (k + (n : Int))) ∧ Keeps W w' lo hi

set_option maxRecDepth 100000 in
set_option maxHeartbeats 800000 in
theorem markHeap_any (h ac bu : Int) (a : Option Addr) (n c : Nat) (f : Nat → Int) (ta : Option Addr) (N tc : Nat) (T : Nat → TN) (lo mid hi : Nat) (k : Int) (w : World) (hp : OwnIn w lo mid a n f) (hg : TVO w mid hi ta N T) (h1 : lo ≤ mid) (h2 : mid ≤ hi) (h3 : hi ≤ w.heap.size) (hn : n ≤ 1048576) (hk0 : 0 ≤ k) (hk1 : k + (n : Int) + (toff T N : Int) ≤ 1048576) :
    Calls Try.prog 113 #[.agg #[.int .i64 h, .slice a n c, .int .i64 ac, .int .i64 bu, .slice ta N tc], .int .i64 k] w (RetMkH w lo mid hi a n ta N T k) := by
  have P0 := Lib.hid hp; have G0 := Lib.hid hg
  have hn0 : (0 : Int) ≤ (toff T N : Int) := by omega
  clear hp hg
  go_enter Try.func113, Try.ntmps113
  have A_0 := Lib.hid (Blk.new_at (w := w) (cs := #[.int .i64 h, .slice a n c, .int .i64 ac, .int .i64 bu, .slice ta N tc]) (t := 83) w.heap.size rfl)
  have HB0 := Lib.hid ((Below.refl w.heap.size w).alloc (Nat.le_refl _) (.cells #[.int .i64 h, .slice a n c, .int .i64 ac, .int .i64 bu, .slice ta N tc] 83))
  have P1 := Lib.hid (P0.out.below HB0.out); have G1 := Lib.hid (G0.out.below HB0.out)
  have HK0 := Lib.hid (keeps_of_below HB0.out lo hi)
  go_wp2_with fail
  refine (markArena_any h ac bu a n c lo mid f k _ P1.out hn hk0 (by omega)).mono ?_
  rintro e w1 ⟨rfl, hp, hk⟩
  have P2 := Lib.hid hp; have HK1 := Lib.hid (HK0.out.trans (hk.widen (Nat.le_refl _) h2))
  have A_1 := Lib.hid (A_0.out.keeps hk (.inr (by omega)))
  have G2 := Lib.hid (G1.out.keeps hk (.inr (Nat.le_refl _)))
  clear hp hk P0 P1 G0 G1 A_0 HK0
  have c4 := A_1.out.at 4 rfl; have lA := A_1.out.1
  go_wp2_with fail
  refine (markTV_any mid hi N tc ta T (k + (n : Int)) _ G2.out (by omega) hk1).mono ?_
  rintro e w2 ⟨rfl, hg, hk⟩
  have G3 := Lib.hid hg; have P3 := Lib.hid (P2.out.keeps hk (.inl (Nat.le_refl _))); have HK2 := Lib.hid (HK1.out.trans (hk.widen h1 (Nat.le_refl _)))
  clear hg hk G2 P2 HK1 c4 lA A_1
  go_wp2
  go_ret
  exact ⟨rfl, P3.out, G3.out, HK2.out⟩

set_option maxRecDepth 100000 in
set_option maxHeartbeats 800000 in
theorem markHR_any (co h ac bu : Int) (a : Option Addr) (n c : Nat) (f : Nat → Int) (ta : Option Addr) (N tc : Nat) (T : Nat → TN) (lo mid hi : Nat) (k : Int) (w : World) (hp : OwnIn w lo mid a n f) (hg : TVO w mid hi ta N T) (h1 : lo ≤ mid) (h2 : mid ≤ hi) (h3 : hi ≤ w.heap.size) (hn : n ≤ 1048576) (hk0 : 0 ≤ k) (hk1 : k + (n : Int) + (toff T N : Int) ≤ 1048576) :
    Calls Try.prog 49 #[.agg #[.int .i64 co, .int .i64 h, .slice a n c, .int .i64 ac, .int .i64 bu, .slice ta N tc, .slice none 0 0, .slice none 0 0], .int .i64 k] w (RetMkH w lo mid hi a n ta N T k) := by
  have P0 := Lib.hid hp; have G0 := Lib.hid hg
  have hn0 : (0 : Int) ≤ (toff T N : Int) := by omega
  clear hp hg
  go_enter Try.func49, Try.ntmps49
  have A_0 := Lib.hid (Blk.new_at (w := w) (cs := #[.int .i64 co, .int .i64 h, .slice a n c, .int .i64 ac, .int .i64 bu, .slice ta N tc, .slice none 0 0, .slice none 0 0]) (t := 85) w.heap.size rfl)
  have HB0 := Lib.hid ((Below.refl w.heap.size w).alloc (Nat.le_refl _) (.cells #[.int .i64 co, .int .i64 h, .slice a n c, .int .i64 ac, .int .i64 bu, .slice ta N tc, .slice none 0 0, .slice none 0 0] 85))
  have HK0 := Lib.hid (keeps_of_below HB0.out lo hi)
  have hsz := HB0.out.size
  go_wp2_with fail
  refine (markHeap_any h ac bu a n c f ta N tc T lo mid hi k _ (P0.out.below HB0.out) (G0.out.below HB0.out) h1 h2 (by omega) hn hk0 hk1).mono ?_
  rintro e w1 ⟨rfl, hp, hg, hk⟩
  have P1 := Lib.hid hp; have G1 := Lib.hid hg; have HK1 := Lib.hid (HK0.out.trans hk)
  have A_1 := Lib.hid (A_0.out.keeps hk (.inr (by omega)))
  clear hp hg hk P0 G0 A_0 HK0
  have c6 := A_1.out.at 6 rfl; have lA := A_1.out.1
  go_wp2_with fail
  refine (markReplyS_any none 0 0 0 0 (fun _ => ⟨0, 0⟩) (k + (n : Int) + (toff T N : Int)) _ (.inl rfl) (by omega) (by omega)).mono ?_
  rintro e w2 ⟨rfl, _, hk⟩
  have P2 := Lib.hid (P1.out.keeps hk (.inr (Nat.zero_le _))); have G2 := Lib.hid (G1.out.keeps hk (.inr (Nat.zero_le _))); have HK2 := Lib.hid (HK1.out.trans (hk.widen0 lo hi))
  have A_2 := Lib.hid (A_1.out.keeps hk (.inr (Nat.zero_le _)))
  clear hk P1 G1 HK1 A_1 c6 lA
  have c7 := A_2.out.at 7 rfl; have lA := A_2.out.1
  have e1 : k + (n : Int) + (toff T N : Int) + 2 * ((0 : Nat) : Int) = k + (n : Int) + (toff T N : Int) := by omega
  rw [e1]
  go_wp2_with fail
  refine (markInts_big none 0 0 0 0 (fun _ => 0) (k + (n : Int) + (toff T N : Int)) _ (.inl rfl) (by omega) (by omega) (by omega)).mono ?_
  rintro e w3 ⟨rfl, _, hk⟩
  have P3 := Lib.hid (P2.out.keeps hk (.inr (Nat.zero_le _))); have G3 := Lib.hid (G2.out.keeps hk (.inr (Nat.zero_le _))); have HK3 := Lib.hid (HK2.out.trans (hk.widen0 lo hi))
  clear hk P2 G2 HK2 A_2 c7 lA
  have e2 : k + (n : Int) + (toff T N : Int) + ((0 : Nat) : Int) = k + (n : Int) + (toff T N : Int) := by omega
  rw [e2]
  go_wp2
  go_ret
  exact ⟨rfl, P3.out, G3.out, HK3.out⟩

set_option maxRecDepth 100000 in
set_option maxHeartbeats 800000 in
theorem heldHeap_any (h ac bu : Int) (a : Option Addr) (n c : Nat) (ta : Option Addr) (N tc : Nat) (T : Nat → TN) (k : Int) (w : World) (hp : Src w a n (fun i => k + (i : Int))) (hg : TV w ta N (tmkd T (k + (n : Int)))) (hn : n ≤ 1048576) (hk0 : 0 ≤ k) (hk1 : k + (n : Int) + (toff T N : Int) ≤ 1048576) :
    Calls Try.prog 115 #[.agg #[.int .i64 h, .slice a n c, .int .i64 ac, .int .i64 bu, .slice ta N tc], .int .i64 k] w (RetInt w (k + (n : Int) + (toff T N : Int))) := by
  have P0 := Lib.hid hp; have G0 := Lib.hid hg
  have hn0 : (0 : Int) ≤ (toff T N : Int) := by omega
  have q1 : ¬ k + (n : Int) < 0 := by omega
  have q2 : ¬ k + (n : Int) + (toff T N : Int) < 0 := by omega
  clear hp hg
  have A_0 := Lib.hid (Blk.new_at (w := w) (cs := #[.int .i64 h, .slice a n c, .int .i64 ac, .int .i64 bu, .slice ta N tc]) (t := 83) w.heap.size rfl)
  have HB0 := Lib.hid ((Below.refl w.heap.size w).alloc (Nat.le_refl _) (.cells #[.int .i64 h, .slice a n c, .int .i64 ac, .int .i64 bu, .slice ta N tc] 83))
  go_enter Try.func115, Try.ntmps115
  go_wp2_with fail
  refine (heldArena_any h ac bu a n c k _ (P0.out.below HB0.out) hn hk0 (by omega)).mono ?_
  rintro e w1 ⟨rfl, hb⟩
  have HB1 := Lib.hid (thru0 HB0.out hb); have A_1 := Lib.hid (A_0.out.below hb)
  clear hb A_0 HB0
  have c4 := A_1.out.at 4 rfl; have lA := A_1.out.1
  go_wp2_with fail
  refine (heldTV_any N tc ta T (k + (n : Int)) _ (G0.out.below HB1.out) (by omega) hk1).mono ?_
  rintro e w2 ⟨rfl, rfl⟩
  go_wp2
  go_ret
  exact ⟨rfl, HB1.out⟩

set_option maxRecDepth 100000 in
set_option maxHeartbeats 800000 in
theorem heldHR_any (co h ac bu : Int) (a : Option Addr) (n c : Nat) (ta : Option Addr) (N tc : Nat) (T : Nat → TN) (k : Int) (w : World) (hp : Src w a n (fun i => k + (i : Int))) (hg : TV w ta N (tmkd T (k + (n : Int)))) (hn : n ≤ 1048576) (hk0 : 0 ≤ k) (hk1 : k + (n : Int) + (toff T N : Int) ≤ 1048576) :
    Calls Try.prog 50 #[.agg #[.int .i64 co, .int .i64 h, .slice a n c, .int .i64 ac, .int .i64 bu, .slice ta N tc, .slice none 0 0, .slice none 0 0], .int .i64 k] w (RetInt w (k + (n : Int) + (toff T N : Int))) := by
  have P0 := Lib.hid hp; have G0 := Lib.hid hg
  have hn0 : (0 : Int) ≤ (toff T N : Int) := by omega
  have q2 : ¬ k + (n : Int) + (toff T N : Int) < 0 := by omega
  clear hp hg
  have A_0 := Lib.hid (Blk.new_at (w := w) (cs := #[.int .i64 co, .int .i64 h, .slice a n c, .int .i64 ac, .int .i64 bu, .slice ta N tc, .slice none 0 0, .slice none 0 0]) (t := 85) w.heap.size rfl)
  have HB0 := Lib.hid ((Below.refl w.heap.size w).alloc (Nat.le_refl _) (.cells #[.int .i64 co, .int .i64 h, .slice a n c, .int .i64 ac, .int .i64 bu, .slice ta N tc, .slice none 0 0, .slice none 0 0] 85))
  go_enter Try.func50, Try.ntmps50
  go_wp2_with fail
  refine (heldHeap_any h ac bu a n c ta N tc T k _ (P0.out.below HB0.out) (G0.out.below HB0.out) hn hk0 hk1).mono ?_
  rintro e w1 ⟨rfl, hb⟩
  have HB1 := Lib.hid (thru0 HB0.out hb); have A_1 := Lib.hid (A_0.out.below hb)
  clear hb A_0 HB0
  have c6 := A_1.out.at 6 rfl; have c7 := A_1.out.at 7 rfl; have lA := A_1.out.1
  go_wp2_with fail
  refine (heldReplyS_any none 0 0 (k + (n : Int) + (toff T N : Int)) _ (.inl rfl) (by omega) (by omega)).mono ?_
  rintro e w2 ⟨rfl, rfl⟩
  have e1 : k + (n : Int) + (toff T N : Int) + 2 * ((0 : Nat) : Int) = k + (n : Int) + (toff T N : Int) := by omega
  rw [e1]
  go_wp2_with fail
  refine (heldInts_any none 0 0 (k + (n : Int) + (toff T N : Int)) _ (.inl rfl) (by omega) (by omega) (by omega)).mono ?_
  rintro e w3 ⟨rfl, rfl⟩
  have e2 : k + (n : Int) + (toff T N : Int) + ((0 : Nat) : Int) = k + (n : Int) + (toff T N : Int) := by omega
  rw [e2]
  go_wp2
  go_ret
  exact ⟨rfl, HB1.out⟩
end Go.Proofs.Ytbhjmomphajnnaa

