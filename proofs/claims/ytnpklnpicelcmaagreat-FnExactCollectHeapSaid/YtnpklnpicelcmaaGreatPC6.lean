/- Texts merged: HTB to LCH. -/
import Derived.Test.YtnpklnpicelcmaaGreatPC5
namespace Go.Proofs.YtnpklnpicelcmaaGreat
open Go.RowKit
set_option linter.unusedVariables false

set_option maxRecDepth 100000 in
set_option maxHeartbeats 800000 in
theorem markHeapSlotS_big (a : Option Addr) (lo hi N c : Nat) (T : Nat → SL) (k : Int) (w : World) (hs : PVO w lo hi a N T) (hk0 : 0 ≤ k) (hk1 : k + 2 * (N : Int) ≤ 4398046511104) :
    Calls Tryz.prog 65 #[.slice a N c, .int .i64 k] w fun e w' => e = .returned (.int .i64 (k + 2 * (N : Int))) ∧ PVO w' lo hi a N (smkd k) ∧ Keeps w w' lo hi := by
  have H := Lib.hid hs
  clear hs
  go_enter Tryz.func65, Tryz.ntmps65
  go_wp2
  go_loopw [1, 5] (fun u p wr => ∃ i : Nat, i ≤ N ∧ p = .int .i64 i ∧ u = .int .i64 (k + 2 * (i : Int)) ∧ Hid (Keeps w wr lo hi) ∧ Hid (PVO wr lo hi a N (fun j => if j < i then smkd k j else T j))) (fun _ p _ => N - (intOf p).toNat)
  case atStart => exact ⟨0, Nat.zero_le _, rfl, by simp, Keeps.refl _ _ _, by simpa using H⟩
  case round =>
    obtain ⟨i, hi9, rfl, rfl, HK, HR⟩ := hrel
    by_cases hlt : i < N
    · have hlt' : (i : Int) < (N : Int) := by omega
      have hi0 : (0 : Int) ≤ (i : Int) := by omega
      rcases HR.out with h0 | ⟨b, q, rfl, hg⟩
      · omega
      obtain ⟨x0, x1⟩ := hg.two i hlt
      obtain ⟨f0, f1⟩ := hg.free i hlt
      have hlt0 := hg.lt
      generalize hK : k + 2 * (i : Int) = K at *
      have hK0 : 0 ≤ K := by omega
      have hK1 : K + 2 ≤ 4398046511104 := by omega
      have HKK := Lib.hid hK
      have HQ := Lib.hid (pown_put (i := i) (t := ⟨K, K + 1⟩) hg hlt)
      clear hK hg HR
      go_wp2
      go_roundw
      case rel =>
        refine ⟨i + 1, by omega, by go_num, by have := HKK.out; go_num, HK.out.trans HQ.out.2, .inr ⟨b, q, rfl, HQ.out.1.congr fun j hj => ?_⟩⟩
        by_cases e : j = i
        · subst e
          simp only [if_true, Nat.lt_succ_self, smkd, HKK.out]
        · rw [if_neg e]
          have h2 : (j < i + 1) = (j < i) := by simp only [eq_iff_iff]; omega
          simp only [h2]
      case measure => simp [intOf]; omega
    · go_wp2
      go_ret
      obtain rfl : i = N := by omega
      refine ⟨rfl, ?_, HK.out⟩
      exact HR.out.congr fun j hj => by simp [hj]

set_option maxRecDepth 100000 in
set_option maxHeartbeats 1600000 in
theorem markTenS_big (lo hi b q N c : Nat) (T : Nat → TN) (k : Int) (w : World) (hs : TOwn w lo hi b q N T) (hk0 : 0 ≤ k) (hk1 : k + (toff T N : Int) ≤ 4398046511104) (hN5 : N ≤ 1048576) :
    Calls Tryz.prog 29 #[.slice (some ⟨b, q, none⟩) N c, .int .i64 k] w (TRetMarkS w lo hi b q N T k) := by
  have H := Lib.hid hs
  have hlh : lo ≤ hi := by have := hs.glo; have := hs.ghi; omega
  clear hs
  go_enter Tryz.func29, Tryz.ntmps29
  go_wp2
  go_loopw [1, 5] (fun u p wr => ∃ i : Nat, i ≤ N ∧ p = .int .i64 i ∧ u = .int .i64 (k + (toff T i : Int)) ∧ Hid (Keeps w wr lo hi) ∧ Hid (TOwn wr lo hi b q N (fun j => if j < i then tmkd T k j else T j))) (fun _ p _ => N - (intOf p).toNat)
  case atStart => exact ⟨0, Nat.zero_le _, rfl, by simp [toff], Keeps.refl _ _ _, by simpa using H⟩
  case round =>
    obtain ⟨i, hi9, rfl, rfl, HK, HR⟩ := hrel
    by_cases hlt : i < N
    · have hlt' : (i : Int) < (N : Int) := by omega
      have hi0 : (0 : Int) ≤ (i : Int) := by omega
      have hle : toff T (i + 1) ≤ toff T N := toff_mono T hlt
      have hso : (toff T (i + 1) : Int) = (toff T i : Int) + 2 + 2 * ((T i).n : Int) := by simp only [toff]; omega
      have hx := HR.out.thr i hlt
      have hsrc := HR.out.slo i hlt
      obtain ⟨f0, f1, f2⟩ := HR.out.free i hlt
      have hlt0 := HR.out.lt
      simp only [Nat.lt_irrefl, if_false] at hx hsrc
      obtain ⟨x0, x1, x2⟩ := hx
      generalize hK : k + (toff T i : Int) = K at *
      have hK0 : 0 ≤ K := by omega
      have hK1 : K + 2 + 2 * ((T i).n : Int) ≤ 4398046511104 := by omega
      have HSO := Lib.hid hso; have HKK := Lib.hid hK; have HSRC := Lib.hid hsrc
      clear hso hK hle hsrc
      obtain ⟨l, r, hl1, hl2, hl3, hnar, hlr⟩ := pvo_narrow HSRC.out hlh
      obtain ⟨U, hU⟩ : ∃ U : Nat → TN, U = fun j => if j < i then tmkd T k j else T j := ⟨_, rfl⟩
      have hUi : U i = T i := by rw [hU]; simp
      have hR : TOwn wr lo hi b q N U := by rw [hU]; exact HR.out
      have hnar' : PVO wr l r (U i).a (U i).n (U i).S := by rw [hUi]; exact hnar
      have h5 := town_two ⟨K, K + 1⟩ hR hlt hnar'
      have hlr' : ((U i).n = 0 ∧ l = r) ∨ (0 < (U i).n ∧ l = (U i).g ∧ r = (U i).g + 1 ∧ (U i).g < wr.heap.size) := by rw [hUi]; exact hlr
      rw [hUi] at h5
      have H5 := Lib.hid h5; have HLR := Lib.hid hlr'; have HRU := Lib.hid hR; have HUI := Lib.hid hUi; have HU := Lib.hid hU
      clear h5 hlr' hR hUi hU hnar hnar' hlr HR
      go_wp2_with fail
      rw [show K + 1 + 1 = K + 2 from by omega]
      refine (markHeapSlotS_big (T i).a l r (T i).n (T i).c (T i).S (K + 2) (twoW wr b (q + i * 3) ⟨K, K + 1⟩) H5.out (by omega) (by omega)).mono ?_
      rintro e w2 ⟨rfl, ho2, hk2⟩
      have hq := town_round (i := i) HRU.out hlt hl1 hl3 HLR.out hk2 (by rw [HUI.out]; exact ho2)
      have HQ := Lib.hid hq
      clear ho2 hk2 hq
      go_wp2
      go_roundw
      case rel =>
        refine ⟨i + 1, by omega, by go_num, by have := HSO.out; have := HKK.out; go_num, HK.out.trans HQ.out.2, HQ.out.1.congr fun j hj => ?_⟩
        by_cases e : j = i
        · subst e
          simp only [if_true, Nat.lt_succ_self, tmkd, HKK.out, HUI.out]
        · rw [if_neg e, HU.out]
          have h2 : (j < i + 1) = (j < i) := by simp only [eq_iff_iff]; omega
          simp only [h2]
      case measure => simp [intOf]; omega
    · go_wp2
      go_ret
      obtain rfl : i = N := by omega
      exact ⟨rfl, HR.out.congr fun j hj => by simp [hj], HK.out⟩

set_option maxRecDepth 100000 in
set_option maxHeartbeats 400000 in
theorem markTV_big (lo hi N c : Nat) (a : Option Addr) (T : Nat → TN) (k : Int) (w : World) (hs : TVO w lo hi a N T) (hk0 : 0 ≤ k) (hk1 : k + (toff T N : Int) ≤ 4398046511104) (hN5 : N ≤ 1048576) :
    Calls Tryz.prog 29 #[.slice a N c, .int .i64 k] w (TRetMarkV w lo hi a N T k) := by
  rcases Nat.eq_zero_or_pos N with rfl | hp
  · clear hs hN5
    simp only [toff] at hk1
    go_enter Tryz.func29, Tryz.ntmps29
    go_wp2
    go_loop [1, 5] (fun u p => u = .int .i64 k ∧ p = .int .i64 0) (fun _ _ => 0)
    case atStart => exact ⟨rfl, rfl⟩
    case round =>
      obtain ⟨rfl, rfl⟩ := hrel
      go_wp2
      go_ret
      exact ⟨by simp [toff], .inl rfl, Keeps.refl _ _ _⟩
  · rcases hs with h0 | ⟨b, q, rfl, h⟩
    · omega
    · refine (markTenS_big lo hi b q N c T k w h hk0 hk1 hN5).mono ?_
      rintro e w' ⟨rfl, h1, h2⟩
      exact ⟨rfl, .inr ⟨b, q, rfl, h1⟩, h2⟩

set_option maxRecDepth 100000 in
set_option maxHeartbeats 800000 in
theorem markHeap_big (h ac bu : Int) (a : Option Addr) (n c : Nat) (f : Nat → Int) (ta : Option Addr) (N tc : Nat) (T : Nat → TN) (lo mid hi : Nat) (k : Int) (w : World) (hp : OwnIn w lo mid a n f) (hg : TVO w mid hi ta N T) (h1 : lo ≤ mid) (h2 : mid ≤ hi) (h3 : hi ≤ w.heap.size) (hn : n ≤ 1048576) (hk0 : 0 ≤ k) (hk9 : k ≤ 1000) (hk1 : k + (n : Int) + (toff T N : Int) ≤ 4398046511104) (hN5 : N ≤ 1048576) :
    Calls Tryz.prog 10 #[.agg #[.int .i64 h, .slice a n c, .int .i64 ac, .int .i64 bu, .slice ta N tc], .int .i64 k] w (RetMkH w lo mid hi a n ta N T k) := by
  have P0 := Lib.hid hp; have G0 := Lib.hid hg
  have hn0 : (0 : Int) ≤ (toff T N : Int) := by omega
  clear hp hg
  go_enter Tryz.func10, Tryz.ntmps10
  have A_0 := Lib.hid (Blk.new_at (w := w) (cs := #[.int .i64 h, .slice a n c, .int .i64 ac, .int .i64 bu, .slice ta N tc]) (t := 32) w.heap.size rfl)
  have HB0 := Lib.hid ((Below.refl w.heap.size w).alloc (Nat.le_refl _) (.cells #[.int .i64 h, .slice a n c, .int .i64 ac, .int .i64 bu, .slice ta N tc] 32))
  have P1 := Lib.hid (P0.out.below HB0.out); have G1 := Lib.hid (G0.out.below HB0.out)
  have HK0 := Lib.hid (keeps_of_below HB0.out lo hi)
  go_wp2_with fail
  refine (markArena_any h ac bu a n c lo mid f k _ P1.out hn hk0 (by omega)).mono ?_
  rintro e w1 ⟨rfl, hp, hk⟩
  have P2 := Lib.hid hp; have HK1 := Lib.hid (HK0.out.trans (hk.widen (Nat.le_refl _) h2))
  have A_1 := Lib.hid (A_0.out.keeps hk (.inr (by omega)))
  have G2 := Lib.hid (G1.out.keeps hk (.inr (Nat.le_refl _)))
  clear hp hk P0 P1 G0 G1 A_0 HK0
  have c4 := A_1.out.at 4 rfl; have lA := A_1.out.1
  go_wp2_with fail
  refine (markTV_big mid hi N tc ta T (k + (n : Int)) _ G2.out (by omega) hk1 hN5).mono ?_
  rintro e w2 ⟨rfl, hg, hk⟩
  have G3 := Lib.hid hg; have P3 := Lib.hid (P2.out.keeps hk (.inl (Nat.le_refl _))); have HK2 := Lib.hid (HK1.out.trans (hk.widen h1 (Nat.le_refl _)))
  clear hg hk G2 P2 HK1 c4 lA A_1
  go_wp2
  go_ret
  exact ⟨rfl, P3.out, G3.out, HK2.out⟩

theorem toff_big {T : Nat → TN} : ∀ K, (∀ i, i < K → (T i).n ≤ 1048576) → toff T K ≤ K * 2097154
  | 0, _ => Nat.zero_le _
  | K + 1, h => by
    have h1 := toff_big K fun i hi => h i (by omega)
    have h2 := h K (Nat.lt_succ_self K)
    simp only [toff]; omega
end Go.Proofs.YtnpklnpicelcmaaGreat

namespace Go.Proofs.YtnpklnpicelcmaaGreat
open Go.RowKit
set_option linter.unusedVariables false

theorem nums_app (l m : List Int) : nums l.length (lf l) ++ nums m.length (lf m) = nums (l ++ m).length (lf (l ++ m)) := by
  rw [nums_lf, nums_lf, nums_lf, List.map_append]

/-- A row of numbers is appended to a row of the call's own. -/
theorem append_src {w : World} {ops : Array Oper} {rest : List Oper} {o : Oper} {a : Act} {Q : Exit → Act → World → Prop} (hgd : o.guard = none) (s x : Operand)
    (ho : o.op = .call { callee := .builtin .append, args := #[s, x], argTypes := #[22, 22] })
    (base : Nat) (v : Value) (n : Nat) (xs : List Value) (hs : a.eval s = v) (hown : w.ownsRow base 2 1 v n xs) (b : Option Addr) (m c : Nat) (f : Nat → Int) (hx : a.eval x = .slice b m c) (hsrc : Src w b m f) (hna : b = none → m = 0 ∧ c = 0)
    (h63 : n + m ≤ 1000000) (hbase : base ≤ w.heap.size)
    (h : ∀ v' w', w'.ownsRow base 2 1 v' (n + m) (xs ++ nums m f) → w.grownBy w' v.ownBlock → wpList Tryz.prog ops Q rest (a.put o.dst v') w') : wpList Tryz.prog ops Q (o :: rest) a w := by
  obtain ⟨i0, hif, hz0, hz1, hz2⟩ := info_parts Tryz.info2
  cases b with
  | none =>
    obtain ⟨rfl, rfl⟩ := hna rfl
    exact wpList_append_own_none hgd s x 22 ho base 2 i0 1 Tryz.underlying22 hif v n xs hs hown hx (h v w (by simpa [nums] using hown) (World.grownBy.refl _ _))
  | some ad =>
    have hc : ∀ (j : Nat) (u : Value), (nums m f)[j]? = some u → w.cell? (ad.add j) = some u := by
      rcases hsrc with h0 | ⟨b, off, e, hb, hc⟩
      · subst h0; intro j u hu; simp [nums] at hu
      · simp only [Option.some.injEq] at e
        subst e
        exact news_at hc
    exact wpList_append_own w hgd s x 22 ho base 2 i0 (.int .i64 0) 1 8 Tryz.underlying22 hif hz0 hz1 hz2 rfl (by decide) v n xs hs hown ad m c (nums m f) hx (by simp [nums]) hc (nums_one m f) (by unfold maxLen; omega) (by omega) hbase fun v' w' h1 h2 _ => h v' w' h1 h2

/-- The places to which the slots of the first tenants lead. -/
def rootsH (T : Nat → TN) : Nat → List Int
  | 0 => []
  | n + 1 => rootsH T n ++ rootsS (T n).S (T n).n

theorem rootsH_len {L : List Ob} {T : Nat → TN} : ∀ {N : Nat}, (∀ i, i < N → TnOk L (i : Int) (T i)) → (rootsH T N).length ≤ 8 * N
  | 0, _ => by simp [rootsH]
  | n + 1, h => by
    have h1 := rootsH_len (N := n) fun i hi => h i (by omega)
    have h2 := (h n (by omega)).n
    have h3 := rootsS_len (T n).S (T n).n
    simp only [rootsH, List.length_append]; omega

theorem rootsH_same {T U : Nat → TN} : ∀ {N : Nat}, (∀ i, i < N → TnSame (T i) (U i)) → rootsH U N = rootsH T N
  | 0, _ => rfl
  | n + 1, h => by
    obtain ⟨_, _, h3, h4⟩ := h n (by omega)
    rw [rootsH, rootsH, rootsH_same fun i hi => h i (by omega), ← h3, rootsS_congr (fun j hj => (h4 j hj).symm)]

/-- What a right heap is. -/
structure HpOk (L : List Ob) (N : Nat) (T : Nat → TN) : Prop where
  n : 1 ≤ N ∧ N ≤ 4
  t : ∀ i, i < N → TnOk L (i : Int) (T i)

theorem hpOk_of {f : Nat → Int} {L : List Ob} {h : Int} {N : Nat} {T : Nat → TN} (hk : hpF f L h N T = 0) : HpOk L N T := by
  rcases hpF_cases f L h N T rfl with ⟨_, h2⟩ | ⟨h1, ⟨h2, h3⟩ | ⟨h2, _⟩⟩
  · omega
  · exact absurd (h3.symm.trans hk) h2
  · exact ⟨h1, fun i hi => tnF_ok (tnsF_all h2 i hi)⟩

set_option maxRecDepth 100000 in
set_option maxHeartbeats 1600000 in
theorem l7Roots_any (B : Nat) (h ac bu : Int) (a : Option Addr) (n c : Nat) (ta : Option Addr) (N tc : Nat) (T : Nat → TN) (L : List Ob) (w : World)
    (hB : Blk w B [.int .i64 h, .slice a n c, .int .i64 ac, .int .i64 bu, .slice ta N tc]) (ht : TV w ta N T) (hok : HpOk L N T) (hpl : ∀ x ∈ L, 0 ≤ x.at_ ∧ x.at_ ≤ 1000000) :
    Calls Tryz.prog 43 #[.pointer (some ⟨B, 0, none⟩)] w (RetInts w (rootsH T N).length (lf (rootsH T N))) := by
  have BB := Lib.hid hB; have HT := Lib.hid ht; have HOK := Lib.hid hok; have HPL := Lib.hid hpl
  have hN4 := hok.n.2
  have OWa : Hid ((w.alloc (.cells #[] 2)).ownsRow w.heap.size 2 1 (.slice (some ⟨w.heap.size, 0, none⟩) 0 0) ([] : List Int).length (nums ([] : List Int).length (lf []))) := World.ownsRow_lit w #[] 0 (Nat.le_refl _) (by simp [maxLen]) rfl
  have HBa : Hid (Below w.heap.size w (w.alloc (.cells #[] 2))) := (Below.refl _ _).alloc (Nat.le_refl _) _
  have b4 := hB.at 4 rfl; have lB := hB.1
  clear hB ht hok hpl
  go_enter Tryz.func43, Tryz.ntmps43
  go_wp2
  clear b4 lB
  go_loopw [3, 4] (fun u p wr => ∃ (i : Nat) (R : List Int), i ≤ N ∧ p = .int .i64 (i : Int) ∧ Hid (R = rootsH T i) ∧ Hid (Below w.heap.size w wr) ∧ Hid (wr.ownsRow w.heap.size 2 1 u R.length (nums R.length (lf R)))) (fun _ p _ => N - (intOf p).toNat)
  case atStart => exact ⟨0, [], Nat.zero_le _, rfl, Lib.hid rfl, HBa, OWa⟩
  case round =>
    clear OWa HBa
    obtain ⟨i, R, hi, rfl, HL, HB_r, OW_r⟩ := hrel
    have hzr := HB_r.out.size
    have Br := Lib.hid (BB.out.below HB_r.out)
    have b4 := Br.out.at 4 rfl; have lB := Br.out.1
    by_cases hlt : i < N
    · have hlt' : (i : Int) < (N : Int) := by omega
      have hi0 : (0 : Int) ≤ (i : Int) := by omega
      obtain ⟨tb, tq, rfl, lt, htn, hsl⟩ := tv_get (HT.out.below HB_r.out) hlt
      have HTN := Lib.hid htn; have HSL := Lib.hid hsl
      have HL2 : Hid (R ++ rootsS (T i).S (T i).n = rootsH T (i + 1)) := Lib.hid (by rw [HL.out]; rfl)
      have hrl : R.length ≤ 8 * i := by rw [HL.out]; exact rootsH_len fun j hj => HOK.out.t j (by omega)
      have HOKI := Lib.hid (HOK.out.t i hlt)
      clear htn hsl HL
      generalize T i = t at *
      go_wp2_with fail
      refine (l7RootsOf_any tb (tq + i * 3) t _ lt HTN.out HSL.out HOKI.out.n.2 (tnok_nd HOKI.out HPL.out)).mono ?_
      rintro e w2 ⟨ra, rc, rfl, ho, hb, -, -, hna⟩
      have HB2 := Lib.hid (thru0 HB_r.out hb); have HS2 := Lib.hid ho.src
      have OW2 := Lib.hid (ownsRow_below OW_r.out hb)
      have HNA := Lib.hid hna
      have hl8 : (rootsS t.S t.n).length ≤ 8 := Nat.le_trans (rootsS_len _ _) HOKI.out.n.2
      have HGE : Hid (∀ k, u3.ownBlock = some k → w.heap.size ≤ k) := Lib.hid (fun k hk => (OW2.out.lt k hk).1)
      have z2 : w.heap.size ≤ w2.heap.size := HB2.out.size
      clear hb ho hna b4 lB
      go_wp2_with (at_builtin; go_loud (refine append_src rfl _ _ rfl w.heap.size u3 R.length (nums R.length (lf R)) rfl OW2.out ra _ rc _ rfl HS2.out HNA.out (by omega) z2 ?_); intro v9 w9 hown9 hgrow9)
      have HB9 : Hid (Below w.heap.size w w9) := HB2.out.grown hgrow9 z2 (fun k hk => HGE.out k hk)
      have OW9 : Hid (w9.ownsRow w.heap.size 2 1 v9 (R ++ rootsS t.S t.n).length (nums (R ++ rootsS t.S t.n).length (lf (R ++ rootsS t.S t.n)))) := Lib.hid (by rw [← nums_app, List.length_append]; exact hown9)
      clear hown9 hgrow9 HS2 OW2 HNA
      generalize R ++ rootsS t.S t.n = R2 at *
      go_wp2
      go_roundw
      case rel => first | exact ⟨i + 1, R2, by omega, by go_num, HL2, HB9, OW9⟩ | ((repeat apply Exists.intro); exact ⟨⟨i + 1, R2, by omega, by go_num, HL2, HB9, OW9⟩, rfl⟩)
      case measure => simp [intOf]; omega
    · have hlt' : ¬ (i : Int) < (N : Int) := by omega
      obtain rfl : i = N := by omega
      have HRet := Lib.hid (retInts_of_row OW_r.out HB_r.out)
      have hL := HL.out
      subst hL
      go_wp2
      go_ret
      exact HRet.out

/-- What RootsOf answers. -/
def IsRh (h : Int) (n : Nat) (f : Nat → Int) (ac bu : Int) (N : Nat) (T : Nat → TN) (k : Int) (K : Nat) (U : Nat → Int) : Prop :=
  (¬ k = 0 ∧ IsHpF h n f ac bu N T k ∧ K = 0) ∨ (k = 0 ∧ IsHpF h n f ac bu N T 0 ∧ (∃ L, IsSF h n f ac bu 0 ∧ IsOI h n f ac bu 0 L ∧ hpF f L h N T = 0) ∧ K = (rootsH T N).length ∧ U = lf (rootsH T N))

/-- An answer with a code and a row of numbers of its own. -/
def RetIsR (W : World) (co : Int) (K : Nat) (U : Nat → Int) (e : Ending) (w' : World) : Prop :=
  ∃ a c, e = .returned (.agg #[.int .i64 co, .slice a K c]) ∧ Own w' W.heap.size a K U ∧ Below W.heap.size W w'

theorem own_two2 {w : World} {lo lo' B n : Nat} {a : Option Addr} {f : Nat → Int} {v0 v1 : Value} (h : Own w lo a n f) (hB : B < lo) (hl : lo' ≤ lo) : Own ((w.setCell ⟨B, 0, none⟩ v0).setCell ⟨B, 1, none⟩ v1) lo' a n f := by
  rcases h with h0 | ⟨b, off, ha, h1, h2, h3⟩
  · exact .inl h0
  · have hk := two_keeps w B v0 v1
    exact .inr ⟨b, off, ha, by omega, Nat.lt_of_lt_of_le h2 hk.size, fun i hi => by
      obtain ⟨x1, x2⟩ := h3 i hi
      have e := hk.block b h2 (.inr (by omega))
      exact ⟨(World.cell?_of_block (w := w) (a := ⟨b, off + i, none⟩) e).trans x1, (World.frozen?_of_block (w := w) (a := ⟨b, off + i, none⟩) e).trans x2⟩⟩
end Go.Proofs.YtnpklnpicelcmaaGreat

namespace Go.Proofs.YtnpklnpicelcmaaGreat
open Go.RowKit
set_option linter.unusedVariables false

set_option maxRecDepth 100000 in
set_option maxHeartbeats 3200000 in
theorem implRh_any (h ac bu : Int) (a : Option Addr) (n c : Nat) (f : Nat → Int) (ta : Option Addr) (N tc : Nat) (T : Nat → TN) (k : Int) (K : Nat) (U : Nat → Int) (w : World) (hs : Src w a n f) (hcn : n ≤ c) (hcm : c ≤ maxLen) (ht : TV w ta N T) (hN : N ≤ maxLen) (hn : ∀ i, i < N → (T i).n ≤ maxLen)
    (hr : ∀ i, i < N → ∀ j, j < (T i).n → -9223372036854775808 ≤ ((T i).S j).nd ∧ ((T i).S j).nd ≤ 9223372036854775807) (hk : IsRh h n f ac bu N T k K U) :
    Calls Tryz.prog 20 #[.agg #[.int .i64 h, .slice a n c, .int .i64 ac, .int .i64 bu, .slice ta N tc]] w (RetIsR w k K U) := by
  have S0 := Lib.hid hs; have T0 := Lib.hid ht; have HN := Lib.hid hn; have HR := Lib.hid hr; have HCM := Lib.hid hcm
  have B_0 := Lib.hid ((Blk.new_at (w := w) (cs := #[.int .i64 h, .slice a n c, .int .i64 ac, .int .i64 bu, .slice ta N tc]) (t := 32) w.heap.size rfl).alloc (.cells #[.int .i64 0, .slice none 0 0] 52))
  have R_0 := Lib.hid (Blk.new_at (w := w.alloc (.cells #[.int .i64 h, .slice a n c, .int .i64 ac, .int .i64 bu, .slice ta N tc] 32)) (cs := #[.int .i64 0, .slice none 0 0]) (t := 52) (w.heap.size + 1) (by simp))
  have HB0 : Hid (Below w.heap.size w ((w.alloc (.cells #[.int .i64 h, .slice a n c, .int .i64 ac, .int .i64 bu, .slice ta N tc] 32)).alloc (.cells #[.int .i64 0, .slice none 0 0] 52))) := ((Below.refl _ _).alloc (Nat.le_refl _) _).alloc (by simp) _
  have z0 : w.heap.size + 2 ≤ ((w.alloc (.cells #[.int .i64 h, .slice a n c, .int .i64 ac, .int .i64 bu, .slice ta N tc] 32)).alloc (.cells #[.int .i64 0, .slice none 0 0] 52)).heap.size := by simp
  have b0 := B_0.out.at 0 rfl; have b1 := B_0.out.at 1 rfl; have b2 := B_0.out.at 2 rfl; have b3 := B_0.out.at 3 rfl; have b4 := B_0.out.at 4 rfl; have lB := B_0.out.1
  have HKF : Hid (IsHpF h n f ac bu N T k) := Lib.hid (by
    rcases hk with ⟨_, h1, _⟩ | ⟨h0, h1, _⟩
    · exact h1
    · rw [h0]; exact h1)
  clear hs ht hn hr hcm
  go_enter Tryz.func20, Tryz.ntmps20
  go_wp2_with fail
  generalize ((w.alloc (.cells #[.int .i64 h, .slice a n c, .int .i64 ac, .int .i64 bu, .slice ta N tc] 32)).alloc (.cells #[.int .i64 0, .slice none 0 0] 52)) = w0 at *
  refine (implHpF_any h ac bu a n c f ta N tc T k _ (S0.out.below HB0.out) hcn HCM.out (T0.out.below HB0.out) hN HN.out HR.out HKF.out).mono ?_
  rintro e w1 ⟨rfl, hb⟩
  have HB1 := Lib.hid (thru0 HB0.out hb); have B_1 := Lib.hid (B_0.out.below hb); have R_1 := Lib.hid (R_0.out.below hb)
  have z1 := hb.size
  clear hb b0 b1 b2 b3 b4 lB B_0 R_0 HB0
  rcases hk with ⟨h0, -, rfl⟩ | ⟨rfl, -, ⟨L, h1, h2, h3⟩, rfl, rfl⟩
  · have hq : (k != 0) = true := by simp [h0]
    have c0 := R_1.out.at 0 rfl; have c1 := R_1.out.at 1 rfl; have f0 := R_1.out.free 0 rfl; have f1 := R_1.out.free 1 rfl; have lR := R_1.out.1
    clear h0
    go_wp2
    refine bodyPost_ret (v := .agg #[.int .i64 k, .slice none 0 0]) (by simp [results, Tryz.results20, go_sem, c0, c1, World.cell?_setCell_other, World.cell?_setCell_same']) rfl ⟨none, 0, rfl, .inl rfl, ?_⟩
    repeat (first | (with_reducible refine Below.setCell ?_ (by (try simp); (try omega)) _) | (with_reducible refine Below.alloc ?_ (by (try simp); (try omega)) _))
    exact HB1.out
  · have HOK := Lib.hid (hpOk_of h3)
    have HPL : Hid (∀ x ∈ L, 0 ≤ x.at_ ∧ x.at_ ≤ 1000000) := Lib.hid (fun x hx => (objs_word h1 h2 x hx).1)
    have hN4 := HOK.out.n.2
    have b4 := B_1.out.at 4 rfl; have lB := B_1.out.1
    clear h1 h2 h3
    go_wp2
    clear b4 lB
    go_loopw [4, 16] (fun u p wr => ∃ (i : Nat) (R : List Int), i ≤ N ∧ p = .int .i64 (i : Int) ∧ Hid (R = rootsH T i) ∧ Hid (Below w1.heap.size w1 wr) ∧ Hid (wr.ownsRow w1.heap.size 2 1 u R.length (nums R.length (lf R)))) (fun _ p _ => N - (intOf p).toNat)
    case atStart => exact ⟨0, [], Nat.zero_le _, rfl, Lib.hid rfl, Below.refl _ _, World.ownsRow_nil _ _ _ _⟩
    case round =>
      obtain ⟨i, R, hi, rfl, HL, HB_r, OW_r⟩ := hrel
      have hzr := HB_r.out.size
      have HBr := Lib.hid (thru0 HB1.out HB_r.out)
      by_cases hlt : i < N
      · have hlt' : (i : Int) < (N : Int) := by omega
        have hi0 : (0 : Int) ≤ (i : Int) := by omega
        obtain ⟨tb, tq, rfl, lt, ⟨g0, g1, g2⟩, -⟩ := tv_get (T0.out.below HBr.out) hlt
        have hzr2 := HBr.out.size
        have HALr : Hid (Below w.heap.size w (wr.alloc (.cells #[.int .i64 (T i).q, .int .i64 (T i).h, .slice (T i).a (T i).n (T i).c] 61))) := Lib.hid (HBr.out.alloc hzr2 _)
        have HSL := Lib.hid (tv_get (T0.out.below HALr.out) hlt)
        have HL2 : Hid (R ++ rootsS (T i).S (T i).n = rootsH T (i + 1)) := Lib.hid (by rw [HL.out]; rfl)
        have hrl : R.length ≤ 8 * i := by rw [HL.out]; exact rootsH_len fun j hj => HOK.out.t j (by omega)
        have HOKI := Lib.hid (HOK.out.t i hlt)
        have HAL : Hid (Below w1.heap.size w1 (wr.alloc (.cells #[.int .i64 (T i).q, .int .i64 (T i).h, .slice (T i).a (T i).n (T i).c] 61))) := Lib.hid (HB_r.out.alloc hzr _)
        have OWA := Lib.hid (OW_r.out.alloc (.cells #[.int .i64 (T i).q, .int .i64 (T i).h, .slice (T i).a (T i).n (T i).c] 61))
        clear HL
        generalize T i = t at *
        go_wp2_with fail
        obtain ⟨_, _, -, -, -, hsl⟩ := HSL.out
        refine (rootsOf_any t.a t.n t.c t.S _ hsl HOKI.out.n.2 (tnok_nd HOKI.out HPL.out)).mono ?_
        rintro e w2 ⟨ra, rc, rfl, ho, hb, -, -, hna⟩
        have HB2 := Lib.hid (thru0 HAL.out hb); have HS2 := Lib.hid ho.src
        have OW2 := Lib.hid (ownsRow_below OWA.out hb)
        have HNA := Lib.hid hna
        have hl8 : (rootsS t.S t.n).length ≤ 8 := Nat.le_trans (rootsS_len _ _) HOKI.out.n.2
        have HGE : Hid (∀ k, u4.ownBlock = some k → w1.heap.size ≤ k) := Lib.hid (fun k hk => (OW2.out.lt k hk).1)
        have z2 : w1.heap.size ≤ w2.heap.size := HB2.out.size
        clear hb ho hna hsl g0 g1 g2
        go_wp2_with (at_builtin; go_loud (refine append_src rfl _ _ rfl w1.heap.size u4 R.length (nums R.length (lf R)) rfl OW2.out ra _ rc _ rfl HS2.out HNA.out (by omega) z2 ?_); intro v9 w9 hown9 hgrow9)
        have HB9 : Hid (Below w1.heap.size w1 w9) := HB2.out.grown hgrow9 z2 (fun k hk => HGE.out k hk)
        have OW9 : Hid (w9.ownsRow w1.heap.size 2 1 v9 (R ++ rootsS t.S t.n).length (nums (R ++ rootsS t.S t.n).length (lf (R ++ rootsS t.S t.n)))) := Lib.hid (by rw [← nums_app, List.length_append]; exact hown9)
        clear hown9 hgrow9 HS2 OW2 HNA
        generalize R ++ rootsS t.S t.n = R2 at *
        go_wp2
        go_roundw
        case rel => first | exact ⟨i + 1, R2, by omega, by go_num, HL2, HB9, OW9⟩ | ((repeat apply Exists.intro); exact ⟨⟨i + 1, R2, by omega, by go_num, HL2, HB9, OW9⟩, rfl⟩)
        case measure => simp [intOf]; omega
      · have hlt' : ¬ (i : Int) < (N : Int) := by omega
        obtain rfl : i = N := by omega
        obtain ⟨ra, rc, e', -, -, -⟩ := row_shape OW_r.out
        subst e'
        have HO := Lib.hid (own_of_row OW_r.out)
        have hL := HL.out
        subst hL
        have R_2 := Lib.hid (R_1.out.below HB_r.out)
        have c0 := R_2.out.at 0 rfl; have c1 := R_2.out.at 1 rfl; have f0 := R_2.out.free 0 rfl; have f1 := R_2.out.free 1 rfl; have lR := R_2.out.1
        clear HL OW_r
        go_wp2
        refine bodyPost_ret (v := .agg #[.int .i64 0, .slice ra (rootsH T i).length rc]) (by simp [results, Tryz.results20, go_sem, c0, c1, World.cell?_setCell_other, World.cell?_setCell_same']) rfl ⟨ra, rc, rfl, ?_, ?_⟩
        · exact own_two2 HO.out (by omega) (by omega)
        · repeat (first | (with_reducible refine Below.setCell ?_ (by (try simp); (try omega)) _) | (with_reducible refine Below.alloc ?_ (by (try simp); (try omega)) _))
          exact HBr.out
end Go.Proofs.YtnpklnpicelcmaaGreat

namespace Go.Proofs.YtnpklnpicelcmaaGreat
open Go.RowKit
set_option linter.unusedVariables false

def OneG (w : World) (b o : Nat) (t : Bool) : Prop := w.cell? ⟨b, o, none⟩ = some (.bool t)

def OneF (w : World) (b o : Nat) : Prop := w.frozen? ⟨b, o, none⟩ = false

theorem OneG.block {w w' : World} {b o : Nat} {t : Bool} (h : OneG w b o t) (e : w'.heap[b]? = w.heap[b]?) : OneG w' b o t := (World.cell?_of_block (w := w) (a := ⟨b, o, none⟩) e).trans h

theorem OneF.block {w w' : World} {b o : Nat} (h : OneF w b o) (e : w'.heap[b]? = w.heap[b]?) : OneF w' b o := (World.frozen?_of_block (w := w) (a := ⟨b, o, none⟩) e).trans h

/-- A row of truth values is read. -/
structure BSrc (w : World) (b q N : Nat) (T : Nat → Bool) : Prop where
  lt : b < w.heap.size
  one : ∀ i, i < N → OneG w b (q + i) (T i)

/-- A row of truth values of the call's own. -/
structure BOwn (w : World) (lo hi b q N : Nat) (T : Nat → Bool) : Prop where
  glo : lo ≤ b
  ghi : b < hi
  lt : b < w.heap.size
  one : ∀ i, i < N → OneG w b (q + i) (T i)
  free : ∀ i, i < N → OneF w b (q + i)

theorem BOwn.src {w : World} {lo hi b q N : Nat} {T : Nat → Bool} (h : BOwn w lo hi b q N T) : BSrc w b q N T := ⟨h.lt, h.one⟩

theorem BSrc.below {w w' : World} {b q N : Nat} {T : Nat → Bool} (h : BSrc w b q N T) (hb : Below w.heap.size w w') : BSrc w' b q N T :=
  ⟨Nat.lt_of_lt_of_le h.lt hb.size, fun i hi => (h.one i hi).block (hb.block b h.lt)⟩

theorem BOwn.below {w w' : World} {lo hi b q N : Nat} {T : Nat → Bool} (h : BOwn w lo hi b q N T) (hb : Below w.heap.size w w') : BOwn w' lo hi b q N T :=
  ⟨h.glo, h.ghi, Nat.lt_of_lt_of_le h.lt hb.size, fun i hi => (h.one i hi).block (hb.block b h.lt), fun i hi => (h.free i hi).block (hb.block b h.lt)⟩

theorem BSrc.keeps {w w' : World} {lo hi b q N : Nat} {T : Nat → Bool} (h : BSrc w b q N T) (hk : Keeps w w' lo hi) (hd : b < lo ∨ hi ≤ b) : BSrc w' b q N T :=
  ⟨Nat.lt_of_lt_of_le h.lt hk.size, fun i hi => (h.one i hi).block (hk.block b h.lt hd)⟩

theorem BOwn.keeps {w w' : World} {lo hi lo' hi' b q N : Nat} {T : Nat → Bool} (h : BOwn w lo hi b q N T) (hk : Keeps w w' lo' hi') (hd : hi ≤ lo' ∨ hi' ≤ lo) : BOwn w' lo hi b q N T := by
  have h1 := h.glo; have h2 := h.ghi
  exact ⟨h.glo, h.ghi, Nat.lt_of_lt_of_le h.lt hk.size, fun i hi => (h.one i hi).block (hk.block b h.lt (by omega)), fun i hi => (h.free i hi).block (hk.block b h.lt (by omega))⟩

theorem BOwn.congr {w : World} {lo hi b q N : Nat} {T U : Nat → Bool} (h : BOwn w lo hi b q N T) (e : ∀ i, i < N → T i = U i) : BOwn w lo hi b q N U :=
  ⟨h.glo, h.ghi, h.lt, fun i hi => e i hi ▸ h.one i hi, h.free⟩

theorem BSrc.congr {w : World} {b q N : Nat} {T U : Nat → Bool} (h : BSrc w b q N T) (e : ∀ i, i < N → T i = U i) : BSrc w b q N U :=
  ⟨h.lt, fun i hi => e i hi ▸ h.one i hi⟩

theorem BOwn.widen {w : World} {lo hi lo' hi' b q N : Nat} {T : Nat → Bool} (h : BOwn w lo hi b q N T) (h1 : lo' ≤ lo) (h2 : hi ≤ hi') : BOwn w lo' hi' b q N T :=
  ⟨Nat.le_trans h1 h.glo, Nat.lt_of_lt_of_le h.ghi h2, h.lt, h.one, h.free⟩

def BV (w : World) (a : Option Addr) (N : Nat) (T : Nat → Bool) : Prop := N = 0 ∨ ∃ b q, a = some ⟨b, q, none⟩ ∧ BSrc w b q N T

def BVO (w : World) (lo hi : Nat) (a : Option Addr) (N : Nat) (T : Nat → Bool) : Prop := N = 0 ∨ ∃ b q, a = some ⟨b, q, none⟩ ∧ BOwn w lo hi b q N T

theorem BVO.src {w : World} {lo hi N : Nat} {a : Option Addr} {T : Nat → Bool} (h : BVO w lo hi a N T) : BV w a N T := by
  rcases h with h0 | ⟨b, q, ha, h⟩
  · exact .inl h0
  · exact .inr ⟨b, q, ha, h.src⟩

theorem BV.below {w w' : World} {N : Nat} {a : Option Addr} {T : Nat → Bool} (h : BV w a N T) (hb : Below w.heap.size w w') : BV w' a N T := by
  rcases h with h0 | ⟨b, q, ha, h⟩
  · exact .inl h0
  · exact .inr ⟨b, q, ha, h.below hb⟩

theorem BVO.below {w w' : World} {lo hi N : Nat} {a : Option Addr} {T : Nat → Bool} (h : BVO w lo hi a N T) (hb : Below w.heap.size w w') : BVO w' lo hi a N T := by
  rcases h with h0 | ⟨b, q, ha, h⟩
  · exact .inl h0
  · exact .inr ⟨b, q, ha, h.below hb⟩

theorem BVO.keeps {w w' : World} {lo hi lo' hi' N : Nat} {a : Option Addr} {T : Nat → Bool} (h : BVO w lo hi a N T) (hk : Keeps w w' lo' hi') (hd : hi ≤ lo' ∨ hi' ≤ lo) : BVO w' lo hi a N T := by
  rcases h with h0 | ⟨b, q, ha, h⟩
  · exact .inl h0
  · exact .inr ⟨b, q, ha, h.keeps hk hd⟩

theorem BVO.widen {w : World} {lo hi lo' hi' N : Nat} {a : Option Addr} {T : Nat → Bool} (h : BVO w lo hi a N T) (h1 : lo' ≤ lo) (h2 : hi ≤ hi') : BVO w lo' hi' a N T := by
  rcases h with h0 | ⟨b, q, ha, h⟩
  · exact .inl h0
  · exact .inr ⟨b, q, ha, h.widen h1 h2⟩

theorem BV.drew {w : World} {N : Nat} {a : Option Addr} {T : Nat → Bool} (h : BV w a N T) : BV w.drew a N T := h.below (Below.refl _ _).drew

theorem BV.alloc {w : World} {N : Nat} {a : Option Addr} {T : Nat → Bool} (h : BV w a N T) (o : Obj) : BV (w.alloc o) a N T := h.below ((Below.refl _ _).alloc (Nat.le_refl _) o)

theorem BVO.drew {w : World} {lo hi N : Nat} {a : Option Addr} {T : Nat → Bool} (h : BVO w lo hi a N T) : BVO w.drew lo hi a N T := h.below (Below.refl _ _).drew

theorem BVO.alloc {w : World} {lo hi N : Nat} {a : Option Addr} {T : Nat → Bool} (h : BVO w lo hi a N T) (o : Obj) : BVO (w.alloc o) lo hi a N T := h.below ((Below.refl _ _).alloc (Nat.le_refl _) o)

theorem BV.congr {w : World} {N : Nat} {a : Option Addr} {T U : Nat → Bool} (h : BV w a N T) (e : ∀ i, i < N → T i = U i) : BV w a N U := by
  rcases h with h0 | ⟨b, q, ha, h⟩
  · exact .inl h0
  · exact .inr ⟨b, q, ha, h.congr e⟩

theorem BVO.congr {w : World} {lo hi N : Nat} {a : Option Addr} {T U : Nat → Bool} (h : BVO w lo hi a N T) (e : ∀ i, i < N → T i = U i) : BVO w lo hi a N U := by
  rcases h with h0 | ⟨b, q, ha, h⟩
  · exact .inl h0
  · exact .inr ⟨b, q, ha, h.congr e⟩
end Go.Proofs.YtnpklnpicelcmaaGreat

namespace Go.Proofs.YtnpklnpicelcmaaGreat
open Go.RowKit
set_option linter.unusedVariables false

/-- All blocks below a bound, but one, are as they were. -/
def Oth (lo mb : Nat) (w w' : World) : Prop := w.heap.size ≤ w'.heap.size ∧ ∀ b, b < lo → b ≠ mb → w'.heap[b]? = w.heap[b]?

theorem Oth.refl (lo mb : Nat) (w : World) : Oth lo mb w w := ⟨Nat.le_refl _, fun _ _ _ => rfl⟩

theorem Oth.drew {lo mb : Nat} {w w' : World} (h : Oth lo mb w w') : Oth lo mb w w'.drew := ⟨by simpa using h.1, fun b h1 h2 => h.2 b h1 h2⟩

theorem Oth.alloc {lo mb : Nat} {w w' : World} (h : Oth lo mb w w') (hl : lo ≤ w.heap.size) (o : Obj) : Oth lo mb w (w'.alloc o) := ⟨by have := h.1; simp; omega, fun b h1 h2 => (Below.heap_alloc _ _ _ (by have := h.1; omega)).trans (h.2 b h1 h2)⟩

theorem Oth.grown {lo mb : Nat} {w w' w2 : World} {r : Option Nat} (h : Oth lo mb w w') (hl : lo ≤ w.heap.size) (hg : w'.grownBy w2 r) (hr : ∀ k, r = some k → lo ≤ k) : Oth lo mb w w2 := ⟨Nat.le_trans h.1 hg.size, fun b h1 h2 => (hg.block b (by have := h.1; omega) (fun e => by have := hr b e.symm; omega)).trans (h.2 b h1 h2)⟩

theorem Oth.set {lo mb : Nat} {w w' : World} (h : Oth lo mb w w') (o : Nat) (v : Value) : Oth lo mb w (w'.setCell ⟨mb, o, none⟩ v) := ⟨by have := h.1; simpa using this, fun b h1 h2 => (Below.heap_setCell _ _ _ b h2).trans (h.2 b h1 h2)⟩

/-- What is left of a list that is merged. -/
def Left (w : World) (fb ba qa N c x : Nat) : Prop := ∃ ad, Blk w fb [.slice (some ad) (N - x) (c - x)] ∧ (x < N → ad = ⟨ba, qa + x * 7, none⟩)
end Go.Proofs.YtnpklnpicelcmaaGreat

namespace Go.Proofs.YtnpklnpicelcmaaGreat
open Go.RowKit
set_option linter.unusedVariables false

theorem Left.keeps {w w' : World} {fb ba qa N c x lo hi : Nat} (h : Left w fb ba qa N c x) (hk : Keeps w w' lo hi) (hd : fb < lo ∨ hi ≤ fb) : Left w' fb ba qa N c x := by
  obtain ⟨ad, h1, h2⟩ := h
  exact ⟨ad, h1.keeps hk hd, h2⟩
end Go.Proofs.YtnpklnpicelcmaaGreat

namespace Go.Proofs.YtnpklnpicelcmaaGreat
open Go.RowKit
set_option linter.unusedVariables false

/-- A slot behind a collection: it leads to where its object went. -/
def clS (φ : Int → Int) (s : SL) : SL := ⟨s.g, if s.nd = 0 then 0 else φ (s.nd - 1) + 1⟩

/-- A tenant of which the first slots have been turned. -/
def clK (φ : Int → Int) (t : TN) (k : Nat) : TN := { t with S := fun j => if j < k then clS φ (t.S j) else t.S j }

def clT (φ : Int → Int) (t : TN) : TN := clK φ t t.n

/-- Tenants of which the first have been turned, and of the next one the first slots. -/
def clN (φ : Int → Int) (T : Nat → TN) (i k : Nat) : Nat → TN := fun j => if j < i then clT φ (T j) else if j = i then clK φ (T j) k else T j

def updN (T : Nat → TN) (i k : Nat) (y : Int) : Nat → TN := fun j => if j = i then { T j with S := updS (T j).S k ⟨((T j).S k).g, y⟩ } else T j

theorem clK_zero (φ : Int → Int) (t : TN) : clK φ t 0 = t := by
  unfold clK; simp

theorem clN_zero (φ : Int → Int) (T : Nat → TN) : clN φ T 0 0 = T := by
  funext j
  unfold clN
  rw [if_neg (Nat.not_lt_zero j)]
  by_cases h : j = 0
  · rw [if_pos h, clK_zero]
  · rw [if_neg h]

theorem clK_step (φ : Int → Int) (t : TN) (k : Nat) : ({ clK φ t k with S := updS (clK φ t k).S k ⟨((clK φ t k).S k).g, (clS φ (t.S k)).nd⟩ } : TN) = clK φ t (k + 1) := by
  unfold clK
  simp only [Nat.lt_irrefl, if_false]
  congr 1
  funext j
  unfold updS
  by_cases h : j = k
  · subst h
    rw [if_pos rfl, if_pos (Nat.lt_succ_self j)]
    rfl
  · rw [if_neg h]
    by_cases h2 : j < k
    · exact (if_pos h2).trans (if_pos (Nat.lt_succ_of_lt h2)).symm
    · exact (if_neg h2).trans (if_neg (by omega)).symm

theorem clN_step (φ : Int → Int) (T : Nat → TN) (i k : Nat) : updN (clN φ T i k) i k (clS φ ((T i).S k)).nd = clN φ T i (k + 1) := by
  funext j
  unfold updN
  by_cases h : j = i
  · subst h
    rw [if_pos rfl]
    have e : clN φ T j k j = clK φ (T j) k := by unfold clN; rw [if_neg (Nat.lt_irrefl j), if_pos rfl]
    have e2 : clN φ T j (k + 1) j = clK φ (T j) (k + 1) := by unfold clN; rw [if_neg (Nat.lt_irrefl j), if_pos rfl]
    rw [e, e2, clK_step]
  · rw [if_neg h]
    unfold clN
    rw [if_neg h, if_neg h]

theorem clN_skip (φ : Int → Int) (T : Nat → TN) (i k : Nat) (h0 : ((T i).S k).nd = 0) : clN φ T i (k + 1) = clN φ T i k := by
  funext j
  unfold clN
  by_cases h : j < i
  · rw [if_pos h, if_pos h]
  · rw [if_neg h, if_neg h]
    by_cases h2 : j = i
    · subst h2
      rw [if_pos rfl, if_pos rfl]
      unfold clK
      congr 1
      funext q
      by_cases h3 : q < k
      · rw [if_pos (by omega), if_pos h3]
      · by_cases h4 : q = k
        · subst h4
          rw [if_pos (by omega), if_neg h3]
          unfold clS
          rw [if_pos h0, ← h0]
        · rw [if_neg (by omega), if_neg h3]
    · rw [if_neg h2, if_neg h2]

theorem clN_next (φ : Int → Int) (T : Nat → TN) (i : Nat) : clN φ T i (T i).n = clN φ T (i + 1) 0 := by
  funext j
  unfold clN
  by_cases h : j < i
  · rw [if_pos h, if_pos (by omega)]
  · rw [if_neg h]
    by_cases h2 : j = i
    · subst h2
      rw [if_pos rfl, if_pos (by omega)]; rfl
    · rw [if_neg h2, if_neg (by omega)]
      by_cases h3 : j = i + 1
      · rw [if_pos h3, clK_zero]
      · rw [if_neg h3]

theorem clN_at (φ : Int → Int) (T : Nat → TN) (i k : Nat) : (clN φ T i k i).n = (T i).n ∧ (clN φ T i k i).S k = (T i).S k ∧ (clN φ T i k i).a = (T i).a ∧ (clN φ T i k i).c = (T i).c := by
  unfold clN
  rw [if_neg (Nat.lt_irrefl i), if_pos rfl]
  unfold clK
  simp

theorem clN_end (φ : Int → Int) (T : Nat → TN) (N : Nat) : ∀ j, j < N → clN φ T N 0 j = clT φ (T j) := fun j hj => by unfold clN; rw [if_pos hj]

theorem clT_same {φ : Int → Int} {t u : TN} (h : TnSame t u) : TnSame (clT φ t) (clT φ u) := by
  obtain ⟨h1, h2, h3, h4⟩ := h
  refine ⟨h1, h2, h3, fun j hj => ?_⟩
  have hj' : j < t.n := hj
  show (if j < t.n then clS φ (t.S j) else t.S j) = (if j < u.n then clS φ (u.S j) else u.S j)
  rw [if_pos hj', if_pos (by omega), h4 j hj']

theorem rootsS_split {S : Nat → SL} {k : Nat} (h0 : ¬ (S k).nd = 0) : ∀ {n : Nat}, k < n → ∃ r, rootsS S n = rootsS S k ++ ((S k).nd - 1) :: r
  | 0, h => absurd h (Nat.not_lt_zero _)
  | n + 1, h => by
    rcases Nat.lt_succ_iff_lt_or_eq.mp h with h1 | rfl
    · obtain ⟨r, hr⟩ := rootsS_split h0 h1
      by_cases hn : (S n).nd = 0
      · exact ⟨r, by rw [rootsS_no hn]; exact hr⟩
      · exact ⟨r ++ [(S n).nd - 1], by rw [rootsS_yes hn, hr]; simp⟩
    · exact ⟨[], by rw [rootsS_yes h0]⟩

theorem rootsH_split {T : Nat → TN} {i : Nat} : ∀ {N : Nat}, i < N → ∃ r, rootsH T N = rootsH T i ++ rootsS (T i).S (T i).n ++ r
  | 0, h => absurd h (Nat.not_lt_zero _)
  | n + 1, h => by
    rcases Nat.lt_succ_iff_lt_or_eq.mp h with h1 | rfl
    · obtain ⟨r, hr⟩ := rootsH_split h1
      exact ⟨r ++ rootsS (T n).S (T n).n, by rw [rootsH, hr]; simp⟩
    · exact ⟨[], by rw [rootsH]; simp⟩

/-- The root that a slot leads to stands behind those of all slots ahead of it. -/
theorem rootsH_at {T : Nat → TN} {N i k : Nat} (hi : i < N) (hk : k < (T i).n) (h0 : ¬ ((T i).S k).nd = 0) : (rootsH T i ++ rootsS (T i).S k).length < (rootsH T N).length ∧ lf (rootsH T N) (rootsH T i ++ rootsS (T i).S k).length = ((T i).S k).nd - 1 := by
  obtain ⟨r, hr⟩ := rootsS_split h0 hk
  obtain ⟨q, hq⟩ := rootsH_split (T := T) hi
  have e : rootsH T N = (rootsH T i ++ rootsS (T i).S k) ++ (((T i).S k).nd - 1) :: (r ++ q) := by rw [hq, hr]; simp
  have hl : (rootsH T i ++ rootsS (T i).S k).length < (rootsH T N).length := by rw [e]; simp
  refine ⟨hl, ?_⟩
  rw [lf_at hl]
  simp only [e]
  rw [List.getElem_append_right (Nat.le_refl _)]
  simp

theorem rootsH_mem {T : Nat → TN} {N i k : Nat} (hi : i < N) (hk : k < (T i).n) (h0 : ¬ ((T i).S k).nd = 0) : ((T i).S k).nd - 1 ∈ rootsH T N := by
  obtain ⟨h1, h2⟩ := rootsH_at hi hk h0
  rw [← h2]; exact lf_mem h1

theorem rootsH_in {L : List Ob} {T : Nat → TN} : ∀ {N : Nat}, (∀ i, i < N → TnOk L (i : Int) (T i)) → ∀ p ∈ rootsH T N, p ∈ placesO L
  | 0, _, p, hp => by cases hp
  | n + 1, h, p, hp => by
    rcases List.mem_append.mp hp with hp | hp
    · exact rootsH_in (fun i hi => h i (by omega)) p hp
    · exact rootsS_in (h n (by omega)) p hp

/-- A heap's answer, in numbers. -/
structure HRes where
  co : Int
  h : Int
  n : Nat
  f : Nat → Int
  ac : Int
  bu : Int
  N : Nat
  T : Nat → TN
  K : Nat
  mv : Int

def errHR (k : Int) : HRes := ⟨k, 0, 0, fun _ => 0, 0, 0, 0, fun _ => tz, 0, 0⟩

/-- Where objects go. -/
def phiH (f : Nat → Int) (L : List Ob) (P : Nat) (R : List Int) : Int → Int := goes (reachO f L R) (newPlaces P (objsO L (reachO f L R)))

/-- What CollectHeap answers. -/
def IsCH (h : Int) (n : Nat) (f : Nat → Int) (ac bu : Int) (N : Nat) (T : Nat → TN) (r : HRes) : Prop :=
  (¬ r.co = 0 ∧ IsHpF h n f ac bu N T r.co ∧ r = errHR r.co) ∨ (IsHpF h n f ac bu N T 0 ∧ ∃ L g, IsSF h n f ac bu 0 ∧ IsOI h n f ac bu 0 L ∧ hpF f L h N T = 0 ∧ IsCol f L (reachO f L (rootsH T N)) (baseI (1 - ac) h).toNat g ∧
    r = ⟨0, h, n, g, 1 - ac, (totO (objsO L (reachO f L (rootsH T N))) : Int), N, fun j => clT (phiH f L (baseI (1 - ac) h).toNat (rootsH T N)) (T j), 1, (totO (objsO L (reachO f L (rootsH T N))) : Int)⟩)

theorem isCH_some (h : Int) (n : Nat) (f : Nat → Int) (ac bu : Int) (N : Nat) (T : Nat → TN) : ∃ r, IsCH h n f ac bu N T r := by
  obtain ⟨k, hk⟩ := isHpF_some h n f ac bu N T
  by_cases h0 : k = 0
  · subst h0
    rcases id hk with ⟨_, h1⟩ | ⟨h1, L, h2, h3⟩
    · exact absurd rfl h1
    · obtain ⟨g, hg⟩ := col_some f L (reachO f L (rootsH T N)) (baseI (1 - ac) h).toNat
      exact ⟨_, .inr ⟨hk, L, g, h1, h2, h3.symm, hg, rfl⟩⟩
  · exact ⟨errHR k, .inl ⟨h0, hk, rfl⟩⟩

theorem isCH_small {h : Int} {n : Nat} {f : Nat → Int} {ac bu : Int} {N : Nat} {T : Nat → TN} {r : HRes} (hk : IsCH h n f ac bu N T r) : r.n ≤ 400 ∧ r.N ≤ 4 ∧ r.K ≤ 1 ∧ ∀ i, i < r.N → (r.T i).n ≤ 8 := by
  rcases hk with ⟨_, _, hr⟩ | ⟨_, L, g, h1, h2, h3, _, rfl⟩
  · rw [hr]; exact ⟨Nat.zero_le _, Nat.zero_le _, Nat.zero_le _, fun i hi => absurd hi (Nat.not_lt_zero _)⟩
  · have h4 := hpOk_of h3
    exact ⟨fault_small (isOI_zero h2).1, h4.n.2, Nat.le_refl _, fun i hi => (h4.t i hi).n.2⟩

/-- One slot of a tenant of the call's own is turned. -/
theorem town_slot {w : World} {lo hi b q N i k : Nat} {T : Nat → TN} (h : TOwn w lo hi b q N T) (hi' : i < N) (hk : k < (T i).n) :
    ∃ pb pq, (T i).a = some ⟨pb, pq, none⟩ ∧ pb < w.heap.size ∧ lo ≤ pb ∧ pb < hi ∧ pb ≠ b ∧ TwoG w pb (pq + k * 2) ((T i).S k) ∧ TwoF w pb (pq + k * 2) ∧ ∀ y, TOwn (w.setCell ⟨pb, pq + k * 2 + 1, none⟩ (.int .i64 y)) lo hi b q N (updN T i k y) := by
  have hs := h.slo i hi'
  rcases hs with h0 | ⟨pb, pq, ea, hp⟩
  · omega
  have hg : (T i).g = pb := by simp [TN.g, ea]
  have hb : pb ≠ b := by
    rcases h.off i hi' with h0 | h0
    · omega
    · rw [← hg]; exact h0
  have h1 := hp.glo; have h2 := hp.ghi
  refine ⟨pb, pq, ea, hp.lt, h1, h2, hb, hp.two k hk, hp.free k hk, fun y => ?_⟩
  have hblk : ∀ c, c ≠ pb → (w.setCell ⟨pb, pq + k * 2 + 1, none⟩ (.int .i64 y)).heap[c]? = w.heap[c]? := fun c hc => Below.heap_setCell w _ _ c (by simpa using hc)
  have hsame : ∀ j, (updN T i k y j).q = (T j).q ∧ (updN T i k y j).h = (T j).h ∧ (updN T i k y j).a = (T j).a ∧ (updN T i k y j).n = (T j).n ∧ (updN T i k y j).c = (T j).c := fun j => by
    unfold updN
    by_cases e : j = i
    · rw [if_pos e]; exact ⟨rfl, rfl, rfl, rfl, rfl⟩
    · rw [if_neg e]; exact ⟨rfl, rfl, rfl, rfl, rfl⟩
  have hgs : ∀ j, (updN T i k y j).g = (T j).g := fun j => by unfold TN.g; rw [(hsame j).2.2.1]
  refine ⟨h.glo, h.ghi, by simpa using h.lt, fun j hj => ?_, fun j hj => (h.free j hj).block (hblk b (Ne.symm hb)), fun j hj => ?_, fun j hj => ?_, fun j l hj hl hjl => ?_⟩
  · obtain ⟨e1, e2, e3, e4, e5⟩ := hsame j
    have := (h.thr j hj).block (hblk b (Ne.symm hb))
    unfold ThrG at this ⊢
    rw [e1, e2, e3, e4, e5]; exact this
  · by_cases e : j = i
    · subst e
      have hu : updN T j k y j = { T j with S := updS (T j).S k ⟨((T j).S k).g, y⟩ } := by unfold updN; rw [if_pos rfl]
      rw [hu]
      exact .inr ⟨pb, pq, ea, (pown_nd2 hp hk y).1⟩
    · have hu : updN T i k y j = T j := by unfold updN; rw [if_neg e]
      rw [hu]
      rcases Nat.eq_zero_or_pos (T j).n with h0 | h0
      · exact .inl h0
      · have hne : (T j).g ≠ pb := by
          rcases h.apart j i hj hi' e with h9 | h9 | h9
          · omega
          · omega
          · rw [← hg]; exact h9
        exact pvo_at (h.slo j hj) (.inr (hblk _ hne)) (by simp)
  · rw [(hsame j).2.2.2.1, hgs]; exact h.off j hj
  · rw [(hsame j).2.2.2.1, (hsame l).2.2.2.1, hgs, hgs]; exact h.apart j l hj hl hjl
end Go.Proofs.YtnpklnpicelcmaaGreat

namespace Go.Proofs.YtnpklnpicelcmaaGreat
open Go.RowKit
set_option linter.unusedVariables false

/-- A row of slots of the call's own, out of the kit's word for it. -/
theorem slH_PVO {w : World} {base n : Nat} {v : Value} {S : Nat → SL} (h : w.ownsRow base 63 2 v n (slC S n)) : ∃ a c, v = .slice a n c ∧ PVO w base w.heap.size a n S ∧ n ≤ c ∧ c ≤ maxLen := by
  obtain ⟨a, c, rfl, hc1, hc2, _⟩ := row_shape2 h
  refine ⟨a, c, rfl, ?_, hc1, hc2⟩
  rcases Nat.eq_zero_or_pos n with h0 | hp
  · exact .inl h0
  · obtain ⟨gb, cap, e, hb, hlt⟩ := h.form hp
    simp only [Value.slice.injEq] at e
    obtain ⟨rfl, -, rfl⟩ := e
    refine .inr ⟨gb, 0, rfl, hb, hlt, hlt, fun i hi => ?_, fun i hi => ?_⟩
    · obtain ⟨a, b⟩ := slC_get S n i hi
      have k0 := h.cellAt (i * 2) (by omega); have k1 := h.cellAt (i * 2 + 1) (by omega)
      rw [a] at k0; rw [b] at k1
      rw [Nat.zero_add]
      exact ⟨by simpa using k0, by simpa using k1⟩
    · rw [Nat.zero_add]
      have f0 := h.frozenAt (i * 2); have f1 := h.frozenAt (i * 2 + 1)
      exact ⟨by simpa using f0, by simpa using f1⟩

/-- A row of slots of the call's own. -/
def RetHS (W : World) (n : Nat) (S : Nat → SL) (e : Ending) (w' : World) : Prop :=
  ∃ a c, e = .returned (.slice a n c) ∧ PVO w' W.heap.size w'.heap.size a n S ∧ Below W.heap.size W w'

set_option maxRecDepth 100000 in
set_option maxHeartbeats 800000 in
theorem cloneHS_any (a : Option Addr) (n cap : Nat) (S : Nat → SL) (w : World) (hs : PV w a n S) (hp : 0 < n) (hn : n ≤ 1048576) :
    Calls Tryz.prog 59 #[.slice a n cap] w (RetHS w n S) := by
  obtain ⟨i0, hi, hz0, hz1, hz2⟩ := info_parts Tryz.infoHS
  obtain ⟨b, q, rfl, hg⟩ : ∃ b q, a = some ⟨b, q, none⟩ ∧ PSrc w b q n S := by
    rcases hs with h | h
    · omega
    · exact h
  have HC := Lib.hid (pv_news (hg.below ((Below.refl w.heap.size w).alloc (Nat.le_refl _) (.cells #[] 63))))
  have hnil := fun (w : World) (a : Option Addr) (n c : Nat) => Lib.run_eql_slice_nil (P := Tryz.prog) w 59 63 a n c 0 0 Tryz.underlyingRHS
  clear hs hg
  go_enter Tryz.func59, Tryz.ntmps59
  go_wp2_with (at_builtin; refine wpList_append_own _ rfl _ _ 59 rfl w.heap.size 63 i0 (.agg #[.int .i64 0, .int .i64 0]) 2 16 Tryz.underlyingRHS hi hz0 hz1 hz2 rfl (by decide) _ 0 [] rfl (World.ownsRow_lit w #[] 0 (Nat.le_refl _) (by simp [maxLen]) rfl) ⟨b, q, none⟩ n cap (slC S n) rfl (by rw [slC_len]) HC.out (slC_one S n) (by unfold maxLen; omega) (by omega) (by simp) ?_; intro v' w1 hown hgrow _)
  go_ret
  obtain ⟨a', c', rfl, hpo, _, _⟩ := slH_PVO (S := S) (by simpa using hown)
  exact ⟨a', c', rfl, hpo, ((Below.refl _ _).alloc (Nat.le_refl _) _).grown hgrow (by simp) (by intro k hk; cases hk; exact Nat.le_refl _)⟩

/-- The first tenants of a list, as a list. -/
def listT (T : Nat → TN) : Nat → List TN
  | 0 => []
  | n + 1 => listT T n ++ [T n]

theorem listT_len (T : Nat → TN) : ∀ n, (listT T n).length = n
  | 0 => rfl
  | n + 1 => by rw [listT, List.length_append, listT_len T n]; rfl

theorem listT_get (T : Nat → TN) : ∀ n i, i < n → (listT T n)[i]? = some (T i)
  | 0, i, h => absurd h (Nat.not_lt_zero _)
  | n + 1, i, h => by
    have hl := listT_len T n
    rcases Nat.lt_succ_iff_lt_or_eq.mp h with h1 | rfl
    · rw [listT, List.getElem?_append_left (by omega)]; exact listT_get T n i h1
    · rw [listT, List.getElem?_append_right (by omega), hl, Nat.sub_self]; rfl

theorem rowTn_len : ∀ M : List TN, (rowTn M).length = M.length * 3
  | [] => rfl
  | t :: M => by
    have := rowTn_len M
    simp only [rowTn, List.flatMap_cons, List.length_append, List.length_cons] at this ⊢
    rw [this]; simp [tcells]; omega

theorem rowTn_one (M : List TN) : ∀ u ∈ rowTn M, u.oneCell' = true := fun u hu => by
  simp only [rowTn, List.mem_flatMap] at hu
  obtain ⟨t, _, hu⟩ := hu
  exact tn_one t u hu

theorem tv_news {w : World} {b q N : Nat} {T : Nat → TN} (h : ∀ i, i < N → ThrG w b (q + i * 3) (T i)) : ∀ (j : Nat) (u : Value), (rowTn (listT T N))[j]? = some u → w.cell? ((⟨b, q, none⟩ : Addr).add j) = some u := fun j u hu => by
  have hl : j < N * 3 := by have := (List.getElem?_eq_some_iff.mp hu).1; rw [rowTn_len, listT_len] at this; exact this
  have hi : j / 3 < N := by omega
  have hg := listT_get T N (j / 3) hi
  have e : (⟨b, q, none⟩ : Addr).add j = ⟨b, q + j, none⟩ := by cases j <;> simp [Addr.add]
  have e3 := rowTn_get _ _ _ hg (j % 3) (by omega)
  have ej : j / 3 * 3 + j % 3 = j := by omega
  rw [ej, hu] at e3
  obtain ⟨h0, h1, h2⟩ := h (j / 3) hi
  rw [e]
  have hc : j % 3 = 0 ∨ j % 3 = 1 ∨ j % 3 = 2 := by omega
  rcases hc with hc | hc | hc <;> rw [hc] at e3 ej <;> simp only [tcells, List.getElem?_cons_zero, List.getElem?_cons_succ, Option.some.injEq] at e3 <;> subst e3
  · have : q + j = q + j / 3 * 3 := by omega
    rw [this]; exact h0
  · have : q + j = q + j / 3 * 3 + 1 := by omega
    rw [this]; exact h1
  · have : q + j = q + j / 3 * 3 + 2 := by omega
    rw [this]; exact h2

/-- A row of tenants of the call's own of which no slots are. -/
def RetTR (W : World) (N : Nat) (T : Nat → TN) (e : Ending) (w' : World) : Prop :=
  ∃ b q c, e = .returned (.slice (some ⟨b, q, none⟩) N c) ∧ W.heap.size ≤ b ∧ b < w'.heap.size ∧ (∀ i, i < N → ThrG w' b (q + i * 3) (T i) ∧ ThrF w' b (q + i * 3)) ∧ Below W.heap.size W w'

set_option maxRecDepth 100000 in
set_option maxHeartbeats 800000 in
theorem cloneTN_any (a : Option Addr) (N cap : Nat) (T : Nat → TN) (w : World) (ht : TV w a N T) (hp : 0 < N) (hn : N ≤ 1048576) :
    Calls Tryz.prog 58 #[.slice a N cap] w (RetTR w N T) := by
  obtain ⟨i0, hi, hz0, hz1, hz2⟩ := info_parts Tryz.infoTN
  obtain ⟨b, q, rfl, hg⟩ : ∃ b q, a = some ⟨b, q, none⟩ ∧ TSrc w b q N T := by
    rcases ht with h | h
    · omega
    · exact h
  have HC := Lib.hid (tv_news (hg.below ((Below.refl w.heap.size w).alloc (Nat.le_refl _) (.cells #[] 61))).thr)
  have hnil := fun (w : World) (a : Option Addr) (n c : Nat) => Lib.run_eql_slice_nil (P := Tryz.prog) w 30 61 a n c 0 0 Tryz.underlyingRTN
  clear ht hg
  go_enter Tryz.func58, Tryz.ntmps58
  go_wp2_with (at_builtin; refine wpList_append_own _ rfl _ _ 30 rfl w.heap.size 61 i0 _ 3 40 Tryz.underlyingRTN hi hz0 hz1 hz2 rfl (by decide) _ 0 [] rfl (World.ownsRow_lit w #[] 0 (Nat.le_refl _) (by simp [maxLen]) rfl) ⟨b, q, none⟩ N cap (rowTn (listT T N)) rfl (by rw [rowTn_len, listT_len]) HC.out (rowTn_one _) (by unfold maxLen; omega) (by omega) (by simp) ?_; intro v' w1 hown hgrow _)
  go_ret
  have hown2 : w1.ownsRow w.heap.size 61 3 v' N (rowTn (listT T N)) := by simpa using hown
  obtain ⟨gb, cap2, rfl, hb, hlt⟩ := hown2.form hp
  refine ⟨gb, 0, cap2, rfl, hb, hlt, fun i hi => ?_, ((Below.refl _ _).alloc (Nat.le_refl _) _).grown hgrow (by simp) (by intro k hk; cases hk; exact Nat.le_refl _)⟩
  have hce : ∀ j u, (tcells (T i))[j]? = some u → w1.cell? ⟨gb, i * 3 + j, none⟩ = some u := fun j u hu => by
    have hj : j < 3 := by have := (List.getElem?_eq_some_iff.mp hu).1; simpa [tcells] using this
    have hc := hown2.cellAt (i * 3 + j) (by omega)
    rw [rowTn_get _ i _ (listT_get T N i hi) j hj, hu] at hc
    simpa using hc
  have hfr : ∀ k, w1.frozen? ⟨gb, k, none⟩ = false := fun k => by
    have := hown2.frozenAt k
    simpa using this
  rw [Nat.zero_add]
  exact ⟨⟨hce 0 _ rfl, hce 1 _ rfl, hce 2 _ rfl⟩, hfr _, hfr _, hfr _⟩

/-- The next tenant of a row gets slots of the call's own. -/
theorem town_next {wr w2 : World} {lo b q i : Nat} {U : Nat → TN} {t : TN} (h : TOwn wr lo wr.heap.size b q i U) (hg : ThrG wr b (q + i * 3) t) (hf : ThrF wr b (q + i * 3)) (hb : Below wr.heap.size wr w2) (hz : lo ≤ wr.heap.size) {a : Option Addr} {c : Nat} {S : Nat → SL} (ho : PVO w2 wr.heap.size w2.heap.size a t.n S) :
    TOwn (w2.setCell ⟨b, q + i * 3 + 2, none⟩ (.slice a t.n c)) lo (w2.setCell ⟨b, q + i * 3 + 2, none⟩ (.slice a t.n c)).heap.size b q (i + 1) (fun j => if j = i then { t with a := a, c := c, S := S } else U j) ∧
      Keeps w2 (w2.setCell ⟨b, q + i * 3 + 2, none⟩ (.slice a t.n c)) b (b + 1) ∧ (∀ j u, ¬ j = i → ThrG wr b (q + j * 3) u → ThrG (w2.setCell ⟨b, q + i * 3 + 2, none⟩ (.slice a t.n c)) b (q + j * 3) u) ∧ (∀ j, ThrF wr b (q + j * 3) → ThrF (w2.setCell ⟨b, q + i * 3 + 2, none⟩ (.slice a t.n c)) b (q + j * 3)) := by
  have hk : Keeps w2 (w2.setCell ⟨b, q + i * 3 + 2, none⟩ (.slice a t.n c)) b (b + 1) := keeps_setCell (Nat.le_refl _) (Nat.lt_succ_self _) _
  have hbl := hb.block b h.lt
  have hg2 := hg.block hbl; have hf2 := hf.block hbl
  have hL : b < w2.heap.size := Nat.lt_of_lt_of_le h.lt hb.size
  have hset : (w2.setCell ⟨b, q + i * 3 + 2, none⟩ (.slice a t.n c)).cell? ⟨b, q + i * 3 + 2, none⟩ = some (.slice a t.n c) := World.cell?_setCell_same w2 ⟨b, q + i * 3 + 2, none⟩ (.slice a t.n c) hg2.2.2
  have hoth : ∀ k, ¬ k = q + i * 3 + 2 → (w2.setCell ⟨b, q + i * 3 + 2, none⟩ (.slice a t.n c)).cell? ⟨b, k, none⟩ = w2.cell? ⟨b, k, none⟩ := fun k hk => World.cell?_setCell_other _ _ _ _ (fun e => hk (by have := congrArg Addr.off e; simpa using this.symm))
  have hfz : ∀ k, (w2.setCell ⟨b, q + i * 3 + 2, none⟩ (.slice a t.n c)).frozen? ⟨b, k, none⟩ = w2.frozen? ⟨b, k, none⟩ := fun k => by simp [World.frozen?_setCell]
  have T2 : ∀ j u, ¬ j = i → ThrG wr b (q + j * 3) u → ThrG (w2.setCell ⟨b, q + i * 3 + 2, none⟩ (.slice a t.n c)) b (q + j * 3) u := fun j u hj hu => by
    have hu2 := hu.block hbl
    exact ⟨(hoth _ (by omega)).trans hu2.1, (hoth _ (by omega)).trans hu2.2.1, (hoth _ (by omega)).trans hu2.2.2⟩
  have F2 : ∀ j, ThrF wr b (q + j * 3) → ThrF (w2.setCell ⟨b, q + i * 3 + 2, none⟩ (.slice a t.n c)) b (q + j * 3) := fun j hu => by
    have hu2 := hu.block hbl
    exact ⟨(hfz _).trans hu2.1, (hfz _).trans hu2.2.1, (hfz _).trans hu2.2.2⟩
  have hgo : ∀ j, j < i → (U j).n = 0 ∨ ((U j).g < wr.heap.size ∧ (U j).g ≠ b) := fun j hj => by
    rcases pvo_g (h.slo j hj) with h0 | ⟨_, h1, _⟩
    · exact .inl h0
    · rcases h.off j hj with h0 | h0
      · exact .inl h0
      · exact .inr ⟨h1, h0⟩
  have hnew : t.n = 0 ∨ (wr.heap.size ≤ ({ t with a := a, c := c, S := S } : TN).g) := by
    rcases ho with h0 | ⟨x, y, rfl, hp⟩
    · exact .inl h0
    · exact .inr (by have := hp.glo; simpa [TN.g] using this)
  refine ⟨⟨h.glo, by simp; exact hL, by simp; exact hL, fun j hj => ?_, fun j hj => ?_, fun j hj => ?_, fun j hj => ?_, fun j k hj hk' hjk => ?_⟩, hk, T2, F2⟩
  · by_cases e : j = i
    · subst e
      rw [if_pos rfl]
      exact ⟨(hoth _ (by omega)).trans hg2.1, (hoth _ (by omega)).trans hg2.2.1, hset⟩
    · rw [if_neg e]; exact T2 j _ e (h.thr j (by omega))
  · by_cases e : j = i
    · subst e; exact F2 _ hf
    · exact F2 _ (h.free j (by omega))
  · by_cases e : j = i
    · subst e
      rw [if_pos rfl]
      refine (PVO.keeps (lo' := b) (hi' := b + 1) ho hk (.inr ?_)).widen hz (by simp)
      have := h.lt; omega
    · rw [if_neg e]
      have hj' : j < i := by omega
      have h1 := (h.slo j hj').below hb
      rcases hgo j hj' with h0 | ⟨h2, h3⟩
      · exact .inl h0
      · refine (pvo_at h1 (.inr ?_) (by simp)).widen (Nat.le_refl _) (by simp; exact hb.size)
        exact Below.heap_setCell w2 _ _ _ (by simpa using h3)
  · by_cases e : j = i
    · subst e
      rw [if_pos rfl]
      rcases hnew with h0 | h0
      · exact .inl h0
      · right; have := h.lt; omega
    · rw [if_neg e]; exact h.off j (by omega)
  · by_cases e : j = i
    · subst e
      rw [if_pos rfl, if_neg (Ne.symm hjk)]
      rcases hgo k (by omega) with h0 | ⟨h2, _⟩
      · exact .inr (.inl h0)
      · rcases hnew with h0 | h0
        · exact .inl h0
        · exact .inr (.inr (by omega))
    · by_cases e2 : k = i
      · subst e2
        rw [if_neg e, if_pos rfl]
        rcases hgo j (by omega) with h0 | ⟨h2, _⟩
        · exact .inl h0
        · rcases hnew with h0 | h0
          · exact .inr (.inl h0)
          · exact .inr (.inr (by omega))
      · rw [if_neg e, if_neg e2]; exact h.apart j k (by omega) (by omega) hjk
end Go.Proofs.YtnpklnpicelcmaaGreat

namespace Go.Proofs.YtnpklnpicelcmaaGreat
open Go.RowKit
set_option linter.unusedVariables false

theorem blk_pre {w : World} {b : Nat} {cs ds : List Value} (h : Blk w b (cs ++ ds)) : Blk w b cs :=
  ⟨h.1, fun i u hu => h.2 i u (by rw [List.getElem?_append_left (List.getElem?_eq_some_iff.mp hu).1]; exact hu)⟩

set_option maxRecDepth 100000 in
set_option maxHeartbeats 6400000 in
theorem l7Copy_any (g : Nat) (h ac bu : Int) (a : Option Addr) (n c : Nat) (f : Nat → Int) (ta : Option Addr) (N tc : Nat) (T : Nat → TN) (w : World) (hB : Blk w g [.int .i64 h, .slice a n c, .int .i64 ac, .int .i64 bu, .slice ta N tc]) (hs : Src w a n f) (hp : 0 < n) (hn : n ≤ 1048576) (ht : TV w ta N T) (hN : N ≤ 4) (hT : ∀ i, i < N → 1 ≤ (T i).n ∧ (T i).n ≤ 8) :
    Calls Tryz.prog 16 #[.pointer (some ⟨g, 0, none⟩)] w (RetTH w h n f ac bu N T) := by
  have B := Lib.hid hB; have S1 := Lib.hid hs; have G := Lib.hid ht; have HT := Lib.hid hT
  obtain ⟨j0, hif, hj0, hj1, hj2⟩ := info_parts Tryz.infoTN
  obtain ⟨k0, kif, hk0, hk1, hk2⟩ := info_parts Tryz.infoHS
  clear hB hs ht hT
  go_enter Tryz.func16, Tryz.ntmps16
  have R_0 := Lib.hid (Blk.new_at (w := w) (cs := #[.int .i64 0, .slice none 0 0, .int .i64 0, .int .i64 0, .slice none 0 0]) (t := 32) w.heap.size rfl)
  have HB0 := Lib.hid ((Below.refl w.heap.size w).alloc (Nat.le_refl _) (.cells #[.int .i64 0, .slice none 0 0, .int .i64 0, .int .i64 0, .slice none 0 0] 32))
  have b0 := (B.out.below HB0.out).at 0 rfl; have lB := (B.out.below HB0.out).1
  go_wp2_with fail
  refine (l1Copy_any g h ac bu a n c f _ (blk_pre (ds := [.slice ta N tc]) (B.out.below HB0.out)) (S1.out.below HB0.out) hp hn).mono ?_
  rintro e w1 ⟨a', c', rfl, ho, hb, hnc, hcm, _⟩
  have HB1 := Lib.hid (thru0 HB0.out hb)
  have R_1 := Lib.hid (R_0.out.below hb)
  have O_1 : Hid (OwnIn w1 (w.heap.size + 1) w1.heap.size a' n f) := Lib.hid ((ho.mono (by simp)).into)
  clear ho hb b0 lB R_0 HB0
  have hz1 : w.heap.size + 1 ≤ w1.heap.size := by have := R_1.out.1; omega
  have X_2 := Lib.hid (Blk.new_at (w := w1) (cs := #[.int .i64 h, .slice a' n c', .int .i64 ac, .int .i64 bu, .slice none 0 0]) (t := 32) w1.heap.size rfl)
  have HB2 := Lib.hid (HB1.out.alloc HB1.out.size (.cells #[.int .i64 h, .slice a' n c', .int .i64 ac, .int .i64 bu, .slice none 0 0] 32))
  have R_2 := Lib.hid (R_1.out.alloc (.cells #[.int .i64 h, .slice a' n c', .int .i64 ac, .int .i64 bu, .slice none 0 0] 32))
  have O_2 := Lib.hid (O_1.out.alloc (.cells #[.int .i64 h, .slice a' n c', .int .i64 ac, .int .i64 bu, .slice none 0 0] 32))
  have hz2 : (w1.alloc (.cells #[.int .i64 h, .slice a' n c', .int .i64 ac, .int .i64 bu, .slice none 0 0] 32)).heap.size = w1.heap.size + 1 := by simp
  clear O_1 R_1 HB1
  go_wp2
  generalize w1.alloc (.cells #[.int .i64 h, .slice a' n c', .int .i64 ac, .int .i64 bu, .slice none 0 0] 32) = w2 at *
  generalize w1.heap.size = X0 at *
  go_loopw [4] (fun p wr => ∃ (i : Nat) (L : List TN), i ≤ N ∧ p = .int .i64 (i : Int) ∧ L.length = i ∧ Hid (Keeps w2 wr X0 (X0 + 1)) ∧ Hid (∃ bv lv, Blk wr X0 [.int .i64 h, .slice a' n c', .int .i64 ac, .int .i64 bu, .slice bv L.length lv] ∧ wr.ownsRow w2.heap.size 61 3 (.slice bv L.length lv) L.length (rowTn L) ∧ FldT wr w2.heap.size (.slice bv L.length lv) L) ∧ Hid (∀ k t, L[k]? = some t → TnSame (T k) t)) (fun p _ => N - (intOf p).toNat)
  case atStart => exact ⟨0, [], Nat.zero_le _, rfl, rfl, Keeps.refl _ _ _, Lib.hid ⟨none, 0, X_2.out, World.ownsRow_nil _ _ _ _, fun t ht => (by cases ht), List.Pairwise.nil⟩, Lib.hid (fun k t ht => by simp at ht)⟩
  case round =>
    clear X_2
    obtain ⟨i, L, hi, rfl, hLl, HK, HX, SM⟩ := hrel
    have HBx : Hid (Below X0 w2 wr) := Lib.hid (HK.out.below (Nat.le_refl _) (by omega))
    have HBr := Lib.hid (HB2.out.trans (HBx.out.mono (by omega)))
    have Br := Lib.hid (B.out.below HBr.out)
    have b4 := Br.out.at 4 rfl; have lB := Br.out.1
    have hzr := HK.out.size
    have HLL := Lib.hid hLl
    obtain ⟨bv, lv, hob, how, hfl⟩ := HX.out
    have OBr := Lib.hid hob; have OWr := Lib.hid how; have FLr := Lib.hid hfl
    clear hob how hfl HX
    by_cases hlt : i < N
    · have hlt' : (i : Int) < (N : Int) := by omega
      have hi0 : (0 : Int) ≤ (i : Int) := by omega
      have hL4 : L.length ≤ 4 := by omega
      obtain ⟨hn1, hn8⟩ := HT.out i hlt
      obtain ⟨tb, tq, rfl, htb, ⟨n0, n1, n2⟩, hsl⟩ := tv_get (G.out.below HBr.out) hlt
      obtain ⟨t, ht⟩ : ∃ t, T i = t := ⟨_, rfl⟩
      rw [ht] at n0 n1 n2 hsl hn1 hn8
      have HTT := Lib.hid ht
      obtain ⟨sb, sq, hta, hps⟩ : ∃ b q, t.a = some ⟨b, q, none⟩ ∧ PSrc wr b q t.n t.S := by
        rcases hsl with h0 | h0
        · omega
        · exact h0
      have HPS := Lib.hid hps
      rw [hta] at n2
      clear hsl ht hLl hps
      have N_1 := Lib.hid (Blk.new_at (w := wr) (cs := #[.int .i64 t.q, .int .i64 t.h, .slice (some ⟨sb, sq, none⟩) t.n t.c]) (t := 61) wr.heap.size rfl)
      have HB7 := Lib.hid ((Below.refl wr.heap.size wr).alloc (Nat.le_refl _) (.cells #[.int .i64 t.q, .int .i64 t.h, .slice (some ⟨sb, sq, none⟩) t.n t.c] 61))
      go_upto_region 6 with (fail)
      clear n0 n1 n2 b4 lB
      generalize wr.alloc (.cells #[.int .i64 t.q, .int .i64 t.h, .slice (some ⟨sb, sq, none⟩) t.n t.c] 61) = w7 at *
      have z7 : wr.heap.size < w7.heap.size := N_1.out.1
      have HC := Lib.hid (pv_news ((HPS.out.below HB7.out).below ((Below.refl w7.heap.size w7).alloc (Nat.le_refl _) (.cells #[] 63))))
      have m2 := (N_1.out.alloc (.cells #[] 63)).at 2 rfl; have lN := (N_1.out.alloc (.cells #[] 63)).1
      have HVO : Hid (∀ k, (Value.slice bv L.length lv).ownBlock = some k → w2.heap.size ≤ k) := Lib.hid (fun k hk => ownBlock_ge OWr.out hk)
      have HVL : Hid (∀ k, (Value.slice bv L.length lv).ownBlock = some k → k < wr.heap.size) := Lib.hid (fun k hk => (OWr.out.lt k hk).2)
      go_wp2_with (at_builtin; first
        | (refine wpList_append_own _ rfl _ _ 59 rfl w7.heap.size 63 k0 (.agg #[.int .i64 0, .int .i64 0]) 2 16 Tryz.underlyingRHS kif hk0 hk1 hk2 rfl (by decide) _ 0 [] rfl (World.ownsRow_lit w7 #[] 0 (Nat.le_refl _) (by simp [maxLen]) rfl) ⟨sb, sq, none⟩ t.n t.c (slC t.S t.n) rfl (by rw [slC_len]) HC.out (slC_one t.S t.n) (by unfold maxLen; omega) (by omega) (by simp) ?_
           intro v8 w8 hown8 hgrow8 _
           obtain ⟨aF, cF, rfl, hpo, _, _⟩ := slH_PVO (S := t.S) (n := t.n) (by simpa using hown8)
           have HB78 : Hid (Below w7.heap.size w7 w8) := Lib.hid (((Below.refl _ _).alloc (Nat.le_refl _) _).grown hgrow8 (by simp) (by intro k hk; cases hk; exact Nat.le_refl _))
           have N_8 := Lib.hid (N_1.out.below HB78.out)
           have m2 := N_8.out.at 2 rfl; have f2 := N_8.out.free 2 rfl; have lN := N_8.out.1
           have HB8 : Hid (Below wr.heap.size wr w8) := Lib.hid (HB7.out.trans (HB78.out.mono (by omega)))
           have OB8 := Lib.hid (OBr.out.below HB8.out)
           have n0 := N_8.out.at 0 rfl; have n1 := N_8.out.at 1 rfl; have o4 := OB8.out.at 4 rfl; have lO := OB8.out.1
           have HPO := Lib.hid hpo
           have z8 : w7.heap.size ≤ w8.heap.size := HB78.out.size
           have HB9 : Hid (Below wr.heap.size wr (w8.setCell ⟨wr.heap.size, 2, none⟩ (.slice aF t.n cF))) := Lib.hid (HB8.out.setCell (Nat.le_refl _) _)
           have HO9 : Hid (PVO (w8.setCell ⟨wr.heap.size, 2, none⟩ (.slice aF t.n cF)) wr.heap.size (w8.setCell ⟨wr.heap.size, 2, none⟩ (.slice aF t.n cF)).heap.size aF t.n t.S) := Lib.hid ((PVO.keeps (lo' := wr.heap.size) (hi' := wr.heap.size + 1) HPO.out (keeps_setCell (p := ⟨wr.heap.size, 2, none⟩) (Nat.le_refl _) (Nat.lt_succ_self _) _) (.inr z7)).widen (by omega) (by simp))
           have z9 : wr.heap.size ≤ (w8.setCell ⟨wr.heap.size, 2, none⟩ (.slice aF t.n cF)).heap.size := HB9.out.size
           have OB9 := Lib.hid (OBr.out.below HB9.out)
           have OW9' := Lib.hid (ownsRow_below OWr.out HB9.out)
           clear hown8 hgrow8 hpo HB78)
        | (go_loud (refine wpList_append_lies _ rfl _ _ 30 rfl w2.heap.size 61 j0 _ 3 40 Tryz.underlyingRTN hif hj0 hj1 hj2 rfl (by decide) (.slice bv L.length lv) L.length (rowTn L) rfl (OW9'.out.alloc _) ⟨w8.heap.size, 0, none⟩ 1 1 (tcells ⟨t.q, t.h, aF, t.n, cF, t.S⟩) rfl rfl (cells_new3b (w8.setCell ⟨wr.heap.size, 2, none⟩ (.slice aF t.n cF)) ⟨t.q, t.h, aF, t.n, cF, t.S⟩ w8.heap.size (by simp)) (tn_one _) (by omega) (by unfold maxLen; omega) (by omega) (by simp; omega) (w8.heap.size + 1) (by simp) ?_)
           intro gA capA wA hownA hgrowA hatA hltA
           have TA := Lib.hid (blk_grown (OB9.out.alloc (.cells #[.int .i64 t.q, .int .i64 t.h, .slice aF t.n cF] 61)) hgrowA (fun e => (by have := HVO.out _ e; omega)))
           have lA := TA.out.1; have dA4 := TA.out.at 4 rfl; have eA4 := TA.out.free 4 rfl))
      have HBC := Lib.hid (HB9.out.alloc z9 (.cells #[.int .i64 t.q, .int .i64 t.h, .slice aF t.n cF] 61))
      have HBY : Hid (Below w2.heap.size wr wA) := Lib.hid ((HBC.out.mono hzr).grown hgrowA (by simp; omega) (fun k hk => HVO.out k hk))
      have hgA : w2.heap.size ≤ gA := (by rcases hatA with he | he; exact HVO.out _ he; omega)
      obtain ⟨X, hX⟩ : ∃ X : TN, X = ⟨t.q, t.h, aF, t.n, cF, t.S⟩ := ⟨_, rfl⟩
      have FLA : Hid (FldT wA w2.heap.size (.slice (some ⟨gA, 0, none⟩) (L.length + 1) capA) (L ++ [X])) := Lib.hid (FldT.snoc X FLr.out HBC.out hgrowA (by
        rcases hatA with he | he
        · exact .inl he.symm
        · exact .inr ⟨gA, rfl, by simp; omega⟩) hzr (fun k hk => HVL.out k hk) (by rw [hX]; exact (HO9.out.alloc _).widen (Nat.le_refl _) (by simp)))
      have SMA : Hid (∀ k t, (L ++ [X])[k]? = some t → TnSame (T k) t) := Lib.hid (fun k u hu => by
        rcases Nat.lt_or_ge k L.length with hk | hk
        · rw [List.getElem?_append_left hk] at hu
          exact SM.out k u hu
        · have hk' : k = L.length := (by have := (List.getElem?_eq_some_iff.mp hu).1; simp at this; omega)
          subst hk'
          rw [List.getElem?_append_right (Nat.le_refl _), Nat.sub_self] at hu
          have : X = u := (by simpa using hu)
          subst this
          rw [hX, HLL.out, HTT.out]
          exact ⟨rfl, rfl, rfl, fun _ _ => rfl⟩)
      have OWA : Hid (wA.ownsRow w2.heap.size 61 3 (.slice (some ⟨gA, 0, none⟩) (L.length + 1) capA) (L ++ [X]).length (rowTn (L ++ [X]))) := Lib.hid (by
        rw [rowTn_snoc, List.length_append, hX]; exact hownA)
      have HKF : Hid (Keeps w2 (wA.setCell ⟨X0, 4, none⟩ (.slice (some ⟨gA, 0, none⟩) (L.length + 1) capA)) X0 (X0 + 1)) := Lib.hid ((keeps_under HK.out HBY.out (Nat.le_refl _)).trans (keeps_setCell (p := ⟨X0, 4, none⟩) (Nat.le_refl _) (Nat.lt_succ_self _) _))
      have HXF : Hid (∃ bv lv, Blk (wA.setCell ⟨X0, 4, none⟩ (.slice (some ⟨gA, 0, none⟩) (L.length + 1) capA)) X0 [.int .i64 h, .slice a' n c', .int .i64 ac, .int .i64 bu, .slice bv (L ++ [X]).length lv] ∧ (wA.setCell ⟨X0, 4, none⟩ (.slice (some ⟨gA, 0, none⟩) (L.length + 1) capA)).ownsRow w2.heap.size 61 3 (.slice bv (L ++ [X]).length lv) (L ++ [X]).length (rowTn (L ++ [X])) ∧ FldT (wA.setCell ⟨X0, 4, none⟩ (.slice (some ⟨gA, 0, none⟩) (L.length + 1) capA)) w2.heap.size (.slice bv (L ++ [X]).length lv) (L ++ [X])) := Lib.hid ⟨some ⟨gA, 0, none⟩, capA, by
          have := TA.out.set 4 (by simp) (.slice (some ⟨gA, 0, none⟩) (L.length + 1) capA)
          rw [List.length_append]; exact this, by
          have := ownsRow_setCell_other OWA.out (a := ⟨X0, 4, none⟩) (fun e => by have e' : gA = X0 := (by simpa [Value.ownBlock] using e); omega) (.slice (some ⟨gA, 0, none⟩) (L.length + 1) capA)
          rw [List.length_append] at this ⊢; exact this, by
          have := FLA.out.block (w' := (wA.setCell ⟨X0, 4, none⟩ (.slice (some ⟨gA, 0, none⟩) (L.length + 1) capA))) (by simp) (fun b h1 h2 h3 => Below.heap_setCell wA _ _ b (by simp; omega))
          rw [List.length_append]; exact this⟩
      clear hownA hgrowA hatA hX HTT HBY HBC FLA OWA TA OW9' OB9 n0 n1 m2 f2 o4 lO lN HO9 HPO HB8 OB8 N_8 N_1 HB7 HC
      try go_wp2
      first
      | exact ⟨⟨i + 1, L ++ [X], by omega, by go_num, by rw [List.length_append, HLL.out]; rfl, HKF, HXF, SMA⟩, by simp [intOf]; omega⟩
      | (go_roundw
         (case rel => first | exact ⟨i + 1, L ++ [X], by omega, by go_num, by rw [List.length_append, HLL.out]; rfl, HKF, HXF, SMA⟩ | ((repeat apply Exists.intro); exact ⟨⟨i + 1, L ++ [X], by omega, by go_num, by rw [List.length_append, HLL.out]; rfl, HKF, HXF, SMA⟩, rfl⟩))
         (case measure => simp [intOf]; omega))
    · have hlt' : ¬ (i : Int) < (N : Int) := by omega
      obtain rfl : i = N := by omega
      obtain ⟨na', nc', e', hnvo⟩ := rowTn_TVO OWr.out FLr.out (Nat.le_refl _)
      simp only [Value.slice.injEq] at e'
      obtain ⟨rfl, -, rfl⟩ := e'
      have HNVO := Lib.hid hnvo
      have SMF : Hid (∀ k, k < i → TnSame (T k) (tT L k)) := Lib.hid (fun k hk => by
        have hk' : k < L.length := by omega
        rw [tT_at (List.getElem?_eq_getElem hk')]
        exact SM.out k _ (List.getElem?_eq_getElem hk'))
      have HPF := Lib.hid (O_2.out.keeps HK.out (.inl (Nat.le_refl _)))
      have R_r := Lib.hid (R_2.out.keeps HK.out (.inl (by omega)))
      have o0 := OBr.out.at 0 rfl; have o1 := OBr.out.at 1 rfl; have o2 := OBr.out.at 2 rfl; have o3 := OBr.out.at 3 rfl; have o4 := OBr.out.at 4 rfl; have lO := OBr.out.1
      have r0 := R_r.out.at 0 rfl; have f0 := R_r.out.free 0 rfl; have r1 := R_r.out.at 1 rfl; have f1 := R_r.out.free 1 rfl; have r2 := R_r.out.at 2 rfl; have f2 := R_r.out.free 2 rfl; have r3 := R_r.out.at 3 rfl; have f3 := R_r.out.free 3 rfl; have r4 := R_r.out.at 4 rfl; have f4 := R_r.out.free 4 rfl; have lR := R_r.out.1
      rw [hLl] at HNVO o4
      clear hnvo OWr FLr SM
      go_wp2
      refine bodyPost_ret (v := .agg #[.int .i64 h, .slice a' n c', .int .i64 ac, .int .i64 bu, .slice bv i lv]) (by simp [results, Tryz.results16, go_sem, r0, r1, r2, r3, r4]) rfl ?_
      refine ⟨a', c', bv, lv, X0, tT L, rfl, ?_, ?_, by omega, by simp; omega, fun k hk => SMF.out k hk, ?_, hnc, hcm⟩
      · refine OwnIn.widen (lo := w.heap.size + 1) (hi := X0) (OwnIn.keeps (lo' := w.heap.size) (hi' := w.heap.size + 1) HPF.out ?_ (.inr (by omega))) (by omega) (Nat.le_refl _)
        repeat (refine Keeps.trans ?_ (keeps_setCell (by (try simp); (try omega)) (by (try simp); (try omega)) _))
        exact Keeps.refl _ _ _
      · refine (TVO.keeps (lo' := w.heap.size) (hi' := w.heap.size + 1) HNVO.out ?_ (.inr (by omega))).widen (by omega) (by simp)
        repeat (refine Keeps.trans ?_ (keeps_setCell (by (try simp); (try omega)) (by (try simp); (try omega)) _))
        exact Keeps.refl _ _ _
      · repeat (first | (with_reducible refine Below.setCell ?_ (by (try simp); (try omega)) _) | (with_reducible refine Below.alloc ?_ (by (try simp); (try omega)) _) | (with_reducible refine Below.drew ?_))
        exact HBr.out
end Go.Proofs.YtnpklnpicelcmaaGreat

namespace Go.Proofs.YtnpklnpicelcmaaGreat
open Go.RowKit
set_option linter.unusedVariables false

theorem cells_two {w : World} {z b o : Nat} {u x : Value} (hb : ¬ b = z) (h : w.cell? ⟨z, 4, none⟩ = some u) : (w.setCell ⟨b, o, none⟩ x).cell? ⟨z, 4, none⟩ = some u := by
  rw [World.cell?_setCell_other _ _ _ _ (fun e => hb (congrArg Addr.block e))]; exact h

theorem cells_two2 {w : World} {z b o : Nat} {u x : Value} (hb : ¬ b = z) (h : w.cell? ⟨z, 2, none⟩ = some u) : (w.setCell ⟨b, o, none⟩ x).cell? ⟨z, 2, none⟩ = some u := by
  rw [World.cell?_setCell_other _ _ _ _ (fun e => hb (congrArg Addr.block e))]; exact h

set_option maxRecDepth 100000 in
set_option maxHeartbeats 6400000 in
theorem copiedHeap_any (h ac bu : Int) (a : Option Addr) (n c : Nat) (f : Nat → Int) (ta : Option Addr) (N tc : Nat) (T : Nat → TN) (w : World) (hs : Src w a n f) (hp : 0 < n) (hn : n ≤ 1048576) (ht : TV w ta N T) (hN0 : 1 ≤ N) (hN : N ≤ 4) (hT : ∀ i, i < N → 1 ≤ (T i).n ∧ (T i).n ≤ 8) :
    Calls Tryz.prog 22 #[.agg #[.int .i64 h, .slice a n c, .int .i64 ac, .int .i64 bu, .slice ta N tc]] w (RetTH w h n f ac bu N T) := by
  have S0 := Lib.hid hs; have G := Lib.hid ht; have HT := Lib.hid hT
  have B_0 := Lib.hid ((Blk.new_at (w := w) (cs := #[.int .i64 h, .slice a n c, .int .i64 ac, .int .i64 bu, .slice ta N tc]) (t := 32) w.heap.size rfl).alloc (.cells #[.int .i64 0, .slice none 0 0, .int .i64 0, .int .i64 0, .slice none 0 0] 32))
  have R_0 := Lib.hid (Blk.new_at (w := w.alloc (.cells #[.int .i64 h, .slice a n c, .int .i64 ac, .int .i64 bu, .slice ta N tc] 32)) (cs := #[.int .i64 0, .slice none 0 0, .int .i64 0, .int .i64 0, .slice none 0 0]) (t := 32) (w.heap.size + 1) (by simp))
  have HB0 : Hid (Below w.heap.size w ((w.alloc (.cells #[.int .i64 h, .slice a n c, .int .i64 ac, .int .i64 bu, .slice ta N tc] 32)).alloc (.cells #[.int .i64 0, .slice none 0 0, .int .i64 0, .int .i64 0, .slice none 0 0] 32))) := ((Below.refl _ _).alloc (Nat.le_refl _) _).alloc (by simp) _
  have z0 : ((w.alloc (.cells #[.int .i64 h, .slice a n c, .int .i64 ac, .int .i64 bu, .slice ta N tc] 32)).alloc (.cells #[.int .i64 0, .slice none 0 0, .int .i64 0, .int .i64 0, .slice none 0 0] 32)).heap.size = w.heap.size + 2 := by simp
  have b1 := B_0.out.at 1 rfl; have lB := B_0.out.1
  clear hs ht hT
  go_enter Tryz.func22, Tryz.ntmps22
  go_wp2_with fail
  generalize ((w.alloc (.cells #[.int .i64 h, .slice a n c, .int .i64 ac, .int .i64 bu, .slice ta N tc] 32)).alloc (.cells #[.int .i64 0, .slice none 0 0, .int .i64 0, .int .i64 0, .slice none 0 0] 32)) = w0 at *
  refine (clone_any a n c f _ (S0.out.below HB0.out) (by omega) (by omega)).mono ?_
  rintro e w1 ⟨u1, c1, rfl, ho, hb, hnc, hcm, -⟩
  have HB1 := Lib.hid (thru0 HB0.out hb); have B_1 := Lib.hid (B_0.out.below hb); have R_1 := Lib.hid (R_0.out.below hb)
  have HO1 : Hid (OwnIn w1 (w.heap.size + 2) w1.heap.size u1 n f) := Lib.hid ((ho.mono (by omega)).into)
  have z1 : w.heap.size + 2 ≤ w1.heap.size := by have := hb.size; omega
  clear hb ho b1 lB B_0 R_0 HB0
  have b1 := B_1.out.at 1 rfl; have f1 := B_1.out.free 1 rfl; have b4 := B_1.out.at 4 rfl; have lB := B_1.out.1
  go_wp2_with fail
  have B_1' : Hid (Blk (w1.setCell ⟨w.heap.size, 1, none⟩ (.slice u1 n c1)) w.heap.size [.int .i64 h, .slice u1 n c1, .int .i64 ac, .int .i64 bu, .slice ta N tc]) := Lib.hid (B_1.out.set 1 (by simp) (.slice u1 n c1))
  have R_1' := Lib.hid (R_1.out.other (p := ⟨w.heap.size, 1, none⟩) (by simp) (.slice u1 n c1))
  have HB1' : Hid (Below w.heap.size w (w1.setCell ⟨w.heap.size, 1, none⟩ (.slice u1 n c1))) := Lib.hid (HB1.out.setCell (Nat.le_refl _) _)
  have HO1' : Hid (OwnIn (w1.setCell ⟨w.heap.size, 1, none⟩ (.slice u1 n c1)) (w.heap.size + 2) w1.heap.size u1 n f) := Lib.hid (HO1.out.setCell (.inl (by (try simp); (try omega))) _)
  have z1' : (w1.setCell ⟨w.heap.size, 1, none⟩ (.slice u1 n c1)).heap.size = w1.heap.size := by simp
  clear b1 f1 b4 lB B_1 R_1 HB1 HO1
  generalize w1.setCell ⟨w.heap.size, 1, none⟩ (.slice u1 n c1) = w2 at *
  generalize w1.heap.size = M at *
  refine (cloneTN_any ta N tc T _ (G.out.below HB1'.out) (by omega) (by omega)).mono ?_
  rintro e w3 ⟨b, q, c2, rfl, hb1, hb2, hth, hb⟩
  have HB3 := Lib.hid (thru0 HB1'.out hb); have B_3 := Lib.hid (B_1'.out.below hb); have R_3 := Lib.hid (R_1'.out.below hb); have HO3 := Lib.hid (HO1'.out.below hb)
  have z3 := hb.size
  have HTH := Lib.hid hth
  clear hb hth B_1' R_1' HB1' HO1'
  have b4 := B_3.out.at 4 rfl; have f4 := B_3.out.free 4 rfl; have lB := B_3.out.1
  go_wp2
  have B_4 : Hid (Blk (w3.setCell ⟨w.heap.size, 4, none⟩ (.slice (some ⟨b, q, none⟩) N c2)) w.heap.size [.int .i64 h, .slice u1 n c1, .int .i64 ac, .int .i64 bu, .slice (some ⟨b, q, none⟩) N c2]) := Lib.hid (B_3.out.set 4 (by simp) (.slice (some ⟨b, q, none⟩) N c2))
  have R_4 := Lib.hid (R_3.out.other (p := ⟨w.heap.size, 4, none⟩) (by simp) (.slice (some ⟨b, q, none⟩) N c2))
  have HB4 : Hid (Below w.heap.size w (w3.setCell ⟨w.heap.size, 4, none⟩ (.slice (some ⟨b, q, none⟩) N c2))) := Lib.hid (HB3.out.setCell (Nat.le_refl _) _)
  have HO4 : Hid (OwnIn (w3.setCell ⟨w.heap.size, 4, none⟩ (.slice (some ⟨b, q, none⟩) N c2)) (w.heap.size + 2) M u1 n f) := Lib.hid (HO3.out.setCell (.inl (by (try simp); (try omega))) _)
  have hbw : (w3.setCell ⟨w.heap.size, 4, none⟩ (.slice (some ⟨b, q, none⟩) N c2)).heap[b]? = w3.heap[b]? := Below.heap_setCell w3 _ _ b (by (try simp); (try omega))
  have TH4 : Hid (∀ i, i < N → ThrG (w3.setCell ⟨w.heap.size, 4, none⟩ (.slice (some ⟨b, q, none⟩) N c2)) b (q + i * 3) (T i) ∧ ThrF (w3.setCell ⟨w.heap.size, 4, none⟩ (.slice (some ⟨b, q, none⟩) N c2)) b (q + i * 3)) := Lib.hid (fun i hi => ⟨(HTH.out i hi).1.block hbw, (HTH.out i hi).2.block hbw⟩)
  have z4 : (w3.setCell ⟨w.heap.size, 4, none⟩ (.slice (some ⟨b, q, none⟩) N c2)).heap.size = w3.heap.size := by simp
  clear hbw b4 f4 lB HTH HB3 B_3 R_3 HO3
  generalize w3.setCell ⟨w.heap.size, 4, none⟩ (.slice (some ⟨b, q, none⟩) N c2) = w4 at *
  have hM : M ≤ b := by omega
  go_loopw [18] (fun p wr => ∃ (i : Nat) (U : Nat → TN), i ≤ N ∧ p = .int .i64 (i : Int) ∧ Hid (Below w.heap.size w wr) ∧ Hid (Blk wr w.heap.size [.int .i64 h, .slice u1 n c1, .int .i64 ac, .int .i64 bu, .slice (some ⟨b, q, none⟩) N c2]) ∧ Hid (Blk wr (w.heap.size + 1) [.int .i64 0, .slice none 0 0, .int .i64 0, .int .i64 0, .slice none 0 0]) ∧ Hid (OwnIn wr (w.heap.size + 2) M u1 n f) ∧ Hid (TOwn wr M wr.heap.size b q i U) ∧ Hid (∀ j, i ≤ j → j < N → ThrG wr b (q + j * 3) (T j)) ∧ Hid (∀ j, j < N → ThrF wr b (q + j * 3)) ∧ Hid (∀ j, j < i → TnSame (T j) (U j))) (fun p _ => N - (intOf p).toNat)
  case atStart =>
    refine ⟨0, T, Nat.zero_le _, rfl, HB4, B_4, R_4, HO4, Lib.hid ⟨hM, by omega, by omega, fun i hi => absurd hi (Nat.not_lt_zero _), fun i hi => absurd hi (Nat.not_lt_zero _), fun i hi => absurd hi (Nat.not_lt_zero _), fun i hi => absurd hi (Nat.not_lt_zero _), fun i j hi => absurd hi (Nat.not_lt_zero _)⟩, Lib.hid (fun j _ hj => (TH4.out j hj).1), Lib.hid (fun j hj => (TH4.out j hj).2), Lib.hid (fun j hj => absurd hj (Nat.not_lt_zero _))⟩
  case round =>
    clear HB4 B_4 R_4 HO4 TH4 hb1 hb2 z4
    obtain ⟨i, U, hi, rfl, HB_r, B_r, R_r, HO_r, TO_r, TG_r, TF_r, SM_r⟩ := hrel
    have lT := TO_r.out.lt
    have lB := B_r.out.1
    by_cases hlt : i < N
    · have hlt' : (i : Int) < (N : Int) := by omega
      have hi0 : (0 : Int) ≤ (i : Int) := by omega
      obtain ⟨hn1, hn8⟩ := HT.out i hlt
      obtain ⟨n0, n1, n2⟩ := TG_r.out i (Nat.le_refl _) hlt
      obtain ⟨_, _, -, -, -, hsl⟩ := tv_get (G.out.below HB_r.out) hlt
      obtain ⟨t, ht⟩ : ∃ t, T i = t := ⟨_, rfl⟩
      have HTT := Lib.hid ht
      rw [ht] at n0 n1 n2 hsl hn1 hn8
      have N_1 := Lib.hid (Blk.new_at (w := wr) (cs := #[.int .i64 t.q, .int .i64 t.h, .slice t.a t.n t.c]) (t := 61) wr.heap.size rfl)
      have HB7 := Lib.hid (((Below.refl wr.heap.size wr).alloc (Nat.le_refl _) (.cells #[.int .i64 t.q, .int .i64 t.h, .slice t.a t.n t.c] 61)).drew)
      have PVd := Lib.hid (PV.below hsl HB7.out)
      have K7 : Hid ((wr.alloc (.cells #[.int .i64 t.q, .int .i64 t.h, .slice t.a t.n t.c] 61)).drew.cell? ⟨w.heap.size, 4, none⟩ = some (.slice (some ⟨b, q, none⟩) N c2) ∧ (wr.alloc (.cells #[.int .i64 t.q, .int .i64 t.h, .slice t.a t.n t.c] 61)).drew.cell? ⟨wr.heap.size, 2, none⟩ = some (.slice t.a t.n t.c)) := Lib.hid ⟨(B_r.out.below HB7.out).at 4 rfl, N_1.out.drew.at 2 rfl⟩
      clear hsl ht
      go_wp2_with fail
      go_region_held3 (fun w' => w'.cell? ⟨w.heap.size, 4, none⟩ = some (.slice (some ⟨b, q, none⟩) N c2) ∧ w'.cell? ⟨wr.heap.size, 2, none⟩ = some (.slice t.a t.n t.c))
        (first | exact K7.out | exact K9.out | exact ⟨cells_two (by omega) K9.out.1, cells_two2 (by omega) K9.out.2⟩ | go_keep)
        (first | (go_at_call 59; refine (cloneHS_any t.a t.n t.c t.S _ PVd.out (by omega) (by omega)).mono ?_; rintro e w9 ⟨aF, cF, rfl, hpo, hb⟩; have HB9 : Hid (Below wr.heap.size wr w9) := Lib.hid (HB7.out.trans (hb.mono (by simp))); have K9 : Hid (w9.cell? ⟨w.heap.size, 4, none⟩ = some (.slice (some ⟨b, q, none⟩) N c2) ∧ w9.cell? ⟨wr.heap.size, 2, none⟩ = some (.slice t.a t.n t.c)) := Lib.hid ⟨((B_r.out.below HB7.out).below hb).at 4 rfl, (N_1.out.drew.below hb).at 2 rfl⟩; have HPO : Hid (PVO w9 wr.heap.size w9.heap.size aF t.n t.S) := Lib.hid (hpo.widen (by simp) (Nat.le_refl _)); have TG9 := Lib.hid ((TG_r.out i (Nat.le_refl _) hlt).below HB9.out lT); have TF9 := Lib.hid ((TF_r.out i hlt).below HB9.out lT); have x2 := TG9.out.2.2; have y2 := TF9.out.2.2; have l9 : b < w9.heap.size := Nat.lt_of_lt_of_le lT HB9.out.size; clear hb hpo))
      all_goals (
        obtain ⟨to9, kp9, tg9, tf9⟩ := town_next TO_r.out (by rw [← HTT.out]; exact TG_r.out i (Nat.le_refl _) hlt) (TF_r.out i hlt) HB9.out (by omega) (a := aF) (c := cF) (S := t.S) HPO.out
        have TOF := Lib.hid to9; have KP := Lib.hid kp9
        have TGF : Hid (∀ j, i + 1 ≤ j → j < N → ThrG (w9.setCell ⟨b, q + i * 3 + 2, none⟩ (.slice aF t.n cF)) b (q + j * 3) (T j)) := Lib.hid (fun j h1 h2 => tg9 j _ (by omega) (TG_r.out j (by omega) h2))
        have TFF : Hid (∀ j, j < N → ThrF (w9.setCell ⟨b, q + i * 3 + 2, none⟩ (.slice aF t.n cF)) b (q + j * 3)) := Lib.hid (fun j h2 => tf9 j (TF_r.out j h2))
        have HBF : Hid (Below w.heap.size w (w9.setCell ⟨b, q + i * 3 + 2, none⟩ (.slice aF t.n cF))) := Lib.hid ((thru0 HB_r.out HB9.out).setCell (by simp; omega) _)
        have BF := Lib.hid ((B_r.out.below HB9.out).keeps KP.out (.inl (by omega)))
        have RF := Lib.hid ((R_r.out.below HB9.out).keeps KP.out (.inl (by omega)))
        have OF := Lib.hid ((HO_r.out.below HB9.out).keeps KP.out (.inl (by omega)))
        have SMF : Hid (∀ j, j < i + 1 → TnSame (T j) (if j = i then { t with a := aF, c := cF, S := t.S } else U j)) := Lib.hid (fun j hj => by
          by_cases e : j = i
          · subst e; rw [if_pos rfl, HTT.out]; exact ⟨rfl, rfl, rfl, fun _ _ => rfl⟩
          · rw [if_neg e]; exact SM_r.out j (by omega))
        clear to9 kp9 tg9 tf9 K7 K9 HB7 N_1 PVd n0 n1 n2 TG9 TF9
        go_wp2
        go_roundw
        (case rel => first | exact ⟨i + 1, _, by omega, by go_num, HBF, BF, RF, OF, TOF, TGF, TFF, SMF⟩ | ((repeat apply Exists.intro); exact ⟨⟨i + 1, _, by omega, by go_num, HBF, BF, RF, OF, TOF, TGF, TFF, SMF⟩, rfl⟩))
        (case measure => simp [intOf]; omega))
    · have hlt' : ¬ (i : Int) < (N : Int) := by omega
      obtain rfl : i = N := by omega
      have o0 := B_r.out.at 0 rfl; have o1 := B_r.out.at 1 rfl; have o2 := B_r.out.at 2 rfl; have o3 := B_r.out.at 3 rfl; have o4 := B_r.out.at 4 rfl
      have r0 := R_r.out.at 0 rfl; have f0 := R_r.out.free 0 rfl; have r1 := R_r.out.at 1 rfl; have f1 := R_r.out.free 1 rfl; have r2 := R_r.out.at 2 rfl; have f2 := R_r.out.free 2 rfl; have r3 := R_r.out.at 3 rfl; have f3 := R_r.out.free 3 rfl; have r4 := R_r.out.at 4 rfl; have f4 := R_r.out.free 4 rfl; have lR := R_r.out.1
      go_wp2
      refine bodyPost_ret (v := .agg #[.int .i64 h, .slice u1 n c1, .int .i64 ac, .int .i64 bu, .slice (some ⟨b, q, none⟩) i c2]) (by simp [results, Tryz.results22, go_sem, r0, r1, r2, r3, r4]) rfl ?_
      refine ⟨u1, c1, some ⟨b, q, none⟩, c2, M, U, rfl, ?_, .inr ⟨b, q, rfl, ?_⟩, by omega, by simp; omega, fun k hk => SM_r.out k hk, ?_, hnc, hcm⟩
      · refine OwnIn.widen (lo := w.heap.size + 2) (hi := M) (OwnIn.keeps (lo' := w.heap.size) (hi' := w.heap.size + 2) HO_r.out ?_ (.inr (by omega))) (by omega) (Nat.le_refl _)
        repeat (refine Keeps.trans ?_ (keeps_setCell (by (try simp); (try omega)) (by (try simp); (try omega)) _))
        exact Keeps.refl _ _ _
      · refine (TOwn.keeps (lo' := w.heap.size) (hi' := w.heap.size + 2) TO_r.out ?_ (.inr (by omega))).widen (Nat.le_refl _) (by simp)
        repeat (refine Keeps.trans ?_ (keeps_setCell (by (try simp); (try omega)) (by (try simp); (try omega)) _))
        exact Keeps.refl _ _ _
      · repeat (first | (with_reducible refine Below.setCell ?_ (by (try simp); (try omega)) _) | (with_reducible refine Below.alloc ?_ (by (try simp); (try omega)) _) | (with_reducible refine Below.drew ?_))
        exact HB_r.out
end Go.Proofs.YtnpklnpicelcmaaGreat

namespace Go.Proofs.YtnpklnpicelcmaaGreat
open Go.RowKit
set_option linter.unusedVariables false

theorem phi_bd (R : List Int) (P : Nat) (X : List Ob) (p : Int) : 0 ≤ goes R (newPlaces P X) p ∧ goes R (newPlaces P X) p ≤ (P : Int) + (totO X : Int) := by
  unfold goes
  by_cases h : (numL R p).getD 0 < X.length
  · rw [newPlaces_get P X h]
    have := placeAt_top P X ((numL R p).getD 0)
    omega
  · have e : (newPlaces P X)[(numL R p).getD 0]? = none := by rw [List.getElem?_eq_none_iff, newPlaces_length]; omega
    rw [List.getD_eq_getElem?_getD, e]
    simp
    omega

/-- What l7Collect leaves. -/
def RetL7C (W : World) (B m : Nat) (ac : Int) (f : Nat → Int) (L : List Ob) (lo hi : Nat) (ta : Option Addr) (N tc : Nat) (T : Nat → TN) (e : Ending) (w' : World) : Prop :=
  ∃ (g : Nat → Int) (a' : Option Addr) (c' : Nat), e = .returned (.int .i64 (totO (objsO L (reachO f L (rootsH T N))) : Int)) ∧ IsCol f L (reachO f L (rootsH T N)) (baseI (1 - ac) (m : Int)).toNat g ∧ OwnIn w' W.heap.size w'.heap.size a' (2 * m) g ∧ Blk w' B [.int .i64 (m : Int), .slice a' (2 * m) c', .int .i64 (1 - ac), .int .i64 (totO (objsO L (reachO f L (rootsH T N))) : Int), .slice ta N tc] ∧ TVO w' lo hi ta N (fun j => clT (phiH f L (baseI (1 - ac) (m : Int)).toNat (rootsH T N)) (T j)) ∧ Keeps W w' lo (B + 1) ∧ 2 * m ≤ c' ∧ c' ≤ maxLen

set_option maxRecDepth 100000 in
set_option maxHeartbeats 6400000 in
theorem l7Collect_any (B m : Nat) (ac bu : Int) (a : Option Addr) (c : Nat) (f : Nat → Int) (tb tq N tc : Nat) (T : Nat → TN) (L : List Ob) (lo hi : Nat) (w : World) (hB : Blk w B [.int .i64 (m : Int), .slice a (2 * m) c, .int .i64 ac, .int .i64 bu, .slice (some ⟨tb, tq, none⟩) N tc]) (hs : Src w a (2 * m) f) (hcn : 2 * m ≤ c) (hcm : c ≤ maxLen) (hto : TOwn w lo hi tb tq N T) (hlh : lo ≤ hi) (hhB : hi ≤ B) (h1 : IsSF (m : Int) (2 * m) f ac bu 0) (h2 : IsOI (m : Int) (2 * m) f ac bu 0 L) (hok : HpOk L N T) :
    Calls Tryz.prog 17 #[.pointer (some ⟨B, 0, none⟩)] w (RetL7C w B m ac f L lo hi (some ⟨tb, tq, none⟩) N tc T) := by
  have B0 := Lib.hid hB; have S0 := Lib.hid hs; have TO0 := Lib.hid hto; have HCM := Lib.hid hcm; have HSF := Lib.hid h1; have HOI := Lib.hid h2; have HOK := Lib.hid hok
  have HPL : Hid (∀ x ∈ L, 0 ≤ x.at_ ∧ x.at_ ≤ 1000000) := Lib.hid (fun x hx => (objs_word h1 h2 x hx).1)
  have HALL : Hid (∀ p ∈ rootsH T N, p ∈ placesO L) := Lib.hid (rootsH_in hok.t)
  have hN4 := hok.n.2
  have hR32 : (rootsH T N).length ≤ 32 := by have := rootsH_len hok.t; omega
  have hlB : B < w.heap.size := hB.1
  have HTV : Hid (TV w (some ⟨tb, tq, none⟩) N T) := Lib.hid (.inr ⟨tb, tq, rfl, hto.src⟩)
  have HPH : Hid (∀ p, 0 ≤ phiH f L (baseI (1 - ac) (m : Int)).toNat (rootsH T N) p ∧ phiH f L (baseI (1 - ac) (m : Int)).toNat (rootsH T N) p ≤ 1000000) := Lib.hid (fun p => by
    obtain ⟨⟨⟨g1, g2⟩, ⟨g3, g4⟩, g5, g6⟩, gn, gw⟩ := isFault_ok (isOI_zero h2).1
    have h3 := phi_bd (reachO f L (rootsH T N)) (baseI (1 - ac) (m : Int)).toNat (objsO L (reachO f L (rootsH T N))) p
    have h4 := tot_fits h1 h2 (rootsH_in hok.t)
    have h5 := baseI_bd (ac := 1 - ac) g1
    unfold phiH
    omega)
  clear hB hs hto hcm h1 h2 hok
  go_enter Tryz.func17, Tryz.ntmps17
  go_upto_region 1 with (fail)
  go_cut [3, 4] (fun s r wx => ∃ (Y : Nat) (ra : Option Addr) (rc : Nat) (g : Nat → Int) (a' : Option Addr) (c' : Nat), s = .pointer (some ⟨Y, 0, none⟩) ∧ r = .slice ra (rootsH T N).length rc ∧ (w.heap.size ≤ Y ∧ Y < wx.heap.size) ∧ Hid (Below w.heap.size w wx) ∧ Hid (Blk wx Y [.int .i64 (m : Int), .slice a' (2 * m) c', .int .i64 (1 - ac), .int .i64 (totO (objsO L (reachO f L (rootsH T N))) : Int)]) ∧ Hid (IsCol f L (reachO f L (rootsH T N)) (baseI (1 - ac) (m : Int)).toNat g) ∧ Hid (OwnIn wx w.heap.size wx.heap.size a' (2 * m) g) ∧ Hid (OwnIn wx w.heap.size wx.heap.size ra (rootsH T N).length (lf ((rootsH T N).map (phiH f L (baseI (1 - ac) (m : Int)).toNat (rootsH T N))))) ∧ Hid (2 * m ≤ c' ∧ c' ≤ maxLen))
  case first =>
    go_region_held3 (fun _ => True)
      (exact trivial)
      (first
        | (go_at_call 43; refine (l7Roots_any B (m : Int) ac bu a (2 * m) c (some ⟨tb, tq, none⟩) N tc T L _ (B0.out.below (by (repeat (first | (with_reducible refine Below.alloc ?_ (by (try simp); (try omega)) _) | (with_reducible refine Below.drew ?_))); exact Below.refl _ _)) (HTV.out.below (by (repeat (first | (with_reducible refine Below.alloc ?_ (by (try simp); (try omega)) _) | (with_reducible refine Below.drew ?_))); exact Below.refl _ _)) HOK.out HPL.out).mono ?_; rintro e w3 ⟨ra0, rc0, rfl, ho, hb, -, -, -⟩; have HB3 : Hid (Below w.heap.size w w3) := Lib.hid (thru0 (by (repeat (first | (with_reducible refine Below.alloc ?_ (by (try simp); (try omega)) _) | (with_reducible refine Below.drew ?_))); exact Below.refl _ _) hb); have HS3 := Lib.hid ho.src; have z3 : w.heap.size ≤ w3.heap.size := HB3.out.size; have zz3 := hb.size; (try simp at zz3); (first | (have T_3 := Lib.hid ((Blk.new_at (w := w.drew) (cs := #[.int .i64 0, .slice none 0 0, .int .i64 0, .int .i64 0]) (t := 29) w.heap.size (by simp)).below hb)) | (have T_3 := Lib.hid ((Blk.new_at (w := w) (cs := #[.int .i64 0, .slice none 0 0, .int .i64 0, .int .i64 0]) (t := 29) w.heap.size (by simp)).drew.below hb)) | skip); clear hb ho)
        | (go_at_call 42; refine (l4CollectR_any B m ac bu a c f ra0 (rootsH T N) rc0 L _ (blk_pre (ds := [.slice (some ⟨tb, tq, none⟩) N tc]) (B0.out.below (by (repeat (first | (with_reducible refine Below.alloc ?_ (by (try simp); (try omega)) _) | (with_reducible refine Below.drew ?_))); exact HB3.out))) (S0.out.below (by (repeat (first | (with_reducible refine Below.alloc ?_ (by (try simp); (try omega)) _) | (with_reducible refine Below.drew ?_))); exact HB3.out)) hcn HCM.out (by first | exact HS3.out | exact HS3.out.alloc _) HSF.out HOI.out (by omega) HALL.out).mono ?_; rintro e w4 ⟨a', c', ra, rc, mid, g, rfl, hcol, hown, hrow, hm1, hm2, hb, hnc', hcm'⟩; have HB4 : Hid (Below w.heap.size w w4) := Lib.hid (thru0 (by (repeat (first | (with_reducible refine Below.alloc ?_ (by (try simp); (try omega)) _) | (with_reducible refine Below.drew ?_))); exact HB3.out) hb); have HCOL := Lib.hid hcol; have HOWN := Lib.hid hown; have HROW := Lib.hid (own_of_row hrow).into; have z4 : w.heap.size ≤ w4.heap.size := HB4.out.size; have zz4 := hb.size; (try simp at zz4); have zm := hm2; (try simp at zm); have HNC : Hid (2 * m ≤ c' ∧ c' ≤ maxLen) := Lib.hid ⟨hnc', hcm'⟩; (first | (have T_4 := Lib.hid (T_3.out.below hb)) | (have T_4 := Lib.hid ((Blk.new_at (w := w3) (cs := #[.int .i64 0, .slice none 0 0, .int .i64 0, .int .i64 0]) (t := 29) w3.heap.size rfl).below hb)) | skip); (first | (have y0 := T_4.out.at 0 rfl; have y1 := T_4.out.at 1 rfl; have y2 := T_4.out.at 2 rfl; have y3 := T_4.out.at 3 rfl; have lY := T_4.out.1; have q0 := T_4.out.free 0 rfl; have q1 := T_4.out.free 1 rfl; have q2 := T_4.out.free 2 rfl; have q3 := T_4.out.free 3 rfl) | skip); clear hcol hown hrow hb hm2 hnc' hcm'))
    all_goals go_wp2_with fail
    all_goals go_meet
    all_goals (first
      | (refine ⟨_, ra, rc, g, a', c', rfl, rfl, ⟨by omega, by simp⟩, ?_, ?_, HCOL, ?_, ?_, HNC⟩
         · exact HB4.out.alloc z4 _
         · exact Blk.new_at _ rfl
         · exact (HOWN.out.alloc _).widen (by (try simp); (try omega)) (by simp; omega)
         · exact (HROW.out.alloc _).widen (by (try simp); (try omega)) (by simp))
      | (refine ⟨_, ra, rc, g, a', c', rfl, rfl, ⟨by (first | exact Nat.le_refl _ | omega), by (try simp); omega⟩, ?_, ?_, HCOL, ?_, ?_, HNC⟩
         · refine Lib.hid ?_
           (repeat (first | (with_reducible refine Below.setCell ?_ (by (try simp); (try omega)) _) | (with_reducible refine Below.alloc ?_ (by (try simp); (try omega)) _) | (with_reducible refine Below.drew ?_)))
           exact HB4.out
         · exact (((T_4.out.set 0 (by simp) _).set 1 (by simp) _).set 2 (by simp) _).set 3 (by simp) _
         · exact ((((HOWN.out.setCell (.inl (by (try simp); (try omega))) _).setCell (.inl (by (try simp); (try omega))) _).setCell (.inl (by (try simp); (try omega))) _).setCell (.inl (by (try simp); (try omega))) _).widen (by (try simp); (try omega)) (by (try simp); (try omega))
         · exact ((((HROW.out.setCell (.inl (by (try simp); (try omega))) _).setCell (.inl (by (try simp); (try omega))) _).setCell (.inl (by (try simp); (try omega))) _).setCell (.inl (by (try simp); (try omega))) _).widen (by (try simp); (try omega)) (by (try simp))))
  case rest =>
    obtain ⟨Y, ra, rc, g, a', c', rfl, rfl, ⟨hy1, hy2⟩, HB5, Y_5, HCOL, OW5, RO5, HNC⟩ := hcut
    rename World => w5
    have B_5 := Lib.hid (B0.out.below HB5.out); have TO5 := Lib.hid (TO0.out.below HB5.out)
    have z5 : w.heap.size ≤ w5.heap.size := HB5.out.size
    have HEN : Hid (∀ j, j < N → clN (phiH f L (baseI (1 - ac) (m : Int)).toNat (rootsH T N)) T N 0 j = clT (phiH f L (baseI (1 - ac) (m : Int)).toNat (rootsH T N)) (T j)) := Lib.hid (clN_end _ T N)
    have TO5' : Hid (TOwn w5 lo hi tb tq N (clN (phiH f L (baseI (1 - ac) (m : Int)).toNat (rootsH T N)) T 0 0)) := Lib.hid (by rw [clN_zero]; exact TO5.out)
    clear S0 B0 TO0 TO5 HTV HSF HOI
    obtain ⟨φ, hφ⟩ : ∃ φ, phiH f L (baseI (1 - ac) (m : Int)).toNat (rootsH T N) = φ := ⟨_, rfl⟩
    have HF := Lib.hid hφ
    rw [hφ] at RO5 HEN TO5' HPH
    clear hφ
    go_wp2
    go_loopw [5, 6] (fun u p wr => ∃ (i y : Nat), i ≤ N ∧ p = .int .i64 (i : Int) ∧ u = .int .i64 (y : Int) ∧ y ≤ 100 ∧ Hid (y = (rootsH T i).length) ∧ Hid (Keeps w5 wr lo hi) ∧ Hid (TOwn wr lo hi tb tq N (clN φ T i 0))) (fun _ p _ => N - (intOf p).toNat)
    case atStart => exact ⟨0, 0, Nat.zero_le _, rfl, rfl, by omega, Lib.hid rfl, Keeps.refl _ _ _, TO5'⟩
    case round =>
      clear TO5'
      obtain ⟨i, y, hi', rfl, rfl, hy, HY, HK_r, TO_r⟩ := hrel
      have hzr := HK_r.out.size
      have Br := Lib.hid (B_5.out.keeps HK_r.out (.inr hhB))
      have b4 := Br.out.at 4 rfl; have lB := Br.out.1
      by_cases hlt : i < N
      · have hlt' : (i : Int) < (N : Int) := by omega
        have hi0 : (0 : Int) ≤ (i : Int) := by omega
        have HOKI := Lib.hid (HOK.out.t i hlt)
        have hn8 : 1 ≤ (T i).n ∧ (T i).n ≤ 8 := HOKI.out.n
        obtain ⟨e1, e2, e3, e4⟩ := clN_at φ T i 0
        have g2 := (TO_r.out.thr i hlt).2.2
        rw [e1, e3, e4] at g2
        obtain ⟨pb, pq, ea, -⟩ := town_slot TO_r.out hlt (k := 0) (by omega)
        rw [e3] at ea
        rw [ea] at g2
        have EA := Lib.hid ea
        have lt := TO_r.out.lt
        have TO_r' := TO_r
        have HRL : Hid (∀ k, k ≤ (T i).n → (rootsH T i ++ rootsS (T i).S k).length ≤ 64) := Lib.hid (fun k hk => by
          have h3 := rootsH_len (T := T) (N := i) fun j hj => HOK.out.t j (by omega)
          have h4 := rootsS_len (T i).S k
          simp only [List.length_append]; omega)
        clear e1 e2 e3 e4 ea
        go_wp2
        clear b4 lB g2 lt
        go_loopw [5, 8] (fun u p wq => ∃ (k y : Nat), k ≤ (T i).n ∧ p = .int .i64 (k : Int) ∧ u = .int .i64 (y : Int) ∧ y ≤ 100 ∧ Hid (y = (rootsH T i ++ rootsS (T i).S k).length) ∧ Hid (Keeps w5 wq lo hi) ∧ Hid (TOwn wq lo hi tb tq N (clN φ T i k))) (fun _ p _ => (T i).n - (intOf p).toNat)
        case atStart => exact ⟨0, y, Nat.zero_le _, rfl, rfl, hy, Lib.hid (by rw [HY.out]; simp [rootsS, selL]), HK_r, TO_r'⟩
        case round =>
          clear TO_r TO_r' HK_r Br HY hzr
          obtain ⟨k, y, hk, rfl, rfl, hy, HY, HK_q, TO_q⟩ := hrel
          have hzq := HK_q.out.size
          by_cases hkt : k < (T i).n
          · have hkt' : (k : Int) < ((T i).n : Int) := by omega
            have hk0 : (0 : Int) ≤ (k : Int) := by omega
            obtain ⟨e1, e2, e3, e4⟩ := clN_at φ T i k
            obtain ⟨pb', pq', ea2, lt, hp1, hp2, hp3, tw, fr, upd⟩ := town_slot TO_q.out hlt (k := k) (by omega)
            rw [e3, EA.out] at ea2
            simp only [Option.some.injEq, Addr.mk.injEq] at ea2
            obtain ⟨rfl, rfl, -⟩ := ea2
            rw [e2] at tw
            have UPD := Lib.hid upd
            obtain ⟨x0, x1⟩ := tw; obtain ⟨f0, f1⟩ := fr
            obtain ⟨v, hv⟩ : ∃ v, ((T i).S k).nd = v := ⟨_, rfl⟩
            obtain ⟨sg, hsg⟩ : ∃ v, ((T i).S k).g = v := ⟨_, rfl⟩
            rw [hv] at x1; rw [hsg] at x0
            have HV := Lib.hid hv
            clear e1 e2 e3 e4 upd hv hsg
            by_cases h0 : v = 0
            · have HT2 : Hid (TOwn wr lo hi tb tq N (clN φ T i (k + 1))) := Lib.hid (by rw [clN_skip φ T i k (by rw [HV.out]; exact h0)]; exact TO_q.out)
              have HY2 : Hid (y = (rootsH T i ++ rootsS (T i).S (k + 1)).length) := Lib.hid (by rw [rootsS_no (by rw [HV.out]; exact h0)]; exact HY.out)
              subst h0
              go_wp2
              go_roundw
              case rel => first | exact ⟨k + 1, y, by omega, by go_num, rfl, hy, HY2, HK_q, HT2⟩ | ((repeat apply Exists.intro); exact ⟨⟨k + 1, y, by omega, by go_num, rfl, hy, HY2, HK_q, HT2⟩, rfl⟩)
              case measure => simp [intOf]; omega
            · have hq : (v != 0) = true := by simp [h0]
              obtain ⟨hr1, hr2⟩ := rootsH_at (T := T) hlt hkt (by rw [HV.out]; exact h0)
              have RO_q := Lib.hid (RO5.out.keeps HK_q.out (.inr (by omega)))
              have hyR : y < (rootsH T N).length := by rw [HY.out]; exact hr1
              obtain ⟨qb, qo, rfl, hqb, q0⟩ := src_get RO_q.out.src hyR
              have q0' : lf ((rootsH T N).map φ) y = φ (v - 1) := by rw [lf_map hyR, HY.out, hr2, HV.out]
              rw [q0'] at q0
              obtain ⟨hb1, hb2⟩ := HPH.out (v - 1)
              have HT2 : Hid (∀ wq : World, TOwn (wq.setCell ⟨pb, pq + k * 2 + 1, none⟩ (.int .i64 (φ (v - 1) + 1))) lo hi tb tq N (updN (clN φ T i k) i k (φ (v - 1) + 1)) → TOwn (wq.setCell ⟨pb, pq + k * 2 + 1, none⟩ (.int .i64 (φ (v - 1) + 1))) lo hi tb tq N (clN φ T i (k + 1))) := Lib.hid (fun wq h => by
                have e : φ (v - 1) + 1 = (clS φ ((T i).S k)).nd := by unfold clS; rw [HV.out, if_neg h0]
                rw [← clN_step, ← e]; exact h)
              have HY2 : Hid (y + 1 = (rootsH T i ++ rootsS (T i).S (k + 1)).length) := Lib.hid (by rw [rootsS_yes (by rw [HV.out]; exact h0), ← List.append_assoc, List.length_append, ← HY.out]; rfl)
              have hy64 : y ≤ 64 := by rw [HY.out]; exact HRL.out k hk
              clear hr1 hr2 q0' h0
              obtain ⟨z, hz⟩ : ∃ z, φ (v - 1) = z := ⟨_, rfl⟩
              rw [hz] at q0 hb1 hb2 HT2
              clear hz
              have HT3 := Lib.hid (HT2.out _ (UPD.out (z + 1)))
              have HK3 := Lib.hid (HK_q.out.trans (keeps_setCell (p := ⟨pb, pq + k * 2 + 1, none⟩) hp1 hp2 (.int .i64 (z + 1))))
              go_wp2
              go_roundw
              case rel => first | exact ⟨k + 1, y + 1, by omega, by go_num, by go_num, by omega, HY2, HK3, HT3⟩ | ((repeat apply Exists.intro); exact ⟨⟨k + 1, y + 1, by omega, by go_num, by go_num, by omega, HY2, HK3, HT3⟩, rfl⟩)
              case measure => simp [intOf]; omega
          · have hkt' : ¬ (k : Int) < ((T i).n : Int) := by omega
            obtain rfl : k = (T i).n := by omega
            have HT2 : Hid (TOwn _ lo hi tb tq N (clN φ T (i + 1) 0)) := Lib.hid (by rw [← clN_next]; exact TO_q.out)
            have HY2 : Hid (y = (rootsH T (i + 1)).length) := Lib.hid (by rw [rootsH]; exact HY.out)
            go_wp2
            go_roundw
            case rel => first | exact ⟨i + 1, y, by omega, by go_num, rfl, hy, HY2, HK_q, HT2⟩ | ((repeat apply Exists.intro); exact ⟨⟨i + 1, y, by omega, by go_num, rfl, hy, HY2, HK_q, HT2⟩, rfl⟩)
            case measure => simp [intOf]; omega
      · have hlt' : ¬ (i : Int) < (N : Int) := by omega
        obtain rfl : i = N := by omega
        have Y_r := Lib.hid (Y_5.out.keeps HK_r.out (.inr (by omega)))
        have OW_r := Lib.hid (OW5.out.keeps HK_r.out (.inr (by omega)))
        have y0 := Y_r.out.at 0 rfl; have y1 := Y_r.out.at 1 rfl; have y2 := Y_r.out.at 2 rfl; have y3 := Y_r.out.at 3 rfl; have lY := Y_r.out.1
        have b0 := Br.out.at 0 rfl; have b1 := Br.out.at 1 rfl; have b2 := Br.out.at 2 rfl; have b3 := Br.out.at 3 rfl
        have f0 := Br.out.free 0 rfl; have f1 := Br.out.free 1 rfl; have f2 := Br.out.free 2 rfl; have f3 := Br.out.free 3 rfl
        go_wp2
        go_ret
        refine ⟨g, a', c', rfl, HCOL.out, ?_, ?_, .inr ⟨tb, tq, rfl, ?_⟩, ?_, HNC.out.1, HNC.out.2⟩
        · exact ((((OW_r.out.setCell (.inl (by (try simp); (try omega))) _).setCell (.inl (by (try simp); (try omega))) _).setCell (.inl (by (try simp); (try omega))) _).setCell (.inl (by (try simp); (try omega))) _).widen (Nat.le_refl _) (by simp; exact hzr)
        · exact (((Br.out.set 0 (by simp) _).set 1 (by simp) _).set 2 (by simp) _).set 3 (by simp) _
        · refine TOwn.keeps (lo' := B) (hi' := B + 1) ((TO_r.out.congr HEN.out).congr (fun j _ => by rw [HF.out])) ?_ (.inl hhB)
          repeat (refine Keeps.trans ?_ (keeps_setCell (by (try simp)) (by (try simp)) _))
          exact Keeps.refl _ _ _
        · repeat (refine Keeps.trans ?_ (keeps_setCell (by (try simp); (try omega)) (by (try simp); (try omega)) _))
          exact (Keeps.trans (keeps_of_below HB5.out lo hi) HK_r.out).widen (Nat.le_refl _) (by omega)
end Go.Proofs.YtnpklnpicelcmaaGreat

namespace Go.Proofs.YtnpklnpicelcmaaGreat
open Go.RowKit
set_option linter.unusedVariables false

/-- A heap's answer of the call's own. -/
def RetHpS (W : World) (r : HRes) (e : Ending) (w' : World) : Prop :=
  ∃ (a : Option Addr) (c : Nat) (ta : Option Addr) (tc : Nat) (sa : Option Addr) (sc : Nat) (T' : Nat → TN), e = .returned (.agg #[.int .i64 r.co, .int .i64 r.h, .slice a r.n c, .int .i64 r.ac, .int .i64 r.bu, .slice ta r.N tc, .slice none 0 0, .slice sa r.K sc]) ∧ OwnIn w' W.heap.size w'.heap.size a r.n r.f ∧ TVO w' W.heap.size w'.heap.size ta r.N T' ∧ (∀ i, i < r.N → TnSame (r.T i) (T' i)) ∧ OwnIn w' W.heap.size w'.heap.size sa r.K (fun _ => r.mv) ∧ Below W.heap.size W w'

theorem own_lit1 (w : World) (x : Int) : OwnIn (w.alloc (.cells #[.int .i64 x] 2)) w.heap.size (w.alloc (.cells #[.int .i64 x] 2)).heap.size (some ⟨w.heap.size, 0, none⟩) 1 (fun _ => x) := by
  have h : (w.alloc (.cells #[.int .i64 x] 2)).ownsRow w.heap.size 2 1 (.slice (some ⟨w.heap.size, 0, none⟩) 1 1) 1 (nums 1 (fun _ => x)) := World.ownsRow_lit w #[.int .i64 x] 1 (Nat.le_refl _) (by simp [maxLen]) rfl
  exact (own_of_row h).into

/-- What is of the heap's own tenants is of those that are the same. -/
theorem clT_sameH {f : Nat → Int} {L : List Ob} {P : Nat} {N : Nat} {T U : Nat → TN} (hs : ∀ i, i < N → TnSame (T i) (U i)) : ∀ i, i < N → TnSame (clT (phiH f L P (rootsH T N)) (T i)) (clT (phiH f L P (rootsH U N)) (U i)) := fun i hi => by
  rw [rootsH_same hs]; exact clT_same (hs i hi)

theorem retHpS_one {W w4 ws : World} {r : HRes} {a ta : Option Addr} {c tc l1 h1 l2 h2 : Nat} {T' : Nat → TN} (ho : OwnIn w4 l1 h1 a r.n r.f) (k1 : W.heap.size + 2 ≤ l1) (m1 : h1 ≤ w4.heap.size) (ht : TVO w4 l2 h2 ta r.N T') (k2 : W.heap.size + 2 ≤ l2) (m2 : h2 ≤ w4.heap.size)
    (hs : ∀ i, i < r.N → TnSame (r.T i) (T' i)) (hb : Below W.heap.size W w4) (hk : Keeps w4 ws W.heap.size (W.heap.size + 2)) (hz : ws.heap.size = w4.heap.size) (hK : r.K = 1) (h4 : W.heap.size + 2 ≤ w4.heap.size) : RetHpS W r (.returned (.agg #[.int .i64 r.co, .int .i64 r.h, .slice a r.n c, .int .i64 r.ac, .int .i64 r.bu, .slice ta r.N tc, .slice none 0 0, .slice (some ⟨w4.heap.size, 0, none⟩) 1 1])) (ws.alloc (.cells #[.int .i64 r.mv] 2)) := by
  have e : (ws.alloc (.cells #[.int .i64 r.mv] 2)).heap.size = ws.heap.size + 1 := by simp
  have hl := own_lit1 ws r.mv
  rw [hz] at hl
  refine ⟨a, c, ta, tc, some ⟨w4.heap.size, 0, none⟩, 1, T', by rw [hK], ((ho.keeps hk (.inr k1)).alloc _).widen (by omega) (by omega), ((ht.keeps hk (.inr k2)).alloc _).widen (by omega) (by omega), hs, by rw [hK]; exact hl.widen (by omega) (by omega), (hb.trans (hk.below (Nat.le_refl _) hb.size)).alloc (by rw [hz]; exact hb.size) _⟩

/-- An answer's cells, written. -/
def w8 (w : World) (b : Nat) (v0 v1 v2 v3 v4 v5 v6 v7 : Value) : World := (((((((w.setCell ⟨b, 0, none⟩ v0).setCell ⟨b, 1, none⟩ v1).setCell ⟨b, 2, none⟩ v2).setCell ⟨b, 3, none⟩ v3).setCell ⟨b, 4, none⟩ v4).setCell ⟨b, 5, none⟩ v5).setCell ⟨b, 6, none⟩ v6).setCell ⟨b, 7, none⟩ v7

theorem w8_blk {w : World} {b : Nat} {x0 x1 x2 x3 x4 x5 x6 x7 : Value} (h : Blk w b [x0, x1, x2, x3, x4, x5, x6, x7]) (v0 v1 v2 v3 v4 v5 v6 v7 : Value) : Blk (w8 w b v0 v1 v2 v3 v4 v5 v6 v7) b [v0, v1, v2, v3, v4, v5, v6, v7] :=
  (((((((h.set 0 (by simp) v0).set 1 (by simp) v1).set 2 (by simp) v2).set 3 (by simp) v3).set 4 (by simp) v4).set 5 (by simp) v5).set 6 (by simp) v6).set 7 (by simp) v7

theorem w8_keeps (w : World) (b : Nat) (v0 v1 v2 v3 v4 v5 v6 v7 : Value) : Keeps w (w8 w b v0 v1 v2 v3 v4 v5 v6 v7) b (b + 1) := by
  unfold w8
  refine Keeps.trans ?_ (keeps_setCell (Nat.le_refl b) (Nat.lt_succ_self b) _)
  refine Keeps.trans ?_ (keeps_setCell (Nat.le_refl b) (Nat.lt_succ_self b) _)
  refine Keeps.trans ?_ (keeps_setCell (Nat.le_refl b) (Nat.lt_succ_self b) _)
  refine Keeps.trans ?_ (keeps_setCell (Nat.le_refl b) (Nat.lt_succ_self b) _)
  refine Keeps.trans ?_ (keeps_setCell (Nat.le_refl b) (Nat.lt_succ_self b) _)
  refine Keeps.trans ?_ (keeps_setCell (Nat.le_refl b) (Nat.lt_succ_self b) _)
  refine Keeps.trans ?_ (keeps_setCell (Nat.le_refl b) (Nat.lt_succ_self b) _)
  exact keeps_setCell (Nat.le_refl b) (Nat.lt_succ_self b) _

theorem w8_size (w : World) (b : Nat) (v0 v1 v2 v3 v4 v5 v6 v7 : Value) : (w8 w b v0 v1 v2 v3 v4 v5 v6 v7).heap.size = w.heap.size := by simp [w8]

set_option maxRecDepth 100000 in
set_option maxHeartbeats 6400000 in
theorem specCH_any (h ac bu : Int) (a : Option Addr) (n c : Nat) (f : Nat → Int) (ta : Option Addr) (N tc : Nat) (T : Nat → TN) (r : HRes) (w : World) (hs : Src w a n f) (hcn : n ≤ c) (hcm : c ≤ maxLen) (ht : TV w ta N T) (hN : N ≤ maxLen) (hn : ∀ i, i < N → (T i).n ≤ maxLen)
    (hr : ∀ i, i < N → ∀ j, j < (T i).n → -9223372036854775808 ≤ ((T i).S j).nd ∧ ((T i).S j).nd ≤ 9223372036854775807) (hk : IsCH h n f ac bu N T r) :
    Calls Tryz.prog 5 #[.agg #[.int .i64 h, .slice a n c, .int .i64 ac, .int .i64 bu, .slice ta N tc]] w (RetHpS w r) := by
  have S0 := Lib.hid hs; have T0 := Lib.hid ht; have HN := Lib.hid hn; have HR := Lib.hid hr; have HCM := Lib.hid hcm
  have B_0 := Lib.hid ((Blk.new_at (w := w) (cs := #[.int .i64 h, .slice a n c, .int .i64 ac, .int .i64 bu, .slice ta N tc]) (t := 32) w.heap.size rfl).alloc (.cells #[.int .i64 0, .int .i64 0, .slice none 0 0, .int .i64 0, .int .i64 0, .slice none 0 0, .slice none 0 0, .slice none 0 0] 35))
  have R_0 := Lib.hid (Blk.new_at (w := w.alloc (.cells #[.int .i64 h, .slice a n c, .int .i64 ac, .int .i64 bu, .slice ta N tc] 32)) (cs := #[.int .i64 0, .int .i64 0, .slice none 0 0, .int .i64 0, .int .i64 0, .slice none 0 0, .slice none 0 0, .slice none 0 0]) (t := 35) (w.heap.size + 1) (by simp))
  have HB0 : Hid (Below w.heap.size w ((w.alloc (.cells #[.int .i64 h, .slice a n c, .int .i64 ac, .int .i64 bu, .slice ta N tc] 32)).alloc (.cells #[.int .i64 0, .int .i64 0, .slice none 0 0, .int .i64 0, .int .i64 0, .slice none 0 0, .slice none 0 0, .slice none 0 0] 35))) := ((Below.refl _ _).alloc (Nat.le_refl _) _).alloc (by simp) _
  have z0 : w.heap.size + 2 ≤ ((w.alloc (.cells #[.int .i64 h, .slice a n c, .int .i64 ac, .int .i64 bu, .slice ta N tc] 32)).alloc (.cells #[.int .i64 0, .int .i64 0, .slice none 0 0, .int .i64 0, .int .i64 0, .slice none 0 0, .slice none 0 0, .slice none 0 0] 35)).heap.size := by simp
  have b0 := B_0.out.at 0 rfl; have b1 := B_0.out.at 1 rfl; have b2 := B_0.out.at 2 rfl; have b3 := B_0.out.at 3 rfl; have b4 := B_0.out.at 4 rfl; have lB := B_0.out.1
  obtain ⟨k, hkf, hkk⟩ : ∃ k, IsHpF h n f ac bu N T k ∧ k = r.co := by
    rcases hk with ⟨_, h1, h2⟩ | ⟨h1, L, g, _, _, _, _, h2⟩
    · exact ⟨_, h1, rfl⟩
    · exact ⟨_, h1, by rw [h2]⟩
  have HKF := Lib.hid hkf; have HKK := Lib.hid hkk
  clear hs ht hn hr hcm hkf hkk
  go_enter Tryz.func5, Tryz.ntmps5
  go_wp2_with fail
  generalize ((w.alloc (.cells #[.int .i64 h, .slice a n c, .int .i64 ac, .int .i64 bu, .slice ta N tc] 32)).alloc (.cells #[.int .i64 0, .int .i64 0, .slice none 0 0, .int .i64 0, .int .i64 0, .slice none 0 0, .slice none 0 0, .slice none 0 0] 35)) = w0 at *
  refine (specHpF_any h ac bu a n c f ta N tc T k _ (S0.out.below HB0.out) hcn HCM.out (T0.out.below HB0.out) hN HN.out HR.out HKF.out).mono ?_
  rintro e w1 ⟨rfl, hb⟩
  have HB1 := Lib.hid (thru0 HB0.out hb); have B_1 := Lib.hid (B_0.out.below hb); have R_1 := Lib.hid (R_0.out.below hb)
  have z1 := hb.size
  clear hb b0 b1 b2 b3 b4 lB B_0 R_0 HB0
  have hkk := HKK.out
  rcases hk with ⟨h0, -, hre⟩ | ⟨-, L, g, h1, h2, h3, hcol, rfl⟩
  · rw [← hkk] at h0 hre
    have hq : (k != 0) = true := by simp [h0]
    have c0 := R_1.out.at 0 rfl; have c1 := R_1.out.at 1 rfl; have c2 := R_1.out.at 2 rfl; have c3 := R_1.out.at 3 rfl; have c4 := R_1.out.at 4 rfl; have c5 := R_1.out.at 5 rfl; have c6 := R_1.out.at 6 rfl; have c7 := R_1.out.at 7 rfl
    have f0 := R_1.out.free 0 rfl; have f1 := R_1.out.free 1 rfl; have f2 := R_1.out.free 2 rfl; have f3 := R_1.out.free 3 rfl; have f4 := R_1.out.free 4 rfl; have f5 := R_1.out.free 5 rfl; have f6 := R_1.out.free 6 rfl; have f7 := R_1.out.free 7 rfl; have lR := R_1.out.1
    have HRE := Lib.hid hre
    clear h0 hkk hre
    go_wp2
    refine bodyPost_ret (v := .agg #[.int .i64 k, .int .i64 0, .slice none 0 0, .int .i64 0, .int .i64 0, .slice none 0 0, .slice none 0 0, .slice none 0 0]) (by simp [results, Tryz.results5, go_sem, c0, c1, c2, c3, c4, c5, c6, c7, World.cell?_setCell_other, World.cell?_setCell_same']) rfl ?_
    rw [HRE.out]
    refine ⟨none, 0, none, 0, none, 0, fun _ => tz, rfl, .inl rfl, .inl rfl, fun i hi => absurd hi (Nat.not_lt_zero _), .inl rfl, ?_⟩
    repeat (first | (with_reducible refine Below.setCell ?_ (by (try simp); (try omega)) _) | (with_reducible refine Below.alloc ?_ (by (try simp); (try omega)) _))
    exact HB1.out
  · have hkk0 : k = 0 := hkk
    subst hkk0
    have HOK := Lib.hid (hpOk_of h3)
    have hN4 := HOK.out.n
    obtain ⟨⟨⟨g1, g2⟩, _⟩, gn, _⟩ := isFault_ok (isOI_zero h2).1
    obtain ⟨m, rfl⟩ : ∃ m : Nat, h = (m : Int) := ⟨h.toNat, by omega⟩
    obtain rfl : n = 2 * m := by omega
    have HSF := Lib.hid h1; have HOI := Lib.hid h2; have HPF := Lib.hid h3; have HCOL := Lib.hid hcol
    have hm1 : m ≤ 200 := by omega
    have hm8 : 1 ≤ m := by omega
    clear h1 h2 h3 hcol hkk g1 g2 gn HKK HKF
    go_wp2_with fail
    refine (l7Copy_any w.heap.size (m : Int) ac bu a (2 * m) c f ta N tc T _ B_1.out (S0.out.below HB1.out) (by omega) (by omega) (T0.out.below HB1.out) hN4.2 (fun i hi => (HOK.out.t i hi).n)).mono ?_
    rintro e w2 ⟨a', c', ta', tc', mid, U, rfl, ho, hto, hm2, hm3, hsm, hb, hnc, hcm'⟩
    obtain ⟨tb, tq, rfl, ht2⟩ : ∃ b q, ta' = some ⟨b, q, none⟩ ∧ TOwn w2 mid w2.heap.size b q N U := by
      rcases hto with h0 | h0
      · omega
      · exact h0
    have HB2 := Lib.hid (thru0 HB1.out hb); have R_2 := Lib.hid (R_1.out.below hb)
    have z2 := hb.size
    have HSM := Lib.hid hsm; have HO := Lib.hid ho; have HTO := Lib.hid ht2
    have HP2 : Hid (hpF f L (m : Int) N U = 0) := Lib.hid (by rw [← HPF.out]; unfold hpF; rw [tnsF_same hsm, quF_same hsm, sumF_same hsm])
    have hrt : rootsH U N = rootsH T N := rootsH_same hsm
    have HRT := Lib.hid hrt
    clear hb ho hto ht2 hsm hrt B_1 R_1 HB1
    have D_3 := Lib.hid (Blk.new_at (w := w2) (cs := #[.int .i64 (m : Int), .slice a' (2 * m) c', .int .i64 ac, .int .i64 bu, .slice (some ⟨tb, tq, none⟩) N tc']) (t := 32) w2.heap.size rfl)
    have HB3 := Lib.hid (HB2.out.alloc HB2.out.size (.cells #[.int .i64 (m : Int), .slice a' (2 * m) c', .int .i64 ac, .int .i64 bu, .slice (some ⟨tb, tq, none⟩) N tc'] 32))
    have R_3 := Lib.hid (R_2.out.alloc (.cells #[.int .i64 (m : Int), .slice a' (2 * m) c', .int .i64 ac, .int .i64 bu, .slice (some ⟨tb, tq, none⟩) N tc'] 32))
    have S_3 := Lib.hid (HO.out.src.alloc (.cells #[.int .i64 (m : Int), .slice a' (2 * m) c', .int .i64 ac, .int .i64 bu, .slice (some ⟨tb, tq, none⟩) N tc'] 32))
    have TO_3 := Lib.hid (HTO.out.alloc (.cells #[.int .i64 (m : Int), .slice a' (2 * m) c', .int .i64 ac, .int .i64 bu, .slice (some ⟨tb, tq, none⟩) N tc'] 32))
    go_wp2_with fail
    refine (l7Collect_any w2.heap.size m ac bu a' c' f tb tq N tc' U L mid w2.heap.size _ D_3.out S_3.out hnc hcm' TO_3.out hm3 (Nat.le_refl _) HSF.out HOI.out (hpOk_of HP2.out)).mono ?_
    rintro e w4 ⟨g', a4, c4, rfl, hcol', hown, hd4, htv, hkp, hnc4, hcm4⟩
    have R_4 := Lib.hid (R_3.out.keeps hkp (.inl (by omega)))
    have HB4 : Hid (Below w.heap.size w w4) := Lib.hid (HB3.out.trans (hkp.below (by omega) HB3.out.size))
    have z4 : w2.heap.size + 1 ≤ w4.heap.size := by have := hkp.size; simp at this; omega
    have D_4 := Lib.hid hd4
    rw [HRT.out] at hcol' D_4
    have HG : Hid (∀ k, g' k = g k) := Lib.hid (fun k => isCol_same hcol' HCOL.out k)
    have HOWN := Lib.hid hown; have HTV := Lib.hid htv
    have HSS : Hid (∀ i, i < N → TnSame (clT (phiH f L (baseI (1 - ac) (m : Int)).toNat (rootsH T N)) (T i)) (clT (phiH f L (baseI (1 - ac) (m : Int)).toNat (rootsH U N)) (U i))) := Lib.hid (clT_sameH HSM.out)
    have d0 := D_4.out.at 0 rfl; have d1 := D_4.out.at 1 rfl; have d2 := D_4.out.at 2 rfl; have d3 := D_4.out.at 3 rfl; have d4 := D_4.out.at 4 rfl; have lD := D_4.out.1
    have f0 := R_4.out.free 0 rfl; have f1 := R_4.out.free 1 rfl; have f2 := R_4.out.free 2 rfl; have f3 := R_4.out.free 3 rfl; have f4 := R_4.out.free 4 rfl; have f5 := R_4.out.free 5 rfl; have f6 := R_4.out.free 6 rfl; have f7 := R_4.out.free 7 rfl; have lR := R_4.out.1
    rw [HRT.out]
    obtain ⟨mv, hmv⟩ : ∃ mv, (totO (objsO L (reachO f L (rootsH T N))) : Int) = mv := ⟨_, rfl⟩
    rw [hmv] at d3
    rw [hmv]
    have HMV := Lib.hid hmv
    have c0 := R_4.out.at 0 rfl; have c1 := R_4.out.at 1 rfl; have c2 := R_4.out.at 2 rfl; have c3 := R_4.out.at 3 rfl; have c4' := R_4.out.at 4 rfl; have c5 := R_4.out.at 5 rfl; have c6 := R_4.out.at 6 rfl; have c7 := R_4.out.at 7 rfl
    clear hcol' hown hd4 htv hkp hmv R_2 R_3 HB3 HB2 D_3 S_3 TO_3
    go_wp2
    have R_6 := (w8_blk R_4.out (.int .i64 0) (.int .i64 (m : Int)) (.slice a4 (2 * m) c4) (.int .i64 (1 - ac)) (.int .i64 mv) (.slice (some ⟨tb, tq, none⟩) N tc') (.slice none 0 0) (.slice (some ⟨w4.heap.size, 0, none⟩) 1 1)).alloc (.cells #[.int .i64 mv] 2)
    have K_6 := w8_keeps w4 (w.heap.size + 1) (.int .i64 0) (.int .i64 (m : Int)) (.slice a4 (2 * m) c4) (.int .i64 (1 - ac)) (.int .i64 mv) (.slice (some ⟨tb, tq, none⟩) N tc') (.slice none 0 0) (.slice (some ⟨w4.heap.size, 0, none⟩) 1 1)
    have Z_6 := w8_size w4 (w.heap.size + 1) (.int .i64 0) (.int .i64 (m : Int)) (.slice a4 (2 * m) c4) (.int .i64 (1 - ac)) (.int .i64 mv) (.slice (some ⟨tb, tq, none⟩) N tc') (.slice none 0 0) (.slice (some ⟨w4.heap.size, 0, none⟩) 1 1)
    clear c0 c1 c2 c3 c4' c5 c6 c7 f0 f1 f2 f3 f4 f5 f6 f7 d0 d1 d2 d3 d4
    change bodyPost _ _ _ _ _ (World.alloc (w8 w4 (w.heap.size + 1) (.int .i64 0) (.int .i64 (m : Int)) (.slice a4 (2 * m) c4) (.int .i64 (1 - ac)) (.int .i64 mv) (.slice (some ⟨tb, tq, none⟩) N tc') (.slice none 0 0) (.slice (some ⟨w4.heap.size, 0, none⟩) 1 1)) (.cells #[.int .i64 mv] 2))
    generalize w8 w4 (w.heap.size + 1) (.int .i64 0) (.int .i64 (m : Int)) (.slice a4 (2 * m) c4) (.int .i64 (1 - ac)) (.int .i64 mv) (.slice (some ⟨tb, tq, none⟩) N tc') (.slice none 0 0) (.slice (some ⟨w4.heap.size, 0, none⟩) 1 1) = ws at *
    have e0 := R_6.at 0 rfl; have e1 := R_6.at 1 rfl; have e2 := R_6.at 2 rfl; have e3 := R_6.at 3 rfl; have e4 := R_6.at 4 rfl; have e5 := R_6.at 5 rfl; have e6 := R_6.at 6 rfl; have e7 := R_6.at 7 rfl
    refine bodyPost_ret (v := .agg #[.int .i64 0, .int .i64 (m : Int), .slice a4 (2 * m) c4, .int .i64 (1 - ac), .int .i64 mv, .slice (some ⟨tb, tq, none⟩) N tc', .slice none 0 0, .slice (some ⟨w4.heap.size, 0, none⟩) 1 1]) (by simp [results, Tryz.results5, go_sem, e0, e1, e2, e3, e4, e5, e6, e7]) rfl ?_
    have hmv := HMV.out
    subst hmv
    exact retHpS_one (r := ⟨0, (m : Int), 2 * m, g, 1 - ac, (totO (objsO L (reachO f L (rootsH T N))) : Int), N, fun j => clT (phiH f L (baseI (1 - ac) (m : Int)).toNat (rootsH T N)) (T j), 1, (totO (objsO L (reachO f L (rootsH T N))) : Int)⟩) (HOWN.out.congr fun i _ => HG.out i) (by simp; omega) (Nat.le_refl _) HTV.out (by omega) (by omega) HSS.out HB4.out (K_6.widen (by omega) (by omega)) Z_6 rfl (by omega)
end Go.Proofs.YtnpklnpicelcmaaGreat

namespace Go.Proofs.YtnpklnpicelcmaaGreat
open Go.RowKit Go.Maps
set_option linter.unusedVariables false

/-- A map in which each of a list leads to where it went. -/
def MapG (w : World) (b n : Nat) (φ : Int → Int) (R : List Int) : Prop :=
  ∃ D : DataW Unit, w.ownsMap Tryz.prog 2 (plainElem Tryz.prog 2) b n D ∧ ∀ p ∈ R, D.atKey (.int .i64 p) (.lit (.int .i64 0)) = .lit (.int .i64 (φ p))

section

variable {w : World} {b n : Nat} {R : List Int} {φ : Int → Int} {p : Int}

theorem MapG.lt (h : MapG w b n φ R) : b < w.heap.size := by obtain ⟨D, h1, _⟩ := h; exact h1.lt

theorem MapG.block {w' : World} (h : MapG w b n φ R) (hb : w'.heap[b]? = w.heap[b]?) : MapG w' b n φ R := by
  obtain ⟨D, ⟨es, clock, h1, h2⟩, h3⟩ := h
  exact ⟨D, ⟨es, clock, hb.trans h1, h2⟩, h3⟩

theorem MapG.below {w' : World} (h : MapG w b n φ R) (hb : Below w.heap.size w w') : MapG w' b n φ R := h.block (hb.block b h.lt)

theorem MapG.keeps {w' : World} {lo hi : Nat} (h : MapG w b n φ R) (hk : Keeps w w' lo hi) (hd : b < lo ∨ hi ≤ b) : MapG w' b n φ R := h.block (hk.block b h.lt hd)

theorem MapG.made (w : World) (φ : Int → Int) : MapG (w.alloc (.map #[] 0)) w.heap.size 0 φ [] := ⟨.map [], World.ownsMap_made _ _ _ _, fun p hp => by cases hp⟩

theorem MapG.look (h : MapG w b n φ R) (hp : -1000000000 ≤ p ∧ p ≤ 1000000000) (hm : p ∈ R) : (Instr.lookup 57 (.map (some b)) (.int .i64 p) false).run Tryz.prog w = .ok (.int .i64 (φ p)) w := by
  obtain ⟨D, h1, h2⟩ := h
  obtain ⟨c, hr, hc, _⟩ := h1.lookup_int keyI Tryz.underlyingMap Tryz.underlyingI (zeroI w) (keyOf_int_mk Tryz.underlyingI (wfI hp))
  rw [h2 p hm] at hc
  have : φ p = c := by simpa using hc
  rw [hr, this]

theorem MapG.update (h : MapG w b n φ R) (hn : n < maxLen) (hp : -1000000000 ≤ p ∧ p ≤ 1000000000) (hv : -1000000000 ≤ φ p ∧ φ p ≤ 1000000000) : ∃ w', (Instr.mapUpdate 57 (.map (some b)) (.int .i64 p) (.int .i64 (φ p))).run Tryz.prog w = .ok () w' ∧ MapG w' b (n + 1) φ (R ++ [p]) ∧ w.grownBy w' (some b) := by
  obtain ⟨D, h1, h2⟩ := h
  obtain ⟨w', hr, h3, h4⟩ := h1.update keyI Tryz.underlyingMap hn (keyOf_int_mk Tryz.underlyingI (wfI hp)) (plainElem_int Tryz.underlyingI (wfI hv))
  refine ⟨w', hr, ⟨_, h3, fun q hq => ?_⟩, h4⟩
  have hk : WideAt.IsKeyLit (Lit.int .i64 p) := by trivial
  by_cases e : q = p
  · subst e
    rw [Maps.atKey_put_same h1.isMap hk]
  · have hne : Lit.int .i64 q ≠ Lit.int .i64 p := fun h => e (by simpa using h)
    have hq2 : q ∈ R := by
      rcases List.mem_append.mp hq with hq | hq
      · exact hq
      · exact absurd (List.mem_singleton.mp hq) e
    rw [Maps.atKey_put_other hne, h2 q hq2]

end

set_option maxRecDepth 100000 in
set_option maxHeartbeats 1600000 in
theorem movedWord_any (s : SL) (mb n : Nat) (φ : Int → Int) (R : List Int) (w : World) (hm : MapG w mb n φ R) (hv : s.nd = 0 ∨ (1 ≤ s.nd ∧ s.nd ≤ 1000001 ∧ s.nd - 1 ∈ R)) (hφ : ∀ p, 0 ≤ φ p ∧ φ p ≤ 1000000) :
    Calls Tryz.prog 23 #[.int .i64 s.nd, .map (some mb)] w (RetInt w (clS φ s).nd) := by
  obtain ⟨g, v⟩ := s
  simp only at hv ⊢
  rcases hv with rfl | ⟨h1, h2, h3⟩
  · have e : (clS φ ⟨g, 0⟩).nd = 0 := by simp [clS]
    rw [e]
    go_enter Tryz.func23, Tryz.ntmps23
    go_wp2
    go_ret
    exact ⟨rfl, Below.refl _ _⟩
  · have h0 : ¬ v = 0 := by omega
    have e : (clS φ ⟨g, v⟩).nd = φ (v - 1) + 1 := by simp [clS, h0]
    rw [e]
    have M := Lib.hid hm; have H3 := Lib.hid h3; have HF := Lib.hid (hφ (v - 1))
    clear e hm h3 hφ h0
    have h0 : ¬ v = 0 := by omega
    obtain ⟨z, hz⟩ : ∃ z, φ (v - 1) = z := ⟨_, rfl⟩
    have HZ := Lib.hid hz
    rw [hz] at HF ⊢
    clear hz
    go_enter Tryz.func23, Tryz.ntmps23
    go_wp2_with (first
      | (go_at_call 61; refine (place_pos v _ h1 (by omega)).mono ?_; rintro e w1 ⟨rfl, hb⟩; have HB1 := Lib.hid hb; have M1 := Lib.hid (M.out.below hb); have hlk := M1.out.look (p := v - 1) (by omega) H3.out; rw [HZ.out] at hlk; clear hb)
      | (go_at_call 60; refine (pto_any z _ HF.out).mono ?_; rintro e w2 ⟨rfl, rfl⟩)
      | (go_at_call 62; refine (word_ptr (z + 1) _).mono ?_; rintro e w3 ⟨rfl, hb⟩; have HB3 := Lib.hid (thru0 HB1.out hb); clear hb))
    go_ret
    exact ⟨rfl, HB3.out⟩
end Go.Proofs.YtnpklnpicelcmaaGreat

namespace Go.Proofs.YtnpklnpicelcmaaGreat
open Go.RowKit
set_option linter.unusedVariables false

/-- A heap's answer of the call's own, part by part. -/
def RetHpI (W : World) (r : HRes) (e : Ending) (w' : World) : Prop :=
  ∃ (a : Option Addr) (c : Nat) (ta : Option Addr) (tc : Nat) (sa : Option Addr) (sc l1 l2 : Nat) (T' : Nat → TN), e = .returned (.agg #[.int .i64 r.co, .int .i64 r.h, .slice a r.n c, .int .i64 r.ac, .int .i64 r.bu, .slice ta r.N tc, .slice none 0 0, .slice sa r.K sc]) ∧ OwnIn w' W.heap.size l1 a r.n r.f ∧ TVO w' l1 l2 ta r.N T' ∧ OwnIn w' l2 w'.heap.size sa r.K (fun _ => r.mv) ∧ W.heap.size ≤ l1 ∧ l1 ≤ l2 ∧ l2 ≤ w'.heap.size ∧ (∀ i, i < r.N → TnSame (r.T i) (T' i)) ∧ Below W.heap.size W w'

theorem retHpI_one {W w4 ws : World} {r : HRes} {a ta : Option Addr} {c tc l0 l1 l2 : Nat} {T' : Nat → TN} (ho : OwnIn w4 l0 l1 a r.n r.f) (k1 : W.heap.size + 2 ≤ l0) (m1 : l0 ≤ l1) (ht : TVO w4 l1 l2 ta r.N T') (k2 : l1 ≤ l2) (m2 : l2 ≤ w4.heap.size)
    (hs : ∀ i, i < r.N → TnSame (r.T i) (T' i)) (hb : Below W.heap.size W w4) (hk : Keeps w4 ws W.heap.size (W.heap.size + 2)) (hz : ws.heap.size = w4.heap.size) (hK : r.K = 1) : RetHpI W r (.returned (.agg #[.int .i64 r.co, .int .i64 r.h, .slice a r.n c, .int .i64 r.ac, .int .i64 r.bu, .slice ta r.N tc, .slice none 0 0, .slice (some ⟨w4.heap.size, 0, none⟩) 1 1])) (ws.alloc (.cells #[.int .i64 r.mv] 2)) := by
  have e : (ws.alloc (.cells #[.int .i64 r.mv] 2)).heap.size = ws.heap.size + 1 := by simp
  have hl := own_lit1 ws r.mv
  rw [hz] at hl
  refine ⟨a, c, ta, tc, some ⟨w4.heap.size, 0, none⟩, 1, l1, l2, T', by rw [hK], ((ho.keeps hk (.inr k1)).alloc _).widen (by omega) (Nat.le_refl _), ((ht.keeps hk (.inr (by omega))).alloc _), by rw [hK]; exact hl.widen m2 (by omega), by omega, k2, by omega, hs, (hb.trans (hk.below (Nat.le_refl _) hb.size)).alloc (by rw [hz]; exact hb.size) _⟩

theorem grown_keeps1 {w w' : World} {b : Nat} (h : w.grownBy w' (some b)) : Keeps w w' b (b + 1) :=
  ⟨h.os, h.tape, h.output, h.size, fun k hk hd => h.block k hk (fun e => by simp only [Option.some.injEq] at e; omega)⟩

theorem take_one {l : List Int} {i : Nat} (h : i < l.length) : l.take (i + 1) = l.take i ++ [lf l i] := by
  rw [List.take_succ_eq_append_getElem h, lf_at h]

/-- A collection of a right arena, told plainly. -/
def RetCol7 (W : World) (m : Nat) (ac : Int) (f : Nat → Int) (L : List Ob) (R : List Int) (g : Nat → Int) (e : Ending) (w' : World) : Prop :=
  ∃ (a2 : Option Addr) (c2 : Nat) (qa : Option Addr) (qc mid : Nat), e = .returned (.agg #[.int .i64 0, .int .i64 (m : Int), .slice a2 (2 * m) c2, .int .i64 (1 - ac), .int .i64 (totO (objsO L (reachO f L R)) : Int), .slice qa R.length qc, .int .i64 (totO (objsO L (reachO f L R)) : Int)]) ∧ OwnIn w' W.heap.size mid a2 (2 * m) g ∧ OwnIn w' mid w'.heap.size qa R.length (lf (R.map (goes (reachO f L R) (newPlaces (baseI (1 - ac) (m : Int)).toNat (objsO L (reachO f L R)))))) ∧ W.heap.size ≤ mid ∧ mid ≤ w'.heap.size ∧ Below W.heap.size W w'

theorem implCol7 (m : Nat) (ac bu : Int) (a : Option Addr) (c : Nat) (f : Nat → Int) (ra : Option Addr) (R : List Int) (rc : Nat) (L : List Ob) (g : Nat → Int) (w : World) (hs : Src w a (2 * m) f) (hcn : 2 * m ≤ c) (hcm : c ≤ maxLen) (hrs : Src w ra R.length (lf R)) (h1 : IsSF (m : Int) (2 * m) f ac bu 0) (h2 : IsOI (m : Int) (2 * m) f ac bu 0 L) (h60 : R.length ≤ 60) (hall : ∀ p ∈ R, p ∈ placesO L) (hg : IsCol f L (reachO f L R) (baseI (1 - ac) (m : Int)).toNat g) :
    Calls Tryz.prog 21 #[.agg #[.int .i64 (m : Int), .slice a (2 * m) c, .int .i64 ac, .int .i64 bu], .slice ra R.length rc] w (RetCol7 w m ac f L R g) := by
  refine (implCol_any (m : Int) ac bu a (2 * m) c f ra R rc 0 L _ w hs hcn hcm hrs (.inr (.inr (.inr ⟨h1, h2, h60, hall, rfl⟩))) (.inr ⟨rfl, g, hg, rfl⟩)).mono ?_
  rintro e w3 ⟨a2, c2, qa, qc, mid, rfl, hw, hq, hm1, hm2, hb, _⟩
  simp only [List.length_map] at hq ⊢
  exact ⟨a2, c2, qa, qc, mid, rfl, hw, hq, hm1, hm2, hb⟩

theorem cells_one {w : World} {z b o : Nat} {u x : Value} (hb : ¬ b = z) (h : w.cell? ⟨z, 1, none⟩ = some u) : (w.setCell ⟨b, o, none⟩ x).cell? ⟨z, 1, none⟩ = some u := by
  rw [World.cell?_setCell_other _ _ _ _ (fun e => hb (congrArg Addr.block e))]; exact h

theorem w8_belowA {W w4 ws : World} (hb : Below W.heap.size W w4) (hk : Keeps w4 ws W.heap.size (W.heap.size + 2)) (o : Obj) : Below W.heap.size W (ws.alloc o) := by
  have h := hb.trans (hk.below (Nat.le_refl _) hb.size)
  exact h.alloc h.size o

set_option maxRecDepth 100000 in
set_option maxHeartbeats 12800000 in
theorem implCH_any (h ac bu : Int) (a : Option Addr) (n c : Nat) (f : Nat → Int) (ta : Option Addr) (N tc : Nat) (T : Nat → TN) (r : HRes) (w : World) (hs : Src w a n f) (hcn : n ≤ c) (hcm : c ≤ maxLen) (ht : TV w ta N T) (hN : N ≤ maxLen) (hn : ∀ i, i < N → (T i).n ≤ maxLen)
    (hr : ∀ i, i < N → ∀ j, j < (T i).n → -9223372036854775808 ≤ ((T i).S j).nd ∧ ((T i).S j).nd ≤ 9223372036854775807) (hk : IsCH h n f ac bu N T r) :
    Calls Tryz.prog 7 #[.agg #[.int .i64 h, .slice a n c, .int .i64 ac, .int .i64 bu, .slice ta N tc]] w (RetHpI w r) := by
  have S0 := Lib.hid hs; have T0 := Lib.hid ht; have HN := Lib.hid hn; have HR := Lib.hid hr; have HCM := Lib.hid hcm
  have B_0 := Lib.hid ((Blk.new_at (w := w) (cs := #[.int .i64 h, .slice a n c, .int .i64 ac, .int .i64 bu, .slice ta N tc]) (t := 32) w.heap.size rfl).alloc (.cells #[.int .i64 0, .int .i64 0, .slice none 0 0, .int .i64 0, .int .i64 0, .slice none 0 0, .slice none 0 0, .slice none 0 0] 35))
  have R_0 := Lib.hid (Blk.new_at (w := w.alloc (.cells #[.int .i64 h, .slice a n c, .int .i64 ac, .int .i64 bu, .slice ta N tc] 32)) (cs := #[.int .i64 0, .int .i64 0, .slice none 0 0, .int .i64 0, .int .i64 0, .slice none 0 0, .slice none 0 0, .slice none 0 0]) (t := 35) (w.heap.size + 1) (by simp))
  have HB0 : Hid (Below w.heap.size w ((w.alloc (.cells #[.int .i64 h, .slice a n c, .int .i64 ac, .int .i64 bu, .slice ta N tc] 32)).alloc (.cells #[.int .i64 0, .int .i64 0, .slice none 0 0, .int .i64 0, .int .i64 0, .slice none 0 0, .slice none 0 0, .slice none 0 0] 35))) := ((Below.refl _ _).alloc (Nat.le_refl _) _).alloc (by simp) _
  have z0 : w.heap.size + 2 ≤ ((w.alloc (.cells #[.int .i64 h, .slice a n c, .int .i64 ac, .int .i64 bu, .slice ta N tc] 32)).alloc (.cells #[.int .i64 0, .int .i64 0, .slice none 0 0, .int .i64 0, .int .i64 0, .slice none 0 0, .slice none 0 0, .slice none 0 0] 35)).heap.size := by simp
  have b0 := B_0.out.at 0 rfl; have b1 := B_0.out.at 1 rfl; have b2 := B_0.out.at 2 rfl; have b3 := B_0.out.at 3 rfl; have b4 := B_0.out.at 4 rfl; have lB := B_0.out.1
  obtain ⟨k, K, U0, hrh, hkk⟩ : ∃ k K U0, IsRh h n f ac bu N T k K U0 ∧ k = r.co := by
    rcases hk with ⟨h0, h1, h2⟩ | ⟨h1, L, g, h2, h3, h4, _, h5⟩
    · exact ⟨_, 0, fun _ => 0, .inl ⟨h0, h1, rfl⟩, rfl⟩
    · exact ⟨0, _, _, .inr ⟨rfl, h1, ⟨L, h2, h3, h4⟩, rfl, rfl⟩, by rw [h5]⟩
  have HRH := Lib.hid hrh; have HKK := Lib.hid hkk
  clear hs ht hn hr hcm hrh hkk
  go_enter Tryz.func7, Tryz.ntmps7
  go_wp2_with fail
  generalize ((w.alloc (.cells #[.int .i64 h, .slice a n c, .int .i64 ac, .int .i64 bu, .slice ta N tc] 32)).alloc (.cells #[.int .i64 0, .int .i64 0, .slice none 0 0, .int .i64 0, .int .i64 0, .slice none 0 0, .slice none 0 0, .slice none 0 0] 35)) = w0 at *
  refine (implRh_any h ac bu a n c f ta N tc T k K U0 _ (S0.out.below HB0.out) hcn HCM.out (T0.out.below HB0.out) hN HN.out HR.out HRH.out).mono ?_
  rintro e w1 ⟨ra, rc, rfl, hro, hb⟩
  have HB1 := Lib.hid (thru0 HB0.out hb); have B_1 := Lib.hid (B_0.out.below hb); have R_1 := Lib.hid (R_0.out.below hb)
  have RO1 := Lib.hid hro.into
  have z1 := hb.size
  clear hb hro b0 b1 b2 b3 b4 lB B_0 R_0 HB0
  have hkk := HKK.out
  have A_1 := Lib.hid (Blk.new_at (w := w1) (cs := #[.int .i64 k, .slice ra K rc]) (t := 52) w1.heap.size rfl)
  have a0 := A_1.out.at 0 rfl; have a1 := A_1.out.at 1 rfl; have lA := A_1.out.1
  rcases hk with ⟨h0, -, hre⟩ | ⟨-, L, g, h1, h2, h3, hcol, rfl⟩
  · rw [← hkk] at h0 hre
    have hq : (k != 0) = true := by simp [h0]
    have c0 := R_1.out.at 0 rfl; have c1 := R_1.out.at 1 rfl; have c2 := R_1.out.at 2 rfl; have c3 := R_1.out.at 3 rfl; have c4 := R_1.out.at 4 rfl; have c5 := R_1.out.at 5 rfl; have c6 := R_1.out.at 6 rfl; have c7 := R_1.out.at 7 rfl
    have f0 := R_1.out.free 0 rfl; have f1 := R_1.out.free 1 rfl; have f2 := R_1.out.free 2 rfl; have f3 := R_1.out.free 3 rfl; have f4 := R_1.out.free 4 rfl; have f5 := R_1.out.free 5 rfl; have f6 := R_1.out.free 6 rfl; have f7 := R_1.out.free 7 rfl; have lR := R_1.out.1
    have HRE := Lib.hid hre
    clear h0 hkk hre
    go_wp2
    have R_6 := (w8_blk R_1.out (.int .i64 k) (.int .i64 0) (.slice none 0 0) (.int .i64 0) (.int .i64 0) (.slice none 0 0) (.slice none 0 0) (.slice none 0 0)).alloc (.cells #[.int .i64 k, .slice ra K rc] 52)
    have K_6 := w8_keeps w1 (w.heap.size + 1) (.int .i64 k) (.int .i64 0) (.slice none 0 0) (.int .i64 0) (.int .i64 0) (.slice none 0 0) (.slice none 0 0) (.slice none 0 0)
    clear c0 c1 c2 c3 c4 c5 c6 c7 f0 f1 f2 f3 f4 f5 f6 f7
    change bodyPost _ _ _ _ _ (World.alloc (w8 w1 (w.heap.size + 1) (.int .i64 k) (.int .i64 0) (.slice none 0 0) (.int .i64 0) (.int .i64 0) (.slice none 0 0) (.slice none 0 0) (.slice none 0 0)) (.cells #[.int .i64 k, .slice ra K rc] 52))
    generalize w8 w1 (w.heap.size + 1) (.int .i64 k) (.int .i64 0) (.slice none 0 0) (.int .i64 0) (.int .i64 0) (.slice none 0 0) (.slice none 0 0) (.slice none 0 0) = ws at *
    have e0 := R_6.at 0 rfl; have e1 := R_6.at 1 rfl; have e2 := R_6.at 2 rfl; have e3 := R_6.at 3 rfl; have e4 := R_6.at 4 rfl; have e5 := R_6.at 5 rfl; have e6 := R_6.at 6 rfl; have e7 := R_6.at 7 rfl
    refine bodyPost_ret (v := .agg #[.int .i64 k, .int .i64 0, .slice none 0 0, .int .i64 0, .int .i64 0, .slice none 0 0, .slice none 0 0, .slice none 0 0]) (by simp [results, Tryz.results7, go_sem, e0, e1, e2, e3, e4, e5, e6, e7]) rfl ?_
    rw [HRE.out]
    have hbz := w8_belowA HB1.out (K_6.widen (by omega) (by omega)) (.cells #[.int .i64 k, .slice ra K rc] 52)
    exact ⟨none, 0, none, 0, none, 0, w.heap.size, w.heap.size, fun _ => tz, rfl, .inl rfl, .inl rfl, .inl rfl, Nat.le_refl _, Nat.le_refl _, hbz.size, fun i hi => absurd hi (Nat.not_lt_zero _), hbz⟩
  · have hkk0 : k = 0 := hkk
    subst hkk0
    obtain ⟨rfl, rfl⟩ : K = (rootsH T N).length ∧ U0 = lf (rootsH T N) := by
      rcases HRH.out with ⟨h0, _⟩ | ⟨_, _, _, h4, h5⟩
      · exact absurd rfl h0
      · exact ⟨h4, h5⟩
    have HOK := Lib.hid (hpOk_of h3)
    have hN4 := HOK.out.n
    obtain ⟨⟨⟨g1, g2⟩, _⟩, gn, _⟩ := isFault_ok (isOI_zero h2).1
    obtain ⟨m, rfl⟩ : ∃ m : Nat, h = (m : Int) := ⟨h.toNat, by omega⟩
    obtain rfl : n = 2 * m := by omega
    have HSF := Lib.hid h1; have HOI := Lib.hid h2; have HPF := Lib.hid h3; have HCOL := Lib.hid hcol
    have HALL : Hid (∀ p ∈ rootsH T N, p ∈ placesO L) := Lib.hid (rootsH_in (hpOk_of h3).t)
    have HRB : Hid (∀ p ∈ rootsH T N, -1000000000 ≤ p ∧ p ≤ 1000000000) := Lib.hid (fun p hp => by
      obtain ⟨x, hx1, rfl⟩ := List.mem_map.mp (rootsH_in (hpOk_of h3).t p hp)
      have := (objs_word h1 h2 x hx1).1
      omega)
    have HPL : Hid (∀ x ∈ L, 0 ≤ x.at_ ∧ x.at_ ≤ 1000000) := Lib.hid (fun x hx => (objs_word h1 h2 x hx).1)
    have hR32 : (rootsH T N).length ≤ 32 := by have := rootsH_len HOK.out.t; omega
    have HPH : Hid (∀ p, 0 ≤ phiH f L (baseI (1 - ac) (m : Int)).toNat (rootsH T N) p ∧ phiH f L (baseI (1 - ac) (m : Int)).toNat (rootsH T N) p ≤ 1000000) := Lib.hid (fun p => by
      have h4 := phi_bd (reachO f L (rootsH T N)) (baseI (1 - ac) (m : Int)).toNat (objsO L (reachO f L (rootsH T N))) p
      have h5 := tot_fits h1 h2 (rootsH_in (hpOk_of h3).t)
      have h6 := baseI_bd (ac := 1 - ac) g1
      obtain ⟨⟨⟨q1, q2⟩, ⟨q3, q4⟩, q5, q6⟩, qn, qw⟩ := isFault_ok (isOI_zero h2).1
      unfold phiH
      omega)
    have hm1 : m ≤ 200 := by omega
    have hm8 : 1 ≤ m := by omega
    clear h1 h2 h3 hcol hkk g1 g2 gn HKK HRH
    go_upto_region 4 with (fail)
    have B_2 := Lib.hid (B_1.out.alloc (.cells #[.int .i64 0, .slice ra (rootsH T N).length rc] 52)); have R_2 := Lib.hid (R_1.out.alloc (.cells #[.int .i64 0, .slice ra (rootsH T N).length rc] 52)); have RO2 := Lib.hid (RO1.out.alloc (.cells #[.int .i64 0, .slice ra (rootsH T N).length rc] 52))
    have HB2 := Lib.hid (HB1.out.alloc HB1.out.size (.cells #[.int .i64 0, .slice ra (rootsH T N).length rc] 52))
    have hz2 : (w1.alloc (.cells #[.int .i64 0, .slice ra (rootsH T N).length rc] 52)).heap.size = w1.heap.size + 1 := by simp
    clear a0 a1 lA B_1 R_1 RO1 HB1
    generalize w1.alloc (.cells #[.int .i64 0, .slice ra (rootsH T N).length rc] 52) = w2 at *
    generalize w1.heap.size = X1 at *
    have a1 := A_1.out.at 1 rfl; have lA := A_1.out.1
    have b0 := B_2.out.at 0 rfl; have b1 := B_2.out.at 1 rfl; have b2 := B_2.out.at 2 rfl; have b3 := B_2.out.at 3 rfl; have lB := B_2.out.1
    go_wp2_with fail
    refine (implCol7 m ac bu a c f ra (rootsH T N) rc L g _ (S0.out.below HB2.out) hcn HCM.out RO2.out.src HSF.out HOI.out (by omega) HALL.out HCOL.out).mono ?_
    rintro e w3 ⟨a2, c2X, qa, qc, mid, rfl, hw, hq, hmd1, hmd2, hb⟩
    have HB3 := Lib.hid (thru0 HB2.out hb); have B_3 := Lib.hid (B_2.out.below hb); have R_3 := Lib.hid (R_2.out.below hb); have A_3 := Lib.hid (A_1.out.below hb); have RO3 := Lib.hid (RO2.out.below hb)
    have HW3 := Lib.hid hw; have HQ3 := Lib.hid hq
    have z3 := hb.size
    clear hb hw hq a1 lA b0 b1 b2 b3 lB B_2 R_2 A_1 RO2 HB2
    obtain ⟨φ, hφ⟩ : ∃ φ, phiH f L (baseI (1 - ac) (m : Int)).toNat (rootsH T N) = φ := ⟨_, rfl⟩
    have HF := Lib.hid hφ
    have HQ3' : Hid (OwnIn w3 mid w3.heap.size qa (rootsH T N).length (lf ((rootsH T N).map φ))) := Lib.hid (by rw [← hφ]; exact HQ3.out)
    rw [hφ] at HPH
    obtain ⟨mv, hmv⟩ : ∃ mv, (totO (objsO L (reachO f L (rootsH T N))) : Int) = mv := ⟨_, rfl⟩
    rw [hmv]
    have HMV := Lib.hid hmv
    clear hφ HQ3 hmv
    have C_4 := Lib.hid (Blk.new_at (w := w3) (cs := #[.int .i64 0, .int .i64 (m : Int), .slice a2 (2 * m) c2X, .int .i64 (1 - ac), .int .i64 mv, .slice qa (rootsH T N).length qc, .int .i64 mv]) (t := 55) w3.heap.size rfl)
    have HBA : Hid (Below w3.heap.size w3 ((w3.alloc (.cells #[.int .i64 0, .int .i64 (m : Int), .slice a2 (2 * m) c2X, .int .i64 (1 - ac), .int .i64 mv, .slice qa (rootsH T N).length qc, .int .i64 mv] 55)).alloc (.map #[] 0))) := Lib.hid (((Below.refl w3.heap.size w3).alloc (Nat.le_refl _) _).alloc (by simp) _)
    have C_5 := Lib.hid (C_4.out.alloc (.map #[] 0))
    have MG5 := Lib.hid (MapG.made (w3.alloc (.cells #[.int .i64 0, .int .i64 (m : Int), .slice a2 (2 * m) c2X, .int .i64 (1 - ac), .int .i64 mv, .slice qa (rootsH T N).length qc, .int .i64 mv] 55)) φ)
    have hz5 : ((w3.alloc (.cells #[.int .i64 0, .int .i64 (m : Int), .slice a2 (2 * m) c2X, .int .i64 (1 - ac), .int .i64 mv, .slice qa (rootsH T N).length qc, .int .i64 mv] 55)).alloc (.map #[] 0)).heap.size = w3.heap.size + 2 := by simp
    have hz4 : (w3.alloc (.cells #[.int .i64 0, .int .i64 (m : Int), .slice a2 (2 * m) c2X, .int .i64 (1 - ac), .int .i64 mv, .slice qa (rootsH T N).length qc, .int .i64 mv] 55)).heap.size = w3.heap.size + 1 := by simp
    rw [hz4] at MG5
    have HB5 := Lib.hid (thru0 HB3.out HBA.out); have B_5 := Lib.hid (B_3.out.below HBA.out); have R_5 := Lib.hid (R_3.out.below HBA.out); have A_5 := Lib.hid (A_3.out.below HBA.out); have RO5 := Lib.hid (RO3.out.below HBA.out); have HW5 := Lib.hid (HW3.out.below HBA.out); have HQ5 := Lib.hid (HQ3'.out.below HBA.out)
    have a1 := A_3.out.at 1 rfl; have lA := A_3.out.1
    have hmk := @run_makeMap Tryz.prog
    clear hz4 C_4
    go_wp2
    clear hmk a1 lA HB3 B_3 R_3 A_3 RO3 HW3 HQ3' HBA
    generalize (w3.alloc (.cells #[.int .i64 0, .int .i64 (m : Int), .slice a2 (2 * m) c2X, .int .i64 (1 - ac), .int .i64 mv, .slice qa (rootsH T N).length qc, .int .i64 mv] 55)).alloc (.map #[] 0) = w5 at *
    generalize w3.heap.size = X3 at *
    go_loopw [30] (fun p wr => ∃ i : Nat, i ≤ (rootsH T N).length ∧ p = .int .i64 (i : Int) ∧ Hid (Keeps w5 wr (X3 + 1) (X3 + 2)) ∧ Hid (MapG wr (X3 + 1) i φ ((rootsH T N).take i))) (fun p _ => (rootsH T N).length - (intOf p).toNat)
    case atStart => exact ⟨0, Nat.zero_le _, rfl, Keeps.refl _ _ _, MG5⟩
    case round =>
      clear MG5
      obtain ⟨i, hi, rfl, HK_r, MG_r⟩ := hrel
      have hzr := HK_r.out.size
      by_cases hlt : i < (rootsH T N).length
      · have hlt' : (i : Int) < ((rootsH T N).length : Int) := by omega
        have hi0 : (0 : Int) ≤ (i : Int) := by omega
        have RO_r := Lib.hid (RO5.out.keeps HK_r.out (.inl (by omega)))
        have HQ_r := Lib.hid (HQ5.out.keeps HK_r.out (.inl (by omega)))
        have C_r := Lib.hid (C_5.out.keeps HK_r.out (.inl (by omega)))
        obtain ⟨rb, ro, rfl, hrb, r0⟩ := src_get RO_r.out.src hlt
        obtain ⟨qb, qo, rfl, hqb, q0⟩ := src_get HQ_r.out.src hlt
        rw [lf_map hlt] at q0
        have hp1 := HRB.out _ (lf_mem hlt)
        have hp2 := HPH.out (lf (rootsH T N) i)
        obtain ⟨w6, hrun, hmg, hgr⟩ := MG_r.out.update (p := lf (rootsH T N) i) (by unfold maxLen; omega) hp1 (by omega)
        have MG6 : Hid (MapG w6 (X3 + 1) (i + 1) φ ((rootsH T N).take (i + 1))) := Lib.hid (by rw [take_one hlt]; exact hmg)
        have HK6 := Lib.hid (HK_r.out.trans (grown_keeps1 hgr))
        have c5 := C_r.out.at 5 rfl; have lC := C_r.out.1
        clear hp1 hp2 hmg hgr
        generalize φ (lf (rootsH T N) i) = y at *
        generalize lf (rootsH T N) i = x at *
        go_wp2
        go_roundw
        case rel => first | exact ⟨i + 1, by omega, by go_num, HK6, MG6⟩ | ((repeat apply Exists.intro); exact ⟨⟨i + 1, by omega, by go_num, HK6, MG6⟩, rfl⟩)
        case measure => simp [intOf]; omega
      · have hlt' : ¬ (i : Int) < ((rootsH T N).length : Int) := by omega
        have hie : i = (rootsH T N).length := by omega
        have MGf : Hid (MapG wr (X3 + 1) i φ (rootsH T N)) := Lib.hid (by have := MG_r.out; rw [hie, List.take_length] at this; rw [hie]; exact this)
        have HBr := Lib.hid (HB5.out.trans (HK_r.out.below (B := w.heap.size) (by omega) HB5.out.size))
        have B_6 := Lib.hid (B_5.out.keeps HK_r.out (.inl (by omega))); have R_6 := Lib.hid (R_5.out.keeps HK_r.out (.inl (by omega))); have C_6 := Lib.hid (C_5.out.keeps HK_r.out (.inl (by omega))); have HW_6 := Lib.hid (HW5.out.keeps HK_r.out (.inl (by omega)))
        have b0 := B_6.out.at 0 rfl; have b1 := B_6.out.at 1 rfl; have b2 := B_6.out.at 2 rfl; have b3 := B_6.out.at 3 rfl; have b4 := B_6.out.at 4 rfl; have lB := B_6.out.1
        clear MG_r B_5 R_5 C_5 HW5 HQ5 RO5 A_5 HB5 hie
        go_wp2_with fail
        refine (copiedHeap_any (m : Int) ac bu a (2 * m) c f ta N tc T _ (S0.out.below HBr.out) (by omega) (by omega) (T0.out.below HBr.out) hN4.1 hN4.2 (fun j hj => (HOK.out.t j hj).n)).mono ?_
        rintro e w6 ⟨u1, uc, tu, tuc, lo, U, rfl, -, hto, hlo1, hlo2, hsm, hb, -, -⟩
        obtain ⟨tb, tq, rfl, ht2⟩ : ∃ b q, tu = some ⟨b, q, none⟩ ∧ TOwn w6 lo w6.heap.size b q N U := by
          rcases hto with h0 | h0
          · omega
          · exact h0
        have HB6 := Lib.hid (thru0 HBr.out hb); have R_7 := Lib.hid (R_6.out.below hb); have C_7 := Lib.hid (C_6.out.below hb); have HW_7 := Lib.hid (HW_6.out.below hb); have MG7 := Lib.hid (MGf.out.below hb); have TO7 := Lib.hid ht2; have HSM := Lib.hid hsm
        have HP2 : Hid (hpF f L (m : Int) N U = 0) := Lib.hid (by rw [← HPF.out]; unfold hpF; rw [tnsF_same hsm, quF_same hsm, sumF_same hsm])
        have hrt : rootsH U N = rootsH T N := rootsH_same hsm
        have HRT := Lib.hid hrt
        have z6 := hb.size
        have D_7 := Lib.hid (Blk.new_at (w := w6) (cs := #[.int .i64 (m : Int), .slice u1 (2 * m) uc, .int .i64 ac, .int .i64 bu, .slice (some ⟨tb, tq, none⟩) N tuc]) (t := 32) w6.heap.size rfl)
        have HBd := Lib.hid ((Below.refl w6.heap.size w6).alloc (Nat.le_refl _) (.cells #[.int .i64 (m : Int), .slice u1 (2 * m) uc, .int .i64 ac, .int .i64 bu, .slice (some ⟨tb, tq, none⟩) N tuc] 32))
        clear hb hto ht2 hsm hrt b0 b1 b2 b3 b4 lB B_6 R_6 C_6 HW_6 MGf HBr
        have HB7 := Lib.hid (thru0 HB6.out HBd.out); have R_8 := Lib.hid (R_7.out.below HBd.out); have C_8 := Lib.hid (C_7.out.below HBd.out); have HW_8 := Lib.hid (HW_7.out.below HBd.out); have MG8 := Lib.hid (MG7.out.below HBd.out); have TO8 := Lib.hid (TO7.out.below HBd.out)
        have hz8 : (w6.alloc (.cells #[.int .i64 (m : Int), .slice u1 (2 * m) uc, .int .i64 ac, .int .i64 bu, .slice (some ⟨tb, tq, none⟩) N tuc] 32)).heap.size = w6.heap.size + 1 := by simp
        go_upto_region 12 with (fail)
        clear HB6 R_7 C_7 HW_7 MG7 TO7 HBd
        generalize w6.alloc (.cells #[.int .i64 (m : Int), .slice u1 (2 * m) uc, .int .i64 ac, .int .i64 bu, .slice (some ⟨tb, tq, none⟩) N tuc] 32) = w7 at *
        generalize w6.heap.size = X6 at *
        have hX3 : X3 + 2 ≤ lo := by omega
        have hmc : mid ≤ lo := by omega
        have hw2 : w.heap.size + 2 ≤ w2.heap.size := by omega
        have hwm : w2.heap.size ≤ lo := by omega
        have c1' := C_8.out.at 1 rfl; have c2' := C_8.out.at 2 rfl; have c3' := C_8.out.at 3 rfl; have c4' := C_8.out.at 4 rfl; have lC := C_8.out.1
        have d0 := D_7.out.at 0 rfl; have d1 := D_7.out.at 1 rfl; have d2 := D_7.out.at 2 rfl; have d3 := D_7.out.at 3 rfl; have d4 := D_7.out.at 4 rfl; have lD := D_7.out.1
        have f0 := D_7.out.free 0 rfl; have f1 := D_7.out.free 1 rfl; have f2 := D_7.out.free 2 rfl; have f3 := D_7.out.free 3 rfl
        have D_9 : Hid (Blk ((((w7.setCell ⟨X6, 0, none⟩ (.int .i64 (m : Int))).setCell ⟨X6, 1, none⟩ (.slice a2 (2 * m) c2X)).setCell ⟨X6, 2, none⟩ (.int .i64 (1 - ac))).setCell ⟨X6, 3, none⟩ (.int .i64 mv)) X6 [.int .i64 (m : Int), .slice a2 (2 * m) c2X, .int .i64 (1 - ac), .int .i64 mv, .slice (some ⟨tb, tq, none⟩) N tuc]) := Lib.hid ((((D_7.out.set 0 (by simp) _).set 1 (by simp) _).set 2 (by simp) _).set 3 (by simp) _)
        have K79 : Hid (Keeps w7 ((((w7.setCell ⟨X6, 0, none⟩ (.int .i64 (m : Int))).setCell ⟨X6, 1, none⟩ (.slice a2 (2 * m) c2X)).setCell ⟨X6, 2, none⟩ (.int .i64 (1 - ac))).setCell ⟨X6, 3, none⟩ (.int .i64 mv)) X6 (X6 + 1)) := Lib.hid ((((keeps_setCell (Nat.le_refl X6) (Nat.lt_succ_self X6) _).trans (keeps_setCell (Nat.le_refl X6) (Nat.lt_succ_self X6) _)).trans (keeps_setCell (Nat.le_refl X6) (Nat.lt_succ_self X6) _)).trans (keeps_setCell (Nat.le_refl X6) (Nat.lt_succ_self X6) _))
        have hz9 : ((((w7.setCell ⟨X6, 0, none⟩ (.int .i64 (m : Int))).setCell ⟨X6, 1, none⟩ (.slice a2 (2 * m) c2X)).setCell ⟨X6, 2, none⟩ (.int .i64 (1 - ac))).setCell ⟨X6, 3, none⟩ (.int .i64 mv)).heap.size = X6 + 1 := by simp [hz8]
        have R_9 := Lib.hid (R_8.out.keeps K79.out (.inl (by omega))); have C_9 := Lib.hid (C_8.out.keeps K79.out (.inl (by omega))); have HW_9 := Lib.hid (HW_8.out.keeps K79.out (.inl (by omega))); have MG_9 := Lib.hid (MG8.out.keeps K79.out (.inl (by omega))); have TO_9 := Lib.hid (TO8.out.keeps K79.out (.inl (Nat.le_refl _)))
        have HB9 := Lib.hid (HB7.out.trans (K79.out.below (B := w.heap.size) (by omega) HB7.out.size))
        have TO_9' : Hid (TOwn ((((w7.setCell ⟨X6, 0, none⟩ (.int .i64 (m : Int))).setCell ⟨X6, 1, none⟩ (.slice a2 (2 * m) c2X)).setCell ⟨X6, 2, none⟩ (.int .i64 (1 - ac))).setCell ⟨X6, 3, none⟩ (.int .i64 mv)) lo X6 tb tq N (clN φ U 0 0)) := Lib.hid (by rw [clN_zero]; exact TO_9.out)
        clear HB7 R_8 C_8 HW_8 MG8 TO8 TO_9 K79 D_7 hzr HK_r
        go_wp2
        clear c1' c2' c3' c4' lC d0 d1 d2 d3 d4 lD f0 f1 f2 f3
        generalize ((((w7.setCell ⟨X6, 0, none⟩ (.int .i64 (m : Int))).setCell ⟨X6, 1, none⟩ (.slice a2 (2 * m) c2X)).setCell ⟨X6, 2, none⟩ (.int .i64 (1 - ac))).setCell ⟨X6, 3, none⟩ (.int .i64 mv)) = w9 at *
        go_loopw [51] (fun p wr => ∃ j : Nat, j ≤ N ∧ p = .int .i64 (j : Int) ∧ Hid (Keeps w9 wr lo X6) ∧ Hid (TOwn wr lo X6 tb tq N (clN φ U j 0))) (fun p _ => N - (intOf p).toNat)
        case atStart => exact ⟨0, Nat.zero_le _, rfl, Keeps.refl _ _ _, TO_9'⟩
        case round =>
          clear TO_9'
          obtain ⟨j, hj, rfl, HK_r, TO_r⟩ := hrel
          have hzr := HK_r.out.size
          by_cases hltj : j < N
          · have hlt' : (j : Int) < (N : Int) := by omega
            have hi0 : (0 : Int) ≤ (j : Int) := by omega
            have HOKU := Lib.hid ((hpOk_of HP2.out).t j hltj)
            have hn8 : 1 ≤ (U j).n ∧ (U j).n ≤ 8 := HOKU.out.n
            have HND : Hid (∀ k, k < (U j).n → ((U j).S k).nd = 0 ∨ (1 ≤ ((U j).S k).nd ∧ ((U j).S k).nd ≤ 1000001 ∧ ((U j).S k).nd - 1 ∈ rootsH T N)) := Lib.hid (fun k hk => by
              by_cases h0 : ((U j).S k).nd = 0
              · exact .inl h0
              · rcases tnok_nd HOKU.out HPL.out k hk with h1 | ⟨h1, h2⟩
                · exact absurd h1 h0
                · exact .inr ⟨h1, h2, by rw [← HRT.out]; exact rootsH_mem hltj hk h0⟩)
            obtain ⟨e1, e2, e3, e4⟩ := clN_at φ U j 0
            obtain ⟨g0, g1, g2⟩ := TO_r.out.thr j hltj
            rw [e1, e3, e4] at g2
            obtain ⟨pb, pq, ea, -⟩ := town_slot TO_r.out hltj (k := 0) (by omega)
            rw [e3] at ea
            rw [ea] at g2
            have EA := Lib.hid ea
            have lt := TO_r.out.lt
            obtain ⟨tqq, hqq⟩ : ∃ x, (clN φ U j 0 j).q = x := ⟨_, rfl⟩
            obtain ⟨thh, hhh⟩ : ∃ x, (clN φ U j 0 j).h = x := ⟨_, rfl⟩
            rw [hqq] at g0; rw [hhh] at g1
            have N_1 := Lib.hid (Blk.new_at (w := wr) (cs := #[.int .i64 tqq, .int .i64 thh, .slice (some ⟨pb, pq, none⟩) (U j).n (U j).c]) (t := 61) wr.heap.size rfl)
            have HKx := Lib.hid (HK_r.out.alloc (.cells #[.int .i64 tqq, .int .i64 thh, .slice (some ⟨pb, pq, none⟩) (U j).n (U j).c] 61))
            have TOx := Lib.hid (TO_r.out.alloc (.cells #[.int .i64 tqq, .int .i64 thh, .slice (some ⟨pb, pq, none⟩) (U j).n (U j).c] 61))
            clear e1 e2 e3 e4 ea hqq hhh
            go_wp2
            clear g0 g1 g2 lt TO_r HK_r
            generalize (wr.alloc (.cells #[.int .i64 tqq, .int .i64 thh, .slice (some ⟨pb, pq, none⟩) (U j).n (U j).c] 61)) = wx at *
            generalize wr.heap.size = X at *
            have MGx := Lib.hid (MG_9.out.keeps HKx.out (.inl (by omega)))
            go_loopw [58] (fun p wr => ∃ k : Nat, k ≤ (U j).n ∧ p = .int .i64 (k : Int) ∧ Hid (Keeps wx wr lo X6) ∧ Hid (TOwn wr lo X6 tb tq N (clN φ U j k))) (fun p _ => (U j).n - (intOf p).toNat)
            case atStart => exact ⟨0, Nat.zero_le _, rfl, Keeps.refl _ _ _, TOx⟩
            case round =>
              clear TOx
              obtain ⟨k, hk, rfl, HK_q, TO_q⟩ := hrel
              have hzq := HK_q.out.size
              have hXx : X < wx.heap.size := N_1.out.1
              by_cases hkt : k < (U j).n
              · have hkt' : (k : Int) < ((U j).n : Int) := by omega
                have hk0 : (0 : Int) ≤ (k : Int) := by omega
                obtain ⟨e1, e2, e3, e4⟩ := clN_at φ U j k
                obtain ⟨pb', pq', ea2, lt, hp1, hp2, hp3, tw, -, -⟩ := town_slot TO_q.out hltj (k := k) (by omega)
                rw [e3, EA.out] at ea2
                simp only [Option.some.injEq, Addr.mk.injEq] at ea2
                obtain ⟨rfl, rfl, -⟩ := ea2
                rw [e2] at tw
                obtain ⟨s, hs⟩ : ∃ s, (U j).S k = s := ⟨_, rfl⟩
                have HVS := HND.out k hkt
                rw [hs] at tw HVS
                have HS := Lib.hid hs
                have HVS' := Lib.hid HVS
                obtain ⟨x0, x1⟩ := tw
                obtain ⟨y, hy⟩ : ∃ y, (clS φ s).nd = y := ⟨_, rfl⟩
                have HY := Lib.hid hy
                have N_q := Lib.hid (N_1.out.keeps HK_q.out (.inr (by omega)))
                have HBd := Lib.hid (((Below.refl wr.heap.size wr).alloc (Nat.le_refl _) (.cells #[.int .i64 s.g, .int .i64 s.nd] 63)).drew)
                have MGd := Lib.hid ((MGx.out.keeps HK_q.out (.inl (by omega))).below HBd.out)
                have S_1 := Lib.hid ((Blk.new_at (w := wr) (cs := #[.int .i64 s.g, .int .i64 s.nd]) (t := 63) wr.heap.size rfl).drew)
                have K7 : Hid (((wr.alloc (.cells #[.int .i64 s.g, .int .i64 s.nd] 63)).drew).cell? ⟨X, 2, none⟩ = some (.slice (some ⟨pb, pq, none⟩) (U j).n (U j).c) ∧ ((wr.alloc (.cells #[.int .i64 s.g, .int .i64 s.nd] 63)).drew).cell? ⟨wr.heap.size, 1, none⟩ = some (.int .i64 s.nd)) := Lib.hid ⟨(N_q.out.below HBd.out).at 2 rfl, S_1.out.at 1 rfl⟩
                have HUP : Hid (∀ w', TOwn w' lo X6 tb tq N (clN φ U j k) → TwoG w' pb (pq + k * 2) s ∧ TwoF w' pb (pq + k * 2) ∧ pb < w'.heap.size ∧ TOwn (w'.setCell ⟨pb, pq + k * 2 + 1, none⟩ (.int .i64 y)) lo X6 tb tq N (clN φ U j (k + 1))) := Lib.hid (fun w' h => by
                  obtain ⟨pb2, pq2, ea3, lt3, _, _, _, tw3, fr3, upd3⟩ := town_slot h hltj (k := k) (by rw [e1]; exact hkt)
                  rw [e3, EA.out] at ea3
                  simp only [Option.some.injEq, Addr.mk.injEq] at ea3
                  obtain ⟨rfl, rfl, -⟩ := ea3
                  rw [e2, HS.out] at tw3
                  have h9 := upd3 y
                  rw [← HY.out, ← HS.out, clN_step] at h9
                  refine ⟨tw3, fr3, lt3, ?_⟩
                  rw [← HY.out, ← HS.out]; exact h9)
                clear e1 e2 e3 e4 hs hy HVS
                go_wp2_with fail
                go_region_held3 (fun w' => w'.cell? ⟨X, 2, none⟩ = some (.slice (some ⟨pb, pq, none⟩) (U j).n (U j).c) ∧ w'.cell? ⟨wr.heap.size, 1, none⟩ = some (.int .i64 s.nd))
                  (first | exact K7.out | exact K9.out | exact ⟨cells_two2 (by omega) K9.out.1, cells_one (by omega) K9.out.2⟩ | go_keep)
                  (first | (go_at_call 23; refine (movedWord_any s (X3 + 1) i φ (rootsH T N) _ MGd.out HVS'.out HPH.out).mono ?_; rw [HY.out]; rintro e w8 ⟨rfl, hb⟩; have HB8 : Hid (Below wr.heap.size wr w8) := Lib.hid (HBd.out.trans (hb.mono HBd.out.size)); have K9 : Hid (w8.cell? ⟨X, 2, none⟩ = some (.slice (some ⟨pb, pq, none⟩) (U j).n (U j).c) ∧ w8.cell? ⟨wr.heap.size, 1, none⟩ = some (.int .i64 s.nd)) := Lib.hid ⟨(N_q.out.below HB8.out).at 2 rfl, (S_1.out.below hb).at 1 rfl⟩; obtain ⟨tw8, fr8, l8, to8⟩ := HUP.out _ (TO_q.out.below HB8.out); have x8 := tw8.2; have f8 := fr8.2; have TO8' := Lib.hid to8; clear hb tw8 fr8 to8))
                all_goals (
                  have HK8 : Hid (Keeps wx (w8.setCell ⟨pb, pq + k * 2 + 1, none⟩ (.int .i64 y)) lo X6) := Lib.hid ((HK_q.out.trans (keeps_of_below HB8.out lo X6)).trans (keeps_setCell (p := ⟨pb, pq + k * 2 + 1, none⟩) hp1 hp2 (.int .i64 y)))
                  clear K7 K9 HBd N_q S_1 MGd HUP x8 f8 x0 x1
                  go_wp2
                  go_roundw
                  (case rel => first | exact ⟨k + 1, by omega, by go_num, HK8, TO8'⟩ | ((repeat apply Exists.intro); exact ⟨⟨k + 1, by omega, by go_num, HK8, TO8'⟩, rfl⟩))
                  (case measure => simp [intOf]; omega))
              · have hkt' : ¬ (k : Int) < ((U j).n : Int) := by omega
                obtain rfl : k = (U j).n := by omega
                have HT2 : Hid (TOwn wr lo X6 tb tq N (clN φ U (j + 1) 0)) := Lib.hid (by rw [← clN_next]; exact TO_q.out)
                have HK2 := Lib.hid (HKx.out.trans HK_q.out)
                go_wp2
                go_roundw
                case rel => first | exact ⟨j + 1, by omega, by go_num, HK2, HT2⟩ | ((repeat apply Exists.intro); exact ⟨⟨j + 1, by omega, by go_num, HK2, HT2⟩, rfl⟩)
                case measure => simp [intOf]; omega
          · have hlt' : ¬ (j : Int) < (N : Int) := by omega
            obtain rfl : j = N := by omega
            have D_r := Lib.hid (D_9.out.keeps HK_r.out (.inr (Nat.le_refl _))); have C_r := Lib.hid (C_9.out.keeps HK_r.out (.inl (by omega))); have R_r := Lib.hid (R_9.out.keeps HK_r.out (.inl (by omega))); have HW_r := Lib.hid (HW_9.out.keeps HK_r.out (.inl (by omega)))
            have HBf := Lib.hid (HB9.out.trans (HK_r.out.below (B := w.heap.size) (by omega) HB9.out.size))
            have TOf : Hid (TVO wr lo X6 (some ⟨tb, tq, none⟩) j (fun i => clT φ (U i))) := Lib.hid (.inr ⟨tb, tq, rfl, TO_r.out.congr (clN_end φ U j)⟩)
            have HSS : Hid (∀ i, i < j → TnSame (clT (phiH f L (baseI (1 - ac) (m : Int)).toNat (rootsH T j)) (T i)) (clT φ (U i))) := Lib.hid (fun i hi => by rw [HF.out]; exact clT_same (HSM.out i hi))
            have c6' := C_r.out.at 6 rfl; have lC := C_r.out.1
            have d0 := D_r.out.at 0 rfl; have d1 := D_r.out.at 1 rfl; have d2 := D_r.out.at 2 rfl; have d3 := D_r.out.at 3 rfl; have d4 := D_r.out.at 4 rfl; have lD := D_r.out.1
            have c0 := R_r.out.at 0 rfl; have c1 := R_r.out.at 1 rfl; have c2 := R_r.out.at 2 rfl; have c3 := R_r.out.at 3 rfl; have c4 := R_r.out.at 4 rfl; have c5 := R_r.out.at 5 rfl; have c6 := R_r.out.at 6 rfl; have c7 := R_r.out.at 7 rfl
            have f0 := R_r.out.free 0 rfl; have f1 := R_r.out.free 1 rfl; have f2 := R_r.out.free 2 rfl; have f3 := R_r.out.free 3 rfl; have f4 := R_r.out.free 4 rfl; have f5 := R_r.out.free 5 rfl; have f6 := R_r.out.free 6 rfl; have f7 := R_r.out.free 7 rfl; have lR := R_r.out.1
            clear TO_r D_9 C_9 R_9 HW_9 MG_9 HB9
            go_wp2
            have R_6 := (w8_blk R_r.out (.int .i64 0) (.int .i64 (m : Int)) (.slice a2 (2 * m) c2X) (.int .i64 (1 - ac)) (.int .i64 mv) (.slice (some ⟨tb, tq, none⟩) j tuc) (.slice none 0 0) (.slice (some ⟨wr.heap.size, 0, none⟩) 1 1)).alloc (.cells #[.int .i64 mv] 2)
            have K_6 := w8_keeps wr (w.heap.size + 1) (.int .i64 0) (.int .i64 (m : Int)) (.slice a2 (2 * m) c2X) (.int .i64 (1 - ac)) (.int .i64 mv) (.slice (some ⟨tb, tq, none⟩) j tuc) (.slice none 0 0) (.slice (some ⟨wr.heap.size, 0, none⟩) 1 1)
            have Z_6 := w8_size wr (w.heap.size + 1) (.int .i64 0) (.int .i64 (m : Int)) (.slice a2 (2 * m) c2X) (.int .i64 (1 - ac)) (.int .i64 mv) (.slice (some ⟨tb, tq, none⟩) j tuc) (.slice none 0 0) (.slice (some ⟨wr.heap.size, 0, none⟩) 1 1)
            clear c0 c1 c2 c3 c4 c5 c6 c7 f0 f1 f2 f3 f4 f5 f6 f7 d0 d1 d2 d3 d4 c6'
            change bodyPost _ _ _ _ _ (World.alloc (w8 wr (w.heap.size + 1) (.int .i64 0) (.int .i64 (m : Int)) (.slice a2 (2 * m) c2X) (.int .i64 (1 - ac)) (.int .i64 mv) (.slice (some ⟨tb, tq, none⟩) j tuc) (.slice none 0 0) (.slice (some ⟨wr.heap.size, 0, none⟩) 1 1)) (.cells #[.int .i64 mv] 2))
            generalize w8 wr (w.heap.size + 1) (.int .i64 0) (.int .i64 (m : Int)) (.slice a2 (2 * m) c2X) (.int .i64 (1 - ac)) (.int .i64 mv) (.slice (some ⟨tb, tq, none⟩) j tuc) (.slice none 0 0) (.slice (some ⟨wr.heap.size, 0, none⟩) 1 1) = ws at *
            have e0 := R_6.at 0 rfl; have e1 := R_6.at 1 rfl; have e2 := R_6.at 2 rfl; have e3 := R_6.at 3 rfl; have e4 := R_6.at 4 rfl; have e5 := R_6.at 5 rfl; have e6 := R_6.at 6 rfl; have e7 := R_6.at 7 rfl
            refine bodyPost_ret (v := .agg #[.int .i64 0, .int .i64 (m : Int), .slice a2 (2 * m) c2X, .int .i64 (1 - ac), .int .i64 mv, .slice (some ⟨tb, tq, none⟩) j tuc, .slice none 0 0, .slice (some ⟨wr.heap.size, 0, none⟩) 1 1]) (by simp [results, Tryz.results7, go_sem, e0, e1, e2, e3, e4, e5, e6, e7]) rfl ?_
            have hmv := HMV.out
            subst hmv
            exact retHpI_one (r := ⟨0, (m : Int), 2 * m, g, 1 - ac, (totO (objsO L (reachO f L (rootsH T j))) : Int), j, fun i => clT (phiH f L (baseI (1 - ac) (m : Int)).toNat (rootsH T j)) (T i), 1, (totO (objsO L (reachO f L (rootsH T j))) : Int)⟩) (HW_r.out.widen (Nat.le_refl _) hmc) hw2 hwm TOf.out hlo2 (by omega) HSS.out HBf.out (K_6.widen (by omega) (by omega)) Z_6 rfl
end Go.Proofs.YtnpklnpicelcmaaGreat

namespace Go.Proofs.YtnpklnpicelcmaaGreat
open Go.RowKit
set_option linter.unusedVariables false

set_option maxRecDepth 100000 in
set_option maxHeartbeats 800000 in
theorem eqHRK_same (co h ac bu : Int) (a a' : Option Addr) (n c c' : Nat) (f g : Nat → Int) (ta ta' : Option Addr) (N tc tc' : Nat) (T U : Nat → TN) (sa sa' : Option Addr) (K sc sc' : Nat) (p : Nat → Int) (w : World) (s1 : Src w a n f) (s2 : Src w a' n g) (t1 : TV w ta N T) (t2 : TV w ta' N U) (he : ∀ i, i < n → f i = g i) (hs : ∀ i, i < N → TnSame (T i) (U i)) (hn : n ≤ 1048576) (hN : N ≤ 1048576) (hm : ∀ i, i < N → (T i).n ≤ 1048576) (k1 : Src w sa K p) (k2 : Src w sa' K p) (hK : K ≤ 1048576) :
    Calls Tryz.prog 8 #[.agg #[.int .i64 co, .int .i64 h, .slice a n c, .int .i64 ac, .int .i64 bu, .slice ta N tc, .slice none 0 0, .slice sa K sc], .agg #[.int .i64 co, .int .i64 h, .slice a' n c', .int .i64 ac, .int .i64 bu, .slice ta' N tc', .slice none 0 0, .slice sa' K sc']] w (RetBool w true) := by
  have S1 := Lib.hid s1; have S2 := Lib.hid s2; have T1 := Lib.hid t1; have T2 := Lib.hid t2; have HE := Lib.hid he; have HS := Lib.hid hs; have HM := Lib.hid hm; have K1 := Lib.hid k1; have K2 := Lib.hid k2
  have HB0 := Lib.hid (((Below.refl w.heap.size w).alloc (Nat.le_refl _) (.cells #[.int .i64 co, .int .i64 h, .slice a n c, .int .i64 ac, .int .i64 bu, .slice ta N tc, .slice none 0 0, .slice sa K sc] 35)).alloc (by simp) (.cells #[.int .i64 co, .int .i64 h, .slice a' n c', .int .i64 ac, .int .i64 bu, .slice ta' N tc', .slice none 0 0, .slice sa' K sc'] 35))
  have A_0 := Lib.hid ((Blk.new_at (w := w) (cs := #[.int .i64 co, .int .i64 h, .slice a n c, .int .i64 ac, .int .i64 bu, .slice ta N tc, .slice none 0 0, .slice sa K sc]) (t := 35) w.heap.size rfl).alloc (.cells #[.int .i64 co, .int .i64 h, .slice a' n c', .int .i64 ac, .int .i64 bu, .slice ta' N tc', .slice none 0 0, .slice sa' K sc'] 35))
  have A_1 := Lib.hid (Blk.new_at (w := w.alloc (.cells #[.int .i64 co, .int .i64 h, .slice a n c, .int .i64 ac, .int .i64 bu, .slice ta N tc, .slice none 0 0, .slice sa K sc] 35)) (cs := #[.int .i64 co, .int .i64 h, .slice a' n c', .int .i64 ac, .int .i64 bu, .slice ta' N tc', .slice none 0 0, .slice sa' K sc']) (t := 35) (w.heap.size + 1) (by simp))
  clear s1 s2 t1 t2 he hs hm k1 k2
  go_enter Tryz.func8, Tryz.ntmps8
  go_wp2_with fail
  refine (eqHeap_same h ac bu a a' n c c' f g ta ta' N tc tc' T U _ (S1.out.below HB0.out) (S2.out.below HB0.out) (T1.out.below HB0.out) (T2.out.below HB0.out) HE.out HS.out hn hN HM.out).mono ?_
  rintro e w1 ⟨rfl, hb⟩
  have HB1 := Lib.hid (thru0 HB0.out hb)
  have B_0 := Lib.hid (A_0.out.below hb); have B_1 := Lib.hid (A_1.out.below hb)
  clear hb A_0 A_1 HB0
  have c6 := B_0.out.at 6 rfl; have d6 := B_1.out.at 6 rfl; have l0 := B_0.out.1; have l1 := B_1.out.1
  go_wp2_with fail
  refine (eqReplyS_same none none 0 0 0 (fun _ => ⟨0, 0⟩) (fun _ => ⟨0, 0⟩) _ (.inl rfl) (.inl rfl) (fun i hi => rfl) (by omega)).mono ?_
  rintro e w2 ⟨rfl, hb⟩
  have HB2 := Lib.hid (thru0 HB1.out hb)
  have C_0 := Lib.hid (B_0.out.below hb); have C_1 := Lib.hid (B_1.out.below hb)
  clear hb B_0 B_1 HB1 c6 d6 l0 l1
  have c7 := C_0.out.at 7 rfl; have d7 := C_1.out.at 7 rfl; have l0 := C_0.out.1; have l1 := C_1.out.1
  go_wp2_with fail
  refine (eqInts_same sa sa' K sc sc' p p _ (K1.out.below HB2.out) (K2.out.below HB2.out) hK).mono ?_
  rintro e w3 ⟨rfl, hb⟩
  have HB3 := Lib.hid (thru0 HB2.out hb)
  have hq : eqB K K p p = true := eqB_yes fun _ _ => rfl
  clear hb C_0 C_1 HB2 c7 d7 l0 l1
  go_wp2
  go_ret
  exact ⟨rfl, HB3.out⟩

/-- A heap's answer is marked. -/
def RetMkHK (W : World) (lo mid md2 hi : Nat) (a : Option Addr) (n : Nat) (ta : Option Addr) (N : Nat) (T : Nat → TN) (sa : Option Addr) (K : Nat) (k : Int) (e : Ending) (w' : World) : Prop :=
  e = .returned (.int .i64 (k + (n : Int) + (toff T N : Int) + (K : Int))) ∧ OwnIn w' lo mid a n (fun i => k + (i : Int)) ∧ TVO w' mid md2 ta N (tmkd T (k + (n : Int))) ∧ OwnIn w' md2 hi sa K (fun i => k + (n : Int) + (toff T N : Int) + (i : Int)) ∧ Keeps W w' lo hi

set_option maxRecDepth 100000 in
set_option maxHeartbeats 800000 in
theorem markHRK_any (co h ac bu : Int) (a : Option Addr) (n c : Nat) (f : Nat → Int) (ta : Option Addr) (N tc : Nat) (T : Nat → TN) (sa : Option Addr) (K sc : Nat) (p : Nat → Int) (lo mid md2 hi : Nat) (k : Int) (w : World) (hp : OwnIn w lo mid a n f) (hg : TVO w mid md2 ta N T) (hc : OwnIn w md2 hi sa K p) (h1 : lo ≤ mid) (h2 : mid ≤ md2) (h2' : md2 ≤ hi) (h3 : hi ≤ w.heap.size) (hK : K ≤ 1048576) (hn : n ≤ 1048576) (hk0 : 0 ≤ k) (hk1 : k + (n : Int) + (toff T N : Int) ≤ 1048576) :
    Calls Tryz.prog 11 #[.agg #[.int .i64 co, .int .i64 h, .slice a n c, .int .i64 ac, .int .i64 bu, .slice ta N tc, .slice none 0 0, .slice sa K sc], .int .i64 k] w (RetMkHK w lo mid md2 hi a n ta N T sa K k) := by
  have P0 := Lib.hid hp; have G0 := Lib.hid hg; have C0 := Lib.hid hc
  have hn0 : (0 : Int) ≤ (toff T N : Int) := by omega
  clear hp hg hc
  go_enter Tryz.func11, Tryz.ntmps11
  have A_0 := Lib.hid (Blk.new_at (w := w) (cs := #[.int .i64 co, .int .i64 h, .slice a n c, .int .i64 ac, .int .i64 bu, .slice ta N tc, .slice none 0 0, .slice sa K sc]) (t := 35) w.heap.size rfl)
  have HB0 := Lib.hid ((Below.refl w.heap.size w).alloc (Nat.le_refl _) (.cells #[.int .i64 co, .int .i64 h, .slice a n c, .int .i64 ac, .int .i64 bu, .slice ta N tc, .slice none 0 0, .slice sa K sc] 35))
  have HK0 := Lib.hid (keeps_of_below HB0.out lo md2)
  have C1 := Lib.hid (C0.out.below HB0.out)
  have hsz := HB0.out.size
  go_wp2_with fail
  refine (markHeap_any h ac bu a n c f ta N tc T lo mid md2 k _ (P0.out.below HB0.out) (G0.out.below HB0.out) h1 h2 (by omega) hn hk0 hk1).mono ?_
  rintro e w1 ⟨rfl, hp, hg, hk⟩
  have P1 := Lib.hid hp; have G1 := Lib.hid hg; have HK1 := Lib.hid ((HK0.out.trans hk).widen (Nat.le_refl lo) h2'); have C2 := Lib.hid (C1.out.keeps hk (.inr (Nat.le_refl _)))
  have A_1 := Lib.hid (A_0.out.keeps hk (.inr (by omega)))
  clear hp hg hk P0 G0 A_0 HK0
  have c6 := A_1.out.at 6 rfl; have lA := A_1.out.1
  go_wp2_with fail
  refine (markReplyS_any none 0 0 0 0 (fun _ => ⟨0, 0⟩) (k + (n : Int) + (toff T N : Int)) _ (.inl rfl) (by omega) (by omega)).mono ?_
  rintro e w2 ⟨rfl, _, hk⟩
  have P2 := Lib.hid (P1.out.keeps hk (.inr (Nat.zero_le _))); have G2 := Lib.hid (G1.out.keeps hk (.inr (Nat.zero_le _))); have HK2 := Lib.hid (HK1.out.trans (hk.widen0 lo hi)); have C3 := Lib.hid (C2.out.keeps hk (.inr (Nat.zero_le _)))
  have A_2 := Lib.hid (A_1.out.keeps hk (.inr (Nat.zero_le _)))
  clear hk P1 G1 HK1 A_1 c6 lA
  have c7 := A_2.out.at 7 rfl; have lA := A_2.out.1
  have e1 : k + (n : Int) + (toff T N : Int) + 2 * ((0 : Nat) : Int) = k + (n : Int) + (toff T N : Int) := by omega
  rw [e1]
  go_wp2_with fail
  refine (markInts_big sa K sc md2 hi p (k + (n : Int) + (toff T N : Int)) _ C3.out hK (by omega) (by omega)).mono ?_
  rintro e w3 ⟨rfl, hc, hk⟩
  have P3 := Lib.hid (P2.out.keeps hk (.inl (by omega))); have G3 := Lib.hid (G2.out.keeps hk (.inl (Nat.le_refl _))); have HK3 := Lib.hid (HK2.out.trans (hk.widen (by omega) (Nat.le_refl _))); have C4 := Lib.hid hc
  clear hk hc P2 G2 HK2 A_2 c7 lA
  go_wp2
  go_ret
  exact ⟨rfl, P3.out, G3.out, C4.out, HK3.out⟩

set_option maxRecDepth 100000 in
set_option maxHeartbeats 800000 in
theorem heldHRK_any (co h ac bu : Int) (a : Option Addr) (n c : Nat) (ta : Option Addr) (N tc : Nat) (T : Nat → TN) (sa : Option Addr) (K sc : Nat) (k : Int) (w : World) (hp : Src w a n (fun i => k + (i : Int))) (hg : TV w ta N (tmkd T (k + (n : Int)))) (hc : Src w sa K (fun i => k + (n : Int) + (toff T N : Int) + (i : Int))) (hK : K ≤ 1048576) (hn : n ≤ 1048576) (hk0 : 0 ≤ k) (hk1 : k + (n : Int) + (toff T N : Int) ≤ 1048576) :
    Calls Tryz.prog 12 #[.agg #[.int .i64 co, .int .i64 h, .slice a n c, .int .i64 ac, .int .i64 bu, .slice ta N tc, .slice none 0 0, .slice sa K sc], .int .i64 k] w (RetInt w (k + (n : Int) + (toff T N : Int) + (K : Int))) := by
  have P0 := Lib.hid hp; have G0 := Lib.hid hg; have C0 := Lib.hid hc
  have hn0 : (0 : Int) ≤ (toff T N : Int) := by omega
  have q2 : ¬ k + (n : Int) + (toff T N : Int) < 0 := by omega
  clear hp hg hc
  have A_0 := Lib.hid (Blk.new_at (w := w) (cs := #[.int .i64 co, .int .i64 h, .slice a n c, .int .i64 ac, .int .i64 bu, .slice ta N tc, .slice none 0 0, .slice sa K sc]) (t := 35) w.heap.size rfl)
  have HB0 := Lib.hid ((Below.refl w.heap.size w).alloc (Nat.le_refl _) (.cells #[.int .i64 co, .int .i64 h, .slice a n c, .int .i64 ac, .int .i64 bu, .slice ta N tc, .slice none 0 0, .slice sa K sc] 35))
  go_enter Tryz.func12, Tryz.ntmps12
  go_wp2_with fail
  refine (heldHeap_any h ac bu a n c ta N tc T k _ (P0.out.below HB0.out) (G0.out.below HB0.out) hn hk0 hk1).mono ?_
  rintro e w1 ⟨rfl, hb⟩
  have HB1 := Lib.hid (thru0 HB0.out hb); have A_1 := Lib.hid (A_0.out.below hb)
  clear hb A_0 HB0
  have c6 := A_1.out.at 6 rfl; have c7 := A_1.out.at 7 rfl; have lA := A_1.out.1
  go_wp2_with fail
  refine (heldReplyS_any none 0 0 (k + (n : Int) + (toff T N : Int)) _ (.inl rfl) (by omega) (by omega)).mono ?_
  rintro e w2 ⟨rfl, rfl⟩
  have e1 : k + (n : Int) + (toff T N : Int) + 2 * ((0 : Nat) : Int) = k + (n : Int) + (toff T N : Int) := by omega
  rw [e1]
  go_wp2_with fail
  refine (heldInts_any sa K sc (k + (n : Int) + (toff T N : Int)) _ (C0.out.below HB1.out) hK (by omega) (by omega)).mono ?_
  rintro e w3 ⟨rfl, rfl⟩
  go_wp2
  go_ret
  exact ⟨rfl, HB1.out⟩

theorem isCH_same {h : Int} {n : Nat} {f : Nat → Int} {ac bu : Int} {N : Nat} {T U : Nat → TN} {r : HRes} (hk : IsCH h n f ac bu N T r) (hs : ∀ i, i < N → TnSame (T i) (U i)) : ∃ T2, IsCH h n f ac bu N U { r with T := T2 } ∧ ∀ i, i < r.N → TnSame (r.T i) (T2 i) := by
  rcases hk with ⟨h0, h1, h2⟩ | ⟨h1, L, g, h2, h3, h4, h5, rfl⟩
  · exact ⟨r.T, .inl ⟨h0, isHpF_same h1 hs, h2⟩, fun i _ => tnsame_refl _⟩
  · refine ⟨fun j => clT (phiH f L (baseI (1 - ac) h).toNat (rootsH U N)) (U j), .inr ⟨isHpF_same h1 hs, L, g, h2, h3, ?_, ?_, ?_⟩, clT_sameH hs⟩
    · rw [← h4]; unfold hpF; rw [tnsF_same hs, quF_same hs, sumF_same hs]
    · rw [rootsH_same hs]; exact h5
    · simp only [rootsH_same hs]

theorem specCHs_any (h ac bu : Int) (a : Option Addr) (n c : Nat) (f : Nat → Int) (ta : Option Addr) (N tc : Nat) (U T : Nat → TN) (r : HRes) (w : World) (hs : Src w a n f) (hcn : n ≤ c) (hcm : c ≤ maxLen) (ht : TV w ta N U) (hN : N ≤ maxLen) (hn : ∀ i, i < N → (U i).n ≤ maxLen)
    (hr : ∀ i, i < N → ∀ j, j < (U i).n → -9223372036854775808 ≤ ((U i).S j).nd ∧ ((U i).S j).nd ≤ 9223372036854775807) (hk : IsCH h n f ac bu N T r) (hsm : ∀ i, i < N → TnSame (T i) (U i)) :
    Calls Tryz.prog 5 #[.agg #[.int .i64 h, .slice a n c, .int .i64 ac, .int .i64 bu, .slice ta N tc]] w (RetHpS w r) := by
  obtain ⟨T2, h2, h3⟩ := isCH_same hk hsm
  refine (specCH_any h ac bu a n c f ta N tc U _ w hs hcn hcm ht hN hn hr h2).mono ?_
  rintro e w' ⟨a', c', ta', tc', sa, sc, T', rfl, x1, x2, x3, x4, x5⟩
  exact ⟨a', c', ta', tc', sa, sc, T', rfl, x1, x2, fun i hi => tnsame_trans (h3 i hi) (x3 i hi), x4, x5⟩

theorem implCHs_any (h ac bu : Int) (a : Option Addr) (n c : Nat) (f : Nat → Int) (ta : Option Addr) (N tc : Nat) (U T : Nat → TN) (r : HRes) (w : World) (hs : Src w a n f) (hcn : n ≤ c) (hcm : c ≤ maxLen) (ht : TV w ta N U) (hN : N ≤ maxLen) (hn : ∀ i, i < N → (U i).n ≤ maxLen)
    (hr : ∀ i, i < N → ∀ j, j < (U i).n → -9223372036854775808 ≤ ((U i).S j).nd ∧ ((U i).S j).nd ≤ 9223372036854775807) (hk : IsCH h n f ac bu N T r) (hsm : ∀ i, i < N → TnSame (T i) (U i)) :
    Calls Tryz.prog 7 #[.agg #[.int .i64 h, .slice a n c, .int .i64 ac, .int .i64 bu, .slice ta N tc]] w (RetHpI w r) := by
  obtain ⟨T2, h2, h3⟩ := isCH_same hk hsm
  refine (implCH_any h ac bu a n c f ta N tc U _ w hs hcn hcm ht hN hn hr h2).mono ?_
  rintro e w' ⟨a', c', ta', tc', sa, sc, l1, l2, T', rfl, x1, x2, x3, x4, x5, x6, x7, x8⟩
  exact ⟨a', c', ta', tc', sa, sc, l1, l2, T', rfl, x1, x2, x3, x4, x5, x6, fun i hi => tnsame_trans (h3 i hi) (x7 i hi), x8⟩
end Go.Proofs.YtnpklnpicelcmaaGreat

namespace Go.Proofs.YtnpklnpicelcmaaGreat
open Go.RowKit
set_option linter.unusedVariables false

set_option maxRecDepth 100000 in
set_option maxHeartbeats 6400000 in
theorem e3_any (h ac bu : Int) (a : Option Addr) (n c : Nat) (f : Nat → Int) (ta : Option Addr) (N tc : Nat) (T : Nat → TN) (w : World)
    (s1 : Src w a n f) (hn : n ≤ maxLen) (t1 : TV w ta N T) (hN : N ≤ maxLen) (hm : ∀ i, i < N → (T i).n ≤ maxLen) (hw : ∀ i, i < N → TnW (T i)) :
    Calls Tryz.prog 3 #[.agg #[.int .i64 h, .slice a n c, .int .i64 ac, .int .i64 bu, .slice ta N tc]] w (RetBool w true) := by
  obtain ⟨rr, hk⟩ := isCH_some h n f ac bu N T
  obtain ⟨hs1, hs2, hs3, hs4⟩ := isCH_small hk
  have HR8 := Lib.hid hs4
  clear hs4
  have HK := Lib.hid hk; have S1 := Lib.hid s1; have T1 := Lib.hid t1; have HM := Lib.hid hm; have HW := Lib.hid hw
  have A_0 := Lib.hid (Blk.new_at (w := w) (cs := #[.int .i64 h, .slice a n c, .int .i64 ac, .int .i64 bu, .slice ta N tc]) (t := 27) w.heap.size rfl)
  have HB0 := Lib.hid ((Below.refl w.heap.size w).alloc (Nat.le_refl _) (.cells #[.int .i64 h, .slice a n c, .int .i64 ac, .int .i64 bu, .slice ta N tc] 27))
  have c0 := A_0.out.at 0 rfl; have c1 := A_0.out.at 1 rfl; have c2 := A_0.out.at 2 rfl; have c3 := A_0.out.at 3 rfl; have c4 := A_0.out.at 4 rfl; have lA := A_0.out.1
  clear hk s1 t1 hm hw
  go_enter Tryz.func3, Tryz.ntmps3
  go_wp2_with fail
  refine (szHeap_any h ac bu a n c ta N tc T 1048576 _ (T1.out.below HB0.out) hn hN HM.out (by omega) (by omega)).mono ?_
  rintro e w1 ⟨hb, r, rfl, hr1, hr2⟩
  have HB1 := Lib.hid (thru0 HB0.out hb)
  have A_1 := Lib.hid (A_0.out.below hb)
  clear hb c0 c1 c2 c3 c4 lA A_0 HB0
  rcases hr2 with rfl | ⟨h0, h1, h2, h3⟩
  · go_wp2
    go_ret
    exact ⟨rfl, HB1.out⟩
  have h9 : ¬ r < 0 := by omega
  have hn1 : n ≤ 1048576 := by omega
  have hN1 : N ≤ 1048576 := by omega
  have HM1 : Hid (∀ i, i < N → (T i).n ≤ 1048576) := Lib.hid fun i hi => by have := h3 i hi; omega
  clear h1 h2 h3 HM hn hN
  have c0 := A_1.out.at 0 rfl; have c1 := A_1.out.at 1 rfl; have c2 := A_1.out.at 2 rfl; have c3 := A_1.out.at 3 rfl; have c4 := A_1.out.at 4 rfl; have lA := A_1.out.1
  go_wp2_with fail
  refine (toHeap_any h ac bu a n c f ta N tc T _ (S1.out.below HB1.out) (T1.out.below HB1.out) hn1 hN1 HM1.out).mono ?_
  rintro e w2 ⟨sa, sc, st, sk, sm, G0, rfl, go, gp, _, _, gs, hb, gc1, gc2⟩
  have HB2 := Lib.hid (thru0 HB1.out hb)
  have A_2 := Lib.hid (A_1.out.below hb)
  have P2 := Lib.hid go.src; have G2 := Lib.hid gp.src; have S2 := Lib.hid gs; have C2 := Lib.hid gc2
  clear hb c0 c1 c2 c3 c4 lA A_1 HB1 go gp gs gc2
  go_wp2_with fail
  refine (specCHs_any h ac bu sa n sc f st N sk G0 T rr _ P2.out gc1 C2.out G2.out (max_of hN1) (tnsame_max S2.out HM1.out) (tnw_nd HW.out S2.out) HK.out S2.out).mono ?_
  rintro e w3 ⟨wa, wc, wt, wk, wq, wqc, wTT, rfl, ho, ht, hsm, hcc, hb⟩
  have HB3 := Lib.hid (thru0 HB2.out hb)
  have A_3 := Lib.hid (A_2.out.below hb)
  have z3 : w2.heap.size ≤ w3.heap.size := hb.size
  have Rw_3 := Lib.hid ho; have Tw_3 := Lib.hid ht; have Cw_3 := Lib.hid hcc; have SMw := Lib.hid hsm
  clear hb A_2 HB2 P2 G2 S2 C2 gc1 ho ht hcc hsm
  have HB4 := Lib.hid (HB3.out.alloc HB3.out.size (.cells #[.int .i64 rr.co, .int .i64 rr.h, .slice wa rr.n wc, .int .i64 rr.ac, .int .i64 rr.bu, .slice wt rr.N wk, .slice none 0 0, .slice wq rr.K wqc] 35))
  have A_4 := Lib.hid (A_3.out.alloc (.cells #[.int .i64 rr.co, .int .i64 rr.h, .slice wa rr.n wc, .int .i64 rr.ac, .int .i64 rr.bu, .slice wt rr.N wk, .slice none 0 0, .slice wq rr.K wqc] 35))
  have W_4 := Lib.hid (Blk.new_at (w := w3) (cs := #[.int .i64 rr.co, .int .i64 rr.h, .slice wa rr.n wc, .int .i64 rr.ac, .int .i64 rr.bu, .slice wt rr.N wk, .slice none 0 0, .slice wq rr.K wqc]) (t := 35) w3.heap.size rfl)
  have Rw_4 := Lib.hid (Rw_3.out.alloc (.cells #[.int .i64 rr.co, .int .i64 rr.h, .slice wa rr.n wc, .int .i64 rr.ac, .int .i64 rr.bu, .slice wt rr.N wk, .slice none 0 0, .slice wq rr.K wqc] 35)); have Tw_4 := Lib.hid (Tw_3.out.alloc (.cells #[.int .i64 rr.co, .int .i64 rr.h, .slice wa rr.n wc, .int .i64 rr.ac, .int .i64 rr.bu, .slice wt rr.N wk, .slice none 0 0, .slice wq rr.K wqc] 35)); have Cw_4 := Lib.hid (Cw_3.out.alloc (.cells #[.int .i64 rr.co, .int .i64 rr.h, .slice wa rr.n wc, .int .i64 rr.ac, .int .i64 rr.bu, .slice wt rr.N wk, .slice none 0 0, .slice wq rr.K wqc] 35))
  have z4 : w3.heap.size + 1 ≤ (w3.alloc (.cells #[.int .i64 rr.co, .int .i64 rr.h, .slice wa rr.n wc, .int .i64 rr.ac, .int .i64 rr.bu, .slice wt rr.N wk, .slice none 0 0, .slice wq rr.K wqc] 35)).heap.size := by simp
  have c0 := A_4.out.at 0 rfl; have c1 := A_4.out.at 1 rfl; have c2 := A_4.out.at 2 rfl; have c3 := A_4.out.at 3 rfl; have c4 := A_4.out.at 4 rfl; have lA := A_4.out.1
  clear A_3 HB3
  go_wp2_with fail
  generalize w3.alloc (.cells #[.int .i64 rr.co, .int .i64 rr.h, .slice wa rr.n wc, .int .i64 rr.ac, .int .i64 rr.bu, .slice wt rr.N wk, .slice none 0 0, .slice wq rr.K wqc] 35) = w4 at *
  have zA4 := A_4.out.1
  refine (toHeap_any h ac bu a n c f ta N tc T _ (S1.out.below HB4.out) (T1.out.below HB4.out) hn1 hN1 HM1.out).mono ?_
  rintro e w5 ⟨xa, xc, xt, xk, xm, X, rfl, p4, g4, xz1, xz2, s4, hb, xc1, xc2⟩
  have HB5 := Lib.hid (thru0 HB4.out hb)
  have A_5 := Lib.hid (A_4.out.below hb); have W_5 := Lib.hid (W_4.out.below hb)
  have Rw_5 := Lib.hid (Rw_4.out.below hb); have Tw_5 := Lib.hid (Tw_4.out.below hb); have Cw_5 := Lib.hid (Cw_4.out.below hb)
  have P5 := Lib.hid p4; have G5 := Lib.hid g4; have S4 := Lib.hid s4; have C4 := Lib.hid xc2
  clear hb c0 c1 c2 c3 c4 lA A_4 W_4 HB4 p4 g4 s4 xc2
  have hnX : ∀ i, i < N → (X i).n ≤ 1048576 := tnsame_n S4.out HM1.out
  have hnoff : toff X N ≤ 2199025352704 := by have := toff_big N hnX; have : N * 2097154 ≤ 1048576 * 2097154 := Nat.mul_le_mul_right _ hN1; omega
  have HNO := Lib.hid hnoff
  clear hnX hnoff
  have z5 : w4.heap.size ≤ w5.heap.size := by omega
  generalize w3.heap.size = W0 at *
  go_wp2_with fail
  have A_6 := Lib.hid (A_5.out.alloc (.cells #[.int .i64 h, .slice xa n xc, .int .i64 ac, .int .i64 bu, .slice xt N xk] 32)); have W_6 := Lib.hid (W_5.out.alloc (.cells #[.int .i64 h, .slice xa n xc, .int .i64 ac, .int .i64 bu, .slice xt N xk] 32))
  have X_6 := Lib.hid (Blk.new_at (w := w5) (cs := #[.int .i64 h, .slice xa n xc, .int .i64 ac, .int .i64 bu, .slice xt N xk]) (t := 32) w5.heap.size rfl)
  have HB6 := Lib.hid (HB5.out.alloc HB5.out.size (.cells #[.int .i64 h, .slice xa n xc, .int .i64 ac, .int .i64 bu, .slice xt N xk] 32))
  have P6 := Lib.hid (P5.out.alloc (.cells #[.int .i64 h, .slice xa n xc, .int .i64 ac, .int .i64 bu, .slice xt N xk] 32))
  have G6 := Lib.hid (G5.out.alloc (.cells #[.int .i64 h, .slice xa n xc, .int .i64 ac, .int .i64 bu, .slice xt N xk] 32))
  have Rw_6 := Lib.hid (Rw_5.out.alloc (.cells #[.int .i64 h, .slice xa n xc, .int .i64 ac, .int .i64 bu, .slice xt N xk] 32)); have Tw_6 := Lib.hid (Tw_5.out.alloc (.cells #[.int .i64 h, .slice xa n xc, .int .i64 ac, .int .i64 bu, .slice xt N xk] 32)); have Cw_6 := Lib.hid (Cw_5.out.alloc (.cells #[.int .i64 h, .slice xa n xc, .int .i64 ac, .int .i64 bu, .slice xt N xk] 32))
  have z6 : w5.heap.size + 1 ≤ (w5.alloc (.cells #[.int .i64 h, .slice xa n xc, .int .i64 ac, .int .i64 bu, .slice xt N xk] 32)).heap.size := by simp
  clear A_5 W_5 HB5 P5 G5
  generalize w5.alloc (.cells #[.int .i64 h, .slice xa n xc, .int .i64 ac, .int .i64 bu, .slice xt N xk] 32) = w6 at *
  generalize w5.heap.size = X0 at *
  refine (implCHs_any h ac bu xa n xc f xt N xk X T rr _ P6.out.src xc1 C4.out G6.out.src (max_of hN1) (tnsame_max S4.out HM1.out) (tnw_nd HW.out S4.out) HK.out S4.out).mono ?_
  rintro e w7 ⟨ga, gc, gt, gk, gq, gqc, gl1, gl2, gTT, rfl, ho, ht, hcc, gz1, gz2, gz3, hsm, hb⟩
  have HB7 := Lib.hid (thru0 HB6.out hb)
  have A_7 := Lib.hid (A_6.out.below hb); have W_7 := Lib.hid (W_6.out.below hb); have X_7 := Lib.hid (X_6.out.below hb); have P7 := Lib.hid (P6.out.below hb); have G7 := Lib.hid (G6.out.below hb)
  have z7 : w6.heap.size ≤ w7.heap.size := hb.size
  have Rw_7 := Lib.hid (Rw_6.out.below hb); have Tw_7 := Lib.hid (Tw_6.out.below hb); have Cw_7 := Lib.hid (Cw_6.out.below hb)
  have Rg_7 := Lib.hid ho; have Tg_7 := Lib.hid ht; have Cg_7 := Lib.hid hcc; have SMg := Lib.hid hsm
  have g72 : toff gTT rr.N ≤ 72 := by have := toff_le gTT rr.N (fun i hi => by have h1 := (hsm i hi).2.2.1; have h2 := HR8.out i hi; omega); omega
  clear hb A_6 W_6 X_6 HB6 P6 G6 ho ht hcc hsm
  have d0 := W_7.out.at 0 rfl; have d1 := W_7.out.at 1 rfl; have d2 := W_7.out.at 2 rfl; have d3 := W_7.out.at 3 rfl; have d4 := W_7.out.at 4 rfl; have d5 := W_7.out.at 5 rfl; have d6 := W_7.out.at 6 rfl; have d7 := W_7.out.at 7 rfl; have lW := W_7.out.1
  have A_8 := Lib.hid (A_7.out.alloc (.cells #[.int .i64 rr.co, .int .i64 rr.h, .slice ga rr.n gc, .int .i64 rr.ac, .int .i64 rr.bu, .slice gt rr.N gk, .slice none 0 0, .slice gq rr.K gqc] 35)); have W_8 := Lib.hid (W_7.out.alloc (.cells #[.int .i64 rr.co, .int .i64 rr.h, .slice ga rr.n gc, .int .i64 rr.ac, .int .i64 rr.bu, .slice gt rr.N gk, .slice none 0 0, .slice gq rr.K gqc] 35)); have X_8 := Lib.hid (X_7.out.alloc (.cells #[.int .i64 rr.co, .int .i64 rr.h, .slice ga rr.n gc, .int .i64 rr.ac, .int .i64 rr.bu, .slice gt rr.N gk, .slice none 0 0, .slice gq rr.K gqc] 35)); have P8 := Lib.hid (P7.out.alloc (.cells #[.int .i64 rr.co, .int .i64 rr.h, .slice ga rr.n gc, .int .i64 rr.ac, .int .i64 rr.bu, .slice gt rr.N gk, .slice none 0 0, .slice gq rr.K gqc] 35)); have G8 := Lib.hid (G7.out.alloc (.cells #[.int .i64 rr.co, .int .i64 rr.h, .slice ga rr.n gc, .int .i64 rr.ac, .int .i64 rr.bu, .slice gt rr.N gk, .slice none 0 0, .slice gq rr.K gqc] 35))
  have Y_8 := Lib.hid (Blk.new_at (w := w7) (cs := #[.int .i64 rr.co, .int .i64 rr.h, .slice ga rr.n gc, .int .i64 rr.ac, .int .i64 rr.bu, .slice gt rr.N gk, .slice none 0 0, .slice gq rr.K gqc]) (t := 35) w7.heap.size rfl)
  have HB8 := Lib.hid (HB7.out.alloc HB7.out.size (.cells #[.int .i64 rr.co, .int .i64 rr.h, .slice ga rr.n gc, .int .i64 rr.ac, .int .i64 rr.bu, .slice gt rr.N gk, .slice none 0 0, .slice gq rr.K gqc] 35))
  have Rw_8 := Lib.hid (Rw_7.out.alloc (.cells #[.int .i64 rr.co, .int .i64 rr.h, .slice ga rr.n gc, .int .i64 rr.ac, .int .i64 rr.bu, .slice gt rr.N gk, .slice none 0 0, .slice gq rr.K gqc] 35)); have Tw_8 := Lib.hid (Tw_7.out.alloc (.cells #[.int .i64 rr.co, .int .i64 rr.h, .slice ga rr.n gc, .int .i64 rr.ac, .int .i64 rr.bu, .slice gt rr.N gk, .slice none 0 0, .slice gq rr.K gqc] 35)); have Cw_8 := Lib.hid (Cw_7.out.alloc (.cells #[.int .i64 rr.co, .int .i64 rr.h, .slice ga rr.n gc, .int .i64 rr.ac, .int .i64 rr.bu, .slice gt rr.N gk, .slice none 0 0, .slice gq rr.K gqc] 35))
  have Rg_8 := Lib.hid (Rg_7.out.alloc (.cells #[.int .i64 rr.co, .int .i64 rr.h, .slice ga rr.n gc, .int .i64 rr.ac, .int .i64 rr.bu, .slice gt rr.N gk, .slice none 0 0, .slice gq rr.K gqc] 35)); have Tg_8 := Lib.hid (Tg_7.out.alloc (.cells #[.int .i64 rr.co, .int .i64 rr.h, .slice ga rr.n gc, .int .i64 rr.ac, .int .i64 rr.bu, .slice gt rr.N gk, .slice none 0 0, .slice gq rr.K gqc] 35)); have Cg_8 := Lib.hid (Cg_7.out.alloc (.cells #[.int .i64 rr.co, .int .i64 rr.h, .slice ga rr.n gc, .int .i64 rr.ac, .int .i64 rr.bu, .slice gt rr.N gk, .slice none 0 0, .slice gq rr.K gqc] 35))
  have z8 : w7.heap.size + 1 ≤ (w7.alloc (.cells #[.int .i64 rr.co, .int .i64 rr.h, .slice ga rr.n gc, .int .i64 rr.ac, .int .i64 rr.bu, .slice gt rr.N gk, .slice none 0 0, .slice gq rr.K gqc] 35)).heap.size := by simp
  go_wp2_with fail
  clear d0 d1 d2 d3 d4 d5 d6 d7 lW A_7 W_7 X_7 P7 G7 HB7
  generalize w7.alloc (.cells #[.int .i64 rr.co, .int .i64 rr.h, .slice ga rr.n gc, .int .i64 rr.ac, .int .i64 rr.bu, .slice gt rr.N gk, .slice none 0 0, .slice gq rr.K gqc] 35) = w8 at *
  generalize w7.heap.size = Y0 at *
  refine (eqHRK_same rr.co rr.h rr.ac rr.bu ga wa rr.n gc wc rr.f rr.f gt wt rr.N gk wk gTT wTT gq wq rr.K gqc wqc (fun _ => rr.mv) _ Rg_8.out.src Rw_8.out.src Tg_8.out.src Tw_8.out.src (fun _ _ => rfl) (fun i hi => tnsame_trans (tnsame_symm (SMg.out i hi)) (SMw.out i hi)) (by omega) (by omega) (fun i hi => by have h1 := (SMg.out i hi).2.2.1; have h2 := HR8.out i hi; omega) Cg_8.out.src Cw_8.out.src (by omega)).mono ?_
  rintro e w9 ⟨rfl, hb⟩
  have HB9 := Lib.hid (thru0 HB8.out hb)
  have A_9 := Lib.hid (A_8.out.below hb); have W_9 := Lib.hid (W_8.out.below hb); have X_9 := Lib.hid (X_8.out.below hb); have P9 := Lib.hid (P8.out.below hb); have G9 := Lib.hid (G8.out.below hb); have Y_9 := Lib.hid (Y_8.out.below hb)
  have Rw_9 := Lib.hid (Rw_8.out.below hb); have Tw_9 := Lib.hid (Tw_8.out.below hb); have Cw_9 := Lib.hid (Cw_8.out.below hb)
  have Rg_9 := Lib.hid (Rg_8.out.below hb); have Tg_9 := Lib.hid (Tg_8.out.below hb); have Cg_9 := Lib.hid (Cg_8.out.below hb)
  have z9 : w8.heap.size ≤ w9.heap.size := hb.size
  clear hb A_8 W_8 X_8 P8 G8 Y_8 HB8
  have c0 := A_9.out.at 0 rfl; have c1 := A_9.out.at 1 rfl; have c2 := A_9.out.at 2 rfl; have c3 := A_9.out.at 3 rfl; have c4 := A_9.out.at 4 rfl; have lA := A_9.out.1
  have d0 := X_9.out.at 0 rfl; have d1 := X_9.out.at 1 rfl; have d2 := X_9.out.at 2 rfl; have d3 := X_9.out.at 3 rfl; have d4 := X_9.out.at 4 rfl; have lX := X_9.out.1
  go_wp2_with fail
  have A_d := Lib.hid A_9.out.drew; have X_d := Lib.hid X_9.out.drew; have HB_d := Lib.hid HB9.out.drew
  go_region_held3 (fun w' => w'.cell? ⟨w.heap.size, 0, none⟩ = some (.int .i64 h) ∧ w'.cell? ⟨w.heap.size, 1, none⟩ = some (.slice a n c) ∧ w'.cell? ⟨w.heap.size, 2, none⟩ = some (.int .i64 ac) ∧ w'.cell? ⟨w.heap.size, 3, none⟩ = some (.int .i64 bu) ∧ w'.cell? ⟨w.heap.size, 4, none⟩ = some (.slice ta N tc) ∧ w'.cell? ⟨X0, 0, none⟩ = some (.int .i64 h) ∧ w'.cell? ⟨X0, 1, none⟩ = some (.slice xa n xc) ∧ w'.cell? ⟨X0, 2, none⟩ = some (.int .i64 ac) ∧ w'.cell? ⟨X0, 3, none⟩ = some (.int .i64 bu) ∧ w'.cell? ⟨X0, 4, none⟩ = some (.slice xt N xk))
    (first | (with_reducible exact cap10Y A_9.out X_9.out) | (with_reducible exact cap10Y A_d.out X_d.out) | (with_reducible exact cap10Y A_10.out X_10.out) | (with_reducible exact cap10Y A_11.out X_11.out))
    (first | (go_at_call 6; refine (toHeap_any h ac bu a n c f ta N tc T _ (S1.out.below HB_d.out) (T1.out.below HB_d.out) hn1 hN1 HM1.out).mono ?_; rintro e w10 ⟨ya, yc, yt, yk, ym, Y, rfl, p7, g7, _, _, s7, hb, _, _⟩; have HB10 := Lib.hid (thru0 HB_d.out hb); have hb10 : Below w9.heap.size w9 w10 := (Below.refl _ _).drew.trans (hb.mono (by simp)); have BT10 := Lib.hid hb10; have A_10 := Lib.hid (A_9.out.below hb10); have X_10 := Lib.hid (X_9.out.below hb10); have P10 := Lib.hid (P9.out.below hb10); have G10 := Lib.hid (G9.out.below hb10); have P10' := Lib.hid p7.src; have G10' := Lib.hid g7.src; have S7 := Lib.hid (show ∀ i, i < N → TnSame (X i) (Y i) from fun i hi => tnsame_trans (tnsame_symm (S4.out i hi)) (s7 i hi)); clear hb hb10 p7 g7 s7) | (go_at_call 9; refine (eqHeap_same h ac bu xa ya n xc yc f f xt yt N xk yk X Y _ P10.out.src P10'.out G10.out.src G10'.out (fun _ _ => rfl) S7.out hn1 hN1 (tnsame_n S4.out HM1.out)).mono ?_; rintro e w11 ⟨rfl, hb⟩; have HB11 := Lib.hid (thru0 HB10.out hb); have BT11 := Lib.hid (thru0 BT10.out hb); have A_11 := Lib.hid (A_10.out.below hb); have X_11 := Lib.hid (X_10.out.below hb); clear hb))
  have W_11 := Lib.hid (W_9.out.below BT11.out); have P11 := Lib.hid (P9.out.below BT11.out); have G11 := Lib.hid (G9.out.below BT11.out); have Y_11 := Lib.hid (Y_9.out.below BT11.out)
  have Rw_11 := Lib.hid (Rw_9.out.below BT11.out); have Tw_11 := Lib.hid (Tw_9.out.below BT11.out); have Cw_11 := Lib.hid (Cw_9.out.below BT11.out)
  have Rg_11 := Lib.hid (Rg_9.out.below BT11.out); have Tg_11 := Lib.hid (Tg_9.out.below BT11.out); have Cg_11 := Lib.hid (Cg_9.out.below BT11.out)
  have z11 : w9.heap.size ≤ w11.heap.size := BT11.out.size
  clear c0 c1 c2 c3 c4 lA d0 d1 d2 d3 d4 lX A_9 X_9 A_d X_d HB_d HB9 W_9 P9 G9 Y_9 A_10 X_10 P10 G10 P10' G10' S7 BT10 BT11 HB10
  have d0 := X_11.out.at 0 rfl; have d1 := X_11.out.at 1 rfl; have d2 := X_11.out.at 2 rfl; have d3 := X_11.out.at 3 rfl; have d4 := X_11.out.at 4 rfl; have lX := X_11.out.1
  go_wp2_with fail
  refine (markHeap_big h ac bu xa n xc f xt N xk X w4.heap.size xm X0 1 _ P11.out G11.out xz1 xz2 (by omega) hn1 (by omega) (by omega) (by have := HNO.out; omega) hN1).mono ?_
  rintro e w12 ⟨rfl, -, -, hkp⟩
  have HB12 := Lib.hid (HB11.out.trans (hkp.below (by omega) HB11.out.size))
  have A_12 := Lib.hid (A_11.out.keeps hkp (.inl (by omega))); have W_12 := Lib.hid (W_11.out.keeps hkp (.inl (by omega))); have Y_12 := Lib.hid (Y_11.out.keeps hkp (.inr (by omega)))
  have Rw_12 := Lib.hid (Rw_11.out.keeps hkp (.inl (by omega))); have Tw_12 := Lib.hid (Tw_11.out.keeps hkp (.inl (by omega))); have Cw_12 := Lib.hid (Cw_11.out.keeps hkp (.inl (by omega)))
  have Rg_12 := Lib.hid (Rg_11.out.keeps hkp (.inr (by omega))); have Tg_12 := Lib.hid (Tg_11.out.keeps hkp (.inr (by omega))); have Cg_12 := Lib.hid (Cg_11.out.keeps hkp (.inr (by omega)))
  have z12 : w11.heap.size ≤ w12.heap.size := hkp.size
  obtain ⟨kk, hkk⟩ : ∃ kk, kk = 1 + (n : Int) + (toff X N : Int) := ⟨_, rfl⟩
  rw [← hkk]
  have hkk0 : ¬ kk < 0 := by omega
  clear hkk hkp d0 d1 d2 d3 d4 lX A_11 X_11 W_11 P11 G11 Y_11 HB11
  have d0 := W_12.out.at 0 rfl; have d1 := W_12.out.at 1 rfl; have d2 := W_12.out.at 2 rfl; have d3 := W_12.out.at 3 rfl; have d4 := W_12.out.at 4 rfl; have d5 := W_12.out.at 5 rfl; have d6 := W_12.out.at 6 rfl; have d7 := W_12.out.at 7 rfl; have lW := W_12.out.1
  have e0 := Y_12.out.at 0 rfl; have e1 := Y_12.out.at 1 rfl; have e2 := Y_12.out.at 2 rfl; have e3 := Y_12.out.at 3 rfl; have e4 := Y_12.out.at 4 rfl; have e5 := Y_12.out.at 5 rfl; have e6 := Y_12.out.at 6 rfl; have e7 := Y_12.out.at 7 rfl; have lY := Y_12.out.1
  go_wp2_with fail
  refine (eqHRK_same rr.co rr.h rr.ac rr.bu ga wa rr.n gc wc rr.f rr.f gt wt rr.N gk wk gTT wTT gq wq rr.K gqc wqc (fun _ => rr.mv) _ Rg_12.out.src Rw_12.out.src Tg_12.out.src Tw_12.out.src (fun _ _ => rfl) (fun i hi => tnsame_trans (tnsame_symm (SMg.out i hi)) (SMw.out i hi)) (by omega) (by omega) (fun i hi => by have h1 := (SMg.out i hi).2.2.1; have h2 := HR8.out i hi; omega) Cg_12.out.src Cw_12.out.src (by omega)).mono ?_
  rintro e w13 ⟨rfl, hb⟩
  have HB13 := Lib.hid (thru0 HB12.out hb)
  have A_13 := Lib.hid (A_12.out.below hb); have W_13 := Lib.hid (W_12.out.below hb); have Y_13 := Lib.hid (Y_12.out.below hb)
  have Rw_13 := Lib.hid (Rw_12.out.below hb); have Tw_13 := Lib.hid (Tw_12.out.below hb); have Cw_13 := Lib.hid (Cw_12.out.below hb)
  have Rg_13 := Lib.hid (Rg_12.out.below hb); have Tg_13 := Lib.hid (Tg_12.out.below hb); have Cg_13 := Lib.hid (Cg_12.out.below hb)
  have z13 : w12.heap.size ≤ w13.heap.size := hb.size
  clear hb d0 e0 d1 e1 d2 e2 d3 e3 d4 e4 d5 e5 d6 e6 d7 e7 lW lY A_12 W_12 Y_12 HB12
  have e0 := Y_13.out.at 0 rfl; have e1 := Y_13.out.at 1 rfl; have e2 := Y_13.out.at 2 rfl; have e3 := Y_13.out.at 3 rfl; have e4 := Y_13.out.at 4 rfl; have e5 := Y_13.out.at 5 rfl; have e6 := Y_13.out.at 6 rfl; have e7 := Y_13.out.at 7 rfl; have lY := Y_13.out.1

  go_wp2_with fail
  refine (markHRK_any rr.co rr.h rr.ac rr.bu ga rr.n gc rr.f gt rr.N gk gTT gq rr.K gqc (fun _ => rr.mv) w6.heap.size gl1 gl2 Y0 1 _ Rg_13.out Tg_13.out Cg_13.out gz1 gz2 gz3 (by omega) (by omega) (by omega) (by omega) (by omega)).mono ?_
  rintro e w14 ⟨rfl, ho, ht, hcc, hkp⟩
  obtain ⟨mm, hmm⟩ : ∃ x : Int, x = 1 + (rr.n : Int) + (toff gTT rr.N : Int) + (rr.K : Int) := ⟨_, rfl⟩
  rw [← hmm]
  have hmm0 : ¬ mm < 0 := by omega
  have HMM := Lib.hid hmm
  clear hmm
  have HB14 := Lib.hid (HB13.out.trans (hkp.below (by omega) HB13.out.size))
  have A_14 := Lib.hid (A_13.out.keeps hkp (.inl (by omega))); have W_14 := Lib.hid (W_13.out.keeps hkp (.inl (by omega))); have Y_14 := Lib.hid (Y_13.out.keeps hkp (.inr (by omega)))
  have Rw_14 := Lib.hid (Rw_13.out.keeps hkp (.inl (by omega))); have Tw_14 := Lib.hid (Tw_13.out.keeps hkp (.inl (by omega))); have Cw_14 := Lib.hid (Cw_13.out.keeps hkp (.inl (by omega)))
  have Mg_14 := Lib.hid ho; have Mt_14 := Lib.hid ht; have Mc_14 := Lib.hid hcc
  have z14 : w13.heap.size ≤ w14.heap.size := hkp.size
  clear hkp e0 e1 e2 e3 e4 e5 e6 e7 lY A_13 W_13 Y_13 HB13 ho ht hcc
  have e0 := Y_14.out.at 0 rfl; have e1 := Y_14.out.at 1 rfl; have e2 := Y_14.out.at 2 rfl; have e3 := Y_14.out.at 3 rfl; have e4 := Y_14.out.at 4 rfl; have e5 := Y_14.out.at 5 rfl; have e6 := Y_14.out.at 6 rfl; have e7 := Y_14.out.at 7 rfl; have lY := Y_14.out.1
  go_wp2_with fail
  refine (heldHRK_any rr.co rr.h rr.ac rr.bu ga rr.n gc gt rr.N gk gTT gq rr.K gqc 1 _ Mg_14.out.src Mt_14.out.src Mc_14.out.src (by omega) (by omega) (by omega) (by omega)).mono ?_
  rintro e w15 ⟨rfl, hb⟩
  rw [← HMM.out]
  have HB15 := Lib.hid (thru0 HB14.out hb)
  have A_15 := Lib.hid (A_14.out.below hb); have W_15 := Lib.hid (W_14.out.below hb); have Y_15 := Lib.hid (Y_14.out.below hb)
  have Rw_15 := Lib.hid (Rw_14.out.below hb); have Tw_15 := Lib.hid (Tw_14.out.below hb); have Cw_15 := Lib.hid (Cw_14.out.below hb)
  have Mg_15 := Lib.hid (Mg_14.out.below hb); have Mt_15 := Lib.hid (Mt_14.out.below hb); have Mc_15 := Lib.hid (Mc_14.out.below hb)
  have z15 : w14.heap.size ≤ w15.heap.size := hb.size
  clear hb e0 e1 e2 e3 e4 e5 e6 e7 lY A_14 W_14 Y_14 HB14
  have c0 := A_15.out.at 0 rfl; have c1 := A_15.out.at 1 rfl; have c2 := A_15.out.at 2 rfl; have c3 := A_15.out.at 3 rfl; have c4 := A_15.out.at 4 rfl; have lA := A_15.out.1
  go_wp2_with fail
  refine (toHeap_any h ac bu a n c f ta N tc T _ (S1.out.below HB15.out) (T1.out.below HB15.out) hn1 hN1 HM1.out).mono ?_
  rintro e w16 ⟨va, vc, vt, vk, vm, V, rfl, p7, g7, _, _, s7, hb, vc1, vc2⟩
  have HB16 := Lib.hid (thru0 HB15.out hb)
  have W_16 := Lib.hid (W_15.out.below hb); have Y_16 := Lib.hid (Y_15.out.below hb); have P16 := Lib.hid p7.src; have G16 := Lib.hid g7.src; have S7 := Lib.hid s7; have C7 := Lib.hid vc2
  have Rw_16 := Lib.hid (Rw_15.out.below hb); have Tw_16 := Lib.hid (Tw_15.out.below hb); have Cw_16 := Lib.hid (Cw_15.out.below hb)
  have Mg_16 := Lib.hid (Mg_15.out.below hb); have Mt_16 := Lib.hid (Mt_15.out.below hb); have Mc_16 := Lib.hid (Mc_15.out.below hb)
  have z16 : w15.heap.size ≤ w16.heap.size := hb.size
  clear hb c0 c1 c2 c3 c4 lA A_15 W_15 Y_15 HB15 p7 g7 s7 vc2
  go_wp2_with fail
  refine (implCHs_any h ac bu va n vc f vt N vk V T rr _ P16.out vc1 C7.out G16.out (max_of hN1) (tnsame_max S7.out HM1.out) (tnw_nd HW.out S7.out) HK.out S7.out).mono ?_
  rintro e w17 ⟨ha, hc, ht, hk, hq, hqc, hl1, hl2, hTT, rfl, ho, ht, hcc, hz1, hz2, hz3, hsm, hb⟩
  have HB17 := Lib.hid (thru0 HB16.out hb)
  have W_17 := Lib.hid (W_16.out.below hb); have Y_17 := Lib.hid (Y_16.out.below hb)
  have Rw_17 := Lib.hid (Rw_16.out.below hb); have Tw_17 := Lib.hid (Tw_16.out.below hb); have Cw_17 := Lib.hid (Cw_16.out.below hb)
  have Mg_17 := Lib.hid (Mg_16.out.below hb); have Mt_17 := Lib.hid (Mt_16.out.below hb); have Mc_17 := Lib.hid (Mc_16.out.below hb)
  have z17 : w16.heap.size ≤ w17.heap.size := hb.size
  have Rh_17 := Lib.hid ho; have Th_17 := Lib.hid ht; have Ch_17 := Lib.hid hcc; have SMh := Lib.hid hsm
  have h72 : toff hTT rr.N ≤ 72 := by have := toff_le hTT rr.N (fun i hi => by have h1 := (hsm i hi).2.2.1; have h2 := HR8.out i hi; omega); omega
  clear hb W_16 Y_16 HB16 P16 G16 S7 C7 vc1 ho ht hcc hsm
  have d0 := W_17.out.at 0 rfl; have d1 := W_17.out.at 1 rfl; have d2 := W_17.out.at 2 rfl; have d3 := W_17.out.at 3 rfl; have d4 := W_17.out.at 4 rfl; have d5 := W_17.out.at 5 rfl; have d6 := W_17.out.at 6 rfl; have d7 := W_17.out.at 7 rfl; have lW := W_17.out.1
  have W_18 := Lib.hid (W_17.out.alloc (.cells #[.int .i64 rr.co, .int .i64 rr.h, .slice ha rr.n hc, .int .i64 rr.ac, .int .i64 rr.bu, .slice ht rr.N hk, .slice none 0 0, .slice hq rr.K hqc] 35)); have Y_18 := Lib.hid (Y_17.out.alloc (.cells #[.int .i64 rr.co, .int .i64 rr.h, .slice ha rr.n hc, .int .i64 rr.ac, .int .i64 rr.bu, .slice ht rr.N hk, .slice none 0 0, .slice hq rr.K hqc] 35))
  have HB18 := Lib.hid (HB17.out.alloc HB17.out.size (.cells #[.int .i64 rr.co, .int .i64 rr.h, .slice ha rr.n hc, .int .i64 rr.ac, .int .i64 rr.bu, .slice ht rr.N hk, .slice none 0 0, .slice hq rr.K hqc] 35))
  have Rw_18 := Lib.hid (Rw_17.out.alloc (.cells #[.int .i64 rr.co, .int .i64 rr.h, .slice ha rr.n hc, .int .i64 rr.ac, .int .i64 rr.bu, .slice ht rr.N hk, .slice none 0 0, .slice hq rr.K hqc] 35)); have Tw_18 := Lib.hid (Tw_17.out.alloc (.cells #[.int .i64 rr.co, .int .i64 rr.h, .slice ha rr.n hc, .int .i64 rr.ac, .int .i64 rr.bu, .slice ht rr.N hk, .slice none 0 0, .slice hq rr.K hqc] 35)); have Cw_18 := Lib.hid (Cw_17.out.alloc (.cells #[.int .i64 rr.co, .int .i64 rr.h, .slice ha rr.n hc, .int .i64 rr.ac, .int .i64 rr.bu, .slice ht rr.N hk, .slice none 0 0, .slice hq rr.K hqc] 35))
  have Mg_18 := Lib.hid (Mg_17.out.alloc (.cells #[.int .i64 rr.co, .int .i64 rr.h, .slice ha rr.n hc, .int .i64 rr.ac, .int .i64 rr.bu, .slice ht rr.N hk, .slice none 0 0, .slice hq rr.K hqc] 35)); have Mt_18 := Lib.hid (Mt_17.out.alloc (.cells #[.int .i64 rr.co, .int .i64 rr.h, .slice ha rr.n hc, .int .i64 rr.ac, .int .i64 rr.bu, .slice ht rr.N hk, .slice none 0 0, .slice hq rr.K hqc] 35)); have Mc_18 := Lib.hid (Mc_17.out.alloc (.cells #[.int .i64 rr.co, .int .i64 rr.h, .slice ha rr.n hc, .int .i64 rr.ac, .int .i64 rr.bu, .slice ht rr.N hk, .slice none 0 0, .slice hq rr.K hqc] 35))
  have Rh_18 := Lib.hid (Rh_17.out.alloc (.cells #[.int .i64 rr.co, .int .i64 rr.h, .slice ha rr.n hc, .int .i64 rr.ac, .int .i64 rr.bu, .slice ht rr.N hk, .slice none 0 0, .slice hq rr.K hqc] 35)); have Th_18 := Lib.hid (Th_17.out.alloc (.cells #[.int .i64 rr.co, .int .i64 rr.h, .slice ha rr.n hc, .int .i64 rr.ac, .int .i64 rr.bu, .slice ht rr.N hk, .slice none 0 0, .slice hq rr.K hqc] 35)); have Ch_18 := Lib.hid (Ch_17.out.alloc (.cells #[.int .i64 rr.co, .int .i64 rr.h, .slice ha rr.n hc, .int .i64 rr.ac, .int .i64 rr.bu, .slice ht rr.N hk, .slice none 0 0, .slice hq rr.K hqc] 35))
  go_wp2_with fail
  clear d0 d1 d2 d3 d4 d5 d6 d7 lW W_17 Y_17 HB17
  generalize w17.alloc (.cells #[.int .i64 rr.co, .int .i64 rr.h, .slice ha rr.n hc, .int .i64 rr.ac, .int .i64 rr.bu, .slice ht rr.N hk, .slice none 0 0, .slice hq rr.K hqc] 35) = w18 at *
  refine (eqHRK_same rr.co rr.h rr.ac rr.bu ha wa rr.n hc wc rr.f rr.f ht wt rr.N hk wk hTT wTT hq wq rr.K hqc wqc (fun _ => rr.mv) _ Rh_18.out.src Rw_18.out.src Th_18.out.src Tw_18.out.src (fun _ _ => rfl) (fun i hi => tnsame_trans (tnsame_symm (SMh.out i hi)) (SMw.out i hi)) (by omega) (by omega) (fun i hi => by have h1 := (SMh.out i hi).2.2.1; have h2 := HR8.out i hi; omega) Ch_18.out.src Cw_18.out.src (by omega)).mono ?_
  rintro e w19 ⟨rfl, hb⟩
  have HB19 := Lib.hid (thru0 HB18.out hb)
  have Y_19 := Lib.hid (Y_18.out.below hb)
  have Mg_19 := Lib.hid (Mg_18.out.below hb); have Mt_19 := Lib.hid (Mt_18.out.below hb); have Mc_19 := Lib.hid (Mc_18.out.below hb)
  clear hb W_18 Y_18 HB18
  have e0 := Y_19.out.at 0 rfl; have e1 := Y_19.out.at 1 rfl; have e2 := Y_19.out.at 2 rfl; have e3 := Y_19.out.at 3 rfl; have e4 := Y_19.out.at 4 rfl; have e5 := Y_19.out.at 5 rfl; have e6 := Y_19.out.at 6 rfl; have e7 := Y_19.out.at 7 rfl; have lY := Y_19.out.1
  go_wp2_with fail
  refine (heldHRK_any rr.co rr.h rr.ac rr.bu ga rr.n gc gt rr.N gk gTT gq rr.K gqc 1 _ Mg_19.out.src Mt_19.out.src Mc_19.out.src (by omega) (by omega) (by omega) (by omega)).mono ?_
  rintro e w20 ⟨rfl, hb⟩
  rw [← HMM.out]
  have HB20 := Lib.hid (thru0 HB19.out hb)
  clear hb e0 e1 e2 e3 e4 e5 e6 e7 lY
  go_wp2
  go_ret
  exact ⟨rfl, HB20.out⟩
end Go.Proofs.YtnpklnpicelcmaaGreat

