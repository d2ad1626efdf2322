/- Texts merged: HF1 to OPH. -/
import Derived.Test.YtnpklnpicelcmaaDoorPU3
namespace Go.Proofs.YtnpklnpicelcmaaDoor
open Go.RowKit
set_option linter.unusedVariables false

/-- What is wrong with a slot of a heap. -/
def slF (L : List Ob) (own : Int) (s : SL) : Int :=
  if ¬ (0 ≤ s.g ∧ s.g ≤ 99) then 3 else if s.nd = 0 then 0 else
  match findO L (s.nd - 1) with
  | none => 4
  | some x => if ¬ x.o = own then 6 else if s.g = 0 then 8 else 0

/-- What is wrong with the first slots. -/
def slsF (L : List Ob) (own : Int) (S : Nat → SL) : Nat → Int
  | 0 => 0
  | n + 1 => if slsF L own S n = 0 then slF L own (S n) else slsF L own S n

/-- What is wrong with a tenant. -/
def tnF (L : List Ob) (own : Int) (t : TN) : Int :=
  if ¬ ((2 ≤ t.q ∧ t.q ≤ 200) ∧ (0 ≤ t.h ∧ t.h ≤ 99999)) then 3 else if ¬ (1 ≤ t.n ∧ t.n ≤ 8) then 2 else slsF L own t.S t.n

/-- What is wrong with the first tenants. -/
def tnsF (L : List Ob) (T : Nat → TN) : Nat → Int
  | 0 => 0
  | n + 1 => if tnsF L T n = 0 then tnF L (n : Int) (T n) else tnsF L T n

/-- The places to which slots lead. -/
def rootsS (S : Nat → SL) : Nat → List Int := selL (fun j => !decide ((S j).nd = 0)) (fun j => (S j).nd - 1)

/-- How many words a tenant holds. -/
def heldT (f : Nat → Int) (L : List Ob) (t : TN) : Nat := sumW (wordsAt L) (reachO f L (rootsS t.S t.n))

/-- Whether one of the first tenants holds too much. -/
def quF (f : Nat → Int) (L : List Ob) (T : Nat → TN) : Nat → Int
  | 0 => 0
  | n + 1 => if quF f L T n = 0 then (if (T n).q < (heldT f L (T n) : Int) then 9 else 0) else quF f L T n

/-- What is wrong with a heap whose arena is right. -/
def hpF (f : Nat → Int) (L : List Ob) (h : Int) (N : Nat) (T : Nat → TN) : Int :=
  if ¬ (1 ≤ N ∧ N ≤ 4) then 2 else if ¬ tnsF L T N = 0 then tnsF L T N else if ¬ quF f L T N = 0 then quF f L T N else if h < sumF (fun i => (T i).q) N then 7 else 0

/-- What HeapFault answers. -/
def IsHpF (h : Int) (n : Nat) (f : Nat → Int) (ac bu : Int) (N : Nat) (T : Nat → TN) (k : Int) : Prop :=
  (IsSF h n f ac bu k ∧ ¬ k = 0) ∨ (IsSF h n f ac bu 0 ∧ ∃ L, IsOI h n f ac bu 0 L ∧ k = hpF f L h N T)

theorem isHpF_some (h : Int) (n : Nat) (f : Nat → Int) (ac bu : Int) (N : Nat) (T : Nat → TN) : ∃ k, IsHpF h n f ac bu N T k := by
  obtain ⟨k, hk⟩ := isSF_some h n f ac bu
  by_cases h0 : k = 0
  · subst h0
    obtain ⟨L, hL⟩ := isSF_zero hk
    exact ⟨_, .inr ⟨hk, L, hL, rfl⟩⟩
  · exact ⟨k, .inl ⟨hk, h0⟩⟩

theorem slsF_stop {L : List Ob} {own : Int} {S : Nat → SL} {i : Nat} : ∀ {n : Nat}, i < n → slsF L own S i = 0 → ¬ slF L own (S i) = 0 → slsF L own S n = slF L own (S i)
  | 0, h, _, _ => absurd h (Nat.not_lt_zero _)
  | n + 1, h, h0, h1 => by
    rcases Nat.lt_succ_iff_lt_or_eq.mp h with h2 | rfl
    · have := slsF_stop h2 h0 h1
      rw [slsF, if_neg (by rw [this]; exact h1), this]
    · rw [slsF, if_pos h0]

theorem slsF_next {L : List Ob} {own : Int} {S : Nat → SL} {i : Nat} (h0 : slsF L own S i = 0) (h1 : slF L own (S i) = 0) : slsF L own S (i + 1) = 0 := by rw [slsF, if_pos h0, h1]

theorem slsF_all {L : List Ob} {own : Int} {S : Nat → SL} : ∀ {n : Nat}, slsF L own S n = 0 → ∀ i, i < n → slF L own (S i) = 0
  | 0, _, i, h => absurd h (Nat.not_lt_zero _)
  | n + 1, h, i, hi => by
    have h0 : slsF L own S n = 0 := by
      by_cases h0 : slsF L own S n = 0
      · exact h0
      · rw [slsF, if_neg h0] at h; exact h
    rw [slsF, if_pos h0] at h
    rcases Nat.lt_succ_iff_lt_or_eq.mp hi with h2 | rfl
    · exact slsF_all h0 i h2
    · exact h

theorem tnsF_stop {L : List Ob} {T : Nat → TN} {i : Nat} : ∀ {n : Nat}, i < n → tnsF L T i = 0 → ¬ tnF L (i : Int) (T i) = 0 → tnsF L T n = tnF L (i : Int) (T i)
  | 0, h, _, _ => absurd h (Nat.not_lt_zero _)
  | n + 1, h, h0, h1 => by
    rcases Nat.lt_succ_iff_lt_or_eq.mp h with h2 | rfl
    · have := tnsF_stop h2 h0 h1
      rw [tnsF, if_neg (by rw [this]; exact h1), this]
    · rw [tnsF, if_pos h0]

theorem tnsF_next {L : List Ob} {T : Nat → TN} {i : Nat} (h0 : tnsF L T i = 0) (h1 : tnF L (i : Int) (T i) = 0) : tnsF L T (i + 1) = 0 := by rw [tnsF, if_pos h0, h1]

theorem tnsF_all {L : List Ob} {T : Nat → TN} : ∀ {n : Nat}, tnsF L T n = 0 → ∀ i, i < n → tnF L (i : Int) (T i) = 0
  | 0, _, i, h => absurd h (Nat.not_lt_zero _)
  | n + 1, h, i, hi => by
    have h0 : tnsF L T n = 0 := by
      by_cases h0 : tnsF L T n = 0
      · exact h0
      · rw [tnsF, if_neg h0] at h; exact h
    rw [tnsF, if_pos h0] at h
    rcases Nat.lt_succ_iff_lt_or_eq.mp hi with h2 | rfl
    · exact tnsF_all h0 i h2
    · exact h

theorem quF_stop {f : Nat → Int} {L : List Ob} {T : Nat → TN} {i : Nat} : ∀ {n : Nat}, i < n → quF f L T i = 0 → (T i).q < (heldT f L (T i) : Int) → quF f L T n = 9
  | 0, h, _, _ => absurd h (Nat.not_lt_zero _)
  | n + 1, h, h0, h1 => by
    rcases Nat.lt_succ_iff_lt_or_eq.mp h with h2 | rfl
    · have := quF_stop h2 h0 h1
      rw [quF, if_neg (by rw [this]; omega), this]
    · rw [quF, if_pos h0, if_pos h1]

theorem quF_next {f : Nat → Int} {L : List Ob} {T : Nat → TN} {i : Nat} (h0 : quF f L T i = 0) (h1 : ¬ (T i).q < (heldT f L (T i) : Int)) : quF f L T (i + 1) = 0 := by rw [quF, if_pos h0, if_neg h1]

/-- A tenant that is right. -/
structure TnOk (L : List Ob) (own : Int) (t : TN) : Prop where
  q : 2 ≤ t.q ∧ t.q ≤ 200
  h : 0 ≤ t.h ∧ t.h ≤ 99999
  n : 1 ≤ t.n ∧ t.n ≤ 8
  s : ∀ j, j < t.n → slF L own (t.S j) = 0

theorem tnF_ok {L : List Ob} {own : Int} {t : TN} (h : tnF L own t = 0) : TnOk L own t := by
  unfold tnF at h
  by_cases h1 : (2 ≤ t.q ∧ t.q ≤ 200) ∧ (0 ≤ t.h ∧ t.h ≤ 99999)
  · rw [if_neg (fun hn => hn h1)] at h
    by_cases h2 : 1 ≤ t.n ∧ t.n ≤ 8
    · rw [if_neg (fun hn => hn h2)] at h
      exact ⟨h1.1, h1.2, h2, slsF_all h⟩
    · rw [if_pos h2] at h; omega
  · rw [if_pos h1] at h; omega

/-- A slot that is right leads nowhere, or to an object of the owner. -/
theorem slF_ok {L : List Ob} {own : Int} {s : SL} (h : slF L own s = 0) : (0 ≤ s.g ∧ s.g ≤ 99) ∧ (s.nd = 0 ∨ (∃ x, findO L (s.nd - 1) = some x ∧ x.o = own) ∧ ¬ s.g = 0) := by
  unfold slF at h
  by_cases h1 : 0 ≤ s.g ∧ s.g ≤ 99
  · refine ⟨h1, ?_⟩
    rw [if_neg (fun hn => hn h1)] at h
    by_cases h2 : s.nd = 0
    · exact .inl h2
    · rw [if_neg h2] at h
      cases hf : findO L (s.nd - 1) with
      | none => rw [hf] at h; simp at h
      | some x =>
        rw [hf] at h
        simp only at h
        by_cases h3 : x.o = own
        · rw [if_neg (fun hn => hn h3)] at h
          by_cases h4 : s.g = 0
          · rw [if_pos h4] at h; omega
          · exact .inr ⟨⟨x, rfl, h3⟩, h4⟩
        · rw [if_pos h3] at h; omega
  · rw [if_pos h1] at h; omega

theorem rootsS_yes {S : Nat → SL} {i : Nat} (h : ¬ (S i).nd = 0) : rootsS S (i + 1) = rootsS S i ++ [(S i).nd - 1] := selL_yes (by simp [h])

theorem rootsS_no {S : Nat → SL} {i : Nat} (h : (S i).nd = 0) : rootsS S (i + 1) = rootsS S i := selL_no (by simp [h])

theorem rootsS_len (S : Nat → SL) (n : Nat) : (rootsS S n).length ≤ n := selL_len _ _ _

theorem mem_rootsS {S : Nat → SL} {p : Int} : ∀ {n : Nat}, p ∈ rootsS S n → ∃ j, j < n ∧ ¬ (S j).nd = 0 ∧ p = (S j).nd - 1
  | 0, h => by cases h
  | n + 1, h => by
    by_cases h0 : (S n).nd = 0
    · rw [rootsS_no h0] at h
      obtain ⟨j, h1, h2⟩ := mem_rootsS h
      exact ⟨j, by omega, h2⟩
    · rw [rootsS_yes h0] at h
      rcases List.mem_append.mp h with h | h
      · obtain ⟨j, h1, h2⟩ := mem_rootsS h
        exact ⟨j, by omega, h2⟩
      · simp only [List.mem_singleton] at h
        exact ⟨n, by omega, h0, h⟩

theorem rootsS_in {L : List Ob} {own : Int} {t : TN} (h : TnOk L own t) : ∀ p ∈ rootsS t.S t.n, p ∈ placesO L := fun p hp => by
  obtain ⟨j, h1, h2, rfl⟩ := mem_rootsS hp
  obtain ⟨_, h3 | ⟨⟨x, h3, _⟩, _⟩⟩ := slF_ok (h.s j h1)
  · exact absurd h3 h2
  · exact mem_placesO.2 ⟨x, h3⟩

theorem rootsS_congr {S U : Nat → SL} {n : Nat} (h : ∀ j, j < n → S j = U j) : rootsS S n = rootsS U n := selL_congr fun i hi => by rw [h i hi]; exact ⟨rfl, rfl⟩

theorem slsF_congr {L : List Ob} {own : Int} {S U : Nat → SL} : ∀ {n : Nat}, (∀ j, j < n → S j = U j) → slsF L own S n = slsF L own U n
  | 0, _ => rfl
  | n + 1, h => by rw [slsF, slsF, slsF_congr fun j hj => h j (by omega), h n (by omega)]

theorem tnF_same {L : List Ob} {own : Int} {t u : TN} (h : TnSame t u) : tnF L own u = tnF L own t := by
  obtain ⟨h1, h2, h3, h4⟩ := h
  unfold tnF
  rw [← h1, ← h2, ← h3, slsF_congr (fun j hj => (h4 j hj).symm)]

theorem heldT_same {f : Nat → Int} {L : List Ob} {t u : TN} (h : TnSame t u) : heldT f L u = heldT f L t := by
  obtain ⟨h1, h2, h3, h4⟩ := h
  unfold heldT
  rw [← h3, rootsS_congr (fun j hj => (h4 j hj).symm)]

theorem tnsF_same {L : List Ob} {T U : Nat → TN} : ∀ {N : Nat}, (∀ i, i < N → TnSame (T i) (U i)) → tnsF L U N = tnsF L T N
  | 0, _ => rfl
  | n + 1, h => by rw [tnsF, tnsF, tnsF_same fun i hi => h i (by omega), tnF_same (h n (by omega))]

theorem quF_same {f : Nat → Int} {L : List Ob} {T U : Nat → TN} : ∀ {N : Nat}, (∀ i, i < N → TnSame (T i) (U i)) → quF f L U N = quF f L T N
  | 0, _ => rfl
  | n + 1, h => by rw [quF, quF, quF_same fun i hi => h i (by omega), heldT_same (h n (by omega)), (h n (by omega)).1]

theorem sumF_same {T U : Nat → TN} : ∀ {N : Nat}, (∀ i, i < N → TnSame (T i) (U i)) → sumF (fun i => (U i).q) N = sumF (fun i => (T i).q) N
  | 0, _ => rfl
  | n + 1, h => by rw [sumF, sumF, sumF_same fun i hi => h i (by omega), (h n (by omega)).1]

theorem isHpF_same {h : Int} {n : Nat} {f : Nat → Int} {ac bu : Int} {N : Nat} {T U : Nat → TN} {k : Int} (hk : IsHpF h n f ac bu N T k) (hs : ∀ i, i < N → TnSame (T i) (U i)) : IsHpF h n f ac bu N U k := by
  rcases hk with hk | ⟨hk, L, hL, rfl⟩
  · exact .inl hk
  · refine .inr ⟨hk, L, hL, ?_⟩
    unfold hpF
    rw [tnsF_same hs, quF_same hs, sumF_same hs]
end Go.Proofs.YtnpklnpicelcmaaDoor

namespace Go.Proofs.YtnpklnpicelcmaaDoor
open Go.RowKit
set_option linter.unusedVariables false

theorem nums_one_more (L : List Int) (x : Int) (B : Nat) (w : World) (v : Value) (h : w.ownsRow B 2 1 v (L.length + 1) (nums L.length (lf L) ++ [.int .i64 x])) : w.ownsRow B 2 1 v (L ++ [x]).length (nums (L ++ [x]).length (lf (L ++ [x]))) := by
  rw [show (L ++ [x]).length = L.length + 1 by simp, ← nums_snoc]; exact h

set_option maxRecDepth 100000 in
set_option maxHeartbeats 1600000 in
theorem l7RootsOf_any (b o : Nat) (t : TN) (w : World) (hb : b < w.heap.size) (hg : ThrG w b o t) (hp : PV w t.a t.n t.S) (hn : t.n ≤ 8) (hs : ∀ j, j < t.n → (t.S j).nd = 0 ∨ (1 ≤ (t.S j).nd ∧ (t.S j).nd ≤ 1000001)) :
    Calls Tryd.prog 38 #[.pointer (some ⟨b, o, none⟩)] w (RetInts w (rootsS t.S t.n).length (lf (rootsS t.S t.n))) := by
  obtain ⟨i0, hif, hz0, hz1, hz2⟩ := info_parts Tryd.info2
  have P := Lib.hid hp; have G := Lib.hid hg; have HS := Lib.hid hs
  have OWa : Hid ((w.alloc (.cells #[] 2)).ownsRow w.heap.size 2 1 (.slice (some ⟨w.heap.size, 0, none⟩) 0 0) ([] : List Int).length (nums ([] : List Int).length (lf []))) := World.ownsRow_lit w #[] 0 (Nat.le_refl _) (by simp [maxLen]) rfl
  have HBa : Hid (Below w.heap.size w (w.alloc (.cells #[] 2))) := (Below.refl _ _).alloc (Nat.le_refl _) _
  clear hp hg hs
  go_enter Tryd.func38, Tryd.ntmps38
  go_wp2
  go_loopw [3, 4] (fun u p wr => ∃ (i : Nat) (L : List Int), i ≤ t.n ∧ p = .int .i64 (i : Int) ∧ Hid (L = rootsS t.S i) ∧ Hid (Below w.heap.size w wr) ∧ Hid (wr.ownsRow w.heap.size 2 1 u L.length (nums L.length (lf L)))) (fun _ p _ => t.n - (intOf p).toNat)
  case atStart => exact ⟨0, [], Nat.zero_le _, rfl, Lib.hid rfl, HBa, OWa⟩
  case round =>
    clear OWa HBa
    obtain ⟨i, L, hi, rfl, HL, HB_r, OW_r⟩ := hrel
    have hzr := HB_r.out.size
    have hbr : b < wr.heap.size := by omega
    obtain ⟨g0, g1, g2⟩ := G.out.below HB_r.out hb
    by_cases hlt : i < t.n
    · have hlt' : (i : Int) < (t.n : Int) := by omega
      have hi0 : (0 : Int) ≤ (i : Int) := by omega
      obtain ⟨pb, pq, hta, lp, s0, s1⟩ := pv_get (P.out.below HB_r.out) hlt
      have hll : L.length ≤ i := by rw [HL.out]; exact rootsS_len _ _
      have hrg := HS.out i hlt
      rw [hta] at g2
      by_cases hz : (t.S i).nd = 0
      · have HL2 : Hid (L = rootsS t.S (i + 1)) := Lib.hid (by rw [HL.out, rootsS_no hz])
        rw [hz] at s1
        clear HL hz hrg hta
        go_wp2
        go_roundw
        case rel => first | exact ⟨i + 1, L, by omega, by go_num, HL2, HB_r, OW_r⟩ | ((repeat apply Exists.intro); exact ⟨⟨i + 1, L, by omega, by go_num, HL2, HB_r, OW_r⟩, rfl⟩)
        case measure => simp [intOf]; omega
      · have HL2 : Hid (L ++ [(t.S i).nd - 1] = rootsS t.S (i + 1)) := Lib.hid (by rw [HL.out, rootsS_yes hz])
        have hq : ((t.S i).nd != 0) = true := by simp [hz]
        have hr1 : 1 ≤ (t.S i).nd := by omega
        have hr2 : (t.S i).nd ≤ 1000001 := by omega
        have HGE : Hid (∀ k, u3.ownBlock = some k → w.heap.size ≤ k) := Lib.hid (fun k hk => (OW_r.out.lt k hk).1)
        generalize (t.S i).nd = y at *
        clear HL hz hrg hta
        go_wp2_with (at_builtin; go_loud (refine wpList_append_lies _ rfl _ _ 22 rfl w.heap.size 2 i0 (.int .i64 0) 1 8 Tryd.underlying22 hif hz0 hz1 hz2 rfl (by decide) u3 L.length (nums L.length (lf L)) rfl (OW_r.out.alloc _) ⟨wr.heap.size, 0, none⟩ 1 1 [.int .i64 (y - 1)] rfl rfl (news1 wr (y - 1)) (by intro u hu; simp only [List.mem_cons, List.mem_nil_iff, or_false] at hu; subst hu; rfl) (by omega) (by unfold maxLen; omega) (by omega) (by simp; omega) (wr.heap.size + 1) (by simp) ?_); intro g9 cap9 w9 hown9 hgrow9 hat9 hlt9)
        have HB9 : Hid (Below w.heap.size w w9) := (HB_r.out.alloc hzr _).grown hgrow9 (by simp; omega) (fun k hk => HGE.out k hk)
        have OW9 := Lib.hid (nums_one_more L (y - 1) _ _ _ hown9)
        clear hown9 hgrow9 hat9 s0 s1 g0 g1 g2 hq
        go_wp2
        go_roundw
        case rel => first | exact ⟨i + 1, L ++ [y - 1], by omega, by go_num, HL2, HB9, OW9⟩ | ((repeat apply Exists.intro); exact ⟨⟨i + 1, L ++ [y - 1], by omega, by go_num, HL2, HB9, OW9⟩, rfl⟩)
        case measure => simp [intOf]; omega
    · have hlt' : ¬ (i : Int) < (t.n : Int) := by omega
      obtain rfl : i = t.n := by omega
      have HRet := Lib.hid (retInts_of_row OW_r.out HB_r.out)
      have hL := HL.out
      subst hL
      go_wp2
      go_ret
      exact HRet.out
end Go.Proofs.YtnpklnpicelcmaaDoor

namespace Go.Proofs.YtnpklnpicelcmaaDoor
open Go.RowKit
set_option linter.unusedVariables false

theorem findO_far {L : List Ob} {y : Int} (hp : ∀ x ∈ L, 0 ≤ x.at_ ∧ x.at_ ≤ 1000000) (hy : y < 0 ∨ 1000000 < y) : findO L y = none := by
  cases hf : findO L y with
  | none => rfl
  | some x =>
    have h1 := hp x (List.mem_of_find?_eq_some hf)
    rw [findO_place hf] at h1
    omega

theorem oms_place {w : World} {base lo : Nat} {f : Nat → Int} {v : Value} {M : List OM} (hm : OMS w base lo f v M) : ∀ x ∈ M.map OM.x, 0 ≤ x.at_ ∧ x.at_ ≤ 1000000 := fun x hx => by
  obtain ⟨t, ht, rfl⟩ := List.mem_map.mp hx
  exact (hm.ok t ht).2.2.1

theorem oms_size {w : World} {base lo : Nat} {f : Nat → Int} {v : Value} {M : List OM} (hm : OMS w base lo f v M) : ∀ x ∈ M.map OM.x, 0 ≤ x.s := fun x hx => by
  obtain ⟨t, ht, rfl⟩ := List.mem_map.mp hx
  exact (hm.ok t ht).1.1

theorem tnok_nd {L : List Ob} {own : Int} {t : TN} (h : TnOk L own t) (hp : ∀ x ∈ L, 0 ≤ x.at_ ∧ x.at_ ≤ 1000000) : ∀ j, j < t.n → (t.S j).nd = 0 ∨ (1 ≤ (t.S j).nd ∧ (t.S j).nd ≤ 1000001) := fun j hj => by
  obtain ⟨_, h1 | ⟨⟨x, h1, _⟩, _⟩⟩ := slF_ok (h.s j hj)
  · exact .inl h1
  · have h2 := hp x (List.mem_of_find?_eq_some h1)
    rw [findO_place h1] at h2
    exact .inr (by omega)

set_option maxRecDepth 100000 in
set_option maxHeartbeats 1600000 in
theorem l7Held_any (B : Nat) (h ac bu : Int) (a : Option Addr) (n c : Nat) (ta : Option Addr) (N tc : Nat) (T : Nat → TN) (v : Value) (M : List OM) (base lo : Nat) (f : Nat → Int) (i : Nat) (w : World)
    (hB : Blk w B [.int .i64 h, .slice a n c, .int .i64 ac, .int .i64 bu, .slice ta N tc]) (ht : TV w ta N T) (hm : OMS w base lo f v M) (hp : Points f (M.map OM.x)) (hi : i < N) (hN : N ≤ 4) (hok : TnOk (M.map OM.x) (i : Int) (T i)) :
    Calls Tryd.prog 24 #[.pointer (some ⟨B, 0, none⟩), v, .int .i64 i] w fun e w' => e = .returned (.int .i64 (heldT f (M.map OM.x) (T i) : Int)) ∧ Below w.heap.size w w' := by
  obtain ⟨tb, tq, rfl, lt, htn, hsl⟩ := tv_get ht hi
  have hi' : (i : Int) < (N : Int) := by omega
  have hi0 : (0 : Int) ≤ (i : Int) := by omega
  have b4 := hB.at 4 rfl; have lB := hB.1
  have HM := Lib.hid hm; have HP := Lib.hid hp; have HOK := Lib.hid hok; have HT := Lib.hid htn; have HS := Lib.hid hsl
  clear hB ht hm hp hok htn hsl
  go_enter Tryd.func24, Tryd.ntmps24
  go_wp2_with fail
  refine (l7RootsOf_any tb (tq + i * 3) (T i) _ lt HT.out HS.out HOK.out.n.2 (tnok_nd HOK.out (oms_place HM.out))).mono ?_
  rintro e w1 ⟨ra, rc, rfl, ho, hb, _, _, _⟩
  have HB1 := Lib.hid hb; have HR := Lib.hid ho.src
  have hrl : (rootsS (T i).S (T i).n).length ≤ 8 := Nat.le_trans (rootsS_len _ _) HOK.out.n.2
  clear ho hb b4 lB
  go_wp2_with fail
  refine (l4Reach_any v M base lo ra (rootsS (T i).S (T i).n) rc f _ (HM.out.below HB1.out) HP.out HR.out (by omega) (rootsS_in HOK.out)).mono ?_
  rintro e w2 ⟨qa, qc, rfl, ho, hb, _, _, _⟩
  have HB2 := Lib.hid (thru0 HB1.out hb); have HQ := Lib.hid ho.src
  clear ho hb
  have hql : (reachO f (M.map OM.x) (rootsS (T i).S (T i).n)).length ≤ 400 := by
    have := reachO_length HP.out (oms_size HM.out) (rootsS_in HOK.out)
    have := HM.out.len
    simp at *
    omega
  go_wp2_with fail
  refine (l4Words_any v M base lo qa (reachO f (M.map OM.x) (rootsS (T i).S (T i).n)) qc f _ (HM.out.below HB2.out) HQ.out hql (reachO_sub HP.out (oms_size HM.out) (rootsS_in HOK.out))).mono ?_
  rintro e w3 ⟨rfl, rfl⟩
  go_wp2
  go_ret
  exact ⟨rfl, HB2.out⟩

set_option maxRecDepth 100000 in
set_option maxHeartbeats 3200000 in
theorem l7Slots_any (b o : Nat) (t : TN) (v : Value) (M : List OM) (base lo : Nat) (f : Nat → Int) (own : Int) (w : World) (hb : b < w.heap.size) (hg : ThrG w b o t) (hp : PV w t.a t.n t.S) (hm : OMS w base lo f v M) (hn : t.n ≤ 8)
    (hr : ∀ j, j < t.n → -9223372036854775808 ≤ (t.S j).nd ∧ (t.S j).nd ≤ 9223372036854775807) :
    Calls Tryd.prog 71 #[.pointer (some ⟨b, o, none⟩), v, .int .i64 own] w fun e w' => e = .returned (.int .i64 (slsF (M.map OM.x) own t.S t.n)) ∧ Below w.heap.size w w' := by
  have P := Lib.hid hp; have G := Lib.hid hg; have HM := Lib.hid hm; have HR := Lib.hid hr
  have hPL := Lib.hid (oms_place hm)
  obtain ⟨a1, k1, rfl⟩ := row_nil hm.row
  clear hp hg hm hr
  go_enter Tryd.func71, Tryd.ntmps71
  go_wp2
  go_loopw [7] (fun p wr => ∃ i : Nat, i ≤ t.n ∧ p = .int .i64 (i : Int) ∧ Hid (slsF (M.map OM.x) own t.S i = 0) ∧ Hid (Below w.heap.size w wr)) (fun p _ => t.n - (intOf p).toNat)
  case atStart => exact ⟨0, Nat.zero_le _, rfl, Lib.hid rfl, Below.refl _ _⟩
  case round =>
    obtain ⟨i, hi, rfl, H0, HB_r⟩ := hrel
    have hzr := HB_r.out.size
    have hbr : b < wr.heap.size := by omega
    obtain ⟨g0, g1, g2⟩ := G.out.below HB_r.out hb
    by_cases hlt : i < t.n
    · have hlt' : (i : Int) < (t.n : Int) := by omega
      have hi0 : (0 : Int) ≤ (i : Int) := by omega
      obtain ⟨pb, pq, hta, lp, s0, s1⟩ := pv_get (P.out.below HB_r.out) hlt
      rw [hta] at g2
      have HBA : Hid (Below w.heap.size w (wr.alloc (.cells #[.int .i64 (t.S i).g, .int .i64 (t.S i).nd] 125))) := Lib.hid (HB_r.out.alloc hzr _)
      have HST := Lib.hid (fun h1 => slsF_stop (L := M.map OM.x) (own := own) (S := t.S) hlt H0.out h1)
      have HNX := Lib.hid (fun h1 => slsF_next (L := M.map OM.x) (own := own) (S := t.S) (i := i) H0.out h1)
      have hrg := HR.out i hlt
      by_cases hgen : 0 ≤ (t.S i).g ∧ (t.S i).g ≤ 99
      · obtain ⟨hg0, hg9⟩ := hgen
        by_cases hz : (t.S i).nd = 0
        · have HK := Lib.hid (HNX.out (by unfold slF; rw [if_neg (fun h => h ⟨hg0, hg9⟩), if_pos hz]))
          have hq : ((t.S i).nd == 0) = true := by simp [hz]
          clear hta HST HNX hz
          generalize t.S i = s at *
          go_wp2_with fail
          refine (l1In_yes s.g 0 99 _ hg0 hg9).mono ?_
          rintro e w2 ⟨rfl, rfl⟩
          go_wp2
          go_roundw
          case rel => first | exact ⟨i + 1, by omega, by go_num, HK, HBA⟩ | ((repeat apply Exists.intro); exact ⟨⟨i + 1, by omega, by go_num, HK, HBA⟩, rfl⟩)
          case measure => simp [intOf]; omega
        · have hq : ((t.S i).nd == 0) = false := by simp [hz]
          have HMA := Lib.hid (HM.out.below HBA.out)
          cases hf : findO (M.map OM.x) ((t.S i).nd - 1) with
          | none =>
            have HK : Hid (slsF (M.map OM.x) own t.S t.n = 4) := Lib.hid (by
              have e : slF (M.map OM.x) own (t.S i) = 4 := by unfold slF; rw [if_neg (fun h => h ⟨hg0, hg9⟩), if_neg hz, hf]
              rw [HST.out (by rw [e]; omega), e])
            obtain ⟨y, hy, hfy⟩ : ∃ y, IntKind.i64.wrap ((t.S i).nd - 1) = y ∧ findO (M.map OM.x) y = none := by
              by_cases hmin : (t.S i).nd = -9223372036854775808
              · exact ⟨_, rfl, findO_far hPL.out (by rw [hmin]; right; decide)⟩
              · exact ⟨_, IntWalk.i64_in _ (by omega), hf⟩
            have HFY := Lib.hid hfy
            clear hta HST HNX hz hf hfy hrg
            generalize t.S i = s at *
            go_wp2_with fail
            refine (l1In_yes s.g 0 99 _ hg0 hg9).mono ?_
            rintro e w2 ⟨rfl, rfl⟩
            go_wp2_with fail
            refine (l3Find_any _ M base y _ HMA.out.row HMA.out.len).mono ?_
            rintro e w2 ⟨rfl, ⟨_, rfl⟩ | ⟨j, x, hx, _⟩⟩
            · go_wp2
              go_ret
              exact ⟨by rw [HK.out]; rfl, HBA.out⟩
            · rw [HFY.out] at hx; cases hx
          | some x =>
            have hxb := hPL.out x (List.mem_of_find?_eq_some hf)
            rw [findO_place hf] at hxb
            have hr1 : 1 ≤ (t.S i).nd := by omega
            have hr2 : (t.S i).nd ≤ 1000001 := by omega
            have HF := Lib.hid hf
            have HSF : Hid (slF (M.map OM.x) own (t.S i) = if ¬ x.o = own then 6 else if (t.S i).g = 0 then 8 else 0) := Lib.hid (by unfold slF; rw [if_neg (fun h => h ⟨hg0, hg9⟩), if_neg hz, hf])
            have HC : Hid ((¬ x.o = own ∧ slsF (M.map OM.x) own t.S t.n = 6) ∨ (x.o = own ∧ (t.S i).g = 0 ∧ slsF (M.map OM.x) own t.S t.n = 8) ∨ (x.o = own ∧ ¬ (t.S i).g = 0 ∧ slsF (M.map OM.x) own t.S (i + 1) = 0)) := Lib.hid (by
              by_cases h1 : x.o = own
              · by_cases h2 : (t.S i).g = 0
                · have e : slF (M.map OM.x) own (t.S i) = 8 := by rw [HSF.out, if_neg (fun h => h h1), if_pos h2]
                  exact .inr (.inl ⟨h1, h2, by rw [HST.out (by rw [e]; omega), e]⟩)
                · exact .inr (.inr ⟨h1, h2, HNX.out (by rw [HSF.out, if_neg (fun h => h h1), if_neg h2])⟩)
              · have e : slF (M.map OM.x) own (t.S i) = 6 := by rw [HSF.out, if_pos h1]
                exact .inl ⟨h1, by rw [HST.out (by rw [e]; omega), e]⟩)
            clear hta HST HNX HSF hz hf hrg hxb
            generalize t.S i = s at *
            go_wp2_with fail
            refine (l1In_yes s.g 0 99 _ hg0 hg9).mono ?_
            rintro e w2 ⟨rfl, rfl⟩
            go_wp2_with fail
            refine (l3Find_any _ M base (s.nd - 1) _ HMA.out.row HMA.out.len).mono ?_
            rintro e w2 ⟨rfl, ⟨h0, rfl⟩ | ⟨j, x', hx, hj, rfl⟩⟩
            · rw [HF.out] at h0; cases h0
            · rw [HF.out] at hx
              simp only [Option.some.injEq] at hx
              subst hx
              obtain ⟨gb, gc, -, -, e1, hjm, l1, -, -, -, x3, -⟩ := HMA.out.get hj
              simp only [Value.slice.injEq] at e1
              obtain ⟨rfl, -, rfl⟩ := e1
              have hj' : (j : Int) < (M.length : Int) := by omega
              have hj0 : (0 : Int) ≤ (j : Int) := by omega
              clear hj HF
              rcases HC.out with ⟨h1, h2⟩ | ⟨h1, h2, h3⟩ | ⟨h1, h2, h3⟩
              · have hq2 : (x.o != own) = true := by simp [h1]
                have HK := Lib.hid h2
                clear HC h1 h2
                go_wp2
                go_ret
                exact ⟨by rw [HK.out]; rfl, HBA.out⟩
              · have hq2 : (x.o != own) = false := by simp [h1]
                have hq3 : (s.g == 0) = true := by simp [h2]
                have HK := Lib.hid h3
                clear HC h1 h2 h3
                go_wp2
                go_ret
                exact ⟨by rw [HK.out]; rfl, HBA.out⟩
              · have hq2 : (x.o != own) = false := by simp [h1]
                have hq3 : (s.g == 0) = false := by simp [h2]
                have HK := Lib.hid h3
                clear HC h1 h2 h3
                go_wp2
                go_roundw
                case rel => first | exact ⟨i + 1, by omega, by go_num, HK, HBA⟩ | ((repeat apply Exists.intro); exact ⟨⟨i + 1, by omega, by go_num, HK, HBA⟩, rfl⟩)
                case measure => simp [intOf]; omega
      · have HK : Hid (slsF (M.map OM.x) own t.S t.n = 3) := Lib.hid (by
          have e : slF (M.map OM.x) own (t.S i) = 3 := by unfold slF; rw [if_pos hgen]
          rw [HST.out (by rw [e]; omega), e])
        have HG := Lib.hid hgen
        clear hta HST HNX hgen
        generalize t.S i = s at *
        go_wp2_with fail
        refine (l1In_no s.g 0 99 _ HG.out).mono ?_
        rintro e w2 ⟨rfl, rfl⟩
        go_wp2
        go_ret
        exact ⟨by rw [HK.out]; rfl, HBA.out⟩
    · have hlt' : ¬ (i : Int) < (t.n : Int) := by omega
      obtain rfl : i = t.n := by omega
      go_wp2
      go_ret
      exact ⟨by rw [H0.out]; rfl, HB_r.out⟩
end Go.Proofs.YtnpklnpicelcmaaDoor

namespace Go.Proofs.YtnpklnpicelcmaaDoor
open Go.RowKit
set_option linter.unusedVariables false

set_option maxRecDepth 100000 in
set_option maxHeartbeats 3200000 in
theorem l7Tenants_any (B : Nat) (h ac bu : Int) (a : Option Addr) (n c : Nat) (ta : Option Addr) (N tc : Nat) (T : Nat → TN) (v : Value) (M : List OM) (base lo : Nat) (f : Nat → Int) (k : Int) (w : World)
    (hB : Blk w B [.int .i64 h, .slice a n c, .int .i64 ac, .int .i64 bu, .slice ta N tc]) (ht : TV w ta N T) (hN : N ≤ maxLen) (hn : ∀ i, i < N → (T i).n ≤ maxLen) (hm : OMS w base lo f v M) (hr : ∀ i, i < N → ∀ j, j < (T i).n → -9223372036854775808 ≤ ((T i).S j).nd ∧ ((T i).S j).nd ≤ 9223372036854775807)
    (hk : (¬ (1 ≤ N ∧ N ≤ 4) ∧ k = 2) ∨ ((1 ≤ N ∧ N ≤ 4) ∧ k = tnsF (M.map OM.x) T N)) :
    Calls Tryd.prog 47 #[.pointer (some ⟨B, 0, none⟩), v] w fun e w' => e = .returned (.int .i64 k) ∧ Below w.heap.size w w' := by
  have BB := Lib.hid hB; have HT := Lib.hid ht; have HM := Lib.hid hm; have HR := Lib.hid hr; have HN := Lib.hid hn
  unfold maxLen at hN
  have b4 := hB.at 4 rfl; have lB := hB.1
  clear hB ht hm hr hn
  rcases hk with ⟨hk, rfl⟩ | ⟨⟨hk1, hk4⟩, rfl⟩
  · rcases (by omega : N = 0 ∨ 4 < N) with rfl | h4
    · go_enter Tryd.func47, Tryd.ntmps47
      go_wp2
      go_ret
      exact ⟨rfl, Below.refl _ _⟩
    · have h1' : ¬ (N : Int) < 1 := by omega
      have h4' : (4 : Int) < (N : Int) := by omega
      clear hk
      go_enter Tryd.func47, Tryd.ntmps47
      go_wp2
      go_ret
      exact ⟨rfl, Below.refl _ _⟩
  · have h1' : ¬ (N : Int) < 1 := by omega
    have h4' : ¬ (4 : Int) < (N : Int) := by omega
    go_enter Tryd.func47, Tryd.ntmps47
    go_wp2
    clear b4 lB
    go_loopw [5] (fun p wr => ∃ i : Nat, i ≤ N ∧ p = .int .i64 (i : Int) ∧ Hid (tnsF (M.map OM.x) T i = 0) ∧ Hid (Below w.heap.size w wr)) (fun p _ => N - (intOf p).toNat)
    case atStart => exact ⟨0, Nat.zero_le _, rfl, Lib.hid rfl, Below.refl _ _⟩
    case round =>
      obtain ⟨i, hi, rfl, H0, HB_r⟩ := hrel
      have hzr := HB_r.out.size
      have Br := Lib.hid (BB.out.below HB_r.out)
      have b4 := Br.out.at 4 rfl; have lB := Br.out.1
      by_cases hlt : i < N
      · have hlt' : (i : Int) < (N : Int) := by omega
        have hi0 : (0 : Int) ≤ (i : Int) := by omega
        obtain ⟨tb, tq, rfl, lt, htn, hsl⟩ := tv_get (HT.out.below HB_r.out) hlt
        have HTN := Lib.hid htn; have HSL := Lib.hid hsl
        obtain ⟨g0, g1, g2⟩ := htn
        clear hsl
        have HST := Lib.hid (fun h1 => tnsF_stop (L := M.map OM.x) (T := T) hlt H0.out h1)
        have HNX := Lib.hid (fun h1 => tnsF_next (L := M.map OM.x) (T := T) (i := i) H0.out h1)
        have hnm := HN.out i hlt
        unfold maxLen at hnm
        have HRI := Lib.hid (HR.out i hlt)
        by_cases hq : 2 ≤ (T i).q ∧ (T i).q ≤ 200
        · obtain ⟨hq1, hq2⟩ := hq
          by_cases hh : 0 ≤ (T i).h ∧ (T i).h ≤ 99999
          · obtain ⟨hh1, hh2⟩ := hh
            by_cases hs : 1 ≤ (T i).n ∧ (T i).n ≤ 8
            · have e1 : tnF (M.map OM.x) (i : Int) (T i) = slsF (M.map OM.x) (i : Int) (T i).S (T i).n := by unfold tnF; rw [if_neg (fun h => h ⟨⟨hq1, hq2⟩, ⟨hh1, hh2⟩⟩), if_neg (fun h => h hs)]
              obtain ⟨c9, hc9⟩ : ∃ c9, slsF (M.map OM.x) (i : Int) (T i).S (T i).n = c9 := ⟨_, rfl⟩
              rw [hc9] at e1
              have HE := Lib.hid e1
              have HC := Lib.hid hc9
              have hs1 : ¬ ((T i).n : Int) < 1 := by omega
              have hs2 : ¬ (8 : Int) < ((T i).n : Int) := by omega
              have hs8 : (T i).n ≤ 8 := hs.2
              clear e1 hc9 hs
              generalize T i = t at *
              go_wp2_with fail
              refine (l1In_yes t.q 2 200 _ hq1 hq2).mono ?_
              rintro e w2 ⟨rfl, rfl⟩
              go_wp2_with fail
              refine (l1In_yes t.h 0 99999 _ hh1 hh2).mono ?_
              rintro e w2 ⟨rfl, rfl⟩
              go_wp2_with fail
              refine (l7Slots_any tb (tq + i * 3) t v M base lo f (i : Int) _ lt HTN.out HSL.out (HM.out.below HB_r.out) hs8 HRI.out).mono ?_
              rintro e w2 ⟨rfl, hb⟩
              have HB2 := Lib.hid (thru0 HB_r.out hb)
              rw [HC.out]
              clear hb b4 lB g0 g1 g2 lt
              by_cases h0 : c9 = 0
              · have HK := Lib.hid (HNX.out (HE.out.trans h0))
                subst h0
                clear HST HNX HE HC
                go_wp2
                go_roundw
                case rel => first | exact ⟨i + 1, by omega, by go_num, HK, HB2⟩ | ((repeat apply Exists.intro); exact ⟨⟨i + 1, by omega, by go_num, HK, HB2⟩, rfl⟩)
                case measure => simp [intOf]; omega
              · have HK := Lib.hid (HST.out (by rw [HE.out]; exact h0))
                have hq9 : (c9 != 0) = true := by simp [h0]
                have HKE := Lib.hid (HK.out.trans HE.out)
                clear HST HNX HE HC h0 HK
                go_wp2
                go_ret
                exact ⟨by rw [HKE.out]; rfl, HB2.out⟩
            · have e1 : tnF (M.map OM.x) (i : Int) (T i) = 2 := by unfold tnF; rw [if_neg (fun h => h ⟨⟨hq1, hq2⟩, ⟨hh1, hh2⟩⟩), if_pos hs]
              have HK : Hid (tnsF (M.map OM.x) T N = 2) := Lib.hid (by rw [HST.out (by rw [e1]; omega), e1])
              clear HST HNX e1
              generalize T i = t at *
              rcases (by omega : t.n = 0 ∨ 8 < t.n) with h0 | h8
              · have hs1 : (t.n : Int) < 1 := by omega
                clear hs h0
                go_wp2_with fail
                refine (l1In_yes t.q 2 200 _ hq1 hq2).mono ?_
                rintro e w2 ⟨rfl, rfl⟩
                go_wp2_with fail
                refine (l1In_yes t.h 0 99999 _ hh1 hh2).mono ?_
                rintro e w2 ⟨rfl, rfl⟩
                go_wp2
                go_ret
                exact ⟨by rw [HK.out]; rfl, HB_r.out⟩
              · have hs1 : ¬ (t.n : Int) < 1 := by omega
                have hs2 : (8 : Int) < (t.n : Int) := by omega
                clear hs
                go_wp2_with fail
                refine (l1In_yes t.q 2 200 _ hq1 hq2).mono ?_
                rintro e w2 ⟨rfl, rfl⟩
                go_wp2_with fail
                refine (l1In_yes t.h 0 99999 _ hh1 hh2).mono ?_
                rintro e w2 ⟨rfl, rfl⟩
                go_wp2
                go_ret
                exact ⟨by rw [HK.out]; rfl, HB_r.out⟩
          · have e1 : tnF (M.map OM.x) (i : Int) (T i) = 3 := by unfold tnF; rw [if_pos (fun h => hh h.2)]
            have HK : Hid (tnsF (M.map OM.x) T N = 3) := Lib.hid (by rw [HST.out (by rw [e1]; omega), e1])
            have HH := Lib.hid hh
            clear HST HNX e1 hh
            generalize T i = t at *
            go_wp2_with fail
            refine (l1In_yes t.q 2 200 _ hq1 hq2).mono ?_
            rintro e w2 ⟨rfl, rfl⟩
            go_wp2_with fail
            refine (l1In_no t.h 0 99999 _ HH.out).mono ?_
            rintro e w2 ⟨rfl, rfl⟩
            go_wp2
            go_ret
            exact ⟨by rw [HK.out]; rfl, HB_r.out⟩
        · have e1 : tnF (M.map OM.x) (i : Int) (T i) = 3 := by unfold tnF; rw [if_pos (fun h => hq h.1)]
          have HK : Hid (tnsF (M.map OM.x) T N = 3) := Lib.hid (by rw [HST.out (by rw [e1]; omega), e1])
          have HQ := Lib.hid hq
          clear HST HNX e1 hq
          generalize T i = t at *
          go_wp2_with fail
          refine (l1In_no t.q 2 200 _ HQ.out).mono ?_
          rintro e w2 ⟨rfl, rfl⟩
          go_wp2
          go_ret
          exact ⟨by rw [HK.out]; rfl, HB_r.out⟩
      · have hlt' : ¬ (i : Int) < (N : Int) := by omega
        obtain rfl : i = N := by omega
        go_wp2
        go_ret
        exact ⟨by rw [H0.out]; rfl, HB_r.out⟩
end Go.Proofs.YtnpklnpicelcmaaDoor

namespace Go.Proofs.YtnpklnpicelcmaaDoor
open Go.RowKit
set_option linter.unusedVariables false

theorem blk_pre4 {w : World} {b : Nat} {x0 x1 x2 x3 x4 : Value} (h : Blk w b [x0, x1, x2, x3, x4]) : Blk w b [x0, x1, x2, x3] := ⟨h.1, fun j u hu => h.2 j u (by
  rcases j with _ | _ | _ | _ | j
  · simpa using hu
  · simpa using hu
  · simpa using hu
  · simpa using hu
  · simp at hu)⟩

theorem capH {w : World} {B tb o : Nat} {x0 x1 x2 x3 x4 : Value} {t : TN} (hB : Blk w B [x0, x1, x2, x3, x4]) (hg : ThrG w tb o t) : w.cell? ⟨B, 4, none⟩ = some x4 ∧ w.cell? ⟨tb, o, none⟩ = some (.int .i64 t.q) := ⟨hB.at 4 rfl, hg.1⟩

theorem hpF_cases (f : Nat → Int) (L : List Ob) (h : Int) (N : Nat) (T : Nat → TN) {k : Int} (hk : k = hpF f L h N T) :
    (¬ (1 ≤ N ∧ N ≤ 4) ∧ k = 2) ∨ ((1 ≤ N ∧ N ≤ 4) ∧ ((¬ tnsF L T N = 0 ∧ k = tnsF L T N) ∨ (tnsF L T N = 0 ∧ ((¬ quF f L T N = 0 ∧ k = quF f L T N) ∨ (quF f L T N = 0 ∧ ((h < sumF (fun i => (T i).q) N ∧ k = 7) ∨ (¬ h < sumF (fun i => (T i).q) N ∧ k = 0))))))) := by
  unfold hpF at hk
  by_cases h1 : 1 ≤ N ∧ N ≤ 4
  · rw [if_neg (fun x => x h1)] at hk
    refine .inr ⟨h1, ?_⟩
    by_cases h2 : tnsF L T N = 0
    · rw [if_neg (fun x => x h2)] at hk
      refine .inr ⟨h2, ?_⟩
      by_cases h3 : quF f L T N = 0
      · rw [if_neg (fun x => x h3)] at hk
        refine .inr ⟨h3, ?_⟩
        by_cases h4 : h < sumF (fun i => (T i).q) N
        · rw [if_pos h4] at hk; exact .inl ⟨h4, hk⟩
        · rw [if_neg h4] at hk; exact .inr ⟨h4, hk⟩
      · rw [if_pos h3] at hk; exact .inl ⟨h3, hk⟩
    · rw [if_pos h2] at hk; exact .inl ⟨h2, hk⟩
  · rw [if_pos h1] at hk; exact .inl ⟨h1, hk⟩

theorem sumF_tn {L : List Ob} {T : Nat → TN} : ∀ {N : Nat}, (∀ i, i < N → TnOk L (i : Int) (T i)) → 0 ≤ sumF (fun i => (T i).q) N ∧ sumF (fun i => (T i).q) N ≤ 200 * (N : Int)
  | 0, _ => by simp [sumF]
  | n + 1, h => by
    have h1 := sumF_tn (N := n) fun i hi => h i (by omega)
    have h2 := (h n (by omega)).q
    rw [sumF_succ]
    omega

set_option maxRecDepth 100000 in
set_option maxHeartbeats 6400000 in
theorem specHpF_any (h ac bu : Int) (a : Option Addr) (n c : Nat) (f : Nat → Int) (ta : Option Addr) (N tc : Nat) (T : Nat → TN) (k : Int) (w : World) (hs : Src w a n f) (hcn : n ≤ c) (hcm : c ≤ maxLen) (ht : TV w ta N T) (hN : N ≤ maxLen) (hn : ∀ i, i < N → (T i).n ≤ maxLen)
    (hr : ∀ i, i < N → ∀ j, j < (T i).n → -9223372036854775808 ≤ ((T i).S j).nd ∧ ((T i).S j).nd ≤ 9223372036854775807) (hk : IsHpF h n f ac bu N T k) :
    Calls Tryd.prog 22 #[.agg #[.int .i64 h, .slice a n c, .int .i64 ac, .int .i64 bu, .slice ta N tc]] w (RetInt w k) := by
  have S0 := Lib.hid hs; have T0 := Lib.hid ht; have HN := Lib.hid hn; have HR := Lib.hid hr; have HCM := Lib.hid hcm
  have B_0 := Lib.hid (Blk.new_at (w := w) (cs := #[.int .i64 h, .slice a n c, .int .i64 ac, .int .i64 bu, .slice ta N tc]) (t := 35) w.heap.size rfl)
  have HB0 : Hid (Below w.heap.size w (w.alloc (.cells #[.int .i64 h, .slice a n c, .int .i64 ac, .int .i64 bu, .slice ta N tc] 35))) := (Below.refl _ _).alloc (Nat.le_refl _) _
  have zB : w.heap.size < (w.alloc (.cells #[.int .i64 h, .slice a n c, .int .i64 ac, .int .i64 bu, .slice ta N tc] 35)).heap.size := by simp
  clear hs ht hn hr hcm
  rcases hk with ⟨hk, h0⟩ | ⟨hk, L, hL, hk2⟩
  · have HK := Lib.hid hk
    have hq : (k != 0) = true := by simp [h0]
    have b0 := B_0.out.at 0 rfl; have b1 := B_0.out.at 1 rfl; have b2 := B_0.out.at 2 rfl; have b3 := B_0.out.at 3 rfl; have lB := B_0.out.1
    clear hk h0
    go_enter Tryd.func22, Tryd.ntmps22
    go_wp2_with fail
    refine (specSF_any h ac bu a n c f k _ (S0.out.below HB0.out) hcn HCM.out HK.out).mono ?_
    rintro e w1 ⟨rfl, hb⟩
    have HB1 := Lib.hid (thru0 HB0.out hb)
    clear hb b0 b1 b2 b3 lB
    go_wp2
    go_ret
    exact ⟨rfl, HB1.out⟩
  · have HSF := Lib.hid hk; have HOI := Lib.hid hL
    have hpt : Points f L := (isSF_shape hk hL).1
    have HPT := Lib.hid hpt
    have HK2 := Lib.hid hk2
    have b0 := B_0.out.at 0 rfl; have b1 := B_0.out.at 1 rfl; have b2 := B_0.out.at 2 rfl; have b3 := B_0.out.at 3 rfl; have lB := B_0.out.1
    clear hk hL hpt hk2
    go_enter Tryd.func22, Tryd.ntmps22
    go_wp2_with fail
    generalize w.alloc (.cells #[.int .i64 h, .slice a n c, .int .i64 ac, .int .i64 bu, .slice ta N tc] 35) = w0 at *
    refine (specSF_any h ac bu a n c f 0 _ (S0.out.below HB0.out) hcn HCM.out HSF.out).mono ?_
    rintro e w1 ⟨rfl, hb⟩
    have HB1 := Lib.hid (thru0 HB0.out hb); have B_1 := Lib.hid (B_0.out.below hb)
    have z1 := hb.size
    clear hb b0 b1 b2 b3 lB B_0 HB0
    have lB := B_1.out.1
    go_wp2_with fail
    refine (l3Objs_any w.heap.size h ac bu a n c f L _ (blk_pre4 B_1.out) (S0.out.below HB1.out) hcn HCM.out HOI.out).mono ?_
    rintro e w2 ⟨hb, v, M, rfl, rfl, hm⟩
    have HB2 := Lib.hid (thru0 HB1.out hb); have B_2 := Lib.hid (B_1.out.below hb)
    have HM2 := Lib.hid hm
    have z2 := hb.size
    clear hb hm lB B_1 HB1
    have lB := B_2.out.1
    obtain ⟨k1, hk1⟩ : ∃ k1, (¬ (1 ≤ N ∧ N ≤ 4) ∧ k1 = 2) ∨ ((1 ≤ N ∧ N ≤ 4) ∧ k1 = tnsF (M.map OM.x) T N) := by
      by_cases h1 : 1 ≤ N ∧ N ≤ 4
      · exact ⟨_, .inr ⟨h1, rfl⟩⟩
      · exact ⟨_, .inl ⟨h1, rfl⟩⟩
    have HK1 := Lib.hid hk1
    clear hk1
    go_wp2_with fail
    refine (l7Tenants_any w.heap.size h ac bu a n c ta N tc T v M w1.heap.size w1.heap.size f k1 _ B_2.out (T0.out.below HB2.out) hN HN.out HM2.out HR.out HK1.out).mono ?_
    rintro e w3 ⟨rfl, hb⟩
    have HB3 := Lib.hid (thru0 HB2.out hb); have B_3 := Lib.hid (B_2.out.below hb); have HM3 := Lib.hid (HM2.out.below hb)
    have z3 := hb.size
    clear hb lB B_2 HB2 HM2
    have lB := B_3.out.1
    have HC := Lib.hid (hpF_cases f (M.map OM.x) h N T HK2.out)
    by_cases h0 : k1 = 0
    · have hx : (1 ≤ N ∧ N ≤ 4) ∧ tnsF (M.map OM.x) T N = 0 := by
        rcases HK1.out with ⟨_, h2⟩ | ⟨h1, h2⟩
        · omega
        · exact ⟨h1, h2 ▸ h0⟩
      obtain ⟨⟨hN1, hN4⟩, htns⟩ := hx
      have HOK : Hid (∀ i, i < N → TnOk (M.map OM.x) (i : Int) (T i)) := Lib.hid (fun i hi => tnF_ok (tnsF_all htns i hi))
      have HC2 : Hid ((¬ quF f (M.map OM.x) T N = 0 ∧ k = quF f (M.map OM.x) T N) ∨ (quF f (M.map OM.x) T N = 0 ∧ ((h < sumF (fun i => (T i).q) N ∧ k = 7) ∨ (¬ h < sumF (fun i => (T i).q) N ∧ k = 0)))) := Lib.hid (by
        rcases HC.out with ⟨h1, _⟩ | ⟨_, ⟨h2, _⟩ | ⟨_, h3⟩⟩
        · exact absurd ⟨hN1, hN4⟩ h1
        · exact absurd htns h2
        · exact h3)
      subst h0
      clear HC HK1 HK2 htns
      go_wp2
      clear lB
      go_loopw [7, 8] (fun u p wr => ∃ i : Nat, i ≤ N ∧ p = .int .i64 (i : Int) ∧ u = .int .i64 (sumF (fun j => (T j).q) i) ∧ Hid (quF f (M.map OM.x) T i = 0) ∧ Hid (Below w3.heap.size w3 wr)) (fun _ p _ => N - (intOf p).toNat)
      case atStart => exact ⟨0, Nat.zero_le _, rfl, rfl, Lib.hid rfl, Below.refl _ _⟩
      case round =>
        obtain ⟨i, hi, rfl, rfl, HQ, HB_r⟩ := hrel
        have HBr := Lib.hid (thru0 HB3.out HB_r.out)
        have B_r := Lib.hid (B_3.out.below HB_r.out)
        have HM_r := Lib.hid (HM3.out.below HB_r.out)
        have hzr := HB_r.out.size
        have hsum := sumF_tn (N := i) (L := M.map OM.x) (T := T) fun j hj => HOK.out j (by omega)
        obtain ⟨hsum1, hsum2⟩ := hsum
        have b4 := B_r.out.at 4 rfl; have b0 := B_r.out.at 0 rfl; have lB := B_r.out.1
        by_cases hlt : i < N
        · have hlt' : (i : Int) < (N : Int) := by omega
          have hi0 : (0 : Int) ≤ (i : Int) := by omega
          obtain ⟨tb, tq, rfl, lt, htn, -⟩ := tv_get (T0.out.below HBr.out) hlt
          have G_r := Lib.hid htn
          obtain ⟨g0, -, -⟩ := htn
          have B_d := Lib.hid B_r.out.drew
          have G_d := Lib.hid (G_r.out.below ((Below.refl wr.heap.size wr).drew) lt)
          have HBd := Lib.hid HBr.out.drew
          have HMd := Lib.hid (HM_r.out.below (Below.refl wr.heap.size wr).drew)
          have ltd : tb < wr.drew.heap.size := by simpa using lt
          have hqv := (HOK.out i hlt).q
          have hok := HOK.out i hlt
          have HOKI := Lib.hid hok
          obtain ⟨hq2, hq200⟩ := hqv
          have HSS : Hid (sumF (fun j => (T j).q) (i + 1) = sumF (fun j => (T j).q) i + (T i).q) := Lib.hid (sumF_succ _ _)
          obtain ⟨y, hy⟩ : ∃ y : Int, (heldT f (M.map OM.x) (T i) : Int) = y := ⟨_, rfl⟩
          have HY := Lib.hid hy
          clear hok hy
          go_wp2_with fail
          go_region_held3 (fun w' => w'.cell? ⟨w.heap.size, 4, none⟩ = some (.slice (some ⟨tb, tq, none⟩) N tc) ∧ w'.cell? ⟨tb, tq + i * 3, none⟩ = some (.int .i64 (T i).q))
            (first | (with_reducible exact capH B_r.out G_r.out) | (with_reducible exact capH B_d.out G_d.out) | (with_reducible exact capH B_9.out G_9.out))
            (first | (go_at_call 24; refine (l7Held_any w.heap.size h ac bu a n c (some ⟨tb, tq, none⟩) N tc T v M w1.heap.size w1.heap.size f i _ B_d.out (T0.out.below HBd.out) HMd.out HPT.out hlt hN4 HOKI.out).mono ?_; rw [HY.out]; rintro e w9 ⟨rfl, hb⟩; have HB9 := Lib.hid ((Below.refl wr.heap.size wr).drew.trans (hb.mono (by simp))); have B_9 := Lib.hid (B_d.out.below hb); have G_9 := Lib.hid (G_d.out.below hb ltd); clear hb))
          have HBF := Lib.hid (HB_r.out.trans (HB9.out.mono hzr))
          have HBW := Lib.hid (thru0 HB3.out HBF.out)
          have z9 := HB9.out.size
          have lt9 : tb < w9.heap.size := by omega
          clear b4 b0 lB g0 B_d G_d HBd HMd ltd B_r G_r HM_r HB_r HBr lt
          have b4 := B_9.out.at 4 rfl; have lB := B_9.out.1
          obtain ⟨g0, -, -⟩ := G_9.out
          by_cases hqy : (T i).q < y
          · have HK : Hid (k = 9) := Lib.hid (by
              have e := quF_stop hlt HQ.out (by rw [HY.out]; exact hqy)
              rcases HC2.out with ⟨_, h1⟩ | ⟨h1, _⟩
              · rw [h1, e]
              · omega)
            generalize (T i).q = q at *
            go_wp2
            go_ret
            exact ⟨by rw [HK.out]; rfl, HBW.out⟩
          · have HQ2 := Lib.hid (quF_next HQ.out (by rw [HY.out]; exact hqy))
            generalize sumF (fun j => (T j).q) i = sm at *
            generalize (T i).q = q at *
            clear HQ
            go_wp2
            go_roundw
            case rel => first | exact ⟨i + 1, by omega, by go_num, by rw [HSS.out], HQ2, HBF⟩ | ((repeat apply Exists.intro); exact ⟨⟨i + 1, by omega, by go_num, by rw [HSS.out], HQ2, HBF⟩, rfl⟩)
            case measure => simp [intOf]; omega
        · have hlt' : ¬ (i : Int) < (N : Int) := by omega
          obtain rfl : i = N := by omega
          have HC3 : Hid ((h < sumF (fun j => (T j).q) i ∧ k = 7) ∨ (¬ h < sumF (fun j => (T j).q) i ∧ k = 0)) := Lib.hid (by
            rcases HC2.out with ⟨h1, _⟩ | ⟨_, h1⟩
            · exact absurd HQ.out h1
            · rcases h1 with h1 | ⟨h1, h2⟩
              · exact .inl h1
              · exact .inr ⟨by omega, h2⟩)
          clear HC2 HQ
          generalize sumF (fun j => (T j).q) i = sm at *
          rcases HC3.out with ⟨h1, rfl⟩ | ⟨h1, rfl⟩
          · clear HC3
            go_wp2
            go_ret
            exact ⟨rfl, HBr.out⟩
          · clear HC3
            go_wp2
            go_ret
            exact ⟨rfl, HBr.out⟩
    · have hq : (k1 != 0) = true := by simp [h0]
      have HK : Hid (k = k1) := Lib.hid (by
        rcases HC.out with ⟨h1, h2⟩ | ⟨h1, h2⟩
        · rcases HK1.out with ⟨_, h3⟩ | ⟨h3, _⟩
          · omega
          · exact absurd h3 h1
        · rcases HK1.out with ⟨h3, _⟩ | ⟨_, h3⟩
          · exact absurd h1 h3
          · rcases h2 with ⟨_, h4⟩ | ⟨h4, _⟩
            · rw [h4, h3]
            · exact absurd (h3.trans h4) h0)
      clear HC HK1 HK2 h0
      go_wp2
      go_ret
      exact ⟨by rw [HK.out]; rfl, HB3.out⟩
end Go.Proofs.YtnpklnpicelcmaaDoor

namespace Go.Proofs.YtnpklnpicelcmaaDoor
open Go.RowKit
set_option linter.unusedVariables false

set_option maxRecDepth 100000 in
theorem place_pos (v : Int) (w : World) (h1 : 1 ≤ v) (h2 : v ≤ 9223372036854775807) : Calls Tryd.prog 92 #[.int .i64 v] w (fun e w' => e = .returned (.int .i64 (v - 1)) ∧ Below w.heap.size w w') := by
  go_enter Tryd.func92, Tryd.ntmps92
  go_wp2
  go_ret
  exact ⟨rfl, Below.refl _ _⟩

set_option maxRecDepth 100000 in
set_option maxHeartbeats 1600000 in
theorem rootsOf_any (a : Option Addr) (n c : Nat) (S : Nat → SL) (w : World) (hp : PV w a n S) (hn : n ≤ 8) (hs : ∀ j, j < n → (S j).nd = 0 ∨ (1 ≤ (S j).nd ∧ (S j).nd ≤ 1000001)) :
    Calls Tryd.prog 79 #[.slice a n c] w (RetInts w (rootsS S n).length (lf (rootsS S n))) := by
  obtain ⟨i0, hif, hz0, hz1, hz2⟩ := info_parts Tryd.info2
  have P := Lib.hid hp; have HS := Lib.hid hs
  clear hp hs
  go_enter Tryd.func79, Tryd.ntmps79
  go_wp2
  go_loopw [3, 8] (fun u p wr => ∃ (i : Nat) (L : List Int), i ≤ n ∧ p = .int .i64 (i : Int) ∧ Hid (L = rootsS S i) ∧ Hid (Below w.heap.size w wr) ∧ Hid (wr.ownsRow w.heap.size 2 1 u L.length (nums L.length (lf L)))) (fun _ p _ => n - (intOf p).toNat)
  case atStart => exact ⟨0, [], Nat.zero_le _, rfl, Lib.hid rfl, Below.refl _ _, World.ownsRow_nil _ _ _ _⟩
  case round =>
    obtain ⟨i, L, hi, rfl, HL, HB_r, OW_r⟩ := hrel
    have hzr := HB_r.out.size
    by_cases hlt : i < n
    · have hlt' : (i : Int) < (n : Int) := by omega
      have hi0 : (0 : Int) ≤ (i : Int) := by omega
      obtain ⟨pb, pq, rfl, lp, s0, s1⟩ := pv_get (P.out.below HB_r.out) hlt
      have hll : L.length ≤ i := by rw [HL.out]; exact rootsS_len _ _
      have hrg := HS.out i hlt
      have HAL : Hid (Below w.heap.size w (wr.alloc (.cells #[.int .i64 (S i).g, .int .i64 (S i).nd] 125))) := Lib.hid (HB_r.out.alloc hzr _)
      have OWA := Lib.hid (OW_r.out.alloc (.cells #[.int .i64 (S i).g, .int .i64 (S i).nd] 125))
      by_cases hz : (S i).nd = 0
      · have HL2 : Hid (L = rootsS S (i + 1)) := Lib.hid (by rw [HL.out, rootsS_no hz])
        have hq : ((S i).nd != 0) = false := by simp [hz]
        clear HL hz hrg
        generalize S i = s at *
        go_wp2
        go_roundw
        case rel => first | exact ⟨i + 1, L, by omega, by go_num, HL2, HAL, OWA⟩ | ((repeat apply Exists.intro); exact ⟨⟨i + 1, L, by omega, by go_num, HL2, HAL, OWA⟩, rfl⟩)
        case measure => simp [intOf]; omega
      · have HL2 : Hid (L ++ [(S i).nd - 1] = rootsS S (i + 1)) := Lib.hid (by rw [HL.out, rootsS_yes hz])
        have hq : ((S i).nd != 0) = true := by simp [hz]
        have hr1 : 1 ≤ (S i).nd := by omega
        have hr2 : (S i).nd ≤ 1000001 := by omega
        clear HL hz hrg
        generalize S i = s at *
        go_wp2_with fail
        refine (place_pos s.nd _ hr1 (by omega)).mono ?_
        rintro e w2 ⟨rfl, hb⟩
        have HB2 := Lib.hid (thru0 HAL.out hb)
        have OW2 := Lib.hid (ownsRow_below OWA.out hb)
        have HGE : Hid (∀ k, u3.ownBlock = some k → w.heap.size ≤ k) := Lib.hid (fun k hk => (OW2.out.lt k hk).1)
        have z2 : w.heap.size ≤ w2.heap.size := HB2.out.size
        clear hb s0 s1
        go_wp2_with (at_builtin; go_loud (refine wpList_append_lies _ rfl _ _ 22 rfl w.heap.size 2 i0 (.int .i64 0) 1 8 Tryd.underlying22 hif hz0 hz1 hz2 rfl (by decide) u3 L.length (nums L.length (lf L)) rfl (OW2.out.alloc _) ⟨w2.heap.size, 0, none⟩ 1 1 [.int .i64 (s.nd - 1)] rfl rfl (news1 w2 (s.nd - 1)) (by intro u hu; simp only [List.mem_cons, List.mem_nil_iff, or_false] at hu; subst hu; rfl) (by omega) (by unfold maxLen; omega) (by omega) (by simp; omega) (w2.heap.size + 1) (by simp) ?_); intro g9 cap9 w9 hown9 hgrow9 hat9 hlt9)
        have HB9 : Hid (Below w.heap.size w w9) := (HB2.out.alloc z2 _).grown hgrow9 (by simp; omega) (fun k hk => HGE.out k hk)
        have OW9 := Lib.hid (nums_one_more L (s.nd - 1) _ _ _ hown9)
        clear hown9 hgrow9 hat9 hq
        go_wp2
        go_roundw
        case rel => first | exact ⟨i + 1, L ++ [s.nd - 1], by omega, by go_num, HL2, HB9, OW9⟩ | ((repeat apply Exists.intro); exact ⟨⟨i + 1, L ++ [s.nd - 1], by omega, by go_num, HL2, HB9, OW9⟩, rfl⟩)
        case measure => simp [intOf]; omega
    · have hlt' : ¬ (i : Int) < (n : Int) := by omega
      obtain rfl : i = n := by omega
      have HRet := Lib.hid (retInts_of_row OW_r.out HB_r.out)
      have hL := HL.out
      subst hL
      go_wp2
      go_ret
      exact HRet.out

/-- A tenant's table: its slots, and what is reached from them. -/
def RetTab (W : World) (f : Nat → Int) (L : List Ob) (a : Option Addr) (n c : Nat) (R : List Int) (e : Ending) (w' : World) : Prop :=
  Below W.heap.size W w' ∧ ∃ oa oc mb T, e = .returned (.agg #[.slice a n c, .int .i64 0, .slice oa R.length oc, .map (some mb)]) ∧ GV w' oa R.length T ∧ MapT w' mb R.length R (fun i => (i : Int)) ∧ ∀ i, i < R.length → ∃ x, findO L (lf R i) = some x ∧ GSame (T i) (obG f x)
end Go.Proofs.YtnpklnpicelcmaaDoor

namespace Go.Proofs.YtnpklnpicelcmaaDoor
open Go.RowKit
set_option linter.unusedVariables false

/-- A block that holds no more than an empty table. -/
def Dead4 (w : World) (R : Nat) : Prop := ∃ t fr, w.heap[R]? = some (.cells #[.slice none 0 0, .int .i64 0, .slice none 0 0, .map none] t fr)

theorem dead4_new {w : World} {t : TypeId} (R : Nat) (hR : R = w.heap.size) : Dead4 (w.alloc (.cells #[.slice none 0 0, .int .i64 0, .slice none 0 0, .map none] t)) R := by
  subst hR
  exact ⟨t, _, (heap_alloc_new w _)⟩

theorem Dead4.below {w w' : World} {R : Nat} (h : Dead4 w R) (hb : Below w.heap.size w w') : Dead4 w' R := by
  obtain ⟨t, fr, h1⟩ := h
  exact ⟨t, fr, (hb.block R (Array.getElem?_eq_some_iff.1 h1).1).trans h1⟩

def lain4 (w : World) (R : Nat) (s x y : Value) : World := (((w.setCell ⟨R, 0, none⟩ s).setCell ⟨R, 1, none⟩ (.int .i64 0)).setCell ⟨R, 2, none⟩ x).setCell ⟨R, 3, none⟩ y

theorem lain4_block {w : World} {R b : Nat} {s x y : Value} (h : b ≠ R) : (lain4 w R s x y).heap[b]? = w.heap[b]? :=
  (Below.heap_setCell _ _ _ b h).trans ((Below.heap_setCell _ _ _ b h).trans ((Below.heap_setCell _ _ _ b h).trans (Below.heap_setCell _ _ _ b h)))

theorem dead4_cell {w : World} {R : Nat} (h : Dead4 w R) (o : Nat) : w.cell? ⟨R, o, none⟩ = (#[.slice none 0 0, .int .i64 0, .slice none 0 0, .map none] : Array Value)[o]? := by
  obtain ⟨t, fr, h1⟩ := h
  exact cell_of_row w R o _ t fr h1

theorem dead4_int {w : World} {R b o : Nat} {v : Int} (h : Dead4 w R) (hc : w.cell? ⟨b, o, none⟩ = some (.int .i64 v)) (s x y : Value) : (lain4 w R s x y).cell? ⟨b, o, none⟩ = some (.int .i64 v) := by
  by_cases e : b = R
  · subst e
    have h0 := dead4_cell h o
    rw [hc] at h0
    match o, h0 with
    | 0, h0 => simp at h0
    | 1, h0 =>
      have h9 : v = 0 := by simpa using h0
      subst h9
      have hc1 : (w.setCell ⟨b, 0, none⟩ s).cell? ⟨b, 1, none⟩ = some (.int .i64 0) := by rw [World.cell?_setCell_other _ _ _ _ (by simp)]; exact hc
      have hc' : ((w.setCell ⟨b, 0, none⟩ s).setCell ⟨b, 1, none⟩ (.int .i64 0)).cell? ⟨b, 1, none⟩ = some (.int .i64 0) := by rw [World.cell?_setCell_same' _ _ _ (by rw [hc1]; rfl)]
      unfold lain4
      rw [World.cell?_setCell_other _ _ _ _ (by simp), World.cell?_setCell_other _ _ _ _ (by simp)]
      exact hc'
    | 2, h0 => simp at h0
    | 3, h0 => simp at h0
    | o + 4, h0 => simp at h0
  · exact (World.cell?_of_block (w := w) (a := ⟨b, o, none⟩) (lain4_block e)).trans hc

theorem dead4_src {w : World} {R : Nat} {a : Option Addr} {n : Nat} {f : Nat → Int} (h : Dead4 w R) (hs : Src w a n f) (s x y : Value) : Src (lain4 w R s x y) a n f := by
  rcases hs with h0 | ⟨b, o, e, hb, hc⟩
  · exact .inl h0
  · exact .inr ⟨b, o, e, by simpa [lain4] using hb, fun i hi => dead4_int h (hc i hi) s x y⟩

theorem dead4_gv {w : World} {R : Nat} {a : Option Addr} {N : Nat} {T : Nat → GM} (h : Dead4 w R) (hg : GV w a N T) (s x y : Value) : GV (lain4 w R s x y) a N T := by
  rcases hg with h0 | ⟨b, q, e, g⟩
  · exact .inl h0
  · rcases Nat.eq_zero_or_pos N with h0 | hp
    · exact .inl h0
    have hne : b ≠ R := fun e => by
      subst e
      have h0 := (g.six 0 hp).1
      have h1 := (g.six 0 hp).2.1
      rw [dead4_cell h] at h0 h1
      match q, h0, h1 with
      | 0, h0, h1 => simp at h0
      | 1, h0, h1 => simp at h1
      | 2, h0, h1 => simp at h0
      | 3, h0, h1 => simp at h0
      | q + 4, h0, h1 => simp at h0
    exact .inr ⟨b, q, e, by have := g.lt; simpa [lain4] using this, fun i hi => (g.six i hi).block (lain4_block hne), fun i hi => dead4_src h (g.flds i hi) s x y⟩

theorem dead4_map {w : World} {R mb n : Nat} {O : List Int} {v : Nat → Int} (h : Dead4 w R) (hm : MapT w mb n O v) (s x y : Value) : MapT (lain4 w R s x y) mb n O v := by
  refine hm.block (lain4_block fun e => ?_)
  subst e
  obtain ⟨t, fr, h1⟩ := h
  obtain ⟨D, ⟨es, clock, h2, _⟩, _⟩ := hm
  rw [h1] at h2; cases h2

set_option maxRecDepth 100000 in
set_option maxHeartbeats 1600000 in
theorem tableOf_any (oa : Option Addr) (kc : Nat) (T : Nat → GM) (f : Nat → Int) (L : List Ob) (a : Option Addr) (n c : Nat) (S : Nat → SL) (w : World) (hsh : Shaped w oa T f L) (hp : PV w a n S) (hn : n ≤ 8) (hs : ∀ j, j < n → (S j).nd = 0 ∨ (1 ≤ (S j).nd ∧ (S j).nd ≤ 1000001)) (hin : ∀ p ∈ rootsS S n, p ∈ placesO L) :
    Calls Tryd.prog 58 #[.slice oa L.length kc, .slice a n c] w (RetTab w f L a n c (reachO f L (rootsS S n))) := by
  have HSH := Lib.hid hsh; have P := Lib.hid hp; have HS := Lib.hid hs; have HIN := Lib.hid hin
  have HB0 : Hid (Below w.heap.size w (w.alloc (.cells #[.slice none 0 0, .int .i64 0, .slice none 0 0, .map none] 66))) := (Below.refl _ _).alloc (Nat.le_refl _) _
  have DE_0 := Lib.hid (dead4_new (w := w) (t := 66) w.heap.size rfl)
  have R_0 := Lib.hid (Blk.new_at (w := w) (cs := #[.slice none 0 0, .int .i64 0, .slice none 0 0, .map none]) (t := 66) w.heap.size rfl)
  clear hsh hp hs hin
  go_enter Tryd.func58, Tryd.ntmps58
  go_wp2_with fail
  generalize w.alloc (.cells #[.slice none 0 0, .int .i64 0, .slice none 0 0, .map none] 66) = w0 at *
  refine (rootsOf_any a n c S _ (P.out.below HB0.out) hn HS.out).mono ?_
  rintro e w1 ⟨ra, rc, rfl, ho, hb, _, _, _⟩
  have HB1 := Lib.hid (thru0 HB0.out hb); have HR := Lib.hid ho.src; have DE_1 := Lib.hid (DE_0.out.below hb); have R_1 := Lib.hid (R_0.out.below hb)
  have hrl : (rootsS S n).length ≤ 8 := Nat.le_trans (rootsS_len _ _) hn
  clear ho hb HB0 DE_0 R_0
  go_wp2_with fail
  refine (reachOf_any oa kc T f L ra (rootsS S n) rc _ (HSH.out.below HB1.out) HR.out (by omega)).mono ?_
  rintro e w3 ⟨hb, hr⟩
  have HB3 := Lib.hid (thru0 HB1.out hb); have DE3 := Lib.hid (DE_1.out.below hb); have R_3 := Lib.hid (R_1.out.below hb)
  clear hb HB1 DE_1 R_1
  rcases hr with ⟨hbad, rfl⟩ | ⟨hall, a3, c3, mb, U, rfl, hgv, hmp, hsm⟩
  · obtain ⟨p, h1, h2⟩ := hbad
    exact absurd (HIN.out p h1) h2
  · have HGV := Lib.hid hgv; have HMP := Lib.hid hmp; have HSM := Lib.hid hsm
    have lR := R_3.out.1; have cR0 := R_3.out.at 0 rfl; have fR0 := R_3.out.free 0 rfl; have cR1 := R_3.out.at 1 rfl; have fR1 := R_3.out.free 1 rfl; have cR2 := R_3.out.at 2 rfl; have fR2 := R_3.out.free 2 rfl; have cR3 := R_3.out.at 3 rfl; have fR3 := R_3.out.free 3 rfl
    clear hall hgv hmp hsm
    go_wp2
    refine bodyPost_ret (v := .agg #[.slice a n c, .int .i64 0, .slice a3 (reachO f L (rootsS S n)).length c3, .map (some mb)]) (by simp [results, Tryd.results58, go_sem, cR0, cR1, cR2, cR3]) rfl ⟨?_, a3, c3, mb, U, rfl, dead4_gv DE3.out HGV.out _ _ _, dead4_map DE3.out HMP.out _ _ _, HSM.out⟩
    repeat (first | (with_reducible refine Below.setCell ?_ (by (try simp); (try omega)) _) | (with_reducible refine Below.alloc ?_ (by (try simp); (try omega)) _) | (with_reducible refine Below.drew ?_))
    exact HB3.out
end Go.Proofs.YtnpklnpicelcmaaDoor

namespace Go.Proofs.YtnpklnpicelcmaaDoor
open Go.RowKit
set_option linter.unusedVariables false

set_option maxRecDepth 100000 in
set_option maxHeartbeats 3200000 in
theorem slotFault_any (s : SL) (own : Int) (oa : Option Addr) (kc : Nat) (T : Nat → GM) (f : Nat → Int) (L : List Ob) (k : Int) (w : World) (hsh : Shaped w oa T f L) (hr : -9223372036854775808 ≤ s.nd ∧ s.nd ≤ 9223372036854775807) (hk : slF L own s = k) :
    Calls Tryd.prog 77 #[.agg #[.int .i64 s.g, .int .i64 s.nd], .int .i64 own, .slice oa L.length kc] w (RetInt w k) := by
  have HSH := Lib.hid hsh
  have A_0 := Lib.hid (Blk.new_at (w := w) (cs := #[.int .i64 s.g, .int .i64 s.nd]) (t := 125) w.heap.size rfl)
  have HB0 : Hid (Below w.heap.size w (w.alloc (.cells #[.int .i64 s.g, .int .i64 s.nd] 125))) := (Below.refl _ _).alloc (Nat.le_refl _) _
  have HL4 := Lib.hid hsh.len
  clear hsh
  by_cases hg : 0 ≤ s.g ∧ s.g ≤ 99
  · have HG := Lib.hid hg
    by_cases hz : s.nd = 0
    · have e : k = 0 := by rw [← hk]; unfold slF; rw [if_neg (fun h => h hg), if_pos hz]
      subst e
      have hq : (s.nd == 0) = true := by simp [hz]
      clear hk hz hg
      go_enter Tryd.func77, Tryd.ntmps77
      go_wp2_with fail
      with_reducible refine (isOut1 _ _ _ _ _ false (by simp) (.inl ⟨rfl, HG.out⟩)).mono ?_
      rintro e w1 ⟨rfl, hb⟩
      have HB1 := Lib.hid (thru1 HB0.out hb); have A_1 := Lib.hid ((A_0.out.alloc _).below hb)
      clear hb A_0 HB0
      have c0 := A_1.out.at 0 rfl; have c1 := A_1.out.at 1 rfl; have lA := A_1.out.1
      go_wp2
      go_ret
      exact ⟨rfl, HB1.out⟩
    · have hq : (s.nd == 0) = false := by simp [hz]
      by_cases hpos : 0 < s.nd
      · obtain ⟨hr1, hr2⟩ := hr
        have HK : Hid ((findO L (s.nd - 1) = none ∧ k = 4) ∨ ∃ x, findO L (s.nd - 1) = some x ∧ ((¬ x.o = own ∧ k = 6) ∨ (x.o = own ∧ s.g = 0 ∧ k = 8) ∨ (x.o = own ∧ ¬ s.g = 0 ∧ k = 0))) := Lib.hid (by
          unfold slF at hk
          rw [if_neg (fun h => h hg), if_neg hz] at hk
          cases hf : findO L (s.nd - 1) with
          | none => rw [hf] at hk; exact .inl ⟨rfl, hk.symm⟩
          | some x =>
            rw [hf] at hk
            simp only at hk
            refine .inr ⟨x, rfl, ?_⟩
            by_cases h1 : x.o = own
            · rw [if_neg (fun h => h h1)] at hk
              by_cases h2 : s.g = 0
              · rw [if_pos h2] at hk; exact .inr (.inl ⟨h1, h2, hk.symm⟩)
              · rw [if_neg h2] at hk; exact .inr (.inr ⟨h1, h2, hk.symm⟩)
            · rw [if_pos h1] at hk; exact .inl ⟨h1, hk.symm⟩)
        clear hk hz hg
        go_enter Tryd.func77, Tryd.ntmps77
        go_wp2_with fail
        with_reducible refine (isOut1 _ _ _ _ _ false (by simp) (.inl ⟨rfl, HG.out⟩)).mono ?_
        rintro e w1 ⟨rfl, hb⟩
        have HB1 := Lib.hid (thru1 HB0.out hb); have A_1 := Lib.hid ((A_0.out.alloc _).below hb)
        have z0 : w.heap.size < (w.alloc (.cells #[.int .i64 s.g, .int .i64 s.nd] 125)).heap.size := by simp
        have z1 : w.heap.size < w1.heap.size := by have := A_1.out.1; omega
        clear hb A_0 HB0 z0
        have c0 := A_1.out.at 0 rfl; have c1 := A_1.out.at 1 rfl; have lA := A_1.out.1
        have F_2 := Lib.hid (Blk.new_at (w := w1) (cs := #[.int .i64 4, .int .i64 0, .int .i64 0, .int .i64 0, .int .i64 0, .int .i64 0, .slice none 0 0]) (t := 148) w1.heap.size rfl)
        have HB2 := Lib.hid (HB1.out.alloc HB1.out.size (.cells #[.int .i64 4, .int .i64 0, .int .i64 0, .int .i64 0, .int .i64 0, .int .i64 0, .slice none 0 0] 148))
        have A_2 := Lib.hid (A_1.out.alloc (.cells #[.int .i64 4, .int .i64 0, .int .i64 0, .int .i64 0, .int .i64 0, .int .i64 0, .slice none 0 0] 148))
        go_wp2_with fail
        generalize hw2 : w1.alloc (.cells #[.int .i64 4, .int .i64 0, .int .i64 0, .int .i64 0, .int .i64 0, .int .i64 0, .slice none 0 0] 148) = w2 at *
        clear hw2
        refine (place_pos s.nd _ (by omega) hr2).mono ?_
        rintro e w3 ⟨rfl, hb⟩
        have HB3 := Lib.hid (thru0 HB2.out hb); have A_3 := Lib.hid (A_2.out.below hb); have F_3 := Lib.hid (F_2.out.below hb)
        clear hb A_2 F_2 HB2 c0 c1 lA A_1 HB1
        go_wp2_with fail
        refine (find_any oa L.length kc T (s.nd - 1) _ (HSH.out.below HB3.out).gv (by have := HL4.out; omega) HSH.out.sort).mono ?_
        rintro e w4 ⟨hb, hf⟩
        have HB4 := Lib.hid (thru0 HB3.out hb); have A_4 := Lib.hid (A_3.out.below hb); have F_4 := Lib.hid (F_3.out.below hb)
        clear hb A_3 F_3 HB3
        have c0 := A_4.out.at 0 rfl; have c1 := A_4.out.at 1 rfl; have lA := A_4.out.1
        have f0 := F_4.out.at 0 rfl; have f1 := F_4.out.at 1 rfl; have f2 := F_4.out.at 2 rfl; have f3 := F_4.out.at 3 rfl; have f4 := F_4.out.at 4 rfl; have f5 := F_4.out.at 5 rfl; have f6 := F_4.out.at 6 rfl; have lF := F_4.out.1
        have e0 := F_4.out.free 0 rfl; have e1 := F_4.out.free 1 rfl; have e2 := F_4.out.free 2 rfl; have e3 := F_4.out.free 3 rfl; have e4 := F_4.out.free 4 rfl; have e5 := F_4.out.free 5 rfl; have e6 := F_4.out.free 6 rfl
        have hAF : ¬ w.heap.size = w1.heap.size := by omega
        have HBF : ∀ v0 v1 v2 v3 v4 v5 v6, Hid (Below w.heap.size w (((((((w4.setCell ⟨w1.heap.size, 0, none⟩ v0).setCell ⟨w1.heap.size, 1, none⟩ v1).setCell ⟨w1.heap.size, 2, none⟩ v2).setCell ⟨w1.heap.size, 3, none⟩ v3).setCell ⟨w1.heap.size, 4, none⟩ v4).setCell ⟨w1.heap.size, 5, none⟩ v5).setCell ⟨w1.heap.size, 6, none⟩ v6)) := fun v0 v1 v2 v3 v4 v5 v6 => Lib.hid (by
          repeat (with_reducible refine Below.setCell ?_ (by simp; omega) _)
          exact HB4.out)
        rcases hf with ⟨i, hi, hat, rfl⟩ | ⟨hno, rfl⟩
        · obtain ⟨h1, h2, _⟩ := HSH.out.obj hi
          rw [hat] at h1
          have ho : (T i).o = L[i].o := h2.2.2.2.1
          have HC : Hid ((¬ (T i).o = own ∧ k = 6) ∨ ((T i).o = own ∧ s.g = 0 ∧ k = 8) ∨ ((T i).o = own ∧ ¬ s.g = 0 ∧ k = 0)) := Lib.hid (by
            rcases HK.out with ⟨h3, _⟩ | ⟨x, h3, h4⟩
            · rw [h1] at h3; cases h3
            · rw [h1] at h3
              simp only [Option.some.injEq] at h3
              subst h3
              rw [ho]; exact h4)
          clear HK h1 h2 ho hat
          generalize T i = t at *
          rcases HC.out with ⟨h1, rfl⟩ | ⟨h1, h2, rfl⟩ | ⟨h1, h2, rfl⟩
          · have hq2 : (t.o != own) = true := by simp [h1]
            clear HC h1
            go_wp2
            go_ret
            exact ⟨rfl, (HBF _ _ _ _ _ _ _).out⟩
          · have hq2 : (t.o != own) = false := by simp [h1]
            have hq3 : (s.g == 0) = true := by simp [h2]
            clear HC h1 h2
            go_wp2
            go_ret
            exact ⟨rfl, (HBF _ _ _ _ _ _ _).out⟩
          · have hq2 : (t.o != own) = false := by simp [h1]
            have hq3 : (s.g == 0) = false := by simp [h2]
            clear HC h1 h2
            go_wp2
            go_ret
            exact ⟨rfl, (HBF _ _ _ _ _ _ _).out⟩
        · have hn : findO L (s.nd - 1) = none := by
            cases hf : findO L (s.nd - 1) with
            | none => rfl
            | some x => exact absurd (mem_placesO.2 ⟨x, hf⟩) (HSH.out.nope hno)
          have e : k = 4 := by
            rcases HK.out with ⟨_, h3⟩ | ⟨x, h3, _⟩
            · exact h3
            · rw [hn] at h3; cases h3
          subst e
          clear HK hno hn
          go_wp2
          go_ret
          exact ⟨rfl, (HBF _ _ _ _ _ _ _).out⟩
      · have e : k = 4 := by
          rw [← hk]; unfold slF
          rw [if_neg (fun h => h hg), if_neg hz, findO_far HSH.out.place (by omega)]
        subst e
        clear hk hz hg
        go_enter Tryd.func77, Tryd.ntmps77
        go_wp2_with fail
        with_reducible refine (isOut1 _ _ _ _ _ false (by simp) (.inl ⟨rfl, HG.out⟩)).mono ?_
        rintro e w1 ⟨rfl, hb⟩
        have HB1 := Lib.hid (thru1 HB0.out hb); have A_1 := Lib.hid ((A_0.out.alloc _).below hb)
        have z1 := HB1.out.size
        clear hb A_0 HB0
        have c0 := A_1.out.at 0 rfl; have c1 := A_1.out.at 1 rfl; have lA := A_1.out.1
        go_wp2
        go_ret
        exact ⟨rfl, HB1.out.alloc z1 _⟩
  · have e : k = 3 := by rw [← hk]; unfold slF; rw [if_pos hg]
    subst e
    have HG := Lib.hid hg
    clear hk hg
    go_enter Tryd.func77, Tryd.ntmps77
    go_wp2_with fail
    with_reducible refine (isOut1 _ _ _ _ _ true (by simp) (.inr ⟨rfl, HG.out⟩)).mono ?_
    rintro e w1 ⟨rfl, hb⟩
    have HB1 := Lib.hid (thru1 HB0.out hb)
    clear hb
    go_wp2
    go_ret
    exact ⟨rfl, HB1.out⟩
end Go.Proofs.YtnpklnpicelcmaaDoor

namespace Go.Proofs.YtnpklnpicelcmaaDoor
open Go.RowKit
set_option linter.unusedVariables false

set_option maxRecDepth 100000 in
set_option maxHeartbeats 3200000 in
theorem tenantFault_any (t : TN) (own : Int) (oa : Option Addr) (kc : Nat) (T : Nat → GM) (f : Nat → Int) (L : List Ob) (k : Int) (w : World) (hsh : Shaped w oa T f L) (hp : PV w t.a t.n t.S) (hn : t.n ≤ maxLen) (hr : ∀ j, j < t.n → -9223372036854775808 ≤ (t.S j).nd ∧ (t.S j).nd ≤ 9223372036854775807) (hk : tnF L own t = k) :
    Calls Tryd.prog 57 #[.agg #[.int .i64 t.q, .int .i64 t.h, .slice t.a t.n t.c], .int .i64 own, .slice oa L.length kc] w (RetInt w k) := by
  have HSH := Lib.hid hsh; have P := Lib.hid hp; have HR := Lib.hid hr
  have A_0 := Lib.hid (Blk.new_at (w := w) (cs := #[.int .i64 t.q, .int .i64 t.h, .slice t.a t.n t.c]) (t := 80) w.heap.size rfl)
  have HB0 : Hid (Below w.heap.size w (w.alloc (.cells #[.int .i64 t.q, .int .i64 t.h, .slice t.a t.n t.c] 80))) := (Below.refl _ _).alloc (Nat.le_refl _) _
  unfold maxLen at hn
  clear hsh hp hr
  by_cases hqh : (2 ≤ t.q ∧ t.q ≤ 200) ∧ (0 ≤ t.h ∧ t.h ≤ 99999)
  · have HQ := Lib.hid hqh
    by_cases hs : 1 ≤ t.n ∧ t.n ≤ 8
    · have hs' : 1 ≤ (t.n : Int) ∧ (t.n : Int) ≤ 8 := by omega
      have HS' := Lib.hid hs'
      have HK : Hid (slsF L own t.S t.n = k) := Lib.hid (by
        unfold tnF at hk
        rw [if_neg (fun h => h hqh), if_neg (fun h => h hs)] at hk
        exact hk)
      clear hk hqh hs hs'
      go_enter Tryd.func57, Tryd.ntmps57
      go_wp2_with fail
      with_reducible refine (isOut2 _ _ _ _ _ _ _ _ false (by simp) (.inl ⟨rfl, HQ.out⟩)).mono ?_
      rintro e w1 ⟨rfl, hb⟩
      have HB1 := Lib.hid (thru1 HB0.out hb); have A_1 := Lib.hid ((A_0.out.alloc _).below hb)
      clear hb A_0 HB0
      have c0 := A_1.out.at 0 rfl; have c1 := A_1.out.at 1 rfl; have c2 := A_1.out.at 2 rfl; have lA := A_1.out.1
      go_wp2_with fail
      with_reducible refine (isOut1 _ _ _ _ _ false (by simp) (.inl ⟨rfl, HS'.out⟩)).mono ?_
      rintro e w2 ⟨rfl, hb⟩
      have HB2 := Lib.hid (thru1 HB1.out hb); have A_2 := Lib.hid ((A_1.out.alloc _).below hb)
      clear hb A_1 HB1 c0 c1 c2 lA
      have c2 := A_2.out.at 2 rfl; have lA := A_2.out.1
      go_wp2
      clear c2 lA
      go_loopw [27] (fun p wr => ∃ i : Nat, i ≤ t.n ∧ p = .int .i64 (i : Int) ∧ Hid (slsF L own t.S i = 0) ∧ Hid (Below w.heap.size w wr)) (fun p _ => t.n - (intOf p).toNat)
      case atStart => exact ⟨0, Nat.zero_le _, rfl, Lib.hid rfl, HB2⟩
      case round =>
        obtain ⟨i, hi, rfl, H0, HB_r⟩ := hrel
        have hzr := HB_r.out.size
        by_cases hlt : i < t.n
        · have hlt' : (i : Int) < (t.n : Int) := by omega
          have hi0 : (0 : Int) ≤ (i : Int) := by omega
          obtain ⟨pb, pq, hta, lp, s0, s1⟩ := pv_get (P.out.below HB_r.out) hlt
          rw [hta]
          have HST := Lib.hid (fun h1 => slsF_stop (L := L) (own := own) (S := t.S) hlt H0.out h1)
          have HNX := Lib.hid (fun h1 => slsF_next (L := L) (own := own) (S := t.S) (i := i) H0.out h1)
          have HRG := Lib.hid (HR.out i hlt)
          obtain ⟨c9, hc9⟩ : ∃ c9, slF L own (t.S i) = c9 := ⟨_, rfl⟩
          have HC := Lib.hid hc9
          have HAL : Hid (Below w.heap.size w (wr.alloc (.cells #[.int .i64 (t.S i).g, .int .i64 (t.S i).nd] 125))) := Lib.hid (HB_r.out.alloc hzr _)
          clear hc9 hta
          generalize t.S i = s at *
          go_wp2_with fail
          refine (slotFault_any s own oa kc T f L c9 _ (HSH.out.below HAL.out) HRG.out HC.out).mono ?_
          rintro e w3 ⟨rfl, hb⟩
          have HB3 := Lib.hid (thru0 HAL.out hb)
          clear hb s0 s1
          by_cases h0 : c9 = 0
          · have HK2 := Lib.hid (HNX.out (HC.out.trans h0))
            subst h0
            clear HST HNX HC
            go_wp2
            go_roundw
            case rel => first | exact ⟨i + 1, by omega, by go_num, HK2, HB3⟩ | ((repeat apply Exists.intro); exact ⟨⟨i + 1, by omega, by go_num, HK2, HB3⟩, rfl⟩)
            case measure => simp [intOf]; omega
          · have hq9 : (c9 != 0) = true := by simp [h0]
            have HKE : Hid (k = c9) := Lib.hid (by rw [← HK.out, HST.out (by rw [HC.out]; exact h0), HC.out])
            clear HST HNX HC h0
            go_wp2
            go_ret
            exact ⟨by rw [HKE.out]; rfl, HB3.out⟩
        · have hlt' : ¬ (i : Int) < (t.n : Int) := by omega
          obtain rfl : i = t.n := by omega
          have HKE : Hid (k = 0) := Lib.hid (by rw [← HK.out, H0.out])
          go_wp2
          go_ret
          exact ⟨by rw [HKE.out]; rfl, HB_r.out⟩
    · have e : k = 2 := by rw [← hk]; unfold tnF; rw [if_neg (fun h => h hqh), if_pos hs]
      subst e
      have hs' : ¬ (1 ≤ (t.n : Int) ∧ (t.n : Int) ≤ 8) := by omega
      have HS' := Lib.hid hs'
      clear hk hqh hs hs'
      go_enter Tryd.func57, Tryd.ntmps57
      go_wp2_with fail
      with_reducible refine (isOut2 _ _ _ _ _ _ _ _ false (by simp) (.inl ⟨rfl, HQ.out⟩)).mono ?_
      rintro e w1 ⟨rfl, hb⟩
      have HB1 := Lib.hid (thru1 HB0.out hb); have A_1 := Lib.hid ((A_0.out.alloc _).below hb)
      clear hb A_0 HB0
      have c0 := A_1.out.at 0 rfl; have c1 := A_1.out.at 1 rfl; have c2 := A_1.out.at 2 rfl; have lA := A_1.out.1
      go_wp2_with fail
      with_reducible refine (isOut1 _ _ _ _ _ true (by simp) (.inr ⟨rfl, HS'.out⟩)).mono ?_
      rintro e w2 ⟨rfl, hb⟩
      have HB2 := Lib.hid (thru1 HB1.out hb)
      clear hb
      go_wp2
      go_ret
      exact ⟨rfl, HB2.out⟩
  · have e : k = 3 := by rw [← hk]; unfold tnF; rw [if_pos hqh]
    subst e
    have HQ := Lib.hid hqh
    clear hk hqh
    go_enter Tryd.func57, Tryd.ntmps57
    go_wp2_with fail
    with_reducible refine (isOut2 _ _ _ _ _ _ _ _ true (by simp) (.inr ⟨rfl, HQ.out⟩)).mono ?_
    rintro e w1 ⟨rfl, hb⟩
    have HB1 := Lib.hid (thru1 HB0.out hb)
    clear hb
    go_wp2
    go_ret
    exact ⟨rfl, HB1.out⟩

set_option maxRecDepth 100000 in
set_option maxHeartbeats 1600000 in
theorem quotasOf_any (a : Option Addr) (N c : Nat) (T : Nat → TN) (w : World) (ht : TV w a N T) (hN : N ≤ 1000) :
    Calls Tryd.prog 60 #[.slice a N c] w (RetInts w N (fun i => (T i).q)) := by
  obtain ⟨i0, hif, hz0, hz1, hz2⟩ := info_parts Tryd.info2
  have G := Lib.hid ht
  clear ht
  go_enter Tryd.func60, Tryd.ntmps60
  go_wp2
  go_loopw [3, 8] (fun u p wr => ∃ i : Nat, i ≤ N ∧ p = .int .i64 (i : Int) ∧ Hid (Below w.heap.size w wr) ∧ Hid (wr.ownsRow w.heap.size 2 1 u i (nums i (fun i => (T i).q)))) (fun _ p _ => N - (intOf p).toNat)
  case atStart => exact ⟨0, Nat.zero_le _, rfl, Below.refl _ _, World.ownsRow_nil _ _ _ _⟩
  case round =>
    obtain ⟨i, hi, rfl, HB_r, OW_r⟩ := hrel
    have hzr := HB_r.out.size
    by_cases hlt : i < N
    · have hlt' : (i : Int) < (N : Int) := by omega
      have hi0 : (0 : Int) ≤ (i : Int) := by omega
      obtain ⟨b, q, rfl, lb, ⟨s0, s1, s2⟩, -⟩ := tv_get (G.out.below HB_r.out) hlt
      have HAL : Hid (Below w.heap.size w (wr.alloc (.cells #[.int .i64 (T i).q, .int .i64 (T i).h, .slice (T i).a (T i).n (T i).c] 80))) := Lib.hid (HB_r.out.alloc hzr _)
      have OWA := Lib.hid (OW_r.out.alloc (.cells #[.int .i64 (T i).q, .int .i64 (T i).h, .slice (T i).a (T i).n (T i).c] 80))
      have HGE : Hid (∀ k, u3.ownBlock = some k → w.heap.size ≤ k) := Lib.hid (fun k hk => (OW_r.out.lt k hk).1)
      go_wp2_with (at_builtin; go_loud (refine wpList_append_lies _ rfl _ _ 22 rfl w.heap.size 2 i0 (.int .i64 0) 1 8 Tryd.underlying22 hif hz0 hz1 hz2 rfl (by decide) u3 i (nums i (fun i => (T i).q)) rfl (OWA.out.alloc _) ⟨wr.heap.size + 1, 0, none⟩ 1 1 [.int .i64 (T i).q] rfl rfl (news1b (wr.alloc (.cells #[.int .i64 (T i).q, .int .i64 (T i).h, .slice (T i).a (T i).n (T i).c] 80)) (T i).q (wr.heap.size + 1) (by simp)) (by intro u hu; simp only [List.mem_cons, List.mem_nil_iff, or_false] at hu; subst hu; rfl) (by omega) (by unfold maxLen; omega) (by omega) (by simp; omega) (wr.heap.size + 1 + 1) (by simp) ?_); intro g9 cap9 w9 hown9 hgrow9 hat9 hlt9)
      have HB9 : Hid (Below w.heap.size w w9) := (HAL.out.alloc (by simp; omega) _).grown hgrow9 (by simp; omega) (fun k hk => HGE.out k hk)
      have OW9 : Hid (w9.ownsRow w.heap.size 2 1 (.slice (some ⟨g9, 0, none⟩) (i + 1) cap9) (i + 1) (nums (i + 1) (fun i => (T i).q))) := Lib.hid (by rw [nums_succ]; exact hown9)
      clear hown9 hgrow9 hat9 s0 s1 s2
      go_wp2
      go_roundw
      case rel => first | exact ⟨i + 1, by omega, by go_num, HB9, OW9⟩ | ((repeat apply Exists.intro); exact ⟨⟨i + 1, by omega, by go_num, HB9, OW9⟩, rfl⟩)
      case measure => simp [intOf]; omega
    · have hlt' : ¬ (i : Int) < (N : Int) := by omega
      obtain rfl : i = N := by omega
      have HRet := Lib.hid (retInts_of_row OW_r.out HB_r.out)
      go_wp2
      go_ret
      exact HRet.out
end Go.Proofs.YtnpklnpicelcmaaDoor

namespace Go.Proofs.YtnpklnpicelcmaaDoor
open Go.RowKit
set_option linter.unusedVariables false

theorem fld_tab (x0 x1 x2 x3 : Value) (w : World) : (Instr.field 66 (.agg #[x0, x1, x2, x3]) 1).run Tryd.prog w = .ok (.agg #[x1, x2, x3]) w := by kernel_rfl

theorem hpF_cases2 (f : Nat → Int) (L : List Ob) (h : Int) (N : Nat) (T : Nat → TN) {k : Int} (hk : k = hpF f L h N T) :
    (¬ (1 ≤ N ∧ N ≤ 4) ∧ k = 2) ∨ ((1 ≤ N ∧ N ≤ 4) ∧ ((¬ tnsF L T N = 0 ∧ k = tnsF L T N) ∨ (tnsF L T N = 0 ∧ ((¬ quF f L T N = 0 ∧ k = quF f L T N) ∨ (quF f L T N = 0 ∧ ((h < sumF (fun i => (T i).q) N ∧ k = 7) ∨ (sumF (fun i => (T i).q) N ≤ h ∧ k = 0))))))) := by
  rcases hpF_cases f L h N T hk with h1 | ⟨h1, h2 | ⟨h2, h3 | ⟨h3, h4 | ⟨h4, h5⟩⟩⟩⟩
  · exact .inl h1
  · exact .inr ⟨h1, .inl h2⟩
  · exact .inr ⟨h1, .inr ⟨h2, .inl h3⟩⟩
  · exact .inr ⟨h1, .inr ⟨h2, .inr ⟨h3, .inl h4⟩⟩⟩
  · exact .inr ⟨h1, .inr ⟨h2, .inr ⟨h3, .inr ⟨by omega, h5⟩⟩⟩⟩

theorem capI {w : World} {F D : Nat} {x0 x1 y0 y1 y2 : Value} (hF : Blk w F [x0, x1]) (hD : Blk w D [y0, y1, y2]) : w.cell? ⟨F, 1, none⟩ = some x1 ∧ w.cell? ⟨D, 2, none⟩ = some y2 ∧ w.cell? ⟨D, 0, none⟩ = some y0 := ⟨hF.at 1 rfl, hD.at 2 rfl, hD.at 0 rfl⟩

theorem capJ {w : World} {B : Nat} {x0 x1 x2 x3 x4 : Value} (hB : Blk w B [x0, x1, x2, x3, x4]) : w.cell? ⟨B, 4, none⟩ = some x4 ∧ w.cell? ⟨B, 0, none⟩ = some x0 := ⟨hB.at 4 rfl, hB.at 0 rfl⟩

set_option maxRecDepth 100000 in
set_option maxHeartbeats 6400000 in
theorem implHpF_any (h ac bu : Int) (a : Option Addr) (n c : Nat) (f : Nat → Int) (ta : Option Addr) (N tc : Nat) (T : Nat → TN) (k : Int) (w : World) (hs : Src w a n f) (hcn : n ≤ c) (hcm : c ≤ maxLen) (ht : TV w ta N T) (hN : N ≤ maxLen) (hn : ∀ i, i < N → (T i).n ≤ maxLen)
    (hr : ∀ i, i < N → ∀ j, j < (T i).n → -9223372036854775808 ≤ ((T i).S j).nd ∧ ((T i).S j).nd ≤ 9223372036854775807) (hk : IsHpF h n f ac bu N T k) :
    Calls Tryd.prog 27 #[.agg #[.int .i64 h, .slice a n c, .int .i64 ac, .int .i64 bu, .slice ta N tc]] w (RetInt w k) := by
  have S0 := Lib.hid hs; have T0 := Lib.hid ht; have HN := Lib.hid hn; have HR := Lib.hid hr; have HCM := Lib.hid hcm
  have B_0 := Lib.hid (Blk.new_at (w := w) (cs := #[.int .i64 h, .slice a n c, .int .i64 ac, .int .i64 bu, .slice ta N tc]) (t := 35) w.heap.size rfl)
  have HB0 : Hid (Below w.heap.size w (w.alloc (.cells #[.int .i64 h, .slice a n c, .int .i64 ac, .int .i64 bu, .slice ta N tc] 35))) := (Below.refl _ _).alloc (Nat.le_refl _) _
  unfold maxLen at hN
  clear hs ht hn hr hcm
  rcases hk with ⟨hk, h0⟩ | ⟨hk, L, hL, hk2⟩
  · have HK := Lib.hid hk
    have hq : (k != 0) = true := by simp [h0]
    have H0 := Lib.hid h0
    have b0 := B_0.out.at 0 rfl; have b1 := B_0.out.at 1 rfl; have b2 := B_0.out.at 2 rfl; have b3 := B_0.out.at 3 rfl; have lB := B_0.out.1
    clear hk h0
    go_enter Tryd.func27, Tryd.ntmps27
    go_wp2_with fail
    refine (shaped_any h ac bu a n c f _ (S0.out.below HB0.out) hcn HCM.out k [] (.inl ⟨HK.out, H0.out, rfl⟩)).mono ?_
    rintro e w1 ⟨a1, c1, U, rfl, hg, hT, hb, hc1, hc2⟩
    have HB1 := Lib.hid (thru0 HB0.out hb)
    have z1 := HB1.out.size
    clear hb b0 b1 b2 b3 lB hg hT hc1 hc2
    go_wp2
    go_ret
    exact ⟨rfl, HB1.out.alloc z1 _⟩
  · have HSF := Lib.hid hk; have HOI := Lib.hid hL
    have HC := Lib.hid (hpF_cases2 f L h N T hk2)
    have b0 := B_0.out.at 0 rfl; have b1 := B_0.out.at 1 rfl; have b2 := B_0.out.at 2 rfl; have b3 := B_0.out.at 3 rfl; have lB := B_0.out.1
    have zB : w.heap.size < (w.alloc (.cells #[.int .i64 h, .slice a n c, .int .i64 ac, .int .i64 bu, .slice ta N tc] 35)).heap.size := by simp
    clear hk hL hk2
    go_enter Tryd.func27, Tryd.ntmps27
    go_wp2_with fail
    generalize w.alloc (.cells #[.int .i64 h, .slice a n c, .int .i64 ac, .int .i64 bu, .slice ta N tc] 35) = w0 at *
    refine (shaped_any h ac bu a n c f _ (S0.out.below HB0.out) hcn HCM.out 0 L (.inr ⟨rfl, HSF.out, HOI.out⟩)).mono ?_
    rintro e w1 ⟨a1, c1, U, rfl, hg, hT, hb, hc1, hc2⟩
    have HB1 := Lib.hid (thru0 HB0.out hb); have B_1 := Lib.hid (B_0.out.below hb)
    have HSH := Lib.hid (shaped_of HSF.out HOI.out hg.src hT)
    have z1 := hb.size
    clear hb b0 b1 b2 b3 lB hg hT hc1 hc2 B_0 HB0
    have HB2 := Lib.hid (HB1.out.alloc HB1.out.size (.cells #[.int .i64 0, .slice a1 L.length c1] 105))
    have B_2 := Lib.hid (B_1.out.alloc (.cells #[.int .i64 0, .slice a1 L.length c1] 105))
    have F_2 := Lib.hid (Blk.new_at (w := w1) (cs := #[.int .i64 0, .slice a1 L.length c1]) (t := 105) w1.heap.size rfl)
    have SH2 := Lib.hid (HSH.out.below ((Below.refl _ _).alloc (Nat.le_refl _) (.cells #[.int .i64 0, .slice a1 L.length c1] 105)))
    have b4 := B_2.out.at 4 rfl; have lB := B_2.out.1
    have z2 : w1.heap.size < (w1.alloc (.cells #[.int .i64 0, .slice a1 L.length c1] 105)).heap.size := by simp
    have HZ2 : Hid ((w1.alloc (.cells #[.int .i64 0, .slice a1 L.length c1] 105)).heap.size = w1.heap.size + 1) := Lib.hid (by simp)
    clear HB1 B_1 HSH
    go_wp2_with fail
    generalize w1.alloc (.cells #[.int .i64 0, .slice a1 L.length c1] 105) = w2 at *
    generalize hF0 : w1.heap.size = F0 at *
    by_cases hN4 : 1 ≤ N ∧ N ≤ 4
    · have hN4' : 1 ≤ (N : Int) ∧ (N : Int) ≤ 4 := by omega
      have HN4 := Lib.hid hN4'
      have HC1 : Hid ((¬ tnsF L T N = 0 ∧ k = tnsF L T N) ∨ (tnsF L T N = 0 ∧ ((¬ quF f L T N = 0 ∧ k = quF f L T N) ∨ (quF f L T N = 0 ∧ ((h < sumF (fun i => (T i).q) N ∧ k = 7) ∨ (sumF (fun i => (T i).q) N ≤ h ∧ k = 0)))))) := Lib.hid (by
        rcases HC.out with ⟨h1, _⟩ | ⟨_, h2⟩
        · exact absurd hN4 h1
        · exact h2)
      clear HC hN4'
      with_reducible refine (isOut1 _ _ _ _ _ false (by first | rfl | exact HZ2.out.symm | simp) (.inl ⟨rfl, HN4.out⟩)).mono ?_
      rintro e w3 ⟨rfl, hb⟩
      have HB3 := Lib.hid (thru1 HB2.out hb); have B_3 := Lib.hid ((B_2.out.alloc _).below hb); have F_3 := Lib.hid ((F_2.out.alloc _).below hb)
      have SH3 := Lib.hid ((SH2.out.below ((Below.refl _ _).alloc (Nat.le_refl _) _)).below hb)
      clear hb b4 lB B_2 F_2 SH2 HB2
      have b4 := B_3.out.at 4 rfl; have lB := B_3.out.1
      go_wp2
      clear b4 lB
      go_loopw [26] (fun p wr => ∃ i : Nat, i ≤ N ∧ p = .int .i64 (i : Int) ∧ Hid (tnsF L T i = 0) ∧ Hid (Below w3.heap.size w3 wr)) (fun p _ => N - (intOf p).toNat)
      case atStart => exact ⟨0, Nat.zero_le _, rfl, Lib.hid rfl, Below.refl _ _⟩
      case round =>
        obtain ⟨i, hi, rfl, H0, HB_r⟩ := hrel
        have HBr := Lib.hid (thru0 HB3.out HB_r.out)
        have B_r := Lib.hid (B_3.out.below HB_r.out)
        have F_r := Lib.hid (F_3.out.below HB_r.out)
        have hzr := HB_r.out.size
        have hzr2 := HBr.out.size
        by_cases hlt : i < N
        · have hlt' : (i : Int) < (N : Int) := by omega
          have hi0 : (0 : Int) ≤ (i : Int) := by omega
          obtain ⟨tb, tq, rfl, lt, ⟨g0, g1, g2⟩, -⟩ := tv_get (T0.out.below HBr.out) hlt
          have HST := Lib.hid (fun h1 => tnsF_stop (L := L) (T := T) hlt H0.out h1)
          have HNX := Lib.hid (fun h1 => tnsF_next (L := L) (T := T) (i := i) H0.out h1)
          have HRI := Lib.hid (HR.out i hlt)
          have hnm := HN.out i hlt
          obtain ⟨c9, hc9⟩ : ∃ c9, tnF L (i : Int) (T i) = c9 := ⟨_, rfl⟩
          have HCC := Lib.hid hc9
          have HNM := Lib.hid hnm
          have HAL : Hid (Below w3.heap.size w3 (wr.alloc (.cells #[.int .i64 (T i).q, .int .i64 (T i).h, .slice (T i).a (T i).n (T i).c] 80))) := Lib.hid (HB_r.out.alloc hzr _)
          have HALr : Hid (Below w.heap.size w (wr.alloc (.cells #[.int .i64 (T i).q, .int .i64 (T i).h, .slice (T i).a (T i).n (T i).c] 80))) := Lib.hid (HBr.out.alloc hzr2 _)
          have HSL := Lib.hid (tv_get (T0.out.below HALr.out) hlt)
          have F_A := Lib.hid (F_r.out.alloc (.cells #[.int .i64 (T i).q, .int .i64 (T i).h, .slice (T i).a (T i).n (T i).c] 80))
          have f1 := F_A.out.at 1 rfl; have lF := F_A.out.1
          clear hc9 hnm
          generalize T i = t at *
          go_wp2_with fail
          obtain ⟨_, _, -, -, -, hsl⟩ := HSL.out
          refine (tenantFault_any t (i : Int) a1 c1 U f L c9 _ (SH3.out.below HAL.out) hsl HNM.out HRI.out HCC.out).mono ?_
          rintro e w5 ⟨rfl, hb⟩
          have HB5 := Lib.hid (thru0 HAL.out hb)
          clear hb g0 g1 g2 f1 lF hsl HSL F_A B_r F_r
          by_cases h0 : c9 = 0
          · have HK2 := Lib.hid (HNX.out (HCC.out.trans h0))
            subst h0
            clear HST HNX HCC
            go_wp2
            go_roundw
            case rel => first | exact ⟨i + 1, by omega, by go_num, HK2, HB5⟩ | ((repeat apply Exists.intro); exact ⟨⟨i + 1, by omega, by go_num, HK2, HB5⟩, rfl⟩)
            case measure => simp [intOf]; omega
          · have hq9 : (c9 != 0) = true := by simp [h0]
            have HKE : Hid (k = c9) := Lib.hid (by
              have e := HST.out (by rw [HCC.out]; exact h0)
              rw [HCC.out] at e
              rcases HC1.out with ⟨_, h2⟩ | ⟨h2, _⟩
              · rw [h2, e]
              · exact absurd (e.symm.trans h2) h0)
            have HB6 := Lib.hid (thru0 HB3.out HB5.out)
            clear HST HNX HCC h0
            go_wp2
            go_ret
            exact ⟨by rw [HKE.out]; rfl, HB6.out⟩
        · have hlt' : ¬ (i : Int) < (N : Int) := by omega
          obtain rfl : i = N := by omega
          have HOK : Hid (∀ j, j < i → TnOk L (j : Int) (T j)) := Lib.hid (fun j hj => tnF_ok (tnsF_all H0.out j hj))
          have HC2 : Hid ((¬ quF f L T i = 0 ∧ k = quF f L T i) ∨ (quF f L T i = 0 ∧ ((h < sumF (fun i => (T i).q) i ∧ k = 7) ∨ (sumF (fun i => (T i).q) i ≤ h ∧ k = 0)))) := Lib.hid (by
            rcases HC1.out with ⟨h2, _⟩ | ⟨_, h3⟩
            · exact absurd H0.out h2
            · exact h3)
          have SHr := Lib.hid (SH3.out.below HB_r.out)
          have b4 := B_r.out.at 4 rfl; have lB := B_r.out.1
          clear HC1 H0 hi HB_r hzr
          go_wp2
          clear b4 lB
          generalize wr = w4 at *
          go_loopw [43] (fun p wr => ∃ j : Nat, j ≤ i ∧ p = .int .i64 (j : Int) ∧ Hid (quF f L T j = 0) ∧ Hid (Below w4.heap.size w4 wr)) (fun p _ => i - (intOf p).toNat)
          case atStart => exact ⟨0, Nat.zero_le _, rfl, Lib.hid rfl, Below.refl _ _⟩
          case round =>
            obtain ⟨j, hj, rfl, HQ, HB_s⟩ := hrel
            have HBs := Lib.hid (thru0 HBr.out HB_s.out)
            have B_s := Lib.hid (B_r.out.below HB_s.out)
            have F_s := Lib.hid (F_r.out.below HB_s.out)
            have SHs := Lib.hid (SHr.out.below HB_s.out)
            have hzs := HB_s.out.size
            have hzs2 := HBs.out.size
            by_cases hlt : j < i
            · have hlt' : (j : Int) < (i : Int) := by omega
              have hj0 : (0 : Int) ≤ (j : Int) := by omega
              obtain ⟨tb, tq, rfl, lt, ⟨g0, g1, g2⟩, -⟩ := tv_get (T0.out.below HBs.out) hlt
              have HOKI := Lib.hid (HOK.out j hlt)
              have HST := Lib.hid (fun h1 => quF_stop (f := f) (L := L) (T := T) hlt HQ.out h1)
              have HNX := Lib.hid (fun h1 => quF_next (f := f) (L := L) (T := T) (i := j) HQ.out h1)
              have HAL : Hid (Below w4.heap.size w4 (wr.alloc (.cells #[.int .i64 (T j).q, .int .i64 (T j).h, .slice (T j).a (T j).n (T j).c] 80))) := Lib.hid (HB_s.out.alloc hzs _)
              have HALr : Hid (Below w.heap.size w (wr.alloc (.cells #[.int .i64 (T j).q, .int .i64 (T j).h, .slice (T j).a (T j).n (T j).c] 80))) := Lib.hid (HBs.out.alloc hzs2 _)
              have HSL := Lib.hid (tv_get (T0.out.below HALr.out) hlt)
              have F_A := Lib.hid (F_s.out.alloc (.cells #[.int .i64 (T j).q, .int .i64 (T j).h, .slice (T j).a (T j).n (T j).c] 80))
              have D_A := Lib.hid (Blk.new_at (w := wr) (cs := #[.int .i64 (T j).q, .int .i64 (T j).h, .slice (T j).a (T j).n (T j).c]) (t := 80) wr.heap.size rfl)
              have SHA := Lib.hid (SHs.out.below ((Below.refl _ _).alloc (Nat.le_refl _) (.cells #[.int .i64 (T j).q, .int .i64 (T j).h, .slice (T j).a (T j).n (T j).c] 80)))
              obtain ⟨y, hy⟩ : ∃ y : Int, (heldT f L (T j) : Int) = y := ⟨_, rfl⟩
              have HY := Lib.hid hy
              have hfi := fld_tab
              clear hy
              generalize T j = t at *
              go_upto_region 16 with (fail)
              clear g0 g1 g2
              generalize wr.alloc (.cells #[.int .i64 t.q, .int .i64 t.h, .slice t.a t.n t.c] 80) = w5 at *
              have HB5w : Hid (Below w5.heap.size w5 w5) := Below.refl _ _
              have HSLd : Hid (PV w5.drew t.a t.n t.S) := Lib.hid (by obtain ⟨_, _, -, -, -, hsl⟩ := HSL.out; exact hsl.drew)
              have SHd := Lib.hid (SHA.out.below (Below.refl _ _).drew)
              have F_d := Lib.hid F_A.out.drew; have D_d := Lib.hid D_A.out.drew
              have hRl : Hid ((reachO f L (rootsS t.S t.n)).length ≤ 400) := Lib.hid (by
                have h1 := reachO_length SHA.out.right.points (fun x hx => (SHA.out.right.ok x hx).1.1.1) (rootsS_in HOKI.out)
                have := SHA.out.len
                omega)
              go_wp2_with fail
              go_region_held3 (fun w' => w'.cell? ⟨F0, 1, none⟩ = some (.slice a1 L.length c1) ∧ w'.cell? ⟨wr.heap.size, 2, none⟩ = some (.slice t.a t.n t.c) ∧ w'.cell? ⟨wr.heap.size, 0, none⟩ = some (.int .i64 t.q))
                (first | (with_reducible exact capI F_A.out D_A.out) | (with_reducible exact capI F_d.out D_d.out) | (with_reducible exact capI F_6.out D_6.out) | (with_reducible exact capI F_7.out D_7.out))
                (first | (go_at_call 58; refine (tableOf_any a1 c1 U f L t.a t.n t.c t.S _ SHd.out HSLd.out HOKI.out.n.2 (tnok_nd HOKI.out SHA.out.place) (rootsS_in HOKI.out)).mono ?_; rintro e w6 ⟨hb, oa, oc, mb, V, rfl, hgv, -, hsm⟩; have HB6 := Lib.hid ((Below.refl w5.heap.size w5).drew.trans (hb.mono (by simp))); have F_6 := Lib.hid (F_d.out.below hb); have D_6 := Lib.hid (D_d.out.below hb); have HGV := Lib.hid hgv; have HSM := Lib.hid hsm; clear hb hgv hsm) | (go_at_call 29; refine (words_any 0 (.map (some mb)) oa (reachO f L (rootsS t.S t.n)) oc V L f _ HGV.out hRl.out HSM.out SHA.out.right.ok).mono ?_; rw [show ((sumW (wordsAt L) (reachO f L (rootsS t.S t.n)) : Nat) : Int) = y from HY.out]; rintro e w7 ⟨rfl, hb⟩; have HB7 := Lib.hid (thru0 HB6.out hb); have F_7 := Lib.hid (F_6.out.below hb); have D_7 := Lib.hid (D_6.out.below hb); clear hb))
              have HBF := Lib.hid (thru0 HAL.out HB7.out)
              have HBW := Lib.hid (thru0 HALr.out HB7.out)
              clear F_A D_A F_d D_d F_6 D_6 SHd SHA SHs HSLd HB5w B_s F_s HB_s HBs HAL HALr HB6 HGV HSM hfi
              by_cases hqy : t.q < y
              · have HK : Hid (k = 9) := Lib.hid (by
                  have e := HST.out (by rw [HY.out]; exact hqy)
                  rcases HC2.out with ⟨_, h1⟩ | ⟨h1, _⟩
                  · rw [h1, e]
                  · omega)
                generalize t.q = q at *
                go_wp2
                go_ret
                exact ⟨by rw [HK.out]; rfl, HBW.out⟩
              · have HQ2 := Lib.hid (HNX.out (by rw [HY.out]; omega))
                generalize t.q = q at *
                clear HQ
                go_wp2
                go_roundw
                case rel => first | exact ⟨j + 1, by omega, by go_num, HQ2, HBF⟩ | ((repeat apply Exists.intro); exact ⟨⟨j + 1, by omega, by go_num, HQ2, HBF⟩, rfl⟩)
                case measure => simp [intOf]; omega
            · have hlt' : ¬ (j : Int) < (i : Int) := by omega
              obtain rfl : j = i := by omega
              have HC3 : Hid ((h < sumF (fun i => (T i).q) j ∧ k = 7) ∨ (sumF (fun i => (T i).q) j ≤ h ∧ k = 0)) := Lib.hid (by
                rcases HC2.out with ⟨h1, _⟩ | ⟨_, h1⟩
                · exact absurd HQ.out h1
                · exact h1)
              have HQB : Hid (∀ i, i < j → 0 ≤ (T i).q ∧ (T i).q ≤ 100000) := Lib.hid (fun i hi => by have := (HOK.out i hi).q; omega)
              have B_d := Lib.hid B_s.out.drew
              have HBd := Lib.hid HBs.out.drew
              obtain ⟨y, hy⟩ : ∃ y : Int, sumF (fun i => (T i).q) j = y := ⟨_, rfl⟩
              have HY := Lib.hid hy
              rw [hy] at HC3
              have hj4 : j ≤ 4 := by omega
              clear HC2 HQ hy
              go_wp2_with fail
              go_region_held3 (fun w' => w'.cell? ⟨w.heap.size, 4, none⟩ = some (.slice ta j tc) ∧ w'.cell? ⟨w.heap.size, 0, none⟩ = some (.int .i64 h))
                (first | (with_reducible exact capJ B_s.out) | (with_reducible exact capJ B_d.out) | (with_reducible exact capJ B_6.out))
                (first | (go_at_call 60; refine (quotasOf_any ta j tc T _ (T0.out.below HBd.out) (by omega)).mono ?_; rintro e w6 ⟨qa, qc, rfl, ho, hb, -, -, -⟩; have HB6 := Lib.hid (thru0 HBd.out hb); have B_6 := Lib.hid (B_d.out.below hb); have HO := Lib.hid ho.src; clear hb ho) | (go_at_call 59; refine (sumOf_any qa j qc (fun i => (T i).q) _ HO.out (by omega) HQB.out).mono ?_; rw [HY.out]; rintro e w7 ⟨rfl, rfl⟩))
              clear B_s B_d B_6 HBd HBs HO
              rcases HC3.out with ⟨h1, rfl⟩ | ⟨h1, rfl⟩
              · clear HC3
                go_wp2
                go_ret
                exact ⟨rfl, HB6.out⟩
              · clear HC3
                go_wp2
                go_ret
                exact ⟨rfl, HB6.out⟩
    · have e : k = 2 := by
        rcases HC.out with ⟨_, h2⟩ | ⟨h1, _⟩
        · exact h2
        · exact absurd h1 hN4
      subst e
      have hN4' : ¬ (1 ≤ (N : Int) ∧ (N : Int) ≤ 4) := by omega
      have HN4 := Lib.hid hN4'
      clear HC hN4 hN4'
      with_reducible refine (isOut1 _ _ _ _ _ true (by first | rfl | exact HZ2.out.symm | simp) (.inr ⟨rfl, HN4.out⟩)).mono ?_
      rintro e w3 ⟨rfl, hb⟩
      have HB3 := Lib.hid (thru1 HB2.out hb)
      clear hb
      go_wp2
      go_ret
      exact ⟨rfl, HB3.out⟩
end Go.Proofs.YtnpklnpicelcmaaDoor

namespace Go.Proofs.YtnpklnpicelcmaaDoor
open Go.ChangeShapes Go.WideShapes Go.ChangeAt Go.RowKit Go.Joins Go.Deep
set_option linter.unusedVariables false

/-- A slot whose numbers are of 64 bits. -/
def SlW (t : SL) : Prop := I64 t.g ∧ I64 t.nd

/-- A tenant whose numbers are of 64 bits. -/
def TnW (t : TN) : Prop := I64 t.q ∧ I64 t.h ∧ ∀ j, j < t.n → SlW (t.S j)

set_option maxRecDepth 100000 in
/-- One slot, out of its cells. -/
theorem open_hs2 {H : Type} {enc : TypeId × Value → H} {W : World} {n : Nat} {cs : List Value} {y : DataW H × List MemPlace} (hlen : cs.length = 2) (h : DataW.trod enc Tryd.prog W 0 (fun _ => true) true n 143 cs = some y) :
    ∃ t : SL, cs = [.int .i64 t.g, .int .i64 t.nd] ∧ SlW t := by
  match cs, hlen with
  | [v0, v1], _ =>
    obtain ⟨xs, k, _, _, _, hxl, hf⟩ := DataW.trod_struct Tryd.underlying143 h
    have hxl : xs.length = 2 := hxl
    match xs, hxl with
    | [y0, y1], _ =>
      have g0 := hf 0 _ rfl
      have g1 := hf 1 _ rfl
      simp [Tryd.cellsO2] at g0 g1
      obtain ⟨i0, e0, _, w0⟩ := DataW.trod_int Tryd.underlying2 g0
      obtain ⟨i1, e1, _, w1⟩ := DataW.trod_int Tryd.underlying2 g1
      simp only [List.cons.injEq, and_true] at e0 e1
      subst e0 e1
      exact ⟨⟨i0, i1⟩, rfl, i64_of_wf w0, i64_of_wf w1⟩

set_option maxRecDepth 100000 in
/-- A row of slots. -/
theorem open_hss2 {H : Type} {enc : TypeId × Value → H} {W : World} {fuel : Nat} {cs : List Value} {y : DataW H × List MemPlace} (hf : DataW.trod enc Tryd.prog W 0 (fun _ => true) true fuel 87 cs = some y) :
    ∃ (a : Option Addr) (N c : Nat) (T : Nat → SL), cs = [.slice a N c] ∧ PV W a N T ∧ N ≤ maxLen ∧ ∀ i, i < N → SlW (T i) := by
  rcases open_slice Tryd.underlying87 hf with ⟨hcs, _⟩ | ⟨x, l, c, m, n, D, Pl, hcs, _, hl, hm, hmm, _, hx⟩
  · exact ⟨none, 0, 0, fun _ => (⟨0, 0⟩ : SL), hcs, .inl rfl, Nat.zero_le _, fun i hi => by omega⟩
  · have hlm : l ≤ m := by
      rw [hmm]; split
      · exact hl
      · exact Nat.le_refl _
    have each : ∀ i, i < l → ∃ t : SL, (∀ j u, ([.int .i64 t.g, .int .i64 t.nd] : List Value)[j]? = some u → W.cell? ((x.add (i * 2)).add j) = some u) ∧ SlW t := fun i hi => by
      obtain ⟨cs', h1, h2⟩ := hx i (by omega)
      rw [Tryd.cellsM143] at h1
      obtain ⟨_, hlen, hat⟩ := World.cells?_some h1
      obtain ⟨t, rfl, hw⟩ := open_hs2 hlen h2
      refine ⟨t, fun j u hu => ?_, hw⟩
      rw [hat j (List.getElem?_eq_some_iff.mp hu).1, hu]
    by_cases hz : l = 0
    · exact ⟨some x, l, c, fun _ => (⟨0, 0⟩ : SL), hcs, .inl hz, by omega, fun i hi => by omega⟩
    have : Inhabited SL := ⟨⟨0, 0⟩⟩
    obtain ⟨T, hT⟩ := Go.Deep.choose_lt each
    refine ⟨some x, l, c, T, hcs, ?_, by omega, fun i hi => (hT i hi).2⟩
    obtain ⟨b, off, spot⟩ := x
    have hc := (hT 0 (by omega)).1 0 _ rfl
    have hspot : spot = none := by simpa [Addr.add] using World.cell?_spot hc
    subst hspot
    refine .inr ⟨b, off, rfl, World.block_lt_of_cell? W _ (by simpa [Addr.add] using hc), fun i hi => ?_⟩
    have g := fun j u hu => (hT i hi).1 j u hu
    simp only [add_none] at g
    exact ⟨g 0 _ rfl, g 1 _ rfl⟩

set_option maxRecDepth 100000 in
/-- One tenant, out of its cells. -/
theorem open_tn2 {H : Type} {enc : TypeId × Value → H} {W : World} {n : Nat} {cs : List Value} {y : DataW H × List MemPlace} (hlen : cs.length = 3) (h : DataW.trod enc Tryd.prog W 0 (fun _ => true) true n 89 cs = some y) :
    ∃ t : TN, cs = [.int .i64 t.q, .int .i64 t.h, .slice t.a t.n t.c] ∧ PV W t.a t.n t.S ∧ t.n ≤ maxLen ∧ TnW t := by
  match cs, hlen with
  | [v0, v1, v2], _ =>
    obtain ⟨xs, k, _, _, _, hxl, hf⟩ := DataW.trod_struct Tryd.underlying89 h
    have hxl : xs.length = 3 := hxl
    match xs, hxl with
    | [y0, y1, y2], _ =>
      have g0 := hf 0 _ rfl
      have g1 := hf 1 _ rfl
      have g2 := hf 2 _ rfl
      simp [Tryd.cellsO2] at g0 g1
      simp [Tryd.cellsY87] at g2
      obtain ⟨i0, e0, _, w0⟩ := DataW.trod_int Tryd.underlying2 g0
      obtain ⟨i1, e1, _, w1⟩ := DataW.trod_int Tryd.underlying2 g1
      simp only [List.cons.injEq, and_true] at e0 e1
      subst e0 e1
      obtain ⟨a, N, c, S, hcs, hp, hN, hw⟩ := open_hss2 g2
      simp only [List.cons.injEq, and_true] at hcs
      subst hcs
      exact ⟨⟨i0, i1, a, N, c, S⟩, rfl, hp, hN, i64_of_wf w0, i64_of_wf w1, hw⟩

set_option maxRecDepth 100000 in
/-- A row of tenants. -/
theorem open_tns2 {H : Type} {enc : TypeId × Value → H} {W : World} {fuel : Nat} {cs : List Value} {y : DataW H × List MemPlace} (hf : DataW.trod enc Tryd.prog W 0 (fun _ => true) true fuel 25 cs = some y) :
    ∃ (a : Option Addr) (N c : Nat) (T : Nat → TN), cs = [.slice a N c] ∧ TV W a N T ∧ N ≤ maxLen ∧ (∀ i, i < N → (T i).n ≤ maxLen) ∧ ∀ i, i < N → TnW (T i) := by
  rcases open_slice Tryd.underlying25 hf with ⟨hcs, _⟩ | ⟨x, l, c, m, n, D, Pl, hcs, _, hl, hm, hmm, _, hx⟩
  · exact ⟨none, 0, 0, fun _ => ⟨0, 0, none, 0, 0, fun _ => (⟨0, 0⟩ : SL)⟩, hcs, .inl rfl, Nat.zero_le _, fun i hi => by omega, fun i hi => by omega⟩
  · have hlm : l ≤ m := by
      rw [hmm]; split
      · exact hl
      · exact Nat.le_refl _
    have each : ∀ i, i < l → ∃ t : TN, (∀ j u, ([.int .i64 t.q, .int .i64 t.h, .slice t.a t.n t.c] : List Value)[j]? = some u → W.cell? ((x.add (i * 3)).add j) = some u) ∧ PV W t.a t.n t.S ∧ t.n ≤ maxLen ∧ TnW t := fun i hi => by
      obtain ⟨cs', h1, h2⟩ := hx i (by omega)
      rw [Tryd.cellsY89] at h1
      obtain ⟨_, hlen, hat⟩ := World.cells?_some h1
      obtain ⟨t, rfl, h3, h4, h5⟩ := open_tn2 hlen h2
      refine ⟨t, fun j u hu => ?_, h3, h4, h5⟩
      rw [hat j (List.getElem?_eq_some_iff.mp hu).1, hu]
    by_cases hz : l = 0
    · exact ⟨some x, l, c, fun _ => ⟨0, 0, none, 0, 0, fun _ => (⟨0, 0⟩ : SL)⟩, hcs, .inl hz, by omega, fun i hi => by omega, fun i hi => by omega⟩
    have : Inhabited TN := ⟨⟨0, 0, none, 0, 0, fun _ => (⟨0, 0⟩ : SL)⟩⟩
    obtain ⟨T, hT⟩ := Go.Deep.choose_lt each
    refine ⟨some x, l, c, T, hcs, ?_, by omega, fun i hi => (hT i hi).2.2.1, fun i hi => (hT i hi).2.2.2⟩
    obtain ⟨b, off, spot⟩ := x
    have hc := (hT 0 (by omega)).1 0 _ rfl
    have hspot : spot = none := by simpa [Addr.add] using World.cell?_spot hc
    subst hspot
    refine .inr ⟨b, off, rfl, World.block_lt_of_cell? W _ (by simpa [Addr.add] using hc), fun i hi => ?_, fun i hi => (hT i hi).2.1⟩
    have g := fun j u hu => (hT i hi).1 j u hu
    simp only [add_none] at g
    exact ⟨g 0 _ rfl, g 1 _ rfl, g 2 _ rfl⟩

set_option maxRecDepth 100000 in
/-- What came in: a heap. -/
theorem open_heap2 {H : Type} {enc : TypeId × Value → H} {W : World} {base : Nat} {v0 : Value} {d0 : DataW H} {p0 : List MemPlace}
    (hv : Value.okWide Tryd.prog W .any base 27 v0) (h0 : DataW.Trod enc Tryd.prog W 0 (fun _ => true) true 27 v0 d0 p0) :
    ∃ (h ac bu : Int) (a : Option Addr) (n c : Nat) (f : Nat → Int) (ta : Option Addr) (N tc : Nat) (T : Nat → TN), v0 = .agg #[.int .i64 h, .slice a n c, .int .i64 ac, .int .i64 bu, .slice ta N tc] ∧ Src W a n f ∧ n ≤ maxLen ∧ TV W ta N T ∧ N ≤ maxLen ∧ (∀ i, i < N → (T i).n ≤ maxLen) ∧ ∀ i, i < N → TnW (T i) := by
  obtain ⟨cs, rfl, hsz⟩ := okWide_struct Tryd.underlying27 hv
  have hsz : cs.size = 5 := hsz.trans Tryd.cellsY27
  obtain ⟨fuel, hf0⟩ := h0
  obtain ⟨ls⟩ := cs
  match ls, hsz with
  | [v0, v1, v2, v3, v4], _ =>
    obtain ⟨xs, k, _, _, _, hxl, hf⟩ := DataW.trod_struct Tryd.underlying27 hf0
    have hxl : xs.length = 2 := hxl
    match xs, hxl with
    | [y0, y1], _ =>
      have g0 := hf 0 _ rfl
      have g1 := hf 1 _ rfl
      simp [Value.cells, Tryd.cellsY24, Tryd.cellsY25] at g0 g1
      obtain ⟨ys, k', _, _, _, hyl, hg⟩ := DataW.trod_struct Tryd.underlying24 g0
      have hyl : ys.length = 4 := hyl
      match ys, hyl with
      | [z0, z1, z2, z3], _ =>
        have q0 := hg 0 _ rfl
        have q1 := hg 1 _ rfl
        have q2 := hg 2 _ rfl
        have q3 := hg 3 _ rfl
        simp [Tryd.cellsO2, Tryd.cellsO22] at q0 q1 q2 q3
        obtain ⟨h, e0, _, _⟩ := DataW.trod_int Tryd.underlying2 q0
        obtain ⟨a, n, c, f, e1, s1, hn⟩ := open_ints1 q1
        obtain ⟨ac, e2, _, _⟩ := DataW.trod_int Tryd.underlying2 q2
        obtain ⟨bu, e3, _, _⟩ := DataW.trod_int Tryd.underlying2 q3
        obtain ⟨ta, N, tc, T, e4, t1, hN, hM, hW⟩ := open_tns2 g1
        simp only [List.cons.injEq, and_true] at e0 e1 e2 e3 e4
        subst e0 e1 e2 e3 e4
        exact ⟨h, ac, bu, a, n, c, f, ta, N, tc, T, rfl, s1, hn, t1, hN, hM, hW⟩
end Go.Proofs.YtnpklnpicelcmaaDoor

namespace Go.Proofs.YtnpklnpicelcmaaDoor
open Go.RowKit
set_option linter.unusedVariables false

theorem tnw_nd {N : Nat} {T U : Nat → TN} (hw : ∀ i, i < N → TnW (T i)) (hs : ∀ i, i < N → TnSame (T i) (U i)) : ∀ i, i < N → ∀ j, j < (U i).n → -9223372036854775808 ≤ ((U i).S j).nd ∧ ((U i).S j).nd ≤ 9223372036854775807 := fun i hi j hj => by
  obtain ⟨_, _, h3, h4⟩ := hs i hi
  have hj' : j < (T i).n := by omega
  rw [← h4 j hj']
  exact ((hw i hi).2.2 j hj').2

theorem tnsame_max {N : Nat} {T T' : Nat → TN} (h : ∀ i, i < N → TnSame (T i) (T' i)) (hn : ∀ i, i < N → (T i).n ≤ 1048576) : ∀ i, i < N → (T' i).n ≤ maxLen := fun i hi => by
  have := tnsame_n h hn i hi
  unfold maxLen; omega

theorem max_of {N : Nat} (h : N ≤ 1048576) : N ≤ maxLen := by unfold maxLen; omega
end Go.Proofs.YtnpklnpicelcmaaDoor

namespace Go.Proofs.YtnpklnpicelcmaaDoor
open Go.RowKit
set_option linter.unusedVariables false

set_option maxRecDepth 100000 in
set_option maxHeartbeats 800000 in
theorem markHeapSlotS_big (a : Option Addr) (lo hi N c : Nat) (T : Nat → SL) (k : Int) (w : World) (hs : PVO w lo hi a N T) (hk0 : 0 ≤ k) (hk1 : k + 2 * (N : Int) ≤ 4398046511104) :
    Calls Tryd.prog 64 #[.slice a N c, .int .i64 k] w fun e w' => e = .returned (.int .i64 (k + 2 * (N : Int))) ∧ PVO w' lo hi a N (smkd k) ∧ Keeps w w' lo hi := by
  have H := Lib.hid hs
  clear hs
  go_enter Tryd.func64, Tryd.ntmps64
  go_wp2
  go_loopw [1, 5] (fun u p wr => ∃ i : Nat, i ≤ N ∧ p = .int .i64 i ∧ u = .int .i64 (k + 2 * (i : Int)) ∧ Hid (Keeps w wr lo hi) ∧ Hid (PVO wr lo hi a N (fun j => if j < i then smkd k j else T j))) (fun _ p _ => N - (intOf p).toNat)
  case atStart => exact ⟨0, Nat.zero_le _, rfl, by simp, Keeps.refl _ _ _, by simpa using H⟩
  case round =>
    obtain ⟨i, hi9, rfl, rfl, HK, HR⟩ := hrel
    by_cases hlt : i < N
    · have hlt' : (i : Int) < (N : Int) := by omega
      have hi0 : (0 : Int) ≤ (i : Int) := by omega
      rcases HR.out with h0 | ⟨b, q, rfl, hg⟩
      · omega
      obtain ⟨x0, x1⟩ := hg.two i hlt
      obtain ⟨f0, f1⟩ := hg.free i hlt
      have hlt0 := hg.lt
      generalize hK : k + 2 * (i : Int) = K at *
      have hK0 : 0 ≤ K := by omega
      have hK1 : K + 2 ≤ 4398046511104 := by omega
      have HKK := Lib.hid hK
      have HQ := Lib.hid (pown_put (i := i) (t := ⟨K, K + 1⟩) hg hlt)
      clear hK hg HR
      go_wp2
      go_roundw
      case rel =>
        refine ⟨i + 1, by omega, by go_num, by have := HKK.out; go_num, HK.out.trans HQ.out.2, .inr ⟨b, q, rfl, HQ.out.1.congr fun j hj => ?_⟩⟩
        by_cases e : j = i
        · subst e
          simp only [if_true, Nat.lt_succ_self, smkd, HKK.out]
        · rw [if_neg e]
          have h2 : (j < i + 1) = (j < i) := by simp only [eq_iff_iff]; omega
          simp only [h2]
      case measure => simp [intOf]; omega
    · go_wp2
      go_ret
      obtain rfl : i = N := by omega
      refine ⟨rfl, ?_, HK.out⟩
      exact HR.out.congr fun j hj => by simp [hj]

set_option maxRecDepth 100000 in
set_option maxHeartbeats 1600000 in
theorem markTenS_big (lo hi b q N c : Nat) (T : Nat → TN) (k : Int) (w : World) (hs : TOwn w lo hi b q N T) (hk0 : 0 ≤ k) (hk1 : k + (toff T N : Int) ≤ 4398046511104) (hN5 : N ≤ 1048576) :
    Calls Tryd.prog 34 #[.slice (some ⟨b, q, none⟩) N c, .int .i64 k] w (TRetMarkS w lo hi b q N T k) := by
  have H := Lib.hid hs
  have hlh : lo ≤ hi := by have := hs.glo; have := hs.ghi; omega
  clear hs
  go_enter Tryd.func34, Tryd.ntmps34
  go_wp2
  go_loopw [1, 5] (fun u p wr => ∃ i : Nat, i ≤ N ∧ p = .int .i64 i ∧ u = .int .i64 (k + (toff T i : Int)) ∧ Hid (Keeps w wr lo hi) ∧ Hid (TOwn wr lo hi b q N (fun j => if j < i then tmkd T k j else T j))) (fun _ p _ => N - (intOf p).toNat)
  case atStart => exact ⟨0, Nat.zero_le _, rfl, by simp [toff], Keeps.refl _ _ _, by simpa using H⟩
  case round =>
    obtain ⟨i, hi9, rfl, rfl, HK, HR⟩ := hrel
    by_cases hlt : i < N
    · have hlt' : (i : Int) < (N : Int) := by omega
      have hi0 : (0 : Int) ≤ (i : Int) := by omega
      have hle : toff T (i + 1) ≤ toff T N := toff_mono T hlt
      have hso : (toff T (i + 1) : Int) = (toff T i : Int) + 2 + 2 * ((T i).n : Int) := by simp only [toff]; omega
      have hx := HR.out.thr i hlt
      have hsrc := HR.out.slo i hlt
      obtain ⟨f0, f1, f2⟩ := HR.out.free i hlt
      have hlt0 := HR.out.lt
      simp only [Nat.lt_irrefl, if_false] at hx hsrc
      obtain ⟨x0, x1, x2⟩ := hx
      generalize hK : k + (toff T i : Int) = K at *
      have hK0 : 0 ≤ K := by omega
      have hK1 : K + 2 + 2 * ((T i).n : Int) ≤ 4398046511104 := by omega
      have HSO := Lib.hid hso; have HKK := Lib.hid hK; have HSRC := Lib.hid hsrc
      clear hso hK hle hsrc
      obtain ⟨l, r, hl1, hl2, hl3, hnar, hlr⟩ := pvo_narrow HSRC.out hlh
      obtain ⟨U, hU⟩ : ∃ U : Nat → TN, U = fun j => if j < i then tmkd T k j else T j := ⟨_, rfl⟩
      have hUi : U i = T i := by rw [hU]; simp
      have hR : TOwn wr lo hi b q N U := by rw [hU]; exact HR.out
      have hnar' : PVO wr l r (U i).a (U i).n (U i).S := by rw [hUi]; exact hnar
      have h5 := town_two ⟨K, K + 1⟩ hR hlt hnar'
      have hlr' : ((U i).n = 0 ∧ l = r) ∨ (0 < (U i).n ∧ l = (U i).g ∧ r = (U i).g + 1 ∧ (U i).g < wr.heap.size) := by rw [hUi]; exact hlr
      rw [hUi] at h5
      have H5 := Lib.hid h5; have HLR := Lib.hid hlr'; have HRU := Lib.hid hR; have HUI := Lib.hid hUi; have HU := Lib.hid hU
      clear h5 hlr' hR hUi hU hnar hnar' hlr HR
      go_wp2_with fail
      rw [show K + 1 + 1 = K + 2 from by omega]
      refine (markHeapSlotS_big (T i).a l r (T i).n (T i).c (T i).S (K + 2) (twoW wr b (q + i * 3) ⟨K, K + 1⟩) H5.out (by omega) (by omega)).mono ?_
      rintro e w2 ⟨rfl, ho2, hk2⟩
      have hq := town_round (i := i) HRU.out hlt hl1 hl3 HLR.out hk2 (by rw [HUI.out]; exact ho2)
      have HQ := Lib.hid hq
      clear ho2 hk2 hq
      go_wp2
      go_roundw
      case rel =>
        refine ⟨i + 1, by omega, by go_num, by have := HSO.out; have := HKK.out; go_num, HK.out.trans HQ.out.2, HQ.out.1.congr fun j hj => ?_⟩
        by_cases e : j = i
        · subst e
          simp only [if_true, Nat.lt_succ_self, tmkd, HKK.out, HUI.out]
        · rw [if_neg e, HU.out]
          have h2 : (j < i + 1) = (j < i) := by simp only [eq_iff_iff]; omega
          simp only [h2]
      case measure => simp [intOf]; omega
    · go_wp2
      go_ret
      obtain rfl : i = N := by omega
      exact ⟨rfl, HR.out.congr fun j hj => by simp [hj], HK.out⟩

set_option maxRecDepth 100000 in
set_option maxHeartbeats 400000 in
theorem markTV_big (lo hi N c : Nat) (a : Option Addr) (T : Nat → TN) (k : Int) (w : World) (hs : TVO w lo hi a N T) (hk0 : 0 ≤ k) (hk1 : k + (toff T N : Int) ≤ 4398046511104) (hN5 : N ≤ 1048576) :
    Calls Tryd.prog 34 #[.slice a N c, .int .i64 k] w (TRetMarkV w lo hi a N T k) := by
  rcases Nat.eq_zero_or_pos N with rfl | hp
  · clear hs hN5
    simp only [toff] at hk1
    go_enter Tryd.func34, Tryd.ntmps34
    go_wp2
    go_loop [1, 5] (fun u p => u = .int .i64 k ∧ p = .int .i64 0) (fun _ _ => 0)
    case atStart => exact ⟨rfl, rfl⟩
    case round =>
      obtain ⟨rfl, rfl⟩ := hrel
      go_wp2
      go_ret
      exact ⟨by simp [toff], .inl rfl, Keeps.refl _ _ _⟩
  · rcases hs with h0 | ⟨b, q, rfl, h⟩
    · omega
    · refine (markTenS_big lo hi b q N c T k w h hk0 hk1 hN5).mono ?_
      rintro e w' ⟨rfl, h1, h2⟩
      exact ⟨rfl, .inr ⟨b, q, rfl, h1⟩, h2⟩

set_option maxRecDepth 100000 in
set_option maxHeartbeats 800000 in
theorem markHeap_big (h ac bu : Int) (a : Option Addr) (n c : Nat) (f : Nat → Int) (ta : Option Addr) (N tc : Nat) (T : Nat → TN) (lo mid hi : Nat) (k : Int) (w : World) (hp : OwnIn w lo mid a n f) (hg : TVO w mid hi ta N T) (h1 : lo ≤ mid) (h2 : mid ≤ hi) (h3 : hi ≤ w.heap.size) (hn : n ≤ 1048576) (hk0 : 0 ≤ k) (hk9 : k ≤ 1000) (hk1 : k + (n : Int) + (toff T N : Int) ≤ 4398046511104) (hN5 : N ≤ 1048576) :
    Calls Tryd.prog 12 #[.agg #[.int .i64 h, .slice a n c, .int .i64 ac, .int .i64 bu, .slice ta N tc], .int .i64 k] w (RetMkH w lo mid hi a n ta N T k) := by
  have P0 := Lib.hid hp; have G0 := Lib.hid hg
  have hn0 : (0 : Int) ≤ (toff T N : Int) := by omega
  clear hp hg
  go_enter Tryd.func12, Tryd.ntmps12
  have A_0 := Lib.hid (Blk.new_at (w := w) (cs := #[.int .i64 h, .slice a n c, .int .i64 ac, .int .i64 bu, .slice ta N tc]) (t := 35) w.heap.size rfl)
  have HB0 := Lib.hid ((Below.refl w.heap.size w).alloc (Nat.le_refl _) (.cells #[.int .i64 h, .slice a n c, .int .i64 ac, .int .i64 bu, .slice ta N tc] 35))
  have P1 := Lib.hid (P0.out.below HB0.out); have G1 := Lib.hid (G0.out.below HB0.out)
  have HK0 := Lib.hid (keeps_of_below HB0.out lo hi)
  go_wp2_with fail
  refine (markArena_any h ac bu a n c lo mid f k _ P1.out hn hk0 (by omega)).mono ?_
  rintro e w1 ⟨rfl, hp, hk⟩
  have P2 := Lib.hid hp; have HK1 := Lib.hid (HK0.out.trans (hk.widen (Nat.le_refl _) h2))
  have A_1 := Lib.hid (A_0.out.keeps hk (.inr (by omega)))
  have G2 := Lib.hid (G1.out.keeps hk (.inr (Nat.le_refl _)))
  clear hp hk P0 P1 G0 G1 A_0 HK0
  have c4 := A_1.out.at 4 rfl; have lA := A_1.out.1
  go_wp2_with fail
  refine (markTV_big mid hi N tc ta T (k + (n : Int)) _ G2.out (by omega) hk1 hN5).mono ?_
  rintro e w2 ⟨rfl, hg, hk⟩
  have G3 := Lib.hid hg; have P3 := Lib.hid (P2.out.keeps hk (.inl (Nat.le_refl _))); have HK2 := Lib.hid (HK1.out.trans (hk.widen h1 (Nat.le_refl _)))
  clear hg hk G2 P2 HK1 c4 lA A_1
  go_wp2
  go_ret
  exact ⟨rfl, P3.out, G3.out, HK2.out⟩

theorem toff_big {T : Nat → TN} : ∀ K, (∀ i, i < K → (T i).n ≤ 1048576) → toff T K ≤ K * 2097154
  | 0, _ => Nat.zero_le _
  | K + 1, h => by
    have h1 := toff_big K fun i hi => h i (by omega)
    have h2 := h K (Nat.lt_succ_self K)
    simp only [toff]; omega
end Go.Proofs.YtnpklnpicelcmaaDoor

namespace Go.Proofs.YtnpklnpicelcmaaDoor
open Go.RowKit
set_option linter.unusedVariables false

theorem nums_app (l m : List Int) : nums l.length (lf l) ++ nums m.length (lf m) = nums (l ++ m).length (lf (l ++ m)) := by
  rw [nums_lf, nums_lf, nums_lf, List.map_append]

/-- A row of numbers is appended to a row of the call's own. -/
theorem append_src {w : World} {ops : Array Oper} {rest : List Oper} {o : Oper} {a : Act} {Q : Exit → Act → World → Prop} (hgd : o.guard = none) (s x : Operand)
    (ho : o.op = .call { callee := .builtin .append, args := #[s, x], argTypes := #[22, 22] })
    (base : Nat) (v : Value) (n : Nat) (xs : List Value) (hs : a.eval s = v) (hown : w.ownsRow base 2 1 v n xs) (b : Option Addr) (m c : Nat) (f : Nat → Int) (hx : a.eval x = .slice b m c) (hsrc : Src w b m f) (hna : b = none → m = 0 ∧ c = 0)
    (h63 : n + m ≤ 1000000) (hbase : base ≤ w.heap.size)
    (h : ∀ v' w', w'.ownsRow base 2 1 v' (n + m) (xs ++ nums m f) → w.grownBy w' v.ownBlock → wpList Tryd.prog ops Q rest (a.put o.dst v') w') : wpList Tryd.prog ops Q (o :: rest) a w := by
  obtain ⟨i0, hif, hz0, hz1, hz2⟩ := info_parts Tryd.info2
  cases b with
  | none =>
    obtain ⟨rfl, rfl⟩ := hna rfl
    exact wpList_append_own_none hgd s x 22 ho base 2 i0 1 Tryd.underlying22 hif v n xs hs hown hx (h v w (by simpa [nums] using hown) (World.grownBy.refl _ _))
  | some ad =>
    have hc : ∀ (j : Nat) (u : Value), (nums m f)[j]? = some u → w.cell? (ad.add j) = some u := by
      rcases hsrc with h0 | ⟨b, off, e, hb, hc⟩
      · subst h0; intro j u hu; simp [nums] at hu
      · simp only [Option.some.injEq] at e
        subst e
        exact news_at hc
    exact wpList_append_own w hgd s x 22 ho base 2 i0 (.int .i64 0) 1 8 Tryd.underlying22 hif hz0 hz1 hz2 rfl (by decide) v n xs hs hown ad m c (nums m f) hx (by simp [nums]) hc (nums_one m f) (by unfold maxLen; omega) (by omega) hbase fun v' w' h1 h2 _ => h v' w' h1 h2

/-- What a right heap is. -/
structure HpOk (L : List Ob) (N : Nat) (T : Nat → TN) : Prop where
  n : 1 ≤ N ∧ N ≤ 4
  t : ∀ i, i < N → TnOk L (i : Int) (T i)

theorem hpOk_of {f : Nat → Int} {L : List Ob} {h : Int} {N : Nat} {T : Nat → TN} (hk : hpF f L h N T = 0) : HpOk L N T := by
  rcases hpF_cases f L h N T rfl with ⟨_, h2⟩ | ⟨h1, ⟨h2, h3⟩ | ⟨h2, _⟩⟩
  · omega
  · exact absurd (h3.symm.trans hk) h2
  · exact ⟨h1, fun i hi => tnF_ok (tnsF_all h2 i hi)⟩

/-- An answer with a code and a row of numbers of its own. -/
def RetIsR (W : World) (co : Int) (K : Nat) (U : Nat → Int) (e : Ending) (w' : World) : Prop :=
  ∃ a c, e = .returned (.agg #[.int .i64 co, .slice a K c]) ∧ Own w' W.heap.size a K U ∧ Below W.heap.size W w'

theorem own_two2 {w : World} {lo lo' B n : Nat} {a : Option Addr} {f : Nat → Int} {v0 v1 : Value} (h : Own w lo a n f) (hB : B < lo) (hl : lo' ≤ lo) : Own ((w.setCell ⟨B, 0, none⟩ v0).setCell ⟨B, 1, none⟩ v1) lo' a n f := by
  rcases h with h0 | ⟨b, off, ha, h1, h2, h3⟩
  · exact .inl h0
  · have hk := two_keeps w B v0 v1
    exact .inr ⟨b, off, ha, by omega, Nat.lt_of_lt_of_le h2 hk.size, fun i hi => by
      obtain ⟨x1, x2⟩ := h3 i hi
      have e := hk.block b h2 (.inr (by omega))
      exact ⟨(World.cell?_of_block (w := w) (a := ⟨b, off + i, none⟩) e).trans x1, (World.frozen?_of_block (w := w) (a := ⟨b, off + i, none⟩) e).trans x2⟩⟩
end Go.Proofs.YtnpklnpicelcmaaDoor

namespace Go.Proofs.YtnpklnpicelcmaaDoor
open Go.RowKit
set_option linter.unusedVariables false

def OneG (w : World) (b o : Nat) (t : Bool) : Prop := w.cell? ⟨b, o, none⟩ = some (.bool t)

def OneF (w : World) (b o : Nat) : Prop := w.frozen? ⟨b, o, none⟩ = false

theorem OneG.block {w w' : World} {b o : Nat} {t : Bool} (h : OneG w b o t) (e : w'.heap[b]? = w.heap[b]?) : OneG w' b o t := (World.cell?_of_block (w := w) (a := ⟨b, o, none⟩) e).trans h

theorem OneF.block {w w' : World} {b o : Nat} (h : OneF w b o) (e : w'.heap[b]? = w.heap[b]?) : OneF w' b o := (World.frozen?_of_block (w := w) (a := ⟨b, o, none⟩) e).trans h

/-- A row of truth values is read. -/
structure BSrc (w : World) (b q N : Nat) (T : Nat → Bool) : Prop where
  lt : b < w.heap.size
  one : ∀ i, i < N → OneG w b (q + i) (T i)

/-- A row of truth values of the call's own. -/
structure BOwn (w : World) (lo hi b q N : Nat) (T : Nat → Bool) : Prop where
  glo : lo ≤ b
  ghi : b < hi
  lt : b < w.heap.size
  one : ∀ i, i < N → OneG w b (q + i) (T i)
  free : ∀ i, i < N → OneF w b (q + i)

theorem BOwn.src {w : World} {lo hi b q N : Nat} {T : Nat → Bool} (h : BOwn w lo hi b q N T) : BSrc w b q N T := ⟨h.lt, h.one⟩

theorem BSrc.below {w w' : World} {b q N : Nat} {T : Nat → Bool} (h : BSrc w b q N T) (hb : Below w.heap.size w w') : BSrc w' b q N T :=
  ⟨Nat.lt_of_lt_of_le h.lt hb.size, fun i hi => (h.one i hi).block (hb.block b h.lt)⟩

theorem BOwn.below {w w' : World} {lo hi b q N : Nat} {T : Nat → Bool} (h : BOwn w lo hi b q N T) (hb : Below w.heap.size w w') : BOwn w' lo hi b q N T :=
  ⟨h.glo, h.ghi, Nat.lt_of_lt_of_le h.lt hb.size, fun i hi => (h.one i hi).block (hb.block b h.lt), fun i hi => (h.free i hi).block (hb.block b h.lt)⟩

theorem BSrc.keeps {w w' : World} {lo hi b q N : Nat} {T : Nat → Bool} (h : BSrc w b q N T) (hk : Keeps w w' lo hi) (hd : b < lo ∨ hi ≤ b) : BSrc w' b q N T :=
  ⟨Nat.lt_of_lt_of_le h.lt hk.size, fun i hi => (h.one i hi).block (hk.block b h.lt hd)⟩

theorem BOwn.keeps {w w' : World} {lo hi lo' hi' b q N : Nat} {T : Nat → Bool} (h : BOwn w lo hi b q N T) (hk : Keeps w w' lo' hi') (hd : hi ≤ lo' ∨ hi' ≤ lo) : BOwn w' lo hi b q N T := by
  have h1 := h.glo; have h2 := h.ghi
  exact ⟨h.glo, h.ghi, Nat.lt_of_lt_of_le h.lt hk.size, fun i hi => (h.one i hi).block (hk.block b h.lt (by omega)), fun i hi => (h.free i hi).block (hk.block b h.lt (by omega))⟩

def BV (w : World) (a : Option Addr) (N : Nat) (T : Nat → Bool) : Prop := N = 0 ∨ ∃ b q, a = some ⟨b, q, none⟩ ∧ BSrc w b q N T

def BVO (w : World) (lo hi : Nat) (a : Option Addr) (N : Nat) (T : Nat → Bool) : Prop := N = 0 ∨ ∃ b q, a = some ⟨b, q, none⟩ ∧ BOwn w lo hi b q N T

theorem BVO.src {w : World} {lo hi N : Nat} {a : Option Addr} {T : Nat → Bool} (h : BVO w lo hi a N T) : BV w a N T := by
  rcases h with h0 | ⟨b, q, ha, h⟩
  · exact .inl h0
  · exact .inr ⟨b, q, ha, h.src⟩

theorem BV.below {w w' : World} {N : Nat} {a : Option Addr} {T : Nat → Bool} (h : BV w a N T) (hb : Below w.heap.size w w') : BV w' a N T := by
  rcases h with h0 | ⟨b, q, ha, h⟩
  · exact .inl h0
  · exact .inr ⟨b, q, ha, h.below hb⟩

theorem BVO.below {w w' : World} {lo hi N : Nat} {a : Option Addr} {T : Nat → Bool} (h : BVO w lo hi a N T) (hb : Below w.heap.size w w') : BVO w' lo hi a N T := by
  rcases h with h0 | ⟨b, q, ha, h⟩
  · exact .inl h0
  · exact .inr ⟨b, q, ha, h.below hb⟩

theorem BVO.keeps {w w' : World} {lo hi lo' hi' N : Nat} {a : Option Addr} {T : Nat → Bool} (h : BVO w lo hi a N T) (hk : Keeps w w' lo' hi') (hd : hi ≤ lo' ∨ hi' ≤ lo) : BVO w' lo hi a N T := by
  rcases h with h0 | ⟨b, q, ha, h⟩
  · exact .inl h0
  · exact .inr ⟨b, q, ha, h.keeps hk hd⟩

theorem BV.drew {w : World} {N : Nat} {a : Option Addr} {T : Nat → Bool} (h : BV w a N T) : BV w.drew a N T := h.below (Below.refl _ _).drew

theorem BV.alloc {w : World} {N : Nat} {a : Option Addr} {T : Nat → Bool} (h : BV w a N T) (o : Obj) : BV (w.alloc o) a N T := h.below ((Below.refl _ _).alloc (Nat.le_refl _) o)

theorem BVO.drew {w : World} {lo hi N : Nat} {a : Option Addr} {T : Nat → Bool} (h : BVO w lo hi a N T) : BVO w.drew lo hi a N T := h.below (Below.refl _ _).drew

theorem BVO.alloc {w : World} {lo hi N : Nat} {a : Option Addr} {T : Nat → Bool} (h : BVO w lo hi a N T) (o : Obj) : BVO (w.alloc o) lo hi a N T := h.below ((Below.refl _ _).alloc (Nat.le_refl _) o)
end Go.Proofs.YtnpklnpicelcmaaDoor

namespace Go.Proofs.YtnpklnpicelcmaaDoor
open Go.RowKit
set_option linter.unusedVariables false

/-- Where the turns stand. -/
def TurnAt (w : World) (tb bt qt M ct k : Nat) : Prop := ∃ ad, Blk w tb [.slice ad (M - k) (ct - k)] ∧ (k < M → ad = some ⟨bt, qt + k, none⟩)

theorem blk_same {w w' : World} {b : Nat} {cs : List Value} (h : Blk w b cs) (e : w'.heap[b]? = w.heap[b]?) (hs : w.heap.size ≤ w'.heap.size) : Blk w' b cs := by
  refine ⟨Nat.lt_of_lt_of_le h.1 hs, fun j u hu => ?_⟩
  obtain ⟨x1, x2⟩ := h.2 j u hu
  exact ⟨(World.cell?_of_block (w := w) e).trans x1, (World.frozen?_of_block (w := w) e).trans x2⟩

/-- All blocks below a bound, but one, are as they were. -/
def Oth (lo mb : Nat) (w w' : World) : Prop := w.heap.size ≤ w'.heap.size ∧ ∀ b, b < lo → b ≠ mb → w'.heap[b]? = w.heap[b]?

theorem Oth.refl (lo mb : Nat) (w : World) : Oth lo mb w w := ⟨Nat.le_refl _, fun _ _ _ => rfl⟩

theorem Oth.drew {lo mb : Nat} {w w' : World} (h : Oth lo mb w w') : Oth lo mb w w'.drew := ⟨by simpa using h.1, fun b h1 h2 => h.2 b h1 h2⟩

theorem Oth.alloc {lo mb : Nat} {w w' : World} (h : Oth lo mb w w') (hl : lo ≤ w.heap.size) (o : Obj) : Oth lo mb w (w'.alloc o) := ⟨by have := h.1; simp; omega, fun b h1 h2 => (Below.heap_alloc _ _ _ (by have := h.1; omega)).trans (h.2 b h1 h2)⟩

theorem Oth.grown {lo mb : Nat} {w w' w2 : World} {r : Option Nat} (h : Oth lo mb w w') (hl : lo ≤ w.heap.size) (hg : w'.grownBy w2 r) (hr : ∀ k, r = some k → lo ≤ k) : Oth lo mb w w2 := ⟨Nat.le_trans h.1 hg.size, fun b h1 h2 => (hg.block b (by have := h.1; omega) (fun e => by have := hr b e.symm; omega)).trans (h.2 b h1 h2)⟩

theorem Oth.set {lo mb : Nat} {w w' : World} (h : Oth lo mb w w') (o : Nat) (v : Value) : Oth lo mb w (w'.setCell ⟨mb, o, none⟩ v) := ⟨by have := h.1; simpa using this, fun b h1 h2 => (Below.heap_setCell _ _ _ b h2).trans (h.2 b h1 h2)⟩

/-- What is left of a list that is merged. -/
def Left (w : World) (fb ba qa N c x : Nat) : Prop := ∃ ad, Blk w fb [.slice (some ad) (N - x) (c - x)] ∧ (x < N → ad = ⟨ba, qa + x * 7, none⟩)
end Go.Proofs.YtnpklnpicelcmaaDoor

namespace Go.Proofs.YtnpklnpicelcmaaDoor
open Go.RowKit
set_option linter.unusedVariables false

theorem Left.keeps {w w' : World} {fb ba qa N c x lo hi : Nat} (h : Left w fb ba qa N c x) (hk : Keeps w w' lo hi) (hd : fb < lo ∨ hi ≤ fb) : Left w' fb ba qa N c x := by
  obtain ⟨ad, h1, h2⟩ := h
  exact ⟨ad, h1.keeps hk hd, h2⟩

theorem Left.same {w w' : World} {fb ba qa N c x : Nat} (h : Left w fb ba qa N c x) (e : w'.heap[fb]? = w.heap[fb]?) (hs : w.heap.size ≤ w'.heap.size) : Left w' fb ba qa N c x := by
  obtain ⟨ad, h1, h2⟩ := h
  exact ⟨ad, blk_same h1 e hs, h2⟩

theorem TurnAt.same {w w' : World} {tb bt qt M ct k : Nat} (h : TurnAt w tb bt qt M ct k) (e : w'.heap[tb]? = w.heap[tb]?) (hs : w.heap.size ≤ w'.heap.size) : TurnAt w' tb bt qt M ct k := by
  obtain ⟨ad, h1, h2⟩ := h
  exact ⟨ad, blk_same h1 e hs, h2⟩
end Go.Proofs.YtnpklnpicelcmaaDoor

namespace Go.Proofs.YtnpklnpicelcmaaDoor
open Go.RowKit Go.Maps
set_option linter.unusedVariables false

/-- A row of objects that is read, it and the fields in blocks from lo on. -/
def GVL (w : World) (lo : Nat) (a : Option Addr) (N : Nat) (T : Nat → GM) : Prop :=
  GV w a N T ∧ (N = 0 ∨ ∃ b q, a = some ⟨b, q, none⟩ ∧ lo ≤ b) ∧ ∀ i, i < N → (T i).n = 0 ∨ lo ≤ (T i).g

theorem GVL.below {w w' : World} {lo : Nat} {a : Option Addr} {N : Nat} {T : Nat → GM} (h : GVL w lo a N T) (hb : Below w.heap.size w w') : GVL w' lo a N T := ⟨h.1.below hb, h.2⟩

theorem GVL.grown {w w' : World} {lo : Nat} {a : Option Addr} {N : Nat} {T : Nat → GM} {k : Option Nat} (h : GVL w lo a N T) (hg : w.grownBy w' k) (hk : ∀ b, k = some b → b < lo) : GVL w' lo a N T := by
  refine ⟨?_, h.2⟩
  obtain ⟨h1, h2, h3⟩ := h
  rcases h1 with h0 | ⟨b, q, e, g⟩
  · exact .inl h0
  rcases Nat.eq_zero_or_pos N with h0 | hp
  · exact .inl h0
  have hne : ∀ b, lo ≤ b → some b ≠ k := fun b hb he => by have := hk b he.symm; omega
  have hb : lo ≤ b := by
    rcases h2 with h0 | ⟨b', q', e', hb'⟩
    · omega
    · rw [e] at e'; cases e'; exact hb'
  refine .inr ⟨b, q, e, Nat.lt_of_lt_of_le g.lt hg.size, fun i hi => (g.six i hi).block (hg.block b g.lt (hne b hb)), fun i hi => ?_⟩
  rcases g.flds i hi with h0 | ⟨c, o, e1, h5, h6⟩
  · exact .inl h0
  · rcases h3 i hi with h0 | h4
    · exact .inl h0
    · have hc : (T i).g = c := by simp [GM.g, e1]
      exact .inr ⟨c, o, e1, Nat.lt_of_lt_of_le h5 hg.size, fun j hj => (World.cell?_of_block (w := w) (a := ⟨c, o + j, none⟩) (hg.block c h5 (hne c (by omega)))).trans (h6 j hj)⟩

theorem GVL.set {w : World} {lo : Nat} {a : Option Addr} {N : Nat} {T : Nat → GM} (h : GVL w lo a N T) {p : Addr} (hp : p.block < lo) (v : Value) : GVL (w.setCell p v) lo a N T := by
  refine ⟨?_, h.2⟩
  obtain ⟨h1, h2, h3⟩ := h
  rcases h1 with h0 | ⟨b, q, e, g⟩
  · exact .inl h0
  rcases Nat.eq_zero_or_pos N with h0 | hq
  · exact .inl h0
  have hb : lo ≤ b := by
    rcases h2 with h0 | ⟨b', q', e', hb'⟩
    · omega
    · rw [e] at e'; cases e'; exact hb'
  refine .inr ⟨b, q, e, by have := g.lt; simpa using this, fun i hi => (g.six i hi).block (Below.heap_setCell _ _ _ b (by omega)), fun i hi => ?_⟩
  rcases g.flds i hi with h0 | ⟨c, o, e1, h5, h6⟩
  · exact .inl h0
  · rcases h3 i hi with h0 | h4
    · exact .inl h0
    · have hc : (T i).g = c := by simp [GM.g, e1]
      exact .inr ⟨c, o, e1, by simpa using h5, fun j hj => (World.cell?_of_block (w := w) (a := ⟨c, o + j, none⟩) (Below.heap_setCell _ _ _ c (by omega))).trans (h6 j hj)⟩

theorem GVL.mono {w : World} {lo lo' : Nat} {a : Option Addr} {N : Nat} {T : Nat → GM} (h : GVL w lo a N T) (hl : lo' ≤ lo) : GVL w lo' a N T :=
  ⟨h.1, h.2.1.imp_right (fun ⟨b, q, e, hb⟩ => ⟨b, q, e, by omega⟩), fun i hi => (h.2.2 i hi).imp_right (fun h => by omega)⟩

theorem add_any2 (base rb mb : Nat) (v : Value) (M : List GM) (f : Nat → Int) (L : List Ob) (O : List Int) (t : GM) (x : Ob) (w : World) (h : RS w base rb mb v M f L O) (hp : -1000000000 ≤ t.at_ ∧ t.at_ ≤ 1000000000) (hz : base ≤ w.heap.size) (hx : findO L t.at_ = some x) (hsm : GSame t (obG f x)) (hsr : Src w t.a t.n t.f) (hfar : t.n = 0 ∨ t.g + 1 < base) (hl : O.length ≤ 400) :
    Calls Tryd.prog 93 #[.pointer (some ⟨rb, 0, none⟩), .agg #[.int .i64 t.at_, .int .i64 t.s, .int .i64 t.m, .int .i64 t.o, .int .i64 t.h, .slice t.a t.n t.c]] w fun e w' => e = .returned (.tuple #[]) ∧ Below base w w' ∧ w.heap.size ≤ w'.heap.size ∧ ∃ v' M', RS w' base rb mb v' M' f L (add1 O t.at_) ∧ ∀ u ∈ M', u ∈ M ∨ u = t := by
  by_cases hin : t.at_ ∈ O
  · refine (add_old base rb mb v M f L O t w h hp hin hz).mono ?_
    rintro e w' ⟨h1, h2, h3, h4⟩
    exact ⟨h1, h2, h3, v, M, by rw [add1, if_pos hin]; exact h4, fun u hu => .inl hu⟩
  · refine (add_new base rb mb v M f L O t x w h hp hin hz hx hsm hsr hfar hl).mono ?_
    rintro e w' ⟨h1, h2, h3, v', h4⟩
    exact ⟨h1, h2, h3, v', _, by rw [add1, if_neg hin]; exact h4, fun u hu => by simpa using hu⟩

def RetReachL (W : World) (lo : Nat) (f : Nat → Int) (L : List Ob) (roots : List Int) (e : Ending) (w' : World) : Prop :=
  Below W.heap.size W w' ∧ (((∃ p ∈ roots, p ∉ placesO L) ∧ e = .returned (.agg #[.int .i64 4, .slice none 0 0, .map none])) ∨
    ((∀ p ∈ roots, p ∈ placesO L) ∧ ∃ a c mb T, e = .returned (.agg #[.int .i64 0, .slice a (reachO f L roots).length c, .map (some mb)]) ∧ GVL w' lo a (reachO f L roots).length T ∧ lo ≤ mb ∧ MapT w' mb (reachO f L roots).length (reachO f L roots) (fun i => (i : Int)) ∧ ∀ i, i < (reachO f L roots).length → ∃ x, findO L (lf (reachO f L roots) i) = some x ∧ GSame (T i) (obG f x)))

theorem ret_of_rs_lo {W w : World} {base rb mb lo : Nat} {av : Option Addr} {kv : Nat} {M : List GM} {f : Nat → Int} {L : List Ob} {O roots : List Int} (hall : ∀ p ∈ roots, p ∈ placesO L) (he : reachO f L roots = O) (h : RS w base rb mb (.slice av M.length kv) M f L O) (hb : Below W.heap.size W w) (hlo : ∀ t ∈ M, t.n = 0 ∨ lo ≤ t.g) (hlb : lo ≤ base) : RetReachL W lo f L roots (.returned (.agg #[.int .i64 0, .slice av M.length kv, .map (some mb)])) w := by
  obtain ⟨a, c, e, hg⟩ := h.out
  simp only [Value.slice.injEq] at e
  obtain ⟨rfl, -, rfl⟩ := e
  have hl := h.len
  have hlow : M.length = 0 ∨ ∃ b q, av = some ⟨b, q, none⟩ ∧ lo ≤ b := by
    rcases Nat.eq_zero_or_pos M.length with h0 | hp
    · exact .inl h0
    · obtain ⟨g, cap, e, hbg, _⟩ := h.row.form hp
      simp only [Value.slice.injEq] at e
      exact .inr ⟨g, 0, e.1, by omega⟩
  rw [hl] at hg hlow
  have hgl : GVL w lo av O.length (gT M) := ⟨hg, hlow, fun i hi => by
    have hi' : i < M.length := by omega
    rw [gT_at (List.getElem?_eq_getElem hi')]
    exact hlo _ (List.getElem_mem hi')⟩
  refine ⟨hb, .inr ⟨hall, av, kv, mb, gT M, by rw [he, hl], by rw [he]; exact hgl, Nat.le_trans hlb h.hmb, by rw [he]; exact h.map, fun i hi => ?_⟩⟩
  rw [he] at hi ⊢
  have hi' : i < M.length := by omega
  rw [gT_at (List.getElem?_eq_getElem hi')]
  exact h.same i _ (List.getElem?_eq_getElem hi')

set_option maxRecDepth 100000 in
set_option maxHeartbeats 1600000 in
theorem reachOf_lo (a : Option Addr) (kc : Nat) (T : Nat → GM) (f : Nat → Int) (L : List Ob) (ra : Option Addr) (roots : List Int) (rc : Nat) (w : World) (hsh : Shaped w a T f L) (hrs : Src w ra roots.length (lf roots)) (hrn : roots.length ≤ 60) (lo : Nat) (hlo : ∀ i, i < L.length → (T i).n = 0 ∨ lo ≤ (T i).g) (hlw : lo ≤ w.heap.size) :
    Calls Tryd.prog 78 #[.slice a L.length kc, .slice ra roots.length rc] w (RetReachL w lo f L roots) := by
  have HSH := Lib.hid hsh; have HRS := Lib.hid hrs; have HLT := Lib.hid hlo
  have hL4 := hsh.len
  have hmk := @run_makeMap Tryd.prog
  clear hsh hrs hlo
  go_enter Tryd.func78, Tryd.ntmps78
  go_wp2_with fail
  go_step3
  have HW0 := Lib.hid ((Below.refl w.heap.size w).alloc (Nat.le_refl _) (.cells #[.int .i64 0, .slice none 0 0, .map none] 64))
  have R0 := Lib.hid (Blk.new_at (w := w) (cs := #[.int .i64 0, .slice none 0 0, .map none]) (t := 64) w.heap.size rfl)
  have z0 : (w.alloc (.cells #[.int .i64 0, .slice none 0 0, .map none] 64)).heap.size = w.heap.size + 1 := by simp
  have HM1 := Lib.hid ((MapT.made (w.alloc (.cells #[.int .i64 0, .slice none 0 0, .map none] 64)) (fun i => (i : Int))).alloc (.cells #[.int .i64 0, .slice none 0 0, .map (some (w.heap.size + 1))] 64))
  have B1 := Lib.hid (Blk.new_at (w := (w.alloc (.cells #[.int .i64 0, .slice none 0 0, .map none] 64)).alloc (.map #[] 0)) (cs := #[.int .i64 0, .slice none 0 0, .map (some (w.heap.size + 1))]) (t := 64) (w.heap.size + 1 + 1) (by simp))
  go_wp2_with fail
  generalize w.alloc (.cells #[.int .i64 0, .slice none 0 0, .map none] 64) = W0 at *
  rw [z0] at HM1
  have RS0 : Hid (RS ((W0.alloc (.map #[] 0)).alloc (.cells #[.int .i64 0, .slice none 0 0, .map (some (w.heap.size + 1))] 64)) (w.heap.size + 1) (w.heap.size + 1 + 1) (w.heap.size + 1) (.slice none 0 0) [] f L []) := Lib.hid
    ⟨B1.out, by omega, Nat.le_refl _, by omega, by simp [Value.ownBlock], by simp [Value.ownBlock], World.ownsRow_nil _ _ _ _, HM1.out, rfl, fun t ht => (by cases ht), fun i t ht => (by simp at ht)⟩
  have HB0 : Hid (Below (w.heap.size + 1) W0 ((W0.alloc (.map #[] 0)).alloc (.cells #[.int .i64 0, .slice none 0 0, .map (some (w.heap.size + 1))] 64))) := Lib.hid (((Below.refl _ _).alloc (by omega) _).alloc (by simp; omega) _)
  have zz : w.heap.size + 3 ≤ ((W0.alloc (.map #[] 0)).alloc (.cells #[.int .i64 0, .slice none 0 0, .map (some (w.heap.size + 1))] 64)).heap.size := by simp; omega
  generalize (W0.alloc (.map #[] 0)).alloc (.cells #[.int .i64 0, .slice none 0 0, .map (some (w.heap.size + 1))] 64) = W3 at *
  clear HM1 B1
  generalize hrb : w.heap.size + 1 + 1 = rb at *
  generalize hmb : w.heap.size + 1 = mb at *
  have HBW : Hid (∀ wr, Below mb W0 wr → Below w.heap.size w wr) := Lib.hid (fun wr hb => HW0.out.trans (hb.mono (by omega)))
  go_loopw [17] (fun p wr => ∃ (i : Nat) (v : Value) (M : List GM), i ≤ roots.length ∧ p = .int .i64 (i : Int) ∧ Hid (Below mb W0 wr) ∧ Hid (RS wr mb rb mb v M f L (addNew [] (roots.take i))) ∧ Hid (∀ t ∈ M, t.n = 0 ∨ lo ≤ t.g) ∧ Hid (∀ j, j < i → lf roots j ∈ placesO L)) (fun p _ => roots.length - (intOf p).toNat)
  case atStart => exact ⟨0, _, [], by omega, rfl, HB0, RS0, Lib.hid (fun t ht => (by cases ht)), Lib.hid (fun j hj => by omega)⟩
  case round =>
    clear HB0 RS0 zz
    obtain ⟨i, v, M, hi, rfl, HB_r, RS_r, HLO_r, HD⟩ := hrel
    have hzr : mb ≤ wr.heap.size := by have := RS_r.out.map.lt; omega
    by_cases hlt : i < roots.length
    · have hlt' : (i : Int) < (roots.length : Int) := by omega
      have hi0 : (0 : Int) ≤ (i : Int) := by omega
      obtain ⟨xb, xo, rfl, hxb, hxc⟩ := src_some (HRS.out.below (HBW.out _ HB_r.out)) (by omega)
      have c0 := hxc i hlt
      obtain ⟨y, hy⟩ : ∃ y, lf roots i = y := ⟨_, rfl⟩
      have HY := Lib.hid hy
      have HME := Lib.hid (lf_mem hlt)
      have HSN := Lib.hid (roots_snoc hlt [])
      rw [hy] at c0 HME HSN
      clear hxc hy
      go_wp2_with fail
      refine (find_any a L.length kc T y _ (HSH.out.below (HBW.out _ HB_r.out)).gv (by omega) HSH.out.sort).mono ?_
      rintro e w1 ⟨hb, hr⟩
      have HB1 := Lib.hid (HB_r.out.trans (hb.mono hzr))
      have RS1 := Lib.hid (RS_r.out.below hb)
      have z1 := hb.size
      clear hb
      rcases hr with ⟨j, hj, hat, rfl⟩ | ⟨hn, rfl⟩
      · obtain ⟨ho1, ho2, ho3⟩ := HSH.out.obj hj
        have HO := Lib.hid (And.intro ho1 (And.intro ho2 (And.intro ho3 (And.intro (HSH.out.src hj) (HSH.out.yes hj)))))
        have HL6 := Lib.hid (addNew_len (roots.take i) [])
        have HAT := Lib.hid hat
        have HLJ := Lib.hid (HLT.out j hj)
        clear ho1 ho2 ho3 hat
        generalize T j = t at *
        go_wp2_with fail
        have RS2 := Lib.hid (RS1.out.below ((Below.refl _ _).alloc (Nat.le_refl _) (.cells #[.int .i64 0, .int .i64 t.at_, .int .i64 t.s, .int .i64 t.m, .int .i64 t.o, .int .i64 t.h, .slice t.a t.n t.c] 148)))
        have HB2 := Lib.hid (HB1.out.alloc (by omega) (.cells #[.int .i64 0, .int .i64 t.at_, .int .i64 t.s, .int .i64 t.m, .int .i64 t.o, .int .i64 t.h, .slice t.a t.n t.c] 148))
        have z2 : w1.heap.size + 1 = (w1.alloc (.cells #[.int .i64 0, .int .i64 t.at_, .int .i64 t.s, .int .i64 t.m, .int .i64 t.o, .int .i64 t.h, .slice t.a t.n t.c] 148)).heap.size := by simp
        clear RS1 HB1
        generalize w1.alloc (.cells #[.int .i64 0, .int .i64 t.at_, .int .i64 t.s, .int .i64 t.m, .int .i64 t.o, .int .i64 t.h, .slice t.a t.n t.c] 148) = w2 at *
        have hs2 := HO.out.2.2.2.1
        refine (add_any2 mb rb mb v M f L _ t L[j] _ RS2.out (by have := HO.out.2.2.1; omega) (by omega) HO.out.1 HO.out.2.1 (HO.out.2.2.2.1.below (HBW.out _ HB2.out)) (by rcases gm_lt hs2 with h0 | h0; exact .inl h0; exact .inr (by omega)) (by have := HL6.out; simp at this; omega)).mono ?_
        rintro e w3 ⟨rfl, hb, hz, v', M', hrs, hmm⟩
        have HB3 := Lib.hid (HB2.out.trans hb)
        have RS3 : Hid (RS w3 mb rb mb v' M' f L (addNew [] (roots.take (i + 1)))) := Lib.hid (by rw [HSN.out, ← HAT.out]; exact hrs)
        have HP := Lib.hid (show y ∈ placesO L by rw [← HAT.out]; exact HO.out.2.2.2.2)
        have HLN : Hid (∀ u ∈ M', u.n = 0 ∨ lo ≤ u.g) := Lib.hid (fun u hu => by rcases hmm u hu with h1 | h1; exact HLO_r.out u h1; subst h1; exact HLJ.out)
        clear hb hrs hs2 HB2 RS2 HO hmm
        go_wp2
        go_roundw
        case rel => first | exact ⟨i + 1, v', M', by omega, by go_num, HB3, RS3, HLN, Lib.hid (fun j hj => by rcases Nat.lt_succ_iff_lt_or_eq.mp hj with h1 | h1; exact HD.out j h1; subst h1; rw [HY.out]; exact HP.out)⟩ | ((repeat apply Exists.intro); exact ⟨⟨i + 1, v', M', by omega, by go_num, HB3, RS3, HLN, Lib.hid (fun j hj => by rcases Nat.lt_succ_iff_lt_or_eq.mp hj with h1 | h1; exact HD.out j h1; subst h1; rw [HY.out]; exact HP.out)⟩, rfl⟩)
        case measure => simp [intOf]; omega
      · have hnp := HSH.out.nope hn
        have HNP := Lib.hid hnp
        have R_1 := Lib.hid (blk_under R0.out HB1.out (by omega))
        clear hn hnp
        have lR := R_1.out.1; have cR0 := R_1.out.at 0 rfl; have fR0 := R_1.out.free 0 rfl; have cR1 := R_1.out.at 1 rfl; have fR1 := R_1.out.free 1 rfl; have cR2 := R_1.out.at 2 rfl; have fR2 := R_1.out.free 2 rfl
        go_wp2
        refine bodyPost_ret (v := .agg #[.int .i64 4, .slice none 0 0, .map none]) (by simp [results, Tryd.results78, go_sem, cR0, cR1, cR2, lR]) rfl ⟨?_, .inl ⟨⟨y, HME.out, HNP.out⟩, rfl⟩⟩
        repeat (first | (with_reducible refine Below.setCell ?_ (by (try simp); (try omega)) _) | (with_reducible refine Below.alloc ?_ (by (try simp); (try omega)) _) | (with_reducible refine Below.drew ?_))
        exact HBW.out _ HB1.out
    · have hlt' : ¬ (i : Int) < (roots.length : Int) := by omega
      obtain rfl : i = roots.length := by omega
      have HALL : Hid (∀ p ∈ roots, p ∈ placesO L) := Lib.hid (fun p hp => by
        obtain ⟨j, hj, rfl⟩ := List.getElem_of_mem hp
        rw [← lf_at hj]; exact HD.out j hj)
      have HSC : Hid (SC f L roots 0 (addNew [] roots)) := Lib.hid (sc_start HALL.out)
      have RS4 : Hid (RS wr mb rb mb v M f L (addNew [] roots)) := Lib.hid (by have := RS_r.out; rw [List.take_length] at this; exact this)
      clear HD RS_r
      have st0 := st_of_sc HSC.out
      have ST0 := Lib.hid st0
      clear hlt hlt' HSC HRS st0 hrn hi
      go_wp2
      go_step3
      go_wp2_with fail
      go_loopw [9, 10] (fun p q wr => ∃ (n i : Nat) (v : Value) (M : List GM) (O : List Int), p = .int .i64 (n : Int) ∧ q = .int .i64 (i : Int) ∧ n ≤ L.length ∧ i ≤ 12 ∧ Hid (Below mb W0 wr) ∧ Hid (RS wr mb rb mb v M f L O) ∧ Hid (∀ t ∈ M, t.n = 0 ∨ lo ≤ t.g) ∧ Hid (ST f L roots n i O)) (fun p q _ => (L.length - (intOf p).toNat) * 14 + (13 - (intOf q).toNat))
      case atStart => exact ⟨0, 0, v, M, _, rfl, rfl, by omega, by omega, HB_r, RS4, HLO_r, ST0⟩
      case round =>
        clear HB_r RS4 ST0 hzr HLO_r
        obtain ⟨n, i, v, M, O, rfl, rfl, hnl, hi12, HB_r, RS_r, HLO_r, STT⟩ := hrel
        have hzr : mb ≤ wr.heap.size := by have := RS_r.out.map.lt; omega
        have hml := Lib.hid RS_r.out.len
        have hol := ST.len STT.out
        have hB := RS_r.out.blk
        obtain ⟨av, kv, hv⟩ := rowG_val RS_r.out.row
        subst hv
        have lB := hB.1; have cB0 := hB.at 0 rfl; have cB1 := hB.at 1 rfl; have cB2 := hB.at 2 rfl
        clear hB
        rcases STT.out with ⟨hn, hi0, hsc⟩ | ⟨x, hix, hsi⟩
        · have hnm : n = M.length := by rw [hml.out]; exact hn
          subst hi0
          have HSC := Lib.hid hsc
          have R_r := Lib.hid (blk_under R0.out HB_r.out (by omega))
          have HE : Hid (reachO f L roots = O) := Lib.hid (sc_end hsc (by omega))
          obtain ⟨a', c', he, hg⟩ := rowG_GV RS_r.out.row (fun t ht => (RS_r.out.src t ht).1)
          have HGV := Lib.hid hg; have HEE := Lib.hid he
          clear hsc hg he hn
          subst hnm
          have lR := R_r.out.1; have cR0 := R_r.out.at 0 rfl; have fR0 := R_r.out.free 0 rfl; have cR1 := R_r.out.at 1 rfl; have fR1 := R_r.out.free 1 rfl; have cR2 := R_r.out.at 2 rfl; have fR2 := R_r.out.free 2 rfl
          go_wp2
          rw [Exit.noGoto_ret]
          refine bodyPost_ret (v := .agg #[.int .i64 0, .slice av M.length kv, .map (some mb)]) (by simp [results, Tryd.results78, go_sem, cR0, cR1, cR2]) rfl ?_
          have hRF := ((RS_r.out.set (p := ⟨w.heap.size, 0, none⟩) hmb (.int .i64 0)).set (p := ⟨w.heap.size, 1, none⟩) hmb (.slice av M.length kv)).set (p := ⟨w.heap.size, 2, none⟩) hmb (.map (some mb))
          have hBF : Below w.heap.size w (((wr.setCell ⟨w.heap.size, 0, none⟩ (.int .i64 0)).setCell ⟨w.heap.size, 1, none⟩ (.slice av M.length kv)).setCell ⟨w.heap.size, 2, none⟩ (.map (some mb))) := (((HBW.out _ HB_r.out).setCell (Nat.le_refl _) _).setCell (Nat.le_refl _) _).setCell (Nat.le_refl _) _
          exact ret_of_rs_lo HALL.out HE.out hRF hBF HLO_r.out (by omega)
        · have hnO : n < O.length := hsi.lt
          have hnM : n < M.length := by rw [hml.out]; exact hnO
          have hnm : ¬ n = M.length := by omega
          have hnm' : ((n : Int) == (M.length : Int)) = false := by simp; omega
          have hn0 : (0 : Int) ≤ (n : Int) := by omega
          have hnI : (n : Int) < (M.length : Int) := by omega
          obtain ⟨a', c', he, hg⟩ := RS_r.out.out
          simp only [Value.slice.injEq] at he
          obtain ⟨rfl, -, rfl⟩ := he
          obtain ⟨gb, gq, rfl, gs⟩ : ∃ b q, av = some ⟨b, q, none⟩ ∧ GSrc wr b q M.length (gT M) := by
            rcases hg with h0 | h
            · omega
            · exact h
          have hMn : M[n]? = some M[n] := List.getElem?_eq_getElem hnM
          obtain ⟨x', hx', hsame⟩ := RS_r.out.same n M[n] hMn
          rw [hsi.at_] at hx'
          obtain rfl := Option.some.inj hx'
          have hsx := gs.six n hnM
          have hfx := gs.flds n hnM
          rw [gT_at hMn] at hsx hfx
          have hxL : x ∈ L := List.mem_of_find?_eq_some hsi.at_
          have hok := HSH.out.right.ok x hxL
          have hwd := HSH.out.word x hxL
          generalize M[n] = t at *
          obtain ⟨s0, s1, s2, s3, s4, s5⟩ := hsx
          have htn : t.n = x.s.toNat := hsame.2.2.2.2.2.1
          have htx : t.s = x.s ∧ t.m = x.m ∧ t.o = x.o ∧ t.h = x.h := ⟨hsame.2.1, hsame.2.2.1, hsame.2.2.2.1, hsame.2.2.2.2.1⟩
          have HSM := Lib.hid hsame; have HFX := Lib.hid hfx; have HOK := Lib.hid hok; have HWD := Lib.hid hwd; have HSI := Lib.hid hsi; have HTX := Lib.hid htx
          have hs12 : x.s.toNat ≤ 12 := by have := hok.1.1; omega
          have HTN := Lib.hid htn
          clear hsame hfx hok hwd hsi htx gs hg hMn hxL htn hml
          by_cases hie : i = t.n
          · have hie' : ((i : Int) == (t.n : Int)) = true := by simp; omega
            have STN := Lib.hid (st_of_sc (si_end HSI.out (by rw [← HTN.out, hie]; exact Nat.le_refl _)))
            go_wp2
            go_roundw
            case rel => first | exact ⟨n + 1, 0, _, M, O, by go_num, rfl, by omega, by omega, HB_r, RS_r, HLO_r, STN⟩ | ((repeat apply Exists.intro); exact ⟨⟨n + 1, 0, _, M, O, by go_num, rfl, by omega, by omega, HB_r, RS_r, HLO_r, STN⟩, rfl⟩)
            case measure => simp [intOf]; omega
          · have hie' : ((i : Int) == (t.n : Int)) = false := by simp; omega
            have hit : i < t.n := by have := HTN.out; omega
            have hkx : i < x.s.toNat := by have := HTN.out; omega
            have HTG := Lib.hid (tgt_eq HSM.out hkx)
            go_wp2_with fail
            clear s0 s1 s2 s3 s4 s5
            refine (target_any t i _ HFX.out hit (by rw [HTX.out.1, HTX.out.2.1, HTX.out.2.2.1, HTX.out.2.2.2]; exact HOK.out.1) (by rw [HTX.out.1]; exact HTN.out) (by rw [show t.f i = f (x.at_.toNat + 2 + i) from HSM.out.2.2.2.2.2.2 i hit]; exact HWD.out i hkx)).mono ?_
            rintro e w1 ⟨hb, rfl⟩
            have HB1 := Lib.hid (HB_r.out.trans (hb.mono hzr))
            have RS1 := Lib.hid (RS_r.out.below hb)
            have z1 := hb.size
            clear hb
            rw [HTG.out]
            by_cases hd : x.m / P2 (i : Int) % 2 = 1 ∧ ¬ f (x.at_.toNat + 2 + i) = 0
            · rw [if_pos hd]
              have hsy := si_yes HSH.out.right.points HSH.out.right.size HSI.out hkx hd.1 hd.2
              have hin := si_in HSH.out.right.points HSH.out.right.size HSI.out hkx hd.1 hd.2
              obtain ⟨y, hy⟩ : ∃ y, f (x.at_.toNat + 2 + i) - 1 = y := ⟨_, rfl⟩
              rw [hy] at hsy hin ⊢
              have HSY := Lib.hid hsy; have HIN := Lib.hid hin
              clear hsy hin hd hy
              simp only [Option.getD_some, Option.isSome_some]
              go_wp2_with fail
              refine (find_any _ L.length kc T y _ (HSH.out.below (HBW.out _ HB1.out)).gv (by omega) HSH.out.sort).mono ?_
              rintro e w2 ⟨hb, hr⟩
              have HB2 := Lib.hid (HB1.out.trans (hb.mono (by omega)))
              have RS2 := Lib.hid (RS1.out.below hb)
              have z2 := hb.size
              clear hb
              rcases hr with ⟨j, hj, hat, rfl⟩ | ⟨hn, rfl⟩
              case inr => exact absurd HIN.out (HSH.out.nope hn)
              obtain ⟨ho1, ho2, ho3⟩ := HSH.out.obj hj
              have HO := Lib.hid (And.intro ho1 (And.intro ho2 (And.intro ho3 (HSH.out.src hj))))
              have HAT := Lib.hid hat
              have HLJ := Lib.hid (HLT.out j hj)
              clear ho1 ho2 ho3 hat
              have hf7 := fld_obj7
              generalize T j = u at *
              go_wp2_with fail
              have hs2 := HO.out.2.2.2
              refine (add_any2 mb rb mb _ M f L O u L[j] _ RS2.out (by have := HO.out.2.2.1; omega) (by omega) HO.out.1 HO.out.2.1 (HO.out.2.2.2.below (HBW.out _ HB2.out)) (by rcases gm_lt hs2 with h0 | h0; exact .inl h0; exact .inr (by omega)) (by omega)).mono ?_
              rintro e w3 ⟨rfl, hb, hz, v', M', hrs, hmm⟩
              have HB3 := Lib.hid (HB2.out.trans hb)
              have RS3 : Hid (RS w3 mb rb mb v' M' f L (add1 O y)) := Lib.hid (by rw [← HAT.out]; exact hrs)
              have STN : Hid (ST f L roots n (i + 1) (add1 O y)) := Lib.hid (.inr ⟨x, by omega, HSY.out⟩)
              have HLN : Hid (∀ u ∈ M', u.n = 0 ∨ lo ≤ u.g) := Lib.hid (fun u hu => by rcases hmm u hu with h1 | h1; exact HLO_r.out u h1; subst h1; exact HLJ.out)
              clear hb hrs hs2 HB2 RS2 HO hf7 hmm
              go_wp2
              go_roundw
              case rel => first | exact ⟨n, i + 1, v', M', _, rfl, by go_num, by omega, by omega, HB3, RS3, HLN, STN⟩ | ((repeat apply Exists.intro); exact ⟨⟨n, i + 1, v', M', _, rfl, by go_num, by omega, by omega, HB3, RS3, HLN, STN⟩, rfl⟩)
              case measure => simp [intOf]; omega
            · rw [if_neg hd]
              have STN : Hid (ST f L roots n (i + 1) O) := Lib.hid (.inr ⟨x, by omega, si_no HSI.out hkx hd⟩)
              simp only [Option.getD_none, Option.isSome_none]
              clear hd
              go_wp2
              go_roundw
              case rel => first | exact ⟨n, i + 1, _, M, O, rfl, by go_num, by omega, by omega, HB1, RS1, HLO_r, STN⟩ | ((repeat apply Exists.intro); exact ⟨⟨n, i + 1, _, M, O, rfl, by go_num, by omega, by omega, HB1, RS1, HLO_r, STN⟩, rfl⟩)
              case measure => simp [intOf]; omega
end Go.Proofs.YtnpklnpicelcmaaDoor

namespace Go.Proofs.YtnpklnpicelcmaaDoor
open Go.RowKit
set_option linter.unusedVariables false

def RetTabL (W : World) (lo : Nat) (f : Nat → Int) (L : List Ob) (a : Option Addr) (n c : Nat) (R : List Int) (e : Ending) (w' : World) : Prop :=
  Below W.heap.size W w' ∧ ∃ oa oc mb T, e = .returned (.agg #[.slice a n c, .int .i64 0, .slice oa R.length oc, .map (some mb)]) ∧ GVL w' lo oa R.length T ∧ lo ≤ mb ∧ MapT w' mb R.length R (fun i => (i : Int)) ∧ ∀ i, i < R.length → ∃ x, findO L (lf R i) = some x ∧ GSame (T i) (obG f x)

set_option maxRecDepth 100000 in
set_option maxHeartbeats 1600000 in
theorem tableOf_lo (oa : Option Addr) (kc : Nat) (T : Nat → GM) (f : Nat → Int) (L : List Ob) (a : Option Addr) (n c : Nat) (S : Nat → SL) (w : World) (hsh : Shaped w oa T f L) (hp : PV w a n S) (hn : n ≤ 8) (hs : ∀ j, j < n → (S j).nd = 0 ∨ (1 ≤ (S j).nd ∧ (S j).nd ≤ 1000001)) (hin : ∀ p ∈ rootsS S n, p ∈ placesO L) (lo : Nat) (hlo : ∀ i, i < L.length → (T i).n = 0 ∨ lo ≤ (T i).g) (hlw : lo ≤ w.heap.size) :
    Calls Tryd.prog 58 #[.slice oa L.length kc, .slice a n c] w (RetTabL w lo f L a n c (reachO f L (rootsS S n))) := by
  have HSH := Lib.hid hsh; have P := Lib.hid hp; have HS := Lib.hid hs; have HIN := Lib.hid hin; have HLT := Lib.hid hlo
  have HB0 : Hid (Below w.heap.size w (w.alloc (.cells #[.slice none 0 0, .int .i64 0, .slice none 0 0, .map none] 66))) := (Below.refl _ _).alloc (Nat.le_refl _) _
  have DE_0 := Lib.hid (dead4_new (w := w) (t := 66) w.heap.size rfl)
  have R_0 := Lib.hid (Blk.new_at (w := w) (cs := #[.slice none 0 0, .int .i64 0, .slice none 0 0, .map none]) (t := 66) w.heap.size rfl)
  clear hsh hp hs hin hlo
  go_enter Tryd.func58, Tryd.ntmps58
  go_wp2_with fail
  generalize w.alloc (.cells #[.slice none 0 0, .int .i64 0, .slice none 0 0, .map none] 66) = w0 at *
  refine (rootsOf_any a n c S _ (P.out.below HB0.out) hn HS.out).mono ?_
  rintro e w1 ⟨ra, rc, rfl, ho, hb, _, _, _⟩
  have HB1 := Lib.hid (thru0 HB0.out hb); have HR := Lib.hid ho.src; have DE_1 := Lib.hid (DE_0.out.below hb); have R_1 := Lib.hid (R_0.out.below hb)
  have hrl : (rootsS S n).length ≤ 8 := Nat.le_trans (rootsS_len _ _) hn
  clear ho hb HB0 DE_0 R_0
  go_wp2_with fail
  refine (reachOf_lo oa kc T f L ra (rootsS S n) rc _ (HSH.out.below HB1.out) HR.out (by omega) lo HLT.out (by have := HB1.out.size; omega)).mono ?_
  rintro e w3 ⟨hb, hr⟩
  have HB3 := Lib.hid (thru0 HB1.out hb); have DE3 := Lib.hid (DE_1.out.below hb); have R_3 := Lib.hid (R_1.out.below hb)
  clear hb HB1 DE_1 R_1
  rcases hr with ⟨hbad, rfl⟩ | ⟨hall, a3, c3, mb, U, rfl, hgv, hlm, hmp, hsm⟩
  · obtain ⟨p, h1, h2⟩ := hbad
    exact absurd (HIN.out p h1) h2
  · have HGV := Lib.hid hgv; have HLM := Lib.hid hlm; have HMP := Lib.hid hmp; have HSM := Lib.hid hsm
    have lR := R_3.out.1; have cR0 := R_3.out.at 0 rfl; have fR0 := R_3.out.free 0 rfl; have cR1 := R_3.out.at 1 rfl; have fR1 := R_3.out.free 1 rfl; have cR2 := R_3.out.at 2 rfl; have fR2 := R_3.out.free 2 rfl; have cR3 := R_3.out.at 3 rfl; have fR3 := R_3.out.free 3 rfl
    clear hall hgv hlm hmp hsm
    go_wp2
    refine bodyPost_ret (v := .agg #[.slice a n c, .int .i64 0, .slice a3 (reachO f L (rootsS S n)).length c3, .map (some mb)]) (by simp [results, Tryd.results58, go_sem, cR0, cR1, cR2, cR3]) rfl ⟨?_, a3, c3, mb, U, rfl, ⟨dead4_gv DE3.out HGV.out.1 _ _ _, HGV.out.2⟩, HLM.out, dead4_map DE3.out HMP.out _ _ _, HSM.out⟩
    repeat (first | (with_reducible refine Below.setCell ?_ (by (try simp); (try omega)) _) | (with_reducible refine Below.alloc ?_ (by (try simp); (try omega)) _) | (with_reducible refine Below.drew ?_))
    exact HB3.out
end Go.Proofs.YtnpklnpicelcmaaDoor

namespace Go.Proofs.YtnpklnpicelcmaaDoor
open Go.RowKit
set_option linter.unusedVariables false

/-- Places of objects of one owner. -/
def ofOwn (L : List Ob) (own : Int) (p : Int) : Prop := ∃ x, findO L p = some x ∧ x.o = own

theorem reachO_own {f : Nat → Int} {L : List Ob} {roots : List Int} {own : Int} (hp : Points f L) (hs : ∀ x ∈ L, 0 ≤ x.s) (hr : ∀ p ∈ roots, ofOwn L own p) : ∀ p ∈ reachO f L roots, ofOwn L own p := by
  have hm : ∀ p, p ∈ (placesO L).filter (fun p => match findO L p with | some x => x.o == own | none => false) ↔ ofOwn L own p := fun p => by
    rw [List.mem_filter]
    constructor
    · rintro ⟨_, h2⟩
      cases hf : findO L p with
      | none => rw [hf] at h2; cases h2
      | some x => rw [hf] at h2; exact ⟨x, hf, by simpa using h2⟩
    · rintro ⟨x, hx, ho⟩
      exact ⟨mem_placesO.2 ⟨x, hx⟩, by rw [hx]; simpa using ho⟩
  intro p hp'
  rw [← hm]
  refine reachL_sub (succO f L) L.length ((placesO L).filter (fun p => match findO L p with | some x => x.o == own | none => false)) roots (fun x hx y hy => ?_) (fun x hx => (hm x).2 (hr x hx)) p hp'
  rw [hm] at hx ⊢
  obtain ⟨z, hz, ho⟩ := hx
  unfold succO at hy
  rw [hz] at hy
  obtain ⟨k, hk, h1, h2, rfl⟩ := mem_ptrs.1 hy
  have hzL := List.mem_of_find?_eq_some hz
  have h0 := hs z hzL
  have hl := hp z hzL k (by omega) h1
  unfold leadsB at hl
  rw [if_neg h2] at hl
  cases hf2 : findO L (f (z.at_.toNat + 2 + k) - 1) with
  | none => rw [hf2] at hl; cases hl
  | some u => rw [hf2] at hl; exact ⟨u, hf2, by simpa [ho] using hl⟩

theorem rootsS_own {L : List Ob} {own : Int} {t : TN} (h : TnOk L own t) : ∀ p ∈ rootsS t.S t.n, ofOwn L own p := fun p hp => by
  obtain ⟨j, h1, h2, rfl⟩ := mem_rootsS hp
  obtain ⟨_, h3 | ⟨⟨x, h3, h4⟩, _⟩⟩ := slF_ok (h.s j h1)
  · exact absurd h3 h2
  · exact ⟨x, h3, h4⟩

theorem tenant_own {f : Nat → Int} {L : List Ob} {own : Int} {t : TN} (hp : Points f L) (hs : ∀ x ∈ L, 0 ≤ x.s) (h : TnOk L own t) : ∀ p ∈ reachO f L (rootsS t.S t.n), ofOwn L own p := reachO_own hp hs (rootsS_own h)

theorem ofOwn_inj {L : List Ob} {a b p : Int} (h1 : ofOwn L a p) (h2 : ofOwn L b p) : a = b := by
  obtain ⟨x, h3, rfl⟩ := h1
  obtain ⟨y, h4, rfl⟩ := h2
  rw [h3] at h4; cases h4; rfl

/-- How much each of the first tenants holds. -/
def heldL (f : Nat → Int) (L : List Ob) (T : Nat → TN) (N : Nat) : List Int := (List.range N).map fun i => (heldT f L (T i) : Int)

theorem heldL_len (f : Nat → Int) (L : List Ob) (T : Nat → TN) (N : Nat) : (heldL f L T N).length = N := by simp [heldL]

theorem heldL_snoc (f : Nat → Int) (L : List Ob) (T : Nat → TN) (N : Nat) : heldL f L T (N + 1) = heldL f L T N ++ [(heldT f L (T N) : Int)] := by simp [heldL, List.range_succ]

theorem heldL_at (f : Nat → Int) (L : List Ob) (T : Nat → TN) {N i : Nat} (hi : i < N) : lf (heldL f L T N) i = (heldT f L (T i) : Int) := by
  have h : i < (heldL f L T N).length := by rw [heldL_len]; exact hi
  rw [lf_at h]; simp [heldL]

theorem heldL_same {f : Nat → Int} {L : List Ob} {T U : Nat → TN} {N : Nat} (h : ∀ i, i < N → TnSame (T i) (U i)) : heldL f L U N = heldL f L T N :=
  List.map_congr_left fun i hi => by rw [heldT_same (h i (by simpa using hi))]

theorem quF_all {f : Nat → Int} {L : List Ob} {T : Nat → TN} : ∀ {N : Nat}, quF f L T N = 0 → ∀ i, i < N → (heldT f L (T i) : Int) ≤ (T i).q
  | 0, _, i, h => absurd h (Nat.not_lt_zero _)
  | n + 1, h, i, hi => by
    have h0 : quF f L T n = 0 := by
      by_cases h0 : quF f L T n = 0
      · exact h0
      · rw [quF, if_neg h0] at h; exact h
    rw [quF, if_pos h0] at h
    rcases Nat.lt_succ_iff_lt_or_eq.mp hi with h2 | rfl
    · exact quF_all h0 i h2
    · by_cases h3 : (T i).q < (heldT f L (T i) : Int)
      · rw [if_pos h3] at h; cases h
      · omega

theorem hpF_quota {f : Nat → Int} {L : List Ob} {h : Int} {N : Nat} {T : Nat → TN} (hk : hpF f L h N T = 0) : ∀ i, i < N → (heldT f L (T i) : Int) ≤ (T i).q := by
  rcases hpF_cases f L h N T rfl with ⟨_, h2⟩ | ⟨h1, ⟨h2, h3⟩ | ⟨h2, ⟨h3, h4⟩ | ⟨h3, _⟩⟩⟩
  · omega
  · exact absurd (h3.symm.trans hk) h2
  · exact absurd (h4.symm.trans hk) h3
  · exact quF_all h3

/-- What HeldBy answers. -/
def IsHb (h : Int) (n : Nat) (f : Nat → Int) (ac bu : Int) (N : Nat) (T : Nat → TN) (k : Int) (K : Nat) (U : Nat → Int) : Prop :=
  (¬ k = 0 ∧ IsHpF h n f ac bu N T k ∧ K = 0) ∨ (k = 0 ∧ IsHpF h n f ac bu N T 0 ∧ ∃ L, IsSF h n f ac bu 0 ∧ IsOI h n f ac bu 0 L ∧ hpF f L h N T = 0 ∧ N = K ∧ U = lf (heldL f L T N))

theorem isHb_some (h : Int) (n : Nat) (f : Nat → Int) (ac bu : Int) (N : Nat) (T : Nat → TN) : ∃ k K U, IsHb h n f ac bu N T k K U := by
  obtain ⟨k, hk⟩ := isHpF_some h n f ac bu N T
  by_cases h0 : k = 0
  · subst h0
    rcases id hk with ⟨_, h1⟩ | ⟨h1, L, h2, h3⟩
    · exact absurd rfl h1
    · exact ⟨_, _, _, .inr ⟨rfl, hk, L, h1, h2, h3.symm, rfl, rfl⟩⟩
  · exact ⟨k, 0, fun _ => 0, .inl ⟨h0, hk, rfl⟩⟩

theorem isHb_small {h : Int} {n : Nat} {f : Nat → Int} {ac bu : Int} {N : Nat} {T : Nat → TN} {k : Int} {K : Nat} {U : Nat → Int} (hk : IsHb h n f ac bu N T k K U) : K ≤ 4 := by
  rcases hk with ⟨_, _, rfl⟩ | ⟨_, _, L, _, _, h3, rfl, _⟩
  · omega
  · exact (hpOk_of h3).n.2

theorem hpF_same {f : Nat → Int} {L : List Ob} {h : Int} {N : Nat} {T U : Nat → TN} (hs : ∀ i, i < N → TnSame (T i) (U i)) : hpF f L h N U = hpF f L h N T := by
  unfold hpF; rw [tnsF_same hs, quF_same hs, sumF_same hs]

theorem isHb_same {h : Int} {n : Nat} {f : Nat → Int} {ac bu : Int} {N : Nat} {T U' : Nat → TN} {k : Int} {K : Nat} {U : Nat → Int} (hk : IsHb h n f ac bu N T k K U) (hs : ∀ i, i < N → TnSame (T i) (U' i)) : IsHb h n f ac bu N U' k K U := by
  rcases hk with ⟨h0, h1, h2⟩ | ⟨h0, h1, L, h2, h3, h4, h5, h6⟩
  · exact .inl ⟨h0, isHpF_same h1 hs, h2⟩
  · exact .inr ⟨h0, isHpF_same h1 hs, L, h2, h3, by rw [hpF_same hs]; exact h4, h5, by rw [heldL_same hs]; exact h6⟩

/-- What SpaceFor answers. -/
def IsSp (h : Int) (n : Nat) (f : Nat → Int) (ac bu : Int) (N : Nat) (T : Nat → TN) (te k v : Int) : Prop :=
  (¬ k = 0 ∧ IsHpF h n f ac bu N T k ∧ v = 0) ∨ (IsHpF h n f ac bu N T 0 ∧ ∃ L, IsSF h n f ac bu 0 ∧ IsOI h n f ac bu 0 L ∧ hpF f L h N T = 0 ∧
    ((¬ (0 ≤ te ∧ te < (N : Int)) ∧ k = 4 ∧ v = 0) ∨ ∃ i : Nat, te = (i : Int) ∧ i < N ∧ (((T i).q - (heldT f L (T i) : Int) - 2 < 0 ∧ k = 9 ∧ v = 0) ∨ (0 ≤ (T i).q - (heldT f L (T i) : Int) - 2 ∧ k = 0 ∧ v = min ((T i).q - (heldT f L (T i) : Int) - 2) 12))))

theorem isSp_some (h : Int) (n : Nat) (f : Nat → Int) (ac bu : Int) (N : Nat) (T : Nat → TN) (te : Int) : ∃ k v, IsSp h n f ac bu N T te k v := by
  obtain ⟨k, hk⟩ := isHpF_some h n f ac bu N T
  by_cases h0 : k = 0
  · subst h0
    rcases id hk with ⟨_, h1⟩ | ⟨h1, L, h2, h3⟩
    · exact absurd rfl h1
    · by_cases ht : 0 ≤ te ∧ te < (N : Int)
      · have e : te = (te.toNat : Int) := by omega
        by_cases hq : (T te.toNat).q - (heldT f L (T te.toNat) : Int) - 2 < 0
        · exact ⟨9, 0, .inr ⟨hk, L, h1, h2, h3.symm, .inr ⟨te.toNat, e, by omega, .inl ⟨hq, rfl, rfl⟩⟩⟩⟩
        · exact ⟨0, _, .inr ⟨hk, L, h1, h2, h3.symm, .inr ⟨te.toNat, e, by omega, .inr ⟨by omega, rfl, rfl⟩⟩⟩⟩
      · exact ⟨4, 0, .inr ⟨hk, L, h1, h2, h3.symm, .inl ⟨ht, rfl, rfl⟩⟩⟩
  · exact ⟨k, 0, .inl ⟨h0, hk, rfl⟩⟩

theorem isSp_same {h : Int} {n : Nat} {f : Nat → Int} {ac bu : Int} {N : Nat} {T U' : Nat → TN} {te k v : Int} (hk : IsSp h n f ac bu N T te k v) (hs : ∀ i, i < N → TnSame (T i) (U' i)) : IsSp h n f ac bu N U' te k v := by
  rcases hk with ⟨h0, h1, h2⟩ | ⟨h1, L, h2, h3, h4, h5⟩
  · exact .inl ⟨h0, isHpF_same h1 hs, h2⟩
  · refine .inr ⟨isHpF_same h1 hs, L, h2, h3, by rw [hpF_same hs]; exact h4, ?_⟩
    rcases h5 with h5 | ⟨i, h5, h6, h7⟩
    · exact .inl h5
    · refine .inr ⟨i, h5, h6, ?_⟩
      rw [heldT_same (hs i h6), ← (hs i h6).1]
      exact h7
end Go.Proofs.YtnpklnpicelcmaaDoor

namespace Go.Proofs.YtnpklnpicelcmaaDoor
open Go.RowKit
set_option linter.unusedVariables false

set_option maxRecDepth 100000 in
theorem isTenant_any (te : Int) (N : Nat) (r : Bool) (w : World) (hN : N ≤ maxLen) (hr : (r = true ∧ (0 ≤ te ∧ te < (N : Int))) ∨ (r = false ∧ ¬ (0 ≤ te ∧ te < (N : Int)))) :
    Calls Tryd.prog 43 #[.int .i64 te, .int .i64 (N : Int)] w (RetBool w r) := by
  unfold maxLen at hN
  have HR : Hid (((!r) = false ∧ (0 ≤ te ∧ te ≤ (N : Int) - 1)) ∨ ((!r) = true ∧ ¬ (0 ≤ te ∧ te ≤ (N : Int) - 1))) := Lib.hid (by
    rcases hr with ⟨rfl, h⟩ | ⟨rfl, h⟩
    · exact .inl ⟨rfl, h.1, by omega⟩
    · exact .inr ⟨rfl, fun h' => h ⟨h'.1, by omega⟩⟩)
  clear hr
  go_enter Tryd.func43, Tryd.ntmps43
  go_wp2_with fail
  with_reducible refine (isOut1 _ _ _ _ _ (!r) (by simp) HR.out).mono ?_
  rintro e w1 ⟨rfl, hb⟩
  have HB1 := Lib.hid (thru1 (Below.refl w.heap.size w) hb)
  clear hb
  go_wp2
  go_ret
  exact ⟨by simp, HB1.out⟩

theorem gvo_lo {w : World} {lo hi N : Nat} {a : Option Addr} {T : Nat → GM} (h : GVO w lo hi a N T) : ∀ i, i < N → (T i).n = 0 ∨ lo ≤ (T i).g := fun i hi => by
  rcases h with h0 | ⟨b, q, _, g⟩
  · omega
  · rcases g.flds i hi with h0 | ⟨c, o, e1, h2, h3, _⟩
    · exact .inl h0
    · exact .inr (by simpa [GM.g, e1] using h2.1)

theorem fld_ol (x : Int) (a : Option Addr) (n c : Nat) (w : World) : (Instr.field 105 (.agg #[.int .i64 x, .slice a n c]) 1).run Tryd.prog w = .ok (.slice a n c) w := by kernel_rfl

/-- A tenant: its table, its number, quota and hash. -/
def RetTn (W : World) (lo : Nat) (f : Nat → Int) (L : List Ob) (t : TN) (i : Nat) (e : Ending) (w' : World) : Prop :=
  Below W.heap.size W w' ∧ ∃ oa oc mb U, e = .returned (.tuple #[.agg #[.slice t.a t.n t.c, .int .i64 0, .slice oa (reachO f L (rootsS t.S t.n)).length oc, .map (some mb), .int .i64 (i : Int), .int .i64 t.q, .int .i64 t.h], Value.nilIface]) ∧ GVL w' lo oa (reachO f L (rootsS t.S t.n)).length U ∧ lo ≤ mb ∧ MapT w' mb (reachO f L (rootsS t.S t.n)).length (reachO f L (rootsS t.S t.n)) (fun i => (i : Int)) ∧ ∀ j, j < (reachO f L (rootsS t.S t.n)).length → ∃ x, findO L (lf (reachO f L (rootsS t.S t.n)) j) = some x ∧ GSame (U j) (obG f x)

theorem capK {w : World} {B D : Nat} {x0 x1 x2 x3 x4 y0 y1 y2 : Value} (hB : Blk w B [x0, x1, x2, x3, x4]) (hD : Blk w D [y0, y1, y2]) : w.cell? ⟨B, 0, none⟩ = some x0 ∧ w.cell? ⟨B, 1, none⟩ = some x1 ∧ w.cell? ⟨B, 2, none⟩ = some x2 ∧ w.cell? ⟨B, 3, none⟩ = some x3 ∧ w.cell? ⟨D, 2, none⟩ = some y2 := ⟨hB.at 0 rfl, hB.at 1 rfl, hB.at 2 rfl, hB.at 3 rfl, hD.at 2 rfl⟩

set_option maxRecDepth 100000 in
set_option maxHeartbeats 3200000 in
theorem tenantOf_lo (h ac bu : Int) (a : Option Addr) (n c : Nat) (f : Nat → Int) (ta : Option Addr) (N tc : Nat) (T : Nat → TN) (L : List Ob) (i : Nat) (w : World) (hs : Src w a n f) (hcn : n ≤ c) (hcm : c ≤ maxLen) (ht : TV w ta N T) (h1 : IsSF h n f ac bu 0) (h2 : IsOI h n f ac bu 0 L) (hok : HpOk L N T) (hi : i < N) :
    Calls Tryd.prog 61 #[.agg #[.int .i64 h, .slice a n c, .int .i64 ac, .int .i64 bu, .slice ta N tc], .int .i64 (i : Int)] w (RetTn w w.heap.size f L (T i) i) := by
  have S0 := Lib.hid hs; have T0 := Lib.hid ht; have HCM := Lib.hid hcm; have HSF := Lib.hid h1; have HOI := Lib.hid h2; have HOK := Lib.hid hok
  have hN4 := hok.n.2
  have hi' : (i : Int) < (N : Int) := by omega
  have hi0 : (0 : Int) ≤ (i : Int) := by omega
  have B_0 := Lib.hid ((Blk.new_at (w := w) (cs := #[.int .i64 h, .slice a n c, .int .i64 ac, .int .i64 bu, .slice ta N tc]) (t := 35) w.heap.size rfl).alloc (.cells #[.slice none 0 0, .int .i64 0, .slice none 0 0, .map none, .int .i64 0, .int .i64 0, .int .i64 0] 68))
  have R_0 := Lib.hid (Blk.new_at (w := w.alloc (.cells #[.int .i64 h, .slice a n c, .int .i64 ac, .int .i64 bu, .slice ta N tc] 35)) (cs := #[.slice none 0 0, .int .i64 0, .slice none 0 0, .map none, .int .i64 0, .int .i64 0, .int .i64 0]) (t := 68) (w.heap.size + 1) (by simp))
  have HB0 : Hid (Below w.heap.size w ((w.alloc (.cells #[.int .i64 h, .slice a n c, .int .i64 ac, .int .i64 bu, .slice ta N tc] 35)).alloc (.cells #[.slice none 0 0, .int .i64 0, .slice none 0 0, .map none, .int .i64 0, .int .i64 0, .int .i64 0] 68))) := ((Below.refl _ _).alloc (Nat.le_refl _) _).alloc (by simp) _
  have z0 : w.heap.size + 2 ≤ ((w.alloc (.cells #[.int .i64 h, .slice a n c, .int .i64 ac, .int .i64 bu, .slice ta N tc] 35)).alloc (.cells #[.slice none 0 0, .int .i64 0, .slice none 0 0, .map none, .int .i64 0, .int .i64 0, .int .i64 0] 68)).heap.size := by simp
  have b4 := B_0.out.at 4 rfl; have lB := B_0.out.1
  clear hs ht hcm h1 h2 hok
  go_enter Tryd.func61, Tryd.ntmps61
  go_wp2_with fail
  generalize ((w.alloc (.cells #[.int .i64 h, .slice a n c, .int .i64 ac, .int .i64 bu, .slice ta N tc] 35)).alloc (.cells #[.slice none 0 0, .int .i64 0, .slice none 0 0, .map none, .int .i64 0, .int .i64 0, .int .i64 0] 68)) = w0 at *
  refine (isTenant_any (i : Int) N true _ (by unfold maxLen; omega) (.inl ⟨rfl, hi0, hi'⟩)).mono ?_
  rintro e w1 ⟨rfl, hb⟩
  have HB1 := Lib.hid (thru0 HB0.out hb); have B_1 := Lib.hid (B_0.out.below hb); have R_1 := Lib.hid (R_0.out.below hb)
  have z1 := hb.size
  clear hb b4 lB B_0 R_0 HB0
  have b4 := B_1.out.at 4 rfl; have lB := B_1.out.1
  obtain ⟨tb, tq, rfl, lt, ⟨g0, g1, g2⟩, -⟩ := tv_get (T0.out.below HB1.out) hi
  have HALr : Hid (Below w.heap.size w (w1.alloc (.cells #[.int .i64 (T i).q, .int .i64 (T i).h, .slice (T i).a (T i).n (T i).c] 80))) := Lib.hid (HB1.out.alloc HB1.out.size _)
  have HSL := Lib.hid (tv_get (T0.out.below HALr.out) hi)
  have HOKI := Lib.hid (HOK.out.t i hi)
  have B_2 := Lib.hid (B_1.out.alloc (.cells #[.int .i64 (T i).q, .int .i64 (T i).h, .slice (T i).a (T i).n (T i).c] 80)); have R_2 := Lib.hid (R_1.out.alloc (.cells #[.int .i64 (T i).q, .int .i64 (T i).h, .slice (T i).a (T i).n (T i).c] 80))
  have D_2 := Lib.hid (Blk.new_at (w := w1) (cs := #[.int .i64 (T i).q, .int .i64 (T i).h, .slice (T i).a (T i).n (T i).c]) (t := 80) w1.heap.size rfl)
  have hfo := fld_ol
  have z2 : w1.heap.size + 1 ≤ (w1.alloc (.cells #[.int .i64 (T i).q, .int .i64 (T i).h, .slice (T i).a (T i).n (T i).c] 80)).heap.size := by simp
  generalize T i = t at *
  go_upto_region 4 with (fail)
  clear g0 g1 g2 b4 lB B_1 R_1 HB1
  generalize w1.alloc (.cells #[.int .i64 t.q, .int .i64 t.h, .slice t.a t.n t.c] 80) = w2 at *
  generalize w1.heap.size = D0 at *
  have B_2x : Hid (∀ w', Below w2.heap.size w2 w' → w'.cell? ⟨w.heap.size, 0, none⟩ = some (.int .i64 h) ∧ w'.cell? ⟨w.heap.size, 1, none⟩ = some (.slice a n c) ∧ w'.cell? ⟨w.heap.size, 2, none⟩ = some (.int .i64 ac) ∧ w'.cell? ⟨w.heap.size, 3, none⟩ = some (.int .i64 bu) ∧ w'.cell? ⟨D0, 2, none⟩ = some (.slice t.a t.n t.c)) := Lib.hid (fun w' hb => capK (B_2.out.below hb) (D_2.out.below hb))
  have S_2 := Lib.hid (S0.out.below HALr.out)
  have P_2 : Hid (PV w2 t.a t.n t.S) := Lib.hid (by obtain ⟨_, _, -, -, -, hsl⟩ := HSL.out; exact hsl)
  go_cut [7] (fun s wx => ∃ (Y : Nat) (pa : Option Addr) (pc mb : Nat) (V : Nat → GM), s = .pointer (some ⟨Y, 0, none⟩) ∧ (w2.heap.size ≤ Y ∧ Y < wx.heap.size) ∧ w2.heap.size ≤ mb ∧ Hid (Below w2.heap.size w2 wx) ∧ Hid (Blk wx Y [.slice t.a t.n t.c, .int .i64 0, .slice pa (reachO f L (rootsS t.S t.n)).length pc, .map (some mb)]) ∧ Hid (GVL wx w2.heap.size pa (reachO f L (rootsS t.S t.n)).length V) ∧ Hid (MapT wx mb (reachO f L (rootsS t.S t.n)).length (reachO f L (rootsS t.S t.n)) (fun i => (i : Int))) ∧ Hid (∀ j, j < (reachO f L (rootsS t.S t.n)).length → ∃ x, findO L (lf (reachO f L (rootsS t.S t.n)) j) = some x ∧ GSame (V j) (obG f x)))
  case first =>
    go_region_held3 (fun w' => w'.cell? ⟨w.heap.size, 0, none⟩ = some (.int .i64 h) ∧ w'.cell? ⟨w.heap.size, 1, none⟩ = some (.slice a n c) ∧ w'.cell? ⟨w.heap.size, 2, none⟩ = some (.int .i64 ac) ∧ w'.cell? ⟨w.heap.size, 3, none⟩ = some (.int .i64 bu) ∧ w'.cell? ⟨D0, 2, none⟩ = some (.slice t.a t.n t.c))
      (exact B_2x.out _ (by (repeat (first | (with_reducible refine Below.setCell ?_ (by (try simp); (try omega)) _) | (with_reducible refine Below.alloc ?_ (by (try simp); (try omega)) _) | (with_reducible refine Below.drew ?_))); (first | exact Below.refl _ _ | exact HB3.out | exact HB4.out)))
      (first | (go_at_call 74; refine (implOI h ac bu a n c f 0 L _ (S_2.out.below (by (repeat (first | (with_reducible refine Below.setCell ?_ (by (try simp); (try omega)) _) | (with_reducible refine Below.alloc ?_ (by (try simp); (try omega)) _) | (with_reducible refine Below.drew ?_))); (first | exact Below.refl _ _ ))) hcn HCM.out HOI.out).mono ?_; rintro e w3 ⟨oa, oc, U, rfl, hg, hT, hb, _, _⟩; have HB3 : Hid (Below w2.heap.size w2 w3) := Lib.hid (thru0 (by (repeat (first | (with_reducible refine Below.setCell ?_ (by (try simp); (try omega)) _) | (with_reducible refine Below.alloc ?_ (by (try simp); (try omega)) _) | (with_reducible refine Below.drew ?_))); (first | exact Below.refl _ _ )) hb); have SH3 := Lib.hid (shaped_of HSF.out HOI.out hg.src hT); have LO3 : Hid (∀ i, i < L.length → (U i).n = 0 ∨ w2.heap.size ≤ (U i).g) := Lib.hid (fun i hi => (gvo_lo hg i hi).imp_right (fun h => Nat.le_trans (by simp) h)); have z3 : w2.heap.size ≤ w3.heap.size := HB3.out.size; (first | (have T_3 := Lib.hid ((Blk.new_at (w := w2.drew) (cs := #[.slice none 0 0, .int .i64 0, .slice none 0 0, .map none]) (t := 66) w2.heap.size (by simp)).below hb); have DE_3 := Lib.hid ((dead4_new (w := w2.drew) (t := 66) w2.heap.size (by simp)).below hb)) | (have T_3 := Lib.hid ((Blk.new_at (w := w2) (cs := #[.slice none 0 0, .int .i64 0, .slice none 0 0, .map none]) (t := 66) w2.heap.size (by simp)).drew.below hb); have DE_3 := Lib.hid (((dead4_new (w := w2) (t := 66) w2.heap.size (by simp)).below (Below.refl _ _).drew).below hb)) | skip); clear hb hg hT) | (go_at_call 58; refine (tableOf_lo oa oc U f L t.a t.n t.c t.S _ (SH3.out.below (by (repeat (first | (with_reducible refine Below.setCell ?_ (by (try simp); (try omega)) _) | (with_reducible refine Below.alloc ?_ (by (try simp); (try omega)) _) | (with_reducible refine Below.drew ?_))); exact Below.refl _ _)) (P_2.out.below (by (repeat (first | (with_reducible refine Below.setCell ?_ (by (try simp); (try omega)) _) | (with_reducible refine Below.alloc ?_ (by (try simp); (try omega)) _) | (with_reducible refine Below.drew ?_))); (first | exact Below.refl _ _ | exact HB3.out))) HOKI.out.n.2 (tnok_nd HOKI.out SH3.out.place) (rootsS_in HOKI.out) w2.heap.size LO3.out (by (try simp); omega)).mono ?_; rintro e w4 ⟨hb, pa, pc, mb, V, rfl, hgv, hlm, hmp, hsm⟩; have HB4 : Hid (Below w2.heap.size w2 w4) := Lib.hid (thru0 (by (repeat (first | (with_reducible refine Below.setCell ?_ (by (try simp); (try omega)) _) | (with_reducible refine Below.alloc ?_ (by (try simp); (try omega)) _) | (with_reducible refine Below.drew ?_))); (first | exact Below.refl _ _ | exact HB3.out)) hb); have HGV := Lib.hid hgv; have HLM := Lib.hid hlm; have HMP := Lib.hid hmp; have HSM := Lib.hid hsm; have z4 : w2.heap.size ≤ w4.heap.size := HB4.out.size; (first | (have T_4 := Lib.hid ((Blk.new_at (w := w3) (cs := #[.slice none 0 0, .int .i64 0, .slice none 0 0, .map none]) (t := 66) w3.heap.size (by simp)).below hb); have DE_4 := Lib.hid ((dead4_new (w := w3) (t := 66) w3.heap.size (by simp)).below hb)) | (have T_4 := Lib.hid (T_3.out.below hb); have DE_4 := Lib.hid (DE_3.out.below hb)) | skip); (first | (have lT := T_4.out.1; have cT0 := T_4.out.at 0 rfl; have cT1 := T_4.out.at 1 rfl; have cT2 := T_4.out.at 2 rfl; have cT3 := T_4.out.at 3 rfl; have fT0 := T_4.out.free 0 rfl; have fT1 := T_4.out.free 1 rfl; have fT2 := T_4.out.free 2 rfl; have fT3 := T_4.out.free 3 rfl) | skip); clear hb hgv hlm hmp hsm))
    all_goals go_wp2_with fail
    all_goals go_meet
    all_goals (first
      | (refine ⟨_, pa, pc, mb, V, rfl, ⟨by omega, by simp⟩, HLM.out, ?_, ?_, ?_, ?_, HSM.out⟩
         · exact HB4.out.alloc z4 _
         · exact Blk.new_at _ rfl
         · exact HGV.out.below ((Below.refl _ _).alloc (Nat.le_refl _) _)
         · exact HMP.out.alloc _)
      | (refine ⟨_, pa, pc, mb, V, rfl, ⟨by (first | exact Nat.le_refl _ | omega), by (try simp); omega⟩, HLM.out, ?_, ?_, ?_, ?_, HSM.out⟩
         · refine Lib.hid ?_
           (repeat (first | (with_reducible refine Below.setCell ?_ (by (try simp); (try omega)) _) | (with_reducible refine Below.alloc ?_ (by (try simp); (try omega)) _) | (with_reducible refine Below.drew ?_)))
           exact HB4.out
         · exact (((T_4.out.set 0 (by simp) _).set 1 (by simp) _).set 2 (by simp) _).set 3 (by simp) _
         · exact ⟨dead4_gv DE_4.out HGV.out.1 _ _ _, HGV.out.2⟩
         · exact dead4_map DE_4.out HMP.out _ _ _))
  case rest =>
    obtain ⟨Y0, pa, pc, mb, V, rfl, ⟨hy1, hy2⟩, hlm, HB5, Y_5, G5, M5, HSM⟩ := hcut
    rename World => w5
    have R_5 := Lib.hid (R_2.out.below HB5.out); have D_5 := Lib.hid (D_2.out.below HB5.out)
    have zR : w.heap.size + 1 < w2.heap.size := R_2.out.1
    have z5 : w2.heap.size ≤ w5.heap.size := HB5.out.size
    have HBW := Lib.hid (thru0 HALr.out HB5.out)
    clear HB5 R_2 D_2 B_2 B_2x S_2 P_2 HSL
    obtain ⟨RR, hRR⟩ : ∃ RR, reachO f L (rootsS t.S t.n) = RR := ⟨_, rfl⟩
    have HRR := Lib.hid hRR
    rw [hRR] at Y_5 G5 M5 HSM
    clear hRR
    have y0 := Y_5.out.at 0 rfl; have y1 := Y_5.out.at 1 rfl; have y2 := Y_5.out.at 2 rfl; have y3 := Y_5.out.at 3 rfl; have lY := Y_5.out.1
    have d0 := D_5.out.at 0 rfl; have d1 := D_5.out.at 1 rfl; have lD := D_5.out.1
    have r0 := R_5.out.at 0 rfl; have r1 := R_5.out.at 1 rfl; have r2 := R_5.out.at 2 rfl; have r3 := R_5.out.at 3 rfl; have r4 := R_5.out.at 4 rfl; have r5 := R_5.out.at 5 rfl; have r6 := R_5.out.at 6 rfl; have lR := R_5.out.1
    have q0 := R_5.out.free 0 rfl; have q1 := R_5.out.free 1 rfl; have q2 := R_5.out.free 2 rfl; have q3 := R_5.out.free 3 rfl; have q4 := R_5.out.free 4 rfl; have q5 := R_5.out.free 5 rfl; have q6 := R_5.out.free 6 rfl
    go_wp2
    have hRR := HRR.out
    clear HRR
    subst hRR
    refine bodyPost_ret (v := .tuple #[.agg #[.slice t.a t.n t.c, .int .i64 0, .slice pa (reachO f L (rootsS t.S t.n)).length pc, .map (some mb), .int .i64 (i : Int), .int .i64 t.q, .int .i64 t.h], Value.nilIface]) (by simp [results, Tryd.results61, go_sem, r0, r1, r2, r3, r4, r5, r6]) rfl ⟨?_, pa, pc, mb, V, rfl, ?_, by omega, ?_, HSM.out⟩
    · repeat (first | (with_reducible refine Below.setCell ?_ (by (try simp); (try omega)) _) | (with_reducible refine Below.alloc ?_ (by (try simp); (try omega)) _) | (with_reducible refine Below.drew ?_))
      exact HBW.out
    · refine GVL.mono (lo := w2.heap.size) ?_ (by omega)
      repeat (with_reducible refine GVL.set ?_ (by simp; omega) _)
      exact G5.out
    · repeat (with_reducible refine MapT.set ?_ (by simp; omega) _)
      exact M5.out
end Go.Proofs.YtnpklnpicelcmaaDoor

namespace Go.Proofs.YtnpklnpicelcmaaDoor
open Go.RowKit
set_option linter.unusedVariables false

/-- A tenant with its table, in memory. -/
structure TT where
  a : Option Addr
  n : Nat
  c : Nat
  oa : Option Addr
  oc : Nat
  mb : Nat
  nu : Int
  q : Int
  h : Int
  R : List Int
  U : Nat → GM

def ttcells (t : TT) : List Value := [.slice t.a t.n t.c, .int .i64 0, .slice t.oa t.R.length t.oc, .map (some t.mb), .int .i64 t.nu, .int .i64 t.q, .int .i64 t.h]

def rowTT (M : List TT) : List Value := M.flatMap ttcells

theorem rowTT_snoc (M : List TT) (t : TT) : rowTT (M ++ [t]) = rowTT M ++ ttcells t := by simp [rowTT]

theorem rowTT_get : ∀ (M : List TT) (i : Nat) (t : TT), M[i]? = some t → ∀ j, j < 7 → (rowTT M)[i * 7 + j]? = (ttcells t)[j]?
  | [], i, t, h, j, hj => by simp at h
  | u :: M, 0, t, h, j, hj => by
    simp only [List.getElem?_cons_zero, Option.some.injEq] at h
    subst h
    simp only [rowTT, List.flatMap_cons, Nat.zero_mul, Nat.zero_add]
    rw [List.getElem?_append_left (by simp [ttcells]; omega)]
  | u :: M, i + 1, t, h, j, hj => by
    have ih := rowTT_get M i t (by simpa using h) j hj
    simp only [rowTT, List.flatMap_cons] at ih ⊢
    rw [List.getElem?_append_right (by simp [ttcells]; omega)]
    have e : (i + 1) * 7 + j - (ttcells u).length = i * 7 + j := by simp [ttcells]; omega
    rw [e]; exact ih

theorem tt_one (t : TT) : ∀ u ∈ ttcells t, u.oneCell' = true := by
  intro u hu
  simp [ttcells] at hu
  rcases hu with rfl | rfl | rfl | rfl | rfl | rfl | rfl <;> rfl

theorem cells_newTT (w : World) (t : TT) (B : Nat) (hB : w.heap.size = B) : ∀ j u, (ttcells t)[j]? = some u → (w.alloc (.cells #[.slice t.a t.n t.c, .int .i64 0, .slice t.oa t.R.length t.oc, .map (some t.mb), .int .i64 t.nu, .int .i64 t.q, .int .i64 t.h] 68)).cell? ((⟨B, 0, none⟩ : Addr).add j) = some u := fun j u h => by
  subst hB
  have := ((Blk.new w #[.slice t.a t.n t.c, .int .i64 0, .slice t.oa t.R.length t.oc, .map (some t.mb), .int .i64 t.nu, .int .i64 t.q, .int .i64 t.h] 68).2 j u h).1
  cases j with
  | zero => exact this
  | succ j => simpa [Addr.add] using this

theorem Tryd.infoTT : (Tryd.prog.info? 68).map (fun i => (i.zero, i.size, i.bytes)) = some (some (.agg #[.slice none 0 0, .int .i64 0, .slice none 0 0, .map none, .int .i64 0, .int .i64 0, .int .i64 0]), 7, 88) := by kernel_rfl

theorem Tryd.underlyingRTT : Tryd.prog.underlying 59 = some (.slice 68) := by kernel_rfl

/-- A row of objects that is read, in blocks from lo on, none of them that of a value. -/
def GVN (w : World) (lo : Nat) (v : Value) (a : Option Addr) (N : Nat) (T : Nat → GM) : Prop :=
  GV w a N T ∧ (N = 0 ∨ ∃ b q, a = some ⟨b, q, none⟩ ∧ lo ≤ b ∧ some b ≠ v.ownBlock) ∧ ∀ i, i < N → (T i).n = 0 ∨ (lo ≤ (T i).g ∧ some (T i).g ≠ v.ownBlock)

theorem GVN.below {w w' : World} {lo : Nat} {v : Value} {a : Option Addr} {N : Nat} {T : Nat → GM} (h : GVN w lo v a N T) (hb : Below w.heap.size w w') : GVN w' lo v a N T := ⟨h.1.below hb, h.2⟩

theorem GVN.of {w : World} {lo lo' : Nat} {v : Value} {a : Option Addr} {N : Nat} {T : Nat → GM} (h : GVL w lo a N T) (hv : ∀ k, v.ownBlock = some k → k < lo) (hl : lo' ≤ lo) : GVN w lo' v a N T := by
  have hne : ∀ b, lo ≤ b → some b ≠ v.ownBlock := fun b hb he => by have := hv b he.symm; omega
  exact ⟨h.1, h.2.1.imp_right (fun ⟨b, q, e, hb⟩ => ⟨b, q, e, by omega, hne b hb⟩), fun i hi => (h.2.2 i hi).imp_right (fun h => ⟨by omega, hne _ h⟩)⟩

theorem GVN.grown {w w' : World} {lo : Nat} {v v' : Value} {a : Option Addr} {N : Nat} {T : Nat → GM} (h : GVN w lo v a N T) (hg : w.grownBy w' v.ownBlock) (hv : v'.ownBlock = v.ownBlock ∨ ∃ g, v'.ownBlock = some g ∧ w.heap.size ≤ g) : GVN w' lo v' a N T := by
  obtain ⟨h1, h2, h3⟩ := h
  have hne : ∀ b, b < w.heap.size → some b ≠ v.ownBlock → some b ≠ v'.ownBlock := fun b hb hn => by
    rcases hv with hv | ⟨g, hv, hgl⟩
    · rw [hv]; exact hn
    · rw [hv]; intro he; simp only [Option.some.injEq] at he; omega
  rcases h1 with h0 | ⟨b, q, e, g⟩
  · exact ⟨.inl h0, .inl h0, fun i hi => by omega⟩
  rcases Nat.eq_zero_or_pos N with h0 | hp
  · exact ⟨.inl h0, .inl h0, fun i hi => by omega⟩
  have hb : lo ≤ b ∧ some b ≠ v.ownBlock := by
    rcases h2 with h0 | ⟨b', q', e', hb'⟩
    · omega
    · rw [e] at e'; cases e'; exact hb'
  refine ⟨.inr ⟨b, q, e, Nat.lt_of_lt_of_le g.lt hg.size, fun i hi => (g.six i hi).block (hg.block b g.lt hb.2), fun i hi => ?_⟩, .inr ⟨b, q, e, hb.1, hne b g.lt hb.2⟩, fun i hi => ?_⟩
  · rcases g.flds i hi with h0 | ⟨c, o, e1, h5, h6⟩
    · exact .inl h0
    · rcases h3 i hi with h0 | h4
      · exact .inl h0
      · have hc : (T i).g = c := by simp [GM.g, e1]
        rw [hc] at h4
        exact .inr ⟨c, o, e1, Nat.lt_of_lt_of_le h5 hg.size, fun j hj => (World.cell?_of_block (w := w) (a := ⟨c, o + j, none⟩) (hg.block c h5 h4.2)).trans (h6 j hj)⟩
  · rcases g.flds i hi with h0 | ⟨c, o, e1, h5, h6⟩
    · exact .inl h0
    · rcases h3 i hi with h0 | h4
      · exact .inl h0
      · have hc : (T i).g = c := by simp [GM.g, e1]
        exact .inr ⟨h4.1, hne _ (by omega) h4.2⟩

/-- What is known of a tenant of the row. -/
def TtOk (f : Nat → Int) (L : List Ob) (T : Nat → TN) (j : Nat) (t : TT) : Prop := t.R = reachO f L (rootsS (T j).S (T j).n) ∧ t.nu = (j : Int) ∧ t.q = (T j).q ∧ t.h = (T j).h ∧ t.a = (T j).a ∧ t.n = (T j).n ∧ t.c = (T j).c ∧ ∀ i, i < t.R.length → ∃ x, findO L (lf t.R i) = some x ∧ GSame (t.U i) (obG f x)

/-- A row of tenants with their tables is read. -/
def TTV (w : World) (a : Option Addr) (M : List TT) : Prop := (M.length = 0 ∨ ∃ b q, a = some ⟨b, q, none⟩ ∧ b < w.heap.size ∧ ∀ j t, M[j]? = some t → ∀ k u, (ttcells t)[k]? = some u → w.cell? ⟨b, q + j * 7 + k, none⟩ = some u) ∧ ∀ t ∈ M, GV w t.oa t.R.length t.U

theorem TTV.below {w w' : World} {a : Option Addr} {M : List TT} (h : TTV w a M) (hb : Below w.heap.size w w') : TTV w' a M := by
  refine ⟨?_, fun t ht => (h.2 t ht).below hb⟩
  rcases h.1 with h0 | ⟨b, q, e, hl, hc⟩
  · exact .inl h0
  · exact .inr ⟨b, q, e, Nat.lt_of_lt_of_le hl hb.size, fun j t ht k u hu => (World.cell?_of_block (w := w) (a := ⟨b, q + j * 7 + k, none⟩) (hb.block b hl)).trans (hc j t ht k u hu)⟩

theorem TTV.get {w : World} {a : Option Addr} {M : List TT} (h : TTV w a M) {i : Nat} {t : TT} (ht : M[i]? = some t) : ∃ b q, a = some ⟨b, q, none⟩ ∧ b < w.heap.size ∧ w.cell? ⟨b, q + i * 7, none⟩ = some (.slice t.a t.n t.c) ∧ w.cell? ⟨b, q + i * 7 + 1, none⟩ = some (.int .i64 0) ∧ w.cell? ⟨b, q + i * 7 + 2, none⟩ = some (.slice t.oa t.R.length t.oc) ∧ w.cell? ⟨b, q + i * 7 + 3, none⟩ = some (.map (some t.mb)) ∧ w.cell? ⟨b, q + i * 7 + 4, none⟩ = some (.int .i64 t.nu) ∧ w.cell? ⟨b, q + i * 7 + 5, none⟩ = some (.int .i64 t.q) ∧ w.cell? ⟨b, q + i * 7 + 6, none⟩ = some (.int .i64 t.h) := by
  rcases h.1 with h0 | ⟨b, q, e, hl, hc⟩
  · have := (List.getElem?_eq_some_iff.mp ht).1; omega
  · exact ⟨b, q, e, hl, hc i t ht 0 _ rfl, hc i t ht 1 _ rfl, hc i t ht 2 _ rfl, hc i t ht 3 _ rfl, hc i t ht 4 _ rfl, hc i t ht 5 _ rfl, hc i t ht 6 _ rfl⟩

theorem rowTT_TTV {w : World} {base : Nat} {v : Value} {M : List TT} (h : w.ownsRow base 68 7 v M.length (rowTT M)) (hg : ∀ t ∈ M, GV w t.oa t.R.length t.U) : ∃ a c, v = .slice a M.length c ∧ TTV w a M := by
  rcases Nat.eq_zero_or_pos M.length with h0 | hp
  · rcases h.2 with ⟨h1, h2⟩ | ⟨g, cap, cur, h1, _⟩
    · exact ⟨none, 0, by rw [h1, h2], .inl h0, hg⟩
    · exact ⟨_, cap, h1, .inl h0, hg⟩
  · obtain ⟨gb, cap, rfl, hb, hlt⟩ := h.form hp
    refine ⟨_, cap, rfl, .inr ⟨gb, 0, rfl, hlt, fun j t ht k u hu => ?_⟩, hg⟩
    have hi : j < M.length := (List.getElem?_eq_some_iff.mp ht).1
    have hj : k < 7 := by
      have := (List.getElem?_eq_some_iff.mp hu).1
      simpa [ttcells] using this
    have hc := h.cellAt (j * 7 + k) (by omega)
    rw [rowTT_get M j t ht k hj, hu] at hc
    simpa using hc

def RetTns (W : World) (f : Nat → Int) (L : List Ob) (N : Nat) (T : Nat → TN) (e : Ending) (w' : World) : Prop :=
  Below W.heap.size W w' ∧ ∃ a c M, e = .returned (.slice a N c) ∧ M.length = N ∧ TTV w' a M ∧ ∀ j t, M[j]? = some t → TtOk f L T j t

set_option maxRecDepth 100000 in
set_option maxHeartbeats 3200000 in
theorem tenantsOf_any (h ac bu : Int) (a : Option Addr) (n c : Nat) (f : Nat → Int) (ta : Option Addr) (N tc : Nat) (T : Nat → TN) (L : List Ob) (w : World) (hs : Src w a n f) (hcn : n ≤ c) (hcm : c ≤ maxLen) (ht : TV w ta N T) (h1 : IsSF h n f ac bu 0) (h2 : IsOI h n f ac bu 0 L) (hok : HpOk L N T) :
    Calls Tryd.prog 28 #[.agg #[.int .i64 h, .slice a n c, .int .i64 ac, .int .i64 bu, .slice ta N tc]] w (RetTns w f L N T) := by
  have S0 := Lib.hid hs; have T0 := Lib.hid ht; have HCM := Lib.hid hcm; have HSF := Lib.hid h1; have HOI := Lib.hid h2; have HOK := Lib.hid hok
  have hN4 := hok.n.2
  obtain ⟨j0, hif, hj0, hj1, hj2⟩ := info_parts Tryd.infoTT
  have B_0 := Lib.hid (Blk.new_at (w := w) (cs := #[.int .i64 h, .slice a n c, .int .i64 ac, .int .i64 bu, .slice ta N tc]) (t := 35) w.heap.size rfl)
  have HB0 : Hid (Below w.heap.size w (w.alloc (.cells #[.int .i64 h, .slice a n c, .int .i64 ac, .int .i64 bu, .slice ta N tc] 35))) := (Below.refl _ _).alloc (Nat.le_refl _) _
  have b4 := B_0.out.at 4 rfl; have lB := B_0.out.1
  have z0 : w.heap.size + 1 ≤ (w.alloc (.cells #[.int .i64 h, .slice a n c, .int .i64 ac, .int .i64 bu, .slice ta N tc] 35)).heap.size := by simp
  clear hs ht hcm h1 h2 hok
  go_enter Tryd.func28, Tryd.ntmps28
  go_wp2
  generalize w.alloc (.cells #[.int .i64 h, .slice a n c, .int .i64 ac, .int .i64 bu, .slice ta N tc] 35) = w0 at *
  clear b4 lB
  go_loopw [3, 10] (fun u p wr => ∃ (i : Nat) (M : List TT), i ≤ N ∧ p = .int .i64 (i : Int) ∧ M.length = i ∧ Hid (Below w0.heap.size w0 wr) ∧ Hid (wr.ownsRow w0.heap.size 68 7 u M.length (rowTT M)) ∧ Hid (∀ t ∈ M, GVN wr w0.heap.size u t.oa t.R.length t.U) ∧ Hid (∀ j t, M[j]? = some t → TtOk f L T j t)) (fun _ p _ => N - (intOf p).toNat)
  case atStart => exact ⟨0, [], Nat.zero_le _, rfl, rfl, Below.refl _ _, World.ownsRow_nil _ _ _ _, Lib.hid (fun t ht => (by cases ht)), Lib.hid (fun j t ht => by simp at ht)⟩
  case round =>
    obtain ⟨i, M, hi, rfl, hMl, HB_r, OW_r, GN_r, OK_r⟩ := hrel
    have hzr := HB_r.out.size
    have HBr := Lib.hid (thru0 HB0.out HB_r.out)
    have Br := Lib.hid (B_0.out.below HB_r.out)
    by_cases hlt : i < N
    · have hlt' : (i : Int) < (N : Int) := by omega
      have hi0 : (0 : Int) ≤ (i : Int) := by omega
      have b0 := Br.out.at 0 rfl; have b1 := Br.out.at 1 rfl; have b2 := Br.out.at 2 rfl; have b3 := Br.out.at 3 rfl; have b4 := Br.out.at 4 rfl; have lB := Br.out.1
      have HVL : Hid (∀ k, u3.ownBlock = some k → k < wr.heap.size) := Lib.hid (fun k hk => (OW_r.out.lt k hk).2)
      have HGE : Hid (∀ k, u3.ownBlock = some k → w0.heap.size ≤ k) := Lib.hid (fun k hk => (OW_r.out.lt k hk).1)
      have HMl := Lib.hid hMl
      have hM4 : M.length ≤ 4 := by omega
      clear hMl
      go_wp2_with fail
      refine (tenantOf_lo h ac bu a n c f ta N tc T L i _ (S0.out.below HBr.out) hcn HCM.out (T0.out.below HBr.out) HSF.out HOI.out HOK.out hlt).mono ?_
      rintro e w2 ⟨hb, oa, oc, mb, U, rfl, hgv, -, -, hsm⟩
      obtain ⟨t, het⟩ : ∃ t : TT, t = ⟨(T i).a, (T i).n, (T i).c, oa, oc, mb, (i : Int), (T i).q, (T i).h, reachO f L (rootsS (T i).S (T i).n), U⟩ := ⟨_, rfl⟩
      have HTO : Hid (TtOk f L T i t) := Lib.hid (by subst het; exact ⟨rfl, rfl, rfl, rfl, rfl, rfl, rfl, hsm⟩)
      have GN2 : Hid (GVN w2 w0.heap.size u3 t.oa t.R.length t.U) := Lib.hid (by subst het; exact GVN.of hgv (fun k hk => HVL.out k hk) hzr)
      have GNr2 : Hid (∀ x ∈ M, GVN w2 w0.heap.size u3 x.oa x.R.length x.U) := Lib.hid (fun x hx => (GN_r.out x hx).below hb)
      have HB2 := Lib.hid (HB_r.out.trans (hb.mono hzr))
      have OW2 := Lib.hid (ownsRow_below OW_r.out hb)
      have z2 := hb.size
      have e1 : oa = t.oa := by subst het; rfl
      have e2 : oc = t.oc := by subst het; rfl
      have e3 : mb = t.mb := by subst het; rfl
      have e4 : reachO f L (rootsS (T i).S (T i).n) = t.R := by subst het; rfl
      have e5 : (T i).a = t.a := by subst het; rfl
      have e6 : (T i).n = t.n := by subst het; rfl
      have e7 : (T i).c = t.c := by subst het; rfl
      have e8 : (i : Int) = t.nu := by subst het; rfl
      have e9 : (T i).q = t.q := by subst het; rfl
      have e10 : (T i).h = t.h := by subst het; rfl
      rw [e1, e2, e3, e4, e5, e6, e7, e9, e10]
      obtain ⟨nu, hnu⟩ : ∃ nu, t.nu = nu := ⟨_, rfl⟩
      have e8' : (i : Int) = nu := e8.trans hnu
      have HNU := Lib.hid hnu; have HE8 := Lib.hid e8'
      clear hb hgv hsm e1 e2 e3 e4 e5 e6 e7 e8 e9 e10 het b0 b1 b2 b3 b4 lB hnu e8'
      have HAL : Hid (Below w0.heap.size w0 (w2.alloc (.cells #[.slice t.a t.n t.c, .int .i64 0, .slice t.oa t.R.length t.oc, .map (some t.mb), .int .i64 (i : Int), .int .i64 t.q, .int .i64 t.h] 68))) := Lib.hid (HB2.out.alloc (by omega) _)
      have OWA := Lib.hid (OW2.out.alloc (.cells #[.slice t.a t.n t.c, .int .i64 0, .slice t.oa t.R.length t.oc, .map (some t.mb), .int .i64 (i : Int), .int .i64 t.q, .int .i64 t.h] 68))
      have D_3 := Lib.hid (Blk.new_at (w := w2) (cs := #[.slice t.a t.n t.c, .int .i64 0, .slice t.oa t.R.length t.oc, .map (some t.mb), .int .i64 (i : Int), .int .i64 t.q, .int .i64 t.h]) (t := 68) w2.heap.size rfl)
      have GN3 := Lib.hid (GN2.out.below ((Below.refl _ _).alloc (Nat.le_refl _) (.cells #[.slice t.a t.n t.c, .int .i64 0, .slice t.oa t.R.length t.oc, .map (some t.mb), .int .i64 (i : Int), .int .i64 t.q, .int .i64 t.h] 68)))
      have GNr3 : Hid (∀ x ∈ M, GVN (w2.alloc (.cells #[.slice t.a t.n t.c, .int .i64 0, .slice t.oa t.R.length t.oc, .map (some t.mb), .int .i64 (i : Int), .int .i64 t.q, .int .i64 t.h] 68)) w0.heap.size u3 x.oa x.R.length x.U) := Lib.hid (fun x hx => (GNr2.out x hx).below ((Below.refl _ _).alloc (Nat.le_refl _) _))
      have z3 : w2.heap.size + 1 ≤ (w2.alloc (.cells #[.slice t.a t.n t.c, .int .i64 0, .slice t.oa t.R.length t.oc, .map (some t.mb), .int .i64 (i : Int), .int .i64 t.q, .int .i64 t.h] 68)).heap.size := by simp
      go_upto_region 6 with (fail)
      generalize w2.alloc (.cells #[.slice t.a t.n t.c, .int .i64 0, .slice t.oa t.R.length t.oc, .map (some t.mb), .int .i64 (i : Int), .int .i64 t.q, .int .i64 t.h] 68) = w3 at *
      generalize w2.heap.size = D0 at *
      have d0 := D_3.out.at 0 rfl; have d1 := D_3.out.at 1 rfl; have d2 := D_3.out.at 2 rfl; have d3 := D_3.out.at 3 rfl; have d4 := D_3.out.at 4 rfl; have d5 := D_3.out.at 5 rfl; have d6 := D_3.out.at 6 rfl; have lD := D_3.out.1
      clear HB2 OW2 GN2 GNr2
      have hcn : ∀ j u, (ttcells t)[j]? = some u → (w3.alloc (.cells #[.slice t.a t.n t.c, .int .i64 0, .slice t.oa t.R.length t.oc, .map (some t.mb), .int .i64 (i : Int), .int .i64 t.q, .int .i64 t.h] 68)).cell? ((⟨w3.heap.size, 0, none⟩ : Addr).add j) = some u := by
        have := cells_newTT w3 t w3.heap.size rfl
        rw [HNU.out, ← HE8.out] at this
        exact this
      go_wp2_with (at_builtin; go_loud (refine wpList_append_lies _ rfl _ _ 59 rfl w0.heap.size 68 j0 _ 7 88 Tryd.underlyingRTT hif hj0 hj1 hj2 rfl (by decide) u3 M.length (rowTT M) rfl (OWA.out.alloc _) ⟨w3.heap.size, 0, none⟩ 1 1 (ttcells t) rfl rfl hcn (tt_one t) (by omega) (by unfold maxLen; omega) (by omega) (by simp; omega) (w3.heap.size + 1) (by simp) ?_); intro g9 cap9 w9 hown9 hgrow9 hat9 hlt9)
      have HB9 : Hid (Below w0.heap.size w0 w9) := (HAL.out.alloc (by omega) _).grown hgrow9 (by simp; omega) (fun k hk => HGE.out k hk)
      have HAT : Hid ((Value.slice (some ⟨g9, 0, none⟩) (M.length + 1) cap9).ownBlock = u3.ownBlock ∨ ∃ g, (Value.slice (some ⟨g9, 0, none⟩) (M.length + 1) cap9).ownBlock = some g ∧ (w3.alloc (.cells #[.slice t.a t.n t.c, .int .i64 0, .slice t.oa t.R.length t.oc, .map (some t.mb), .int .i64 (i : Int), .int .i64 t.q, .int .i64 t.h] 68)).heap.size ≤ g) := Lib.hid (by
        rcases hat9 with he | he
        · exact .inl he.symm
        · exact .inr ⟨g9, rfl, by simp; omega⟩)
      have GN9 : Hid (∀ x ∈ M ++ [t], GVN w9 w0.heap.size (.slice (some ⟨g9, 0, none⟩) (M.length + 1) cap9) x.oa x.R.length x.U) := Lib.hid (fun x hx => by
        rcases List.mem_append.mp hx with hx | hx
        · exact ((GNr3.out x hx).below ((Below.refl _ _).alloc (Nat.le_refl _) _)).grown hgrow9 HAT.out
        · simp only [List.mem_singleton] at hx
          subst hx
          exact (GN3.out.below ((Below.refl _ _).alloc (Nat.le_refl _) _)).grown hgrow9 HAT.out)
      have OW9 : Hid (w9.ownsRow w0.heap.size 68 7 (.slice (some ⟨g9, 0, none⟩) (M.length + 1) cap9) (M ++ [t]).length (rowTT (M ++ [t]))) := Lib.hid (by rw [rowTT_snoc, List.length_append]; exact hown9)
      have OK9 : Hid (∀ j x, (M ++ [t])[j]? = some x → TtOk f L T j x) := Lib.hid (fun j x hx => by
        rcases Nat.lt_or_ge j M.length with hj | hj
        · rw [List.getElem?_append_left hj] at hx
          exact OK_r.out j x hx
        · have hj' : j = M.length := (by have := (List.getElem?_eq_some_iff.mp hx).1; simp at this; omega)
          subst hj'
          rw [List.getElem?_append_right (Nat.le_refl _), Nat.sub_self] at hx
          have : t = x := (by simpa using hx)
          subst this
          rw [HMl.out]; exact HTO.out)
      have hML2 : (M ++ [t]).length = i + 1 := by rw [List.length_append, HMl.out]; rfl
      clear hown9 hgrow9 hat9 d0 d1 d2 d3 d4 d5 d6 lD hcn GN3 GNr3 HAT
      go_wp2
      go_roundw
      case rel => first | exact ⟨i + 1, M ++ [t], by omega, by go_num, hML2, HB9, OW9, GN9, OK9⟩ | ((repeat apply Exists.intro); exact ⟨⟨i + 1, M ++ [t], by omega, by go_num, hML2, HB9, OW9, GN9, OK9⟩, rfl⟩)
      case measure => simp [intOf]; omega
    · have hlt' : ¬ (i : Int) < (N : Int) := by omega
      obtain rfl : i = N := by omega
      obtain ⟨ra, rc, he, hv⟩ := rowTT_TTV OW_r.out (fun t ht => (GN_r.out t ht).1)
      subst he
      have HV := Lib.hid hv; have HML := Lib.hid hMl
      clear hv hMl
      go_wp2
      go_ret
      exact ⟨HBr.out, ra, rc, M, by rw [HML.out]; rfl, HML.out, HV.out, OK_r.out⟩
end Go.Proofs.YtnpklnpicelcmaaDoor

namespace Go.Proofs.YtnpklnpicelcmaaDoor
open Go.RowKit
set_option linter.unusedVariables false

/-- The load of the words so far (a name of its own: the walk looks at it when its turn comes). -/
def opH : Oper := { dst := some 28, op := .load 22 (.tmp 27), type := 22, pos := "l09_audit.go:14", after := #[{ on := 0, ground := .data }], guard := none }

theorem keeps_u {w wr w' : World} {lo hi B : Nat} (h : Keeps w wr lo hi) (hb : Below B wr w') (hB : w.heap.size ≤ B) : Keeps w w' lo hi :=
  ⟨hb.os.trans h.os, hb.tape.trans h.tape, hb.output.trans h.output, Nat.le_trans h.size hb.size, fun k hk hd => (hb.block k (by omega)).trans (h.block k hk hd)⟩
end Go.Proofs.YtnpklnpicelcmaaDoor

