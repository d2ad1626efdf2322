/- Texts merged: HF1 to LRH. -/
import Derived.Test.YtpmhbdiddcnhfaaPRH3
namespace Go.Proofs.Ytpmhbdiddcnhfaa
open Go.RowKit
set_option linter.unusedVariables false

/-- What is wrong with a slot of a heap. -/
def slF (L : List Ob) (own : Int) (s : SL) : Int :=
  if ¬ (0 ≤ s.g ∧ s.g ≤ 99) then 3 else if s.nd = 0 then 0 else
  match findO L (s.nd - 1) with
  | none => 4
  | some x => if ¬ x.o = own then 6 else if s.g = 0 then 8 else 0

/-- What is wrong with the first slots. -/
def slsF (L : List Ob) (own : Int) (S : Nat → SL) : Nat → Int
  | 0 => 0
  | n + 1 => if slsF L own S n = 0 then slF L own (S n) else slsF L own S n

/-- What is wrong with a tenant. -/
def tnF (L : List Ob) (own : Int) (t : TN) : Int :=
  if ¬ ((2 ≤ t.q ∧ t.q ≤ 200) ∧ (0 ≤ t.h ∧ t.h ≤ 99999)) then 3 else if ¬ (1 ≤ t.n ∧ t.n ≤ 8) then 2 else slsF L own t.S t.n

/-- What is wrong with the first tenants. -/
def tnsF (L : List Ob) (T : Nat → TN) : Nat → Int
  | 0 => 0
  | n + 1 => if tnsF L T n = 0 then tnF L (n : Int) (T n) else tnsF L T n

/-- The places to which slots lead. -/
def rootsS (S : Nat → SL) : Nat → List Int := selL (fun j => !decide ((S j).nd = 0)) (fun j => (S j).nd - 1)

/-- How many words a tenant holds. -/
def heldT (f : Nat → Int) (L : List Ob) (t : TN) : Nat := sumW (wordsAt L) (reachO f L (rootsS t.S t.n))

/-- Whether one of the first tenants holds too much. -/
def quF (f : Nat → Int) (L : List Ob) (T : Nat → TN) : Nat → Int
  | 0 => 0
  | n + 1 => if quF f L T n = 0 then (if (T n).q < (heldT f L (T n) : Int) then 9 else 0) else quF f L T n

/-- What is wrong with a heap whose arena is right. -/
def hpF (f : Nat → Int) (L : List Ob) (h : Int) (N : Nat) (T : Nat → TN) : Int :=
  if ¬ (1 ≤ N ∧ N ≤ 4) then 2 else if ¬ tnsF L T N = 0 then tnsF L T N else if ¬ quF f L T N = 0 then quF f L T N else if h < sumF (fun i => (T i).q) N then 7 else 0

/-- What HeapFault answers. -/
def IsHpF (h : Int) (n : Nat) (f : Nat → Int) (ac bu : Int) (N : Nat) (T : Nat → TN) (k : Int) : Prop :=
  (IsSF h n f ac bu k ∧ ¬ k = 0) ∨ (IsSF h n f ac bu 0 ∧ ∃ L, IsOI h n f ac bu 0 L ∧ k = hpF f L h N T)

theorem isHpF_some (h : Int) (n : Nat) (f : Nat → Int) (ac bu : Int) (N : Nat) (T : Nat → TN) : ∃ k, IsHpF h n f ac bu N T k := by
  obtain ⟨k, hk⟩ := isSF_some h n f ac bu
  by_cases h0 : k = 0
  · subst h0
    obtain ⟨L, hL⟩ := isSF_zero hk
    exact ⟨_, .inr ⟨hk, L, hL, rfl⟩⟩
  · exact ⟨k, .inl ⟨hk, h0⟩⟩

theorem slsF_stop {L : List Ob} {own : Int} {S : Nat → SL} {i : Nat} : ∀ {n : Nat}, i < n → slsF L own S i = 0 → ¬ slF L own (S i) = 0 → slsF L own S n = slF L own (S i)
  | 0, h, _, _ => absurd h (Nat.not_lt_zero _)
  | n + 1, h, h0, h1 => by
    rcases Nat.lt_succ_iff_lt_or_eq.mp h with h2 | rfl
    · have := slsF_stop h2 h0 h1
      rw [slsF, if_neg (by rw [this]; exact h1), this]
    · rw [slsF, if_pos h0]

theorem slsF_next {L : List Ob} {own : Int} {S : Nat → SL} {i : Nat} (h0 : slsF L own S i = 0) (h1 : slF L own (S i) = 0) : slsF L own S (i + 1) = 0 := by rw [slsF, if_pos h0, h1]

theorem slsF_all {L : List Ob} {own : Int} {S : Nat → SL} : ∀ {n : Nat}, slsF L own S n = 0 → ∀ i, i < n → slF L own (S i) = 0
  | 0, _, i, h => absurd h (Nat.not_lt_zero _)
  | n + 1, h, i, hi => by
    have h0 : slsF L own S n = 0 := by
      by_cases h0 : slsF L own S n = 0
      · exact h0
      · rw [slsF, if_neg h0] at h; exact h
    rw [slsF, if_pos h0] at h
    rcases Nat.lt_succ_iff_lt_or_eq.mp hi with h2 | rfl
    · exact slsF_all h0 i h2
    · exact h

theorem tnsF_stop {L : List Ob} {T : Nat → TN} {i : Nat} : ∀ {n : Nat}, i < n → tnsF L T i = 0 → ¬ tnF L (i : Int) (T i) = 0 → tnsF L T n = tnF L (i : Int) (T i)
  | 0, h, _, _ => absurd h (Nat.not_lt_zero _)
  | n + 1, h, h0, h1 => by
    rcases Nat.lt_succ_iff_lt_or_eq.mp h with h2 | rfl
    · have := tnsF_stop h2 h0 h1
      rw [tnsF, if_neg (by rw [this]; exact h1), this]
    · rw [tnsF, if_pos h0]

theorem tnsF_next {L : List Ob} {T : Nat → TN} {i : Nat} (h0 : tnsF L T i = 0) (h1 : tnF L (i : Int) (T i) = 0) : tnsF L T (i + 1) = 0 := by rw [tnsF, if_pos h0, h1]

theorem tnsF_all {L : List Ob} {T : Nat → TN} : ∀ {n : Nat}, tnsF L T n = 0 → ∀ i, i < n → tnF L (i : Int) (T i) = 0
  | 0, _, i, h => absurd h (Nat.not_lt_zero _)
  | n + 1, h, i, hi => by
    have h0 : tnsF L T n = 0 := by
      by_cases h0 : tnsF L T n = 0
      · exact h0
      · rw [tnsF, if_neg h0] at h; exact h
    rw [tnsF, if_pos h0] at h
    rcases Nat.lt_succ_iff_lt_or_eq.mp hi with h2 | rfl
    · exact tnsF_all h0 i h2
    · exact h

theorem quF_stop {f : Nat → Int} {L : List Ob} {T : Nat → TN} {i : Nat} : ∀ {n : Nat}, i < n → quF f L T i = 0 → (T i).q < (heldT f L (T i) : Int) → quF f L T n = 9
  | 0, h, _, _ => absurd h (Nat.not_lt_zero _)
  | n + 1, h, h0, h1 => by
    rcases Nat.lt_succ_iff_lt_or_eq.mp h with h2 | rfl
    · have := quF_stop h2 h0 h1
      rw [quF, if_neg (by rw [this]; omega), this]
    · rw [quF, if_pos h0, if_pos h1]

theorem quF_next {f : Nat → Int} {L : List Ob} {T : Nat → TN} {i : Nat} (h0 : quF f L T i = 0) (h1 : ¬ (T i).q < (heldT f L (T i) : Int)) : quF f L T (i + 1) = 0 := by rw [quF, if_pos h0, if_neg h1]

/-- A tenant that is right. -/
structure TnOk (L : List Ob) (own : Int) (t : TN) : Prop where
  q : 2 ≤ t.q ∧ t.q ≤ 200
  h : 0 ≤ t.h ∧ t.h ≤ 99999
  n : 1 ≤ t.n ∧ t.n ≤ 8
  s : ∀ j, j < t.n → slF L own (t.S j) = 0

theorem tnF_ok {L : List Ob} {own : Int} {t : TN} (h : tnF L own t = 0) : TnOk L own t := by
  unfold tnF at h
  by_cases h1 : (2 ≤ t.q ∧ t.q ≤ 200) ∧ (0 ≤ t.h ∧ t.h ≤ 99999)
  · rw [if_neg (fun hn => hn h1)] at h
    by_cases h2 : 1 ≤ t.n ∧ t.n ≤ 8
    · rw [if_neg (fun hn => hn h2)] at h
      exact ⟨h1.1, h1.2, h2, slsF_all h⟩
    · rw [if_pos h2] at h; omega
  · rw [if_pos h1] at h; omega

/-- A slot that is right leads nowhere, or to an object of the owner. -/
theorem slF_ok {L : List Ob} {own : Int} {s : SL} (h : slF L own s = 0) : (0 ≤ s.g ∧ s.g ≤ 99) ∧ (s.nd = 0 ∨ (∃ x, findO L (s.nd - 1) = some x ∧ x.o = own) ∧ ¬ s.g = 0) := by
  unfold slF at h
  by_cases h1 : 0 ≤ s.g ∧ s.g ≤ 99
  · refine ⟨h1, ?_⟩
    rw [if_neg (fun hn => hn h1)] at h
    by_cases h2 : s.nd = 0
    · exact .inl h2
    · rw [if_neg h2] at h
      cases hf : findO L (s.nd - 1) with
      | none => rw [hf] at h; simp at h
      | some x =>
        rw [hf] at h
        simp only at h
        by_cases h3 : x.o = own
        · rw [if_neg (fun hn => hn h3)] at h
          by_cases h4 : s.g = 0
          · rw [if_pos h4] at h; omega
          · exact .inr ⟨⟨x, rfl, h3⟩, h4⟩
        · rw [if_pos h3] at h; omega
  · rw [if_pos h1] at h; omega

theorem rootsS_yes {S : Nat → SL} {i : Nat} (h : ¬ (S i).nd = 0) : rootsS S (i + 1) = rootsS S i ++ [(S i).nd - 1] := selL_yes (by simp [h])

theorem rootsS_no {S : Nat → SL} {i : Nat} (h : (S i).nd = 0) : rootsS S (i + 1) = rootsS S i := selL_no (by simp [h])

theorem rootsS_len (S : Nat → SL) (n : Nat) : (rootsS S n).length ≤ n := selL_len _ _ _

theorem mem_rootsS {S : Nat → SL} {p : Int} : ∀ {n : Nat}, p ∈ rootsS S n → ∃ j, j < n ∧ ¬ (S j).nd = 0 ∧ p = (S j).nd - 1
  | 0, h => by cases h
  | n + 1, h => by
    by_cases h0 : (S n).nd = 0
    · rw [rootsS_no h0] at h
      obtain ⟨j, h1, h2⟩ := mem_rootsS h
      exact ⟨j, by omega, h2⟩
    · rw [rootsS_yes h0] at h
      rcases List.mem_append.mp h with h | h
      · obtain ⟨j, h1, h2⟩ := mem_rootsS h
        exact ⟨j, by omega, h2⟩
      · simp only [List.mem_singleton] at h
        exact ⟨n, by omega, h0, h⟩

theorem rootsS_in {L : List Ob} {own : Int} {t : TN} (h : TnOk L own t) : ∀ p ∈ rootsS t.S t.n, p ∈ placesO L := fun p hp => by
  obtain ⟨j, h1, h2, rfl⟩ := mem_rootsS hp
  obtain ⟨_, h3 | ⟨⟨x, h3, _⟩, _⟩⟩ := slF_ok (h.s j h1)
  · exact absurd h3 h2
  · exact mem_placesO.2 ⟨x, h3⟩

theorem rootsS_congr {S U : Nat → SL} {n : Nat} (h : ∀ j, j < n → S j = U j) : rootsS S n = rootsS U n := selL_congr fun i hi => by rw [h i hi]; exact ⟨rfl, rfl⟩

theorem slsF_congr {L : List Ob} {own : Int} {S U : Nat → SL} : ∀ {n : Nat}, (∀ j, j < n → S j = U j) → slsF L own S n = slsF L own U n
  | 0, _ => rfl
  | n + 1, h => by rw [slsF, slsF, slsF_congr fun j hj => h j (by omega), h n (by omega)]

theorem tnF_same {L : List Ob} {own : Int} {t u : TN} (h : TnSame t u) : tnF L own u = tnF L own t := by
  obtain ⟨h1, h2, h3, h4⟩ := h
  unfold tnF
  rw [← h1, ← h2, ← h3, slsF_congr (fun j hj => (h4 j hj).symm)]

theorem heldT_same {f : Nat → Int} {L : List Ob} {t u : TN} (h : TnSame t u) : heldT f L u = heldT f L t := by
  obtain ⟨h1, h2, h3, h4⟩ := h
  unfold heldT
  rw [← h3, rootsS_congr (fun j hj => (h4 j hj).symm)]

theorem tnsF_same {L : List Ob} {T U : Nat → TN} : ∀ {N : Nat}, (∀ i, i < N → TnSame (T i) (U i)) → tnsF L U N = tnsF L T N
  | 0, _ => rfl
  | n + 1, h => by rw [tnsF, tnsF, tnsF_same fun i hi => h i (by omega), tnF_same (h n (by omega))]

theorem quF_same {f : Nat → Int} {L : List Ob} {T U : Nat → TN} : ∀ {N : Nat}, (∀ i, i < N → TnSame (T i) (U i)) → quF f L U N = quF f L T N
  | 0, _ => rfl
  | n + 1, h => by rw [quF, quF, quF_same fun i hi => h i (by omega), heldT_same (h n (by omega)), (h n (by omega)).1]

theorem sumF_same {T U : Nat → TN} : ∀ {N : Nat}, (∀ i, i < N → TnSame (T i) (U i)) → sumF (fun i => (U i).q) N = sumF (fun i => (T i).q) N
  | 0, _ => rfl
  | n + 1, h => by rw [sumF, sumF, sumF_same fun i hi => h i (by omega), (h n (by omega)).1]

theorem isHpF_same {h : Int} {n : Nat} {f : Nat → Int} {ac bu : Int} {N : Nat} {T U : Nat → TN} {k : Int} (hk : IsHpF h n f ac bu N T k) (hs : ∀ i, i < N → TnSame (T i) (U i)) : IsHpF h n f ac bu N U k := by
  rcases hk with hk | ⟨hk, L, hL, rfl⟩
  · exact .inl hk
  · refine .inr ⟨hk, L, hL, ?_⟩
    unfold hpF
    rw [tnsF_same hs, quF_same hs, sumF_same hs]
end Go.Proofs.Ytpmhbdiddcnhfaa

namespace Go.Proofs.Ytpmhbdiddcnhfaa
open Go.RowKit
set_option linter.unusedVariables false

theorem nums_one_more (L : List Int) (x : Int) (B : Nat) (w : World) (v : Value) (h : w.ownsRow B 2 1 v (L.length + 1) (nums L.length (lf L) ++ [.int .i64 x])) : w.ownsRow B 2 1 v (L ++ [x]).length (nums (L ++ [x]).length (lf (L ++ [x]))) := by
  rw [show (L ++ [x]).length = L.length + 1 by simp, ← nums_snoc]; exact h

set_option maxRecDepth 100000 in
set_option maxHeartbeats 1600000 in
theorem l7RootsOf_any (b o : Nat) (t : TN) (w : World) (hb : b < w.heap.size) (hg : ThrG w b o t) (hp : PV w t.a t.n t.S) (hn : t.n ≤ 8) (hs : ∀ j, j < t.n → (t.S j).nd = 0 ∨ (1 ≤ (t.S j).nd ∧ (t.S j).nd ≤ 1000001)) :
    Calls Try.prog 133 #[.pointer (some ⟨b, o, none⟩)] w (RetInts w (rootsS t.S t.n).length (lf (rootsS t.S t.n))) := by
  obtain ⟨i0, hif, hz0, hz1, hz2⟩ := info_parts Try.info2
  have P := Lib.hid hp; have G := Lib.hid hg; have HS := Lib.hid hs
  have OWa : Hid ((w.alloc (.cells #[] 2)).ownsRow w.heap.size 2 1 (.slice (some ⟨w.heap.size, 0, none⟩) 0 0) ([] : List Int).length (nums ([] : List Int).length (lf []))) := World.ownsRow_lit w #[] 0 (Nat.le_refl _) (by simp [maxLen]) rfl
  have HBa : Hid (Below w.heap.size w (w.alloc (.cells #[] 2))) := (Below.refl _ _).alloc (Nat.le_refl _) _
  clear hp hg hs
  go_enter Try.func133, Try.ntmps133
  go_wp2
  go_loopw [3, 4] (fun u p wr => ∃ (i : Nat) (L : List Int), i ≤ t.n ∧ p = .int .i64 (i : Int) ∧ Hid (L = rootsS t.S i) ∧ Hid (Below w.heap.size w wr) ∧ Hid (wr.ownsRow w.heap.size 2 1 u L.length (nums L.length (lf L)))) (fun _ p _ => t.n - (intOf p).toNat)
  case atStart => exact ⟨0, [], Nat.zero_le _, rfl, Lib.hid rfl, HBa, OWa⟩
  case round =>
    clear OWa HBa
    obtain ⟨i, L, hi, rfl, HL, HB_r, OW_r⟩ := hrel
    have hzr := HB_r.out.size
    have hbr : b < wr.heap.size := by omega
    obtain ⟨g0, g1, g2⟩ := G.out.below HB_r.out hb
    by_cases hlt : i < t.n
    · have hlt' : (i : Int) < (t.n : Int) := by omega
      have hi0 : (0 : Int) ≤ (i : Int) := by omega
      obtain ⟨pb, pq, hta, lp, s0, s1⟩ := pv_get (P.out.below HB_r.out) hlt
      have hll : L.length ≤ i := by rw [HL.out]; exact rootsS_len _ _
      have hrg := HS.out i hlt
      rw [hta] at g2
      by_cases hz : (t.S i).nd = 0
      · have HL2 : Hid (L = rootsS t.S (i + 1)) := Lib.hid (by rw [HL.out, rootsS_no hz])
        rw [hz] at s1
        clear HL hz hrg hta
        go_wp2
        go_roundw
        case rel => first | exact ⟨i + 1, L, by omega, by go_num, HL2, HB_r, OW_r⟩ | ((repeat apply Exists.intro); exact ⟨⟨i + 1, L, by omega, by go_num, HL2, HB_r, OW_r⟩, rfl⟩)
        case measure => simp [intOf]; omega
      · have HL2 : Hid (L ++ [(t.S i).nd - 1] = rootsS t.S (i + 1)) := Lib.hid (by rw [HL.out, rootsS_yes hz])
        have hq : ((t.S i).nd != 0) = true := by simp [hz]
        have hr1 : 1 ≤ (t.S i).nd := by omega
        have hr2 : (t.S i).nd ≤ 1000001 := by omega
        have HGE : Hid (∀ k, u3.ownBlock = some k → w.heap.size ≤ k) := Lib.hid (fun k hk => (OW_r.out.lt k hk).1)
        generalize (t.S i).nd = y at *
        clear HL hz hrg hta
        go_wp2_with (at_builtin; go_loud (refine wpList_append_lies _ rfl _ _ 54 rfl w.heap.size 2 i0 (.int .i64 0) 1 8 Try.underlying54 hif hz0 hz1 hz2 rfl (by decide) u3 L.length (nums L.length (lf L)) rfl (OW_r.out.alloc _) ⟨wr.heap.size, 0, none⟩ 1 1 [.int .i64 (y - 1)] rfl rfl (news1 wr (y - 1)) (by intro u hu; simp only [List.mem_cons, List.mem_nil_iff, or_false] at hu; subst hu; rfl) (by omega) (by unfold maxLen; omega) (by omega) (by simp; omega) (wr.heap.size + 1) (by simp) ?_); intro g9 cap9 w9 hown9 hgrow9 hat9 hlt9)
        have HB9 : Hid (Below w.heap.size w w9) := (HB_r.out.alloc hzr _).grown hgrow9 (by simp; omega) (fun k hk => HGE.out k hk)
        have OW9 := Lib.hid (nums_one_more L (y - 1) _ _ _ hown9)
        clear hown9 hgrow9 hat9 s0 s1 g0 g1 g2 hq
        go_wp2
        go_roundw
        case rel => first | exact ⟨i + 1, L ++ [y - 1], by omega, by go_num, HL2, HB9, OW9⟩ | ((repeat apply Exists.intro); exact ⟨⟨i + 1, L ++ [y - 1], by omega, by go_num, HL2, HB9, OW9⟩, rfl⟩)
        case measure => simp [intOf]; omega
    · have hlt' : ¬ (i : Int) < (t.n : Int) := by omega
      obtain rfl : i = t.n := by omega
      have HRet := Lib.hid (retInts_of_row OW_r.out HB_r.out)
      have hL := HL.out
      subst hL
      go_wp2
      go_ret
      exact HRet.out
end Go.Proofs.Ytpmhbdiddcnhfaa

namespace Go.Proofs.Ytpmhbdiddcnhfaa
open Go.RowKit
set_option linter.unusedVariables false

theorem findO_far {L : List Ob} {y : Int} (hp : ∀ x ∈ L, 0 ≤ x.at_ ∧ x.at_ ≤ 1000000) (hy : y < 0 ∨ 1000000 < y) : findO L y = none := by
  cases hf : findO L y with
  | none => rfl
  | some x =>
    have h1 := hp x (List.mem_of_find?_eq_some hf)
    rw [findO_place hf] at h1
    omega

theorem oms_place {w : World} {base lo : Nat} {f : Nat → Int} {v : Value} {M : List OM} (hm : OMS w base lo f v M) : ∀ x ∈ M.map OM.x, 0 ≤ x.at_ ∧ x.at_ ≤ 1000000 := fun x hx => by
  obtain ⟨t, ht, rfl⟩ := List.mem_map.mp hx
  exact (hm.ok t ht).2.2.1

theorem oms_size {w : World} {base lo : Nat} {f : Nat → Int} {v : Value} {M : List OM} (hm : OMS w base lo f v M) : ∀ x ∈ M.map OM.x, 0 ≤ x.s := fun x hx => by
  obtain ⟨t, ht, rfl⟩ := List.mem_map.mp hx
  exact (hm.ok t ht).1.1

theorem tnok_nd {L : List Ob} {own : Int} {t : TN} (h : TnOk L own t) (hp : ∀ x ∈ L, 0 ≤ x.at_ ∧ x.at_ ≤ 1000000) : ∀ j, j < t.n → (t.S j).nd = 0 ∨ (1 ≤ (t.S j).nd ∧ (t.S j).nd ≤ 1000001) := fun j hj => by
  obtain ⟨_, h1 | ⟨⟨x, h1, _⟩, _⟩⟩ := slF_ok (h.s j hj)
  · exact .inl h1
  · have h2 := hp x (List.mem_of_find?_eq_some h1)
    rw [findO_place h1] at h2
    exact .inr (by omega)

set_option maxRecDepth 100000 in
set_option maxHeartbeats 1600000 in
theorem l7Held_any (B : Nat) (h ac bu : Int) (a : Option Addr) (n c : Nat) (ta : Option Addr) (N tc : Nat) (T : Nat → TN) (v : Value) (M : List OM) (base lo : Nat) (f : Nat → Int) (i : Nat) (w : World)
    (hB : Blk w B [.int .i64 h, .slice a n c, .int .i64 ac, .int .i64 bu, .slice ta N tc]) (ht : TV w ta N T) (hm : OMS w base lo f v M) (hp : Points f (M.map OM.x)) (hi : i < N) (hN : N ≤ 4) (hok : TnOk (M.map OM.x) (i : Int) (T i)) :
    Calls Try.prog 77 #[.pointer (some ⟨B, 0, none⟩), v, .int .i64 i] w fun e w' => e = .returned (.int .i64 (heldT f (M.map OM.x) (T i) : Int)) ∧ Below w.heap.size w w' := by
  obtain ⟨tb, tq, rfl, lt, htn, hsl⟩ := tv_get ht hi
  have hi' : (i : Int) < (N : Int) := by omega
  have hi0 : (0 : Int) ≤ (i : Int) := by omega
  have b4 := hB.at 4 rfl; have lB := hB.1
  have HM := Lib.hid hm; have HP := Lib.hid hp; have HOK := Lib.hid hok; have HT := Lib.hid htn; have HS := Lib.hid hsl
  clear hB ht hm hp hok htn hsl
  go_enter Try.func77, Try.ntmps77
  go_wp2_with fail
  refine (l7RootsOf_any tb (tq + i * 3) (T i) _ lt HT.out HS.out HOK.out.n.2 (tnok_nd HOK.out (oms_place HM.out))).mono ?_
  rintro e w1 ⟨ra, rc, rfl, ho, hb, _, _, _⟩
  have HB1 := Lib.hid hb; have HR := Lib.hid ho.src
  have hrl : (rootsS (T i).S (T i).n).length ≤ 8 := Nat.le_trans (rootsS_len _ _) HOK.out.n.2
  clear ho hb b4 lB
  go_wp2_with fail
  refine (l4Reach_any v M base lo ra (rootsS (T i).S (T i).n) rc f _ (HM.out.below HB1.out) HP.out HR.out (by omega) (rootsS_in HOK.out)).mono ?_
  rintro e w2 ⟨qa, qc, rfl, ho, hb, _, _, _⟩
  have HB2 := Lib.hid (thru0 HB1.out hb); have HQ := Lib.hid ho.src
  clear ho hb
  have hql : (reachO f (M.map OM.x) (rootsS (T i).S (T i).n)).length ≤ 400 := by
    have := reachO_length HP.out (oms_size HM.out) (rootsS_in HOK.out)
    have := HM.out.len
    simp at *
    omega
  go_wp2_with fail
  refine (l4Words_any v M base lo qa (reachO f (M.map OM.x) (rootsS (T i).S (T i).n)) qc f _ (HM.out.below HB2.out) HQ.out hql (reachO_sub HP.out (oms_size HM.out) (rootsS_in HOK.out))).mono ?_
  rintro e w3 ⟨rfl, rfl⟩
  go_wp2
  go_ret
  exact ⟨rfl, HB2.out⟩

set_option maxRecDepth 100000 in
set_option maxHeartbeats 3200000 in
theorem l7Slots_any (b o : Nat) (t : TN) (v : Value) (M : List OM) (base lo : Nat) (f : Nat → Int) (own : Int) (w : World) (hb : b < w.heap.size) (hg : ThrG w b o t) (hp : PV w t.a t.n t.S) (hm : OMS w base lo f v M) (hn : t.n ≤ 8)
    (hr : ∀ j, j < t.n → -9223372036854775808 ≤ (t.S j).nd ∧ (t.S j).nd ≤ 9223372036854775807) :
    Calls Try.prog 130 #[.pointer (some ⟨b, o, none⟩), v, .int .i64 own] w fun e w' => e = .returned (.int .i64 (slsF (M.map OM.x) own t.S t.n)) ∧ Below w.heap.size w w' := by
  have P := Lib.hid hp; have G := Lib.hid hg; have HM := Lib.hid hm; have HR := Lib.hid hr
  have hPL := Lib.hid (oms_place hm)
  obtain ⟨a1, k1, rfl⟩ := row_nil hm.row
  clear hp hg hm hr
  go_enter Try.func130, Try.ntmps130
  go_wp2
  go_loopw [7] (fun p wr => ∃ i : Nat, i ≤ t.n ∧ p = .int .i64 (i : Int) ∧ Hid (slsF (M.map OM.x) own t.S i = 0) ∧ Hid (Below w.heap.size w wr)) (fun p _ => t.n - (intOf p).toNat)
  case atStart => exact ⟨0, Nat.zero_le _, rfl, Lib.hid rfl, Below.refl _ _⟩
  case round =>
    obtain ⟨i, hi, rfl, H0, HB_r⟩ := hrel
    have hzr := HB_r.out.size
    have hbr : b < wr.heap.size := by omega
    obtain ⟨g0, g1, g2⟩ := G.out.below HB_r.out hb
    by_cases hlt : i < t.n
    · have hlt' : (i : Int) < (t.n : Int) := by omega
      have hi0 : (0 : Int) ≤ (i : Int) := by omega
      obtain ⟨pb, pq, hta, lp, s0, s1⟩ := pv_get (P.out.below HB_r.out) hlt
      rw [hta] at g2
      have HBA : Hid (Below w.heap.size w (wr.alloc (.cells #[.int .i64 (t.S i).g, .int .i64 (t.S i).nd] 216))) := Lib.hid (HB_r.out.alloc hzr _)
      have HST := Lib.hid (fun h1 => slsF_stop (L := M.map OM.x) (own := own) (S := t.S) hlt H0.out h1)
      have HNX := Lib.hid (fun h1 => slsF_next (L := M.map OM.x) (own := own) (S := t.S) (i := i) H0.out h1)
      have hrg := HR.out i hlt
      by_cases hgen : 0 ≤ (t.S i).g ∧ (t.S i).g ≤ 99
      · obtain ⟨hg0, hg9⟩ := hgen
        by_cases hz : (t.S i).nd = 0
        · have HK := Lib.hid (HNX.out (by unfold slF; rw [if_neg (fun h => h ⟨hg0, hg9⟩), if_pos hz]))
          have hq : ((t.S i).nd == 0) = true := by simp [hz]
          clear hta HST HNX hz
          generalize t.S i = s at *
          go_wp2_with fail
          refine (l1In_yes s.g 0 99 _ hg0 hg9).mono ?_
          rintro e w2 ⟨rfl, rfl⟩
          go_wp2
          go_roundw
          case rel => first | exact ⟨i + 1, by omega, by go_num, HK, HBA⟩ | ((repeat apply Exists.intro); exact ⟨⟨i + 1, by omega, by go_num, HK, HBA⟩, rfl⟩)
          case measure => simp [intOf]; omega
        · have hq : ((t.S i).nd == 0) = false := by simp [hz]
          have HMA := Lib.hid (HM.out.below HBA.out)
          cases hf : findO (M.map OM.x) ((t.S i).nd - 1) with
          | none =>
            have HK : Hid (slsF (M.map OM.x) own t.S t.n = 4) := Lib.hid (by
              have e : slF (M.map OM.x) own (t.S i) = 4 := by unfold slF; rw [if_neg (fun h => h ⟨hg0, hg9⟩), if_neg hz, hf]
              rw [HST.out (by rw [e]; omega), e])
            obtain ⟨y, hy, hfy⟩ : ∃ y, IntKind.i64.wrap ((t.S i).nd - 1) = y ∧ findO (M.map OM.x) y = none := by
              by_cases hmin : (t.S i).nd = -9223372036854775808
              · exact ⟨_, rfl, findO_far hPL.out (by rw [hmin]; right; decide)⟩
              · exact ⟨_, IntWalk.i64_in _ (by omega), hf⟩
            have HFY := Lib.hid hfy
            clear hta HST HNX hz hf hfy hrg
            generalize t.S i = s at *
            go_wp2_with fail
            refine (l1In_yes s.g 0 99 _ hg0 hg9).mono ?_
            rintro e w2 ⟨rfl, rfl⟩
            go_wp2_with fail
            refine (l3Find_any _ M base y _ HMA.out.row HMA.out.len).mono ?_
            rintro e w2 ⟨rfl, ⟨_, rfl⟩ | ⟨j, x, hx, _⟩⟩
            · go_wp2
              go_ret
              exact ⟨by rw [HK.out]; rfl, HBA.out⟩
            · rw [HFY.out] at hx; cases hx
          | some x =>
            have hxb := hPL.out x (List.mem_of_find?_eq_some hf)
            rw [findO_place hf] at hxb
            have hr1 : 1 ≤ (t.S i).nd := by omega
            have hr2 : (t.S i).nd ≤ 1000001 := by omega
            have HF := Lib.hid hf
            have HSF : Hid (slF (M.map OM.x) own (t.S i) = if ¬ x.o = own then 6 else if (t.S i).g = 0 then 8 else 0) := Lib.hid (by unfold slF; rw [if_neg (fun h => h ⟨hg0, hg9⟩), if_neg hz, hf])
            have HC : Hid ((¬ x.o = own ∧ slsF (M.map OM.x) own t.S t.n = 6) ∨ (x.o = own ∧ (t.S i).g = 0 ∧ slsF (M.map OM.x) own t.S t.n = 8) ∨ (x.o = own ∧ ¬ (t.S i).g = 0 ∧ slsF (M.map OM.x) own t.S (i + 1) = 0)) := Lib.hid (by
              by_cases h1 : x.o = own
              · by_cases h2 : (t.S i).g = 0
                · have e : slF (M.map OM.x) own (t.S i) = 8 := by rw [HSF.out, if_neg (fun h => h h1), if_pos h2]
                  exact .inr (.inl ⟨h1, h2, by rw [HST.out (by rw [e]; omega), e]⟩)
                · exact .inr (.inr ⟨h1, h2, HNX.out (by rw [HSF.out, if_neg (fun h => h h1), if_neg h2])⟩)
              · have e : slF (M.map OM.x) own (t.S i) = 6 := by rw [HSF.out, if_pos h1]
                exact .inl ⟨h1, by rw [HST.out (by rw [e]; omega), e]⟩)
            clear hta HST HNX HSF hz hf hrg hxb
            generalize t.S i = s at *
            go_wp2_with fail
            refine (l1In_yes s.g 0 99 _ hg0 hg9).mono ?_
            rintro e w2 ⟨rfl, rfl⟩
            go_wp2_with fail
            refine (l3Find_any _ M base (s.nd - 1) _ HMA.out.row HMA.out.len).mono ?_
            rintro e w2 ⟨rfl, ⟨h0, rfl⟩ | ⟨j, x', hx, hj, rfl⟩⟩
            · rw [HF.out] at h0; cases h0
            · rw [HF.out] at hx
              simp only [Option.some.injEq] at hx
              subst hx
              obtain ⟨gb, gc, -, -, e1, hjm, l1, -, -, -, x3, -⟩ := HMA.out.get hj
              simp only [Value.slice.injEq] at e1
              obtain ⟨rfl, -, rfl⟩ := e1
              have hj' : (j : Int) < (M.length : Int) := by omega
              have hj0 : (0 : Int) ≤ (j : Int) := by omega
              clear hj HF
              rcases HC.out with ⟨h1, h2⟩ | ⟨h1, h2, h3⟩ | ⟨h1, h2, h3⟩
              · have hq2 : (x.o != own) = true := by simp [h1]
                have HK := Lib.hid h2
                clear HC h1 h2
                go_wp2
                go_ret
                exact ⟨by rw [HK.out]; rfl, HBA.out⟩
              · have hq2 : (x.o != own) = false := by simp [h1]
                have hq3 : (s.g == 0) = true := by simp [h2]
                have HK := Lib.hid h3
                clear HC h1 h2 h3
                go_wp2
                go_ret
                exact ⟨by rw [HK.out]; rfl, HBA.out⟩
              · have hq2 : (x.o != own) = false := by simp [h1]
                have hq3 : (s.g == 0) = false := by simp [h2]
                have HK := Lib.hid h3
                clear HC h1 h2 h3
                go_wp2
                go_roundw
                case rel => first | exact ⟨i + 1, by omega, by go_num, HK, HBA⟩ | ((repeat apply Exists.intro); exact ⟨⟨i + 1, by omega, by go_num, HK, HBA⟩, rfl⟩)
                case measure => simp [intOf]; omega
      · have HK : Hid (slsF (M.map OM.x) own t.S t.n = 3) := Lib.hid (by
          have e : slF (M.map OM.x) own (t.S i) = 3 := by unfold slF; rw [if_pos hgen]
          rw [HST.out (by rw [e]; omega), e])
        have HG := Lib.hid hgen
        clear hta HST HNX hgen
        generalize t.S i = s at *
        go_wp2_with fail
        refine (l1In_no s.g 0 99 _ HG.out).mono ?_
        rintro e w2 ⟨rfl, rfl⟩
        go_wp2
        go_ret
        exact ⟨by rw [HK.out]; rfl, HBA.out⟩
    · have hlt' : ¬ (i : Int) < (t.n : Int) := by omega
      obtain rfl : i = t.n := by omega
      go_wp2
      go_ret
      exact ⟨by rw [H0.out]; rfl, HB_r.out⟩
end Go.Proofs.Ytpmhbdiddcnhfaa

namespace Go.Proofs.Ytpmhbdiddcnhfaa
open Go.RowKit
set_option linter.unusedVariables false

set_option maxRecDepth 100000 in
set_option maxHeartbeats 3200000 in
theorem l7Tenants_any (B : Nat) (h ac bu : Int) (a : Option Addr) (n c : Nat) (ta : Option Addr) (N tc : Nat) (T : Nat → TN) (v : Value) (M : List OM) (base lo : Nat) (f : Nat → Int) (k : Int) (w : World)
    (hB : Blk w B [.int .i64 h, .slice a n c, .int .i64 ac, .int .i64 bu, .slice ta N tc]) (ht : TV w ta N T) (hN : N ≤ maxLen) (hn : ∀ i, i < N → (T i).n ≤ maxLen) (hm : OMS w base lo f v M) (hr : ∀ i, i < N → ∀ j, j < (T i).n → -9223372036854775808 ≤ ((T i).S j).nd ∧ ((T i).S j).nd ≤ 9223372036854775807)
    (hk : (¬ (1 ≤ N ∧ N ≤ 4) ∧ k = 2) ∨ ((1 ≤ N ∧ N ≤ 4) ∧ k = tnsF (M.map OM.x) T N)) :
    Calls Try.prog 76 #[.pointer (some ⟨B, 0, none⟩), v] w fun e w' => e = .returned (.int .i64 k) ∧ Below w.heap.size w w' := by
  have BB := Lib.hid hB; have HT := Lib.hid ht; have HM := Lib.hid hm; have HR := Lib.hid hr; have HN := Lib.hid hn
  unfold maxLen at hN
  have b4 := hB.at 4 rfl; have lB := hB.1
  clear hB ht hm hr hn
  rcases hk with ⟨hk, rfl⟩ | ⟨⟨hk1, hk4⟩, rfl⟩
  · rcases (by omega : N = 0 ∨ 4 < N) with rfl | h4
    · go_enter Try.func76, Try.ntmps76
      go_wp2
      go_ret
      exact ⟨rfl, Below.refl _ _⟩
    · have h1' : ¬ (N : Int) < 1 := by omega
      have h4' : (4 : Int) < (N : Int) := by omega
      clear hk
      go_enter Try.func76, Try.ntmps76
      go_wp2
      go_ret
      exact ⟨rfl, Below.refl _ _⟩
  · have h1' : ¬ (N : Int) < 1 := by omega
    have h4' : ¬ (4 : Int) < (N : Int) := by omega
    go_enter Try.func76, Try.ntmps76
    go_wp2
    clear b4 lB
    go_loopw [5] (fun p wr => ∃ i : Nat, i ≤ N ∧ p = .int .i64 (i : Int) ∧ Hid (tnsF (M.map OM.x) T i = 0) ∧ Hid (Below w.heap.size w wr)) (fun p _ => N - (intOf p).toNat)
    case atStart => exact ⟨0, Nat.zero_le _, rfl, Lib.hid rfl, Below.refl _ _⟩
    case round =>
      obtain ⟨i, hi, rfl, H0, HB_r⟩ := hrel
      have hzr := HB_r.out.size
      have Br := Lib.hid (BB.out.below HB_r.out)
      have b4 := Br.out.at 4 rfl; have lB := Br.out.1
      by_cases hlt : i < N
      · have hlt' : (i : Int) < (N : Int) := by omega
        have hi0 : (0 : Int) ≤ (i : Int) := by omega
        obtain ⟨tb, tq, rfl, lt, htn, hsl⟩ := tv_get (HT.out.below HB_r.out) hlt
        have HTN := Lib.hid htn; have HSL := Lib.hid hsl
        obtain ⟨g0, g1, g2⟩ := htn
        clear hsl
        have HST := Lib.hid (fun h1 => tnsF_stop (L := M.map OM.x) (T := T) hlt H0.out h1)
        have HNX := Lib.hid (fun h1 => tnsF_next (L := M.map OM.x) (T := T) (i := i) H0.out h1)
        have hnm := HN.out i hlt
        unfold maxLen at hnm
        have HRI := Lib.hid (HR.out i hlt)
        by_cases hq : 2 ≤ (T i).q ∧ (T i).q ≤ 200
        · obtain ⟨hq1, hq2⟩ := hq
          by_cases hh : 0 ≤ (T i).h ∧ (T i).h ≤ 99999
          · obtain ⟨hh1, hh2⟩ := hh
            by_cases hs : 1 ≤ (T i).n ∧ (T i).n ≤ 8
            · have e1 : tnF (M.map OM.x) (i : Int) (T i) = slsF (M.map OM.x) (i : Int) (T i).S (T i).n := by unfold tnF; rw [if_neg (fun h => h ⟨⟨hq1, hq2⟩, ⟨hh1, hh2⟩⟩), if_neg (fun h => h hs)]
              obtain ⟨c9, hc9⟩ : ∃ c9, slsF (M.map OM.x) (i : Int) (T i).S (T i).n = c9 := ⟨_, rfl⟩
              rw [hc9] at e1
              have HE := Lib.hid e1
              have HC := Lib.hid hc9
              have hs1 : ¬ ((T i).n : Int) < 1 := by omega
              have hs2 : ¬ (8 : Int) < ((T i).n : Int) := by omega
              have hs8 : (T i).n ≤ 8 := hs.2
              clear e1 hc9 hs
              generalize T i = t at *
              go_wp2_with fail
              refine (l1In_yes t.q 2 200 _ hq1 hq2).mono ?_
              rintro e w2 ⟨rfl, rfl⟩
              go_wp2_with fail
              refine (l1In_yes t.h 0 99999 _ hh1 hh2).mono ?_
              rintro e w2 ⟨rfl, rfl⟩
              go_wp2_with fail
              refine (l7Slots_any tb (tq + i * 3) t v M base lo f (i : Int) _ lt HTN.out HSL.out (HM.out.below HB_r.out) hs8 HRI.out).mono ?_
              rintro e w2 ⟨rfl, hb⟩
              have HB2 := Lib.hid (thru0 HB_r.out hb)
              rw [HC.out]
              clear hb b4 lB g0 g1 g2 lt
              by_cases h0 : c9 = 0
              · have HK := Lib.hid (HNX.out (HE.out.trans h0))
                subst h0
                clear HST HNX HE HC
                go_wp2
                go_roundw
                case rel => first | exact ⟨i + 1, by omega, by go_num, HK, HB2⟩ | ((repeat apply Exists.intro); exact ⟨⟨i + 1, by omega, by go_num, HK, HB2⟩, rfl⟩)
                case measure => simp [intOf]; omega
              · have HK := Lib.hid (HST.out (by rw [HE.out]; exact h0))
                have hq9 : (c9 != 0) = true := by simp [h0]
                have HKE := Lib.hid (HK.out.trans HE.out)
                clear HST HNX HE HC h0 HK
                go_wp2
                go_ret
                exact ⟨by rw [HKE.out]; rfl, HB2.out⟩
            · have e1 : tnF (M.map OM.x) (i : Int) (T i) = 2 := by unfold tnF; rw [if_neg (fun h => h ⟨⟨hq1, hq2⟩, ⟨hh1, hh2⟩⟩), if_pos hs]
              have HK : Hid (tnsF (M.map OM.x) T N = 2) := Lib.hid (by rw [HST.out (by rw [e1]; omega), e1])
              clear HST HNX e1
              generalize T i = t at *
              rcases (by omega : t.n = 0 ∨ 8 < t.n) with h0 | h8
              · have hs1 : (t.n : Int) < 1 := by omega
                clear hs h0
                go_wp2_with fail
                refine (l1In_yes t.q 2 200 _ hq1 hq2).mono ?_
                rintro e w2 ⟨rfl, rfl⟩
                go_wp2_with fail
                refine (l1In_yes t.h 0 99999 _ hh1 hh2).mono ?_
                rintro e w2 ⟨rfl, rfl⟩
                go_wp2
                go_ret
                exact ⟨by rw [HK.out]; rfl, HB_r.out⟩
              · have hs1 : ¬ (t.n : Int) < 1 := by omega
                have hs2 : (8 : Int) < (t.n : Int) := by omega
                clear hs
                go_wp2_with fail
                refine (l1In_yes t.q 2 200 _ hq1 hq2).mono ?_
                rintro e w2 ⟨rfl, rfl⟩
                go_wp2_with fail
                refine (l1In_yes t.h 0 99999 _ hh1 hh2).mono ?_
                rintro e w2 ⟨rfl, rfl⟩
                go_wp2
                go_ret
                exact ⟨by rw [HK.out]; rfl, HB_r.out⟩
          · have e1 : tnF (M.map OM.x) (i : Int) (T i) = 3 := by unfold tnF; rw [if_pos (fun h => hh h.2)]
            have HK : Hid (tnsF (M.map OM.x) T N = 3) := Lib.hid (by rw [HST.out (by rw [e1]; omega), e1])
            have HH := Lib.hid hh
            clear HST HNX e1 hh
            generalize T i = t at *
            go_wp2_with fail
            refine (l1In_yes t.q 2 200 _ hq1 hq2).mono ?_
            rintro e w2 ⟨rfl, rfl⟩
            go_wp2_with fail
            refine (l1In_no t.h 0 99999 _ HH.out).mono ?_
            rintro e w2 ⟨rfl, rfl⟩
            go_wp2
            go_ret
            exact ⟨by rw [HK.out]; rfl, HB_r.out⟩
        · have e1 : tnF (M.map OM.x) (i : Int) (T i) = 3 := by unfold tnF; rw [if_pos (fun h => hq h.1)]
          have HK : Hid (tnsF (M.map OM.x) T N = 3) := Lib.hid (by rw [HST.out (by rw [e1]; omega), e1])
          have HQ := Lib.hid hq
          clear HST HNX e1 hq
          generalize T i = t at *
          go_wp2_with fail
          refine (l1In_no t.q 2 200 _ HQ.out).mono ?_
          rintro e w2 ⟨rfl, rfl⟩
          go_wp2
          go_ret
          exact ⟨by rw [HK.out]; rfl, HB_r.out⟩
      · have hlt' : ¬ (i : Int) < (N : Int) := by omega
        obtain rfl : i = N := by omega
        go_wp2
        go_ret
        exact ⟨by rw [H0.out]; rfl, HB_r.out⟩
end Go.Proofs.Ytpmhbdiddcnhfaa

namespace Go.Proofs.Ytpmhbdiddcnhfaa
open Go.RowKit
set_option linter.unusedVariables false

theorem blk_pre4 {w : World} {b : Nat} {x0 x1 x2 x3 x4 : Value} (h : Blk w b [x0, x1, x2, x3, x4]) : Blk w b [x0, x1, x2, x3] := ⟨h.1, fun j u hu => h.2 j u (by
  rcases j with _ | _ | _ | _ | j
  · simpa using hu
  · simpa using hu
  · simpa using hu
  · simpa using hu
  · simp at hu)⟩

theorem capH {w : World} {B tb o : Nat} {x0 x1 x2 x3 x4 : Value} {t : TN} (hB : Blk w B [x0, x1, x2, x3, x4]) (hg : ThrG w tb o t) : w.cell? ⟨B, 4, none⟩ = some x4 ∧ w.cell? ⟨tb, o, none⟩ = some (.int .i64 t.q) := ⟨hB.at 4 rfl, hg.1⟩

theorem hpF_cases (f : Nat → Int) (L : List Ob) (h : Int) (N : Nat) (T : Nat → TN) {k : Int} (hk : k = hpF f L h N T) :
    (¬ (1 ≤ N ∧ N ≤ 4) ∧ k = 2) ∨ ((1 ≤ N ∧ N ≤ 4) ∧ ((¬ tnsF L T N = 0 ∧ k = tnsF L T N) ∨ (tnsF L T N = 0 ∧ ((¬ quF f L T N = 0 ∧ k = quF f L T N) ∨ (quF f L T N = 0 ∧ ((h < sumF (fun i => (T i).q) N ∧ k = 7) ∨ (¬ h < sumF (fun i => (T i).q) N ∧ k = 0))))))) := by
  unfold hpF at hk
  by_cases h1 : 1 ≤ N ∧ N ≤ 4
  · rw [if_neg (fun x => x h1)] at hk
    refine .inr ⟨h1, ?_⟩
    by_cases h2 : tnsF L T N = 0
    · rw [if_neg (fun x => x h2)] at hk
      refine .inr ⟨h2, ?_⟩
      by_cases h3 : quF f L T N = 0
      · rw [if_neg (fun x => x h3)] at hk
        refine .inr ⟨h3, ?_⟩
        by_cases h4 : h < sumF (fun i => (T i).q) N
        · rw [if_pos h4] at hk; exact .inl ⟨h4, hk⟩
        · rw [if_neg h4] at hk; exact .inr ⟨h4, hk⟩
      · rw [if_pos h3] at hk; exact .inl ⟨h3, hk⟩
    · rw [if_pos h2] at hk; exact .inl ⟨h2, hk⟩
  · rw [if_pos h1] at hk; exact .inl ⟨h1, hk⟩

theorem sumF_tn {L : List Ob} {T : Nat → TN} : ∀ {N : Nat}, (∀ i, i < N → TnOk L (i : Int) (T i)) → 0 ≤ sumF (fun i => (T i).q) N ∧ sumF (fun i => (T i).q) N ≤ 200 * (N : Int)
  | 0, _ => by simp [sumF]
  | n + 1, h => by
    have h1 := sumF_tn (N := n) fun i hi => h i (by omega)
    have h2 := (h n (by omega)).q
    rw [sumF_succ]
    omega

set_option maxRecDepth 100000 in
set_option maxHeartbeats 6400000 in
theorem specHpF_any (h ac bu : Int) (a : Option Addr) (n c : Nat) (f : Nat → Int) (ta : Option Addr) (N tc : Nat) (T : Nat → TN) (k : Int) (w : World) (hs : Src w a n f) (hcn : n ≤ c) (hcm : c ≤ maxLen) (ht : TV w ta N T) (hN : N ≤ maxLen) (hn : ∀ i, i < N → (T i).n ≤ maxLen)
    (hr : ∀ i, i < N → ∀ j, j < (T i).n → -9223372036854775808 ≤ ((T i).S j).nd ∧ ((T i).S j).nd ≤ 9223372036854775807) (hk : IsHpF h n f ac bu N T k) :
    Calls Try.prog 36 #[.agg #[.int .i64 h, .slice a n c, .int .i64 ac, .int .i64 bu, .slice ta N tc]] w (RetInt w k) := by
  have S0 := Lib.hid hs; have T0 := Lib.hid ht; have HN := Lib.hid hn; have HR := Lib.hid hr; have HCM := Lib.hid hcm
  have B_0 := Lib.hid (Blk.new_at (w := w) (cs := #[.int .i64 h, .slice a n c, .int .i64 ac, .int .i64 bu, .slice ta N tc]) (t := 65) w.heap.size rfl)
  have HB0 : Hid (Below w.heap.size w (w.alloc (.cells #[.int .i64 h, .slice a n c, .int .i64 ac, .int .i64 bu, .slice ta N tc] 65))) := (Below.refl _ _).alloc (Nat.le_refl _) _
  have zB : w.heap.size < (w.alloc (.cells #[.int .i64 h, .slice a n c, .int .i64 ac, .int .i64 bu, .slice ta N tc] 65)).heap.size := by simp
  clear hs ht hn hr hcm
  rcases hk with ⟨hk, h0⟩ | ⟨hk, L, hL, hk2⟩
  · have HK := Lib.hid hk
    have hq : (k != 0) = true := by simp [h0]
    have b0 := B_0.out.at 0 rfl; have b1 := B_0.out.at 1 rfl; have b2 := B_0.out.at 2 rfl; have b3 := B_0.out.at 3 rfl; have lB := B_0.out.1
    clear hk h0
    go_enter Try.func36, Try.ntmps36
    go_wp2_with fail
    refine (specSF_any h ac bu a n c f k _ (S0.out.below HB0.out) hcn HCM.out HK.out).mono ?_
    rintro e w1 ⟨rfl, hb⟩
    have HB1 := Lib.hid (thru0 HB0.out hb)
    clear hb b0 b1 b2 b3 lB
    go_wp2
    go_ret
    exact ⟨rfl, HB1.out⟩
  · have HSF := Lib.hid hk; have HOI := Lib.hid hL
    have hpt : Points f L := (isSF_shape hk hL).1
    have HPT := Lib.hid hpt
    have HK2 := Lib.hid hk2
    have b0 := B_0.out.at 0 rfl; have b1 := B_0.out.at 1 rfl; have b2 := B_0.out.at 2 rfl; have b3 := B_0.out.at 3 rfl; have lB := B_0.out.1
    clear hk hL hpt hk2
    go_enter Try.func36, Try.ntmps36
    go_wp2_with fail
    generalize w.alloc (.cells #[.int .i64 h, .slice a n c, .int .i64 ac, .int .i64 bu, .slice ta N tc] 65) = w0 at *
    refine (specSF_any h ac bu a n c f 0 _ (S0.out.below HB0.out) hcn HCM.out HSF.out).mono ?_
    rintro e w1 ⟨rfl, hb⟩
    have HB1 := Lib.hid (thru0 HB0.out hb); have B_1 := Lib.hid (B_0.out.below hb)
    have z1 := hb.size
    clear hb b0 b1 b2 b3 lB B_0 HB0
    have lB := B_1.out.1
    go_wp2_with fail
    refine (l3Objs_any w.heap.size h ac bu a n c f L _ (blk_pre4 B_1.out) (S0.out.below HB1.out) hcn HCM.out HOI.out).mono ?_
    rintro e w2 ⟨hb, v, M, rfl, rfl, hm⟩
    have HB2 := Lib.hid (thru0 HB1.out hb); have B_2 := Lib.hid (B_1.out.below hb)
    have HM2 := Lib.hid hm
    have z2 := hb.size
    clear hb hm lB B_1 HB1
    have lB := B_2.out.1
    obtain ⟨k1, hk1⟩ : ∃ k1, (¬ (1 ≤ N ∧ N ≤ 4) ∧ k1 = 2) ∨ ((1 ≤ N ∧ N ≤ 4) ∧ k1 = tnsF (M.map OM.x) T N) := by
      by_cases h1 : 1 ≤ N ∧ N ≤ 4
      · exact ⟨_, .inr ⟨h1, rfl⟩⟩
      · exact ⟨_, .inl ⟨h1, rfl⟩⟩
    have HK1 := Lib.hid hk1
    clear hk1
    go_wp2_with fail
    refine (l7Tenants_any w.heap.size h ac bu a n c ta N tc T v M w1.heap.size w1.heap.size f k1 _ B_2.out (T0.out.below HB2.out) hN HN.out HM2.out HR.out HK1.out).mono ?_
    rintro e w3 ⟨rfl, hb⟩
    have HB3 := Lib.hid (thru0 HB2.out hb); have B_3 := Lib.hid (B_2.out.below hb); have HM3 := Lib.hid (HM2.out.below hb)
    have z3 := hb.size
    clear hb lB B_2 HB2 HM2
    have lB := B_3.out.1
    have HC := Lib.hid (hpF_cases f (M.map OM.x) h N T HK2.out)
    by_cases h0 : k1 = 0
    · have hx : (1 ≤ N ∧ N ≤ 4) ∧ tnsF (M.map OM.x) T N = 0 := by
        rcases HK1.out with ⟨_, h2⟩ | ⟨h1, h2⟩
        · omega
        · exact ⟨h1, h2 ▸ h0⟩
      obtain ⟨⟨hN1, hN4⟩, htns⟩ := hx
      have HOK : Hid (∀ i, i < N → TnOk (M.map OM.x) (i : Int) (T i)) := Lib.hid (fun i hi => tnF_ok (tnsF_all htns i hi))
      have HC2 : Hid ((¬ quF f (M.map OM.x) T N = 0 ∧ k = quF f (M.map OM.x) T N) ∨ (quF f (M.map OM.x) T N = 0 ∧ ((h < sumF (fun i => (T i).q) N ∧ k = 7) ∨ (¬ h < sumF (fun i => (T i).q) N ∧ k = 0)))) := Lib.hid (by
        rcases HC.out with ⟨h1, _⟩ | ⟨_, ⟨h2, _⟩ | ⟨_, h3⟩⟩
        · exact absurd ⟨hN1, hN4⟩ h1
        · exact absurd htns h2
        · exact h3)
      subst h0
      clear HC HK1 HK2 htns
      go_wp2
      clear lB
      go_loopw [7, 8] (fun u p wr => ∃ i : Nat, i ≤ N ∧ p = .int .i64 (i : Int) ∧ u = .int .i64 (sumF (fun j => (T j).q) i) ∧ Hid (quF f (M.map OM.x) T i = 0) ∧ Hid (Below w3.heap.size w3 wr)) (fun _ p _ => N - (intOf p).toNat)
      case atStart => exact ⟨0, Nat.zero_le _, rfl, rfl, Lib.hid rfl, Below.refl _ _⟩
      case round =>
        obtain ⟨i, hi, rfl, rfl, HQ, HB_r⟩ := hrel
        have HBr := Lib.hid (thru0 HB3.out HB_r.out)
        have B_r := Lib.hid (B_3.out.below HB_r.out)
        have HM_r := Lib.hid (HM3.out.below HB_r.out)
        have hzr := HB_r.out.size
        have hsum := sumF_tn (N := i) (L := M.map OM.x) (T := T) fun j hj => HOK.out j (by omega)
        obtain ⟨hsum1, hsum2⟩ := hsum
        have b4 := B_r.out.at 4 rfl; have b0 := B_r.out.at 0 rfl; have lB := B_r.out.1
        by_cases hlt : i < N
        · have hlt' : (i : Int) < (N : Int) := by omega
          have hi0 : (0 : Int) ≤ (i : Int) := by omega
          obtain ⟨tb, tq, rfl, lt, htn, -⟩ := tv_get (T0.out.below HBr.out) hlt
          have G_r := Lib.hid htn
          obtain ⟨g0, -, -⟩ := htn
          have B_d := Lib.hid B_r.out.drew
          have G_d := Lib.hid (G_r.out.below ((Below.refl wr.heap.size wr).drew) lt)
          have HBd := Lib.hid HBr.out.drew
          have HMd := Lib.hid (HM_r.out.below (Below.refl wr.heap.size wr).drew)
          have ltd : tb < wr.drew.heap.size := by simpa using lt
          have hqv := (HOK.out i hlt).q
          have hok := HOK.out i hlt
          have HOKI := Lib.hid hok
          obtain ⟨hq2, hq200⟩ := hqv
          have HSS : Hid (sumF (fun j => (T j).q) (i + 1) = sumF (fun j => (T j).q) i + (T i).q) := Lib.hid (sumF_succ _ _)
          obtain ⟨y, hy⟩ : ∃ y : Int, (heldT f (M.map OM.x) (T i) : Int) = y := ⟨_, rfl⟩
          have HY := Lib.hid hy
          clear hok hy
          go_wp2_with fail
          go_region_held3 (fun w' => w'.cell? ⟨w.heap.size, 4, none⟩ = some (.slice (some ⟨tb, tq, none⟩) N tc) ∧ w'.cell? ⟨tb, tq + i * 3, none⟩ = some (.int .i64 (T i).q))
            (first | (with_reducible exact capH B_r.out G_r.out) | (with_reducible exact capH B_d.out G_d.out) | (with_reducible exact capH B_9.out G_9.out))
            (first | (go_at_call 77; refine (l7Held_any w.heap.size h ac bu a n c (some ⟨tb, tq, none⟩) N tc T v M w1.heap.size w1.heap.size f i _ B_d.out (T0.out.below HBd.out) HMd.out HPT.out hlt hN4 HOKI.out).mono ?_; rw [HY.out]; rintro e w9 ⟨rfl, hb⟩; have HB9 := Lib.hid ((Below.refl wr.heap.size wr).drew.trans (hb.mono (by simp))); have B_9 := Lib.hid (B_d.out.below hb); have G_9 := Lib.hid (G_d.out.below hb ltd); clear hb))
          have HBF := Lib.hid (HB_r.out.trans (HB9.out.mono hzr))
          have HBW := Lib.hid (thru0 HB3.out HBF.out)
          have z9 := HB9.out.size
          have lt9 : tb < w9.heap.size := by omega
          clear b4 b0 lB g0 B_d G_d HBd HMd ltd B_r G_r HM_r HB_r HBr lt
          have b4 := B_9.out.at 4 rfl; have lB := B_9.out.1
          obtain ⟨g0, -, -⟩ := G_9.out
          by_cases hqy : (T i).q < y
          · have HK : Hid (k = 9) := Lib.hid (by
              have e := quF_stop hlt HQ.out (by rw [HY.out]; exact hqy)
              rcases HC2.out with ⟨_, h1⟩ | ⟨h1, _⟩
              · rw [h1, e]
              · omega)
            generalize (T i).q = q at *
            go_wp2
            go_ret
            exact ⟨by rw [HK.out]; rfl, HBW.out⟩
          · have HQ2 := Lib.hid (quF_next HQ.out (by rw [HY.out]; exact hqy))
            generalize sumF (fun j => (T j).q) i = sm at *
            generalize (T i).q = q at *
            clear HQ
            go_wp2
            go_roundw
            case rel => first | exact ⟨i + 1, by omega, by go_num, by rw [HSS.out], HQ2, HBF⟩ | ((repeat apply Exists.intro); exact ⟨⟨i + 1, by omega, by go_num, by rw [HSS.out], HQ2, HBF⟩, rfl⟩)
            case measure => simp [intOf]; omega
        · have hlt' : ¬ (i : Int) < (N : Int) := by omega
          obtain rfl : i = N := by omega
          have HC3 : Hid ((h < sumF (fun j => (T j).q) i ∧ k = 7) ∨ (¬ h < sumF (fun j => (T j).q) i ∧ k = 0)) := Lib.hid (by
            rcases HC2.out with ⟨h1, _⟩ | ⟨_, h1⟩
            · exact absurd HQ.out h1
            · rcases h1 with h1 | ⟨h1, h2⟩
              · exact .inl h1
              · exact .inr ⟨by omega, h2⟩)
          clear HC2 HQ
          generalize sumF (fun j => (T j).q) i = sm at *
          rcases HC3.out with ⟨h1, rfl⟩ | ⟨h1, rfl⟩
          · clear HC3
            go_wp2
            go_ret
            exact ⟨rfl, HBr.out⟩
          · clear HC3
            go_wp2
            go_ret
            exact ⟨rfl, HBr.out⟩
    · have hq : (k1 != 0) = true := by simp [h0]
      have HK : Hid (k = k1) := Lib.hid (by
        rcases HC.out with ⟨h1, h2⟩ | ⟨h1, h2⟩
        · rcases HK1.out with ⟨_, h3⟩ | ⟨h3, _⟩
          · omega
          · exact absurd h3 h1
        · rcases HK1.out with ⟨h3, _⟩ | ⟨_, h3⟩
          · exact absurd h1 h3
          · rcases h2 with ⟨_, h4⟩ | ⟨h4, _⟩
            · rw [h4, h3]
            · exact absurd (h3.trans h4) h0)
      clear HC HK1 HK2 h0
      go_wp2
      go_ret
      exact ⟨by rw [HK.out]; rfl, HB3.out⟩
end Go.Proofs.Ytpmhbdiddcnhfaa

namespace Go.Proofs.Ytpmhbdiddcnhfaa
open Go.RowKit
set_option linter.unusedVariables false

set_option maxRecDepth 100000 in
theorem place_pos (v : Int) (w : World) (h1 : 1 ≤ v) (h2 : v ≤ 9223372036854775807) : Calls Try.prog 143 #[.int .i64 v] w (fun e w' => e = .returned (.int .i64 (v - 1)) ∧ Below w.heap.size w w') := by
  go_enter Try.func143, Try.ntmps143
  go_wp2
  go_ret
  exact ⟨rfl, Below.refl _ _⟩

set_option maxRecDepth 100000 in
set_option maxHeartbeats 1600000 in
theorem rootsOf_any (a : Option Addr) (n c : Nat) (S : Nat → SL) (w : World) (hp : PV w a n S) (hn : n ≤ 8) (hs : ∀ j, j < n → (S j).nd = 0 ∨ (1 ≤ (S j).nd ∧ (S j).nd ≤ 1000001)) :
    Calls Try.prog 90 #[.slice a n c] w (RetInts w (rootsS S n).length (lf (rootsS S n))) := by
  obtain ⟨i0, hif, hz0, hz1, hz2⟩ := info_parts Try.info2
  have P := Lib.hid hp; have HS := Lib.hid hs
  clear hp hs
  go_enter Try.func90, Try.ntmps90
  go_wp2
  go_loopw [3, 8] (fun u p wr => ∃ (i : Nat) (L : List Int), i ≤ n ∧ p = .int .i64 (i : Int) ∧ Hid (L = rootsS S i) ∧ Hid (Below w.heap.size w wr) ∧ Hid (wr.ownsRow w.heap.size 2 1 u L.length (nums L.length (lf L)))) (fun _ p _ => n - (intOf p).toNat)
  case atStart => exact ⟨0, [], Nat.zero_le _, rfl, Lib.hid rfl, Below.refl _ _, World.ownsRow_nil _ _ _ _⟩
  case round =>
    obtain ⟨i, L, hi, rfl, HL, HB_r, OW_r⟩ := hrel
    have hzr := HB_r.out.size
    by_cases hlt : i < n
    · have hlt' : (i : Int) < (n : Int) := by omega
      have hi0 : (0 : Int) ≤ (i : Int) := by omega
      obtain ⟨pb, pq, rfl, lp, s0, s1⟩ := pv_get (P.out.below HB_r.out) hlt
      have hll : L.length ≤ i := by rw [HL.out]; exact rootsS_len _ _
      have hrg := HS.out i hlt
      have HAL : Hid (Below w.heap.size w (wr.alloc (.cells #[.int .i64 (S i).g, .int .i64 (S i).nd] 216))) := Lib.hid (HB_r.out.alloc hzr _)
      have OWA := Lib.hid (OW_r.out.alloc (.cells #[.int .i64 (S i).g, .int .i64 (S i).nd] 216))
      by_cases hz : (S i).nd = 0
      · have HL2 : Hid (L = rootsS S (i + 1)) := Lib.hid (by rw [HL.out, rootsS_no hz])
        have hq : ((S i).nd != 0) = false := by simp [hz]
        clear HL hz hrg
        generalize S i = s at *
        go_wp2
        go_roundw
        case rel => first | exact ⟨i + 1, L, by omega, by go_num, HL2, HAL, OWA⟩ | ((repeat apply Exists.intro); exact ⟨⟨i + 1, L, by omega, by go_num, HL2, HAL, OWA⟩, rfl⟩)
        case measure => simp [intOf]; omega
      · have HL2 : Hid (L ++ [(S i).nd - 1] = rootsS S (i + 1)) := Lib.hid (by rw [HL.out, rootsS_yes hz])
        have hq : ((S i).nd != 0) = true := by simp [hz]
        have hr1 : 1 ≤ (S i).nd := by omega
        have hr2 : (S i).nd ≤ 1000001 := by omega
        clear HL hz hrg
        generalize S i = s at *
        go_wp2_with fail
        refine (place_pos s.nd _ hr1 (by omega)).mono ?_
        rintro e w2 ⟨rfl, hb⟩
        have HB2 := Lib.hid (thru0 HAL.out hb)
        have OW2 := Lib.hid (ownsRow_below OWA.out hb)
        have HGE : Hid (∀ k, u3.ownBlock = some k → w.heap.size ≤ k) := Lib.hid (fun k hk => (OW2.out.lt k hk).1)
        have z2 : w.heap.size ≤ w2.heap.size := HB2.out.size
        clear hb s0 s1
        go_wp2_with (at_builtin; go_loud (refine wpList_append_lies _ rfl _ _ 54 rfl w.heap.size 2 i0 (.int .i64 0) 1 8 Try.underlying54 hif hz0 hz1 hz2 rfl (by decide) u3 L.length (nums L.length (lf L)) rfl (OW2.out.alloc _) ⟨w2.heap.size, 0, none⟩ 1 1 [.int .i64 (s.nd - 1)] rfl rfl (news1 w2 (s.nd - 1)) (by intro u hu; simp only [List.mem_cons, List.mem_nil_iff, or_false] at hu; subst hu; rfl) (by omega) (by unfold maxLen; omega) (by omega) (by simp; omega) (w2.heap.size + 1) (by simp) ?_); intro g9 cap9 w9 hown9 hgrow9 hat9 hlt9)
        have HB9 : Hid (Below w.heap.size w w9) := (HB2.out.alloc z2 _).grown hgrow9 (by simp; omega) (fun k hk => HGE.out k hk)
        have OW9 := Lib.hid (nums_one_more L (s.nd - 1) _ _ _ hown9)
        clear hown9 hgrow9 hat9 hq
        go_wp2
        go_roundw
        case rel => first | exact ⟨i + 1, L ++ [s.nd - 1], by omega, by go_num, HL2, HB9, OW9⟩ | ((repeat apply Exists.intro); exact ⟨⟨i + 1, L ++ [s.nd - 1], by omega, by go_num, HL2, HB9, OW9⟩, rfl⟩)
        case measure => simp [intOf]; omega
    · have hlt' : ¬ (i : Int) < (n : Int) := by omega
      obtain rfl : i = n := by omega
      have HRet := Lib.hid (retInts_of_row OW_r.out HB_r.out)
      have hL := HL.out
      subst hL
      go_wp2
      go_ret
      exact HRet.out

/-- A tenant's table: its slots, and what is reached from them. -/
def RetTab (W : World) (f : Nat → Int) (L : List Ob) (a : Option Addr) (n c : Nat) (R : List Int) (e : Ending) (w' : World) : Prop :=
  Below W.heap.size W w' ∧ ∃ oa oc mb T, e = .returned (.agg #[.slice a n c, .int .i64 0, .slice oa R.length oc, .map (some mb)]) ∧ GV w' oa R.length T ∧ MapT w' mb R.length R (fun i => (i : Int)) ∧ ∀ i, i < R.length → ∃ x, findO L (lf R i) = some x ∧ GSame (T i) (obG f x)
end Go.Proofs.Ytpmhbdiddcnhfaa

namespace Go.Proofs.Ytpmhbdiddcnhfaa
open Go.RowKit
set_option linter.unusedVariables false

/-- A block that holds no more than an empty table. -/
def Dead4 (w : World) (R : Nat) : Prop := ∃ t fr, w.heap[R]? = some (.cells #[.slice none 0 0, .int .i64 0, .slice none 0 0, .map none] t fr)

theorem dead4_new {w : World} {t : TypeId} (R : Nat) (hR : R = w.heap.size) : Dead4 (w.alloc (.cells #[.slice none 0 0, .int .i64 0, .slice none 0 0, .map none] t)) R := by
  subst hR
  exact ⟨t, _, (heap_alloc_new w _)⟩

theorem Dead4.below {w w' : World} {R : Nat} (h : Dead4 w R) (hb : Below w.heap.size w w') : Dead4 w' R := by
  obtain ⟨t, fr, h1⟩ := h
  exact ⟨t, fr, (hb.block R (Array.getElem?_eq_some_iff.1 h1).1).trans h1⟩

def lain4 (w : World) (R : Nat) (s x y : Value) : World := (((w.setCell ⟨R, 0, none⟩ s).setCell ⟨R, 1, none⟩ (.int .i64 0)).setCell ⟨R, 2, none⟩ x).setCell ⟨R, 3, none⟩ y

theorem lain4_block {w : World} {R b : Nat} {s x y : Value} (h : b ≠ R) : (lain4 w R s x y).heap[b]? = w.heap[b]? :=
  (Below.heap_setCell _ _ _ b h).trans ((Below.heap_setCell _ _ _ b h).trans ((Below.heap_setCell _ _ _ b h).trans (Below.heap_setCell _ _ _ b h)))

theorem dead4_cell {w : World} {R : Nat} (h : Dead4 w R) (o : Nat) : w.cell? ⟨R, o, none⟩ = (#[.slice none 0 0, .int .i64 0, .slice none 0 0, .map none] : Array Value)[o]? := by
  obtain ⟨t, fr, h1⟩ := h
  exact cell_of_row w R o _ t fr h1

theorem dead4_int {w : World} {R b o : Nat} {v : Int} (h : Dead4 w R) (hc : w.cell? ⟨b, o, none⟩ = some (.int .i64 v)) (s x y : Value) : (lain4 w R s x y).cell? ⟨b, o, none⟩ = some (.int .i64 v) := by
  by_cases e : b = R
  · subst e
    have h0 := dead4_cell h o
    rw [hc] at h0
    match o, h0 with
    | 0, h0 => simp at h0
    | 1, h0 =>
      have h9 : v = 0 := by simpa using h0
      subst h9
      have hc1 : (w.setCell ⟨b, 0, none⟩ s).cell? ⟨b, 1, none⟩ = some (.int .i64 0) := by rw [World.cell?_setCell_other _ _ _ _ (by simp)]; exact hc
      have hc' : ((w.setCell ⟨b, 0, none⟩ s).setCell ⟨b, 1, none⟩ (.int .i64 0)).cell? ⟨b, 1, none⟩ = some (.int .i64 0) := by rw [World.cell?_setCell_same' _ _ _ (by rw [hc1]; rfl)]
      unfold lain4
      rw [World.cell?_setCell_other _ _ _ _ (by simp), World.cell?_setCell_other _ _ _ _ (by simp)]
      exact hc'
    | 2, h0 => simp at h0
    | 3, h0 => simp at h0
    | o + 4, h0 => simp at h0
  · exact (World.cell?_of_block (w := w) (a := ⟨b, o, none⟩) (lain4_block e)).trans hc

theorem dead4_src {w : World} {R : Nat} {a : Option Addr} {n : Nat} {f : Nat → Int} (h : Dead4 w R) (hs : Src w a n f) (s x y : Value) : Src (lain4 w R s x y) a n f := by
  rcases hs with h0 | ⟨b, o, e, hb, hc⟩
  · exact .inl h0
  · exact .inr ⟨b, o, e, by simpa [lain4] using hb, fun i hi => dead4_int h (hc i hi) s x y⟩

theorem dead4_gv {w : World} {R : Nat} {a : Option Addr} {N : Nat} {T : Nat → GM} (h : Dead4 w R) (hg : GV w a N T) (s x y : Value) : GV (lain4 w R s x y) a N T := by
  rcases hg with h0 | ⟨b, q, e, g⟩
  · exact .inl h0
  · rcases Nat.eq_zero_or_pos N with h0 | hp
    · exact .inl h0
    have hne : b ≠ R := fun e => by
      subst e
      have h0 := (g.six 0 hp).1
      have h1 := (g.six 0 hp).2.1
      rw [dead4_cell h] at h0 h1
      match q, h0, h1 with
      | 0, h0, h1 => simp at h0
      | 1, h0, h1 => simp at h1
      | 2, h0, h1 => simp at h0
      | 3, h0, h1 => simp at h0
      | q + 4, h0, h1 => simp at h0
    exact .inr ⟨b, q, e, by have := g.lt; simpa [lain4] using this, fun i hi => (g.six i hi).block (lain4_block hne), fun i hi => dead4_src h (g.flds i hi) s x y⟩

theorem dead4_map {w : World} {R mb n : Nat} {O : List Int} {v : Nat → Int} (h : Dead4 w R) (hm : MapT w mb n O v) (s x y : Value) : MapT (lain4 w R s x y) mb n O v := by
  refine hm.block (lain4_block fun e => ?_)
  subst e
  obtain ⟨t, fr, h1⟩ := h
  obtain ⟨D, ⟨es, clock, h2, _⟩, _⟩ := hm
  rw [h1] at h2; cases h2

set_option maxRecDepth 100000 in
set_option maxHeartbeats 1600000 in
theorem tableOf_any (oa : Option Addr) (kc : Nat) (T : Nat → GM) (f : Nat → Int) (L : List Ob) (a : Option Addr) (n c : Nat) (S : Nat → SL) (w : World) (hsh : Shaped w oa T f L) (hp : PV w a n S) (hn : n ≤ 8) (hs : ∀ j, j < n → (S j).nd = 0 ∨ (1 ≤ (S j).nd ∧ (S j).nd ≤ 1000001)) (hin : ∀ p ∈ rootsS S n, p ∈ placesO L) :
    Calls Try.prog 83 #[.slice oa L.length kc, .slice a n c] w (RetTab w f L a n c (reachO f L (rootsS S n))) := by
  have HSH := Lib.hid hsh; have P := Lib.hid hp; have HS := Lib.hid hs; have HIN := Lib.hid hin
  have HB0 : Hid (Below w.heap.size w (w.alloc (.cells #[.slice none 0 0, .int .i64 0, .slice none 0 0, .map none] 138))) := (Below.refl _ _).alloc (Nat.le_refl _) _
  have DE_0 := Lib.hid (dead4_new (w := w) (t := 138) w.heap.size rfl)
  have R_0 := Lib.hid (Blk.new_at (w := w) (cs := #[.slice none 0 0, .int .i64 0, .slice none 0 0, .map none]) (t := 138) w.heap.size rfl)
  clear hsh hp hs hin
  go_enter Try.func83, Try.ntmps83
  go_wp2_with fail
  generalize w.alloc (.cells #[.slice none 0 0, .int .i64 0, .slice none 0 0, .map none] 138) = w0 at *
  refine (rootsOf_any a n c S _ (P.out.below HB0.out) hn HS.out).mono ?_
  rintro e w1 ⟨ra, rc, rfl, ho, hb, _, _, _⟩
  have HB1 := Lib.hid (thru0 HB0.out hb); have HR := Lib.hid ho.src; have DE_1 := Lib.hid (DE_0.out.below hb); have R_1 := Lib.hid (R_0.out.below hb)
  have hrl : (rootsS S n).length ≤ 8 := Nat.le_trans (rootsS_len _ _) hn
  clear ho hb HB0 DE_0 R_0
  go_wp2_with fail
  refine (reachOf_any oa kc T f L ra (rootsS S n) rc _ (HSH.out.below HB1.out) HR.out (by omega)).mono ?_
  rintro e w3 ⟨hb, hr⟩
  have HB3 := Lib.hid (thru0 HB1.out hb); have DE3 := Lib.hid (DE_1.out.below hb); have R_3 := Lib.hid (R_1.out.below hb)
  clear hb HB1 DE_1 R_1
  rcases hr with ⟨hbad, rfl⟩ | ⟨hall, a3, c3, mb, U, rfl, hgv, hmp, hsm⟩
  · obtain ⟨p, h1, h2⟩ := hbad
    exact absurd (HIN.out p h1) h2
  · have HGV := Lib.hid hgv; have HMP := Lib.hid hmp; have HSM := Lib.hid hsm
    have lR := R_3.out.1; have cR0 := R_3.out.at 0 rfl; have fR0 := R_3.out.free 0 rfl; have cR1 := R_3.out.at 1 rfl; have fR1 := R_3.out.free 1 rfl; have cR2 := R_3.out.at 2 rfl; have fR2 := R_3.out.free 2 rfl; have cR3 := R_3.out.at 3 rfl; have fR3 := R_3.out.free 3 rfl
    clear hall hgv hmp hsm
    go_wp2
    refine bodyPost_ret (v := .agg #[.slice a n c, .int .i64 0, .slice a3 (reachO f L (rootsS S n)).length c3, .map (some mb)]) (by simp [results, Try.results83, go_sem, cR0, cR1, cR2, cR3]) rfl ⟨?_, a3, c3, mb, U, rfl, dead4_gv DE3.out HGV.out _ _ _, dead4_map DE3.out HMP.out _ _ _, HSM.out⟩
    repeat (first | (with_reducible refine Below.setCell ?_ (by (try simp); (try omega)) _) | (with_reducible refine Below.alloc ?_ (by (try simp); (try omega)) _) | (with_reducible refine Below.drew ?_))
    exact HB3.out
end Go.Proofs.Ytpmhbdiddcnhfaa

namespace Go.Proofs.Ytpmhbdiddcnhfaa
open Go.RowKit
set_option linter.unusedVariables false

set_option maxRecDepth 100000 in
set_option maxHeartbeats 3200000 in
theorem slotFault_any (s : SL) (own : Int) (oa : Option Addr) (kc : Nat) (T : Nat → GM) (f : Nat → Int) (L : List Ob) (k : Int) (w : World) (hsh : Shaped w oa T f L) (hr : -9223372036854775808 ≤ s.nd ∧ s.nd ≤ 9223372036854775807) (hk : slF L own s = k) :
    Calls Try.prog 139 #[.agg #[.int .i64 s.g, .int .i64 s.nd], .int .i64 own, .slice oa L.length kc] w (RetInt w k) := by
  have HSH := Lib.hid hsh
  have A_0 := Lib.hid (Blk.new_at (w := w) (cs := #[.int .i64 s.g, .int .i64 s.nd]) (t := 216) w.heap.size rfl)
  have HB0 : Hid (Below w.heap.size w (w.alloc (.cells #[.int .i64 s.g, .int .i64 s.nd] 216))) := (Below.refl _ _).alloc (Nat.le_refl _) _
  have HL4 := Lib.hid hsh.len
  clear hsh
  by_cases hg : 0 ≤ s.g ∧ s.g ≤ 99
  · have HG := Lib.hid hg
    by_cases hz : s.nd = 0
    · have e : k = 0 := by rw [← hk]; unfold slF; rw [if_neg (fun h => h hg), if_pos hz]
      subst e
      have hq : (s.nd == 0) = true := by simp [hz]
      clear hk hz hg
      go_enter Try.func139, Try.ntmps139
      go_wp2_with fail
      with_reducible refine (isOut1 _ _ _ _ _ false (by simp) (.inl ⟨rfl, HG.out⟩)).mono ?_
      rintro e w1 ⟨rfl, hb⟩
      have HB1 := Lib.hid (thru1 HB0.out hb); have A_1 := Lib.hid ((A_0.out.alloc _).below hb)
      clear hb A_0 HB0
      have c0 := A_1.out.at 0 rfl; have c1 := A_1.out.at 1 rfl; have lA := A_1.out.1
      go_wp2
      go_ret
      exact ⟨rfl, HB1.out⟩
    · have hq : (s.nd == 0) = false := by simp [hz]
      by_cases hpos : 0 < s.nd
      · obtain ⟨hr1, hr2⟩ := hr
        have HK : Hid ((findO L (s.nd - 1) = none ∧ k = 4) ∨ ∃ x, findO L (s.nd - 1) = some x ∧ ((¬ x.o = own ∧ k = 6) ∨ (x.o = own ∧ s.g = 0 ∧ k = 8) ∨ (x.o = own ∧ ¬ s.g = 0 ∧ k = 0))) := Lib.hid (by
          unfold slF at hk
          rw [if_neg (fun h => h hg), if_neg hz] at hk
          cases hf : findO L (s.nd - 1) with
          | none => rw [hf] at hk; exact .inl ⟨rfl, hk.symm⟩
          | some x =>
            rw [hf] at hk
            simp only at hk
            refine .inr ⟨x, rfl, ?_⟩
            by_cases h1 : x.o = own
            · rw [if_neg (fun h => h h1)] at hk
              by_cases h2 : s.g = 0
              · rw [if_pos h2] at hk; exact .inr (.inl ⟨h1, h2, hk.symm⟩)
              · rw [if_neg h2] at hk; exact .inr (.inr ⟨h1, h2, hk.symm⟩)
            · rw [if_pos h1] at hk; exact .inl ⟨h1, hk.symm⟩)
        clear hk hz hg
        go_enter Try.func139, Try.ntmps139
        go_wp2_with fail
        with_reducible refine (isOut1 _ _ _ _ _ false (by simp) (.inl ⟨rfl, HG.out⟩)).mono ?_
        rintro e w1 ⟨rfl, hb⟩
        have HB1 := Lib.hid (thru1 HB0.out hb); have A_1 := Lib.hid ((A_0.out.alloc _).below hb)
        have z0 : w.heap.size < (w.alloc (.cells #[.int .i64 s.g, .int .i64 s.nd] 216)).heap.size := by simp
        have z1 : w.heap.size < w1.heap.size := by have := A_1.out.1; omega
        clear hb A_0 HB0 z0
        have c0 := A_1.out.at 0 rfl; have c1 := A_1.out.at 1 rfl; have lA := A_1.out.1
        have F_2 := Lib.hid (Blk.new_at (w := w1) (cs := #[.int .i64 4, .int .i64 0, .int .i64 0, .int .i64 0, .int .i64 0, .int .i64 0, .slice none 0 0]) (t := 261) w1.heap.size rfl)
        have HB2 := Lib.hid (HB1.out.alloc HB1.out.size (.cells #[.int .i64 4, .int .i64 0, .int .i64 0, .int .i64 0, .int .i64 0, .int .i64 0, .slice none 0 0] 261))
        have A_2 := Lib.hid (A_1.out.alloc (.cells #[.int .i64 4, .int .i64 0, .int .i64 0, .int .i64 0, .int .i64 0, .int .i64 0, .slice none 0 0] 261))
        go_wp2_with fail
        generalize hw2 : w1.alloc (.cells #[.int .i64 4, .int .i64 0, .int .i64 0, .int .i64 0, .int .i64 0, .int .i64 0, .slice none 0 0] 261) = w2 at *
        clear hw2
        refine (place_pos s.nd _ (by omega) hr2).mono ?_
        rintro e w3 ⟨rfl, hb⟩
        have HB3 := Lib.hid (thru0 HB2.out hb); have A_3 := Lib.hid (A_2.out.below hb); have F_3 := Lib.hid (F_2.out.below hb)
        clear hb A_2 F_2 HB2 c0 c1 lA A_1 HB1
        go_wp2_with fail
        refine (find_any oa L.length kc T (s.nd - 1) _ (HSH.out.below HB3.out).gv (by have := HL4.out; omega) HSH.out.sort).mono ?_
        rintro e w4 ⟨hb, hf⟩
        have HB4 := Lib.hid (thru0 HB3.out hb); have A_4 := Lib.hid (A_3.out.below hb); have F_4 := Lib.hid (F_3.out.below hb)
        clear hb A_3 F_3 HB3
        have c0 := A_4.out.at 0 rfl; have c1 := A_4.out.at 1 rfl; have lA := A_4.out.1
        have f0 := F_4.out.at 0 rfl; have f1 := F_4.out.at 1 rfl; have f2 := F_4.out.at 2 rfl; have f3 := F_4.out.at 3 rfl; have f4 := F_4.out.at 4 rfl; have f5 := F_4.out.at 5 rfl; have f6 := F_4.out.at 6 rfl; have lF := F_4.out.1
        have e0 := F_4.out.free 0 rfl; have e1 := F_4.out.free 1 rfl; have e2 := F_4.out.free 2 rfl; have e3 := F_4.out.free 3 rfl; have e4 := F_4.out.free 4 rfl; have e5 := F_4.out.free 5 rfl; have e6 := F_4.out.free 6 rfl
        have hAF : ¬ w.heap.size = w1.heap.size := by omega
        have HBF : ∀ v0 v1 v2 v3 v4 v5 v6, Hid (Below w.heap.size w (((((((w4.setCell ⟨w1.heap.size, 0, none⟩ v0).setCell ⟨w1.heap.size, 1, none⟩ v1).setCell ⟨w1.heap.size, 2, none⟩ v2).setCell ⟨w1.heap.size, 3, none⟩ v3).setCell ⟨w1.heap.size, 4, none⟩ v4).setCell ⟨w1.heap.size, 5, none⟩ v5).setCell ⟨w1.heap.size, 6, none⟩ v6)) := fun v0 v1 v2 v3 v4 v5 v6 => Lib.hid (by
          repeat (with_reducible refine Below.setCell ?_ (by simp; omega) _)
          exact HB4.out)
        rcases hf with ⟨i, hi, hat, rfl⟩ | ⟨hno, rfl⟩
        · obtain ⟨h1, h2, _⟩ := HSH.out.obj hi
          rw [hat] at h1
          have ho : (T i).o = L[i].o := h2.2.2.2.1
          have HC : Hid ((¬ (T i).o = own ∧ k = 6) ∨ ((T i).o = own ∧ s.g = 0 ∧ k = 8) ∨ ((T i).o = own ∧ ¬ s.g = 0 ∧ k = 0)) := Lib.hid (by
            rcases HK.out with ⟨h3, _⟩ | ⟨x, h3, h4⟩
            · rw [h1] at h3; cases h3
            · rw [h1] at h3
              simp only [Option.some.injEq] at h3
              subst h3
              rw [ho]; exact h4)
          clear HK h1 h2 ho hat
          generalize T i = t at *
          rcases HC.out with ⟨h1, rfl⟩ | ⟨h1, h2, rfl⟩ | ⟨h1, h2, rfl⟩
          · have hq2 : (t.o != own) = true := by simp [h1]
            clear HC h1
            go_wp2
            go_ret
            exact ⟨rfl, (HBF _ _ _ _ _ _ _).out⟩
          · have hq2 : (t.o != own) = false := by simp [h1]
            have hq3 : (s.g == 0) = true := by simp [h2]
            clear HC h1 h2
            go_wp2
            go_ret
            exact ⟨rfl, (HBF _ _ _ _ _ _ _).out⟩
          · have hq2 : (t.o != own) = false := by simp [h1]
            have hq3 : (s.g == 0) = false := by simp [h2]
            clear HC h1 h2
            go_wp2
            go_ret
            exact ⟨rfl, (HBF _ _ _ _ _ _ _).out⟩
        · have hn : findO L (s.nd - 1) = none := by
            cases hf : findO L (s.nd - 1) with
            | none => rfl
            | some x => exact absurd (mem_placesO.2 ⟨x, hf⟩) (HSH.out.nope hno)
          have e : k = 4 := by
            rcases HK.out with ⟨_, h3⟩ | ⟨x, h3, _⟩
            · exact h3
            · rw [hn] at h3; cases h3
          subst e
          clear HK hno hn
          go_wp2
          go_ret
          exact ⟨rfl, (HBF _ _ _ _ _ _ _).out⟩
      · have e : k = 4 := by
          rw [← hk]; unfold slF
          rw [if_neg (fun h => h hg), if_neg hz, findO_far HSH.out.place (by omega)]
        subst e
        clear hk hz hg
        go_enter Try.func139, Try.ntmps139
        go_wp2_with fail
        with_reducible refine (isOut1 _ _ _ _ _ false (by simp) (.inl ⟨rfl, HG.out⟩)).mono ?_
        rintro e w1 ⟨rfl, hb⟩
        have HB1 := Lib.hid (thru1 HB0.out hb); have A_1 := Lib.hid ((A_0.out.alloc _).below hb)
        have z1 := HB1.out.size
        clear hb A_0 HB0
        have c0 := A_1.out.at 0 rfl; have c1 := A_1.out.at 1 rfl; have lA := A_1.out.1
        go_wp2
        go_ret
        exact ⟨rfl, HB1.out.alloc z1 _⟩
  · have e : k = 3 := by rw [← hk]; unfold slF; rw [if_pos hg]
    subst e
    have HG := Lib.hid hg
    clear hk hg
    go_enter Try.func139, Try.ntmps139
    go_wp2_with fail
    with_reducible refine (isOut1 _ _ _ _ _ true (by simp) (.inr ⟨rfl, HG.out⟩)).mono ?_
    rintro e w1 ⟨rfl, hb⟩
    have HB1 := Lib.hid (thru1 HB0.out hb)
    clear hb
    go_wp2
    go_ret
    exact ⟨rfl, HB1.out⟩
end Go.Proofs.Ytpmhbdiddcnhfaa

namespace Go.Proofs.Ytpmhbdiddcnhfaa
open Go.RowKit
set_option linter.unusedVariables false

set_option maxRecDepth 100000 in
set_option maxHeartbeats 3200000 in
theorem tenantFault_any (t : TN) (own : Int) (oa : Option Addr) (kc : Nat) (T : Nat → GM) (f : Nat → Int) (L : List Ob) (k : Int) (w : World) (hsh : Shaped w oa T f L) (hp : PV w t.a t.n t.S) (hn : t.n ≤ maxLen) (hr : ∀ j, j < t.n → -9223372036854775808 ≤ (t.S j).nd ∧ (t.S j).nd ≤ 9223372036854775807) (hk : tnF L own t = k) :
    Calls Try.prog 82 #[.agg #[.int .i64 t.q, .int .i64 t.h, .slice t.a t.n t.c], .int .i64 own, .slice oa L.length kc] w (RetInt w k) := by
  have HSH := Lib.hid hsh; have P := Lib.hid hp; have HR := Lib.hid hr
  have A_0 := Lib.hid (Blk.new_at (w := w) (cs := #[.int .i64 t.q, .int .i64 t.h, .slice t.a t.n t.c]) (t := 124) w.heap.size rfl)
  have HB0 : Hid (Below w.heap.size w (w.alloc (.cells #[.int .i64 t.q, .int .i64 t.h, .slice t.a t.n t.c] 124))) := (Below.refl _ _).alloc (Nat.le_refl _) _
  unfold maxLen at hn
  clear hsh hp hr
  by_cases hqh : (2 ≤ t.q ∧ t.q ≤ 200) ∧ (0 ≤ t.h ∧ t.h ≤ 99999)
  · have HQ := Lib.hid hqh
    by_cases hs : 1 ≤ t.n ∧ t.n ≤ 8
    · have hs' : 1 ≤ (t.n : Int) ∧ (t.n : Int) ≤ 8 := by omega
      have HS' := Lib.hid hs'
      have HK : Hid (slsF L own t.S t.n = k) := Lib.hid (by
        unfold tnF at hk
        rw [if_neg (fun h => h hqh), if_neg (fun h => h hs)] at hk
        exact hk)
      clear hk hqh hs hs'
      go_enter Try.func82, Try.ntmps82
      go_wp2_with fail
      with_reducible refine (isOut2 _ _ _ _ _ _ _ _ false (by simp) (.inl ⟨rfl, HQ.out⟩)).mono ?_
      rintro e w1 ⟨rfl, hb⟩
      have HB1 := Lib.hid (thru1 HB0.out hb); have A_1 := Lib.hid ((A_0.out.alloc _).below hb)
      clear hb A_0 HB0
      have c0 := A_1.out.at 0 rfl; have c1 := A_1.out.at 1 rfl; have c2 := A_1.out.at 2 rfl; have lA := A_1.out.1
      go_wp2_with fail
      with_reducible refine (isOut1 _ _ _ _ _ false (by simp) (.inl ⟨rfl, HS'.out⟩)).mono ?_
      rintro e w2 ⟨rfl, hb⟩
      have HB2 := Lib.hid (thru1 HB1.out hb); have A_2 := Lib.hid ((A_1.out.alloc _).below hb)
      clear hb A_1 HB1 c0 c1 c2 lA
      have c2 := A_2.out.at 2 rfl; have lA := A_2.out.1
      go_wp2
      clear c2 lA
      go_loopw [27] (fun p wr => ∃ i : Nat, i ≤ t.n ∧ p = .int .i64 (i : Int) ∧ Hid (slsF L own t.S i = 0) ∧ Hid (Below w.heap.size w wr)) (fun p _ => t.n - (intOf p).toNat)
      case atStart => exact ⟨0, Nat.zero_le _, rfl, Lib.hid rfl, HB2⟩
      case round =>
        obtain ⟨i, hi, rfl, H0, HB_r⟩ := hrel
        have hzr := HB_r.out.size
        by_cases hlt : i < t.n
        · have hlt' : (i : Int) < (t.n : Int) := by omega
          have hi0 : (0 : Int) ≤ (i : Int) := by omega
          obtain ⟨pb, pq, hta, lp, s0, s1⟩ := pv_get (P.out.below HB_r.out) hlt
          rw [hta]
          have HST := Lib.hid (fun h1 => slsF_stop (L := L) (own := own) (S := t.S) hlt H0.out h1)
          have HNX := Lib.hid (fun h1 => slsF_next (L := L) (own := own) (S := t.S) (i := i) H0.out h1)
          have HRG := Lib.hid (HR.out i hlt)
          obtain ⟨c9, hc9⟩ : ∃ c9, slF L own (t.S i) = c9 := ⟨_, rfl⟩
          have HC := Lib.hid hc9
          have HAL : Hid (Below w.heap.size w (wr.alloc (.cells #[.int .i64 (t.S i).g, .int .i64 (t.S i).nd] 216))) := Lib.hid (HB_r.out.alloc hzr _)
          clear hc9 hta
          generalize t.S i = s at *
          go_wp2_with fail
          refine (slotFault_any s own oa kc T f L c9 _ (HSH.out.below HAL.out) HRG.out HC.out).mono ?_
          rintro e w3 ⟨rfl, hb⟩
          have HB3 := Lib.hid (thru0 HAL.out hb)
          clear hb s0 s1
          by_cases h0 : c9 = 0
          · have HK2 := Lib.hid (HNX.out (HC.out.trans h0))
            subst h0
            clear HST HNX HC
            go_wp2
            go_roundw
            case rel => first | exact ⟨i + 1, by omega, by go_num, HK2, HB3⟩ | ((repeat apply Exists.intro); exact ⟨⟨i + 1, by omega, by go_num, HK2, HB3⟩, rfl⟩)
            case measure => simp [intOf]; omega
          · have hq9 : (c9 != 0) = true := by simp [h0]
            have HKE : Hid (k = c9) := Lib.hid (by rw [← HK.out, HST.out (by rw [HC.out]; exact h0), HC.out])
            clear HST HNX HC h0
            go_wp2
            go_ret
            exact ⟨by rw [HKE.out]; rfl, HB3.out⟩
        · have hlt' : ¬ (i : Int) < (t.n : Int) := by omega
          obtain rfl : i = t.n := by omega
          have HKE : Hid (k = 0) := Lib.hid (by rw [← HK.out, H0.out])
          go_wp2
          go_ret
          exact ⟨by rw [HKE.out]; rfl, HB_r.out⟩
    · have e : k = 2 := by rw [← hk]; unfold tnF; rw [if_neg (fun h => h hqh), if_pos hs]
      subst e
      have hs' : ¬ (1 ≤ (t.n : Int) ∧ (t.n : Int) ≤ 8) := by omega
      have HS' := Lib.hid hs'
      clear hk hqh hs hs'
      go_enter Try.func82, Try.ntmps82
      go_wp2_with fail
      with_reducible refine (isOut2 _ _ _ _ _ _ _ _ false (by simp) (.inl ⟨rfl, HQ.out⟩)).mono ?_
      rintro e w1 ⟨rfl, hb⟩
      have HB1 := Lib.hid (thru1 HB0.out hb); have A_1 := Lib.hid ((A_0.out.alloc _).below hb)
      clear hb A_0 HB0
      have c0 := A_1.out.at 0 rfl; have c1 := A_1.out.at 1 rfl; have c2 := A_1.out.at 2 rfl; have lA := A_1.out.1
      go_wp2_with fail
      with_reducible refine (isOut1 _ _ _ _ _ true (by simp) (.inr ⟨rfl, HS'.out⟩)).mono ?_
      rintro e w2 ⟨rfl, hb⟩
      have HB2 := Lib.hid (thru1 HB1.out hb)
      clear hb
      go_wp2
      go_ret
      exact ⟨rfl, HB2.out⟩
  · have e : k = 3 := by rw [← hk]; unfold tnF; rw [if_pos hqh]
    subst e
    have HQ := Lib.hid hqh
    clear hk hqh
    go_enter Try.func82, Try.ntmps82
    go_wp2_with fail
    with_reducible refine (isOut2 _ _ _ _ _ _ _ _ true (by simp) (.inr ⟨rfl, HQ.out⟩)).mono ?_
    rintro e w1 ⟨rfl, hb⟩
    have HB1 := Lib.hid (thru1 HB0.out hb)
    clear hb
    go_wp2
    go_ret
    exact ⟨rfl, HB1.out⟩

set_option maxRecDepth 100000 in
set_option maxHeartbeats 1600000 in
theorem quotasOf_any (a : Option Addr) (N c : Nat) (T : Nat → TN) (w : World) (ht : TV w a N T) (hN : N ≤ 1000) :
    Calls Try.prog 86 #[.slice a N c] w (RetInts w N (fun i => (T i).q)) := by
  obtain ⟨i0, hif, hz0, hz1, hz2⟩ := info_parts Try.info2
  have G := Lib.hid ht
  clear ht
  go_enter Try.func86, Try.ntmps86
  go_wp2
  go_loopw [3, 8] (fun u p wr => ∃ i : Nat, i ≤ N ∧ p = .int .i64 (i : Int) ∧ Hid (Below w.heap.size w wr) ∧ Hid (wr.ownsRow w.heap.size 2 1 u i (nums i (fun i => (T i).q)))) (fun _ p _ => N - (intOf p).toNat)
  case atStart => exact ⟨0, Nat.zero_le _, rfl, Below.refl _ _, World.ownsRow_nil _ _ _ _⟩
  case round =>
    obtain ⟨i, hi, rfl, HB_r, OW_r⟩ := hrel
    have hzr := HB_r.out.size
    by_cases hlt : i < N
    · have hlt' : (i : Int) < (N : Int) := by omega
      have hi0 : (0 : Int) ≤ (i : Int) := by omega
      obtain ⟨b, q, rfl, lb, ⟨s0, s1, s2⟩, -⟩ := tv_get (G.out.below HB_r.out) hlt
      have HAL : Hid (Below w.heap.size w (wr.alloc (.cells #[.int .i64 (T i).q, .int .i64 (T i).h, .slice (T i).a (T i).n (T i).c] 124))) := Lib.hid (HB_r.out.alloc hzr _)
      have OWA := Lib.hid (OW_r.out.alloc (.cells #[.int .i64 (T i).q, .int .i64 (T i).h, .slice (T i).a (T i).n (T i).c] 124))
      have HGE : Hid (∀ k, u3.ownBlock = some k → w.heap.size ≤ k) := Lib.hid (fun k hk => (OW_r.out.lt k hk).1)
      go_wp2_with (at_builtin; go_loud (refine wpList_append_lies _ rfl _ _ 54 rfl w.heap.size 2 i0 (.int .i64 0) 1 8 Try.underlying54 hif hz0 hz1 hz2 rfl (by decide) u3 i (nums i (fun i => (T i).q)) rfl (OWA.out.alloc _) ⟨wr.heap.size + 1, 0, none⟩ 1 1 [.int .i64 (T i).q] rfl rfl (news1b (wr.alloc (.cells #[.int .i64 (T i).q, .int .i64 (T i).h, .slice (T i).a (T i).n (T i).c] 124)) (T i).q (wr.heap.size + 1) (by simp)) (by intro u hu; simp only [List.mem_cons, List.mem_nil_iff, or_false] at hu; subst hu; rfl) (by omega) (by unfold maxLen; omega) (by omega) (by simp; omega) (wr.heap.size + 1 + 1) (by simp) ?_); intro g9 cap9 w9 hown9 hgrow9 hat9 hlt9)
      have HB9 : Hid (Below w.heap.size w w9) := (HAL.out.alloc (by simp; omega) _).grown hgrow9 (by simp; omega) (fun k hk => HGE.out k hk)
      have OW9 : Hid (w9.ownsRow w.heap.size 2 1 (.slice (some ⟨g9, 0, none⟩) (i + 1) cap9) (i + 1) (nums (i + 1) (fun i => (T i).q))) := Lib.hid (by rw [nums_succ]; exact hown9)
      clear hown9 hgrow9 hat9 s0 s1 s2
      go_wp2
      go_roundw
      case rel => first | exact ⟨i + 1, by omega, by go_num, HB9, OW9⟩ | ((repeat apply Exists.intro); exact ⟨⟨i + 1, by omega, by go_num, HB9, OW9⟩, rfl⟩)
      case measure => simp [intOf]; omega
    · have hlt' : ¬ (i : Int) < (N : Int) := by omega
      obtain rfl : i = N := by omega
      have HRet := Lib.hid (retInts_of_row OW_r.out HB_r.out)
      go_wp2
      go_ret
      exact HRet.out
end Go.Proofs.Ytpmhbdiddcnhfaa

namespace Go.Proofs.Ytpmhbdiddcnhfaa
open Go.RowKit
set_option linter.unusedVariables false

theorem fld_tab (x0 x1 x2 x3 : Value) (w : World) : (Instr.field 138 (.agg #[x0, x1, x2, x3]) 1).run Try.prog w = .ok (.agg #[x1, x2, x3]) w := by kernel_rfl

theorem hpF_cases2 (f : Nat → Int) (L : List Ob) (h : Int) (N : Nat) (T : Nat → TN) {k : Int} (hk : k = hpF f L h N T) :
    (¬ (1 ≤ N ∧ N ≤ 4) ∧ k = 2) ∨ ((1 ≤ N ∧ N ≤ 4) ∧ ((¬ tnsF L T N = 0 ∧ k = tnsF L T N) ∨ (tnsF L T N = 0 ∧ ((¬ quF f L T N = 0 ∧ k = quF f L T N) ∨ (quF f L T N = 0 ∧ ((h < sumF (fun i => (T i).q) N ∧ k = 7) ∨ (sumF (fun i => (T i).q) N ≤ h ∧ k = 0))))))) := by
  rcases hpF_cases f L h N T hk with h1 | ⟨h1, h2 | ⟨h2, h3 | ⟨h3, h4 | ⟨h4, h5⟩⟩⟩⟩
  · exact .inl h1
  · exact .inr ⟨h1, .inl h2⟩
  · exact .inr ⟨h1, .inr ⟨h2, .inl h3⟩⟩
  · exact .inr ⟨h1, .inr ⟨h2, .inr ⟨h3, .inl h4⟩⟩⟩
  · exact .inr ⟨h1, .inr ⟨h2, .inr ⟨h3, .inr ⟨by omega, h5⟩⟩⟩⟩

theorem capI {w : World} {F D : Nat} {x0 x1 y0 y1 y2 : Value} (hF : Blk w F [x0, x1]) (hD : Blk w D [y0, y1, y2]) : w.cell? ⟨F, 1, none⟩ = some x1 ∧ w.cell? ⟨D, 2, none⟩ = some y2 ∧ w.cell? ⟨D, 0, none⟩ = some y0 := ⟨hF.at 1 rfl, hD.at 2 rfl, hD.at 0 rfl⟩

theorem capJ {w : World} {B : Nat} {x0 x1 x2 x3 x4 : Value} (hB : Blk w B [x0, x1, x2, x3, x4]) : w.cell? ⟨B, 4, none⟩ = some x4 ∧ w.cell? ⟨B, 0, none⟩ = some x0 := ⟨hB.at 4 rfl, hB.at 0 rfl⟩

set_option maxRecDepth 100000 in
set_option maxHeartbeats 6400000 in
theorem implHpF_any (h ac bu : Int) (a : Option Addr) (n c : Nat) (f : Nat → Int) (ta : Option Addr) (N tc : Nat) (T : Nat → TN) (k : Int) (w : World) (hs : Src w a n f) (hcn : n ≤ c) (hcm : c ≤ maxLen) (ht : TV w ta N T) (hN : N ≤ maxLen) (hn : ∀ i, i < N → (T i).n ≤ maxLen)
    (hr : ∀ i, i < N → ∀ j, j < (T i).n → -9223372036854775808 ≤ ((T i).S j).nd ∧ ((T i).S j).nd ≤ 9223372036854775807) (hk : IsHpF h n f ac bu N T k) :
    Calls Try.prog 38 #[.agg #[.int .i64 h, .slice a n c, .int .i64 ac, .int .i64 bu, .slice ta N tc]] w (RetInt w k) := by
  have S0 := Lib.hid hs; have T0 := Lib.hid ht; have HN := Lib.hid hn; have HR := Lib.hid hr; have HCM := Lib.hid hcm
  have B_0 := Lib.hid (Blk.new_at (w := w) (cs := #[.int .i64 h, .slice a n c, .int .i64 ac, .int .i64 bu, .slice ta N tc]) (t := 65) w.heap.size rfl)
  have HB0 : Hid (Below w.heap.size w (w.alloc (.cells #[.int .i64 h, .slice a n c, .int .i64 ac, .int .i64 bu, .slice ta N tc] 65))) := (Below.refl _ _).alloc (Nat.le_refl _) _
  unfold maxLen at hN
  clear hs ht hn hr hcm
  rcases hk with ⟨hk, h0⟩ | ⟨hk, L, hL, hk2⟩
  · have HK := Lib.hid hk
    have hq : (k != 0) = true := by simp [h0]
    have H0 := Lib.hid h0
    have b0 := B_0.out.at 0 rfl; have b1 := B_0.out.at 1 rfl; have b2 := B_0.out.at 2 rfl; have b3 := B_0.out.at 3 rfl; have lB := B_0.out.1
    clear hk h0
    go_enter Try.func38, Try.ntmps38
    go_wp2_with fail
    refine (shaped_any h ac bu a n c f _ (S0.out.below HB0.out) hcn HCM.out k [] (.inl ⟨HK.out, H0.out, rfl⟩)).mono ?_
    rintro e w1 ⟨a1, c1, U, rfl, hg, hT, hb, hc1, hc2⟩
    have HB1 := Lib.hid (thru0 HB0.out hb)
    have z1 := HB1.out.size
    clear hb b0 b1 b2 b3 lB hg hT hc1 hc2
    go_wp2
    go_ret
    exact ⟨rfl, HB1.out.alloc z1 _⟩
  · have HSF := Lib.hid hk; have HOI := Lib.hid hL
    have HC := Lib.hid (hpF_cases2 f L h N T hk2)
    have b0 := B_0.out.at 0 rfl; have b1 := B_0.out.at 1 rfl; have b2 := B_0.out.at 2 rfl; have b3 := B_0.out.at 3 rfl; have lB := B_0.out.1
    have zB : w.heap.size < (w.alloc (.cells #[.int .i64 h, .slice a n c, .int .i64 ac, .int .i64 bu, .slice ta N tc] 65)).heap.size := by simp
    clear hk hL hk2
    go_enter Try.func38, Try.ntmps38
    go_wp2_with fail
    generalize w.alloc (.cells #[.int .i64 h, .slice a n c, .int .i64 ac, .int .i64 bu, .slice ta N tc] 65) = w0 at *
    refine (shaped_any h ac bu a n c f _ (S0.out.below HB0.out) hcn HCM.out 0 L (.inr ⟨rfl, HSF.out, HOI.out⟩)).mono ?_
    rintro e w1 ⟨a1, c1, U, rfl, hg, hT, hb, hc1, hc2⟩
    have HB1 := Lib.hid (thru0 HB0.out hb); have B_1 := Lib.hid (B_0.out.below hb)
    have HSH := Lib.hid (shaped_of HSF.out HOI.out hg.src hT)
    have z1 := hb.size
    clear hb b0 b1 b2 b3 lB hg hT hc1 hc2 B_0 HB0
    have HB2 := Lib.hid (HB1.out.alloc HB1.out.size (.cells #[.int .i64 0, .slice a1 L.length c1] 128))
    have B_2 := Lib.hid (B_1.out.alloc (.cells #[.int .i64 0, .slice a1 L.length c1] 128))
    have F_2 := Lib.hid (Blk.new_at (w := w1) (cs := #[.int .i64 0, .slice a1 L.length c1]) (t := 128) w1.heap.size rfl)
    have SH2 := Lib.hid (HSH.out.below ((Below.refl _ _).alloc (Nat.le_refl _) (.cells #[.int .i64 0, .slice a1 L.length c1] 128)))
    have b4 := B_2.out.at 4 rfl; have lB := B_2.out.1
    have z2 : w1.heap.size < (w1.alloc (.cells #[.int .i64 0, .slice a1 L.length c1] 128)).heap.size := by simp
    have HZ2 : Hid ((w1.alloc (.cells #[.int .i64 0, .slice a1 L.length c1] 128)).heap.size = w1.heap.size + 1) := Lib.hid (by simp)
    clear HB1 B_1 HSH
    go_wp2_with fail
    generalize w1.alloc (.cells #[.int .i64 0, .slice a1 L.length c1] 128) = w2 at *
    generalize hF0 : w1.heap.size = F0 at *
    by_cases hN4 : 1 ≤ N ∧ N ≤ 4
    · have hN4' : 1 ≤ (N : Int) ∧ (N : Int) ≤ 4 := by omega
      have HN4 := Lib.hid hN4'
      have HC1 : Hid ((¬ tnsF L T N = 0 ∧ k = tnsF L T N) ∨ (tnsF L T N = 0 ∧ ((¬ quF f L T N = 0 ∧ k = quF f L T N) ∨ (quF f L T N = 0 ∧ ((h < sumF (fun i => (T i).q) N ∧ k = 7) ∨ (sumF (fun i => (T i).q) N ≤ h ∧ k = 0)))))) := Lib.hid (by
        rcases HC.out with ⟨h1, _⟩ | ⟨_, h2⟩
        · exact absurd hN4 h1
        · exact h2)
      clear HC hN4'
      with_reducible refine (isOut1 _ _ _ _ _ false (by first | rfl | exact HZ2.out.symm | simp) (.inl ⟨rfl, HN4.out⟩)).mono ?_
      rintro e w3 ⟨rfl, hb⟩
      have HB3 := Lib.hid (thru1 HB2.out hb); have B_3 := Lib.hid ((B_2.out.alloc _).below hb); have F_3 := Lib.hid ((F_2.out.alloc _).below hb)
      have SH3 := Lib.hid ((SH2.out.below ((Below.refl _ _).alloc (Nat.le_refl _) _)).below hb)
      clear hb b4 lB B_2 F_2 SH2 HB2
      have b4 := B_3.out.at 4 rfl; have lB := B_3.out.1
      go_wp2
      clear b4 lB
      go_loopw [26] (fun p wr => ∃ i : Nat, i ≤ N ∧ p = .int .i64 (i : Int) ∧ Hid (tnsF L T i = 0) ∧ Hid (Below w3.heap.size w3 wr)) (fun p _ => N - (intOf p).toNat)
      case atStart => exact ⟨0, Nat.zero_le _, rfl, Lib.hid rfl, Below.refl _ _⟩
      case round =>
        obtain ⟨i, hi, rfl, H0, HB_r⟩ := hrel
        have HBr := Lib.hid (thru0 HB3.out HB_r.out)
        have B_r := Lib.hid (B_3.out.below HB_r.out)
        have F_r := Lib.hid (F_3.out.below HB_r.out)
        have hzr := HB_r.out.size
        have hzr2 := HBr.out.size
        by_cases hlt : i < N
        · have hlt' : (i : Int) < (N : Int) := by omega
          have hi0 : (0 : Int) ≤ (i : Int) := by omega
          obtain ⟨tb, tq, rfl, lt, ⟨g0, g1, g2⟩, -⟩ := tv_get (T0.out.below HBr.out) hlt
          have HST := Lib.hid (fun h1 => tnsF_stop (L := L) (T := T) hlt H0.out h1)
          have HNX := Lib.hid (fun h1 => tnsF_next (L := L) (T := T) (i := i) H0.out h1)
          have HRI := Lib.hid (HR.out i hlt)
          have hnm := HN.out i hlt
          obtain ⟨c9, hc9⟩ : ∃ c9, tnF L (i : Int) (T i) = c9 := ⟨_, rfl⟩
          have HCC := Lib.hid hc9
          have HNM := Lib.hid hnm
          have HAL : Hid (Below w3.heap.size w3 (wr.alloc (.cells #[.int .i64 (T i).q, .int .i64 (T i).h, .slice (T i).a (T i).n (T i).c] 124))) := Lib.hid (HB_r.out.alloc hzr _)
          have HALr : Hid (Below w.heap.size w (wr.alloc (.cells #[.int .i64 (T i).q, .int .i64 (T i).h, .slice (T i).a (T i).n (T i).c] 124))) := Lib.hid (HBr.out.alloc hzr2 _)
          have HSL := Lib.hid (tv_get (T0.out.below HALr.out) hlt)
          have F_A := Lib.hid (F_r.out.alloc (.cells #[.int .i64 (T i).q, .int .i64 (T i).h, .slice (T i).a (T i).n (T i).c] 124))
          have f1 := F_A.out.at 1 rfl; have lF := F_A.out.1
          clear hc9 hnm
          generalize T i = t at *
          go_wp2_with fail
          obtain ⟨_, _, -, -, -, hsl⟩ := HSL.out
          refine (tenantFault_any t (i : Int) a1 c1 U f L c9 _ (SH3.out.below HAL.out) hsl HNM.out HRI.out HCC.out).mono ?_
          rintro e w5 ⟨rfl, hb⟩
          have HB5 := Lib.hid (thru0 HAL.out hb)
          clear hb g0 g1 g2 f1 lF hsl HSL F_A B_r F_r
          by_cases h0 : c9 = 0
          · have HK2 := Lib.hid (HNX.out (HCC.out.trans h0))
            subst h0
            clear HST HNX HCC
            go_wp2
            go_roundw
            case rel => first | exact ⟨i + 1, by omega, by go_num, HK2, HB5⟩ | ((repeat apply Exists.intro); exact ⟨⟨i + 1, by omega, by go_num, HK2, HB5⟩, rfl⟩)
            case measure => simp [intOf]; omega
          · have hq9 : (c9 != 0) = true := by simp [h0]
            have HKE : Hid (k = c9) := Lib.hid (by
              have e := HST.out (by rw [HCC.out]; exact h0)
              rw [HCC.out] at e
              rcases HC1.out with ⟨_, h2⟩ | ⟨h2, _⟩
              · rw [h2, e]
              · exact absurd (e.symm.trans h2) h0)
            have HB6 := Lib.hid (thru0 HB3.out HB5.out)
            clear HST HNX HCC h0
            go_wp2
            go_ret
            exact ⟨by rw [HKE.out]; rfl, HB6.out⟩
        · have hlt' : ¬ (i : Int) < (N : Int) := by omega
          obtain rfl : i = N := by omega
          have HOK : Hid (∀ j, j < i → TnOk L (j : Int) (T j)) := Lib.hid (fun j hj => tnF_ok (tnsF_all H0.out j hj))
          have HC2 : Hid ((¬ quF f L T i = 0 ∧ k = quF f L T i) ∨ (quF f L T i = 0 ∧ ((h < sumF (fun i => (T i).q) i ∧ k = 7) ∨ (sumF (fun i => (T i).q) i ≤ h ∧ k = 0)))) := Lib.hid (by
            rcases HC1.out with ⟨h2, _⟩ | ⟨_, h3⟩
            · exact absurd H0.out h2
            · exact h3)
          have SHr := Lib.hid (SH3.out.below HB_r.out)
          have b4 := B_r.out.at 4 rfl; have lB := B_r.out.1
          clear HC1 H0 hi HB_r hzr
          go_wp2
          clear b4 lB
          generalize wr = w4 at *
          go_loopw [43] (fun p wr => ∃ j : Nat, j ≤ i ∧ p = .int .i64 (j : Int) ∧ Hid (quF f L T j = 0) ∧ Hid (Below w4.heap.size w4 wr)) (fun p _ => i - (intOf p).toNat)
          case atStart => exact ⟨0, Nat.zero_le _, rfl, Lib.hid rfl, Below.refl _ _⟩
          case round =>
            obtain ⟨j, hj, rfl, HQ, HB_s⟩ := hrel
            have HBs := Lib.hid (thru0 HBr.out HB_s.out)
            have B_s := Lib.hid (B_r.out.below HB_s.out)
            have F_s := Lib.hid (F_r.out.below HB_s.out)
            have SHs := Lib.hid (SHr.out.below HB_s.out)
            have hzs := HB_s.out.size
            have hzs2 := HBs.out.size
            by_cases hlt : j < i
            · have hlt' : (j : Int) < (i : Int) := by omega
              have hj0 : (0 : Int) ≤ (j : Int) := by omega
              obtain ⟨tb, tq, rfl, lt, ⟨g0, g1, g2⟩, -⟩ := tv_get (T0.out.below HBs.out) hlt
              have HOKI := Lib.hid (HOK.out j hlt)
              have HST := Lib.hid (fun h1 => quF_stop (f := f) (L := L) (T := T) hlt HQ.out h1)
              have HNX := Lib.hid (fun h1 => quF_next (f := f) (L := L) (T := T) (i := j) HQ.out h1)
              have HAL : Hid (Below w4.heap.size w4 (wr.alloc (.cells #[.int .i64 (T j).q, .int .i64 (T j).h, .slice (T j).a (T j).n (T j).c] 124))) := Lib.hid (HB_s.out.alloc hzs _)
              have HALr : Hid (Below w.heap.size w (wr.alloc (.cells #[.int .i64 (T j).q, .int .i64 (T j).h, .slice (T j).a (T j).n (T j).c] 124))) := Lib.hid (HBs.out.alloc hzs2 _)
              have HSL := Lib.hid (tv_get (T0.out.below HALr.out) hlt)
              have F_A := Lib.hid (F_s.out.alloc (.cells #[.int .i64 (T j).q, .int .i64 (T j).h, .slice (T j).a (T j).n (T j).c] 124))
              have D_A := Lib.hid (Blk.new_at (w := wr) (cs := #[.int .i64 (T j).q, .int .i64 (T j).h, .slice (T j).a (T j).n (T j).c]) (t := 124) wr.heap.size rfl)
              have SHA := Lib.hid (SHs.out.below ((Below.refl _ _).alloc (Nat.le_refl _) (.cells #[.int .i64 (T j).q, .int .i64 (T j).h, .slice (T j).a (T j).n (T j).c] 124)))
              obtain ⟨y, hy⟩ : ∃ y : Int, (heldT f L (T j) : Int) = y := ⟨_, rfl⟩
              have HY := Lib.hid hy
              have hfi := fld_tab
              clear hy
              generalize T j = t at *
              go_upto_region 16 with (fail)
              clear g0 g1 g2
              generalize wr.alloc (.cells #[.int .i64 t.q, .int .i64 t.h, .slice t.a t.n t.c] 124) = w5 at *
              have HB5w : Hid (Below w5.heap.size w5 w5) := Below.refl _ _
              have HSLd : Hid (PV w5.drew t.a t.n t.S) := Lib.hid (by obtain ⟨_, _, -, -, -, hsl⟩ := HSL.out; exact hsl.drew)
              have SHd := Lib.hid (SHA.out.below (Below.refl _ _).drew)
              have F_d := Lib.hid F_A.out.drew; have D_d := Lib.hid D_A.out.drew
              have hRl : Hid ((reachO f L (rootsS t.S t.n)).length ≤ 400) := Lib.hid (by
                have h1 := reachO_length SHA.out.right.points (fun x hx => (SHA.out.right.ok x hx).1.1.1) (rootsS_in HOKI.out)
                have := SHA.out.len
                omega)
              go_wp2_with fail
              go_region_held3 (fun w' => w'.cell? ⟨F0, 1, none⟩ = some (.slice a1 L.length c1) ∧ w'.cell? ⟨wr.heap.size, 2, none⟩ = some (.slice t.a t.n t.c) ∧ w'.cell? ⟨wr.heap.size, 0, none⟩ = some (.int .i64 t.q))
                (first | (with_reducible exact capI F_A.out D_A.out) | (with_reducible exact capI F_d.out D_d.out) | (with_reducible exact capI F_6.out D_6.out) | (with_reducible exact capI F_7.out D_7.out))
                (first | (go_at_call 83; refine (tableOf_any a1 c1 U f L t.a t.n t.c t.S _ SHd.out HSLd.out HOKI.out.n.2 (tnok_nd HOKI.out SHA.out.place) (rootsS_in HOKI.out)).mono ?_; rintro e w6 ⟨hb, oa, oc, mb, V, rfl, hgv, -, hsm⟩; have HB6 := Lib.hid ((Below.refl w5.heap.size w5).drew.trans (hb.mono (by simp))); have F_6 := Lib.hid (F_d.out.below hb); have D_6 := Lib.hid (D_d.out.below hb); have HGV := Lib.hid hgv; have HSM := Lib.hid hsm; clear hb hgv hsm) | (go_at_call 84; refine (words_any 0 (.map (some mb)) oa (reachO f L (rootsS t.S t.n)) oc V L f _ HGV.out hRl.out HSM.out SHA.out.right.ok).mono ?_; rw [show ((sumW (wordsAt L) (reachO f L (rootsS t.S t.n)) : Nat) : Int) = y from HY.out]; rintro e w7 ⟨rfl, hb⟩; have HB7 := Lib.hid (thru0 HB6.out hb); have F_7 := Lib.hid (F_6.out.below hb); have D_7 := Lib.hid (D_6.out.below hb); clear hb))
              have HBF := Lib.hid (thru0 HAL.out HB7.out)
              have HBW := Lib.hid (thru0 HALr.out HB7.out)
              clear F_A D_A F_d D_d F_6 D_6 SHd SHA SHs HSLd HB5w B_s F_s HB_s HBs HAL HALr HB6 HGV HSM hfi
              by_cases hqy : t.q < y
              · have HK : Hid (k = 9) := Lib.hid (by
                  have e := HST.out (by rw [HY.out]; exact hqy)
                  rcases HC2.out with ⟨_, h1⟩ | ⟨h1, _⟩
                  · rw [h1, e]
                  · omega)
                generalize t.q = q at *
                go_wp2
                go_ret
                exact ⟨by rw [HK.out]; rfl, HBW.out⟩
              · have HQ2 := Lib.hid (HNX.out (by rw [HY.out]; omega))
                generalize t.q = q at *
                clear HQ
                go_wp2
                go_roundw
                case rel => first | exact ⟨j + 1, by omega, by go_num, HQ2, HBF⟩ | ((repeat apply Exists.intro); exact ⟨⟨j + 1, by omega, by go_num, HQ2, HBF⟩, rfl⟩)
                case measure => simp [intOf]; omega
            · have hlt' : ¬ (j : Int) < (i : Int) := by omega
              obtain rfl : j = i := by omega
              have HC3 : Hid ((h < sumF (fun i => (T i).q) j ∧ k = 7) ∨ (sumF (fun i => (T i).q) j ≤ h ∧ k = 0)) := Lib.hid (by
                rcases HC2.out with ⟨h1, _⟩ | ⟨_, h1⟩
                · exact absurd HQ.out h1
                · exact h1)
              have HQB : Hid (∀ i, i < j → 0 ≤ (T i).q ∧ (T i).q ≤ 100000) := Lib.hid (fun i hi => by have := (HOK.out i hi).q; omega)
              have B_d := Lib.hid B_s.out.drew
              have HBd := Lib.hid HBs.out.drew
              obtain ⟨y, hy⟩ : ∃ y : Int, sumF (fun i => (T i).q) j = y := ⟨_, rfl⟩
              have HY := Lib.hid hy
              rw [hy] at HC3
              have hj4 : j ≤ 4 := by omega
              clear HC2 HQ hy
              go_wp2_with fail
              go_region_held3 (fun w' => w'.cell? ⟨w.heap.size, 4, none⟩ = some (.slice ta j tc) ∧ w'.cell? ⟨w.heap.size, 0, none⟩ = some (.int .i64 h))
                (first | (with_reducible exact capJ B_s.out) | (with_reducible exact capJ B_d.out) | (with_reducible exact capJ B_6.out))
                (first | (go_at_call 86; refine (quotasOf_any ta j tc T _ (T0.out.below HBd.out) (by omega)).mono ?_; rintro e w6 ⟨qa, qc, rfl, ho, hb, -, -, -⟩; have HB6 := Lib.hid (thru0 HBd.out hb); have B_6 := Lib.hid (B_d.out.below hb); have HO := Lib.hid ho.src; clear hb ho) | (go_at_call 85; refine (sumOf_any qa j qc (fun i => (T i).q) _ HO.out (by omega) HQB.out).mono ?_; rw [HY.out]; rintro e w7 ⟨rfl, rfl⟩))
              clear B_s B_d B_6 HBd HBs HO
              rcases HC3.out with ⟨h1, rfl⟩ | ⟨h1, rfl⟩
              · clear HC3
                go_wp2
                go_ret
                exact ⟨rfl, HB6.out⟩
              · clear HC3
                go_wp2
                go_ret
                exact ⟨rfl, HB6.out⟩
    · have e : k = 2 := by
        rcases HC.out with ⟨_, h2⟩ | ⟨h1, _⟩
        · exact h2
        · exact absurd h1 hN4
      subst e
      have hN4' : ¬ (1 ≤ (N : Int) ∧ (N : Int) ≤ 4) := by omega
      have HN4 := Lib.hid hN4'
      clear HC hN4 hN4'
      with_reducible refine (isOut1 _ _ _ _ _ true (by first | rfl | exact HZ2.out.symm | simp) (.inr ⟨rfl, HN4.out⟩)).mono ?_
      rintro e w3 ⟨rfl, hb⟩
      have HB3 := Lib.hid (thru1 HB2.out hb)
      clear hb
      go_wp2
      go_ret
      exact ⟨rfl, HB3.out⟩
end Go.Proofs.Ytpmhbdiddcnhfaa

namespace Go.Proofs.Ytpmhbdiddcnhfaa
open Go.ChangeShapes Go.WideShapes Go.ChangeAt Go.RowKit Go.Joins Go.Deep
set_option linter.unusedVariables false

/-- A slot whose numbers are of 64 bits. -/
def SlW (t : SL) : Prop := I64 t.g ∧ I64 t.nd

/-- A tenant whose numbers are of 64 bits. -/
def TnW (t : TN) : Prop := I64 t.q ∧ I64 t.h ∧ ∀ j, j < t.n → SlW (t.S j)

set_option maxRecDepth 100000 in
/-- One slot, out of its cells. -/
theorem open_hs2 {H : Type} {enc : TypeId × Value → H} {W : World} {n : Nat} {cs : List Value} {y : DataW H × List MemPlace} (hlen : cs.length = 2) (h : DataW.trod enc Try.prog W 0 (fun _ => true) true n 285 cs = some y) :
    ∃ t : SL, cs = [.int .i64 t.g, .int .i64 t.nd] ∧ SlW t := by
  match cs, hlen with
  | [v0, v1], _ =>
    obtain ⟨xs, k, _, _, _, hxl, hf⟩ := DataW.trod_struct Try.underlying285 h
    have hxl : xs.length = 2 := hxl
    match xs, hxl with
    | [y0, y1], _ =>
      have g0 := hf 0 _ rfl
      have g1 := hf 1 _ rfl
      simp [Try.cellsO2] at g0 g1
      obtain ⟨i0, e0, _, w0⟩ := DataW.trod_int Try.underlying2 g0
      obtain ⟨i1, e1, _, w1⟩ := DataW.trod_int Try.underlying2 g1
      simp only [List.cons.injEq, and_true] at e0 e1
      subst e0 e1
      exact ⟨⟨i0, i1⟩, rfl, i64_of_wf w0, i64_of_wf w1⟩

set_option maxRecDepth 100000 in
/-- A row of slots. -/
theorem open_hss2 {H : Type} {enc : TypeId × Value → H} {W : World} {fuel : Nat} {cs : List Value} {y : DataW H × List MemPlace} (hf : DataW.trod enc Try.prog W 0 (fun _ => true) true fuel 194 cs = some y) :
    ∃ (a : Option Addr) (N c : Nat) (T : Nat → SL), cs = [.slice a N c] ∧ PV W a N T ∧ N ≤ maxLen ∧ ∀ i, i < N → SlW (T i) := by
  rcases open_slice Try.underlying194 hf with ⟨hcs, _⟩ | ⟨x, l, c, m, n, D, Pl, hcs, _, hl, hm, hmm, _, hx⟩
  · exact ⟨none, 0, 0, fun _ => (⟨0, 0⟩ : SL), hcs, .inl rfl, Nat.zero_le _, fun i hi => by omega⟩
  · have hlm : l ≤ m := by
      rw [hmm]; split
      · exact hl
      · exact Nat.le_refl _
    have each : ∀ i, i < l → ∃ t : SL, (∀ j u, ([.int .i64 t.g, .int .i64 t.nd] : List Value)[j]? = some u → W.cell? ((x.add (i * 2)).add j) = some u) ∧ SlW t := fun i hi => by
      obtain ⟨cs', h1, h2⟩ := hx i (by omega)
      rw [Try.cellsM285] at h1
      obtain ⟨_, hlen, hat⟩ := World.cells?_some h1
      obtain ⟨t, rfl, hw⟩ := open_hs2 hlen h2
      refine ⟨t, fun j u hu => ?_, hw⟩
      rw [hat j (List.getElem?_eq_some_iff.mp hu).1, hu]
    by_cases hz : l = 0
    · exact ⟨some x, l, c, fun _ => (⟨0, 0⟩ : SL), hcs, .inl hz, by omega, fun i hi => by omega⟩
    have : Inhabited SL := ⟨⟨0, 0⟩⟩
    obtain ⟨T, hT⟩ := Go.Deep.choose_lt each
    refine ⟨some x, l, c, T, hcs, ?_, by omega, fun i hi => (hT i hi).2⟩
    obtain ⟨b, off, spot⟩ := x
    have hc := (hT 0 (by omega)).1 0 _ rfl
    have hspot : spot = none := by simpa [Addr.add] using World.cell?_spot hc
    subst hspot
    refine .inr ⟨b, off, rfl, World.block_lt_of_cell? W _ (by simpa [Addr.add] using hc), fun i hi => ?_⟩
    have g := fun j u hu => (hT i hi).1 j u hu
    simp only [add_none] at g
    exact ⟨g 0 _ rfl, g 1 _ rfl⟩

set_option maxRecDepth 100000 in
/-- One tenant, out of its cells. -/
theorem open_tn2 {H : Type} {enc : TypeId × Value → H} {W : World} {n : Nat} {cs : List Value} {y : DataW H × List MemPlace} (hlen : cs.length = 3) (h : DataW.trod enc Try.prog W 0 (fun _ => true) true n 196 cs = some y) :
    ∃ t : TN, cs = [.int .i64 t.q, .int .i64 t.h, .slice t.a t.n t.c] ∧ PV W t.a t.n t.S ∧ t.n ≤ maxLen ∧ TnW t := by
  match cs, hlen with
  | [v0, v1, v2], _ =>
    obtain ⟨xs, k, _, _, _, hxl, hf⟩ := DataW.trod_struct Try.underlying196 h
    have hxl : xs.length = 3 := hxl
    match xs, hxl with
    | [y0, y1, y2], _ =>
      have g0 := hf 0 _ rfl
      have g1 := hf 1 _ rfl
      have g2 := hf 2 _ rfl
      simp [Try.cellsO2] at g0 g1
      simp [Try.cellsY194] at g2
      obtain ⟨i0, e0, _, w0⟩ := DataW.trod_int Try.underlying2 g0
      obtain ⟨i1, e1, _, w1⟩ := DataW.trod_int Try.underlying2 g1
      simp only [List.cons.injEq, and_true] at e0 e1
      subst e0 e1
      obtain ⟨a, N, c, S, hcs, hp, hN, hw⟩ := open_hss2 g2
      simp only [List.cons.injEq, and_true] at hcs
      subst hcs
      exact ⟨⟨i0, i1, a, N, c, S⟩, rfl, hp, hN, i64_of_wf w0, i64_of_wf w1, hw⟩

set_option maxRecDepth 100000 in
/-- A row of tenants. -/
theorem open_tns2 {H : Type} {enc : TypeId × Value → H} {W : World} {fuel : Nat} {cs : List Value} {y : DataW H × List MemPlace} (hf : DataW.trod enc Try.prog W 0 (fun _ => true) true fuel 57 cs = some y) :
    ∃ (a : Option Addr) (N c : Nat) (T : Nat → TN), cs = [.slice a N c] ∧ TV W a N T ∧ N ≤ maxLen ∧ (∀ i, i < N → (T i).n ≤ maxLen) ∧ ∀ i, i < N → TnW (T i) := by
  rcases open_slice Try.underlying57 hf with ⟨hcs, _⟩ | ⟨x, l, c, m, n, D, Pl, hcs, _, hl, hm, hmm, _, hx⟩
  · exact ⟨none, 0, 0, fun _ => ⟨0, 0, none, 0, 0, fun _ => (⟨0, 0⟩ : SL)⟩, hcs, .inl rfl, Nat.zero_le _, fun i hi => by omega, fun i hi => by omega⟩
  · have hlm : l ≤ m := by
      rw [hmm]; split
      · exact hl
      · exact Nat.le_refl _
    have each : ∀ i, i < l → ∃ t : TN, (∀ j u, ([.int .i64 t.q, .int .i64 t.h, .slice t.a t.n t.c] : List Value)[j]? = some u → W.cell? ((x.add (i * 3)).add j) = some u) ∧ PV W t.a t.n t.S ∧ t.n ≤ maxLen ∧ TnW t := fun i hi => by
      obtain ⟨cs', h1, h2⟩ := hx i (by omega)
      rw [Try.cellsY196] at h1
      obtain ⟨_, hlen, hat⟩ := World.cells?_some h1
      obtain ⟨t, rfl, h3, h4, h5⟩ := open_tn2 hlen h2
      refine ⟨t, fun j u hu => ?_, h3, h4, h5⟩
      rw [hat j (List.getElem?_eq_some_iff.mp hu).1, hu]
    by_cases hz : l = 0
    · exact ⟨some x, l, c, fun _ => ⟨0, 0, none, 0, 0, fun _ => (⟨0, 0⟩ : SL)⟩, hcs, .inl hz, by omega, fun i hi => by omega, fun i hi => by omega⟩
    have : Inhabited TN := ⟨⟨0, 0, none, 0, 0, fun _ => (⟨0, 0⟩ : SL)⟩⟩
    obtain ⟨T, hT⟩ := Go.Deep.choose_lt each
    refine ⟨some x, l, c, T, hcs, ?_, by omega, fun i hi => (hT i hi).2.2.1, fun i hi => (hT i hi).2.2.2⟩
    obtain ⟨b, off, spot⟩ := x
    have hc := (hT 0 (by omega)).1 0 _ rfl
    have hspot : spot = none := by simpa [Addr.add] using World.cell?_spot hc
    subst hspot
    refine .inr ⟨b, off, rfl, World.block_lt_of_cell? W _ (by simpa [Addr.add] using hc), fun i hi => ?_, fun i hi => (hT i hi).2.1⟩
    have g := fun j u hu => (hT i hi).1 j u hu
    simp only [add_none] at g
    exact ⟨g 0 _ rfl, g 1 _ rfl, g 2 _ rfl⟩

set_option maxRecDepth 100000 in
/-- What came in: a heap. -/
theorem open_heap2 {H : Type} {enc : TypeId × Value → H} {W : World} {base : Nat} {v0 : Value} {d0 : DataW H} {p0 : List MemPlace}
    (hv : Value.okWide Try.prog W .any base 59 v0) (h0 : DataW.Trod enc Try.prog W 0 (fun _ => true) true 59 v0 d0 p0) :
    ∃ (h ac bu : Int) (a : Option Addr) (n c : Nat) (f : Nat → Int) (ta : Option Addr) (N tc : Nat) (T : Nat → TN), v0 = .agg #[.int .i64 h, .slice a n c, .int .i64 ac, .int .i64 bu, .slice ta N tc] ∧ Src W a n f ∧ n ≤ maxLen ∧ TV W ta N T ∧ N ≤ maxLen ∧ (∀ i, i < N → (T i).n ≤ maxLen) ∧ ∀ i, i < N → TnW (T i) := by
  obtain ⟨cs, rfl, hsz⟩ := okWide_struct Try.underlying59 hv
  have hsz : cs.size = 5 := hsz.trans Try.cellsY59
  obtain ⟨fuel, hf0⟩ := h0
  obtain ⟨ls⟩ := cs
  match ls, hsz with
  | [v0, v1, v2, v3, v4], _ =>
    obtain ⟨xs, k, _, _, _, hxl, hf⟩ := DataW.trod_struct Try.underlying59 hf0
    have hxl : xs.length = 2 := hxl
    match xs, hxl with
    | [y0, y1], _ =>
      have g0 := hf 0 _ rfl
      have g1 := hf 1 _ rfl
      simp [Value.cells, Try.cellsY56, Try.cellsY57] at g0 g1
      obtain ⟨ys, k', _, _, _, hyl, hg⟩ := DataW.trod_struct Try.underlying56 g0
      have hyl : ys.length = 4 := hyl
      match ys, hyl with
      | [z0, z1, z2, z3], _ =>
        have q0 := hg 0 _ rfl
        have q1 := hg 1 _ rfl
        have q2 := hg 2 _ rfl
        have q3 := hg 3 _ rfl
        simp [Try.cellsO2, Try.cellsO54] at q0 q1 q2 q3
        obtain ⟨h, e0, _, _⟩ := DataW.trod_int Try.underlying2 q0
        obtain ⟨a, n, c, f, e1, s1, hn⟩ := open_ints1 q1
        obtain ⟨ac, e2, _, _⟩ := DataW.trod_int Try.underlying2 q2
        obtain ⟨bu, e3, _, _⟩ := DataW.trod_int Try.underlying2 q3
        obtain ⟨ta, N, tc, T, e4, t1, hN, hM, hW⟩ := open_tns2 g1
        simp only [List.cons.injEq, and_true] at e0 e1 e2 e3 e4
        subst e0 e1 e2 e3 e4
        exact ⟨h, ac, bu, a, n, c, f, ta, N, tc, T, rfl, s1, hn, t1, hN, hM, hW⟩
end Go.Proofs.Ytpmhbdiddcnhfaa

namespace Go.Proofs.Ytpmhbdiddcnhfaa
open Go.RowKit
set_option linter.unusedVariables false

theorem tnw_nd {N : Nat} {T U : Nat → TN} (hw : ∀ i, i < N → TnW (T i)) (hs : ∀ i, i < N → TnSame (T i) (U i)) : ∀ i, i < N → ∀ j, j < (U i).n → -9223372036854775808 ≤ ((U i).S j).nd ∧ ((U i).S j).nd ≤ 9223372036854775807 := fun i hi j hj => by
  obtain ⟨_, _, h3, h4⟩ := hs i hi
  have hj' : j < (T i).n := by omega
  rw [← h4 j hj']
  exact ((hw i hi).2.2 j hj').2

theorem tnsame_max {N : Nat} {T T' : Nat → TN} (h : ∀ i, i < N → TnSame (T i) (T' i)) (hn : ∀ i, i < N → (T i).n ≤ 1048576) : ∀ i, i < N → (T' i).n ≤ maxLen := fun i hi => by
  have := tnsame_n h hn i hi
  unfold maxLen; omega

theorem max_of {N : Nat} (h : N ≤ 1048576) : N ≤ maxLen := by unfold maxLen; omega
end Go.Proofs.Ytpmhbdiddcnhfaa

namespace Go.Proofs.Ytpmhbdiddcnhfaa
open Go.RowKit
set_option linter.unusedVariables false

set_option maxRecDepth 100000 in
set_option maxHeartbeats 800000 in
theorem markHeapSlotS_big (a : Option Addr) (lo hi N c : Nat) (T : Nat → SL) (k : Int) (w : World) (hs : PVO w lo hi a N T) (hk0 : 0 ≤ k) (hk1 : k + 2 * (N : Int) ≤ 4398046511104) :
    Calls Try.prog 144 #[.slice a N c, .int .i64 k] w fun e w' => e = .returned (.int .i64 (k + 2 * (N : Int))) ∧ PVO w' lo hi a N (smkd k) ∧ Keeps w w' lo hi := by
  have H := Lib.hid hs
  clear hs
  go_enter Try.func144, Try.ntmps144
  go_wp2
  go_loopw [1, 5] (fun u p wr => ∃ i : Nat, i ≤ N ∧ p = .int .i64 i ∧ u = .int .i64 (k + 2 * (i : Int)) ∧ Hid (Keeps w wr lo hi) ∧ Hid (PVO wr lo hi a N (fun j => if j < i then smkd k j else T j))) (fun _ p _ => N - (intOf p).toNat)
  case atStart => exact ⟨0, Nat.zero_le _, rfl, by simp, Keeps.refl _ _ _, by simpa using H⟩
  case round =>
    obtain ⟨i, hi9, rfl, rfl, HK, HR⟩ := hrel
    by_cases hlt : i < N
    · have hlt' : (i : Int) < (N : Int) := by omega
      have hi0 : (0 : Int) ≤ (i : Int) := by omega
      rcases HR.out with h0 | ⟨b, q, rfl, hg⟩
      · omega
      obtain ⟨x0, x1⟩ := hg.two i hlt
      obtain ⟨f0, f1⟩ := hg.free i hlt
      have hlt0 := hg.lt
      generalize hK : k + 2 * (i : Int) = K at *
      have hK0 : 0 ≤ K := by omega
      have hK1 : K + 2 ≤ 4398046511104 := by omega
      have HKK := Lib.hid hK
      have HQ := Lib.hid (pown_put (i := i) (t := ⟨K, K + 1⟩) hg hlt)
      clear hK hg HR
      go_wp2
      go_roundw
      case rel =>
        refine ⟨i + 1, by omega, by go_num, by have := HKK.out; go_num, HK.out.trans HQ.out.2, .inr ⟨b, q, rfl, HQ.out.1.congr fun j hj => ?_⟩⟩
        by_cases e : j = i
        · subst e
          simp only [if_true, Nat.lt_succ_self, smkd, HKK.out]
        · rw [if_neg e]
          have h2 : (j < i + 1) = (j < i) := by simp only [eq_iff_iff]; omega
          simp only [h2]
      case measure => simp [intOf]; omega
    · go_wp2
      go_ret
      obtain rfl : i = N := by omega
      refine ⟨rfl, ?_, HK.out⟩
      exact HR.out.congr fun j hj => by simp [hj]

set_option maxRecDepth 100000 in
set_option maxHeartbeats 1600000 in
theorem markTenS_big (lo hi b q N c : Nat) (T : Nat → TN) (k : Int) (w : World) (hs : TOwn w lo hi b q N T) (hk0 : 0 ≤ k) (hk1 : k + (toff T N : Int) ≤ 4398046511104) (hN5 : N ≤ 1048576) :
    Calls Try.prog 93 #[.slice (some ⟨b, q, none⟩) N c, .int .i64 k] w (TRetMarkS w lo hi b q N T k) := by
  have H := Lib.hid hs
  have hlh : lo ≤ hi := by have := hs.glo; have := hs.ghi; omega
  clear hs
  go_enter Try.func93, Try.ntmps93
  go_wp2
  go_loopw [1, 5] (fun u p wr => ∃ i : Nat, i ≤ N ∧ p = .int .i64 i ∧ u = .int .i64 (k + (toff T i : Int)) ∧ Hid (Keeps w wr lo hi) ∧ Hid (TOwn wr lo hi b q N (fun j => if j < i then tmkd T k j else T j))) (fun _ p _ => N - (intOf p).toNat)
  case atStart => exact ⟨0, Nat.zero_le _, rfl, by simp [toff], Keeps.refl _ _ _, by simpa using H⟩
  case round =>
    obtain ⟨i, hi9, rfl, rfl, HK, HR⟩ := hrel
    by_cases hlt : i < N
    · have hlt' : (i : Int) < (N : Int) := by omega
      have hi0 : (0 : Int) ≤ (i : Int) := by omega
      have hle : toff T (i + 1) ≤ toff T N := toff_mono T hlt
      have hso : (toff T (i + 1) : Int) = (toff T i : Int) + 2 + 2 * ((T i).n : Int) := by simp only [toff]; omega
      have hx := HR.out.thr i hlt
      have hsrc := HR.out.slo i hlt
      obtain ⟨f0, f1, f2⟩ := HR.out.free i hlt
      have hlt0 := HR.out.lt
      simp only [Nat.lt_irrefl, if_false] at hx hsrc
      obtain ⟨x0, x1, x2⟩ := hx
      generalize hK : k + (toff T i : Int) = K at *
      have hK0 : 0 ≤ K := by omega
      have hK1 : K + 2 + 2 * ((T i).n : Int) ≤ 4398046511104 := by omega
      have HSO := Lib.hid hso; have HKK := Lib.hid hK; have HSRC := Lib.hid hsrc
      clear hso hK hle hsrc
      obtain ⟨l, r, hl1, hl2, hl3, hnar, hlr⟩ := pvo_narrow HSRC.out hlh
      obtain ⟨U, hU⟩ : ∃ U : Nat → TN, U = fun j => if j < i then tmkd T k j else T j := ⟨_, rfl⟩
      have hUi : U i = T i := by rw [hU]; simp
      have hR : TOwn wr lo hi b q N U := by rw [hU]; exact HR.out
      have hnar' : PVO wr l r (U i).a (U i).n (U i).S := by rw [hUi]; exact hnar
      have h5 := town_two ⟨K, K + 1⟩ hR hlt hnar'
      have hlr' : ((U i).n = 0 ∧ l = r) ∨ (0 < (U i).n ∧ l = (U i).g ∧ r = (U i).g + 1 ∧ (U i).g < wr.heap.size) := by rw [hUi]; exact hlr
      rw [hUi] at h5
      have H5 := Lib.hid h5; have HLR := Lib.hid hlr'; have HRU := Lib.hid hR; have HUI := Lib.hid hUi; have HU := Lib.hid hU
      clear h5 hlr' hR hUi hU hnar hnar' hlr HR
      go_wp2_with fail
      rw [show K + 1 + 1 = K + 2 from by omega]
      refine (markHeapSlotS_big (T i).a l r (T i).n (T i).c (T i).S (K + 2) (twoW wr b (q + i * 3) ⟨K, K + 1⟩) H5.out (by omega) (by omega)).mono ?_
      rintro e w2 ⟨rfl, ho2, hk2⟩
      have hq := town_round (i := i) HRU.out hlt hl1 hl3 HLR.out hk2 (by rw [HUI.out]; exact ho2)
      have HQ := Lib.hid hq
      clear ho2 hk2 hq
      go_wp2
      go_roundw
      case rel =>
        refine ⟨i + 1, by omega, by go_num, by have := HSO.out; have := HKK.out; go_num, HK.out.trans HQ.out.2, HQ.out.1.congr fun j hj => ?_⟩
        by_cases e : j = i
        · subst e
          simp only [if_true, Nat.lt_succ_self, tmkd, HKK.out, HUI.out]
        · rw [if_neg e, HU.out]
          have h2 : (j < i + 1) = (j < i) := by simp only [eq_iff_iff]; omega
          simp only [h2]
      case measure => simp [intOf]; omega
    · go_wp2
      go_ret
      obtain rfl : i = N := by omega
      exact ⟨rfl, HR.out.congr fun j hj => by simp [hj], HK.out⟩

set_option maxRecDepth 100000 in
set_option maxHeartbeats 400000 in
theorem markTV_big (lo hi N c : Nat) (a : Option Addr) (T : Nat → TN) (k : Int) (w : World) (hs : TVO w lo hi a N T) (hk0 : 0 ≤ k) (hk1 : k + (toff T N : Int) ≤ 4398046511104) (hN5 : N ≤ 1048576) :
    Calls Try.prog 93 #[.slice a N c, .int .i64 k] w (TRetMarkV w lo hi a N T k) := by
  rcases Nat.eq_zero_or_pos N with rfl | hp
  · clear hs hN5
    simp only [toff] at hk1
    go_enter Try.func93, Try.ntmps93
    go_wp2
    go_loop [1, 5] (fun u p => u = .int .i64 k ∧ p = .int .i64 0) (fun _ _ => 0)
    case atStart => exact ⟨rfl, rfl⟩
    case round =>
      obtain ⟨rfl, rfl⟩ := hrel
      go_wp2
      go_ret
      exact ⟨by simp [toff], .inl rfl, Keeps.refl _ _ _⟩
  · rcases hs with h0 | ⟨b, q, rfl, h⟩
    · omega
    · refine (markTenS_big lo hi b q N c T k w h hk0 hk1 hN5).mono ?_
      rintro e w' ⟨rfl, h1, h2⟩
      exact ⟨rfl, .inr ⟨b, q, rfl, h1⟩, h2⟩

set_option maxRecDepth 100000 in
set_option maxHeartbeats 800000 in
theorem markHeap_big (h ac bu : Int) (a : Option Addr) (n c : Nat) (f : Nat → Int) (ta : Option Addr) (N tc : Nat) (T : Nat → TN) (lo mid hi : Nat) (k : Int) (w : World) (hp : OwnIn w lo mid a n f) (hg : TVO w mid hi ta N T) (h1 : lo ≤ mid) (h2 : mid ≤ hi) (h3 : hi ≤ w.heap.size) (hn : n ≤ 1048576) (hk0 : 0 ≤ k) (hk9 : k ≤ 1000) (hk1 : k + (n : Int) + (toff T N : Int) ≤ 4398046511104) (hN5 : N ≤ 1048576) :
    Calls Try.prog 43 #[.agg #[.int .i64 h, .slice a n c, .int .i64 ac, .int .i64 bu, .slice ta N tc], .int .i64 k] w (RetMkH w lo mid hi a n ta N T k) := by
  have P0 := Lib.hid hp; have G0 := Lib.hid hg
  have hn0 : (0 : Int) ≤ (toff T N : Int) := by omega
  clear hp hg
  go_enter Try.func43, Try.ntmps43
  have A_0 := Lib.hid (Blk.new_at (w := w) (cs := #[.int .i64 h, .slice a n c, .int .i64 ac, .int .i64 bu, .slice ta N tc]) (t := 65) w.heap.size rfl)
  have HB0 := Lib.hid ((Below.refl w.heap.size w).alloc (Nat.le_refl _) (.cells #[.int .i64 h, .slice a n c, .int .i64 ac, .int .i64 bu, .slice ta N tc] 65))
  have P1 := Lib.hid (P0.out.below HB0.out); have G1 := Lib.hid (G0.out.below HB0.out)
  have HK0 := Lib.hid (keeps_of_below HB0.out lo hi)
  go_wp2_with fail
  refine (markArena_any h ac bu a n c lo mid f k _ P1.out hn hk0 (by omega)).mono ?_
  rintro e w1 ⟨rfl, hp, hk⟩
  have P2 := Lib.hid hp; have HK1 := Lib.hid (HK0.out.trans (hk.widen (Nat.le_refl _) h2))
  have A_1 := Lib.hid (A_0.out.keeps hk (.inr (by omega)))
  have G2 := Lib.hid (G1.out.keeps hk (.inr (Nat.le_refl _)))
  clear hp hk P0 P1 G0 G1 A_0 HK0
  have c4 := A_1.out.at 4 rfl; have lA := A_1.out.1
  go_wp2_with fail
  refine (markTV_big mid hi N tc ta T (k + (n : Int)) _ G2.out (by omega) hk1 hN5).mono ?_
  rintro e w2 ⟨rfl, hg, hk⟩
  have G3 := Lib.hid hg; have P3 := Lib.hid (P2.out.keeps hk (.inl (Nat.le_refl _))); have HK2 := Lib.hid (HK1.out.trans (hk.widen h1 (Nat.le_refl _)))
  clear hg hk G2 P2 HK1 c4 lA A_1
  go_wp2
  go_ret
  exact ⟨rfl, P3.out, G3.out, HK2.out⟩

theorem toff_big {T : Nat → TN} : ∀ K, (∀ i, i < K → (T i).n ≤ 1048576) → toff T K ≤ K * 2097154
  | 0, _ => Nat.zero_le _
  | K + 1, h => by
    have h1 := toff_big K fun i hi => h i (by omega)
    have h2 := h K (Nat.lt_succ_self K)
    simp only [toff]; omega
end Go.Proofs.Ytpmhbdiddcnhfaa

namespace Go.Proofs.Ytpmhbdiddcnhfaa
open Go.RowKit
set_option linter.unusedVariables false

theorem nums_app (l m : List Int) : nums l.length (lf l) ++ nums m.length (lf m) = nums (l ++ m).length (lf (l ++ m)) := by
  rw [nums_lf, nums_lf, nums_lf, List.map_append]

/-- A row of numbers is appended to a row of the call's own. -/
theorem append_src {w : World} {ops : Array Oper} {rest : List Oper} {o : Oper} {a : Act} {Q : Exit → Act → World → Prop} (hgd : o.guard = none) (s x : Operand)
    (ho : o.op = .call { callee := .builtin .append, args := #[s, x], argTypes := #[54, 54] })
    (base : Nat) (v : Value) (n : Nat) (xs : List Value) (hs : a.eval s = v) (hown : w.ownsRow base 2 1 v n xs) (b : Option Addr) (m c : Nat) (f : Nat → Int) (hx : a.eval x = .slice b m c) (hsrc : Src w b m f) (hna : b = none → m = 0 ∧ c = 0)
    (h63 : n + m ≤ 1000000) (hbase : base ≤ w.heap.size)
    (h : ∀ v' w', w'.ownsRow base 2 1 v' (n + m) (xs ++ nums m f) → w.grownBy w' v.ownBlock → wpList Try.prog ops Q rest (a.put o.dst v') w') : wpList Try.prog ops Q (o :: rest) a w := by
  obtain ⟨i0, hif, hz0, hz1, hz2⟩ := info_parts Try.info2
  cases b with
  | none =>
    obtain ⟨rfl, rfl⟩ := hna rfl
    exact wpList_append_own_none hgd s x 54 ho base 2 i0 1 Try.underlying54 hif v n xs hs hown hx (h v w (by simpa [nums] using hown) (World.grownBy.refl _ _))
  | some ad =>
    have hc : ∀ (j : Nat) (u : Value), (nums m f)[j]? = some u → w.cell? (ad.add j) = some u := by
      rcases hsrc with h0 | ⟨b, off, e, hb, hc⟩
      · subst h0; intro j u hu; simp [nums] at hu
      · simp only [Option.some.injEq] at e
        subst e
        exact news_at hc
    exact wpList_append_own w hgd s x 54 ho base 2 i0 (.int .i64 0) 1 8 Try.underlying54 hif hz0 hz1 hz2 rfl (by decide) v n xs hs hown ad m c (nums m f) hx (by simp [nums]) hc (nums_one m f) (by unfold maxLen; omega) (by omega) hbase fun v' w' h1 h2 _ => h v' w' h1 h2

/-- The places to which the slots of the first tenants lead. -/
def rootsH (T : Nat → TN) : Nat → List Int
  | 0 => []
  | n + 1 => rootsH T n ++ rootsS (T n).S (T n).n

theorem rootsH_len {L : List Ob} {T : Nat → TN} : ∀ {N : Nat}, (∀ i, i < N → TnOk L (i : Int) (T i)) → (rootsH T N).length ≤ 8 * N
  | 0, _ => by simp [rootsH]
  | n + 1, h => by
    have h1 := rootsH_len (N := n) fun i hi => h i (by omega)
    have h2 := (h n (by omega)).n
    have h3 := rootsS_len (T n).S (T n).n
    simp only [rootsH, List.length_append]; omega

theorem rootsH_same {T U : Nat → TN} : ∀ {N : Nat}, (∀ i, i < N → TnSame (T i) (U i)) → rootsH U N = rootsH T N
  | 0, _ => rfl
  | n + 1, h => by
    obtain ⟨_, _, h3, h4⟩ := h n (by omega)
    rw [rootsH, rootsH, rootsH_same fun i hi => h i (by omega), ← h3, rootsS_congr (fun j hj => (h4 j hj).symm)]

/-- What a right heap is. -/
structure HpOk (L : List Ob) (N : Nat) (T : Nat → TN) : Prop where
  n : 1 ≤ N ∧ N ≤ 4
  t : ∀ i, i < N → TnOk L (i : Int) (T i)

theorem hpOk_of {f : Nat → Int} {L : List Ob} {h : Int} {N : Nat} {T : Nat → TN} (hk : hpF f L h N T = 0) : HpOk L N T := by
  rcases hpF_cases f L h N T rfl with ⟨_, h2⟩ | ⟨h1, ⟨h2, h3⟩ | ⟨h2, _⟩⟩
  · omega
  · exact absurd (h3.symm.trans hk) h2
  · exact ⟨h1, fun i hi => tnF_ok (tnsF_all h2 i hi)⟩

set_option maxRecDepth 100000 in
set_option maxHeartbeats 1600000 in
theorem l7Roots_any (B : Nat) (h ac bu : Int) (a : Option Addr) (n c : Nat) (ta : Option Addr) (N tc : Nat) (T : Nat → TN) (L : List Ob) (w : World)
    (hB : Blk w B [.int .i64 h, .slice a n c, .int .i64 ac, .int .i64 bu, .slice ta N tc]) (ht : TV w ta N T) (hok : HpOk L N T) (hpl : ∀ x ∈ L, 0 ≤ x.at_ ∧ x.at_ ≤ 1000000) :
    Calls Try.prog 89 #[.pointer (some ⟨B, 0, none⟩)] w (RetInts w (rootsH T N).length (lf (rootsH T N))) := by
  have BB := Lib.hid hB; have HT := Lib.hid ht; have HOK := Lib.hid hok; have HPL := Lib.hid hpl
  have hN4 := hok.n.2
  have OWa : Hid ((w.alloc (.cells #[] 2)).ownsRow w.heap.size 2 1 (.slice (some ⟨w.heap.size, 0, none⟩) 0 0) ([] : List Int).length (nums ([] : List Int).length (lf []))) := World.ownsRow_lit w #[] 0 (Nat.le_refl _) (by simp [maxLen]) rfl
  have HBa : Hid (Below w.heap.size w (w.alloc (.cells #[] 2))) := (Below.refl _ _).alloc (Nat.le_refl _) _
  have b4 := hB.at 4 rfl; have lB := hB.1
  clear hB ht hok hpl
  go_enter Try.func89, Try.ntmps89
  go_wp2
  clear b4 lB
  go_loopw [3, 4] (fun u p wr => ∃ (i : Nat) (R : List Int), i ≤ N ∧ p = .int .i64 (i : Int) ∧ Hid (R = rootsH T i) ∧ Hid (Below w.heap.size w wr) ∧ Hid (wr.ownsRow w.heap.size 2 1 u R.length (nums R.length (lf R)))) (fun _ p _ => N - (intOf p).toNat)
  case atStart => exact ⟨0, [], Nat.zero_le _, rfl, Lib.hid rfl, HBa, OWa⟩
  case round =>
    clear OWa HBa
    obtain ⟨i, R, hi, rfl, HL, HB_r, OW_r⟩ := hrel
    have hzr := HB_r.out.size
    have Br := Lib.hid (BB.out.below HB_r.out)
    have b4 := Br.out.at 4 rfl; have lB := Br.out.1
    by_cases hlt : i < N
    · have hlt' : (i : Int) < (N : Int) := by omega
      have hi0 : (0 : Int) ≤ (i : Int) := by omega
      obtain ⟨tb, tq, rfl, lt, htn, hsl⟩ := tv_get (HT.out.below HB_r.out) hlt
      have HTN := Lib.hid htn; have HSL := Lib.hid hsl
      have HL2 : Hid (R ++ rootsS (T i).S (T i).n = rootsH T (i + 1)) := Lib.hid (by rw [HL.out]; rfl)
      have hrl : R.length ≤ 8 * i := by rw [HL.out]; exact rootsH_len fun j hj => HOK.out.t j (by omega)
      have HOKI := Lib.hid (HOK.out.t i hlt)
      clear htn hsl HL
      generalize T i = t at *
      go_wp2_with fail
      refine (l7RootsOf_any tb (tq + i * 3) t _ lt HTN.out HSL.out HOKI.out.n.2 (tnok_nd HOKI.out HPL.out)).mono ?_
      rintro e w2 ⟨ra, rc, rfl, ho, hb, -, -, hna⟩
      have HB2 := Lib.hid (thru0 HB_r.out hb); have HS2 := Lib.hid ho.src
      have OW2 := Lib.hid (ownsRow_below OW_r.out hb)
      have HNA := Lib.hid hna
      have hl8 : (rootsS t.S t.n).length ≤ 8 := Nat.le_trans (rootsS_len _ _) HOKI.out.n.2
      have HGE : Hid (∀ k, u3.ownBlock = some k → w.heap.size ≤ k) := Lib.hid (fun k hk => (OW2.out.lt k hk).1)
      have z2 : w.heap.size ≤ w2.heap.size := HB2.out.size
      clear hb ho hna b4 lB
      go_wp2_with (at_builtin; go_loud (refine append_src rfl _ _ rfl w.heap.size u3 R.length (nums R.length (lf R)) rfl OW2.out ra _ rc _ rfl HS2.out HNA.out (by omega) z2 ?_); intro v9 w9 hown9 hgrow9)
      have HB9 : Hid (Below w.heap.size w w9) := HB2.out.grown hgrow9 z2 (fun k hk => HGE.out k hk)
      have OW9 : Hid (w9.ownsRow w.heap.size 2 1 v9 (R ++ rootsS t.S t.n).length (nums (R ++ rootsS t.S t.n).length (lf (R ++ rootsS t.S t.n)))) := Lib.hid (by rw [← nums_app, List.length_append]; exact hown9)
      clear hown9 hgrow9 HS2 OW2 HNA
      generalize R ++ rootsS t.S t.n = R2 at *
      go_wp2
      go_roundw
      case rel => first | exact ⟨i + 1, R2, by omega, by go_num, HL2, HB9, OW9⟩ | ((repeat apply Exists.intro); exact ⟨⟨i + 1, R2, by omega, by go_num, HL2, HB9, OW9⟩, rfl⟩)
      case measure => simp [intOf]; omega
    · have hlt' : ¬ (i : Int) < (N : Int) := by omega
      obtain rfl : i = N := by omega
      have HRet := Lib.hid (retInts_of_row OW_r.out HB_r.out)
      have hL := HL.out
      subst hL
      go_wp2
      go_ret
      exact HRet.out

/-- What RootsOf answers. -/
def IsRh (h : Int) (n : Nat) (f : Nat → Int) (ac bu : Int) (N : Nat) (T : Nat → TN) (k : Int) (K : Nat) (U : Nat → Int) : Prop :=
  (¬ k = 0 ∧ IsHpF h n f ac bu N T k ∧ K = 0) ∨ (k = 0 ∧ IsHpF h n f ac bu N T 0 ∧ (∃ L, IsSF h n f ac bu 0 ∧ IsOI h n f ac bu 0 L ∧ hpF f L h N T = 0) ∧ K = (rootsH T N).length ∧ U = lf (rootsH T N))

theorem isRh_some (h : Int) (n : Nat) (f : Nat → Int) (ac bu : Int) (N : Nat) (T : Nat → TN) : ∃ k K U, IsRh h n f ac bu N T k K U := by
  obtain ⟨k, hk⟩ := isHpF_some h n f ac bu N T
  by_cases h0 : k = 0
  · subst h0
    rcases id hk with ⟨_, h1⟩ | ⟨h1, L, h2, h3⟩
    · exact absurd rfl h1
    · exact ⟨_, _, _, .inr ⟨rfl, hk, ⟨L, h1, h2, h3.symm⟩, rfl, rfl⟩⟩
  · exact ⟨k, 0, fun _ => 0, .inl ⟨h0, hk, rfl⟩⟩

theorem isRh_small {h : Int} {n : Nat} {f : Nat → Int} {ac bu : Int} {N : Nat} {T : Nat → TN} {k : Int} {K : Nat} {U : Nat → Int} (hk : IsRh h n f ac bu N T k K U) : K ≤ 32 := by
  rcases hk with ⟨_, _, rfl⟩ | ⟨_, _, ⟨L, _, _, h3⟩, rfl, _⟩
  · omega
  · have h4 := hpOk_of h3
    have := rootsH_len h4.t
    have := h4.n
    omega

theorem isRh_same {h : Int} {n : Nat} {f : Nat → Int} {ac bu : Int} {N : Nat} {T U' : Nat → TN} {k : Int} {K : Nat} {U : Nat → Int} (hk : IsRh h n f ac bu N T k K U) (hs : ∀ i, i < N → TnSame (T i) (U' i)) : IsRh h n f ac bu N U' k K U := by
  rcases hk with ⟨h0, h1, h2⟩ | ⟨h0, h1, ⟨L, h2, h3, h4⟩, h5, h6⟩
  · exact .inl ⟨h0, isHpF_same h1 hs, h2⟩
  · refine .inr ⟨h0, isHpF_same h1 hs, ⟨L, h2, h3, ?_⟩, by rw [rootsH_same hs]; exact h5, by rw [rootsH_same hs]; exact h6⟩
    rw [← h4]; unfold hpF; rw [tnsF_same hs, quF_same hs, sumF_same hs]

/-- An answer with a code and a row of numbers of its own. -/
def RetIsR (W : World) (co : Int) (K : Nat) (U : Nat → Int) (e : Ending) (w' : World) : Prop :=
  ∃ a c, e = .returned (.agg #[.int .i64 co, .slice a K c]) ∧ Own w' W.heap.size a K U ∧ Below W.heap.size W w'

theorem own_two2 {w : World} {lo lo' B n : Nat} {a : Option Addr} {f : Nat → Int} {v0 v1 : Value} (h : Own w lo a n f) (hB : B < lo) (hl : lo' ≤ lo) : Own ((w.setCell ⟨B, 0, none⟩ v0).setCell ⟨B, 1, none⟩ v1) lo' a n f := by
  rcases h with h0 | ⟨b, off, ha, h1, h2, h3⟩
  · exact .inl h0
  · have hk := two_keeps w B v0 v1
    exact .inr ⟨b, off, ha, by omega, Nat.lt_of_lt_of_le h2 hk.size, fun i hi => by
      obtain ⟨x1, x2⟩ := h3 i hi
      have e := hk.block b h2 (.inr (by omega))
      exact ⟨(World.cell?_of_block (w := w) (a := ⟨b, off + i, none⟩) e).trans x1, (World.frozen?_of_block (w := w) (a := ⟨b, off + i, none⟩) e).trans x2⟩⟩

set_option maxRecDepth 100000 in
set_option maxHeartbeats 1600000 in
theorem specRh_any (h ac bu : Int) (a : Option Addr) (n c : Nat) (f : Nat → Int) (ta : Option Addr) (N tc : Nat) (T : Nat → TN) (k : Int) (K : Nat) (U : Nat → Int) (w : World) (hs : Src w a n f) (hcn : n ≤ c) (hcm : c ≤ maxLen) (ht : TV w ta N T) (hN : N ≤ maxLen) (hn : ∀ i, i < N → (T i).n ≤ maxLen)
    (hr : ∀ i, i < N → ∀ j, j < (T i).n → -9223372036854775808 ≤ ((T i).S j).nd ∧ ((T i).S j).nd ≤ 9223372036854775807) (hk : IsRh h n f ac bu N T k K U) :
    Calls Try.prog 40 #[.agg #[.int .i64 h, .slice a n c, .int .i64 ac, .int .i64 bu, .slice ta N tc]] w (RetIsR w k K U) := by
  have S0 := Lib.hid hs; have T0 := Lib.hid ht; have HN := Lib.hid hn; have HR := Lib.hid hr; have HCM := Lib.hid hcm
  have B_0 := Lib.hid ((Blk.new_at (w := w) (cs := #[.int .i64 h, .slice a n c, .int .i64 ac, .int .i64 bu, .slice ta N tc]) (t := 65) w.heap.size rfl).alloc (.cells #[.int .i64 0, .slice none 0 0] 70))
  have R_0 := Lib.hid (Blk.new_at (w := w.alloc (.cells #[.int .i64 h, .slice a n c, .int .i64 ac, .int .i64 bu, .slice ta N tc] 65)) (cs := #[.int .i64 0, .slice none 0 0]) (t := 70) (w.heap.size + 1) (by simp))
  have HB0 : Hid (Below w.heap.size w ((w.alloc (.cells #[.int .i64 h, .slice a n c, .int .i64 ac, .int .i64 bu, .slice ta N tc] 65)).alloc (.cells #[.int .i64 0, .slice none 0 0] 70))) := ((Below.refl _ _).alloc (Nat.le_refl _) _).alloc (by simp) _
  have z0 : w.heap.size + 2 ≤ ((w.alloc (.cells #[.int .i64 h, .slice a n c, .int .i64 ac, .int .i64 bu, .slice ta N tc] 65)).alloc (.cells #[.int .i64 0, .slice none 0 0] 70)).heap.size := by simp
  have b0 := B_0.out.at 0 rfl; have b1 := B_0.out.at 1 rfl; have b2 := B_0.out.at 2 rfl; have b3 := B_0.out.at 3 rfl; have b4 := B_0.out.at 4 rfl; have lB := B_0.out.1
  have HKF : Hid (IsHpF h n f ac bu N T k) := Lib.hid (by
    rcases hk with ⟨_, h1, _⟩ | ⟨h0, h1, _⟩
    · exact h1
    · rw [h0]; exact h1)
  clear hs ht hn hr hcm
  go_enter Try.func40, Try.ntmps40
  go_wp2_with fail
  generalize ((w.alloc (.cells #[.int .i64 h, .slice a n c, .int .i64 ac, .int .i64 bu, .slice ta N tc] 65)).alloc (.cells #[.int .i64 0, .slice none 0 0] 70)) = w0 at *
  refine (specHpF_any h ac bu a n c f ta N tc T k _ (S0.out.below HB0.out) hcn HCM.out (T0.out.below HB0.out) hN HN.out HR.out HKF.out).mono ?_
  rintro e w1 ⟨rfl, hb⟩
  have HB1 := Lib.hid (thru0 HB0.out hb); have B_1 := Lib.hid (B_0.out.below hb); have R_1 := Lib.hid (R_0.out.below hb)
  have z1 := hb.size
  clear hb b0 b1 b2 b3 b4 lB B_0 R_0 HB0
  rcases hk with ⟨h0, -, rfl⟩ | ⟨rfl, -, ⟨L, h1, h2, h3⟩, rfl, rfl⟩
  · have hq : (k != 0) = true := by simp [h0]
    have c0 := R_1.out.at 0 rfl; have c1 := R_1.out.at 1 rfl; have f0 := R_1.out.free 0 rfl; have f1 := R_1.out.free 1 rfl; have lR := R_1.out.1
    clear h0
    go_wp2
    refine bodyPost_ret (v := .agg #[.int .i64 k, .slice none 0 0]) (by simp [results, Try.results40, go_sem, c0, c1, World.cell?_setCell_other, World.cell?_setCell_same']) rfl ⟨none, 0, rfl, .inl rfl, ?_⟩
    repeat (first | (with_reducible refine Below.setCell ?_ (by (try simp); (try omega)) _) | (with_reducible refine Below.alloc ?_ (by (try simp); (try omega)) _))
    exact HB1.out
  · have HPO := Lib.hid (hpOk_of h3)
    have HPL : Hid (∀ x ∈ L, 0 ≤ x.at_ ∧ x.at_ ≤ 1000000) := Lib.hid (fun x hx => (objs_word h1 h2 x hx).1)
    have lB := B_1.out.1
    clear h1 h2 h3
    go_wp2_with fail
    refine (l7Roots_any w.heap.size h ac bu a n c ta N tc T L _ B_1.out (T0.out.below HB1.out) HPO.out HPL.out).mono ?_
    rintro e w2 ⟨ra, rc, rfl, ho, hb, -, -, -⟩
    have HO := Lib.hid ho; have HB2 := Lib.hid (thru0 HB1.out hb); have R_2 := Lib.hid (R_1.out.below hb)
    have z2 := hb.size
    clear ho hb lB B_1 R_1 HB1
    have c0 := R_2.out.at 0 rfl; have c1 := R_2.out.at 1 rfl; have f0 := R_2.out.free 0 rfl; have f1 := R_2.out.free 1 rfl; have lR := R_2.out.1
    go_wp2
    refine bodyPost_ret (v := .agg #[.int .i64 0, .slice ra (rootsH T N).length rc]) (by simp [results, Try.results40, go_sem, c0, c1, World.cell?_setCell_other, World.cell?_setCell_same']) rfl ⟨ra, rc, rfl, ?_, ?_⟩
    · exact own_two2 HO.out (by omega) (by omega)
    · repeat (first | (with_reducible refine Below.setCell ?_ (by (try simp); (try omega)) _) | (with_reducible refine Below.alloc ?_ (by (try simp); (try omega)) _))
      exact HB2.out
end Go.Proofs.Ytpmhbdiddcnhfaa

namespace Go.Proofs.Ytpmhbdiddcnhfaa
open Go.RowKit
set_option linter.unusedVariables false

set_option maxRecDepth 100000 in
set_option maxHeartbeats 3200000 in
theorem implRh_any (h ac bu : Int) (a : Option Addr) (n c : Nat) (f : Nat → Int) (ta : Option Addr) (N tc : Nat) (T : Nat → TN) (k : Int) (K : Nat) (U : Nat → Int) (w : World) (hs : Src w a n f) (hcn : n ≤ c) (hcm : c ≤ maxLen) (ht : TV w ta N T) (hN : N ≤ maxLen) (hn : ∀ i, i < N → (T i).n ≤ maxLen)
    (hr : ∀ i, i < N → ∀ j, j < (T i).n → -9223372036854775808 ≤ ((T i).S j).nd ∧ ((T i).S j).nd ≤ 9223372036854775807) (hk : IsRh h n f ac bu N T k K U) :
    Calls Try.prog 41 #[.agg #[.int .i64 h, .slice a n c, .int .i64 ac, .int .i64 bu, .slice ta N tc]] w (RetIsR w k K U) := by
  have S0 := Lib.hid hs; have T0 := Lib.hid ht; have HN := Lib.hid hn; have HR := Lib.hid hr; have HCM := Lib.hid hcm
  have B_0 := Lib.hid ((Blk.new_at (w := w) (cs := #[.int .i64 h, .slice a n c, .int .i64 ac, .int .i64 bu, .slice ta N tc]) (t := 65) w.heap.size rfl).alloc (.cells #[.int .i64 0, .slice none 0 0] 70))
  have R_0 := Lib.hid (Blk.new_at (w := w.alloc (.cells #[.int .i64 h, .slice a n c, .int .i64 ac, .int .i64 bu, .slice ta N tc] 65)) (cs := #[.int .i64 0, .slice none 0 0]) (t := 70) (w.heap.size + 1) (by simp))
  have HB0 : Hid (Below w.heap.size w ((w.alloc (.cells #[.int .i64 h, .slice a n c, .int .i64 ac, .int .i64 bu, .slice ta N tc] 65)).alloc (.cells #[.int .i64 0, .slice none 0 0] 70))) := ((Below.refl _ _).alloc (Nat.le_refl _) _).alloc (by simp) _
  have z0 : w.heap.size + 2 ≤ ((w.alloc (.cells #[.int .i64 h, .slice a n c, .int .i64 ac, .int .i64 bu, .slice ta N tc] 65)).alloc (.cells #[.int .i64 0, .slice none 0 0] 70)).heap.size := by simp
  have b0 := B_0.out.at 0 rfl; have b1 := B_0.out.at 1 rfl; have b2 := B_0.out.at 2 rfl; have b3 := B_0.out.at 3 rfl; have b4 := B_0.out.at 4 rfl; have lB := B_0.out.1
  have HKF : Hid (IsHpF h n f ac bu N T k) := Lib.hid (by
    rcases hk with ⟨_, h1, _⟩ | ⟨h0, h1, _⟩
    · exact h1
    · rw [h0]; exact h1)
  clear hs ht hn hr hcm
  go_enter Try.func41, Try.ntmps41
  go_wp2_with fail
  generalize ((w.alloc (.cells #[.int .i64 h, .slice a n c, .int .i64 ac, .int .i64 bu, .slice ta N tc] 65)).alloc (.cells #[.int .i64 0, .slice none 0 0] 70)) = w0 at *
  refine (implHpF_any h ac bu a n c f ta N tc T k _ (S0.out.below HB0.out) hcn HCM.out (T0.out.below HB0.out) hN HN.out HR.out HKF.out).mono ?_
  rintro e w1 ⟨rfl, hb⟩
  have HB1 := Lib.hid (thru0 HB0.out hb); have B_1 := Lib.hid (B_0.out.below hb); have R_1 := Lib.hid (R_0.out.below hb)
  have z1 := hb.size
  clear hb b0 b1 b2 b3 b4 lB B_0 R_0 HB0
  rcases hk with ⟨h0, -, rfl⟩ | ⟨rfl, -, ⟨L, h1, h2, h3⟩, rfl, rfl⟩
  · have hq : (k != 0) = true := by simp [h0]
    have c0 := R_1.out.at 0 rfl; have c1 := R_1.out.at 1 rfl; have f0 := R_1.out.free 0 rfl; have f1 := R_1.out.free 1 rfl; have lR := R_1.out.1
    clear h0
    go_wp2
    refine bodyPost_ret (v := .agg #[.int .i64 k, .slice none 0 0]) (by simp [results, Try.results41, go_sem, c0, c1, World.cell?_setCell_other, World.cell?_setCell_same']) rfl ⟨none, 0, rfl, .inl rfl, ?_⟩
    repeat (first | (with_reducible refine Below.setCell ?_ (by (try simp); (try omega)) _) | (with_reducible refine Below.alloc ?_ (by (try simp); (try omega)) _))
    exact HB1.out
  · have HOK := Lib.hid (hpOk_of h3)
    have HPL : Hid (∀ x ∈ L, 0 ≤ x.at_ ∧ x.at_ ≤ 1000000) := Lib.hid (fun x hx => (objs_word h1 h2 x hx).1)
    have hN4 := HOK.out.n.2
    have b4 := B_1.out.at 4 rfl; have lB := B_1.out.1
    clear h1 h2 h3
    go_wp2
    clear b4 lB
    go_loopw [4, 16] (fun u p wr => ∃ (i : Nat) (R : List Int), i ≤ N ∧ p = .int .i64 (i : Int) ∧ Hid (R = rootsH T i) ∧ Hid (Below w1.heap.size w1 wr) ∧ Hid (wr.ownsRow w1.heap.size 2 1 u R.length (nums R.length (lf R)))) (fun _ p _ => N - (intOf p).toNat)
    case atStart => exact ⟨0, [], Nat.zero_le _, rfl, Lib.hid rfl, Below.refl _ _, World.ownsRow_nil _ _ _ _⟩
    case round =>
      obtain ⟨i, R, hi, rfl, HL, HB_r, OW_r⟩ := hrel
      have hzr := HB_r.out.size
      have HBr := Lib.hid (thru0 HB1.out HB_r.out)
      by_cases hlt : i < N
      · have hlt' : (i : Int) < (N : Int) := by omega
        have hi0 : (0 : Int) ≤ (i : Int) := by omega
        obtain ⟨tb, tq, rfl, lt, ⟨g0, g1, g2⟩, -⟩ := tv_get (T0.out.below HBr.out) hlt
        have hzr2 := HBr.out.size
        have HALr : Hid (Below w.heap.size w (wr.alloc (.cells #[.int .i64 (T i).q, .int .i64 (T i).h, .slice (T i).a (T i).n (T i).c] 124))) := Lib.hid (HBr.out.alloc hzr2 _)
        have HSL := Lib.hid (tv_get (T0.out.below HALr.out) hlt)
        have HL2 : Hid (R ++ rootsS (T i).S (T i).n = rootsH T (i + 1)) := Lib.hid (by rw [HL.out]; rfl)
        have hrl : R.length ≤ 8 * i := by rw [HL.out]; exact rootsH_len fun j hj => HOK.out.t j (by omega)
        have HOKI := Lib.hid (HOK.out.t i hlt)
        have HAL : Hid (Below w1.heap.size w1 (wr.alloc (.cells #[.int .i64 (T i).q, .int .i64 (T i).h, .slice (T i).a (T i).n (T i).c] 124))) := Lib.hid (HB_r.out.alloc hzr _)
        have OWA := Lib.hid (OW_r.out.alloc (.cells #[.int .i64 (T i).q, .int .i64 (T i).h, .slice (T i).a (T i).n (T i).c] 124))
        clear HL
        generalize T i = t at *
        go_wp2_with fail
        obtain ⟨_, _, -, -, -, hsl⟩ := HSL.out
        refine (rootsOf_any t.a t.n t.c t.S _ hsl HOKI.out.n.2 (tnok_nd HOKI.out HPL.out)).mono ?_
        rintro e w2 ⟨ra, rc, rfl, ho, hb, -, -, hna⟩
        have HB2 := Lib.hid (thru0 HAL.out hb); have HS2 := Lib.hid ho.src
        have OW2 := Lib.hid (ownsRow_below OWA.out hb)
        have HNA := Lib.hid hna
        have hl8 : (rootsS t.S t.n).length ≤ 8 := Nat.le_trans (rootsS_len _ _) HOKI.out.n.2
        have HGE : Hid (∀ k, u4.ownBlock = some k → w1.heap.size ≤ k) := Lib.hid (fun k hk => (OW2.out.lt k hk).1)
        have z2 : w1.heap.size ≤ w2.heap.size := HB2.out.size
        clear hb ho hna hsl g0 g1 g2
        go_wp2_with (at_builtin; go_loud (refine append_src rfl _ _ rfl w1.heap.size u4 R.length (nums R.length (lf R)) rfl OW2.out ra _ rc _ rfl HS2.out HNA.out (by omega) z2 ?_); intro v9 w9 hown9 hgrow9)
        have HB9 : Hid (Below w1.heap.size w1 w9) := HB2.out.grown hgrow9 z2 (fun k hk => HGE.out k hk)
        have OW9 : Hid (w9.ownsRow w1.heap.size 2 1 v9 (R ++ rootsS t.S t.n).length (nums (R ++ rootsS t.S t.n).length (lf (R ++ rootsS t.S t.n)))) := Lib.hid (by rw [← nums_app, List.length_append]; exact hown9)
        clear hown9 hgrow9 HS2 OW2 HNA
        generalize R ++ rootsS t.S t.n = R2 at *
        go_wp2
        go_roundw
        case rel => first | exact ⟨i + 1, R2, by omega, by go_num, HL2, HB9, OW9⟩ | ((repeat apply Exists.intro); exact ⟨⟨i + 1, R2, by omega, by go_num, HL2, HB9, OW9⟩, rfl⟩)
        case measure => simp [intOf]; omega
      · have hlt' : ¬ (i : Int) < (N : Int) := by omega
        obtain rfl : i = N := by omega
        obtain ⟨ra, rc, e', -, -, -⟩ := row_shape OW_r.out
        subst e'
        have HO := Lib.hid (own_of_row OW_r.out)
        have hL := HL.out
        subst hL
        have R_2 := Lib.hid (R_1.out.below HB_r.out)
        have c0 := R_2.out.at 0 rfl; have c1 := R_2.out.at 1 rfl; have f0 := R_2.out.free 0 rfl; have f1 := R_2.out.free 1 rfl; have lR := R_2.out.1
        clear HL OW_r
        go_wp2
        refine bodyPost_ret (v := .agg #[.int .i64 0, .slice ra (rootsH T i).length rc]) (by simp [results, Try.results41, go_sem, c0, c1, World.cell?_setCell_other, World.cell?_setCell_same']) rfl ⟨ra, rc, rfl, ?_, ?_⟩
        · exact own_two2 HO.out (by omega) (by omega)
        · repeat (first | (with_reducible refine Below.setCell ?_ (by (try simp); (try omega)) _) | (with_reducible refine Below.alloc ?_ (by (try simp); (try omega)) _))
          exact HBr.out
end Go.Proofs.Ytpmhbdiddcnhfaa

namespace Go.Proofs.Ytpmhbdiddcnhfaa
open Go.RowKit
set_option linter.unusedVariables false

set_option maxRecDepth 100000 in
set_option maxHeartbeats 6400000 in
theorem e8_any (h ac bu : Int) (a : Option Addr) (n c : Nat) (f : Nat → Int) (ta : Option Addr) (N tc : Nat) (T : Nat → TN) (w : World)
    (s1 : Src w a n f) (hn : n ≤ maxLen) (t1 : TV w ta N T) (hN : N ≤ maxLen) (hm : ∀ i, i < N → (T i).n ≤ maxLen) (hw : ∀ i, i < N → TnW (T i)) :
    Calls Try.prog 8 #[.agg #[.int .i64 h, .slice a n c, .int .i64 ac, .int .i64 bu, .slice ta N tc]] w (RetBool w true) := by
  obtain ⟨co, K, U, hk⟩ := isRh_some h n f ac bu N T
  have hK9 := isRh_small hk
  have hK1 : K ≤ 1048576 := by omega
  have HK := Lib.hid hk; have S1 := Lib.hid s1; have T1 := Lib.hid t1; have HM := Lib.hid hm; have HW := Lib.hid hw
  have A_0 := Lib.hid (Blk.new_at (w := w) (cs := #[.int .i64 h, .slice a n c, .int .i64 ac, .int .i64 bu, .slice ta N tc]) (t := 59) w.heap.size rfl)
  have HB0 := Lib.hid ((Below.refl w.heap.size w).alloc (Nat.le_refl _) (.cells #[.int .i64 h, .slice a n c, .int .i64 ac, .int .i64 bu, .slice ta N tc] 59))
  have c0 := A_0.out.at 0 rfl; have c1 := A_0.out.at 1 rfl; have c2 := A_0.out.at 2 rfl; have c3 := A_0.out.at 3 rfl; have c4 := A_0.out.at 4 rfl; have lA := A_0.out.1
  clear hk s1 t1 hm hw
  go_enter Try.func8, Try.ntmps8
  go_wp2_with fail
  refine (szHeap_any h ac bu a n c ta N tc T 1048576 _ (T1.out.below HB0.out) hn hN HM.out (by omega) (by omega)).mono ?_
  rintro e w1 ⟨hb, r, rfl, hr1, hr2⟩
  have HB1 := Lib.hid (thru0 HB0.out hb)
  have A_1 := Lib.hid (A_0.out.below hb)
  clear hb c0 c1 c2 c3 c4 lA A_0 HB0
  rcases hr2 with rfl | ⟨h0, h1, h2, h3⟩
  · go_wp2
    go_ret
    exact ⟨rfl, HB1.out⟩
  have h9 : ¬ r < 0 := by omega
  have hn1 : n ≤ 1048576 := by omega
  have hN1 : N ≤ 1048576 := by omega
  have HM1 : Hid (∀ i, i < N → (T i).n ≤ 1048576) := Lib.hid fun i hi => by have := h3 i hi; omega
  clear h1 h2 h3 HM hn hN
  have c0 := A_1.out.at 0 rfl; have c1 := A_1.out.at 1 rfl; have c2 := A_1.out.at 2 rfl; have c3 := A_1.out.at 3 rfl; have c4 := A_1.out.at 4 rfl; have lA := A_1.out.1
  go_wp2_with fail
  refine (toHeap_any h ac bu a n c f ta N tc T _ (S1.out.below HB1.out) (T1.out.below HB1.out) hn1 hN1 HM1.out).mono ?_
  rintro e w2 ⟨sa, sc, st, sk, sm, G0, rfl, go, gp, _, _, gs, hb, gc1, gc2⟩
  have HB2 := Lib.hid (thru0 HB1.out hb)
  have A_2 := Lib.hid (A_1.out.below hb)
  have P2 := Lib.hid go.src; have G2 := Lib.hid gp.src; have S2 := Lib.hid gs; have C2 := Lib.hid gc2
  clear hb c0 c1 c2 c3 c4 lA A_1 HB1 go gp gs gc2
  go_wp2_with fail
  refine (specRh_any h ac bu sa n sc f st N sk G0 co K U _ P2.out gc1 C2.out G2.out (max_of hN1) (tnsame_max S2.out HM1.out) (tnw_nd HW.out S2.out) (isRh_same HK.out S2.out)).mono ?_
  rintro e w3 ⟨wa, wc, rfl, ho, hb⟩
  have HB3 := Lib.hid (thru0 HB2.out hb)
  have A_3 := Lib.hid (A_2.out.below hb)
  have z3 : w2.heap.size ≤ w3.heap.size := hb.size
  have Rw_3 : Hid (OwnIn w3 w2.heap.size w3.heap.size wa K U) := Lib.hid ho.into
  clear hb A_2 HB2 P2 G2 S2 C2 gc1 ho
  have HB4 := Lib.hid (HB3.out.alloc HB3.out.size (.cells #[.int .i64 co, .slice wa K wc] 70))
  have A_4 := Lib.hid (A_3.out.alloc (.cells #[.int .i64 co, .slice wa K wc] 70))
  have W_4 := Lib.hid (Blk.new_at (w := w3) (cs := #[.int .i64 co, .slice wa K wc]) (t := 70) w3.heap.size rfl)
  have Rw_4 := Lib.hid (Rw_3.out.alloc (.cells #[.int .i64 co, .slice wa K wc] 70))
  have z4 : w3.heap.size + 1 ≤ (w3.alloc (.cells #[.int .i64 co, .slice wa K wc] 70)).heap.size := by simp
  have c0 := A_4.out.at 0 rfl; have c1 := A_4.out.at 1 rfl; have c2 := A_4.out.at 2 rfl; have c3 := A_4.out.at 3 rfl; have c4 := A_4.out.at 4 rfl; have lA := A_4.out.1
  clear A_3 HB3
  go_wp2_with fail
  generalize w3.alloc (.cells #[.int .i64 co, .slice wa K wc] 70) = w4 at *
  have zA4 := A_4.out.1
  refine (toHeap_any h ac bu a n c f ta N tc T _ (S1.out.below HB4.out) (T1.out.below HB4.out) hn1 hN1 HM1.out).mono ?_
  rintro e w5 ⟨xa, xc, xt, xk, xm, X, rfl, p4, g4, xz1, xz2, s4, hb, xc1, xc2⟩
  have HB5 := Lib.hid (thru0 HB4.out hb)
  have A_5 := Lib.hid (A_4.out.below hb); have W_5 := Lib.hid (W_4.out.below hb)
  have Rw_5 := Lib.hid (Rw_4.out.below hb)
  have P5 := Lib.hid p4; have G5 := Lib.hid g4; have S4 := Lib.hid s4; have C4 := Lib.hid xc2
  clear hb c0 c1 c2 c3 c4 lA A_4 W_4 HB4 p4 g4 s4 xc2
  have hnX : ∀ i, i < N → (X i).n ≤ 1048576 := tnsame_n S4.out HM1.out
  have hnoff : toff X N ≤ 2199025352704 := by have := toff_big N hnX; have : N * 2097154 ≤ 1048576 * 2097154 := Nat.mul_le_mul_right _ hN1; omega
  have HNO := Lib.hid hnoff
  clear hnX hnoff
  have z5 : w4.heap.size ≤ w5.heap.size := by omega
  generalize w3.heap.size = W0 at *
  go_wp2_with fail
  have A_6 := Lib.hid (A_5.out.alloc (.cells #[.int .i64 h, .slice xa n xc, .int .i64 ac, .int .i64 bu, .slice xt N xk] 65)); have W_6 := Lib.hid (W_5.out.alloc (.cells #[.int .i64 h, .slice xa n xc, .int .i64 ac, .int .i64 bu, .slice xt N xk] 65))
  have X_6 := Lib.hid (Blk.new_at (w := w5) (cs := #[.int .i64 h, .slice xa n xc, .int .i64 ac, .int .i64 bu, .slice xt N xk]) (t := 65) w5.heap.size rfl)
  have HB6 := Lib.hid (HB5.out.alloc HB5.out.size (.cells #[.int .i64 h, .slice xa n xc, .int .i64 ac, .int .i64 bu, .slice xt N xk] 65))
  have P6 := Lib.hid (P5.out.alloc (.cells #[.int .i64 h, .slice xa n xc, .int .i64 ac, .int .i64 bu, .slice xt N xk] 65))
  have G6 := Lib.hid (G5.out.alloc (.cells #[.int .i64 h, .slice xa n xc, .int .i64 ac, .int .i64 bu, .slice xt N xk] 65))
  have Rw_6 := Lib.hid (Rw_5.out.alloc (.cells #[.int .i64 h, .slice xa n xc, .int .i64 ac, .int .i64 bu, .slice xt N xk] 65))
  have z6 : w5.heap.size + 1 ≤ (w5.alloc (.cells #[.int .i64 h, .slice xa n xc, .int .i64 ac, .int .i64 bu, .slice xt N xk] 65)).heap.size := by simp
  clear A_5 W_5 HB5 P5 G5
  generalize w5.alloc (.cells #[.int .i64 h, .slice xa n xc, .int .i64 ac, .int .i64 bu, .slice xt N xk] 65) = w6 at *
  generalize w5.heap.size = X0 at *
  refine (implRh_any h ac bu xa n xc f xt N xk X co K U _ P6.out.src xc1 C4.out G6.out.src (max_of hN1) (tnsame_max S4.out HM1.out) (tnw_nd HW.out S4.out) (isRh_same HK.out S4.out)).mono ?_
  rintro e w7 ⟨ga, gc, rfl, ho, hb⟩
  have HB7 := Lib.hid (thru0 HB6.out hb)
  have A_7 := Lib.hid (A_6.out.below hb); have W_7 := Lib.hid (W_6.out.below hb); have X_7 := Lib.hid (X_6.out.below hb); have P7 := Lib.hid (P6.out.below hb); have G7 := Lib.hid (G6.out.below hb)
  have z7 : w6.heap.size ≤ w7.heap.size := hb.size
  have Rw_7 := Lib.hid (Rw_6.out.below hb)
  have Rg_7 : Hid (OwnIn w7 w6.heap.size w7.heap.size ga K U) := Lib.hid ho.into
  clear hb A_6 W_6 X_6 HB6 P6 G6 ho
  have d0 := W_7.out.at 0 rfl; have d1 := W_7.out.at 1 rfl; have lW := W_7.out.1
  have A_8 := Lib.hid (A_7.out.alloc (.cells #[.int .i64 co, .slice ga K gc] 70)); have W_8 := Lib.hid (W_7.out.alloc (.cells #[.int .i64 co, .slice ga K gc] 70)); have X_8 := Lib.hid (X_7.out.alloc (.cells #[.int .i64 co, .slice ga K gc] 70)); have P8 := Lib.hid (P7.out.alloc (.cells #[.int .i64 co, .slice ga K gc] 70)); have G8 := Lib.hid (G7.out.alloc (.cells #[.int .i64 co, .slice ga K gc] 70))
  have Y_8 := Lib.hid (Blk.new_at (w := w7) (cs := #[.int .i64 co, .slice ga K gc]) (t := 70) w7.heap.size rfl)
  have HB8 := Lib.hid (HB7.out.alloc HB7.out.size (.cells #[.int .i64 co, .slice ga K gc] 70))
  have Rw_8 := Lib.hid (Rw_7.out.alloc (.cells #[.int .i64 co, .slice ga K gc] 70))
  have Rg_8 := Lib.hid (Rg_7.out.alloc (.cells #[.int .i64 co, .slice ga K gc] 70))
  have z8 : w7.heap.size + 1 ≤ (w7.alloc (.cells #[.int .i64 co, .slice ga K gc] 70)).heap.size := by simp
  go_wp2_with fail
  clear d0 d1 lW A_7 W_7 X_7 P7 G7 HB7
  generalize w7.alloc (.cells #[.int .i64 co, .slice ga K gc] 70) = w8 at *
  generalize w7.heap.size = Y0 at *
  refine (eqIR_same _ _ _ _ _ _ U U _ Rg_8.out.src Rw_8.out.src hK1 (fun _ _ => rfl)).mono ?_
  rintro e w9 ⟨rfl, hb⟩
  have HB9 := Lib.hid (thru0 HB8.out hb)
  have A_9 := Lib.hid (A_8.out.below hb); have W_9 := Lib.hid (W_8.out.below hb); have X_9 := Lib.hid (X_8.out.below hb); have P9 := Lib.hid (P8.out.below hb); have G9 := Lib.hid (G8.out.below hb); have Y_9 := Lib.hid (Y_8.out.below hb)
  have Rw_9 := Lib.hid (Rw_8.out.below hb)
  have Rg_9 := Lib.hid (Rg_8.out.below hb)
  have z9 : w8.heap.size ≤ w9.heap.size := hb.size
  clear hb A_8 W_8 X_8 P8 G8 Y_8 HB8
  have c0 := A_9.out.at 0 rfl; have c1 := A_9.out.at 1 rfl; have c2 := A_9.out.at 2 rfl; have c3 := A_9.out.at 3 rfl; have c4 := A_9.out.at 4 rfl; have lA := A_9.out.1
  have d0 := X_9.out.at 0 rfl; have d1 := X_9.out.at 1 rfl; have d2 := X_9.out.at 2 rfl; have d3 := X_9.out.at 3 rfl; have d4 := X_9.out.at 4 rfl; have lX := X_9.out.1
  go_wp2_with fail
  have A_d := Lib.hid A_9.out.drew; have X_d := Lib.hid X_9.out.drew; have HB_d := Lib.hid HB9.out.drew
  go_region_held3 (fun w' => w'.cell? ⟨w.heap.size, 0, none⟩ = some (.int .i64 h) ∧ w'.cell? ⟨w.heap.size, 1, none⟩ = some (.slice a n c) ∧ w'.cell? ⟨w.heap.size, 2, none⟩ = some (.int .i64 ac) ∧ w'.cell? ⟨w.heap.size, 3, none⟩ = some (.int .i64 bu) ∧ w'.cell? ⟨w.heap.size, 4, none⟩ = some (.slice ta N tc) ∧ w'.cell? ⟨X0, 0, none⟩ = some (.int .i64 h) ∧ w'.cell? ⟨X0, 1, none⟩ = some (.slice xa n xc) ∧ w'.cell? ⟨X0, 2, none⟩ = some (.int .i64 ac) ∧ w'.cell? ⟨X0, 3, none⟩ = some (.int .i64 bu) ∧ w'.cell? ⟨X0, 4, none⟩ = some (.slice xt N xk))
    (first | (with_reducible exact cap10Y A_9.out X_9.out) | (with_reducible exact cap10Y A_d.out X_d.out) | (with_reducible exact cap10Y A_10.out X_10.out) | (with_reducible exact cap10Y A_11.out X_11.out))
    (first | (go_at_call 37; refine (toHeap_any h ac bu a n c f ta N tc T _ (S1.out.below HB_d.out) (T1.out.below HB_d.out) hn1 hN1 HM1.out).mono ?_; rintro e w10 ⟨ya, yc, yt, yk, ym, Y, rfl, p7, g7, _, _, s7, hb, _, _⟩; have HB10 := Lib.hid (thru0 HB_d.out hb); have hb10 : Below w9.heap.size w9 w10 := (Below.refl _ _).drew.trans (hb.mono (by simp)); have BT10 := Lib.hid hb10; have A_10 := Lib.hid (A_9.out.below hb10); have X_10 := Lib.hid (X_9.out.below hb10); have P10 := Lib.hid (P9.out.below hb10); have G10 := Lib.hid (G9.out.below hb10); have P10' := Lib.hid p7.src; have G10' := Lib.hid g7.src; have S7 := Lib.hid (show ∀ i, i < N → TnSame (X i) (Y i) from fun i hi => tnsame_trans (tnsame_symm (S4.out i hi)) (s7 i hi)); clear hb hb10 p7 g7 s7) | (go_at_call 39; refine (eqHeap_same h ac bu xa ya n xc yc f f xt yt N xk yk X Y _ P10.out.src P10'.out G10.out.src G10'.out (fun _ _ => rfl) S7.out hn1 hN1 (tnsame_n S4.out HM1.out)).mono ?_; rintro e w11 ⟨rfl, hb⟩; have HB11 := Lib.hid (thru0 HB10.out hb); have BT11 := Lib.hid (thru0 BT10.out hb); have A_11 := Lib.hid (A_10.out.below hb); have X_11 := Lib.hid (X_10.out.below hb); clear hb))
  have W_11 := Lib.hid (W_9.out.below BT11.out); have P11 := Lib.hid (P9.out.below BT11.out); have G11 := Lib.hid (G9.out.below BT11.out); have Y_11 := Lib.hid (Y_9.out.below BT11.out)
  have Rw_11 := Lib.hid (Rw_9.out.below BT11.out)
  have Rg_11 := Lib.hid (Rg_9.out.below BT11.out)
  have z11 : w9.heap.size ≤ w11.heap.size := BT11.out.size
  clear c0 c1 c2 c3 c4 lA d0 d1 d2 d3 d4 lX A_9 X_9 A_d X_d HB_d HB9 W_9 P9 G9 Y_9 A_10 X_10 P10 G10 P10' G10' S7 BT10 BT11 HB10
  have d0 := X_11.out.at 0 rfl; have d1 := X_11.out.at 1 rfl; have d2 := X_11.out.at 2 rfl; have d3 := X_11.out.at 3 rfl; have d4 := X_11.out.at 4 rfl; have lX := X_11.out.1
  go_wp2_with fail
  refine (markHeap_big h ac bu xa n xc f xt N xk X w4.heap.size xm X0 1 _ P11.out G11.out xz1 xz2 (by omega) hn1 (by omega) (by omega) (by have := HNO.out; omega) hN1).mono ?_
  rintro e w12 ⟨rfl, -, -, hkp⟩
  have HB12 := Lib.hid (HB11.out.trans (hkp.below (by omega) HB11.out.size))
  have A_12 := Lib.hid (A_11.out.keeps hkp (.inl (by omega))); have W_12 := Lib.hid (W_11.out.keeps hkp (.inl (by omega))); have Y_12 := Lib.hid (Y_11.out.keeps hkp (.inr (by omega)))
  have Rw_12 := Lib.hid (Rw_11.out.keeps hkp (.inl (by omega)))
  have Rg_12 := Lib.hid (Rg_11.out.keeps hkp (.inr (by omega)))
  have z12 : w11.heap.size ≤ w12.heap.size := hkp.size
  obtain ⟨kk, hkk⟩ : ∃ kk, kk = 1 + (n : Int) + (toff X N : Int) := ⟨_, rfl⟩
  rw [← hkk]
  have hkk0 : ¬ kk < 0 := by omega
  clear hkk hkp d0 d1 d2 d3 d4 lX A_11 X_11 W_11 P11 G11 Y_11 HB11
  have d0 := W_12.out.at 0 rfl; have d1 := W_12.out.at 1 rfl; have lW := W_12.out.1
  have e0 := Y_12.out.at 0 rfl; have e1 := Y_12.out.at 1 rfl; have lY := Y_12.out.1
  go_wp2_with fail
  refine (eqIR_same _ _ _ _ _ _ U U _ Rg_12.out.src Rw_12.out.src hK1 (fun _ _ => rfl)).mono ?_
  rintro e w13 ⟨rfl, hb⟩
  have HB13 := Lib.hid (thru0 HB12.out hb)
  have A_13 := Lib.hid (A_12.out.below hb); have W_13 := Lib.hid (W_12.out.below hb); have Y_13 := Lib.hid (Y_12.out.below hb)
  have Rw_13 := Lib.hid (Rw_12.out.below hb)
  have Rg_13 := Lib.hid (Rg_12.out.below hb)
  have z13 : w12.heap.size ≤ w13.heap.size := hb.size
  clear hb d0 e0 d1 e1 lW lY A_12 W_12 Y_12 HB12
  have e0 := Y_13.out.at 0 rfl; have e1 := Y_13.out.at 1 rfl; have lY := Y_13.out.1

  go_wp2_with fail
  refine (markIR_any _ _ _ _ _ _ _ _ _ Rg_13.out hK1 (by omega) (by omega)).mono ?_
  rintro e w14 ⟨rfl, ho, hkp⟩
  have HB14 := Lib.hid (HB13.out.trans (hkp.below (by omega) HB13.out.size))
  have A_14 := Lib.hid (A_13.out.keeps hkp (.inl (by omega))); have W_14 := Lib.hid (W_13.out.keeps hkp (.inl (by omega))); have Y_14 := Lib.hid (Y_13.out.keeps hkp (.inr (by omega)))
  have Rw_14 := Lib.hid (Rw_13.out.keeps hkp (.inl (by omega)))
  have Mg_14 : Hid (OwnIn w14 w6.heap.size Y0 ga K (fun i => 1 + i)) := Lib.hid ho
  have z14 : w13.heap.size ≤ w14.heap.size := hkp.size
  clear hkp e0 e1 lY A_13 W_13 Y_13 HB13 ho
  have e0 := Y_14.out.at 0 rfl; have e1 := Y_14.out.at 1 rfl; have lY := Y_14.out.1
  go_wp2_with fail
  refine (heldIR_any _ _ _ _ 1 _ Mg_14.out.src hK1 (by omega) (by omega)).mono ?_
  rintro e w15 ⟨rfl, hb⟩
  skip
  have HB15 := Lib.hid (thru0 HB14.out hb)
  have A_15 := Lib.hid (A_14.out.below hb); have W_15 := Lib.hid (W_14.out.below hb); have Y_15 := Lib.hid (Y_14.out.below hb)
  have Rw_15 := Lib.hid (Rw_14.out.below hb)
  have Mg_15 := Lib.hid (Mg_14.out.below hb)
  have z15 : w14.heap.size ≤ w15.heap.size := hb.size
  clear hb e0 e1 lY A_14 W_14 Y_14 HB14
  have c0 := A_15.out.at 0 rfl; have c1 := A_15.out.at 1 rfl; have c2 := A_15.out.at 2 rfl; have c3 := A_15.out.at 3 rfl; have c4 := A_15.out.at 4 rfl; have lA := A_15.out.1
  go_wp2_with fail
  refine (toHeap_any h ac bu a n c f ta N tc T _ (S1.out.below HB15.out) (T1.out.below HB15.out) hn1 hN1 HM1.out).mono ?_
  rintro e w16 ⟨va, vc, vt, vk, vm, V, rfl, p7, g7, _, _, s7, hb, vc1, vc2⟩
  have HB16 := Lib.hid (thru0 HB15.out hb)
  have W_16 := Lib.hid (W_15.out.below hb); have Y_16 := Lib.hid (Y_15.out.below hb); have P16 := Lib.hid p7.src; have G16 := Lib.hid g7.src; have S7 := Lib.hid s7; have C7 := Lib.hid vc2
  have Rw_16 := Lib.hid (Rw_15.out.below hb)
  have Mg_16 := Lib.hid (Mg_15.out.below hb)
  have z16 : w15.heap.size ≤ w16.heap.size := hb.size
  clear hb c0 c1 c2 c3 c4 lA A_15 W_15 Y_15 HB15 p7 g7 s7 vc2
  go_wp2_with fail
  refine (implRh_any h ac bu va n vc f vt N vk V co K U _ P16.out vc1 C7.out G16.out (max_of hN1) (tnsame_max S7.out HM1.out) (tnw_nd HW.out S7.out) (isRh_same HK.out S7.out)).mono ?_
  rintro e w17 ⟨ha, hc, rfl, ho, hb⟩
  have HB17 := Lib.hid (thru0 HB16.out hb)
  have W_17 := Lib.hid (W_16.out.below hb); have Y_17 := Lib.hid (Y_16.out.below hb)
  have Rw_17 := Lib.hid (Rw_16.out.below hb)
  have Mg_17 := Lib.hid (Mg_16.out.below hb)
  have z17 : w16.heap.size ≤ w17.heap.size := hb.size
  have Rh_17 : Hid (OwnIn w17 w16.heap.size w17.heap.size ha K U) := Lib.hid ho.into
  clear hb W_16 Y_16 HB16 P16 G16 S7 C7 vc1 ho
  have d0 := W_17.out.at 0 rfl; have d1 := W_17.out.at 1 rfl; have lW := W_17.out.1
  have W_18 := Lib.hid (W_17.out.alloc (.cells #[.int .i64 co, .slice ha K hc] 70)); have Y_18 := Lib.hid (Y_17.out.alloc (.cells #[.int .i64 co, .slice ha K hc] 70))
  have HB18 := Lib.hid (HB17.out.alloc HB17.out.size (.cells #[.int .i64 co, .slice ha K hc] 70))
  have Rw_18 := Lib.hid (Rw_17.out.alloc (.cells #[.int .i64 co, .slice ha K hc] 70))
  have Mg_18 := Lib.hid (Mg_17.out.alloc (.cells #[.int .i64 co, .slice ha K hc] 70))
  have Rh_18 := Lib.hid (Rh_17.out.alloc (.cells #[.int .i64 co, .slice ha K hc] 70))
  go_wp2_with fail
  clear d0 d1 lW W_17 Y_17 HB17
  generalize w17.alloc (.cells #[.int .i64 co, .slice ha K hc] 70) = w18 at *
  refine (eqIR_same _ _ _ _ _ _ U U _ Rh_18.out.src Rw_18.out.src hK1 (fun _ _ => rfl)).mono ?_
  rintro e w19 ⟨rfl, hb⟩
  have HB19 := Lib.hid (thru0 HB18.out hb)
  have Y_19 := Lib.hid (Y_18.out.below hb)
  have Mg_19 := Lib.hid (Mg_18.out.below hb)
  clear hb W_18 Y_18 HB18
  have e0 := Y_19.out.at 0 rfl; have e1 := Y_19.out.at 1 rfl; have lY := Y_19.out.1
  go_wp2_with fail
  refine (heldIR_any _ _ _ _ 1 _ Mg_19.out.src hK1 (by omega) (by omega)).mono ?_
  rintro e w20 ⟨rfl, hb⟩
  skip
  have HB20 := Lib.hid (thru0 HB19.out hb)
  clear hb e0 e1 lY
  go_wp2
  go_ret
  exact ⟨rfl, HB20.out⟩
end Go.Proofs.Ytpmhbdiddcnhfaa

