/- Texts merged: R7 to Z17. -/
import Derived.Test.YtaenbjilcgpgcaaPTM2
import Derived.DeepKeys4
import Derived.WideKeyArgs2
namespace Go.Proofs.Ytaenbjilcgpgcaa
open Go.RowKit
set_option linter.unusedVariables false

/-- The first place of a node of this number, or how many there are. -/
def ixN (T : Nat → GM) (x : Int) : Nat → Nat
  | 0 => 0
  | K + 1 => if ixN T x K < K then ixN T x K else if (T K).at_ = x then K else K + 1

theorem ixN_at {T : Nat → GM} {x : Int} : ∀ {K : Nat}, ixN T x K < K → (T (ixN T x K)).at_ = x
  | 0, h => absurd h (Nat.not_lt_zero _)
  | K + 1, h => by
    by_cases h1 : ixN T x K < K
    · rw [ixN, if_pos h1]; exact ixN_at h1
    · by_cases h2 : (T K).at_ = x
      · rw [ixN, if_neg h1, if_pos h2]; exact h2
      · rw [ixN, if_neg h1, if_neg h2] at h; omega

theorem ixN_has {T : Nat → GM} {x : Int} : ∀ {K : Nat}, Has K T x → ixN T x K < K
  | 0, ⟨j, hj, _⟩ => absurd hj (Nat.not_lt_zero _)
  | K + 1, ⟨j, hj, he⟩ => by
    by_cases h1 : ixN T x K < K
    · rw [ixN, if_pos h1]; omega
    · by_cases h2 : (T K).at_ = x
      · rw [ixN, if_neg h1, if_pos h2]; omega
      · rcases Nat.lt_succ_iff_lt_or_eq.mp hj with h | h
        · exact absurd (ixN_has ⟨j, h, he⟩) h1
        · subst h; exact absurd he h2

theorem ixN_eq {K : Nat} {T : Nat → GM} (hr : MRise K T) {i : Nat} (hi : i < K) {x : Int} (he : (T i).at_ = x) : ixN T x K = i := by
  have h1 := ixN_has (T := T) (x := x) (K := K) ⟨i, hi, he⟩
  have h2 := ixN_at h1
  rcases Nat.lt_trichotomy (ixN T x K) i with h | h | h
  · have := rise_lt hr i _ h hi; omega
  · exact h
  · have := rise_lt hr _ i h h1; omega

/-- What of a list is not 0. -/
def nz (l : List Int) : List Int := l.filter (fun x => decide (¬ x = 0))

theorem mem_nz {l : List Int} {x : Int} : x ∈ nz l ↔ x ∈ l ∧ ¬ x = 0 := by simp [nz]

def add1z (O : List Int) (p : Int) : List Int := if p = 0 then O else add1 O p

theorem addz_snoc (O l : List Int) (p : Int) : addNew O (nz (l ++ [p])) = add1z (addNew O (nz l)) p := by
  unfold nz
  rw [List.filter_append, addNew_append]
  by_cases h : p = 0
  · simp [add1z, h, addNew]
  · simp [add1z, h, addNew, add1]

theorem addz_take {l : List Int} {i : Nat} (h : i < l.length) (O : List Int) : addNew O (nz (l.take (i + 1))) = add1z (addNew O (nz (l.take i))) (lf l i) := by
  rw [List.take_succ_eq_append_getElem h, addz_snoc, lf_at h]

/-- The numbers of the slots' nodes. -/
def slotL (M : Nat) (S : Nat → SL) : List Int := (List.range M).map fun i => (S i).nd

theorem slotL_len (M : Nat) (S : Nat → SL) : (slotL M S).length = M := by simp [slotL]

theorem slotL_lf {M : Nat} {S : Nat → SL} {i : Nat} (h : i < M) : lf (slotL M S) i = (S i).nd := by
  rw [lf_at (by rw [slotL_len]; exact h)]; simp [slotL]

theorem mem_slotL {M : Nat} {S : Nat → SL} {x : Int} : x ∈ slotL M S ↔ ∃ i, i < M ∧ (S i).nd = x := by simp [slotL]

/-- The node of a number. -/
def nodeM (K : Nat) (T : Nat → GM) (x : Int) : GM := T (ixN T x K)

/-- Where the pointers of the node of a number lead. -/
def ptrM (K : Nat) (T : Nat → GM) (x : Int) : List Int := nz (ptL (nodeM K T x) (nodeM K T x).n)

def idsM (K : Nat) (T : Nat → GM) : List Int := (List.range K).map fun i => (T i).at_

theorem idsM_len (K : Nat) (T : Nat → GM) : (idsM K T).length = K := by simp [idsM]

theorem mem_idsM {K : Nat} {T : Nat → GM} {x : Int} : x ∈ idsM K T ↔ Has K T x := by simp [idsM, Has]

/-- What is reached from the slots. -/
def reachM (M : Nat) (S : Nat → SL) (K : Nat) (T : Nat → GM) : List Int := reachL (ptrM K T) K (nz (slotL M S))

theorem nodeM_at {K : Nat} {T : Nat → GM} {x : Int} (h : Has K T x) : (nodeM K T x).at_ = x ∧ ∃ i, i < K ∧ nodeM K T x = T i := ⟨ixN_at (ixN_has h), _, ixN_has h, rfl⟩

theorem ptrM_sub {M : Nat} {S : Nat → SL} {K : Nat} {T : Nat → GM} (h : MLead M S K T) : ∀ x ∈ idsM K T, ∀ y ∈ ptrM K T x, y ∈ idsM K T := fun x hx y hy => by
  obtain ⟨hy1, hy0⟩ := mem_nz.1 hy
  obtain ⟨_, i, hi, he⟩ := nodeM_at (mem_idsM.1 hx)
  rw [he] at hy1
  obtain ⟨k, hk, hp, rfl⟩ := mem_ptL.1 hy1
  exact mem_idsM.2 ((h.2 i hi k hk hp).resolve_left hy0)

theorem slotM_sub {M : Nat} {S : Nat → SL} {K : Nat} {T : Nat → GM} (h : MLead M S K T) : ∀ x ∈ nz (slotL M S), x ∈ idsM K T := fun x hx => by
  obtain ⟨h1, h0⟩ := mem_nz.1 hx
  obtain ⟨i, hi, rfl⟩ := mem_slotL.1 h1
  exact mem_idsM.2 ((h.1 i hi).resolve_left h0)

section

variable {M : Nat} {S : Nat → SL} {K : Nat} {T : Nat → GM} {i : Nat} {O : List Int}

theorem reachM_has (h : MLead M S K T) {x : Int} (hx : x ∈ reachM M S K T) : Has K T x := mem_idsM.1 (reachL_sub _ _ _ _ (ptrM_sub h) (slotM_sub h) x hx)

theorem reachM_nodup (M : Nat) (S : Nat → SL) (K : Nat) (T : Nat → GM) : (reachM M S K T).Nodup := reachL_nodup _ _ _

theorem reachM_len (h : MLead M S K T) : (reachM M S K T).length ≤ K := by
  have := nodup_length (reachM_nodup M S K T) (U := idsM K T) (fun x hx => mem_idsM.2 (reachM_has h hx))
  rwa [idsM_len] at this

/-- The scan: the places from i on are still to be looked at. -/
structure MC (M : Nat) (S : Nat → SL) (K : Nat) (T : Nat → GM) (i : Nat) (O : List Int) : Prop where
  nd : O.Nodup
  sub : ∀ p ∈ O, Has K T p
  le : i ≤ O.length
  all : reachM M S K T = scanF (ptrM K T) (K - i) i O

theorem mc_start (h : MLead M S K T) : MC M S K T 0 (addNew [] (nz (slotL M S))) :=
  ⟨nodup_addNew _ _ List.nodup_nil, fun p hp => mem_idsM.1 (addNew_sub (slotM_sub h) p hp), Nat.zero_le _, rfl⟩

theorem mc_len (h : MC M S K T i O) : O.length ≤ K := by
  have := nodup_length h.nd (U := idsM K T) (fun x hx => mem_idsM.2 (h.sub x hx))
  rwa [idsM_len] at this

theorem mc_step (hl : MLead M S K T) (h : MC M S K T i O) (hi : i < O.length) : MC M S K T (i + 1) (addNew O (ptrM K T (lf O i))) := by
  have hK := mc_len h
  refine ⟨nodup_addNew _ _ h.nd, fun p hp => ?_, ?_, ?_⟩
  · rcases (mem_addNew _ _ _).1 hp with h1 | h1
    · exact h.sub p h1
    · exact mem_idsM.1 (ptrM_sub hl _ (mem_idsM.2 (h.sub _ (lf_mem hi))) _ h1)
  · have := (addNew_prefix (ptrM K T (lf O i)) O).length_le
    omega
  · rw [h.all, show K - i = (K - (i + 1)) + 1 by omega, scanF, if_pos hi]
    rfl

theorem mc_done (h : MC M S K T i O) (hi : ¬ i < O.length) : reachM M S K T = O := by rw [h.all, scanF_stop hi]

/-- Within a node: the first pointers have been looked at. -/
theorem mc_in_sub (hl : MLead M S K T) (h : MC M S K T i O) (hi : i < O.length) (k : Nat) : ∀ p ∈ addNew O (nz ((ptL (nodeM K T (lf O i)) (nodeM K T (lf O i)).n).take k)), Has K T p := fun p hp => by
  rcases (mem_addNew _ _ _).1 hp with h1 | h1
  · exact h.sub p h1
  · refine mem_idsM.1 (ptrM_sub hl (lf O i) (mem_idsM.2 (h.sub _ (lf_mem hi))) p ?_)
    obtain ⟨h2, h3⟩ := mem_nz.1 h1
    exact mem_nz.2 ⟨List.mem_of_mem_take h2, h3⟩

theorem mc_in_len (hl : MLead M S K T) (h : MC M S K T i O) (hi : i < O.length) (k : Nat) : (addNew O (nz ((ptL (nodeM K T (lf O i)) (nodeM K T (lf O i)).n).take k))).length ≤ K := by
  have := nodup_length (nodup_addNew (nz ((ptL (nodeM K T (lf O i)) (nodeM K T (lf O i)).n).take k)) O h.nd) (U := idsM K T) (fun x hx => mem_idsM.2 (mc_in_sub hl h hi k x hx))
  rwa [idsM_len] at this

end

/-- The number of a node, from 1 on; 0: it is none. -/
def nmM (R : List Int) (x : Int) : Int := numI R x + 1

theorem numI_bound (R : List Int) (x : Int) : -1 ≤ numI R x ∧ numI R x < (R.length : Int) := by
  unfold numI
  cases h : numL R x with
  | none => simp only; omega
  | some i =>
    have h1 : x ∈ R := by
      by_cases hx : x ∈ R
      · exact hx
      · rw [numL_none.2 hx] at h; cases h
    obtain ⟨j, h2, h3, _⟩ := numL_some h1
    rw [h] at h2; cases h2
    simp only; omega

theorem tab_nmM (R : List Int) (x : Int) : (tab R (fun i => (i : Int) + 1) x).getD 0 = nmM R x := by
  unfold tab nmM numI
  cases numL R x <;> simp

theorem nmM_zero {R : List Int} {x : Int} (h : x ∉ R) : nmM R x = 0 := by
  unfold nmM numI
  rw [numL_none.2 h]; rfl

/-- A tidy machine's slots and nodes. -/
def tdS (R : List Int) (S : Nat → SL) : Nat → SL := fun i => ⟨(S i).g, nmM R (S i).nd⟩

def tdF (R : List Int) (t : GM) : Nat → Int := fun k => if t.m / P2 (k : Int) % 2 = 1 then nmM R (t.f k) else t.f k

def tdN (R : List Int) (t : GM) (x : Int) : GM := { t with at_ := x, f := tdF R t }

def tdT (R : List Int) (K : Nat) (T : Nat → GM) : Nat → GM := fun i => tdN R (nodeM K T (lf R i)) ((i : Int) + 1)
end Go.Proofs.Ytaenbjilcgpgcaa

namespace Go.Proofs.Ytaenbjilcgpgcaa
open Go.RowKit
set_option linter.unusedVariables false

/-- A node, and what stands for it. -/
def NIso (φ : Int → Int) (t t' : GM) : Prop := t'.s = t.s ∧ t'.m = t.m ∧ t'.h = t.h ∧ t'.n = t.n ∧ ∀ k, k < t.n → t'.f k = if t.m / P2 (k : Int) % 2 = 1 then φ (t.f k) else t.f k

/-- Two machines that are alike over some nodes, from which nothing else is reached. -/
structure MIso (U : List Int) (φ : Int → Int) (M : Nat) (S : Nat → SL) (K : Nat) (T : Nat → GM) (S' : Nat → SL) (K' : Nat) (T' : Nat → GM) : Prop where
  nd : U.Nodup
  z : φ 0 = 0
  u0 : (0 : Int) ∉ U
  nz : ∀ x ∈ U, ¬ φ x = 0
  inj : ∀ x ∈ U, ∀ y ∈ U, φ x = φ y → x = y
  has : ∀ x ∈ U, Has K T x
  has' : ∀ x ∈ U, Has K' T' (φ x)
  slots : ∀ i, i < M → (S i).nd = 0 ∨ (S i).nd ∈ U
  slot : ∀ i, i < M → (S' i).g = (S i).g ∧ (S' i).nd = φ (S i).nd
  node : ∀ x ∈ U, NIso φ (nodeM K T x) (nodeM K' T' (φ x))
  clo : ∀ x ∈ U, ∀ k, k < (nodeM K T x).n → IsP (nodeM K T x) k → (nodeM K T x).f k = 0 ∨ (nodeM K T x).f k ∈ U

theorem nz_map {φ : Int → Int} (hz : φ 0 = 0) {l : List Int} (h : ∀ x ∈ l, ¬ x = 0 → ¬ φ x = 0) : nz (l.map φ) = (nz l).map φ := by
  induction l with
  | nil => rfl
  | cons x l ih =>
    have ih := ih fun y hy => h y (List.mem_cons_of_mem _ hy)
    unfold nz at ih ⊢
    by_cases h0 : x = 0
    · subst h0
      rw [List.map_cons, List.filter_cons_of_neg (by simp [hz]), List.filter_cons_of_neg (by simp)]
      exact ih
    · have h1 := h x (List.mem_cons_self ..) h0
      rw [List.map_cons, List.filter_cons_of_pos (by simp [h1]), List.filter_cons_of_pos (by simp [h0]), List.map_cons, ih]

theorem ptL_map {φ : Int → Int} {t t' : GM} (hm : t'.m = t.m) {n : Nat} (hf : ∀ k, k < n → t'.f k = if t.m / P2 (k : Int) % 2 = 1 then φ (t.f k) else t.f k) : ∀ k, k ≤ n → ptL t' k = (ptL t k).map φ
  | 0, _ => rfl
  | k + 1, hk => by
    have ih := ptL_map hm hf k (by omega)
    by_cases hp : t.m / P2 (k : Int) % 2 = 1
    · rw [ptL_yes hp, ptL_yes (by rw [hm]; exact hp), ih, hf k (by omega), if_pos hp]; simp
    · rw [ptL_no hp, ptL_no (by rw [hm]; exact hp), ih]

section

variable {U : List Int} {φ : Int → Int} {M : Nat} {S S' : Nat → SL} {K K' : Nat} {T T' : Nat → GM}

theorem MIso.ptr (h : MIso U φ M S K T S' K' T') : ∀ x ∈ U, ptrM K' T' (φ x) = (ptrM K T x).map φ := fun x hx => by
  obtain ⟨h1, h2, h3, h4, h5⟩ := h.node x hx
  unfold ptrM
  rw [h4, ptL_map h2 h5 _ (Nat.le_refl _)]
  refine nz_map h.z fun y hy h0 => ?_
  obtain ⟨k, hk, hp, rfl⟩ := mem_ptL.1 hy
  exact h.nz _ ((h.clo x hx k hk hp).resolve_left h0)

theorem MIso.sub (h : MIso U φ M S K T S' K' T') : ∀ x ∈ U, ∀ y ∈ ptrM K T x, y ∈ U := fun x hx y hy => by
  obtain ⟨h1, h0⟩ := mem_nz.1 hy
  obtain ⟨k, hk, hp, rfl⟩ := mem_ptL.1 h1
  exact (h.clo x hx k hk hp).resolve_left h0

theorem MIso.root (h : MIso U φ M S K T S' K' T') : ∀ x ∈ Go.Proofs.Ytaenbjilcgpgcaa.nz (slotL M S), x ∈ U := fun x hx => by
  obtain ⟨h1, h0⟩ := mem_nz.1 hx
  obtain ⟨i, hi, rfl⟩ := mem_slotL.1 h1
  exact (h.slots i hi).resolve_left h0

theorem MIso.roots (h : MIso U φ M S K T S' K' T') : Go.Proofs.Ytaenbjilcgpgcaa.nz (slotL M S') = (Go.Proofs.Ytaenbjilcgpgcaa.nz (slotL M S)).map φ := by
  have e : slotL M S' = (slotL M S).map φ := by
    unfold slotL
    rw [List.map_map]
    refine List.map_congr_left fun i hi => ?_
    exact (h.slot i (List.mem_range.mp hi)).2
  rw [e]
  refine nz_map h.z fun x hx h0 => ?_
  obtain ⟨i, hi, rfl⟩ := mem_slotL.1 hx
  exact h.nz _ ((h.slots i hi).resolve_left h0)

theorem MIso.lenK (h : MIso U φ M S K T S' K' T') : U.length ≤ K := by
  have := nodup_length h.nd (U := idsM K T) (fun x hx => mem_idsM.2 (h.has x hx))
  rwa [idsM_len] at this

theorem nodup_map_on {φ : Int → Int} {l : List Int} (hn : l.Nodup) (hi : ∀ x ∈ l, ∀ y ∈ l, φ x = φ y → x = y) : (l.map φ).Nodup := by
  induction l with
  | nil => simp
  | cons x l ih =>
    obtain ⟨h1, h2⟩ := List.nodup_cons.mp hn
    rw [List.map_cons, List.nodup_cons]
    refine ⟨fun hm => ?_, ih h2 fun a ha b hb => hi a (List.mem_cons_of_mem _ ha) b (List.mem_cons_of_mem _ hb)⟩
    obtain ⟨y, hy, he⟩ := List.mem_map.mp hm
    have := hi y (List.mem_cons_of_mem _ hy) x (List.mem_cons_self ..) he
    subst this
    exact h1 hy

theorem MIso.lenK' (h : MIso U φ M S K T S' K' T') : U.length ≤ K' := by
  have := nodup_length (nodup_map_on h.nd h.inj) (U := idsM K' T') (fun x hx => by
    obtain ⟨y, hy, rfl⟩ := List.mem_map.mp hx
    exact mem_idsM.2 (h.has' y hy))
  rwa [idsM_len, List.length_map] at this

theorem MIso.reachU (h : MIso U φ M S K T S' K' T') : ∀ x ∈ reachM M S K T, x ∈ U := reachL_sub _ _ _ _ h.sub h.root

theorem MIso.reach (h : MIso U φ M S K T S' K' T') : reachM M S' K' T' = (reachM M S K T).map φ := by
  have e1 : reachM M S' K' T' = reachL (ptrM K' T') K (Go.Proofs.Ytaenbjilcgpgcaa.nz (slotL M S')) := by
    unfold reachM reachL
    refine scanF_fuel _ (U.map φ) (fun x hx y hy => ?_) _ _ _ _ (nodup_addNew _ _ List.nodup_nil) (addNew_sub fun x hx => ?_) ?_ ?_
    · obtain ⟨z, hz, rfl⟩ := List.mem_map.mp hx
      rw [h.ptr z hz] at hy
      obtain ⟨v, hv, rfl⟩ := List.mem_map.mp hy
      exact List.mem_map_of_mem (h.sub z hz v hv)
    · rw [h.roots] at hx
      obtain ⟨v, hv, rfl⟩ := List.mem_map.mp hx
      exact List.mem_map_of_mem (h.root v hv)
    · rw [List.length_map]; have := h.lenK'; omega
    · rw [List.length_map]; have := h.lenK; omega
  rw [e1, h.roots]
  exact reachL_map (ptrM K T) (ptrM K' T') φ K U _ h.sub h.inj h.ptr h.root

theorem MIso.num (h : MIso U φ M S K T S' K' T') {x : Int} (hx : x = 0 ∨ x ∈ U) : nmM (reachM M S' K' T') (φ x) = nmM (reachM M S K T) x := by
  have hR := h.reachU
  have hn := reachM_nodup M S K T
  rw [h.reach]
  generalize reachM M S K T = R at *
  by_cases hm : x ∈ R
  · unfold nmM numI
    rw [numL_map φ hn (nodup_map_on hn fun a ha b hb => h.inj a (hR a ha) b (hR b hb)) hm]
  · rw [nmM_zero hm, nmM_zero]
    intro hc
    obtain ⟨y, hy, he⟩ := List.mem_map.mp hc
    rcases hx with rfl | hx
    · rw [h.z] at he; exact h.nz y (hR y hy) he
    · have := h.inj y (hR y hy) x hx he
      subst this
      exact hm hy

theorem lf_map {φ : Int → Int} {l : List Int} {i : Nat} (hi : i < l.length) : lf (l.map φ) i = φ (lf l i) := by
  rw [lf_at (by rw [List.length_map]; exact hi), lf_at hi, List.getElem_map]

def TSame (t u : GM) : Prop := t.at_ = u.at_ ∧ t.s = u.s ∧ t.m = u.m ∧ t.h = u.h ∧ t.n = u.n ∧ ∀ k, k < t.n → t.f k = u.f k

theorem MIso.tidyT (h : MIso U φ M S K T S' K' T') {i : Nat} (hi : i < (reachM M S K T).length) : TSame (tdT (reachM M S' K' T') K' T' i) (tdT (reachM M S K T) K T i) := by
  have hU := h.reachU _ (lf_mem hi)
  obtain ⟨h1, h2, h3, h4, h5⟩ := h.node _ hU
  have e : lf (reachM M S' K' T') i = φ (lf (reachM M S K T) i) := by rw [h.reach, lf_map hi]
  unfold tdT tdN
  rw [e]
  refine ⟨rfl, h1, h2, h3, h4, fun k hk => ?_⟩
  have hk' : k < (nodeM K T (lf (reachM M S K T) i)).n := by rw [← h4]; exact hk
  show tdF _ _ k = tdF _ _ k
  unfold tdF
  rw [h2, h5 k hk']
  by_cases hp : (nodeM K T (lf (reachM M S K T) i)).m / P2 (k : Int) % 2 = 1
  · rw [if_pos hp, if_pos hp, if_pos hp]
    exact h.num (h.clo _ hU k hk' hp)
  · rw [if_neg hp, if_neg hp, if_neg hp]

end

theorem nmM_in {R : List Int} {x : Int} (h : x ∈ R) : ∃ j, j < R.length ∧ nmM R x = (j : Int) + 1 ∧ lf R j = x := by
  obtain ⟨j, h1, h2, h3⟩ := numL_some h
  exact ⟨j, h2, by unfold nmM numI; rw [h1], h3⟩

theorem tdT_ix {R : List Int} {K : Nat} {T : Nat → GM} {i : Nat} (hi : i < R.length) : ixN (tdT R K T) ((i : Int) + 1) R.length = i :=
  ixN_eq (fun j hj => by show (j : Int) + 1 < ((j + 1 : Nat) : Int) + 1; omega) hi rfl

theorem tdT_has {R : List Int} {K : Nat} {T : Nat → GM} {i : Nat} (hi : i < R.length) : Has R.length (tdT R K T) ((i : Int) + 1) := ⟨i, hi, rfl⟩

/-- What a tidy machine has to do with the one that it was. -/
theorem tidy_iso {M : Nat} {S : Nat → SL} {K : Nat} {T : Nat → GM} (hl : MLead M S K T) (h1 : ∀ i, i < K → 1 ≤ (T i).at_) :
    MIso (reachM M S K T) (nmM (reachM M S K T)) M S K T (tdS (reachM M S K T) S) (reachM M S K T).length (tdT (reachM M S K T) K T) := by
  have hn := reachM_nodup M S K T
  have hh : ∀ x ∈ reachM M S K T, Has K T x := fun x hx => reachM_has hl hx
  have hr : ∀ x ∈ Go.Proofs.Ytaenbjilcgpgcaa.nz (slotL M S), x ∈ reachM M S K T := reachL_roots _ _ _
  have hc : ∀ x ∈ reachM M S K T, ∀ y ∈ ptrM K T x, y ∈ reachM M S K T := reachL_closed _ _ (idsM K T) _ (ptrM_sub hl) (slotM_sub hl) (by rw [idsM_len]; exact Nat.le_refl _)
  generalize reachM M S K T = R at *
  have h0 : (0 : Int) ∉ R := fun h => by
    obtain ⟨j, hj, he⟩ := hh _ h
    have := h1 j hj; omega
  refine ⟨hn, nmM_zero h0, h0, fun x hx => ?_, fun x hx y hy he => ?_, hh, fun x hx => ?_, fun i hi => ?_, fun i hi => ⟨rfl, rfl⟩, fun x hx => ?_, fun x hx k hk hp => ?_⟩
  · obtain ⟨j, _, e, _⟩ := nmM_in hx; omega
  · obtain ⟨j, _, e, e'⟩ := nmM_in hx
    obtain ⟨j', _, f, f'⟩ := nmM_in hy
    rw [e, f] at he
    obtain rfl : j = j' := by omega
    rw [← e', f']
  · obtain ⟨j, hj, e, _⟩ := nmM_in hx
    rw [e]; exact tdT_has hj
  · by_cases h : (S i).nd = 0
    · exact .inl h
    · exact .inr (hr _ (mem_nz.2 ⟨mem_slotL.2 ⟨i, hi, rfl⟩, h⟩))
  · obtain ⟨j, hj, e, e'⟩ := nmM_in hx
    rw [e]
    unfold nodeM
    rw [tdT_ix hj]
    unfold tdT tdN nodeM
    rw [e']
    exact ⟨rfl, rfl, rfl, rfl, fun k hk => rfl⟩
  · by_cases h : (nodeM K T x).f k = 0
    · exact .inl h
    · exact .inr (hc x hx _ (mem_nz.2 ⟨mem_ptL.2 ⟨k, hk, hp, rfl⟩, h⟩))
end Go.Proofs.Ytaenbjilcgpgcaa

namespace Go.Proofs.Ytaenbjilcgpgcaa
open Go.RowKit
set_option linter.unusedVariables false

theorem ixN_congr {T T' : Nat → GM} {x : Int} : ∀ {K : Nat}, (∀ j, j < K → (T' j).at_ = (T j).at_) → ixN T' x K = ixN T x K
  | 0, _ => rfl
  | K + 1, h => by rw [ixN, ixN, ixN_congr fun j hj => h j (by omega), h K (by omega)]

theorem has_congr {K : Nat} {T T' : Nat → GM} {x : Int} (h : ∀ j, j < K → (T' j).at_ = (T j).at_) (hx : Has K T x) : Has K T' x := by
  obtain ⟨j, hj, he⟩ := hx
  exact ⟨j, hj, by rw [h j hj]; exact he⟩

section

variable {U : List Int} {φ : Int → Int} {M : Nat} {S S' : Nat → SL} {K K' : Nat} {T T' : Nat → GM}

end

/-- A machine that can be tidied. -/
structure MWk (M : Nat) (S : Nat → SL) (K : Nat) (T : Nat → GM) : Prop where
  node : ∀ i, i < K → 1 ≤ (T i).at_ ∧ HOk (T i).s (T i).m 0 (T i).h ∧ ((T i).n : Int) = (T i).s
  rise : MRise K T
  lead : MLead M S K T

theorem MOk.wk {te qu ha : Int} {M : Nat} {S : Nat → SL} {K : Nat} {T : Nat → GM} (h : MOk te qu ha M S K T) : MWk M S K T :=
  ⟨fun i hi => ⟨(isNode_zero (h.node i hi)).1.1.1, (isNode_zero (h.node i hi)).1.2, (isNode_zero (h.node i hi)).2.1⟩, h.rise, h.lead⟩

section

variable {M : Nat} {S : Nat → SL} {K : Nat} {T : Nat → GM}

end
end Go.Proofs.Ytaenbjilcgpgcaa

namespace Go.Proofs.Ytaenbjilcgpgcaa
open Go.RowKit
set_option linter.unusedVariables false

instance (t : GM) (k : Nat) : Decidable (IsP t k) := inferInstanceAs (Decidable (_ = _))

/-- What an op turns of a machine. -/
structure MS where
  ha : Int
  S : Nat → SL
  K : Nat
  T : Nat → GM

/-- The slot of a handle. -/
def HSl (te : Int) (M : Nat) (S : Nat → SL) (x : Int) : Prop := (0 ≤ x ∧ 1 ≤ x / 32 ∧ x / 32 ≤ 99) ∧ x % 4 = te ∧ x / 4 % 8 < (M : Int) ∧ ¬ (S (x / 4 % 8).toNat).nd = 0 ∧ (S (x / 4 % 8).toNat).g = x / 32

instance (te : Int) (M : Nat) (S : Nat → SL) (x : Int) : Decidable (HSl te M S x) := inferInstanceAs (Decidable (_ ∧ _))

def slN (x : Int) : Nat := (x / 4 % 8).toNat

/-- The first slot that can be given, or how many there are. -/
def CanG (s : SL) : Prop := s.nd = 0 ∧ s.g < 99

instance (s : SL) : Decidable (CanG s) := inferInstanceAs (Decidable (_ ∧ _))

def freeS (S : Nat → SL) : Nat → Nat
  | 0 => 0
  | M + 1 => if freeS S M < M then freeS S M else if CanG (S M) then M else M + 1

theorem freeS_congr {S S' : Nat → SL} : ∀ {M : Nat}, (∀ i, i < M → (CanG (S' i) ↔ CanG (S i))) → freeS S' M = freeS S M
  | 0, _ => rfl
  | M + 1, h => by
    rw [freeS, freeS, freeS_congr fun i hi => h i (by omega)]
    by_cases h1 : freeS S M < M
    · rw [if_pos h1, if_pos h1]
    · rw [if_neg h1, if_neg h1]
      by_cases h2 : CanG (S M)
      · rw [if_pos h2, if_pos ((h M (by omega)).2 h2)]
      · rw [if_neg h2, if_neg fun h3 => h2 ((h M (by omega)).1 h3)]

section

variable {U : List Int} {φ : Int → Int} {M : Nat} {m m' : MS} {te qu : Int}

theorem MIso.zero_iff {S S' : Nat → SL} {K K' : Nat} {T T' : Nat → GM} (h : MIso U φ M S K T S' K' T') {i : Nat} (hi : i < M) : (S' i).nd = 0 ↔ (S i).nd = 0 := by
  rw [(h.slot i hi).2]
  rcases h.slots i hi with h1 | h1
  · rw [h1, h.z]
  · have h2 := h.nz _ h1
    have h3 : ¬ (S i).nd = 0 := fun e => h.u0 (e ▸ h1)
    exact ⟨fun e => absurd e h2, fun e => absurd e h3⟩

theorem HSl.lt {S : Nat → SL} {x : Int} (h : HSl te M S x) : slN x < M := by have := h.2.2.1; unfold slN; omega

theorem MIso.free {S S' : Nat → SL} {K K' : Nat} {T T' : Nat → GM} (h : MIso U φ M S K T S' K' T') : freeS S' M = freeS S M :=
  freeS_congr fun i hi => by unfold CanG; rw [h.zero_iff hi, (h.slot i hi).1]

end
end Go.Proofs.Ytaenbjilcgpgcaa

namespace Go.Proofs.Ytaenbjilcgpgcaa
open Go.RowKit
set_option linter.unusedVariables false

theorem same_iso {M : Nat} {S : Nat → SL} {K : Nat} {T U : Nat → GM} (hl : MLead M S K T) (h1 : ∀ i, i < K → 1 ≤ (T i).at_) (hs : ∀ i, i < K → GSame (T i) (U i)) : MIso (reachM M S K T) (fun x => x) M S K T S K U := by
  have I := tidy_iso hl h1
  have hids : ∀ j, j < K → (U j).at_ = (T j).at_ := fun j hj => (hs j hj).1.symm
  refine ⟨I.nd, rfl, I.u0, fun x hx e => I.u0 (e ▸ hx), fun x _ y _ h => h, I.has, fun x hx => has_congr hids (I.has x hx), I.slots, fun i hi => ⟨rfl, rfl⟩, fun x hx => ?_, I.clo⟩
  have hi := ixN_has (I.has x hx)
  have e : nodeM K U x = U (ixN T x K) := by unfold nodeM; rw [ixN_congr hids]
  rw [e]
  obtain ⟨a1, a2, a3, a4, a5, a6, a7⟩ := hs _ hi
  refine ⟨a2.symm, a3.symm, a5.symm, a6.symm, fun k hk => ?_⟩
  rw [show (if (nodeM K T x).m / P2 (k : Int) % 2 = 1 then (nodeM K T x).f k else (nodeM K T x).f k) = (nodeM K T x).f k by split <;> rfl]
  exact (a7 k hk).symm

section

variable {te qu ha : Int} {M : Nat} {S : Nat → SL} {K : Nat} {T U : Nat → GM} {c : Int}

theorem ok_iso (h : IsMF te qu ha M S K T 0) (hs : ∀ i, i < K → GSame (T i) (U i)) : MIso (reachM M S K T) (fun x => x) M S K T S K U :=
  same_iso (isMF_zero h).lead (fun i hi => (isNode_zero ((isMF_zero h).node i hi)).1.1.1) hs

theorem reachM_same (h : IsMF te qu ha M S K T 0) (hs : ∀ i, i < K → GSame (T i) (U i)) : reachM M S K U = reachM M S K T := by
  rw [(ok_iso h hs).reach]; simp

end
end Go.Proofs.Ytaenbjilcgpgcaa

namespace Go.Proofs.Ytaenbjilcgpgcaa
open Go.RowKit
set_option linter.unusedVariables false

/-- The cells of a machine, from a place of a block on. -/
structure MAt (w : World) (g o : Nat) (te qu ha : Int) (sa : Option Addr) (M kc : Nat) (na : Option Addr) (K nc : Nat) : Prop where
  lt : g < w.heap.size
  c0 : w.cell? ⟨g, o, none⟩ = some (.int .i64 te)
  c1 : w.cell? ⟨g, o + 1, none⟩ = some (.int .i64 qu)
  c2 : w.cell? ⟨g, o + 2, none⟩ = some (.int .i64 ha)
  c3 : w.cell? ⟨g, o + 3, none⟩ = some (.slice sa M kc)
  c4 : w.cell? ⟨g, o + 4, none⟩ = some (.slice na K nc)

section

variable {w w' : World} {g o : Nat} {te qu ha : Int} {sa : Option Addr} {M kc : Nat} {na : Option Addr} {K nc : Nat}

theorem MAt.below (h : MAt w g o te qu ha sa M kc na K nc) (hb : Below w.heap.size w w') : MAt w' g o te qu ha sa M kc na K nc :=
  ⟨Nat.lt_of_lt_of_le h.lt hb.size, (hb.cell (p := ⟨g, o, none⟩) h.lt).trans h.c0, (hb.cell (p := ⟨g, o + 1, none⟩) h.lt).trans h.c1, (hb.cell (p := ⟨g, o + 2, none⟩) h.lt).trans h.c2, (hb.cell (p := ⟨g, o + 3, none⟩) h.lt).trans h.c3, (hb.cell (p := ⟨g, o + 4, none⟩) h.lt).trans h.c4⟩

theorem mat_blk (h : Blk w g [.int .i64 te, .int .i64 qu, .int .i64 ha, .slice sa M kc, .slice na K nc]) : MAt w g 0 te qu ha sa M kc na K nc := ⟨h.1, h.at 0 rfl, h.at 1 rfl, h.at 2 rfl, h.at 3 rfl, h.at 4 rfl⟩

end

theorem isFd_ix {K : Nat} {T : Nat → GM} {x : Int} (hr : MRise K T) (h : Has K T x) : IsFd K T x (ixN T x K : Int) := by
  have h1 := ixN_has h
  have h2 := ixN_at h1
  refine .inl ⟨ixN T x K, h1, h2, fun j hj he => ?_, rfl⟩
  have := rise_lt hr _ _ hj h1
  omega

/-- A node whose numbers are right, of any number. -/
def Nd (t : GM) : Prop := HOk t.s t.m 0 t.h ∧ (t.n : Int) = t.s

theorem Nd.mask {t : GM} (h : Nd t) : 0 ≤ t.m ∧ t.m ≤ 4095 := by have h1 := h.1.2.1; have h2 := P2_le h.1.1.2; omega

theorem MWk.nd {M : Nat} {S : Nat → SL} {K : Nat} {T : Nat → GM} (h : MWk M S K T) : ∀ i, i < K → Nd (T i) := fun i hi => (h.node i hi).2

theorem ptz_yes {t : GM} {k : Nat} (h : t.m / P2 (k : Int) % 2 = 1) (O : List Int) : addNew O (nz (ptL t (k + 1))) = add1z (addNew O (nz (ptL t k))) (t.f k) := by rw [ptL_yes h, addz_snoc]

theorem mc_pre_len {M : Nat} {S : Nat → SL} {K : Nat} {T : Nat → GM} {i k : Nat} {O : List Int} (hl : MLead M S K T) (h : MC M S K T i O) (hi : i < O.length) (hk : k ≤ (nodeM K T (lf O i)).n) : (addNew O (nz (ptL (nodeM K T (lf O i)) k))).length ≤ K := by
  have hs : ∀ p ∈ addNew O (nz (ptL (nodeM K T (lf O i)) k)), Has K T p := fun p hp => by
    rcases (mem_addNew _ _ _).1 hp with h1 | h1
    · exact h.sub p h1
    · obtain ⟨h2, h3⟩ := mem_nz.1 h1
      obtain ⟨j, hj, hpj, rfl⟩ := mem_ptL.1 h2
      exact mem_idsM.1 (ptrM_sub hl (lf O i) (mem_idsM.2 (h.sub _ (lf_mem hi))) _ (mem_nz.2 ⟨mem_ptL.2 ⟨j, by omega, hpj, rfl⟩, h3⟩))
  have := nodup_length (nodup_addNew (nz (ptL (nodeM K T (lf O i)) k)) O h.nd) (U := idsM K T) (fun x hx => mem_idsM.2 (hs x hx))
  rwa [idsM_len] at this

theorem add1z_zero (O : List Int) : add1z O 0 = O := if_pos rfl

theorem add1z_in {O : List Int} {p : Int} (h0 : ¬ p = 0) (h : p ∈ O) : add1z O p = O := by rw [add1z, if_neg h0, add1, if_pos h]

theorem add1z_new {O : List Int} {p : Int} (h0 : ¬ p = 0) (h : p ∉ O) : add1z O p = O ++ [p] := by rw [add1z, if_neg h0, add1, if_neg h]

set_option maxRecDepth 100000 in
set_option maxHeartbeats 3200000 in
theorem l5Reach_any (g o : Nat) (te qu ha : Int) (sa : Option Addr) (M kc : Nat) (S : Nat → SL) (na : Option Addr) (K nc : Nat) (T : Nat → GM) (w : World)
    (hB : MAt w g o te qu ha sa M kc na K nc) (hp : PV w sa M S) (hg : NV w na K T) (hM : M ≤ 1000) (hK : K ≤ 1000) (hn : ∀ i, i < K → Nd (T i)) (hr : MRise K T) (hl : MLead M S K T) :
    Calls Try.prog 107 #[.pointer (some ⟨g, o, none⟩)] w (RetInts w (reachM M S K T).length (lf (reachM M S K T))) := by
  have B := Lib.hid hB; have P := Lib.hid hp; have G := Lib.hid hg; have HN := Lib.hid hn; have HRI := Lib.hid hr; have HL := Lib.hid hl
  obtain ⟨i0, hif, hz0, hz1, hz2⟩ := info_parts Try.info2
  clear hB hp hg hn hr hl
  go_enter Try.func107, Try.ntmps107
  go_wp2_with fail
  have HBa : Hid (Below w.heap.size w (w.alloc (.cells #[] 2))) := (Below.refl _ _).alloc (Nat.le_refl _) _
  have OWa : Hid ((w.alloc (.cells #[] 2)).ownsRow w.heap.size 2 1 (.slice (some ⟨w.heap.size, 0, none⟩) 0 0) ([] : List Int).length (nums ([] : List Int).length (lf []))) := World.ownsRow_lit w #[] 0 (Nat.le_refl _) (by simp [maxLen]) rfl
  have za : w.heap.size + 1 ≤ (w.alloc (.cells #[] 2)).heap.size := by simp
  generalize w.alloc (.cells #[] 2) = wa at *
  go_loopw [3, 4] (fun u q wr => ∃ (i : Nat) (O : List Int), i ≤ M ∧ q = .int .i64 (i : Int) ∧ Hid (Below w.heap.size w wr) ∧ Hid (wr.ownsRow w.heap.size 2 1 u O.length (nums O.length (lf O))) ∧ Hid (O = addNew [] (nz ((slotL M S).take i))) ∧ O.length ≤ i) (fun _ q _ => M - (intOf q).toNat)
  case atStart => exact ⟨0, [], by omega, rfl, HBa, OWa, Lib.hid rfl, by simp⟩
  case round =>
    obtain ⟨i, O, hi, rfl, HB_r, OW_r, HO, hol⟩ := hrel
    clear HBa OWa za
    have hzr := HB_r.out.size
    have b3 := (B.out.below HB_r.out).c3; have lB := (B.out.below HB_r.out).lt
    by_cases hlt : i < M
    · have hlt' : (i : Int) < (M : Int) := by omega
      have hi0 : (0 : Int) ≤ (i : Int) := by omega
      obtain ⟨pb, pq, rfl, lp, s0, s1⟩ := pv_get (P.out.below HB_r.out) hlt
      obtain ⟨a5, c5, rfl, hs5⟩ := row_src OW_r.out
      have HS5 := Lib.hid hs5
      have HSN := Lib.hid (addz_take (l := slotL M S) (i := i) (by rw [slotL_len]; exact hlt) [])
      obtain ⟨y, hy⟩ : ∃ y, (S i).nd = y := ⟨_, rfl⟩
      have HY : Hid (lf (slotL M S) i = y) := Lib.hid (by rw [slotL_lf hlt, hy])
      rw [hy] at s1
      clear hs5 hy
      by_cases h0 : y = 0
      · have HO' : Hid (O = addNew [] (nz ((slotL M S).take (i + 1)))) := Lib.hid (by rw [HSN.out, HY.out, h0, add1z_zero]; exact HO.out)
        subst h0
        go_wp2
        go_roundw
        case rel => first | exact ⟨i + 1, O, by omega, by go_num, HB_r, OW_r, HO', by omega⟩ | ((repeat apply Exists.intro); exact ⟨⟨i + 1, O, by omega, by go_num, HB_r, OW_r, HO', by omega⟩, rfl⟩)
        case measure => simp [intOf]; omega
      · have h0' : (y != 0) = true := by simpa using h0
        have H0 := Lib.hid h0
        clear h0
        by_cases hin : y ∈ O
        · have hd : decide (y ∈ O) = true := decide_eq_true hin
          have HO' : Hid (O = addNew [] (nz ((slotL M S).take (i + 1)))) := Lib.hid (by rw [HSN.out, HY.out, ← HO.out, add1z_in H0.out hin])
          clear hin
          go_wp2_with fail
          refine (l1Has_any a5 O c5 y _ HS5.out (by omega)).mono ?_
          rintro e w' ⟨rfl, rfl⟩
          rw [hd]
          go_wp2
          go_roundw
          case rel => first | exact ⟨i + 1, O, by omega, by go_num, HB_r, OW_r, HO', by omega⟩ | ((repeat apply Exists.intro); exact ⟨⟨i + 1, O, by omega, by go_num, HB_r, OW_r, HO', by omega⟩, rfl⟩)
          case measure => simp [intOf]; omega
        · have hd : decide (y ∈ O) = false := decide_eq_false hin
          have HO' : Hid (O ++ [y] = addNew [] (nz ((slotL M S).take (i + 1)))) := Lib.hid (by rw [HSN.out, HY.out, ← HO.out, add1z_new H0.out hin])
          have HGE : Hid (∀ k, (Value.slice a5 O.length c5).ownBlock = some k → w.heap.size ≤ k) := Lib.hid (fun k hk => ownBlock_ge OW_r.out hk)
          clear hin
          go_wp2_with fail
          refine (l1Has_any a5 O c5 y _ HS5.out (by omega)).mono ?_
          rintro e w' ⟨rfl, rfl⟩
          rw [hd]
          go_wp2_with (at_builtin; go_loud (refine wpList_append_lies _ rfl _ _ 24 rfl w.heap.size 2 i0 (.int .i64 0) 1 8 Try.underlying24 hif hz0 hz1 hz2 rfl (by decide) (.slice a5 O.length c5) O.length (nums O.length (lf O)) rfl (ownsRow_below OW_r.out ((Below.refl _ _).alloc (Nat.le_refl _) _)) ⟨wr.heap.size, 0, none⟩ 1 1 [.int .i64 y] rfl rfl (news1 wr y) (by intro u hu; simp only [List.mem_cons, List.mem_nil_iff, or_false] at hu; subst hu; rfl) (by omega) (by unfold maxLen; omega) (by omega) (by simp; omega) (wr.heap.size + 1) (by simp) ?_); intro g9 cap9 w9 hown9 hgrow9 hat9 hlt9)
          have HB9 : Hid (Below w.heap.size w w9) := (HB_r.out.alloc hzr _).grown hgrow9 (by simp; omega) (fun k hk => HGE.out k hk)
          have OW9 : Hid (w9.ownsRow w.heap.size 2 1 (.slice (some ⟨g9, 0, none⟩) (O.length + 1) cap9) (O ++ [y]).length (nums (O ++ [y]).length (lf (O ++ [y])))) := Lib.hid (by
            rw [show (O ++ [y]).length = O.length + 1 by simp, ← nums_snoc]; exact hown9)
          clear hown9 hgrow9 hat9 s0 s1 b3 lB
          go_wp2
          go_roundw
          case rel => first | exact ⟨i + 1, O ++ [y], by omega, by go_num, HB9, OW9, HO', by simp; omega⟩ | ((repeat apply Exists.intro); exact ⟨⟨i + 1, O ++ [y], by omega, by go_num, HB9, OW9, HO', by simp; omega⟩, rfl⟩)
          case measure => simp [intOf]; omega
    · have hlt' : ¬ (i : Int) < (M : Int) := by omega
      obtain rfl : i = M := by omega
      have HMC : Hid (MC i S K T 0 O) := Lib.hid (by
        have e := HO.out
        rw [List.take_of_length_le (by rw [slotL_len]; exact Nat.le_refl _)] at e
        rw [e]; exact mc_start HL.out)
      clear HO
      go_wp2
      go_loopw [3, 6] (fun u q wq => ∃ (j : Nat) (O : List Int), q = .int .i64 (j : Int) ∧ j ≤ K ∧ Hid (Below w.heap.size w wq) ∧ Hid (wq.ownsRow w.heap.size 2 1 u O.length (nums O.length (lf O))) ∧ Hid (MC i S K T j O)) (fun _ q _ => K - (intOf q).toNat)
      case atStart => exact ⟨0, O, rfl, by omega, HB_r, OW_r, HMC⟩
      case round =>
        clear HB_r OW_r HMC b3 lB hzr hol
        obtain ⟨j, O, rfl, hjK, HB_r, OW_r, HMC⟩ := hrel
        have hoK : O.length ≤ K := mc_len HMC.out
        have hzr := HB_r.out.size
        obtain ⟨a5, c5, rfl, hs5⟩ := row_src OW_r.out
        by_cases hjo : j < O.length
        · have hlt' : (j : Int) < (O.length : Int) := by omega
          have hj0 : (0 : Int) ≤ (j : Int) := by omega
          obtain ⟨ob, oo, rfl, hob, hoc⟩ := src_some hs5 (by omega)
          have o0 := hoc j hjo
          have hhas := HMC.out.sub _ (lf_mem hjo)
          obtain ⟨y, hy⟩ : ∃ y, lf O j = y := ⟨_, rfl⟩
          have HY := Lib.hid hy
          rw [hy] at o0 hhas
          have hix := ixN_has hhas
          have HFD := Lib.hid (isFd_ix HRI.out hhas)
          have HND := Lib.hid (HN.out _ hix)
          have HT : Hid (nodeM K T y = T (ixN T y K)) := Lib.hid rfl
          obtain ⟨x, hx⟩ : ∃ x, ixN T y K = x := ⟨_, rfl⟩
          rw [hx] at hix HFD HND HT
          have HSTEP := Lib.hid (mc_step HL.out HMC.out hjo)
          have HPRE := Lib.hid (fun k hk => mc_pre_len (k := k) HL.out HMC.out hjo hk)
          rw [hy] at HSTEP HPRE
          unfold ptrM at HSTEP
          rw [HT.out] at HSTEP HPRE
          obtain ⟨t, ht⟩ : ∃ t, T x = t := ⟨_, rfl⟩
          rw [ht] at HND HSTEP HPRE
          have b4 := (B.out.below HB_r.out).c4; have lB := (B.out.below HB_r.out).lt
          have hx' : (x : Int) < (K : Int) := by omega
          have hx0 : (0 : Int) ≤ (x : Int) := by omega
          have G1 := Lib.hid (G.out.below HB_r.out)
          obtain ⟨b, q, rfl, hgs⟩ : ∃ b q, na = some ⟨b, q, none⟩ ∧ NSrc w b q K T := by
            rcases G.out with h0 | ⟨b, q, e, hg⟩
            · omega
            · exact ⟨b, q, e, hg⟩
          have HGS := Lib.hid hgs
          have HTX := Lib.hid ht
          clear hs5 hoc hy hhas hx ht hgs HMC HT
          go_wp2_with fail
          go_quiet (first | exact Calls.quiet_of_same (Calls.mono (l5Find_any _ K nc T y (x : Int) _ (G1.out.below (drewN_below _ _)) (show K ≤ 1048576 by omega) HFD.out) fun _ _ h => ⟨h.1, h.2.symm⟩))
          have HB5 := Lib.hid (below_drewN HB_r.out nq)
          have OW5 := Lib.hid (ownsRow_below OW_r.out (drewN_below wr nq))
          clear b4 lB o0 hob G1 HB_r OW_r
          generalize wr.drewN nq = w5 at *
          have FV : Hid (FivG w5 b (q + x * 5) t) := Lib.hid (by rw [← HTX.out]; exact (HGS.out.below HB5.out).six x hix)
          have lb5 := (HGS.out.below HB5.out).lt
          go_wp2_with fail
          refine (l5Head_any b (q + x * 5) t _ FV.out lb5).mono ?_
          rintro e w1 ⟨rfl, hb⟩
          have HB1 := Lib.hid (thru0 HB5.out hb)
          have OW1 := Lib.hid (ownsRow_below OW5.out hb)
          have HB2 : Hid (Below w.heap.size w (w1.alloc (.cells #[.int .i64 t.s, .int .i64 t.m, .int .i64 0, .int .i64 t.h] 93))) := Lib.hid (HB1.out.alloc HB1.out.size _)
          have OW2 := Lib.hid (OW1.out.alloc (.cells #[.int .i64 t.s, .int .i64 t.m, .int .i64 0, .int .i64 t.h] 93))
          have K1 := Lib.hid (Blk.new_at (w := w1) (cs := #[.int .i64 t.s, .int .i64 t.m, .int .i64 0, .int .i64 t.h]) (t := 93) w1.heap.size rfl)
          have NE1 : Hid ((Value.slice (some ⟨ob, oo, none⟩) O.length c5).ownBlock ≠ some w1.heap.size) := Lib.hid (fun e => by have := (OW1.out.lt _ e).2; omega)
          have zz1 : w1.heap.size < (w1.alloc (.cells #[.int .i64 t.s, .int .i64 t.m, .int .i64 0, .int .i64 t.h] 93)).heap.size := by simp
          clear hb FV lb5 HB5 OW5 HB1 OW1
          obtain ⟨ta, hta⟩ : ∃ ta, t.a = ta := ⟨_, rfl⟩
          have HTA := Lib.hid hta
          clear hta
          have hsz : (t.n : Int) = t.s := HND.out.2
          have hs12 : t.s ≤ 12 := HND.out.1.1.2
          have HM := Lib.hid HND.out.mask
          have HSZ := Lib.hid hsz
          clear hsz
          go_wp2
          generalize w1.heap.size = B1 at *
          go_loopw [3, 9] (fun u p wr => ∃ (k : Nat) (Q : List Int), k ≤ t.n ∧ p = .int .i64 (k : Int) ∧ Hid (Below w.heap.size w wr) ∧ Hid (wr.ownsRow w.heap.size 2 1 u Q.length (nums Q.length (lf Q))) ∧ Hid (Blk wr B1 [.int .i64 t.s, .int .i64 t.m, .int .i64 0, .int .i64 t.h]) ∧ Hid (u.ownBlock ≠ some B1) ∧ Hid (Q = addNew O (nz (ptL t k)))) (fun _ p _ => t.n - (intOf p).toNat)
          case atStart => exact ⟨0, O, Nat.zero_le _, rfl, HB2, OW2, K1, NE1, Lib.hid rfl⟩
          case round =>
            clear HB2 OW2 K1 NE1 zz1
            obtain ⟨k, Q, hk, rfl, HBr, OWr, BK, NE, HQ⟩ := hrel
            have hzr := HBr.out.size
            have hqK : Q.length ≤ K := by rw [HQ.out]; exact HPRE.out k hk
            have FV : Hid (FivG wr b (q + x * 5) t) := Lib.hid (by rw [← HTX.out]; exact (HGS.out.below HBr.out).six x hix)
            have lb := (HGS.out.below HBr.out).lt
            have hsr : Src wr ta t.n t.f := by rw [← HTA.out, ← HTX.out]; exact (HGS.out.below HBr.out).flds x hix
            obtain ⟨x0, x1, x2, x3, x4⟩ := FV.out
            rw [HTA.out] at x4
            have z1 := BK.out.at 1 rfl; have lB1 := BK.out.1
            have hk0 : (0 : Int) ≤ (k : Int) := by omega
            obtain ⟨a6, c6, rfl, hs6⟩ := row_src OWr.out
            have HS6 := Lib.hid (fun q => hs6.below (drewN_below wr q))
            clear hs6
            by_cases hkn : k < t.n
            · have hks : (k : Int) < t.s := by have := HSZ.out; omega
              have hkn' : (k : Int) < (t.n : Int) := by omega
              rcases hsr with h0 | ⟨b', o', rfl, hb', hc'⟩
              · omega
              have hck := hc' k hkn
              have HDR := Lib.hid (fun q => below_drewN HBr.out q)
              have OWD := Lib.hid (fun q => ownsRow_below OWr.out (drewN_below wr q))
              have BKD := Lib.hid (fun q => BK.out.below (drewN_below wr q))
              obtain ⟨y, hy⟩ : ∃ y, t.f k = y := ⟨_, rfl⟩
              have HYK := Lib.hid hy
              rw [hy] at hck
              clear hc' hy
              rcases (show t.m / P2 (k : Int) % 2 = 1 ∨ t.m / P2 (k : Int) % 2 = 0 by omega) with hd | hd
              · have HYES : Hid (addNew O (nz (ptL t (k + 1))) = add1z Q y) := Lib.hid (by rw [ptz_yes hd, ← HQ.out, HYK.out])
                have HR1 : Hid (true = (t.m / P2 k % 2 == 1)) := Lib.hid (by rw [hd]; rfl)
                clear hd
                by_cases h0 : y = 0
                · have HQ' : Hid (Q = addNew O (nz (ptL t (k + 1)))) := Lib.hid (by rw [HYES.out, h0, add1z_zero])
                  subst h0
                  clear HYES
                  go_wp2_with fail
                  refine (l2Pointer_at B1 0 k t.m true _ z1 HM.out (by omega) HR1.out).mono ?_
                  rintro e w5 ⟨rfl, q5, rfl⟩
                  have HB6 := Lib.hid (HDR.out q5); have OW6 := Lib.hid (OWD.out q5); have BK6 := Lib.hid (BKD.out q5)
                  clear x0 x1 x2 x3 x4 z1 lB1 hck FV HDR OWD BKD
                  generalize wr.drewN q5 = w6 at *
                  go_wp2
                  go_roundw
                  case rel => first | exact ⟨k + 1, Q, by omega, by go_num, HB6, OW6, BK6, NE, HQ'⟩ | ((repeat apply Exists.intro); exact ⟨⟨k + 1, Q, by omega, by go_num, HB6, OW6, BK6, NE, HQ'⟩, rfl⟩)
                  case measure => simp [intOf]; omega
                · have h0' : (y != 0) = true := by simpa using h0
                  have H0 := Lib.hid h0
                  clear h0
                  by_cases hin : y ∈ Q
                  · have hdc : decide (y ∈ Q) = true := decide_eq_true hin
                    have HQ' : Hid (Q = addNew O (nz (ptL t (k + 1)))) := Lib.hid (by rw [HYES.out, add1z_in H0.out hin])
                    clear HYES hin
                    go_wp2_with fail
                    refine (l2Pointer_at B1 0 k t.m true _ z1 HM.out (by omega) HR1.out).mono ?_
                    rintro e w5 ⟨rfl, q5, rfl⟩
                    have HB6 := Lib.hid (HDR.out q5); have OW6 := Lib.hid (OWD.out q5); have BK6 := Lib.hid (BKD.out q5); have SR6 := Lib.hid (HS6.out q5)
                    clear x0 x1 x2 x3 x4 z1 lB1 hck FV HDR OWD BKD HS6
                    generalize wr.drewN q5 = w6 at *
                    go_wp2_with fail
                    refine (l1Has_any a6 Q c6 y _ SR6.out (by omega)).mono ?_
                    rintro e w' ⟨rfl, rfl⟩
                    rw [hdc]
                    go_wp2
                    go_roundw
                    case rel => first | exact ⟨k + 1, Q, by omega, by go_num, HB6, OW6, BK6, NE, HQ'⟩ | ((repeat apply Exists.intro); exact ⟨⟨k + 1, Q, by omega, by go_num, HB6, OW6, BK6, NE, HQ'⟩, rfl⟩)
                    case measure => simp [intOf]; omega
                  · have hdc : decide (y ∈ Q) = false := decide_eq_false hin
                    have HQ' : Hid (Q ++ [y] = addNew O (nz (ptL t (k + 1)))) := Lib.hid (by rw [HYES.out, add1z_new H0.out hin])
                    clear HYES hin
                    go_wp2_with fail
                    refine (l2Pointer_at B1 0 k t.m true _ z1 HM.out (by omega) HR1.out).mono ?_
                    rintro e w5 ⟨rfl, q5, rfl⟩
                    have HB6 := Lib.hid (HDR.out q5); have OW6 := Lib.hid (OWD.out q5); have BK6 := Lib.hid (BKD.out q5); have SR6 := Lib.hid (HS6.out q5)
                    clear x0 x1 x2 x3 x4 z1 lB1 hck FV HDR OWD BKD HS6
                    generalize wr.drewN q5 = w6 at *
                    go_wp2_with fail
                    refine (l1Has_any a6 Q c6 y _ SR6.out (by omega)).mono ?_
                    rintro e w' ⟨rfl, rfl⟩
                    rw [hdc]
                    have z6 := HB6.out.size
                    have HGE : Hid (∀ k, (Value.slice a6 Q.length c6).ownBlock = some k → w.heap.size ≤ k) := Lib.hid (fun k hk => ownBlock_ge OW6.out hk)
                    have lB6 := BK6.out.1
                    clear SR6
                    go_wp2_with (at_builtin; go_loud (refine wpList_append_lies _ rfl _ _ 24 rfl w.heap.size 2 i0 (.int .i64 0) 1 8 Try.underlying24 hif hz0 hz1 hz2 rfl (by decide) (.slice a6 Q.length c6) Q.length (nums Q.length (lf Q)) rfl (ownsRow_below OW6.out ((Below.refl _ _).alloc (Nat.le_refl _) _)) ⟨w6.heap.size, 0, none⟩ 1 1 [.int .i64 y] rfl rfl (news1 w6 y) (by intro u hu; simp only [List.mem_cons, List.mem_nil_iff, or_false] at hu; subst hu; rfl) (by omega) (by unfold maxLen; omega) (by omega) (by simp; omega) (w6.heap.size + 1) (by simp) ?_); intro g9 cap9 w9 hown9 hgrow9 hat9 hlt9)
                    have HB9 : Hid (Below w.heap.size w w9) := (HB6.out.alloc z6 _).grown hgrow9 (by simp; omega) (fun k hk => HGE.out k hk)
                    have OW9 : Hid (w9.ownsRow w.heap.size 2 1 (.slice (some ⟨g9, 0, none⟩) (Q.length + 1) cap9) (Q ++ [y]).length (nums (Q ++ [y]).length (lf (Q ++ [y])))) := Lib.hid (by
                      rw [show (Q ++ [y]).length = Q.length + 1 by simp, ← nums_snoc]; exact hown9)
                    have BK9 := Lib.hid (blk_grown (BK6.out.alloc _) hgrow9 NE.out)
                    have NE9 : Hid ((Value.slice (some ⟨g9, 0, none⟩) (Q.length + 1) cap9).ownBlock ≠ some B1) := Lib.hid (fun e => by
                      have e' : g9 = B1 := by simpa [Value.ownBlock] using e
                      rcases hat9 with he | he
                      · exact NE.out (by rw [he, e'])
                      · omega)
                    clear hown9 hgrow9 hat9
                    go_wp2
                    go_roundw
                    case rel => first | exact ⟨k + 1, Q ++ [y], by omega, by go_num, HB9, OW9, BK9, NE9, HQ'⟩ | ((repeat apply Exists.intro); exact ⟨⟨k + 1, Q ++ [y], by omega, by go_num, HB9, OW9, BK9, NE9, HQ'⟩, rfl⟩)
                    case measure => simp [intOf]; omega
              · have HQ' : Hid (Q = addNew O (nz (ptL t (k + 1)))) := Lib.hid (by rw [ptL_no (by omega)]; exact HQ.out)
                have HR1 : Hid (false = (t.m / P2 k % 2 == 1)) := Lib.hid (by rw [hd]; rfl)
                clear hd
                go_wp2_with fail
                refine (l2Pointer_at B1 0 k t.m false _ z1 HM.out (by omega) HR1.out).mono ?_
                rintro e w5 ⟨rfl, q5, rfl⟩
                have HB6 := Lib.hid (HDR.out q5); have OW6 := Lib.hid (OWD.out q5); have BK6 := Lib.hid (BKD.out q5)
                clear x0 x1 x2 x3 x4 z1 lB1 hck FV HDR OWD BKD
                generalize wr.drewN q5 = w6 at *
                go_wp2
                go_roundw
                case rel => first | exact ⟨k + 1, Q, by omega, by go_num, HB6, OW6, BK6, NE, HQ'⟩ | ((repeat apply Exists.intro); exact ⟨⟨k + 1, Q, by omega, by go_num, HB6, OW6, BK6, NE, HQ'⟩, rfl⟩)
                case measure => simp [intOf]; omega
            · have hks : ¬ (k : Int) < t.s := by have := HSZ.out; omega
              have hkE : k = t.n := by omega
              have HMC' : Hid (MC i S K T (j + 1) Q) := Lib.hid (by rw [HQ.out, hkE]; exact HSTEP.out)
              clear hsr
              go_wp2
              go_roundw
              case rel => first | exact ⟨j + 1, Q, by go_num, by omega, HBr, OWr, HMC'⟩ | ((repeat apply Exists.intro); exact ⟨⟨j + 1, Q, by go_num, by omega, HBr, OWr, HMC'⟩, rfl⟩)
              case measure => simp [intOf]; omega
        · have hlt' : ¬ (j : Int) < (O.length : Int) := by omega
          have HRet := Lib.hid (retInts_of_row OW_r.out HB_r.out)
          have HE := Lib.hid (mc_done HMC.out hjo)
          clear hs5
          go_wp2
          go_ret
          rw [HE.out]
          exact HRet.out
end Go.Proofs.Ytaenbjilcgpgcaa

namespace Go.Proofs.Ytaenbjilcgpgcaa
open Go.RowKit
set_option linter.unusedVariables false

def ncells (t : GM) : List Value := [.int .i64 t.at_, .int .i64 t.s, .int .i64 t.m, .int .i64 t.h, .slice t.a t.n t.c]

def rowN (M : List GM) : List Value := M.flatMap ncells

theorem rowN_snoc (M : List GM) (t : GM) : rowN (M ++ [t]) = rowN M ++ ncells t := by simp [rowN]

theorem rowN_get : ∀ (M : List GM) (i : Nat) (t : GM), M[i]? = some t → ∀ j, j < 5 → (rowN M)[i * 5 + j]? = (ncells t)[j]?
  | [], i, t, h, j, hj => by simp at h
  | u :: M, 0, t, h, j, hj => by
    simp only [List.getElem?_cons_zero, Option.some.injEq] at h
    subst h
    simp only [rowN, List.flatMap_cons, Nat.zero_mul, Nat.zero_add]
    rw [List.getElem?_append_left (by simp [ncells]; omega)]
  | u :: M, i + 1, t, h, j, hj => by
    have ih := rowN_get M i t (by simpa using h) j hj
    simp only [rowN, List.flatMap_cons] at ih ⊢
    rw [List.getElem?_append_right (by simp [ncells]; omega)]
    have e : (i + 1) * 5 + j - (ncells u).length = i * 5 + j := by simp [ncells]; omega
    rw [e]; exact ih

theorem node_one (t : GM) : ∀ u ∈ ncells t, u.oneCell' = true := by
  intro u hu
  simp [ncells] at hu
  rcases hu with rfl | rfl | rfl | rfl | rfl <;> rfl

theorem cells_new5 (w : World) (t : GM) : ∀ j u, (ncells t)[j]? = some u → (w.alloc (.cells #[.int .i64 t.at_, .int .i64 t.s, .int .i64 t.m, .int .i64 t.h, .slice t.a t.n t.c] 133)).cell? ((⟨w.heap.size, 0, none⟩ : Addr).add j) = some u := fun j u h => by
  have := ((Blk.new w #[.int .i64 t.at_, .int .i64 t.s, .int .i64 t.m, .int .i64 t.h, .slice t.a t.n t.c] 133).2 j u h).1
  cases j with
  | zero => exact this
  | succ j => simpa [Addr.add] using this

theorem rowN_NVO {w : World} {base lo : Nat} {v : Value} {M : List GM} (h : w.ownsRow base 133 5 v M.length (rowN M)) (hf : FldG w lo v M) (hl : lo ≤ base) : ∃ a c, v = .slice a M.length c ∧ NVO w lo w.heap.size a M.length (gT M) := by
  rcases Nat.eq_zero_or_pos M.length with h0 | hp
  · rcases h.2 with ⟨h1, h2⟩ | ⟨g, cap, cur, h1, _⟩
    · exact ⟨none, 0, by rw [h1, h2], .inl h0⟩
    · exact ⟨_, cap, h1, .inl h0⟩
  · obtain ⟨gb, cap, rfl, hb, hlt⟩ := h.form hp
    refine ⟨_, cap, rfl, .inr ⟨gb, 0, rfl, ?_⟩⟩
    have hfr : ∀ k, k < M.length * 5 → w.frozen? ⟨gb, k, none⟩ = false := fun k hk => by
      have := h.frozenAt k
      simpa using this
    have hce : ∀ i t, M[i]? = some t → ∀ j u, (ncells t)[j]? = some u → w.cell? ⟨gb, i * 5 + j, none⟩ = some u := fun i t ht j u hu => by
      have hi : i < M.length := (List.getElem?_eq_some_iff.mp ht).1
      have hj : j < 5 := by
        have := (List.getElem?_eq_some_iff.mp hu).1
        simpa [ncells] using this
      have hc := h.cellAt (i * 5 + j) (by omega)
      rw [rowN_get M i t ht j hj, hu] at hc
      simpa using hc
    refine ⟨by omega, hlt, hlt, fun i hi => ?_, fun i hi => ?_, fun i hi => ?_, fun i hi => ?_, fun i j hi hj hij => ?_⟩
    · have ht := List.getElem?_eq_getElem hi
      rw [gT_at ht, Nat.zero_add]
      exact ⟨hce i _ ht 0 _ rfl, hce i _ ht 1 _ rfl, hce i _ ht 2 _ rfl, hce i _ ht 3 _ rfl, hce i _ ht 4 _ rfl⟩
    · rw [Nat.zero_add]
      exact ⟨hfr _ (by omega), hfr _ (by omega), hfr _ (by omega), hfr _ (by omega), hfr _ (by omega)⟩
    · have ht := List.getElem?_eq_getElem hi
      rw [gT_at ht]
      rcases hf.1 M[i] (List.getElem_mem hi) with h0 | ⟨h1, h2, _, q, h4, h5⟩
      · exact .inl h0
      · exact .inr ⟨_, q, h4, ⟨h1, h2⟩, h2, h5⟩
    · have ht := List.getElem?_eq_getElem hi
      rw [gT_at ht]
      rcases hf.1 M[i] (List.getElem_mem hi) with h0 | ⟨_, _, h3, _⟩
      · exact .inl h0
      · right
        intro he
        exact h3 (by rw [he]; rfl)
    · have hp := List.pairwise_iff_getElem.mp hf.2
      rw [gT_at (List.getElem?_eq_getElem hi), gT_at (List.getElem?_eq_getElem hj)]
      rcases Nat.lt_or_ge i j with hlt' | hge
      · rcases hp i j hi hj hlt' with h0 | h0 | h0
        · exact .inl h0
        · exact .inr (.inl h0)
        · exact .inr (.inr (by omega))
      · rcases hp j i hj hi (by omega) with h0 | h0 | h0
        · exact .inr (.inl h0)
        · exact .inl h0
        · exact .inr (.inr (by omega))

/-- The cells of a row of slots. -/
def slC (S : Nat → SL) : Nat → List Value
  | 0 => []
  | n + 1 => slC S n ++ [.int .i64 (S n).g, .int .i64 (S n).nd]

theorem slC_len (S : Nat → SL) : ∀ n, (slC S n).length = n * 2
  | 0 => rfl
  | n + 1 => by simp only [slC, List.length_append, slC_len S n, List.length_cons, List.length_nil]; omega

theorem slC_get (S : Nat → SL) : ∀ n i, i < n → (slC S n)[i * 2]? = some (.int .i64 (S i).g) ∧ (slC S n)[i * 2 + 1]? = some (.int .i64 (S i).nd)
  | 0, i, h => absurd h (Nat.not_lt_zero _)
  | n + 1, i, h => by
    have hl := slC_len S n
    rcases Nat.lt_succ_iff_lt_or_eq.mp h with h1 | rfl
    · obtain ⟨a, b⟩ := slC_get S n i h1
      unfold slC
      rw [List.getElem?_append_left (by omega), List.getElem?_append_left (by omega)]
      exact ⟨a, b⟩
    · unfold slC
      rw [List.getElem?_append_right (by omega), List.getElem?_append_right (by omega), hl]
      simp

theorem slC_one (S : Nat → SL) : ∀ n, ∀ u ∈ slC S n, u.oneCell' = true
  | 0, u, h => by cases h
  | n + 1, u, h => by
    unfold slC at h
    rcases List.mem_append.mp h with h | h
    · exact slC_one S n u h
    · simp only [List.mem_cons, List.mem_nil_iff, or_false] at h
      rcases h with rfl | rfl <;> rfl

theorem slC_at (S : Nat → SL) (n j : Nat) (u : Value) (h : (slC S n)[j]? = some u) : ∃ i, i < n ∧ ((j = i * 2 ∧ u = .int .i64 (S i).g) ∨ (j = i * 2 + 1 ∧ u = .int .i64 (S i).nd)) := by
  have hl : j < n * 2 := by rw [← slC_len S n]; exact (List.getElem?_eq_some_iff.mp h).1
  have hi : j / 2 < n := by omega
  obtain ⟨a, b⟩ := slC_get S n (j / 2) hi
  refine ⟨j / 2, hi, ?_⟩
  rcases (by omega : j = j / 2 * 2 ∨ j = j / 2 * 2 + 1) with e | e
  · left; refine ⟨e, ?_⟩
    rw [← e, h] at a; exact Option.some.inj a
  · right; refine ⟨e, ?_⟩
    rw [← e, h] at b; exact Option.some.inj b

theorem row_shape2 {w : World} {B e sz n : Nat} {v : Value} {xs : List Value} (h : w.ownsRow B e sz v n xs) : ∃ a cap, v = .slice a n cap ∧ n ≤ cap ∧ cap ≤ maxLen ∧ (a = none → n = 0 ∧ cap = 0) := by
  rcases h.2 with ⟨h1, h2⟩ | ⟨g, cap', cur, h1, hB, hg, hnc, hcm, hcs, _⟩
  · exact ⟨none, 0, by rw [h1, h2], by omega, by simp [maxLen], fun _ => ⟨h2, rfl⟩⟩
  · exact ⟨_, cap', h1, hnc, hcm, fun h => by simp at h⟩

/-- A row of slots of the call's own, out of the kit's word for it. -/
theorem slC_PVO {w : World} {base n : Nat} {v : Value} {S : Nat → SL} (h : w.ownsRow base 131 2 v n (slC S n)) : ∃ a c, v = .slice a n c ∧ PVO w base w.heap.size a n S ∧ n ≤ c ∧ c ≤ maxLen := by
  obtain ⟨a, c, rfl, hc1, hc2, _⟩ := row_shape2 h
  refine ⟨a, c, rfl, ?_, hc1, hc2⟩
  rcases Nat.eq_zero_or_pos n with h0 | hp
  · exact .inl h0
  · obtain ⟨gb, cap, e, hb, hlt⟩ := h.form hp
    simp only [Value.slice.injEq] at e
    obtain ⟨rfl, -, rfl⟩ := e
    refine .inr ⟨gb, 0, rfl, hb, hlt, hlt, fun i hi => ?_, fun i hi => ?_⟩
    · obtain ⟨a, b⟩ := slC_get S n i hi
      have k0 := h.cellAt (i * 2) (by omega); have k1 := h.cellAt (i * 2 + 1) (by omega)
      rw [a] at k0; rw [b] at k1
      rw [Nat.zero_add]
      exact ⟨by simpa using k0, by simpa using k1⟩
    · rw [Nat.zero_add]
      have f0 := h.frozenAt (i * 2); have f1 := h.frozenAt (i * 2 + 1)
      exact ⟨by simpa using f0, by simpa using f1⟩

theorem news2 (w : World) (s : SL) : ∀ (j : Nat) (u : Value), ([.int .i64 s.g, .int .i64 s.nd] : List Value)[j]? = some u → (w.alloc (.cells #[.int .i64 s.g, .int .i64 s.nd] 131)).cell? ((⟨w.heap.size, 0, none⟩ : Addr).add j) = some u := fun j u h => by
  have := ((Blk.new w #[.int .i64 s.g, .int .i64 s.nd] 131).2 j u h).1
  cases j with
  | zero => exact this
  | succ j => simpa [Addr.add] using this

theorem pv_news {w : World} {b q N : Nat} {S : Nat → SL} (h : PSrc w b q N S) : ∀ (j : Nat) (u : Value), (slC S N)[j]? = some u → w.cell? ((⟨b, q, none⟩ : Addr).add j) = some u := fun j u hu => by
  obtain ⟨i, hi, ⟨rfl, rfl⟩ | ⟨rfl, rfl⟩⟩ := slC_at S N j u hu
  · have := (h.two i hi).1
    have e : (⟨b, q, none⟩ : Addr).add (i * 2) = ⟨b, q + i * 2, none⟩ := by cases hx : i * 2 <;> simp [Addr.add]
    rw [e]; exact this
  · have := (h.two i hi).2
    have e : (⟨b, q, none⟩ : Addr).add (i * 2 + 1) = ⟨b, q + i * 2 + 1, none⟩ := by simp [Addr.add]; omega
    rw [e]; exact this

end Go.Proofs.Ytaenbjilcgpgcaa

namespace Go.Proofs.Ytaenbjilcgpgcaa
open Go.RowKit Go.Maps
set_option linter.unusedVariables false

def rnU (R : List Int) (t : GM) (i k : Nat) : Int := if k < i then tdF R t k else t.f k

theorem rnU_skip {R : List Int} {t : GM} {i : Nat} (h : tdF R t i = t.f i) : ∀ k, rnU R t i k = rnU R t (i + 1) k := by
  intro k
  unfold rnU
  by_cases h1 : k < i
  · rw [if_pos h1, if_pos (by omega)]
  · rw [if_neg h1]
    by_cases h2 : k = i
    · subst h2; rw [if_pos (by omega), h]
    · rw [if_neg (by omega)]

theorem rnU_step {R : List Int} {t : GM} {i : Nat} {v : Int} (h : tdF R t i = v) : ∀ k, (if k = i then v else rnU R t i k) = rnU R t (i + 1) k := by
  intro k
  unfold rnU
  by_cases h1 : k = i
  · subst h1; rw [if_pos rfl, if_pos (by omega), h]
  · rw [if_neg h1]
    by_cases h2 : k < i
    · rw [if_pos h2, if_pos (by omega)]
    · rw [if_neg h2, if_neg (by omega)]

theorem ownIn_own {w : World} {lo hi : Nat} {a : Option Addr} {n : Nat} {f : Nat → Int} (h : OwnIn w lo hi a n f) : Own w lo a n f := by
  rcases h with h | ⟨b, off, h1, ⟨h2, _⟩, h3, h4⟩
  · exact .inl h
  · exact .inr ⟨b, off, h1, h2, h3, h4⟩

end Go.Proofs.Ytaenbjilcgpgcaa

namespace Go.Proofs.Ytaenbjilcgpgcaa
open Go.RowKit Go.Maps
set_option linter.unusedVariables false

/-- A machine in memory of its own, beside a code. -/
def RetTMR (W : World) (c te qu ha : Int) (M : Nat) (S : Nat → SL) (N : Nat) (V : Nat → GM) (e : Ending) (w' : World) : Prop :=
  ∃ (sa : Option Addr) (kc : Nat) (na : Option Addr) (nc : Nat) (U : Nat → GM) (l1 h1 l2 h2 : Nat), e = .returned (.agg #[.int .i64 c, .int .i64 te, .int .i64 qu, .int .i64 ha, .slice sa M kc, .slice na N nc]) ∧ PVO w' l1 h1 sa M S ∧ NVO w' l2 h2 na N U ∧ (∀ i, i < N → TSame (V i) (U i) ∧ (U i).o = 0) ∧
    (W.heap.size ≤ l1 ∧ l1 ≤ h1 ∧ h1 ≤ w'.heap.size) ∧ (W.heap.size ≤ l2 ∧ l2 ≤ h2 ∧ h2 ≤ w'.heap.size) ∧ (h1 ≤ l2 ∨ h2 ≤ l1) ∧ Below W.heap.size W w'

/-- What TidyMachine answers. -/
def IsTM (te qu ha : Int) (M : Nat) (S : Nat → SL) (K : Nat) (T : Nat → GM) (c te' qu' ha' : Int) (M' : Nat) (S' : Nat → SL) (N' : Nat) (V : Nat → GM) : Prop :=
  IsMF te qu ha M S K T c ∧ ((c = 0 ∧ te' = te ∧ qu' = qu ∧ ha' = ha ∧ M' = M ∧ S' = tdS (reachM M S K T) S ∧ N' = (reachM M S K T).length ∧ ∀ i, i < N' → TSame (tdT (reachM M S K T) K T i) (V i)) ∨ (¬ c = 0 ∧ te' = 0 ∧ qu' = 0 ∧ ha' = 0 ∧ M' = 0 ∧ N' = 0))

theorem isTM_some (te qu ha : Int) (M : Nat) (S : Nat → SL) (K : Nat) (T : Nat → GM) : ∃ c te' qu' ha' M' S' N' V, IsTM te qu ha M S K T c te' qu' ha' M' S' N' V := by
  obtain ⟨c, hc⟩ := isMF_some te qu ha M S K T
  by_cases h : c = 0
  · exact ⟨c, te, qu, ha, M, _, _, tdT (reachM M S K T) K T, hc, .inl ⟨h, rfl, rfl, rfl, rfl, rfl, rfl, fun i hi => ⟨rfl, rfl, rfl, rfl, rfl, fun k hk => rfl⟩⟩⟩
  · exact ⟨c, 0, 0, 0, 0, S, 0, T, hc, .inr ⟨h, rfl, rfl, rfl, rfl, rfl⟩⟩

theorem tsame_trans {t u v : GM} (h : TSame t u) (h' : TSame u v) : TSame t v := by
  obtain ⟨a1, a2, a3, a4, a5, a6⟩ := h
  obtain ⟨b1, b2, b3, b4, b5, b6⟩ := h'
  exact ⟨a1.trans b1, a2.trans b2, a3.trans b3, a4.trans b4, a5.trans b5, fun k hk => (a6 k hk).trans (b6 k (by omega))⟩

theorem tsame_symm {t u : GM} (h : TSame t u) : TSame u t := by
  obtain ⟨a1, a2, a3, a4, a5, a6⟩ := h
  exact ⟨a1.symm, a2.symm, a3.symm, a4.symm, a5.symm, fun k hk => (a6 k (by omega)).symm⟩

theorem isTM_same {te qu ha : Int} {M : Nat} {S : Nat → SL} {K : Nat} {T X : Nat → GM} {c te' qu' ha' : Int} {M' : Nat} {S' : Nat → SL} {N' : Nat} {V : Nat → GM} (hs : ∀ i, i < K → GSame (T i) (X i)) (h : IsTM te qu ha M S K T c te' qu' ha' M' S' N' V) : IsTM te qu ha M S K X c te' qu' ha' M' S' N' V := by
  obtain ⟨h1, ⟨h2, h3, h4, h5, h6, h7, h8, h9⟩ | h2⟩ := h
  · subst h2
    have I := ok_iso h1 hs
    have e := reachM_same h1 hs
    refine ⟨isMF_same hs h1, .inl ⟨rfl, h3, h4, h5, h6, by rw [e]; exact h7, by rw [e]; exact h8, fun i hi => ?_⟩⟩
    have h10 := I.tidyT (i := i) (by rw [← h8]; exact hi)
    exact tsame_trans h10 (h9 i hi)
  · exact ⟨isMF_same hs h1, .inr h2⟩

theorem nd_tdT {R : List Int} {K : Nat} {T : Nat → GM} {i : Nat} {t : GM} (hi : nodeM K T (lf R i) = t) {a5 : Option Addr} {c5 : Nat} {z : Int} (hz : z = (i : Int) + 1) : TSame (tdT R K T i) ⟨z, t.s, t.m, 0, t.h, a5, t.n, c5, tdF R t⟩ := by
  unfold tdT tdN
  rw [hi]
  exact ⟨hz.symm, rfl, rfl, rfl, rfl, fun k hk => rfl⟩

theorem nmM_lf {R : List Int} (hn : R.Nodup) {i : Nat} (hi : i < R.length) : nmM R (lf R i) = (i : Int) + 1 := by
  unfold nmM numI lf
  rw [numL_at hn hi]

theorem FldG.snoc2 {w0 w1 w2 : World} {lo : Nat} {v v' : Value} {M : List GM} (t : GM) (h : FldG w0 lo v M) (hz : w0.heap.size ≤ w1.heap.size) (h01 : ∀ (b : Nat) (o : Obj), w0.heap[b]? = some o → o.isCells = true → w1.heap[b]? = some o) (hg : w1.grownBy w2 v.ownBlock)
    (hat : v'.ownBlock = v.ownBlock ∨ ∃ g, v'.ownBlock = some g ∧ w1.heap.size ≤ g) (hlo : lo ≤ w0.heap.size) (hv : ∀ k, v.ownBlock = some k → k < w0.heap.size) (ho : Own w1 w0.heap.size t.a t.n t.f) : FldG w2 lo v' (M ++ [t]) := by
  refine ⟨fun u hu => ?_, ?_⟩
  · rcases List.mem_append.mp hu with hu | hu
    · rcases Nat.eq_zero_or_pos u.n with hp | hp
      · exact .inl hp
      rcases h.1 u hu with h0 | ⟨h1, h2, h3, q, h4, h5⟩
      · exact .inl h0
      · obtain ⟨ob, hob, hcb⟩ := cells_of_cell (h5 0 hp).1
        have e := (hg.block u.g (Nat.lt_of_lt_of_le h2 hz) h3).trans ((h01 u.g ob hob hcb).trans hob.symm)
        refine .inr ⟨h1, Nat.lt_of_lt_of_le (Nat.lt_of_lt_of_le h2 hz) hg.size, ?_, q, h4, fun k hk => ⟨(World.cell?_of_block (w := w0) (a := ⟨u.g, q + k, none⟩) e).trans (h5 k hk).1, (World.frozen?_of_block (w := w0) (a := ⟨u.g, q + k, none⟩) e).trans (h5 k hk).2⟩⟩
        rcases hat with hat | ⟨g, hat, hgl⟩
        · rw [hat]; exact h3
        · rw [hat]; intro he; simp only [Option.some.injEq] at he; omega
    · simp only [List.mem_singleton] at hu
      subst hu
      rcases ho with h0 | ⟨b, off, he, h1, h2, h3⟩
      · exact .inl h0
      · have hgb : u.g = b := by simp [GM.g, he]
        have hne : some b ≠ v.ownBlock := fun hx => by have := hv b hx.symm; omega
        have e := hg.block b h2 hne
        refine .inr ⟨by omega, by rw [hgb]; exact Nat.lt_of_lt_of_le h2 hg.size, ?_, off, by rw [hgb]; exact he, fun k hk => ?_⟩
        · rw [hgb]
          rcases hat with hat | ⟨g, hat, hgl⟩
          · rw [hat]; exact hne
          · rw [hat]; intro hx; simp only [Option.some.injEq] at hx; omega
        · rw [hgb]
          exact ⟨(World.cell?_of_block (w := w1) (a := ⟨b, off + k, none⟩) e).trans (h3 k hk).1, (World.frozen?_of_block (w := w1) (a := ⟨b, off + k, none⟩) e).trans (h3 k hk).2⟩
  · rw [List.pairwise_append]
    refine ⟨h.2, by simp, fun u hu x hx => ?_⟩
    simp only [List.mem_singleton] at hx
    subst hx
    rcases h.1 u hu with h0 | ⟨_, h2, _⟩
    · exact .inl h0
    · rcases ho with h0 | ⟨b, off, he, h1, _⟩
      · exact .inr (.inl h0)
      · have hgb : x.g = b := by simp [GM.g, he]
        exact .inr (.inr (by omega))

end Go.Proofs.Ytaenbjilcgpgcaa

