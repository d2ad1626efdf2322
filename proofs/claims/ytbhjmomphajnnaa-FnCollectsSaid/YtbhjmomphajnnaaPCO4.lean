/- Texts merged: R4 to U1. -/
import Derived.Test.YtbhjmomphajnnaaPCO3
import Derived.Maps.Own
import Derived.Maps.OwnOps
import Derived.Maps.OwnSet
import Derived.OneCell
import Derived.WalkMore
namespace Go.Proofs.Ytbhjmomphajnnaa
open Go.RowKit
set_option linter.unusedVariables false

theorem fm_congr {α β : Type} {l : List α} {f g : α → Option β} (h : ∀ k ∈ l, f k = g k) : l.filterMap f = l.filterMap g := by
  induction l with
  | nil => rfl
  | cons k l ih =>
    rw [List.filterMap_cons, List.filterMap_cons, h k (List.mem_cons_self ..), ih fun q hq => h q (List.mem_cons_of_mem _ hq)]

/-- The objects at places, in their order. -/
def objsO (L : List Ob) (R : List Int) : List Ob := R.filterMap (findO L)

theorem objsO_length {L : List Ob} : ∀ {R : List Int}, (∀ p ∈ R, p ∈ placesO L) → (objsO L R).length = R.length
  | [], _ => rfl
  | p :: R, h => by
    obtain ⟨x, hx⟩ := mem_placesO.1 (h p (List.mem_cons_self ..))
    have := objsO_length (L := L) (R := R) (fun q hq => h q (List.mem_cons_of_mem _ hq))
    unfold objsO at this ⊢
    rw [List.filterMap_cons_some hx]
    simp [this]

theorem objsO_get {L : List Ob} : ∀ {R : List Int} (_ : ∀ p ∈ R, p ∈ placesO L) (i : Nat) (hi : i < R.length) (hi' : i < (objsO L R).length), findO L R[i] = some (objsO L R)[i]
  | p :: R, h, i, hi, hi' => by
    obtain ⟨x, hx⟩ := mem_placesO.1 (h p (List.mem_cons_self ..))
    have e : objsO L (p :: R) = x :: objsO L R := by unfold objsO; rw [List.filterMap_cons_some hx]
    cases i with
    | zero => simp only [e, List.getElem_cons_zero]; exact hx
    | succ i =>
      have := objsO_get (L := L) (R := R) (fun q hq => h q (List.mem_cons_of_mem _ hq)) i (by simpa using hi) (by simpa [e] using hi')
      simpa [e] using this

/-- Where the object of a place is now. -/
def goes (R Q : List Int) (p : Int) : Int := Q.getD ((numL R p).getD 0) 0

/-- What a field holds now. -/
def mapF (f : Nat → Int) (R Q : List Int) (x : Ob) (k : Nat) : Int :=
  if x.m / P2 (k : Int) % 2 = 1 ∧ ¬ f (x.at_.toNat + 2 + k) = 0 then goes R Q (f (x.at_.toNat + 2 + k) - 1) + 1 else f (x.at_.toNat + 2 + k)

/-- The words behind a collection. -/
structure IsCol (f : Nat → Int) (L : List Ob) (R : List Int) (P : Nat) (g : Nat → Int) : Prop where
  heads : HeadsAt g P (objsO L R)
  flds : ∀ (i : Nat) (hi : i < (objsO L R).length) (k : Nat), k < (objsO L R)[i].s.toNat → g (placeAt P (objsO L R) i + 2 + k) = mapF f R (newPlaces P (objsO L R)) (objsO L R)[i] k
  rest : ∀ j, ¬ (P ≤ j ∧ j < P + totO (objsO L R)) → g j = 0

theorem goes_at {R Q : List Int} (hn : R.Nodup) {i : Nat} (hi : i < R.length) : goes R Q (R.getD i 0) = Q.getD i 0 := by
  unfold goes
  rw [numL_at hn hi]; rfl

theorem getD_get {R : List Int} {i : Nat} (hi : i < R.length) : R.getD i 0 = R[i] := by
  rw [List.getD_eq_getElem?_getD, List.getElem?_eq_getElem hi]; rfl

theorem goes_map {R Q : List Int} (hn : R.Nodup) (hl : Q.length = R.length) : R.map (goes R Q) = Q := by
  apply List.ext_getElem?
  intro i
  by_cases hi : i < R.length
  · rw [List.getElem?_map, List.getElem?_eq_getElem hi, List.getElem?_eq_getElem (by omega)]
    simp only [Option.map_some, Option.some.injEq]
    rw [← getD_get hi, goes_at hn hi, getD_get (by omega)]
  · rw [List.getElem?_eq_none (by simp; omega), List.getElem?_eq_none (by omega)]

theorem goes_inj {R Q : List Int} (hn : R.Nodup) (hq : Q.Nodup) (hl : Q.length = R.length) : ∀ x ∈ R, ∀ y ∈ R, goes R Q x = goes R Q y → x = y := by
  intro x hx y hy he
  obtain ⟨i, hi, rfl⟩ := List.getElem_of_mem hx
  obtain ⟨j, hj, rfl⟩ := List.getElem_of_mem hy
  rw [← getD_get hi, ← getD_get hj, goes_at hn hi, goes_at hn hj, getD_get (show i < Q.length by omega), getD_get (show j < Q.length by omega)] at he
  have := (List.getElem_inj hq).mp he
  subst this; rfl

/-- What is known of an arena that is right. -/
structure Right (f : Nat → Int) (L : List Ob) : Prop where
  points : Points f L
  size : ∀ x ∈ L, 0 ≤ x.s
  ok : ∀ x ∈ L, ObOk x
  apart : ∀ x ∈ L, findO L x.at_ = some x

section

variable {f g : Nat → Int} {L : List Ob} {roots : List Int} {P : Nat}

theorem col_ok (hr : Right f L) {R : List Int} : ∀ x ∈ objsO L R, ObOk x := fun x hx => by
  obtain ⟨p, _, hp⟩ := List.mem_filterMap.mp hx
  exact hr.ok x (List.mem_of_find?_eq_some hp)

theorem col_parse (hr : Right f L) {R : List Int} (hc : IsCol f L R P g) : parse g (P + totO (objsO L R)) P = some (moved P (objsO L R)) := parse_heads _ _ (col_ok hr) hc.heads

/-- Where the object of a number leads, behind a collection. -/
theorem col_ptrs (hr : Right f L) (hroots : ∀ p ∈ roots, p ∈ placesO L) (hc : IsCol f L (reachO f L roots) P g) (i : Nat) (hi : i < (reachO f L roots).length) (hi' : i < (objsO L (reachO f L roots)).length) :
    succO g (moved P (objsO L (reachO f L roots))) (placeAt P (objsO L (reachO f L roots)) i : Int) = (succO f L (reachO f L roots)[i]).map (goes (reachO f L roots) (newPlaces P (objsO L (reachO f L roots)))) := by
  have hsub := reachO_sub hr.points hr.size hroots
  have hf := objsO_get hsub i hi hi'
  unfold succO
  rw [moved_find P _ hi', hf]
  show ptrs g _ = (ptrs f _).map _
  unfold ptrs
  rw [List.map_filterMap]
  refine fm_congr fun k hk => ?_
  have hk' : k < (objsO L (reachO f L roots))[i].s.toNat := by simpa using hk
  have hg := hc.flds i hi' k hk'
  simp only [Int.toNat_natCast]
  rw [hg]
  by_cases hb : (objsO L (reachO f L roots))[i].m / P2 (k : Int) % 2 = 1
  · by_cases hv : f ((objsO L (reachO f L roots))[i].at_.toNat + 2 + k) = 0
    · have hm : mapF f (reachO f L roots) (newPlaces P (objsO L (reachO f L roots))) (objsO L (reachO f L roots))[i] k = 0 := by
        unfold mapF; rw [if_neg (fun h => h.2 hv)]; exact hv
      rw [hm, if_neg (fun h => h.2 rfl), if_neg (fun h => h.2 hv)]
      rfl
    · have hcl := reachO_closed hr.points hr.size hroots (reachO f L roots)[i] (List.getElem_mem hi) (f ((objsO L (reachO f L roots))[i].at_.toNat + 2 + k) - 1) (by
        unfold succO; rw [hf]; exact mem_ptrs.2 ⟨k, hk', hb, hv, rfl⟩)
      have hpos : ¬ goes (reachO f L roots) (newPlaces P (objsO L (reachO f L roots))) (f ((objsO L (reachO f L roots))[i].at_.toNat + 2 + k) - 1) + 1 = 0 := by
        obtain ⟨j, hj, hje⟩ := List.getElem_of_mem hcl
        rw [← hje, ← getD_get hj, goes_at (reachO_nodup f L roots) hj, newPlaces_get P _ (by rw [objsO_length hsub]; exact hj)]
        omega
      have hm : mapF f (reachO f L roots) (newPlaces P (objsO L (reachO f L roots))) (objsO L (reachO f L roots))[i] k = goes (reachO f L roots) (newPlaces P (objsO L (reachO f L roots))) (f ((objsO L (reachO f L roots))[i].at_.toNat + 2 + k) - 1) + 1 := by
        unfold mapF; rw [if_pos ⟨hb, hv⟩]
      rw [hm, if_pos ⟨hb, hpos⟩, if_pos ⟨hb, hv⟩]
      simp
  · rw [if_neg (fun h => hb h.1), if_neg (fun h => hb h.1)]
    rfl

/-- What is reached behind a collection: all of it, in the same order. -/
theorem col_reach (hr : Right f L) (hroots : ∀ p ∈ roots, p ∈ placesO L) (hc : IsCol f L (reachO f L roots) P g) :
    reachO g (moved P (objsO L (reachO f L roots))) (roots.map (goes (reachO f L roots) (newPlaces P (objsO L (reachO f L roots))))) = newPlaces P (objsO L (reachO f L roots)) := by
  have hsub := reachO_sub hr.points hr.size hroots
  have hlen := objsO_length hsub
  have hnd := reachO_nodup f L roots
  have hcl := reachO_closed hr.points hr.size hroots
  have hrt := reachO_roots f L roots
  have hml : (moved P (objsO L (reachO f L roots))).length = (reachO f L roots).length := by rw [moved_length, hlen]
  unfold reachO at hml ⊢
  rw [hml]
  change reachL _ (reachO f L roots).length (roots.map (goes (reachO f L roots) (newPlaces P (objsO L (reachO f L roots))))) = newPlaces P (objsO L (reachO f L roots))
  rw [reachL_map (succO f L) _ (goes (reachO f L roots) (newPlaces P (objsO L (reachO f L roots)))) _ (reachO f L roots) roots hcl (goes_inj hnd (newPlaces_nodup P _) (by rw [newPlaces_length, hlen])) (fun x hx => ?_) hrt]
  · have hfu : reachL (succO f L) (reachO f L roots).length roots = reachO f L roots :=
      scanF_fuel (succO f L) (reachO f L roots) hcl _ _ 0 _ (nodup_addNew _ _ List.nodup_nil) (addNew_sub hrt) (by omega) (by have := reachO_length hr.points hr.size hroots; omega)
    rw [hfu]
    exact goes_map hnd (by rw [newPlaces_length, hlen])
  · obtain ⟨i, hi, rfl⟩ := List.getElem_of_mem hx
    have := col_ptrs hr hroots hc i hi (by rw [hlen]; exact hi)
    rw [← getD_get hi, goes_at hnd hi, newPlaces_get P _ (by rw [hlen]; exact hi), getD_get hi]
    exact this

end
end Go.Proofs.Ytbhjmomphajnnaa

namespace Go.Proofs.Ytbhjmomphajnnaa
open Go.RowKit
set_option linter.unusedVariables false

/-- Two fields are alike. -/
def FldAlike (R R' : List Int) (bit : Prop) (v w : Int) : Prop := (bit → ((v = 0 ↔ w = 0) ∧ (¬ v = 0 → numL R (v - 1) = numL R' (w - 1)))) ∧ (¬ bit → v = w)

/-- What is reached from both is alike. -/
structure AlikeO (f : Nat → Int) (L : List Ob) (ra : List Int) (g : Nat → Int) (L' : List Ob) (rb : List Int) : Prop where
  rlen : ra.length = rb.length
  len : (reachO f L ra).length = (reachO g L' rb).length
  obj : ∀ i, i < (reachO f L ra).length → ∃ x y, findO L ((reachO f L ra).getD i 0) = some x ∧ findO L' ((reachO g L' rb).getD i 0) = some y ∧ (x.s = y.s ∧ x.m = y.m ∧ x.o = y.o ∧ x.h = y.h) ∧
    ∀ k : Nat, k < x.s.toNat → FldAlike (reachO f L ra) (reachO g L' rb) (x.m / P2 (k : Int) % 2 = 1) (f (x.at_.toNat + 2 + k)) (g (y.at_.toNat + 2 + k))
  roots : ∀ i, i < ra.length → numL (reachO f L ra) (ra.getD i 0) = numL (reachO g L' rb) (rb.getD i 0)

section

variable {f g e : Nat → Int} {L L' L2 : List Ob} {ra rb rc : List Int}

theorem AlikeO.symm (h : AlikeO f L ra g L' rb) : AlikeO g L' rb f L ra := by
  refine ⟨h.rlen.symm, h.len.symm, fun i hi => ?_, fun i hi => (h.roots i (by rw [h.rlen]; exact hi)).symm⟩
  obtain ⟨x, y, h1, h2, ⟨a1, a2, a3, a4⟩, h4⟩ := h.obj i (by rw [h.len]; exact hi)
  refine ⟨y, x, h2, h1, ⟨a1.symm, a2.symm, a3.symm, a4.symm⟩, fun k hk => ?_⟩
  obtain ⟨b1, b2⟩ := h4 k (by rw [a1]; exact hk)
  rw [← a2]
  exact ⟨fun hb => ⟨(b1 hb).1.symm, fun hw => ((b1 hb).2 (fun hv => hw ((b1 hb).1.1 hv))).symm⟩, fun hb => (b2 hb).symm⟩

theorem AlikeO.trans (h : AlikeO f L ra g L' rb) (k : AlikeO g L' rb e L2 rc) : AlikeO f L ra e L2 rc := by
  refine ⟨h.rlen.trans k.rlen, h.len.trans k.len, fun i hi => ?_, fun i hi => (h.roots i hi).trans (k.roots i (by rw [← h.rlen]; exact hi))⟩
  obtain ⟨x, y, h1, h2, ⟨a1, a2, a3, a4⟩, h4⟩ := h.obj i hi
  obtain ⟨y', z, k1, k2, ⟨c1, c2, c3, c4⟩, k4⟩ := k.obj i (by rw [← h.len]; exact hi)
  rw [h2] at k1
  obtain rfl := Option.some.inj k1
  refine ⟨x, z, h1, k2, ⟨a1.trans c1, a2.trans c2, a3.trans c3, a4.trans c4⟩, fun q hq => ?_⟩
  obtain ⟨b1, b2⟩ := h4 q hq
  obtain ⟨d1, d2⟩ := k4 q (by rw [← a1]; exact hq)
  rw [← a2] at d1 d2
  exact ⟨fun hb => ⟨(b1 hb).1.trans (d1 hb).1, fun hv => ((b1 hb).2 hv).trans ((d1 hb).2 (fun hw => hv ((b1 hb).1.2 hw)))⟩, fun hb => (b2 hb).trans (d2 hb)⟩

theorem AlikeO.refl (hr : Right f L) (hroots : ∀ p ∈ ra, p ∈ placesO L) : AlikeO f L ra f L ra := by
  refine ⟨rfl, rfl, fun i hi => ?_, fun _ _ => rfl⟩
  have hm : (reachO f L ra).getD i 0 ∈ reachO f L ra := by rw [getD_get hi]; exact List.getElem_mem hi
  obtain ⟨x, hx⟩ := mem_placesO.1 (reachO_sub hr.points hr.size hroots _ hm)
  exact ⟨x, x, hx, hx, ⟨rfl, rfl, rfl, rfl⟩, fun k _ => ⟨fun _ => ⟨Iff.rfl, fun _ => rfl⟩, fun _ => rfl⟩⟩

end

section

variable {f g : Nat → Int} {L : List Ob} {roots : List Int} {P : Nat}

theorem col_roots (hr : Right f L) (hroots : ∀ p ∈ roots, p ∈ placesO L) : ∀ p ∈ roots.map (goes (reachO f L roots) (newPlaces P (objsO L (reachO f L roots)))), p ∈ newPlaces P (objsO L (reachO f L roots)) := by
  intro p hp
  obtain ⟨q, hq, rfl⟩ := List.mem_map.mp hp
  obtain ⟨i, hi, rfl⟩ := List.getElem_of_mem (reachO_roots f L roots q hq)
  have hlen := objsO_length (reachO_sub hr.points hr.size hroots)
  rw [← getD_get hi, goes_at (reachO_nodup f L roots) hi, getD_get (show i < (newPlaces P (objsO L (reachO f L roots))).length by rw [newPlaces_length, hlen]; exact hi)]
  exact List.getElem_mem _

theorem col_num (hr : Right f L) (hroots : ∀ p ∈ roots, p ∈ placesO L) {v : Int} (hv : v ∈ reachO f L roots) : numL (newPlaces P (objsO L (reachO f L roots))) (goes (reachO f L roots) (newPlaces P (objsO L (reachO f L roots))) v) = numL (reachO f L roots) v := by
  have hlen := objsO_length (reachO_sub hr.points hr.size hroots)
  have hm := goes_map (Q := newPlaces P (objsO L (reachO f L roots))) (reachO_nodup f L roots) (by rw [newPlaces_length, hlen])
  have := numL_map (goes (reachO f L roots) (newPlaces P (objsO L (reachO f L roots)))) (reachO_nodup f L roots) (by rw [hm]; exact newPlaces_nodup P _) hv
  rw [hm] at this
  exact this

/-- What is reached is alike behind a collection. -/
theorem col_alike (hr : Right f L) (hroots : ∀ p ∈ roots, p ∈ placesO L) (hc : IsCol f L (reachO f L roots) P g) :
    AlikeO f L roots g (moved P (objsO L (reachO f L roots))) (roots.map (goes (reachO f L roots) (newPlaces P (objsO L (reachO f L roots))))) := by
  have hcr := col_reach hr hroots hc
  have hsub := reachO_sub hr.points hr.size hroots
  have hlen := objsO_length hsub
  refine ⟨by simp, by rw [hcr, newPlaces_length, hlen], fun i hi => ?_, fun i hi => ?_⟩
  · have hi' : i < (objsO L (reachO f L roots)).length := by rw [hlen]; exact hi
    have hf := objsO_get hsub i hi hi'
    refine ⟨(objsO L (reachO f L roots))[i], ⟨(placeAt P (objsO L (reachO f L roots)) i : Int), (objsO L (reachO f L roots))[i].s, (objsO L (reachO f L roots))[i].m, (objsO L (reachO f L roots))[i].o, (objsO L (reachO f L roots))[i].h⟩, by rw [getD_get hi]; exact hf, by rw [hcr, newPlaces_get P _ hi']; exact moved_find P _ hi', ⟨rfl, rfl, rfl, rfl⟩, fun k hk => ?_⟩
    have hg := hc.flds i hi' k hk
    simp only [Int.toNat_natCast]
    rw [hg, hcr]
    unfold mapF
    refine ⟨fun hb => ?_, fun hb => ?_⟩
    · by_cases hv : f ((objsO L (reachO f L roots))[i].at_.toNat + 2 + k) = 0
      · rw [if_neg (fun h => h.2 hv)]
        exact ⟨Iff.rfl, fun h => absurd hv h⟩
      · have hcl := reachO_closed hr.points hr.size hroots (reachO f L roots)[i] (List.getElem_mem hi) (f ((objsO L (reachO f L roots))[i].at_.toNat + 2 + k) - 1) (by
          unfold succO; rw [hf]; exact mem_ptrs.2 ⟨k, hk, hb, hv, rfl⟩)
        rw [if_pos ⟨hb, hv⟩]
        refine ⟨⟨fun h => absurd h hv, fun h => ?_⟩, fun _ => ?_⟩
        · obtain ⟨j, hj, hje⟩ := List.getElem_of_mem hcl
          rw [← hje, ← getD_get hj, goes_at (reachO_nodup f L roots) hj, newPlaces_get P _ (by rw [hlen]; exact hj)] at h
          omega
        · rw [Int.add_sub_cancel, col_num hr hroots hcl]
    · rw [if_neg (fun h => hb h.1)]
  · have hq : (roots.map (goes (reachO f L roots) (newPlaces P (objsO L (reachO f L roots))))).getD i 0 = goes (reachO f L roots) (newPlaces P (objsO L (reachO f L roots))) (roots.getD i 0) := by
      rw [List.getD_eq_getElem?_getD, List.getElem?_map, List.getD_eq_getElem?_getD, List.getElem?_eq_getElem hi]; rfl
    rw [hcr, hq, col_num hr hroots (reachO_roots f L roots _ (by rw [getD_get hi]; exact List.getElem_mem hi))]

/-- Behind a collection all is right. -/
theorem col_points (hr : Right f L) (hroots : ∀ p ∈ roots, p ∈ placesO L) (hc : IsCol f L (reachO f L roots) P g) : Points g (moved P (objsO L (reachO f L roots))) := by
  have hsub := reachO_sub hr.points hr.size hroots
  have hlen := objsO_length hsub
  intro x hx k hk hb
  obtain ⟨i, hi, rfl⟩ := List.getElem_of_mem hx
  have hi' : i < (objsO L (reachO f L roots)).length := by rwa [moved_length] at hi
  have hiR : i < (reachO f L roots).length := by rw [← hlen]; exact hi'
  have he := moved_get (objsO L (reachO f L roots)) P i hi'
  rw [List.getElem?_eq_getElem hi] at he
  have he' := Option.some.inj he
  rw [he'] at hk hb ⊢
  simp only [Int.toNat_natCast] at hk hb ⊢
  have hf := objsO_get hsub i hiR hi'
  have hXL := List.mem_of_find?_eq_some hf
  have hs0 := hr.size _ hXL
  have hk' : k < (objsO L (reachO f L roots))[i].s.toNat := by omega
  rw [hc.flds i hi' k hk']
  have hl := hr.points _ hXL k hk hb
  unfold mapF
  by_cases hv : f ((objsO L (reachO f L roots))[i].at_.toNat + 2 + k) = 0
  · rw [if_neg (fun h => h.2 hv), hv]
    unfold leadsB; rw [if_pos rfl]
  · rw [if_pos ⟨hb, hv⟩]
    have hcl := reachO_closed hr.points hr.size hroots (reachO f L roots)[i] (List.getElem_mem hiR) (f ((objsO L (reachO f L roots))[i].at_.toNat + 2 + k) - 1) (by
      unfold succO; rw [hf]; exact mem_ptrs.2 ⟨k, hk', hb, hv, rfl⟩)
    obtain ⟨j, hj, hje⟩ := List.getElem_of_mem hcl
    have hj' : j < (objsO L (reachO f L roots)).length := by rw [hlen]; exact hj
    rw [← hje, ← getD_get hj, goes_at (reachO_nodup f L roots) hj, newPlaces_get P _ hj']
    unfold leadsB at hl ⊢
    rw [if_neg hv, ← hje, objsO_get hsub j hj hj'] at hl
    rw [if_neg (by omega), Int.add_sub_cancel, moved_find P _ hj']
    exact hl

theorem col_right (hr : Right f L) (hroots : ∀ p ∈ roots, p ∈ placesO L) (hc : IsCol f L (reachO f L roots) P g) : Right g (moved P (objsO L (reachO f L roots))) := by
  have key : ∀ x ∈ moved P (objsO L (reachO f L roots)), ∃ (i : Nat) (hi : i < (objsO L (reachO f L roots)).length), x = ⟨(placeAt P (objsO L (reachO f L roots)) i : Int), (objsO L (reachO f L roots))[i].s, (objsO L (reachO f L roots))[i].m, (objsO L (reachO f L roots))[i].o, (objsO L (reachO f L roots))[i].h⟩ := by
    intro x hx
    obtain ⟨i, hi, rfl⟩ := List.getElem_of_mem hx
    have hi' : i < (objsO L (reachO f L roots)).length := by rwa [moved_length] at hi
    have he := moved_get (objsO L (reachO f L roots)) P i hi'
    rw [List.getElem?_eq_getElem hi] at he
    exact ⟨i, hi', Option.some.inj he⟩
  refine ⟨col_points hr hroots hc, fun x hx => ?_, fun x hx => ?_, fun x hx => ?_⟩
  · obtain ⟨i, hi, rfl⟩ := key x hx
    exact (col_ok hr (objsO L (reachO f L roots))[i] (List.getElem_mem hi)).1.1.1
  · obtain ⟨i, hi, rfl⟩ := key x hx
    exact col_ok hr (objsO L (reachO f L roots))[i] (List.getElem_mem hi)
  · obtain ⟨i, hi, rfl⟩ := key x hx
    exact moved_find P _ hi

end
end Go.Proofs.Ytbhjmomphajnnaa

namespace Go.Proofs.Ytbhjmomphajnnaa
open Go.RowKit
set_option linter.unusedVariables false

theorem parse_tot_eq {f : Nat → Int} {e : Nat} : ∀ (d a : Nat) (L : List Ob), e - a ≤ d → a ≤ e → parse f e a = some L → a + totO L = e
  | d, a, L, hd, hae, hp => by
    by_cases h : a < e
    · by_cases hg : Good f e a
      · rw [parse_good h hg] at hp
        cases hr : parse f e (a + 2 + szOf f a) with
        | none => rw [hr] at hp; cases hp
        | some L' =>
          rw [hr] at hp
          simp only [Option.map_some, Option.some.injEq] at hp
          subst hp
          match d with
          | 0 => omega
          | d + 1 =>
            have ih := parse_tot_eq d _ L' (by omega) hg.2.2 hr
            have hw : wordsO (objAt f a) = 2 + szOf f a := rfl
            show a + (wordsO (objAt f a) + totO L') = e
            omega
      · rw [parse_bad h hg] at hp; cases hp
    · rw [parse_stop h] at hp
      cases hp
      show a + 0 = e
      omega

def sumW (w : Int → Nat) : List Int → Nat
  | [] => 0
  | p :: l => w p + sumW w l

theorem sumW_erase (w : Int → Nat) : ∀ (l : List Int) (p : Int), p ∈ l → sumW w l = w p + sumW w (l.erase p)
  | q :: l, p, h => by
    by_cases e : q = p
    · subst e
      rw [List.erase_cons_head]; rfl
    · have hm : p ∈ l := by
        rcases List.mem_cons.mp h with h1 | h1
        · exact absurd h1.symm e
        · exact h1
      rw [List.erase_cons_tail (by simpa using e)]
      have := sumW_erase w l p hm
      show w q + sumW w l = w p + (w q + sumW w (l.erase p))
      omega

theorem sumW_le (w : Int → Nat) : ∀ (R U : List Int), R.Nodup → (∀ p ∈ R, p ∈ U) → sumW w R ≤ sumW w U
  | [], _, _, _ => Nat.zero_le _
  | p :: R, U, hn, hs => by
    have hx := List.nodup_cons.mp hn
    have ih := sumW_le w R (U.erase p) hx.2 (fun q hq => (List.mem_erase_of_ne (fun e => by subst e; exact hx.1 hq)).mpr (hs q (List.mem_cons_of_mem _ hq)))
    have := sumW_erase w U p (hs p (List.mem_cons_self ..))
    show w p + sumW w R ≤ sumW w U
    omega

/-- How many words the object of a place has. -/
def wordsAt (L : List Ob) (p : Int) : Nat := match findO L p with | some x => wordsO x | none => 0

theorem tot_objs {L : List Ob} : ∀ {R : List Int}, (∀ p ∈ R, p ∈ placesO L) → totO (objsO L R) = sumW (wordsAt L) R
  | [], _ => rfl
  | p :: R, h => by
    obtain ⟨x, hx⟩ := mem_placesO.1 (h p (List.mem_cons_self ..))
    have e : objsO L (p :: R) = x :: objsO L R := by unfold objsO; rw [List.filterMap_cons_some hx]
    have hw : wordsAt L p = wordsO x := by unfold wordsAt; rw [hx]
    rw [e]
    show wordsO x + totO (objsO L R) = wordsAt L p + sumW (wordsAt L) R
    rw [hw, tot_objs fun q hq => h q (List.mem_cons_of_mem _ hq)]

theorem objs_all {L : List Ob} (ha : ∀ x ∈ L, findO L x.at_ = some x) : objsO L (placesO L) = L := by
  have key : ∀ X : List Ob, (∀ x ∈ X, findO L x.at_ = some x) → (X.map Ob.at_).filterMap (findO L) = X := by
    intro X
    induction X with
    | nil => intro _; rfl
    | cons x X ih =>
      intro h
      rw [List.map_cons, List.filterMap_cons_some (h x (List.mem_cons_self ..)), ih fun y hy => h y (List.mem_cons_of_mem _ hy)]
  exact key L ha

theorem tot_le {L : List Ob} {R : List Int} (ha : ∀ x ∈ L, findO L x.at_ = some x) (hn : R.Nodup) (hs : ∀ p ∈ R, p ∈ placesO L) : totO (objsO L R) ≤ totO L := by
  have h1 : totO L = sumW (wordsAt L) (placesO L) := by
    rw [← tot_objs (L := L) (R := placesO L) (fun p hp => hp), objs_all ha]
  rw [tot_objs hs, h1]
  exact sumW_le _ _ _ hn hs

theorem in_object : ∀ (X : List Ob) (P i : Nat), P ≤ i → i < P + totO X → ∃ (j : Nat) (hj : j < X.length), placeAt P X j ≤ i ∧ i < placeAt P X j + wordsO X[j]
  | [], P, i, h1, h2 => by simp [totO] at h2; omega
  | x :: X, P, i, h1, h2 => by
    by_cases h : i < P + wordsO x
    · exact ⟨0, by simp, by rw [placeAt_zero]; exact h1, by rw [placeAt_zero]; exact h⟩
    · have ht : totO (x :: X) = wordsO x + totO X := rfl
      obtain ⟨j, hj, h3, h4⟩ := in_object X (P + wordsO x) i (by omega) (by omega)
      exact ⟨j + 1, by simpa using hj, by rw [placeAt_succ]; exact h3, by rw [placeAt_succ]; simpa using h4⟩

theorem headsAt_get {g : Nat → Int} : ∀ (X : List Ob) (P : Nat), HeadsAt g P X → ∀ (i : Nat) (hi : i < X.length), g (placeAt P X i) = packO X[i] ∧ g (placeAt P X i + 1) = X[i].h
  | x :: X, P, h, 0, _ => by rw [placeAt_zero]; exact ⟨h.1, h.2.1⟩
  | x :: X, P, h, i + 1, hi => by
    rw [placeAt_succ]
    simpa using headsAt_get X (P + wordsO x) h.2.2 i (by simpa using hi)

theorem right_of {h : Int} {n : Nat} {f : Nat → Int} {ac bu : Int} {L : List Ob} (hk : IsSF h n f ac bu 0) (ho : IsOI h n f ac bu 0 L) : Right f L := by
  have hpz := (isOI_zero ho).2
  obtain ⟨⟨⟨q1, q2⟩, ⟨q3, q4⟩, q5, q6⟩, qn, qw⟩ := isFault_ok (isOI_zero ho).1
  have hPUn : (baseI ac h).toNat + bu.toNat ≤ n := by rcases (by omega : ac = 0 ∨ ac = 1) with rfl | rfl <;> simp [baseI] <;> omega
  refine ⟨(isSF_shape hk ho).1, fun x hx => ?_, fun x hx => ?_, fun x hx => ?_⟩
  · exact (parse_ok hpz hPUn qw x hx).1.1
  · obtain ⟨a', he, hg⟩ := parse_all _ _ L (Nat.le_refl _) hpz x hx
    refine ⟨?_, (parse_ok hpz hPUn qw x hx).2.1.2⟩
    rw [he]; exact hg.2.1.2
  · obtain ⟨i, hi, rfl⟩ := List.getElem_of_mem hx
    exact findO_at hpz hi

/-- A collection makes an arena that is right, of the objects that are reached. -/
theorem col_shape {h : Int} {n : Nat} {f g : Nat → Int} {ac bu : Int} {L : List Ob} {roots : List Int} (hk : IsSF h n f ac bu 0) (ho : IsOI h n f ac bu 0 L) (hroots : ∀ p ∈ roots, p ∈ placesO L) (hc : IsCol f L (reachO f L roots) (baseI (1 - ac) h).toNat g) :
    (totO (objsO L (reachO f L roots)) : Int) ≤ bu ∧ IsOI h n g (1 - ac) (totO (objsO L (reachO f L roots)) : Int) 0 (moved (baseI (1 - ac) h).toNat (objsO L (reachO f L roots))) ∧ IsSF h n g (1 - ac) (totO (objsO L (reachO f L roots)) : Int) 0 := by
  have hr := right_of hk ho
  have hpz := (isOI_zero ho).2
  obtain ⟨⟨⟨q1, q2⟩, ⟨q3, q4⟩, q5, q6⟩, qn, qw⟩ := isFault_ok (isOI_zero ho).1
  have hb0 : 0 ≤ baseI ac h ∧ baseI ac h + bu ≤ 2 * h ∧ 0 ≤ baseI (1 - ac) h ∧ baseI (1 - ac) h + h ≤ 2 * h := by rcases (by omega : ac = 0 ∨ ac = 1) with rfl | rfl <;> simp [baseI] <;> omega
  have hsub := reachO_sub hr.points hr.size hroots
  have hlen := objsO_length hsub
  have htl := tot_le hr.apart (reachO_nodup f L roots) hsub
  have htot := parse_tot_eq _ _ L (Nat.le_refl _) (by omega) hpz
  have hbu : (totO (objsO L (reachO f L roots)) : Int) ≤ bu := by omega
  have hPt : (baseI (1 - ac) h).toNat + totO (objsO L (reachO f L roots)) ≤ 400 := by omega
  have hword : ∀ i, i < n → Word (g i) := by
    intro i hi
    by_cases hin : (baseI (1 - ac) h).toNat ≤ i ∧ i < (baseI (1 - ac) h).toNat + totO (objsO L (reachO f L roots))
    · obtain ⟨j, hj, h1, h2⟩ := in_object _ _ i hin.1 hin.2
      have hok := col_ok hr (R := reachO f L roots) _ (List.getElem_mem hj)
      obtain ⟨e1, e2⟩ := headsAt_get _ _ hc.heads j hj
      obtain ⟨⟨⟨s1, s2⟩, ⟨m1, m2⟩, ⟨o1, o2⟩, ⟨t1, t2⟩⟩, m3⟩ := hok
      have hw : wordsO (objsO L (reachO f L roots))[j] = 2 + (objsO L (reachO f L roots))[j].s.toNat := rfl
      have h3 : i = placeAt (baseI (1 - ac) h).toNat (objsO L (reachO f L roots)) j ∨ i = placeAt (baseI (1 - ac) h).toNat (objsO L (reachO f L roots)) j + 1 ∨ ∃ k, k < (objsO L (reachO f L roots))[j].s.toNat ∧ i = placeAt (baseI (1 - ac) h).toNat (objsO L (reachO f L roots)) j + 2 + k := by
        by_cases a1 : i = placeAt (baseI (1 - ac) h).toNat (objsO L (reachO f L roots)) j
        · exact .inl a1
        · by_cases a2 : i = placeAt (baseI (1 - ac) h).toNat (objsO L (reachO f L roots)) j + 1
          · exact .inr (.inl a2)
          · exact .inr (.inr ⟨i - (placeAt (baseI (1 - ac) h).toNat (objsO L (reachO f L roots)) j + 2), by omega, by omega⟩)
      rcases h3 with h3 | h3 | ⟨k, hk', h3⟩
      · rw [h3, e1]; unfold packO Word; omega
      · rw [h3, e2]; unfold Word; omega
      · rw [h3, hc.flds j hj k hk']
        have hjR : j < (reachO f L roots).length := by rw [← hlen]; exact hj
        have hf := objsO_get hsub j hjR hj
        have hxL := List.mem_of_find?_eq_some hf
        obtain ⟨_, _, _, _, hfw⟩ := parse_ok hpz (show (baseI ac h).toNat + bu.toNat ≤ n by omega) qw _ hxL
        have hold := hfw k hk'
        unfold mapF
        by_cases hbv : (objsO L (reachO f L roots))[j].m / P2 (k : Int) % 2 = 1 ∧ ¬ f ((objsO L (reachO f L roots))[j].at_.toNat + 2 + k) = 0
        · rw [if_pos hbv]
          have hcl := reachO_closed hr.points hr.size hroots (reachO f L roots)[j] (List.getElem_mem hjR) (f ((objsO L (reachO f L roots))[j].at_.toNat + 2 + k) - 1) (by
            unfold succO; rw [hf]; exact mem_ptrs.2 ⟨k, hk', hbv.1, hbv.2, rfl⟩)
          obtain ⟨q, hq, hqe⟩ := List.getElem_of_mem hcl
          have hq' : q < (objsO L (reachO f L roots)).length := by rw [hlen]; exact hq
          rw [← hqe, ← getD_get hq, goes_at (reachO_nodup f L roots) hq, newPlaces_get _ _ hq']
          have := placeAt_end (baseI (1 - ac) h).toNat _ hq'
          unfold Word; omega
        · rw [if_neg hbv]; exact hold
    · rw [hc.rest i hin]; unfold Word; omega
  have hfa : IsFault h n g (1 - ac) (totO (objsO L (reachO f L roots)) : Int) 0 := .inr (.inr (.inr ⟨⟨⟨q1, q2⟩, ⟨by omega, by omega⟩, by omega, by omega⟩, qn, hword, rfl⟩))
  have hoi : IsOI h n g (1 - ac) (totO (objsO L (reachO f L roots)) : Int) 0 (moved (baseI (1 - ac) h).toNat (objsO L (reachO f L roots))) := isOI_of hfa (by rw [Int.toNat_natCast]; exact col_parse hr hc)
  refine ⟨hbu, hoi, isSF_of hoi (col_points hr hroots hc) fun i hi hni => ?_⟩
  rw [Int.toNat_natCast] at hni
  exact hc.rest i hni
end Go.Proofs.Ytbhjmomphajnnaa

namespace Go.Proofs.Ytbhjmomphajnnaa
open Go.RowKit
set_option linter.unusedVariables false

/-- A list as a row's numbers. -/
def lf (l : List Int) : Nat → Int := fun i => l.getD i 0

theorem lf_at {l : List Int} {i : Nat} (h : i < l.length) : lf l i = l[i] := getD_get h

theorem lf_mem {l : List Int} {i : Nat} (h : i < l.length) : lf l i ∈ l := by rw [lf_at h]; exact List.getElem_mem h

theorem nums_lf (l : List Int) : nums l.length (lf l) = l.map (fun x => Value.int .i64 x) := by
  apply List.ext_getElem?
  intro i
  by_cases hi : i < l.length
  · rw [nums_get _ _ _ hi, lf_at hi]; simp [hi]
  · rw [List.getElem?_eq_none (by rw [nums_length]; omega), List.getElem?_eq_none (by simp; omega)]

theorem nums_snoc (l : List Int) (x : Int) : nums l.length (lf l) ++ [Value.int .i64 x] = nums (l.length + 1) (lf (l ++ [x])) := by
  have h := nums_lf (l ++ [x])
  rw [show (l ++ [x]).length = l.length + 1 by simp] at h
  rw [h, nums_lf]; simp

theorem lf_last (l : List Int) (x : Int) : lf (l ++ [x]) l.length = x := by unfold lf; simp

theorem lf_left {l : List Int} {i : Nat} (h : i < l.length) (x : Int) : lf (l ++ [x]) i = lf l i := by
  unfold lf; rw [List.getD_eq_getElem?_getD, List.getElem?_append_left h, ← List.getD_eq_getElem?_getD]

/-- Where an object's pointers lead, from a field on. -/
def ptrsF (f : Nat → Int) (x : Ob) (k : Nat) : List Int := ((List.range x.s.toNat).drop k).filterMap fun (k : Nat) => if x.m / P2 (k : Int) % 2 = 1 ∧ ¬ f (x.at_.toNat + 2 + k) = 0 then some (f (x.at_.toNat + 2 + k) - 1) else none

theorem ptrsF_zero (f : Nat → Int) (x : Ob) : ptrsF f x 0 = ptrs f x := rfl

theorem ptrsF_end {f : Nat → Int} {x : Ob} {k : Nat} (h : x.s.toNat ≤ k) : ptrsF f x k = [] := by
  unfold ptrsF; rw [List.drop_eq_nil_of_le (by simpa using h)]; rfl

theorem ptrsF_yes {f : Nat → Int} {x : Ob} {k : Nat} (h : k < x.s.toNat) (h1 : x.m / P2 (k : Int) % 2 = 1) (h2 : ¬ f (x.at_.toNat + 2 + k) = 0) : ptrsF f x k = (f (x.at_.toNat + 2 + k) - 1) :: ptrsF f x (k + 1) := by
  unfold ptrsF
  rw [List.drop_eq_getElem_cons (by simpa using h), List.getElem_range]
  exact List.filterMap_cons_some (if_pos ⟨h1, h2⟩)

theorem ptrsF_no {f : Nat → Int} {x : Ob} {k : Nat} (h : k < x.s.toNat) (h1 : ¬ (x.m / P2 (k : Int) % 2 = 1 ∧ ¬ f (x.at_.toNat + 2 + k) = 0)) : ptrsF f x k = ptrsF f x (k + 1) := by
  unfold ptrsF
  rw [List.drop_eq_getElem_cons (by simpa using h), List.getElem_range]
  exact List.filterMap_cons_none (if_neg h1)

def add1 (O : List Int) (p : Int) : List Int := if p ∈ O then O else O ++ [p]

theorem addNew_cons (O : List Int) (p : Int) (ps : List Int) : addNew O (p :: ps) = addNew (add1 O p) ps := rfl

theorem add1_nodup {O : List Int} (h : O.Nodup) (p : Int) : (add1 O p).Nodup := nodup_addNew [p] O h

theorem add1_mem {O : List Int} {p q : Int} : q ∈ add1 O p ↔ q ∈ O ∨ q = p := by
  exact (mem_addNew [p] O q).trans (by simp)

theorem add1_le (O : List Int) (p : Int) : O.length ≤ (add1 O p).length := by unfold add1; split <;> simp

theorem add1_lf {O : List Int} {i : Nat} (h : i < O.length) (p : Int) : lf (add1 O p) i = lf O i := by
  unfold add1; split
  · rfl
  · exact lf_left h p

/-- The scan: the places from i on are still to be looked at. -/
structure SC (f : Nat → Int) (L : List Ob) (roots : List Int) (i : Nat) (O : List Int) : Prop where
  nd : O.Nodup
  sub : ∀ p ∈ O, p ∈ placesO L
  le : i ≤ O.length
  all : reachO f L roots = scanF (succO f L) (L.length - i) i O

/-- The scan within an object. -/
structure SI (f : Nat → Int) (L : List Ob) (roots : List Int) (i k : Nat) (x : Ob) (O : List Int) : Prop where
  nd : O.Nodup
  sub : ∀ p ∈ O, p ∈ placesO L
  lt : i < O.length
  at_ : findO L (lf O i) = some x
  all : reachO f L roots = scanF (succO f L) (L.length - (i + 1)) (i + 1) (addNew O (ptrsF f x k))

section

variable {f : Nat → Int} {L : List Ob} {roots O : List Int} {i k : Nat} {x : Ob}

theorem SC.len (h : SC f L roots i O) : O.length ≤ L.length := by have := nodup_length h.nd h.sub; simpa [placesO] using this

theorem SI.len (h : SI f L roots i k x O) : O.length ≤ L.length := by have := nodup_length h.nd h.sub; simpa [placesO] using this

theorem sc_start (hr : ∀ p ∈ roots, p ∈ placesO L) : SC f L roots 0 (addNew [] roots) := ⟨nodup_addNew _ _ List.nodup_nil, addNew_sub hr, Nat.zero_le _, rfl⟩

theorem sc_in (h : SC f L roots i O) (hi : i < O.length) : ∃ x, findO L (lf O i) = some x ∧ SI f L roots i 0 x O := by
  obtain ⟨x, hx⟩ := mem_placesO.1 (h.sub _ (lf_mem hi))
  refine ⟨x, hx, h.nd, h.sub, hi, hx, ?_⟩
  have hl := h.len
  rw [h.all, show L.length - i = L.length - (i + 1) + 1 by omega, scanF, if_pos hi, ptrsF_zero]
  congr 1
  have : succO f L (O.getD i 0) = ptrs f x := by unfold succO; rw [show O.getD i 0 = lf O i from rfl, hx]
  rw [this]

theorem sc_end (h : SC f L roots i O) (hi : ¬ i < O.length) : reachO f L roots = O := by rw [h.all, scanF_stop hi]

theorem si_end (h : SI f L roots i k x O) (hk : x.s.toNat ≤ k) : SC f L roots (i + 1) O := ⟨h.nd, h.sub, h.lt, by rw [h.all, ptrsF_end hk]; rfl⟩

theorem si_no (h : SI f L roots i k x O) (hk : k < x.s.toNat) (h1 : ¬ (x.m / P2 (k : Int) % 2 = 1 ∧ ¬ f (x.at_.toNat + 2 + k) = 0)) : SI f L roots i (k + 1) x O := ⟨h.nd, h.sub, h.lt, h.at_, by rw [h.all, ptrsF_no hk h1]⟩

theorem si_in (hp : Points f L) (hs : ∀ x ∈ L, 0 ≤ x.s) (h : SI f L roots i k x O) (hk : k < x.s.toNat) (h1 : x.m / P2 (k : Int) % 2 = 1) (h2 : ¬ f (x.at_.toNat + 2 + k) = 0) : f (x.at_.toNat + 2 + k) - 1 ∈ placesO L := by
  refine succO_sub hp hs _ (h.sub _ (lf_mem h.lt)) _ ?_
  unfold succO; rw [h.at_]
  exact mem_ptrs.2 ⟨k, hk, h1, h2, rfl⟩

theorem si_yes (hp : Points f L) (hs : ∀ x ∈ L, 0 ≤ x.s) (h : SI f L roots i k x O) (hk : k < x.s.toNat) (h1 : x.m / P2 (k : Int) % 2 = 1) (h2 : ¬ f (x.at_.toNat + 2 + k) = 0) : SI f L roots i (k + 1) x (add1 O (f (x.at_.toNat + 2 + k) - 1)) := by
  have hin := si_in hp hs h hk h1 h2
  refine ⟨add1_nodup h.nd _, fun p hq => ?_, Nat.lt_of_lt_of_le h.lt (add1_le _ _), by rw [add1_lf h.lt]; exact h.at_, by rw [h.all, ptrsF_yes hk h1 h2, addNew_cons]⟩
  rcases add1_mem.1 hq with h' | rfl
  · exact h.sub p h'
  · exact hin

end

/-- A table: the i-th of a list has the i-th value. -/
def tab (R : List Int) (v : Nat → Int) (p : Int) : Option Int := (numL R p).map v

theorem tab_nil (v : Nat → Int) (p : Int) : tab [] v p = none := rfl

theorem numL_snoc {R : List Int} {p : Int} (h : p ∉ R) (q : Int) : numL (R ++ [p]) q = if q = p then some R.length else numL R q := by
  unfold numL
  rw [List.findIdx?_append]
  by_cases e : q = p
  · subst e
    rw [if_pos rfl, show R.findIdx? (· == q) = none from numL_none.2 h]
    simp
  · rw [if_neg e]
    have : ([p] : List Int).findIdx? (· == q) = none := by simp [List.findIdx?_cons]; intro h; exact e h.symm
    rw [this]
    cases R.findIdx? (· == q) <;> rfl

theorem tab_snoc {R : List Int} {p : Int} (h : p ∉ R) (v : Nat → Int) (q : Int) : tab (R ++ [p]) v q = if q = p then some (v R.length) else tab R v q := by
  unfold tab
  rw [numL_snoc h]
  split <;> rfl
end Go.Proofs.Ytbhjmomphajnnaa

namespace Go.Proofs.Ytbhjmomphajnnaa
open Go.RowKit
set_option linter.unusedVariables false

theorem news1 (w : World) (x : Int) : ∀ (j : Nat) (u : Value), ([.int .i64 x] : List Value)[j]? = some u → (w.alloc (.cells #[.int .i64 x] 2)).cell? ((⟨w.heap.size, 0, none⟩ : Addr).add j) = some u := fun j u hu => by
  match j, hu with
  | 0, hu => exact (Blk.new w #[.int .i64 x] 2).at 0 hu
  | j + 1, hu => simp at hu

set_option maxRecDepth 100000 in
set_option maxHeartbeats 800000 in
theorem l1Has_any (a : Option Addr) (l : List Int) (c : Nat) (v : Int) (w : World) (hs : Src w a l.length (lf l)) (hl : l.length ≤ 1048576) :
    Calls Try.prog 197 #[.slice a l.length c, .int .i64 v] w fun e w' => e = .returned (.bool (decide (v ∈ l))) ∧ w = w' := by
  have HS := Lib.hid hs
  clear hs
  go_enter Try.func197, Try.ntmps197
  go_wp2
  go_loop [5] (fun p => ∃ i : Nat, i ≤ l.length ∧ p = .int .i64 (i : Int) ∧ Hid (∀ j, j < i → ¬ lf l j = v)) (fun p => l.length - (intOf p).toNat)
  case atStart => exact ⟨0, Nat.zero_le _, rfl, Lib.hid (fun j hj => by omega)⟩
  case round =>
    obtain ⟨i, hi, rfl, HD⟩ := hrel
    by_cases hlt : i < l.length
    · have hlt' : (i : Int) < (l.length : Int) := by omega
      have hi0 : (0 : Int) ≤ (i : Int) := by omega
      obtain ⟨b, off, rfl, hb, hc⟩ := src_some HS.out (by omega)
      have c0 := hc i hlt
      have hmem := lf_mem hlt
      obtain ⟨y, hy⟩ : ∃ y, lf l i = y := ⟨_, rfl⟩
      have HY := Lib.hid hy
      rw [hy] at c0 hmem
      clear hc hy
      by_cases he : y = v
      · subst he
        have HM : Hid (decide (y ∈ l) = true) := Lib.hid (decide_eq_true hmem)
        clear hmem
        go_wp2
        go_ret
        exact ⟨by rw [HM.out]; rfl, rfl⟩
      · have hb' : (y == v) = false := by simpa using he
        clear hmem
        go_wp2
        go_round
        case rel => exact ⟨i + 1, by omega, by go_num, Lib.hid (fun j hj => by
          rcases Nat.lt_succ_iff_lt_or_eq.mp hj with h1 | h1
          · exact HD.out j h1
          · subst h1; rw [HY.out]; exact he)⟩
        case measure => simp [intOf]; omega
    · have hlt' : ¬ (i : Int) < (l.length : Int) := by omega
      have HM : Hid (decide (v ∈ l) = false) := Lib.hid (decide_eq_false (fun hm => by
        obtain ⟨j, hj, he⟩ := List.getElem_of_mem hm
        exact HD.out j (by omega) (by rw [lf_at hj]; exact he)))
      go_wp2
      go_ret
      exact ⟨by rw [HM.out]; rfl, rfl⟩

theorem numL_first {l : List Int} {v : Int} {i : Nat} (hi : i < l.length) (he : lf l i = v) (hf : ∀ j, j < i → ¬ lf l j = v) : numL l v = some i := by
  unfold numL
  rw [List.findIdx?_eq_some_iff_getElem]
  refine ⟨hi, by rw [lf_at hi] at he; simpa using he, fun j hj => ?_⟩
  have := hf j hj
  rw [lf_at (by omega)] at this
  simpa using this

/-- The number as the model tells it. -/
def numI (l : List Int) (v : Int) : Int := match numL l v with | some i => (i : Int) | none => -1

set_option maxRecDepth 100000 in
set_option maxHeartbeats 800000 in
theorem l4Number_any (a : Option Addr) (l : List Int) (c : Nat) (v : Int) (w : World) (hs : Src w a l.length (lf l)) (hl : l.length ≤ 1048576) :
    Calls Try.prog 73 #[.slice a l.length c, .int .i64 v] w fun e w' => e = .returned (.int .i64 (numI l v)) ∧ w = w' := by
  have HS := Lib.hid hs
  clear hs
  go_enter Try.func73, Try.ntmps73
  go_wp2
  go_loop [5] (fun p => ∃ i : Nat, i ≤ l.length ∧ p = .int .i64 (i : Int) ∧ Hid (∀ j, j < i → ¬ lf l j = v)) (fun p => l.length - (intOf p).toNat)
  case atStart => exact ⟨0, Nat.zero_le _, rfl, Lib.hid (fun j hj => by omega)⟩
  case round =>
    obtain ⟨i, hi, rfl, HD⟩ := hrel
    by_cases hlt : i < l.length
    · have hlt' : (i : Int) < (l.length : Int) := by omega
      have hi0 : (0 : Int) ≤ (i : Int) := by omega
      obtain ⟨b, off, rfl, hb, hc⟩ := src_some HS.out (by omega)
      have c0 := hc i hlt
      obtain ⟨y, hy⟩ : ∃ y, lf l i = y := ⟨_, rfl⟩
      have HY := Lib.hid hy
      rw [hy] at c0
      clear hc hy
      by_cases he : y = v
      · have HM : Hid (numI l v = (i : Int)) := Lib.hid (by unfold numI; rw [numL_first hlt (by rw [HY.out]; exact he) HD.out])
        subst he
        go_wp2
        go_ret
        exact ⟨by rw [HM.out]; rfl, rfl⟩
      · have hb' : (y == v) = false := by simpa using he
        go_wp2
        go_round
        case rel => exact ⟨i + 1, by omega, by go_num, Lib.hid (fun j hj => by
          rcases Nat.lt_succ_iff_lt_or_eq.mp hj with h1 | h1
          · exact HD.out j h1
          · subst h1; rw [HY.out]; exact he)⟩
        case measure => simp [intOf]; omega
    · have hlt' : ¬ (i : Int) < (l.length : Int) := by omega
      have HM : Hid (numI l v = -1) := Lib.hid (by
        have : numL l v = none := numL_none.2 (fun hm => by
          obtain ⟨j, hj, he⟩ := List.getElem_of_mem hm
          exact HD.out j (by omega) (by rw [lf_at hj]; exact he))
        unfold numI; rw [this])
      go_wp2
      go_ret
      exact ⟨by rw [HM.out]; rfl, rfl⟩
end Go.Proofs.Ytbhjmomphajnnaa

namespace Go.Proofs.Ytbhjmomphajnnaa
open Go.RowKit
set_option linter.unusedVariables false

theorem row_src {w : World} {B e : Nat} {v : Value} {l : List Int} (h : w.ownsRow B e 1 v l.length (nums l.length (lf l))) : ∃ a c, v = .slice a l.length c ∧ Src w a l.length (lf l) := by
  obtain ⟨a, c, rfl, _⟩ := row_shape h
  exact ⟨a, c, rfl, (own_of_row h).src⟩

/-- The objects of a list in memory, as the model walks need them. -/
structure OMS (w : World) (base lo : Nat) (f : Nat → Int) (v : Value) (M : List OM) : Prop where
  row : w.ownsRow base 111 6 v M.length (rowCells M)
  fl : Flds w lo f v M
  len : M.length ≤ 400
  ok : ∀ t ∈ M, (0 ≤ t.x.s ∧ t.x.s ≤ 12) ∧ (0 ≤ t.x.m ∧ t.x.m ≤ 4095) ∧ (0 ≤ t.x.at_ ∧ t.x.at_ ≤ 1000000) ∧ ∀ k, k < t.x.s.toNat → -1000000000 ≤ f (t.x.at_.toNat + 2 + k) ∧ f (t.x.at_.toNat + 2 + k) ≤ 1000000000

theorem OMS.below {w w' : World} {base lo : Nat} {f : Nat → Int} {v : Value} {M : List OM} (h : OMS w base lo f v M) (hb : Below w.heap.size w w') : OMS w' base lo f v M := ⟨ownsRow_below h.row hb, h.fl.below hb, h.len, h.ok⟩

/-- The object of a place, in memory. -/
theorem OMS.get {w : World} {base lo : Nat} {f : Nat → Int} {v : Value} {M : List OM} (h : OMS w base lo f v M) {i : Nat} {x : Ob} (hx : (M.map OM.x)[i]? = some x) :
    ∃ (g1 c1 g c : Nat), v = .slice (some ⟨g1, 0, none⟩) M.length c1 ∧ i < M.length ∧ g1 < w.heap.size ∧ w.cell? ⟨g1, i * 6, none⟩ = some (.int .i64 x.at_) ∧ w.cell? ⟨g1, i * 6 + 1, none⟩ = some (.int .i64 x.s) ∧ w.cell? ⟨g1, i * 6 + 2, none⟩ = some (.int .i64 x.m) ∧ w.cell? ⟨g1, i * 6 + 3, none⟩ = some (.int .i64 x.o) ∧ w.cell? ⟨g1, i * 6 + 4, none⟩ = some (.int .i64 x.h) ∧ w.cell? ⟨g1, i * 6 + 5, none⟩ = some (.slice (some ⟨g, 0, none⟩) x.s.toNat c) ∧ g < w.heap.size ∧ (∀ k, k < x.s.toNat → w.cell? ⟨g, k, none⟩ = some (.int .i64 (f (x.at_.toNat + 2 + k)))) ∧
      (0 ≤ x.s ∧ x.s ≤ 12) ∧ (0 ≤ x.m ∧ x.m ≤ 4095) ∧ (0 ≤ x.at_ ∧ x.at_ ≤ 1000000) ∧ ∀ k, k < x.s.toNat → -1000000000 ≤ f (x.at_.toNat + 2 + k) ∧ f (x.at_.toNat + 2 + k) ≤ 1000000000 := by
  have hlt : i < M.length := by have := (List.getElem?_eq_some_iff.mp hx).1; simpa using this
  obtain ⟨g1, c1, rfl, _, l1, o1⟩ := row_form h.row (by omega)
  have ht := (o1 i M[i] (List.getElem?_eq_getElem hlt)).six
  have hx' : M[i].x = x := by simpa [hlt] using hx
  have hfs := h.fl.1 M[i] (List.getElem_mem hlt)
  have hk := h.ok M[i] (List.getElem_mem hlt)
  generalize M[i] = t at *
  obtain ⟨x', g, c⟩ := t
  obtain rfl : x' = x := hx'
  obtain ⟨t0, t1, t2, t3, t4, t5⟩ := ht
  exact ⟨g1, c1, g, c, rfl, hlt, l1, t0, t1, t2, t3, t4, t5, hfs.2.1, fun k hk => (hfs.2.2.2 k hk).1, hk.1, hk.2.1, hk.2.2.1, hk.2.2.2⟩

theorem OMS.find {w : World} {base lo : Nat} {f : Nat → Int} {v : Value} {M : List OM} (h : OMS w base lo f v M) (p : Int) : Calls Try.prog 72 #[v, .int .i64 p] w (RetFind w (M.map OM.x) p) := l3Find_any v M base p w h.row h.len

theorem OMS.size {w : World} {base lo : Nat} {f : Nat → Int} {v : Value} {M : List OM} (h : OMS w base lo f v M) : ∀ x ∈ M.map OM.x, 0 ≤ x.s := fun x hx => by
  obtain ⟨t, ht, rfl⟩ := List.mem_map.mp hx
  exact (h.ok t ht).1.1

theorem OMS.place {w : World} {base lo : Nat} {f : Nat → Int} {v : Value} {M : List OM} (h : OMS w base lo f v M) : ∀ p ∈ placesO (M.map OM.x), 0 ≤ p ∧ p ≤ 1000000 := fun p hp => by
  obtain ⟨y, hy, rfl⟩ := List.mem_map.mp hp
  obtain ⟨t, ht, rfl⟩ := List.mem_map.mp hy
  exact (h.ok t ht).2.2.1

theorem roots_snoc {l : List Int} {i : Nat} (h : i < l.length) (O : List Int) : addNew O (l.take (i + 1)) = add1 (addNew O (l.take i)) (lf l i) := by
  rw [List.take_succ_eq_append_getElem h, addNew_append, lf_at h]; rfl

theorem addNew_len (xs : List Int) : ∀ O : List Int, (addNew O xs).length ≤ O.length + xs.length := by
  induction xs with
  | nil => intro O; exact Nat.le_refl _
  | cons x xs ih => intro O; have := ih (add1 O x); rw [addNew_cons]; have h2 : (add1 O x).length ≤ O.length + 1 := (by unfold add1; split <;> simp); simp only [List.length_cons]; omega

set_option maxRecDepth 100000 in
set_option maxHeartbeats 3200000 in
theorem l4Reach_any (v : Value) (M : List OM) (base lo : Nat) (ra : Option Addr) (roots : List Int) (rc : Nat) (f : Nat → Int) (w : World) (hm : OMS w base lo f v M) (hp : Points f (M.map OM.x)) (hrs : Src w ra roots.length (lf roots)) (hrn : roots.length ≤ 1048576) (hr : ∀ p ∈ roots, p ∈ placesO (M.map OM.x)) :
    Calls Try.prog 140 #[v, .slice ra roots.length rc] w (RetInts w (reachO f (M.map OM.x) roots).length (lf (reachO f (M.map OM.x) roots))) := by
  have HM := Lib.hid hm; have HP := Lib.hid hp; have HRS := Lib.hid hrs; have HR := Lib.hid hr
  have HSZ := Lib.hid hm.size
  have HPL := Lib.hid hm.place
  have hml := hm.len
  obtain ⟨a1, k1, rfl⟩ := row_nil hm.row
  obtain ⟨i0, hif, hz0, hz1, hz2⟩ := info_parts Try.info2
  clear hm hp hrs hr
  go_enter Try.func140, Try.ntmps140
  go_wp2_with fail
  have HBa : Hid (Below w.heap.size w (w.alloc (.cells #[] 2))) := (Below.refl _ _).alloc (Nat.le_refl _) _
  have OWa : Hid ((w.alloc (.cells #[] 2)).ownsRow w.heap.size 2 1 (.slice (some ⟨w.heap.size, 0, none⟩) 0 0) ([] : List Int).length (nums ([] : List Int).length (lf []))) := World.ownsRow_lit w #[] 0 (Nat.le_refl _) (by simp [maxLen]) rfl
  have za : w.heap.size + 1 ≤ (w.alloc (.cells #[] 2)).heap.size := by simp
  generalize w.alloc (.cells #[] 2) = wa at *
  go_loopw [5, 6] (fun u q wr => ∃ (i : Nat) (O : List Int), i ≤ roots.length ∧ q = .int .i64 (i : Int) ∧ Hid (Below w.heap.size w wr) ∧ Hid (wr.ownsRow w.heap.size 2 1 u O.length (nums O.length (lf O))) ∧ Hid (O = addNew [] (roots.take i)) ∧ O.length ≤ i) (fun _ q _ => roots.length - (intOf q).toNat)
  case atStart => exact ⟨0, [], by omega, rfl, HBa, OWa, Lib.hid rfl, by simp⟩
  case round =>
    obtain ⟨i, O, hi, rfl, HB_r, OW_r, HO, hol⟩ := hrel
    clear HBa OWa za
    by_cases hlt : i < roots.length
    · have hlt' : (i : Int) < (roots.length : Int) := by omega
      have hi0 : (0 : Int) ≤ (i : Int) := by omega
      have hzr := HB_r.out.size
      have RS := Lib.hid (HRS.out.below HB_r.out)
      obtain ⟨rb, ro, rfl, hrb, hrc⟩ := src_some RS.out (by omega)
      have c0 := hrc i hlt
      obtain ⟨a5, c5, rfl, hs5⟩ := row_src OW_r.out
      have HS5 := Lib.hid hs5
      have HSN := Lib.hid (roots_snoc hlt [])
      obtain ⟨y, hy⟩ : ∃ y, lf roots i = y := ⟨_, rfl⟩
      rw [hy] at c0
      have HY := Lib.hid hy
      clear hrc hs5 hy
      go_wp2_with fail
      refine (l1Has_any a5 O c5 y _ HS5.out (by omega)).mono ?_
      rintro e w' ⟨rfl, rfl⟩
      by_cases hin : y ∈ O
      · have hd : decide (y ∈ O) = true := decide_eq_true hin
        rw [hd]
        have HO' : Hid (O = addNew [] (roots.take (i + 1))) := Lib.hid (by rw [HSN.out, HY.out, ← HO.out, add1, if_pos hin])
        clear hin hd
        go_wp2
        go_roundw
        case rel => first | exact ⟨i + 1, O, by omega, by go_num, HB_r, OW_r, HO', by omega⟩ | ((repeat apply Exists.intro); exact ⟨⟨i + 1, O, by omega, by go_num, HB_r, OW_r, HO', by omega⟩, rfl⟩)
        case measure => simp [intOf]; omega
      · have hd : decide (y ∈ O) = false := decide_eq_false hin
        rw [hd]
        have HO' : Hid (O ++ [y] = addNew [] (roots.take (i + 1))) := Lib.hid (by rw [HSN.out, HY.out, ← HO.out, add1, if_neg hin])
        have HGE : Hid (∀ k, (Value.slice a5 O.length c5).ownBlock = some k → w.heap.size ≤ k) := Lib.hid (fun k hk => ownBlock_ge OW_r.out hk)
        clear hin hd
        go_wp2_with (at_builtin; go_loud (refine wpList_append_lies _ rfl _ _ 24 rfl w.heap.size 2 i0 (.int .i64 0) 1 8 Try.underlying24 hif hz0 hz1 hz2 rfl (by decide) (.slice a5 O.length c5) O.length (nums O.length (lf O)) rfl (ownsRow_below OW_r.out ((Below.refl _ _).alloc (Nat.le_refl _) _)) ⟨wr.heap.size, 0, none⟩ 1 1 [.int .i64 y] rfl rfl (news1 wr y) (by intro u hu; simp only [List.mem_cons, List.mem_nil_iff, or_false] at hu; subst hu; rfl) (by omega) (by unfold maxLen; omega) (by omega) (by simp; omega) (wr.heap.size + 1) (by simp) ?_); intro g9 cap9 w9 hown9 hgrow9 hat9 hlt9)
        have HB9 : Hid (Below w.heap.size w w9) := (HB_r.out.alloc hzr _).grown hgrow9 (by simp; omega) (fun k hk => HGE.out k hk)
        have OW9 : Hid (w9.ownsRow w.heap.size 2 1 (.slice (some ⟨g9, 0, none⟩) (O.length + 1) cap9) (O ++ [y]).length (nums (O ++ [y]).length (lf (O ++ [y])))) := Lib.hid (by
          rw [show (O ++ [y]).length = O.length + 1 by simp, ← nums_snoc]; exact hown9)
        clear hown9 hgrow9 hat9
        go_wp2
        go_roundw
        case rel => first | exact ⟨i + 1, O ++ [y], by omega, by go_num, HB9, OW9, HO', by simp; omega⟩ | ((repeat apply Exists.intro); exact ⟨⟨i + 1, O ++ [y], by omega, by go_num, HB9, OW9, HO', by simp; omega⟩, rfl⟩)
        case measure => simp [intOf]; omega
    · have hlt' : ¬ (i : Int) < (roots.length : Int) := by omega
      obtain rfl : i = roots.length := by omega
      have HSC : Hid (SC f (M.map OM.x) roots 0 O) := Lib.hid (by have e := HO.out; rw [List.take_length] at e; rw [e]; exact sc_start HR.out)
      clear HO
      go_wp2
      go_loopw [5, 7] (fun u q wq => ∃ (i : Nat) (O : List Int), q = .int .i64 (i : Int) ∧ i ≤ M.length ∧ Hid (Below w.heap.size w wq) ∧ Hid (wq.ownsRow w.heap.size 2 1 u O.length (nums O.length (lf O))) ∧ Hid (SC f (M.map OM.x) roots i O)) (fun _ q _ => M.length - (intOf q).toNat)
      case atStart => exact ⟨0, O, rfl, by omega, HB_r, OW_r, HSC⟩
      case round =>
        clear HB_r OW_r HSC
        obtain ⟨i, O, rfl, him, HB_r, OW_r, HSC⟩ := hrel
        have hom : O.length ≤ M.length := by have := HSC.out.len; simpa using this
        have hzr := HB_r.out.size
        obtain ⟨a5, c5, rfl, hs5⟩ := row_src OW_r.out
        by_cases hio : i < O.length
        · have hlt' : (i : Int) < (O.length : Int) := by omega
          have hi0 : (0 : Int) ≤ (i : Int) := by omega
          obtain ⟨ob, oo, rfl, hob, hoc⟩ := src_some hs5 (by omega)
          have c0 := hoc i hio
          obtain ⟨x, hx, hsi⟩ := sc_in HSC.out hio
          have HSI := Lib.hid hsi
          obtain ⟨y, hy⟩ : ∃ y, lf O i = y := ⟨_, rfl⟩
          rw [hy] at c0 hx
          have HX := Lib.hid hx
          clear hs5 hoc hy hsi hx
          go_wp2_with fail
          refine ((HM.out.below HB_r.out).find y).mono ?_
          rintro e w' ⟨rfl, hf⟩
          rcases hf with ⟨hf, rfl⟩ | ⟨j, x', hf, hx, rfl⟩
          · rw [HX.out] at hf; cases hf
          rw [HX.out] at hf
          obtain rfl := Option.some.inj hf
          obtain ⟨g1, c1, g, c, e1, hjm, l1, x0, x1, x2, x3, x4, x5, lg, hfc, ⟨s0, s1⟩, hmm, hat, hwd⟩ := HM.out.get hx
          simp only [Value.slice.injEq] at e1
          obtain ⟨rfl, -, rfl⟩ := e1
          have hj' : (j : Int) < (M.length : Int) := by omega
          have hj0 : (0 : Int) ≤ (j : Int) := by omega
          have HFC := Lib.hid hfc; have HWD := Lib.hid hwd; have HAT := Lib.hid hat
          clear hf hx hfc hwd hat
          go_wp2
          go_loopw [5, 9] (fun u q wq => ∃ (k : Nat) (O : List Int), (k : Int) ≤ x.s ∧ q = .int .i64 (k : Int) ∧ Hid (Below w.heap.size w wq) ∧ Hid (wq.ownsRow w.heap.size 2 1 u O.length (nums O.length (lf O))) ∧ Hid (SI f (M.map OM.x) roots i k x O)) (fun _ q _ => x.s.toNat - (intOf q).toNat)
          case atStart => exact ⟨0, O, by omega, rfl, HB_r, OW_r, HSI⟩
          case round =>
            clear OW_r HSI HSC HX c0 hom hio hlt' HB_r hzr
            obtain ⟨k, O, hks, rfl, HB_q, OW_q, HSI⟩ := hrel
            have hwz := HB_q.out.size
            have x1q := (HB_q.out.cell (p := ⟨g1, j * 6 + 1, none⟩) l1).trans x1
            have x2q := (HB_q.out.cell (p := ⟨g1, j * 6 + 2, none⟩) l1).trans x2
            have x5q := (HB_q.out.cell (p := ⟨g1, j * 6 + 5, none⟩) l1).trans x5
            have hom : O.length ≤ M.length := by have := HSI.out.len; simpa using this
            obtain ⟨a5, c5, rfl, hs5⟩ := row_src OW_q.out
            have HS5 := Lib.hid hs5
            have HSD := Lib.hid (fun q => hs5.below (drewN_below wr q))
            have l1q : g1 < wr.heap.size := by omega
            clear hs5
            by_cases hlt : (k : Int) < x.s
            · have hkt : k < x.s.toNat := by omega
              have hkn : (k : Int) < (x.s.toNat : Int) := by omega
              have hk0 : (0 : Int) ≤ (k : Int) := by omega
              have fk := (HB_q.out.cell (p := ⟨g, k, none⟩) lg).trans (HFC.out k hkt)
              obtain ⟨w1', w2'⟩ := HWD.out k hkt
              have HIN := Lib.hid (si_in HP.out HSZ.out HSI.out hkt)
              have HYES := Lib.hid (si_yes HP.out HSZ.out HSI.out hkt)
              have HNO := Lib.hid (si_no HSI.out hkt)
              obtain ⟨y, hy⟩ : ∃ y, f (x.at_.toNat + 2 + k) = y := ⟨_, rfl⟩
              rw [hy] at fk w1' w2' HIN HYES HNO
              clear hy
              have HQ9 := Lib.hid (fun q => below_drewN HB_q.out q)
              have OWD := Lib.hid (fun q => ownsRow_below OW_q.out (drewN_below wr q))
              have hdd : x.m / P2 k % 2 = 1 ∨ x.m / P2 k % 2 = 0 := by omega
              rcases hdd with hd | hd
              · by_cases h0 : y = 0
                · have HSI' := Lib.hid (HNO.out (fun h => h.2 h0))
                  have hge : ¬ (0 : Int) ≤ y - 1 := by omega
                  clear HIN HYES HNO
                  go_wp2_with fail
                  refine (l2Pointer_at g1 (j * 6 + 1) k x.m true _ x2q hmm (by omega) (by rw [hd]; rfl)).mono ?_
                  rintro e w5 ⟨rfl, q5, rfl⟩
                  have HB6 := Lib.hid (HQ9.out q5)
                  have OW6 := Lib.hid (OWD.out q5)
                  have SR6 := Lib.hid (HSD.out q5)
                  clear HQ9 OWD HSD
                  generalize wr.drewN q5 = w6 at *
                  go_wp2
                  go_roundw
                  case rel => first | exact ⟨k + 1, O, by omega, by go_num, HB6, OW6, HSI'⟩ | ((repeat apply Exists.intro); exact ⟨⟨k + 1, O, by omega, by go_num, HB6, OW6, HSI'⟩, rfl⟩)
                  case measure => simp [intOf]; omega
                · have hpl := HPL.out _ (HIN.out hd h0)
                  have hge : (0 : Int) ≤ y - 1 := by omega
                  have HSI' := Lib.hid (HYES.out hd h0)
                  clear HIN HYES HNO
                  by_cases hmem : y - 1 ∈ O
                  · have hdc : decide (y - 1 ∈ O) = true := decide_eq_true hmem
                    rw [add1, if_pos hmem] at HSI'
                    clear hmem
                    go_wp2_with fail
                    refine (l2Pointer_at g1 (j * 6 + 1) k x.m true _ x2q hmm (by omega) (by rw [hd]; rfl)).mono ?_
                    rintro e w5 ⟨rfl, q5, rfl⟩
                    have HB6 := Lib.hid (HQ9.out q5)
                    have OW6 := Lib.hid (OWD.out q5)
                    have SR6 := Lib.hid (HSD.out q5)
                    clear HQ9 OWD HSD
                    generalize wr.drewN q5 = w6 at *
                    go_wp2_with fail
                    refine (l1Has_any a5 O c5 (y - 1) _ SR6.out (by omega)).mono ?_
                    rintro e w' ⟨rfl, rfl⟩
                    rw [hdc]
                    go_wp2
                    go_roundw
                    case rel => first | exact ⟨k + 1, O, by omega, by go_num, HB6, OW6, HSI'⟩ | ((repeat apply Exists.intro); exact ⟨⟨k + 1, O, by omega, by go_num, HB6, OW6, HSI'⟩, rfl⟩)
                    case measure => simp [intOf]; omega
                  · have hdc : decide (y - 1 ∈ O) = false := decide_eq_false hmem
                    rw [add1, if_neg hmem] at HSI'
                    clear hmem
                    go_wp2_with fail
                    refine (l2Pointer_at g1 (j * 6 + 1) k x.m true _ x2q hmm (by omega) (by rw [hd]; rfl)).mono ?_
                    rintro e w5 ⟨rfl, q5, rfl⟩
                    have HB6 := Lib.hid (HQ9.out q5)
                    have OW6 := Lib.hid (OWD.out q5)
                    have SR6 := Lib.hid (HSD.out q5)
                    clear HQ9 OWD HSD
                    generalize wr.drewN q5 = w6 at *
                    go_wp2_with fail
                    refine (l1Has_any a5 O c5 (y - 1) _ SR6.out (by omega)).mono ?_
                    rintro e w' ⟨rfl, rfl⟩
                    rw [hdc]
                    have z6 := HB6.out.size
                    have HGE : Hid (∀ k, (Value.slice a5 O.length c5).ownBlock = some k → w.heap.size ≤ k) := Lib.hid (fun k hk => ownBlock_ge OW6.out hk)
                    clear x1q x2q x5q fk HS5 OW_q SR6
                    go_wp2_with (at_builtin; go_loud (refine wpList_append_lies _ rfl _ _ 24 rfl w.heap.size 2 i0 (.int .i64 0) 1 8 Try.underlying24 hif hz0 hz1 hz2 rfl (by decide) (.slice a5 O.length c5) O.length (nums O.length (lf O)) rfl (ownsRow_below OW6.out ((Below.refl _ _).alloc (Nat.le_refl _) _)) ⟨w6.heap.size, 0, none⟩ 1 1 [.int .i64 (y - 1)] rfl rfl (news1 w6 (y - 1)) (by intro u hu; simp only [List.mem_cons, List.mem_nil_iff, or_false] at hu; subst hu; rfl) (by omega) (by unfold maxLen; omega) (by omega) (by simp; omega) (w6.heap.size + 1) (by simp) ?_); intro g9 cap9 w9 hown9 hgrow9 hat9 hlt9)
                    have HB9 : Hid (Below w.heap.size w w9) := (HB6.out.alloc z6 _).grown hgrow9 (by simp; omega) (fun k hk => HGE.out k hk)
                    have OW9 : Hid (w9.ownsRow w.heap.size 2 1 (.slice (some ⟨g9, 0, none⟩) (O.length + 1) cap9) (O ++ [y - 1]).length (nums (O ++ [y - 1]).length (lf (O ++ [y - 1])))) := Lib.hid (by
                      rw [show (O ++ [y - 1]).length = O.length + 1 by simp, ← nums_snoc]; exact hown9)
                    clear hown9 hgrow9 hat9
                    go_wp2
                    go_roundw
                    case rel => first | exact ⟨k + 1, (O ++ [y - 1]), by omega, by go_num, HB9, OW9, HSI'⟩ | ((repeat apply Exists.intro); exact ⟨⟨k + 1, (O ++ [y - 1]), by omega, by go_num, HB9, OW9, HSI'⟩, rfl⟩)
                    case measure => simp [intOf]; omega
              · have HSI' := Lib.hid (HNO.out (fun h => by have := h.1; omega))
                clear HIN HYES HNO
                go_wp2_with fail
                refine (l2Pointer_at g1 (j * 6 + 1) k x.m false _ x2q hmm (by omega) (by rw [hd]; rfl)).mono ?_
                rintro e w5 ⟨rfl, q5, rfl⟩
                have HB6 := Lib.hid (HQ9.out q5)
                have OW6 := Lib.hid (OWD.out q5)
                have SR6 := Lib.hid (HSD.out q5)
                clear HQ9 OWD HSD
                generalize wr.drewN q5 = w6 at *
                go_wp2
                go_roundw
                case rel => first | exact ⟨k + 1, O, by omega, by go_num, HB6, OW6, HSI'⟩ | ((repeat apply Exists.intro); exact ⟨⟨k + 1, O, by omega, by go_num, HB6, OW6, HSI'⟩, rfl⟩)
                case measure => simp [intOf]; omega
            · have hio2 := HSI.out.lt
              have HSC' := Lib.hid (si_end HSI.out (by omega))
              go_wp2
              go_roundw
              case rel => first | exact ⟨i + 1, O, by go_num, by omega, HB_q, OW_q, HSC'⟩ | ((repeat apply Exists.intro); exact ⟨⟨i + 1, O, by go_num, by omega, HB_q, OW_q, HSC'⟩, rfl⟩)
              case measure => simp [intOf]; omega
        · have hlt' : ¬ (i : Int) < (O.length : Int) := by omega
          have HE := Lib.hid (sc_end HSC.out hio)
          have HRet := Lib.hid (retInts_of_row OW_r.out HB_r.out)
          clear hs5
          go_wp2
          go_ret
          rw [HE.out]
          exact HRet.out
end Go.Proofs.Ytbhjmomphajnnaa

namespace Go.Proofs.Ytbhjmomphajnnaa
open Go.RowKit
set_option linter.unusedVariables false

theorem l3Objs_any (b : Nat) (h ac bu : Int) (a : Option Addr) (n c : Nat) (f : Nat → Int) (L : List Ob) (w : World) (hB : Blk w b [.int .i64 h, .slice a n c, .int .i64 ac, .int .i64 bu]) (hs : Src w a n f) (hcn : n ≤ c) (hcm : c ≤ maxLen) (ho : IsOI h n f ac bu 0 L) :
    Calls Try.prog 139 #[.pointer (some ⟨b, 0, none⟩)] w fun e w' => Below w.heap.size w w' ∧ ∃ v M, L = M.map OM.x ∧ e = .returned (.tuple #[v, .bool true]) ∧ OMS w' w.heap.size w.heap.size f v M := by
  obtain ⟨h4, h5⟩ := isOI_zero ho
  obtain ⟨⟨⟨g1, g2⟩, ⟨g3, g4⟩, g5, g6⟩, gn, gw⟩ := isFault_ok h4
  have hb := baseI_bd (ac := ac) g1
  obtain ⟨P, hP⟩ : ∃ P : Nat, baseI ac h = (P : Int) := ⟨(baseI ac h).toNat, by omega⟩
  obtain ⟨U, rfl⟩ : ∃ U : Nat, bu = (U : Int) := ⟨bu.toNat, by omega⟩
  obtain ⟨ab, ao, rfl, hab, hac⟩ := src_some hs (by omega)
  rw [hP, Int.toNat_natCast, Int.toNat_natCast] at h5
  have hPU : P + U ≤ n := by rcases (by omega : ac = 0 ∨ ac = 1) with rfl | rfl <;> simp [baseI] at hP <;> omega
  have hok := parse_ok h5 hPU gw
  have hln := parse_length (P + U - P) P L (Nat.le_refl _) h5
  refine (l3Objects_any b P U h ac ab ao n c f w hB hs g1 g2 g3 g4 hP hPU (by omega) hcn hcm (fun i hi => by have := gw i hi; unfold Word at this; omega)).mono ?_
  rintro e w' ⟨hb1, hr⟩
  rw [h5] at hr
  refine ⟨hb1, ?_⟩
  obtain ⟨hx, _⟩ | ⟨v, M, hx, rfl, hown, hfl⟩ := hr
  · cases hx
  obtain rfl := Option.some.inj hx
  refine ⟨v, M, rfl, rfl, hown, hfl, by have : M.length = (M.map OM.x).length := (by simp); omega, fun t ht => ?_⟩
  have h9 := hok t.x (List.mem_map_of_mem ht)
  exact ⟨h9.1, h9.2.1, ⟨h9.2.2.2.1.1, by omega⟩, h9.2.2.2.2⟩

/-- What is asked of an arena and roots. -/
def IsAsk (h : Int) (n : Nat) (f : Nat → Int) (ac bu : Int) (roots : List Int) (co : Int) (L : List Ob) : Prop :=
  (IsSF h n f ac bu co ∧ ¬ co = 0) ∨ (IsSF h n f ac bu 0 ∧ 60 < roots.length ∧ co = 2) ∨ (IsSF h n f ac bu 0 ∧ IsOI h n f ac bu 0 L ∧ roots.length ≤ 60 ∧ (∃ p ∈ roots, p ∉ placesO L) ∧ co = 4) ∨ (IsSF h n f ac bu 0 ∧ IsOI h n f ac bu 0 L ∧ roots.length ≤ 60 ∧ (∀ p ∈ roots, p ∈ placesO L) ∧ co = 0)

theorem isAsk_some (h : Int) (n : Nat) (f : Nat → Int) (ac bu : Int) (roots : List Int) : ∃ co L, IsAsk h n f ac bu roots co L := by
  obtain ⟨k, hk⟩ := isSF_some h n f ac bu
  by_cases h0 : k = 0
  · subst h0
    by_cases h1 : 60 < roots.length
    · exact ⟨2, [], .inr (.inl ⟨hk, h1, rfl⟩)⟩
    · obtain ⟨L, hL⟩ := isSF_zero hk
      by_cases h2 : ∀ p ∈ roots, p ∈ placesO L
      · exact ⟨0, L, .inr (.inr (.inr ⟨hk, hL, by omega, h2, rfl⟩))⟩
      · refine ⟨4, L, .inr (.inr (.inl ⟨hk, hL, by omega, ?_, rfl⟩))⟩
        apply Classical.byContradiction
        intro hn
        exact h2 fun p hp => Classical.byContradiction fun hq => hn ⟨p, hp, hq⟩
  · exact ⟨k, [], .inl ⟨hk, h0⟩⟩

theorem isAsk_zero {h : Int} {n : Nat} {f : Nat → Int} {ac bu : Int} {roots : List Int} {L : List Ob} (hk : IsAsk h n f ac bu roots 0 L) : IsSF h n f ac bu 0 ∧ IsOI h n f ac bu 0 L ∧ roots.length ≤ 60 ∧ ∀ p ∈ roots, p ∈ placesO L := by
  rcases hk with ⟨_, h⟩ | ⟨_, _, h⟩ | ⟨_, _, _, _, h⟩ | ⟨h1, h2, h3, h4, _⟩
  · exact absurd rfl h
  · cases h
  · cases h
  · exact ⟨h1, h2, h3, h4⟩

def RetAsk (W : World) (f : Nat → Int) (roots : List Int) (co : Int) (L : List Ob) (e : Ending) (w' : World) : Prop :=
  Below W.heap.size W w' ∧ ((¬ co = 0 ∧ e = .returned (.tuple #[.slice none 0 0, .slice none 0 0, .int .i64 co])) ∨ (co = 0 ∧ ∃ v M a c, L = M.map OM.x ∧ e = .returned (.tuple #[v, .slice a (reachO f L roots).length c, .int .i64 0]) ∧ OMS w' W.heap.size W.heap.size f v M ∧ Own w' W.heap.size a (reachO f L roots).length (lf (reachO f L roots)) ∧ (reachO f L roots).length ≤ c ∧ c ≤ maxLen))

theorem OMS.lo {w : World} {base lo base' lo' : Nat} {f : Nat → Int} {v : Value} {M : List OM} (h : OMS w base lo f v M) (h1 : base' ≤ base) (h2 : lo' ≤ lo) : OMS w base' lo' f v M := by
  refine ⟨?_, ⟨fun t ht => ?_, h.fl.2⟩, h.len, h.ok⟩
  · refine ⟨h.row.1, ?_⟩
    rcases h.row.2 with h0 | ⟨g, cap, cur, e1, e2, e3⟩
    · exact .inl h0
    · exact .inr ⟨g, cap, cur, e1, Nat.le_trans h1 e2, e3⟩
  · obtain ⟨e1, e2⟩ := h.fl.1 t ht
    exact ⟨Nat.le_trans h2 e1, e2⟩

set_option maxRecDepth 100000 in
set_option maxHeartbeats 1600000 in
theorem l4Ask_code (b : Nat) (h ac bu : Int) (a : Option Addr) (n c : Nat) (f : Nat → Int) (ra : Option Addr) (roots : List Int) (rc : Nat) (co : Int) (L : List Ob) (w : World) (hB : Blk w b [.int .i64 h, .slice a n c, .int .i64 ac, .int .i64 bu]) (hs : Src w a n f) (hcn : n ≤ c) (hcm : c ≤ maxLen) (hk : IsSF h n f ac bu co) (h0 : ¬ co = 0) :
    Calls Try.prog 66 #[.pointer (some ⟨b, 0, none⟩), .slice ra roots.length rc] w (RetAsk w f roots co L) := by
  have hd : (co != 0) = true := by simpa using h0
  have HB0 := Lib.hid hB; have HS := Lib.hid hs; have HK := Lib.hid hk; have HCM := Lib.hid hcm; have H0 := Lib.hid h0
  have lb := HB0.out.1; have cb0 := HB0.out.at 0 rfl; have cb1 := HB0.out.at 1 rfl; have cb2 := HB0.out.at 2 rfl; have cb3 := HB0.out.at 3 rfl
  clear hB hs hk hcm h0
  go_enter Try.func66, Try.ntmps66
  go_wp2_with fail
  refine (specSF_any h ac bu a n c f co _ HS.out hcn HCM.out HK.out).mono ?_
  rintro e w1 ⟨rfl, hb⟩
  have HB1 := Lib.hid hb
  clear hb cb0 cb1 cb2 cb3 lb
  go_wp2
  exact bodyPost_ret (v := .tuple #[.slice none 0 0, .slice none 0 0, .int .i64 co]) (by simp [results, Try.results66, go_sem]) rfl ⟨HB1.out, .inl ⟨H0.out, rfl⟩⟩

set_option maxRecDepth 100000 in
set_option maxHeartbeats 1600000 in
theorem l4Ask_many (b : Nat) (h ac bu : Int) (a : Option Addr) (n c : Nat) (f : Nat → Int) (ra : Option Addr) (roots : List Int) (rc : Nat) (L : List Ob) (w : World) (hB : Blk w b [.int .i64 h, .slice a n c, .int .i64 ac, .int .i64 bu]) (hs : Src w a n f) (hcn : n ≤ c) (hcm : c ≤ maxLen) (hk : IsSF h n f ac bu 0) (h0 : 60 < roots.length) :
    Calls Try.prog 66 #[.pointer (some ⟨b, 0, none⟩), .slice ra roots.length rc] w (RetAsk w f roots 2 L) := by
  have hd : (60 : Int) < (roots.length : Int) := by omega
  have HB0 := Lib.hid hB; have HS := Lib.hid hs; have HK := Lib.hid hk; have HCM := Lib.hid hcm
  have lb := HB0.out.1; have cb0 := HB0.out.at 0 rfl; have cb1 := HB0.out.at 1 rfl; have cb2 := HB0.out.at 2 rfl; have cb3 := HB0.out.at 3 rfl
  clear hB hs hk hcm h0
  go_enter Try.func66, Try.ntmps66
  go_wp2_with fail
  refine (specSF_any h ac bu a n c f 0 _ HS.out hcn HCM.out HK.out).mono ?_
  rintro e w1 ⟨rfl, hb⟩
  have HB1 := Lib.hid hb
  clear hb cb0 cb1 cb2 cb3 lb
  go_wp2
  exact bodyPost_ret (v := .tuple #[.slice none 0 0, .slice none 0 0, .int .i64 2]) (by simp [results, Try.results66, go_sem]) rfl ⟨HB1.out, .inl ⟨by decide, rfl⟩⟩

set_option maxRecDepth 100000 in
set_option maxHeartbeats 3200000 in
theorem l4Ask_rest (b : Nat) (h ac bu : Int) (a : Option Addr) (n c : Nat) (f : Nat → Int) (ra : Option Addr) (roots : List Int) (rc : Nat) (co : Int) (L : List Ob) (w : World) (hB : Blk w b [.int .i64 h, .slice a n c, .int .i64 ac, .int .i64 bu]) (hs : Src w a n f) (hcn : n ≤ c) (hcm : c ≤ maxLen) (hrs : Src w ra roots.length (lf roots)) (hk : IsSF h n f ac bu 0) (ho : IsOI h n f ac bu 0 L) (h60 : roots.length ≤ 60) (hco : ((∃ p ∈ roots, p ∉ placesO L) ∧ co = 4) ∨ ((∀ p ∈ roots, p ∈ placesO L) ∧ co = 0)) :
    Calls Try.prog 66 #[.pointer (some ⟨b, 0, none⟩), .slice ra roots.length rc] w (RetAsk w f roots co L) := by
  have hd : ¬ (60 : Int) < (roots.length : Int) := by omega
  have HB0 := Lib.hid hB; have HS := Lib.hid hs; have HK := Lib.hid hk; have HCM := Lib.hid hcm; have HRS := Lib.hid hrs; have HO := Lib.hid ho; have HCO := Lib.hid hco
  have HRI := Lib.hid (right_of hk ho)
  have lb := HB0.out.1; have cb0 := HB0.out.at 0 rfl; have cb1 := HB0.out.at 1 rfl; have cb2 := HB0.out.at 2 rfl; have cb3 := HB0.out.at 3 rfl
  clear hB hs hk hcm hrs ho hco
  go_enter Try.func66, Try.ntmps66
  go_wp2_with fail
  refine (specSF_any h ac bu a n c f 0 _ HS.out hcn HCM.out HK.out).mono ?_
  rintro e w1 ⟨rfl, hb⟩
  have HB1 := Lib.hid hb
  clear hb cb0 cb1 cb2 cb3 lb
  go_wp2_with fail
  refine (l3Objs_any b h ac bu a n c f L _ (HB0.out.below HB1.out) (HS.out.below HB1.out) hcn HCM.out HO.out).mono ?_
  rintro e w2 ⟨hb, v, M, hL, rfl, hm⟩
  have HB2 := Lib.hid (thru0 HB1.out hb)
  have z1 := HB1.out.size
  have HM := Lib.hid (hm.lo z1 z1)
  have HL := Lib.hid hL
  clear hb hm hL HB1 z1
  go_wp2
  go_loop [10] (fun q => ∃ i : Nat, i ≤ roots.length ∧ q = .int .i64 (i : Int) ∧ Hid (∀ j, j < i → lf roots j ∈ placesO L)) (fun q => roots.length - (intOf q).toNat)
  case atStart => exact ⟨0, by omega, rfl, Lib.hid (fun j hj => by omega)⟩
  case round =>
    obtain ⟨i, hi, rfl, HD⟩ := hrel
    by_cases hlt : i < roots.length
    · have hlt' : (i : Int) < (roots.length : Int) := by omega
      have hi0 : (0 : Int) ≤ (i : Int) := by omega
      obtain ⟨rb, ro, rfl, hrb, hrc⟩ := src_some (HRS.out.below HB2.out) (by omega)
      have c0 := hrc i hlt
      obtain ⟨y, hy⟩ : ∃ y, lf roots i = y := ⟨_, rfl⟩
      have HME := Lib.hid (lf_mem hlt)
      have HY := Lib.hid hy
      rw [hy] at c0 HME
      clear hrc hy
      go_wp2_with fail
      refine (HM.out.find y).mono ?_
      rintro e w' ⟨rfl, hf⟩
      rcases hf with ⟨hf, rfl⟩ | ⟨j, x, hf, hx, rfl⟩
      · have hn : y ∉ placesO L := fun hp => by
          obtain ⟨z, hz⟩ := mem_placesO.1 hp
          rw [HL.out, hf] at hz; cases hz
        have hc4 : co = 4 := by
          rcases HCO.out with ⟨_, h4⟩ | ⟨hq, _⟩
          · exact h4
          · exact absurd (hq y HME.out) hn
        subst hc4
        clear hf hn
        go_wp2
        exact bodyPost_ret (v := .tuple #[.slice none 0 0, .slice none 0 0, .int .i64 4]) (by simp [results, Try.results66, go_sem]) rfl ⟨HB2.out, .inl ⟨by decide, rfl⟩⟩
      · have HP : Hid (y ∈ placesO L) := Lib.hid (mem_placesO.2 ⟨x, by rw [HL.out]; exact hf⟩)
        have hj0 : ¬ (j : Int) < 0 := by omega
        clear hf hx
        go_wp2
        go_round
        case rel => first | exact ⟨i + 1, by omega, by go_num, Lib.hid (fun j hj => by rcases Nat.lt_succ_iff_lt_or_eq.mp hj with h1 | h1; exact HD.out j h1; subst h1; rw [HY.out]; exact HP.out)⟩ | ((repeat apply Exists.intro); exact ⟨⟨i + 1, by omega, by go_num, Lib.hid (fun j hj => by rcases Nat.lt_succ_iff_lt_or_eq.mp hj with h1 | h1; exact HD.out j h1; subst h1; rw [HY.out]; exact HP.out)⟩, rfl⟩)
        case measure => simp [intOf]; omega
    · have hlt' : ¬ (i : Int) < (roots.length : Int) := by omega
      have hall : ∀ p ∈ roots, p ∈ placesO L := fun p hp => by
        obtain ⟨j, hj, rfl⟩ := List.getElem_of_mem hp
        rw [← lf_at hj]; exact HD.out j (by omega)
      have hc0 : co = 0 := by
        rcases HCO.out with ⟨⟨p, hp, hq⟩, _⟩ | ⟨_, h0⟩
        · exact absurd (hall p hp) hq
        · exact h0
      subst hc0
      have HALL := Lib.hid hall
      clear hall
      go_wp2_with fail
      refine (l4Reach_any v M w.heap.size w.heap.size ra roots rc f _ HM.out (by rw [← HL.out]; exact HRI.out.points) (HRS.out.below HB2.out) (by omega) (by rw [← HL.out]; exact HALL.out)).mono ?_
      rintro e w3 ⟨a3, c3, rfl, ho3, hb, h31, h32, h33⟩
      have HB3 := Lib.hid (thru0 HB2.out hb)
      have HM3 := Lib.hid (HM.out.below hb)
      have HO3 := Lib.hid (ho3.mono HB2.out.size)
      have HQ3 := Lib.hid (show (reachO f (M.map OM.x) roots).length ≤ c3 ∧ c3 ≤ maxLen from ⟨h31, h32⟩)
      clear hb ho3 h31 h32 h33
      go_wp2
      exact bodyPost_ret (v := .tuple #[v, .slice a3 (reachO f (M.map OM.x) roots).length c3, .int .i64 0]) (by simp [results, Try.results66, go_sem]) rfl ⟨HB3.out, .inr ⟨rfl, v, M, a3, c3, HL.out, by rw [HL.out], HM3.out, by rw [HL.out]; exact HO3.out, by rw [HL.out]; exact HQ3.out⟩⟩

theorem l4Ask_any (b : Nat) (h ac bu : Int) (a : Option Addr) (n c : Nat) (f : Nat → Int) (ra : Option Addr) (roots : List Int) (rc : Nat) (co : Int) (L : List Ob) (w : World) (hB : Blk w b [.int .i64 h, .slice a n c, .int .i64 ac, .int .i64 bu]) (hs : Src w a n f) (hcn : n ≤ c) (hcm : c ≤ maxLen) (hrs : Src w ra roots.length (lf roots)) (hk : IsAsk h n f ac bu roots co L) :
    Calls Try.prog 66 #[.pointer (some ⟨b, 0, none⟩), .slice ra roots.length rc] w (RetAsk w f roots co L) := by
  rcases hk with ⟨h1, h2⟩ | ⟨h1, h2, rfl⟩ | ⟨h1, h2, h3, h4, rfl⟩ | ⟨h1, h2, h3, h4, rfl⟩
  · exact l4Ask_code b h ac bu a n c f ra roots rc co L w hB hs hcn hcm h1 h2
  · exact l4Ask_many b h ac bu a n c f ra roots rc L w hB hs hcn hcm h1 h2
  · exact l4Ask_rest b h ac bu a n c f ra roots rc 4 L w hB hs hcn hcm hrs h1 h2 h3 (.inl ⟨h4, rfl⟩)
  · exact l4Ask_rest b h ac bu a n c f ra roots rc 0 L w hB hs hcn hcm hrs h1 h2 h3 (.inr ⟨h4, rfl⟩)
end Go.Proofs.Ytbhjmomphajnnaa

namespace Go.Proofs.Ytbhjmomphajnnaa
open Go.RowKit
set_option linter.unusedVariables false

def outR (f : Nat → Int) (L : List Ob) (roots : List Int) (co : Int) : List Int := if co = 0 then reachO f L roots else []

def outG (f : Nat → Int) (L : List Ob) (roots : List Int) (co : Int) : List Int := if co = 0 then (placesO L).filter (fun p => decide (p ∉ reachO f L roots)) else []

def outW (f : Nat → Int) (L : List Ob) (roots : List Int) (co : Int) : Int := if co = 0 then (sumW (wordsAt L) (reachO f L roots) : Int) else 0

theorem outR_zero (f : Nat → Int) (L : List Ob) (roots : List Int) : outR f L roots 0 = reachO f L roots := rfl

theorem outR_no (f : Nat → Int) (L : List Ob) (roots : List Int) {co : Int} (h : ¬ co = 0) : outR f L roots co = [] := if_neg h

theorem outG_no (f : Nat → Int) (L : List Ob) (roots : List Int) {co : Int} (h : ¬ co = 0) : outG f L roots co = [] := if_neg h

theorem outW_no (f : Nat → Int) (L : List Ob) (roots : List Int) {co : Int} (h : ¬ co = 0) : outW f L roots co = 0 := if_neg h

set_option maxRecDepth 100000 in
set_option maxHeartbeats 400000 in
theorem l2Words_at (b off : Nat) (s : Int) (w : World) (c0 : w.cell? ⟨b, off, none⟩ = some (.int .i64 s)) (h0 : 0 ≤ s ∧ s ≤ 12) :
    Calls Try.prog 195 #[.pointer (some ⟨b, off, none⟩)] w fun e w' => e = .returned (.int .i64 (s + 2)) ∧ w = w' := by
  obtain ⟨h1, h2⟩ := h0
  go_enter Try.func195, Try.ntmps195
  go_wp2
  go_ret
  exact ⟨rfl, rfl⟩

theorem sumW_snoc (u : Int → Nat) (l : List Int) (p : Int) : sumW u (l ++ [p]) = sumW u l + u p := by
  induction l with
  | nil => simp [sumW]
  | cons q l ih => simp only [List.cons_append, sumW, ih]; omega

theorem sumW_take {u : Int → Nat} {l : List Int} {i : Nat} (h : i < l.length) : sumW u (l.take (i + 1)) = sumW u (l.take i) + u (lf l i) := by
  rw [List.take_succ_eq_append_getElem h, sumW_snoc, lf_at h]

theorem wordsAt_some {L : List Ob} {p : Int} {x : Ob} (h : findO L p = some x) : wordsAt L p = 2 + x.s.toNat := by unfold wordsAt; rw [h]; rfl
end Go.Proofs.Ytbhjmomphajnnaa

namespace Go.Proofs.Ytbhjmomphajnnaa
open Go.RowKit
set_option linter.unusedVariables false

theorem own_of_row' {w : World} {B e : Nat} {v : Value} {l : List Int} (h : w.ownsRow B e 1 v l.length (nums l.length (lf l))) : ∃ a c, v = .slice a l.length c ∧ Own w B a l.length (lf l) := by
  obtain ⟨a, c, rfl, _⟩ := row_shape h
  exact ⟨a, c, rfl, own_of_row h⟩
end Go.Proofs.Ytbhjmomphajnnaa

namespace Go.Proofs.Ytbhjmomphajnnaa
open Go.RowKit Go.Maps
set_option linter.unusedVariables false

theorem Try.underlyingMap : Try.prog.underlying 99 = some (.map 2 2) := by kernel_rfl

theorem Try.underlyingI : Try.prog.underlying 2 = some (.int .i64) := by kernel_rfl

theorem keyI : Keyed Try.prog 2 := int_keyed Try.underlyingI

theorem zeroI (w : World) : (zeroValue 2).run Try.prog w = .ok (.int .i64 0) w := by kernel_rfl

theorem wfI {p : Int} (h : -1000000000 ≤ p ∧ p ≤ 1000000000) : (Lit.int .i64 p).wf = true := WalkArith.wf_i64 (by omega)

/-- A block is a map in which the i-th of a list has the i-th value, and nothing else is there. -/
def MapT (w : World) (b n : Nat) (R : List Int) (v : Nat → Int) : Prop :=
  ∃ D : DataW Unit, w.ownsMap Try.prog 2 (plainElem Try.prog 2) b n D ∧ ∀ p, (Lit.int .i64 p).wf = true → Maps.has D (.int .i64 p) = decide (p ∈ R) ∧ D.atKey (.int .i64 p) (.lit (.int .i64 0)) = .lit (.int .i64 ((tab R v p).getD 0))

section

variable {w : World} {b n : Nat} {R : List Int} {v : Nat → Int} {p : Int}

theorem MapT.lt (h : MapT w b n R v) : b < w.heap.size := by obtain ⟨D, h1, _⟩ := h; exact h1.lt

theorem MapT.block {w' : World} (h : MapT w b n R v) (hb : w'.heap[b]? = w.heap[b]?) : MapT w' b n R v := by
  obtain ⟨D, ⟨es, clock, h1, h2⟩, h3⟩ := h
  exact ⟨D, ⟨es, clock, hb.trans h1, h2⟩, h3⟩

theorem MapT.below {w' : World} (h : MapT w b n R v) (hb : Below w.heap.size w w') : MapT w' b n R v := h.block (hb.block b h.lt)

theorem MapT.alloc (h : MapT w b n R v) (o : Obj) : MapT (w.alloc o) b n R v := h.below ((Below.refl _ _).alloc (Nat.le_refl _) o)

theorem MapT.drew (h : MapT w b n R v) : MapT w.drew b n R v := h.below (Below.refl _ _).drew

theorem MapT.drewN (h : MapT w b n R v) (q : Nat) : MapT (w.drewN q) b n R v := h.below (drewN_below w q)

theorem MapT.grown {w' : World} {row : Option Nat} (h : MapT w b n R v) (hg : w.grownBy w' row) (hne : row ≠ some b) : MapT w' b n R v := h.block (hg.block b h.lt (fun e => hne e.symm))

theorem MapT.set (h : MapT w b n R v) {p : Addr} (hp : b ≠ p.block) (u : Value) : MapT (w.setCell p u) b n R v := h.block (Below.heap_setCell _ _ _ b hp)

theorem MapT.made (w : World) (v : Nat → Int) : MapT (w.alloc (.map #[] 0)) w.heap.size 0 [] v := ⟨.map [], World.ownsMap_made _ _ _ _, fun p _ => ⟨by simp [Maps.has_eq], by simp [tab_nil]; rfl⟩⟩

theorem MapT.look_ok (h : MapT w b n R v) (hp : -1000000000 ≤ p ∧ p ≤ 1000000000) : (Instr.lookup 99 (.map (some b)) (.int .i64 p) true).run Try.prog w = .ok (.tuple #[.int .i64 ((tab R v p).getD 0), .bool (decide (p ∈ R))]) w := by
  obtain ⟨D, h1, h2⟩ := h
  obtain ⟨x, ps, hr, hx⟩ := h1.look_ok keyI Try.underlyingMap (zeroI w) (plainElem_int Try.underlyingI (wfI (p := 0) (by omega))) (keyOf_int_mk Try.underlyingI (wfI hp))
  obtain ⟨h3, h4⟩ := h2 p (wfI hp)
  rw [h4] at hx
  obtain ⟨c, rfl, hc, _⟩ := plainElem_int_inv Try.underlyingI hx
  have : (tab R v p).getD 0 = c := by simpa using congrArg Prod.fst hc
  rw [hr, h3, this]

theorem MapT.look (h : MapT w b n R v) (hp : -1000000000 ≤ p ∧ p ≤ 1000000000) : (Instr.lookup 99 (.map (some b)) (.int .i64 p) false).run Try.prog w = .ok (.int .i64 ((tab R v p).getD 0)) w := by
  obtain ⟨D, h1, h2⟩ := h
  obtain ⟨c, hr, hc, _⟩ := h1.lookup_int keyI Try.underlyingMap Try.underlyingI (zeroI w) (keyOf_int_mk Try.underlyingI (wfI hp))
  obtain ⟨h3, h4⟩ := h2 p (wfI hp)
  rw [h4] at hc
  have : (tab R v p).getD 0 = c := by simpa using hc
  rw [hr, this]

theorem MapT.update (h : MapT w b n R v) (hn : n < maxLen) (hp : -1000000000 ≤ p ∧ p ≤ 1000000000) (hv : -1000000000 ≤ v R.length ∧ v R.length ≤ 1000000000) (hq : p ∉ R) : ∃ w', (Instr.mapUpdate 99 (.map (some b)) (.int .i64 p) (.int .i64 (v R.length))).run Try.prog w = .ok () w' ∧ MapT w' b (n + 1) (R ++ [p]) v ∧ w.grownBy w' (some b) := by
  obtain ⟨D, h1, h2⟩ := h
  obtain ⟨w', hr, h3, h4⟩ := h1.update keyI Try.underlyingMap hn (keyOf_int_mk Try.underlyingI (wfI hp)) (plainElem_int Try.underlyingI (wfI hv))
  refine ⟨w', hr, ⟨_, h3, fun q hwq => ?_⟩, h4⟩
  have hk : WideAt.IsKeyLit (Lit.int .i64 p) := by trivial
  by_cases e : q = p
  · subst e
    refine ⟨by rw [Maps.has_put_same h1.isMap hk]; simp, ?_⟩
    rw [Maps.atKey_put_same h1.isMap hk, tab_snoc hq, if_pos rfl]; rfl
  · have hne : Lit.int .i64 q ≠ Lit.int .i64 p := fun h => e (by simpa using h)
    refine ⟨by rw [Maps.has_put_other hne, (h2 q hwq).1]; simp [e], ?_⟩
    rw [Maps.atKey_put_other hne, (h2 q hwq).2, tab_snoc hq, if_neg e]

end

/-- A row of objects is read. -/
theorem rowG_GV {w : World} {base : Nat} {v : Value} {M : List GM} (h : w.ownsRow base 111 6 v M.length (rowG M)) (hf : ∀ t ∈ M, Src w t.a t.n t.f) : ∃ a c, v = .slice a M.length c ∧ GV w a M.length (gT M) := by
  rcases Nat.eq_zero_or_pos M.length with h0 | hp
  · rcases h.2 with ⟨h1, h2⟩ | ⟨g, cap, cur, h1, _⟩
    · exact ⟨none, 0, by rw [h1, h2], .inl h0⟩
    · exact ⟨_, _, h1, .inl h0⟩
  · obtain ⟨g, cap, rfl, hb, hlt⟩ := h.form hp
    have hce : ∀ i t, M[i]? = some t → ∀ j u, (gcells t)[j]? = some u → w.cell? ⟨g, i * 6 + j, none⟩ = some u := fun i t ht j u hu => by
      have hi : i < M.length := (List.getElem?_eq_some_iff.mp ht).1
      have hj : j < 6 := by
        have := (List.getElem?_eq_some_iff.mp hu).1
        simpa [gcells] using this
      have hc := h.cellAt (i * 6 + j) (by omega)
      rw [rowG_get M i t ht j hj, hu] at hc
      simpa using hc
    refine ⟨_, _, rfl, .inr ⟨g, 0, rfl, hlt, fun i hi => ?_, fun i hi => ?_⟩⟩
    · have ht := List.getElem?_eq_getElem hi
      rw [gT_at ht, Nat.zero_add]
      exact ⟨hce i _ ht 0 _ rfl, hce i _ ht 1 _ rfl, hce i _ ht 2 _ rfl, hce i _ ht 3 _ rfl, hce i _ ht 4 _ rfl, hce i _ ht 5 _ rfl⟩
    · rw [gT_at (List.getElem?_eq_getElem hi)]
      exact hf _ (List.getElem_mem hi)
end Go.Proofs.Ytbhjmomphajnnaa

namespace Go.Proofs.Ytbhjmomphajnnaa
open Go.RowKit Go.Maps
set_option linter.unusedVariables false

/-- Where a field of an object leads, in the program's words. -/
def tgtV (t : GM) (k : Nat) : Option Int := if t.m / P2 (k : Int) % 2 = 1 ∧ ¬ t.f k = 0 then some (t.f k - 1) else none

def RetTgt (W : World) (r : Option Int) (e : Ending) (w' : World) : Prop := Below W.heap.size W w' ∧ e = .returned (.tuple #[.int .i64 (r.getD 0), .bool r.isSome])

theorem mid5 {w : World} {b : Nat} {v0 v1 v2 v3 v4 v5 u : Value} {p : Addr} (h : Blk w b [v0, v1, v2, v3, v4, v5]) (hp : w.cell? p = some u) : w.cell? ⟨b, 1, none⟩ = some v1 ∧ w.cell? ⟨b, 2, none⟩ = some v2 ∧ w.cell? ⟨b, 3, none⟩ = some v3 ∧ w.cell? ⟨b, 4, none⟩ = some v4 ∧ w.cell? ⟨b, 5, none⟩ = some v5 ∧ w.cell? p = some u := ⟨h.at 1 rfl, h.at 2 rfl, h.at 3 rfl, h.at 4 rfl, h.at 5 rfl, hp⟩

set_option maxRecDepth 100000 in
set_option maxHeartbeats 3200000 in
theorem target_any (t : GM) (k : Nat) (w : World) (hs : Src w t.a t.n t.f) (hk : k < t.n) (hok : HOk t.s t.m t.o t.h) (htn : t.n = t.s.toNat) (hwd : -1000000000 ≤ t.f k ∧ t.f k ≤ 1000000000) :
    Calls Try.prog 187 #[.agg #[.int .i64 t.at_, .int .i64 t.s, .int .i64 t.m, .int .i64 t.o, .int .i64 t.h, .slice t.a t.n t.c], .int .i64 (k : Int)] w (RetTgt w (tgtV t k)) := by
  have ht12 : t.n ≤ 12 := by have := hok.1; omega
  have hst : t.s = (t.n : Int) := by have := hok.1; omega
  obtain ⟨tb, tf, hta, ltb, hck⟩ : ∃ tb tf, t.a = some ⟨tb, tf, none⟩ ∧ tb < w.heap.size ∧ w.cell? ⟨tb, tf + k, none⟩ = some (.int .i64 (t.f k)) := by
    rcases hs with h0 | ⟨tb, tf, h1, h2, h3⟩
    · omega
    · exact ⟨tb, tf, h1, h2, h3 k hk⟩
  obtain ⟨hw1, hw2⟩ := hwd
  have hk' : (k : Int) < (t.n : Int) := by omega
  have hk0 : (0 : Int) ≤ (k : Int) := by omega
  have hkI : (0 : Int) ≤ (k : Int) ∧ (k : Int) ≤ t.s - 1 := by omega
  have HIP : Hid (∃ r, IsIP t.s t.m t.o t.h (k : Int) r ∧ r = (t.m / P2 (k : Int) % 2 == 1)) := Lib.hid ⟨_, .inl ⟨⟨hok, hkI⟩, rfl⟩, rfl⟩
  obtain ⟨r, hip, hr⟩ := HIP.out
  have HI := Lib.hid hip; have HR := Lib.hid hr
  obtain ⟨y, hy⟩ : ∃ y, t.f k = y := ⟨_, rfl⟩
  have HY := Lib.hid hy
  rw [hy] at hck hw1 hw2
  rw [hta]
  have ha1 : ∀ (v : Int) (w : World), (Instr.typeAssert (fieldV true v) 274 263 true).run Try.prog w = .ok (.tuple #[.int .i64 v, .bool true]) w := fun v w => as_ptr _ w
  have ha2 : ∀ (v : Int) (w : World), (Instr.typeAssert (fieldV false v) 274 263 true).run Try.prog w = .ok (.tuple #[.int .i64 0, .bool false]) w := fun v w => as_plain _ w
  have X0 := Lib.hid (Blk.new_at (w := w) (cs := #[.int .i64 t.at_, .int .i64 t.s, .int .i64 t.m, .int .i64 t.o, .int .i64 t.h, .slice (some ⟨tb, tf, none⟩) t.n t.c]) (t := 111) w.heap.size rfl)
  have HB0 := Lib.hid ((Below.refl w.heap.size w).alloc (Nat.le_refl _) (.cells #[.int .i64 t.at_, .int .i64 t.s, .int .i64 t.m, .int .i64 t.o, .int .i64 t.h, .slice (some ⟨tb, tf, none⟩) t.n t.c] 111))
  have c0 := HB0.out.cell (p := ⟨tb, tf + k, none⟩) ltb
  rw [hck] at c0
  clear hip hr hs hok hta hck hkI HIP hy htn hst
  go_enter Try.func187, Try.ntmps187
  go_wp2_with fail
  have Xd := Lib.hid X0.out.drew
  have zz : w.heap.size + 1 ≤ (w.alloc (.cells #[.int .i64 t.at_, .int .i64 t.s, .int .i64 t.m, .int .i64 t.o, .int .i64 t.h, .slice (some ⟨tb, tf, none⟩) t.n t.c] 111)).heap.size := by simp
  have lt0 : tb < (w.alloc (.cells #[.int .i64 t.at_, .int .i64 t.s, .int .i64 t.m, .int .i64 t.o, .int .i64 t.h, .slice (some ⟨tb, tf, none⟩) t.n t.c] 111)).heap.size := by omega
  generalize w.alloc (.cells #[.int .i64 t.at_, .int .i64 t.s, .int .i64 t.m, .int .i64 t.o, .int .i64 t.h, .slice (some ⟨tb, tf, none⟩) t.n t.c] 111) = w0 at *
  have cd : w0.drew.cell? ⟨tb, tf + k, none⟩ = some (.int .i64 y) := by simpa using c0
  have ltd : tb < w0.drew.heap.size := by simpa using lt0
  cases r with
  | true =>
    have hd : t.m / P2 (k : Int) % 2 = 1 := by have := HR.out; simpa using this.symm
    go_region_held3 (fun w' => w'.cell? ⟨w.heap.size, 1, none⟩ = some (.int .i64 t.s) ∧ w'.cell? ⟨w.heap.size, 2, none⟩ = some (.int .i64 t.m) ∧ w'.cell? ⟨w.heap.size, 3, none⟩ = some (.int .i64 t.o) ∧ w'.cell? ⟨w.heap.size, 4, none⟩ = some (.int .i64 t.h) ∧ w'.cell? ⟨w.heap.size, 5, none⟩ = some (.slice (some ⟨tb, tf, none⟩) t.n t.c) ∧ w'.cell? ⟨tb, tf + k, none⟩ = some (.int .i64 y))
      (first | (with_reducible exact mid5 X0.out c0) | (with_reducible exact mid5 Xd.out cd) | (with_reducible exact mid5 X2.out c2))
      (first | (go_at_call 200; (refine (fieldOf_any t.s t.m t.o t.h (k : Int) y true _ HI.out).mono ?_; rintro e w2 ⟨rfl, hb⟩; have HB2 := Lib.hid ((HB0.out.drew).trans (hb.mono (by simp; omega))); have X2 := Lib.hid (Xd.out.below hb); have c2 := (hb.cell (p := ⟨tb, tf + k, none⟩) ltd).trans cd; clear hb)))
    by_cases h0 : y = 0
    · have HT : Hid (tgtV t k = none) := Lib.hid (by unfold tgtV; rw [HY.out, if_neg (fun h => h.2 h0)])
      subst h0
      go_wp2
      refine bodyPost_ret (v := .tuple #[.int .i64 0, .bool false]) (by simp [results, Try.results187, go_sem]) rfl ?_
      rw [HT.out]
      exact ⟨HB2.out, rfl⟩
    · have HT : Hid (tgtV t k = some (y - 1)) := Lib.hid (by unfold tgtV; rw [HY.out, if_pos ⟨hd, h0⟩])
      have h0' : (y == 0) = false := by simpa using h0
      clear hd
      go_wp2_with fail
      refine (place_any y _ hw1 hw2).mono ?_
      rintro e w3 ⟨rfl, hb⟩
      have HB3 := Lib.hid (HB2.out.trans (hb.mono HB2.out.size))
      clear hb
      go_wp2
      refine bodyPost_ret (v := .tuple #[.int .i64 (y - 1), .bool true]) (by simp [results, Try.results187, go_sem]) rfl ?_
      rw [HT.out]
      exact ⟨HB3.out, rfl⟩
  | false =>
    have hd : ¬ t.m / P2 (k : Int) % 2 = 1 := by have := HR.out; simpa using this.symm
    have HT : Hid (tgtV t k = none) := Lib.hid (by unfold tgtV; rw [if_neg (fun h => hd h.1)])
    clear hd
    go_region_held3 (fun w' => w'.cell? ⟨w.heap.size, 1, none⟩ = some (.int .i64 t.s) ∧ w'.cell? ⟨w.heap.size, 2, none⟩ = some (.int .i64 t.m) ∧ w'.cell? ⟨w.heap.size, 3, none⟩ = some (.int .i64 t.o) ∧ w'.cell? ⟨w.heap.size, 4, none⟩ = some (.int .i64 t.h) ∧ w'.cell? ⟨w.heap.size, 5, none⟩ = some (.slice (some ⟨tb, tf, none⟩) t.n t.c) ∧ w'.cell? ⟨tb, tf + k, none⟩ = some (.int .i64 y))
      (first | (with_reducible exact mid5 X0.out c0) | (with_reducible exact mid5 Xd.out cd) | (with_reducible exact mid5 X2.out c2))
      (first | (go_at_call 200; (refine (fieldOf_any t.s t.m t.o t.h (k : Int) y false _ HI.out).mono ?_; rintro e w2 ⟨rfl, hb⟩; have HB2 := Lib.hid ((HB0.out.drew).trans (hb.mono (by simp; omega))); have X2 := Lib.hid (Xd.out.below hb); have c2 := (hb.cell (p := ⟨tb, tf + k, none⟩) ltd).trans cd; clear hb)))
    go_wp2
    refine bodyPost_ret (v := .tuple #[.int .i64 0, .bool false]) (by simp [results, Try.results187, go_sem]) rfl ?_
    rw [HT.out]
    exact ⟨HB2.out, rfl⟩
end Go.Proofs.Ytbhjmomphajnnaa

namespace Go.Proofs.Ytbhjmomphajnnaa
open Go.RowKit Go.Maps
set_option linter.unusedVariables false

theorem Try.infoOb9 : (Try.prog.info? 111).map (fun i => (i.zero, i.size, i.bytes)) = some (some (.agg #[.int .i64 0, .int .i64 0, .int .i64 0, .int .i64 0, .int .i64 0, .slice none 0 0]), 6, 64) := by kernel_rfl

/-- What is reached so far, as the program has it: in the block rb, with the map mb and the row v. -/
structure RS (w : World) (base rb mb : Nat) (v : Value) (M : List GM) (f : Nat → Int) (L : List Ob) (O : List Int) : Prop where
  blk : Blk w rb [.int .i64 0, v, .map (some mb)]
  hrb : base ≤ rb
  hmb : base ≤ mb
  hne : mb ≠ rb
  vr : v.ownBlock ≠ some rb
  vm : v.ownBlock ≠ some mb
  row : w.ownsRow base 111 6 v M.length (rowG M)
  map : MapT w mb O.length O (fun i => (i : Int))
  len : M.length = O.length
  src : ∀ t ∈ M, Src w t.a t.n t.f ∧ (t.n = 0 ∨ t.g + 1 < base)
  same : ∀ i t, M[i]? = some t → ∃ x, findO L (lf O i) = some x ∧ GSame t (obG f x)

section

variable {w w' : World} {base rb mb : Nat} {v : Value} {M : List GM} {f : Nat → Int} {L : List Ob} {O : List Int}

theorem RS.below (h : RS w base rb mb v M f L O) (hb : Below w.heap.size w w') : RS w' base rb mb v M f L O :=
  ⟨h.blk.below hb, h.hrb, h.hmb, h.hne, h.vr, h.vm, ownsRow_below h.row hb, h.map.below hb, h.len, fun t ht => ⟨(h.src t ht).1.below hb, (h.src t ht).2⟩, h.same⟩

theorem src_far {base : Nat} {t : GM} (h : Src w t.a t.n t.f) (hg : t.n = 0 ∨ t.g + 1 < base) (hb : Below base w w') (hz : w.heap.size ≤ w'.heap.size) : Src w' t.a t.n t.f := by
  rcases h with h0 | ⟨b, o, e1, h2, h3⟩
  · exact .inl h0
  · rcases hg with h0 | hg
    · exact .inl h0
    · have hg' : b < base := by have : t.g = b := (by simp [GM.g, e1]); omega
      exact .inr ⟨b, o, e1, by omega, fun i hi => (World.cell?_of_block (w := w) (a := ⟨b, o + i, none⟩) (hb.block b hg')).trans (h3 i hi)⟩

theorem RS.set (h : RS w base rb mb v M f L O) {p : Addr} (hp : p.block + 1 = base) (u : Value) : RS (w.setCell p u) base rb mb v M f L O := by
  have h1 := h.hrb; have h2 := h.hmb
  refine ⟨h.blk.other (by omega) _, h.hrb, h.hmb, h.hne, h.vr, h.vm, row_set h.row (by omega) _, h.map.set (by omega) _, h.len, fun t ht => ⟨?_, (h.src t ht).2⟩, h.same⟩
  obtain ⟨h3, h4⟩ := h.src t ht
  rcases h3 with h0 | ⟨b, o, e1, h5, h6⟩
  · exact .inl h0
  · rcases h4 with h0 | h4
    · exact .inl h0
    · have : t.g = b := (by simp [GM.g, e1])
      exact .inr ⟨b, o, e1, by simpa using h5, fun i hi => (World.cell?_of_block (w := w) (a := ⟨b, o + i, none⟩) (Below.heap_setCell _ _ _ b (by omega))).trans (h6 i hi)⟩

theorem RS.out (h : RS w base rb mb v M f L O) : ∃ a c, v = .slice a M.length c ∧ GV w a M.length (gT M) := rowG_GV h.row (fun t ht => (h.src t ht).1)

end

set_option maxRecDepth 100000 in
set_option maxHeartbeats 1600000 in
theorem add_old (base rb mb : Nat) (v : Value) (M : List GM) (f : Nat → Int) (L : List Ob) (O : List Int) (t : GM) (w : World) (h : RS w base rb mb v M f L O) (hp : -1000000000 ≤ t.at_ ∧ t.at_ ≤ 1000000000) (hin : t.at_ ∈ O) (hz : base ≤ w.heap.size) :
    Calls Try.prog 186 #[.pointer (some ⟨rb, 0, none⟩), .agg #[.int .i64 t.at_, .int .i64 t.s, .int .i64 t.m, .int .i64 t.o, .int .i64 t.h, .slice t.a t.n t.c]] w fun e w' => e = .returned (.tuple #[]) ∧ Below base w w' ∧ w.heap.size ≤ w'.heap.size ∧ RS w' base rb mb v M f L O := by
  have H := Lib.hid h
  have hd : decide (t.at_ ∈ O) = true := decide_eq_true hin
  have X0 := Lib.hid (Blk.new_at (w := w) (cs := #[.int .i64 t.at_, .int .i64 t.s, .int .i64 t.m, .int .i64 t.o, .int .i64 t.h, .slice t.a t.n t.c]) (t := 111) w.heap.size rfl)
  have B0 := Lib.hid (h.blk.alloc (.cells #[.int .i64 t.at_, .int .i64 t.s, .int .i64 t.m, .int .i64 t.o, .int .i64 t.h, .slice t.a t.n t.c] 111))
  have HB0 := Lib.hid ((Below.refl w.heap.size w).alloc (Nat.le_refl _) (.cells #[.int .i64 t.at_, .int .i64 t.s, .int .i64 t.m, .int .i64 t.o, .int .i64 t.h, .slice t.a t.n t.c] 111))
  have hlk := fun q => ((h.map.alloc (.cells #[.int .i64 t.at_, .int .i64 t.s, .int .i64 t.m, .int .i64 t.o, .int .i64 t.h, .slice t.a t.n t.c] 111)).drewN q).look_ok hp
  rw [hd] at hlk
  clear h
  go_enter Try.func186, Try.ntmps186
  go_wp2_with fail
  have zz : w.heap.size + 1 ≤ (w.alloc (.cells #[.int .i64 t.at_, .int .i64 t.s, .int .i64 t.m, .int .i64 t.o, .int .i64 t.h, .slice t.a t.n t.c] 111)).heap.size := by simp
  generalize w.alloc (.cells #[.int .i64 t.at_, .int .i64 t.s, .int .i64 t.m, .int .i64 t.o, .int .i64 t.h, .slice t.a t.n t.c] 111) = w0 at *
  have lX := X0.out.1; have cX0 := X0.out.at 0 rfl; have cX1 := X0.out.at 1 rfl; have cX2 := X0.out.at 2 rfl; have cX3 := X0.out.at 3 rfl; have cX4 := X0.out.at 4 rfl; have cX5 := X0.out.at 5 rfl
  have lB := B0.out.1; have cB0 := B0.out.at 0 rfl; have cB1 := B0.out.at 1 rfl; have cB2 := B0.out.at 2 rfl
  go_quiet (fail)
  clear hlk
  go_wp2
  refine bodyPost_ret (v := .tuple #[]) (by simp [results, Try.results186, go_sem]) rfl ?_
  have hb := below_drewN HB0.out
  exact ⟨rfl, (hb _).mono hz, (hb _).size, H.out.below (hb _)⟩
end Go.Proofs.Ytbhjmomphajnnaa

namespace Go.Proofs.Ytbhjmomphajnnaa
open Go.RowKit Go.Maps
set_option linter.unusedVariables false

theorem rowG_val {w : World} {base : Nat} {v : Value} {M : List GM} (h : w.ownsRow base 111 6 v M.length (rowG M)) : ∃ a c, v = .slice a M.length c := by
  rcases h.2 with ⟨e1, e2⟩ | ⟨g, cap, cur, e1, _⟩
  · exact ⟨none, 0, by rw [e1, e2]⟩
  · exact ⟨_, _, e1⟩

theorem obj_one (t : GM) : ∀ u ∈ gcells t, u.oneCell' = true := by
  intro u hu
  simp [gcells] at hu
  rcases hu with rfl | rfl | rfl | rfl | rfl | rfl <;> rfl

set_option maxRecDepth 100000 in
set_option maxHeartbeats 3200000 in
theorem add_new (base rb mb : Nat) (v : Value) (M : List GM) (f : Nat → Int) (L : List Ob) (O : List Int) (t : GM) (x : Ob) (w : World) (h : RS w base rb mb v M f L O) (hp : -1000000000 ≤ t.at_ ∧ t.at_ ≤ 1000000000) (hin : t.at_ ∉ O) (hz : base ≤ w.heap.size) (hx : findO L t.at_ = some x) (hsm : GSame t (obG f x)) (hsr : Src w t.a t.n t.f) (hfar : t.n = 0 ∨ t.g + 1 < base) (hl : O.length ≤ 400) :
    Calls Try.prog 186 #[.pointer (some ⟨rb, 0, none⟩), .agg #[.int .i64 t.at_, .int .i64 t.s, .int .i64 t.m, .int .i64 t.o, .int .i64 t.h, .slice t.a t.n t.c]] w fun e w' => e = .returned (.tuple #[]) ∧ Below base w w' ∧ w.heap.size ≤ w'.heap.size ∧ ∃ v', RS w' base rb mb v' (M ++ [t]) f L (O ++ [t.at_]) := by
  have HML := Lib.hid h.len
  have hml4 : M.length ≤ 400 := by rw [h.len]; exact hl
  have H := Lib.hid h; have HX := Lib.hid hx; have HSM := Lib.hid hsm; have HSR := Lib.hid hsr; have HFAR := Lib.hid hfar; have HP := Lib.hid hp; have HIN := Lib.hid hin
  have hd : decide (t.at_ ∈ O) = false := decide_eq_false hin
  have X0 := Lib.hid (Blk.new_at (w := w) (cs := #[.int .i64 t.at_, .int .i64 t.s, .int .i64 t.m, .int .i64 t.o, .int .i64 t.h, .slice t.a t.n t.c]) (t := 111) w.heap.size rfl)
  have B0 := Lib.hid (h.blk.alloc (.cells #[.int .i64 t.at_, .int .i64 t.s, .int .i64 t.m, .int .i64 t.o, .int .i64 t.h, .slice t.a t.n t.c] 111))
  have HB0 := Lib.hid ((Below.refl w.heap.size w).alloc (Nat.le_refl _) (.cells #[.int .i64 t.at_, .int .i64 t.s, .int .i64 t.m, .int .i64 t.o, .int .i64 t.h, .slice t.a t.n t.c] 111))
  have hlk := fun q => ((h.map.alloc (.cells #[.int .i64 t.at_, .int .i64 t.s, .int .i64 t.m, .int .i64 t.o, .int .i64 t.h, .slice t.a t.n t.c] 111)).drewN q).look_ok hp
  rw [hd] at hlk
  have hrbl : rb < w.heap.size := h.blk.1
  have hmbl : mb < w.heap.size := h.map.lt
  have hr1 := h.hrb; have hm1 := h.hmb; have hne := h.hne
  obtain ⟨j0, hif, hj0, hj1, hj2⟩ := info_parts Try.infoOb9
  obtain ⟨av, kv, hv⟩ := rowG_val h.row
  subst hv
  clear h hx hsm hsr hfar hp hin
  go_enter Try.func186, Try.ntmps186
  go_wp2_with fail
  have zz : w.heap.size + 1 = (w.alloc (.cells #[.int .i64 t.at_, .int .i64 t.s, .int .i64 t.m, .int .i64 t.o, .int .i64 t.h, .slice t.a t.n t.c] 111)).heap.size := by simp
  
  generalize w.alloc (.cells #[.int .i64 t.at_, .int .i64 t.s, .int .i64 t.m, .int .i64 t.o, .int .i64 t.h, .slice t.a t.n t.c] 111) = w0 at *
  have lX := X0.out.1; have cX0 := X0.out.at 0 rfl; have cX1 := X0.out.at 1 rfl; have cX2 := X0.out.at 2 rfl; have cX3 := X0.out.at 3 rfl; have cX4 := X0.out.at 4 rfl; have cX5 := X0.out.at 5 rfl
  have lB := B0.out.1; have cB0 := B0.out.at 0 rfl; have cB1 := B0.out.at 1 rfl; have cB2 := B0.out.at 2 rfl
  go_quiet (fail)
  clear hlk
  have M0 := Lib.hid (H.out.map.below (by rw [show w.heap.size = w.heap.size from rfl]; exact HB0.out))
  have HB1 := Lib.hid (below_drewN HB0.out nq)
  have X1 := Lib.hid (X0.out.below (drewN_below w0 nq)); have B1 := Lib.hid (B0.out.below (drewN_below w0 nq)); have M1 := Lib.hid (M0.out.drewN nq)
  have z1 : w.heap.size + 1 = (w0.drewN nq).heap.size := by simpa using zz
  clear lX cX0 cX1 cX2 cX3 cX4 cX5
  clear lB cB0 cB1 cB2
  clear X0 B0 HB0 M0 zz
  generalize w0.drewN nq = w1 at *
  go_wp2_with fail
  have lX := X1.out.1; have cX0 := X1.out.at 0 rfl; have cX1 := X1.out.at 1 rfl; have cX2 := X1.out.at 2 rfl; have cX3 := X1.out.at 3 rfl; have cX4 := X1.out.at 4 rfl; have cX5 := X1.out.at 5 rfl
  have lB := B1.out.1; have cB0 := B1.out.at 0 rfl; have cB1 := B1.out.at 1 rfl; have cB2 := B1.out.at 2 rfl
  go_still_tail 11, (by kernel_rfl)
  change wpList _ _ _ _ _ w1.drew
  clear lX cX0 cX1 cX2 cX3 cX4 cX5
  clear lB cB0 cB1 cB2
  have HB2 := Lib.hid HB1.out.drew; have X2 := Lib.hid X1.out.drew; have B2 := Lib.hid B1.out.drew; have M2 := Lib.hid M1.out.drew
  have z2 : w.heap.size + 1 = w1.drew.heap.size := by simpa using z1
  clear HB1 X1 B1 M1 z1
  generalize w1.drew = w2 at *
  obtain ⟨w3, hr3, hm3, hg3⟩ := M2.out.update (by unfold maxLen; omega) HP.out (by constructor <;> omega) HIN.out
  rw [← HML.out] at hr3
  have HB3 : Hid (Below base w w3) := Lib.hid ((HB2.out.mono hz).grown hg3 (by omega) (fun k hk => by cases hk; exact hm1))
  have hz3 : w.heap.size + 1 ≤ w3.heap.size := by have := hg3.size; omega
  have X3 := Lib.hid (blk_grown X2.out hg3 (by simp; omega))
  have B3 := Lib.hid (blk_grown B2.out hg3 (by simp; omega))
  have M3 := Lib.hid hm3
  have OW3 : Hid (w3.ownsRow base 111 6 (.slice av M.length kv) M.length (rowG M)) := Lib.hid ((ownsRow_below H.out.row HB2.out).kept hg3 (.inr H.out.vm))
  clear X2 B2 M2 HB2 hm3 hg3
  go_wp2_with fail
  clear hr3
  have lX := X3.out.1; have cX0 := X3.out.at 0 rfl; have cX1 := X3.out.at 1 rfl; have cX2 := X3.out.at 2 rfl; have cX3 := X3.out.at 3 rfl; have cX4 := X3.out.at 4 rfl; have cX5 := X3.out.at 5 rfl
  have lB := B3.out.1; have cB0 := B3.out.at 0 rfl; have fB0 := B3.out.free 0 rfl; have cB1 := B3.out.at 1 rfl; have fB1 := B3.out.free 1 rfl; have cB2 := B3.out.at 2 rfl; have fB2 := B3.out.free 2 rfl
  have hnew := cells_new6 w3.drew t
  go_region_law (first | (refine step_append_lies _ rfl (.tmp 32) (.tmp 34) 98 rfl base 111 j0 _ 6 64 Try.underlying98 hif hj0 hj1 hj2 rfl (by decide) (.slice av M.length kv) M.length (rowG M) rfl (OW3.out.drew.alloc _) ⟨w3.drew.heap.size, 0, none⟩ 1 1 (gcells t) rfl rfl hnew (obj_one t) (by omega) (by unfold maxLen; omega) (by omega) (by simp; omega) (w3.heap.size + 1) (by simp) ?_; intro g9 cap9 w9 hown9 hgrow9 hat9 hlt9; have T9 := Lib.hid (blk_grown (B3.out.drew.alloc _) hgrow9 H.out.vr); have l9 := T9.out.1; have d91 := T9.out.at 1 rfl; have e91 := T9.out.free 1 rfl))
  all_goals (
    have HB9 : Hid (Below base w w9) := Lib.hid ((HB3.out.drew.alloc (by simp; omega) _).grown hgrow9 (by simp; omega) (fun k hk => (OW3.out.lt k hk).1))
    have hz9 : w.heap.size ≤ w9.heap.size := (by have := hgrow9.size; simp at this; omega)
    have hg9r : g9 ≠ rb := (by rcases hat9 with he | he; (intro e; exact H.out.vr (by rw [he, e])); omega)
    have hg9m : g9 ≠ mb := (by rcases hat9 with he | he; (intro e; exact H.out.vm (by rw [he, e])); omega)
    have M9 := Lib.hid ((M3.out.drew.alloc (.cells #[.int .i64 t.at_, .int .i64 t.s, .int .i64 t.m, .int .i64 t.o, .int .i64 t.h, .slice t.a t.n t.c] 111)).grown hgrow9 H.out.vm)
    have OW9 := Lib.hid hown9
    clear hown9 hgrow9 hat9 l9 d91 e91 hnew
    clear lX cX0 cX1 cX2 cX3 cX4 cX5
    clear lB cB0 fB0 cB1 fB1 cB2 fB2
    go_wp2
    refine bodyPost_end (v := .tuple #[]) (by simp [results, Try.results186, go_sem]) rfl ?_
    have hbF : Below base w (w9.setCell ⟨rb, 1, none⟩ (.slice (some ⟨g9, 0, none⟩) (M.length + 1) cap9)) := HB9.out.setCell hr1 _
    have hzF : w.heap.size ≤ (w9.setCell ⟨rb, 1, none⟩ (.slice (some ⟨g9, 0, none⟩) (M.length + 1) cap9)).heap.size := (by simpa using hz9)
    refine ⟨rfl, hbF, hzF, .slice (some ⟨g9, 0, none⟩) (M.length + 1) cap9, T9.out.set 1 (by simp) _, hr1, hm1, hne, fun e => hg9r (by simpa [Value.ownBlock] using e), fun e => hg9m (by simpa [Value.ownBlock] using e), ?_, ?_, by rw [List.length_append, List.length_append, HML.out]; rfl, fun u hu => ?_, fun i u hu => ?_⟩
    · rw [rowG_snoc, List.length_append]
      exact ownsRow_setCell_other OW9.out (fun e => hg9r (by simpa [Value.ownBlock] using e)) _
    · rw [List.length_append]
      exact M9.out.set hne _
    · rcases List.mem_append.mp hu with hu | hu
      · exact ⟨src_far (H.out.src u hu).1 (H.out.src u hu).2 hbF hzF, (H.out.src u hu).2⟩
      · simp only [List.mem_singleton] at hu
        subst hu
        exact ⟨src_far HSR.out HFAR.out hbF hzF, HFAR.out⟩
    · rcases Nat.lt_or_ge i M.length with hi | hi
      · rw [List.getElem?_append_left hi] at hu
        obtain ⟨z, h1, h2⟩ := H.out.same i u hu
        exact ⟨z, by rw [lf_left (by rw [← HML.out]; exact hi)]; exact h1, h2⟩
      · have hi' : i = M.length := (by have := (List.getElem?_eq_some_iff.mp hu).1; simp at this; omega)
        subst hi'
        rw [List.getElem?_append_right (Nat.le_refl _), Nat.sub_self] at hu
        have hu' : t = u := (by simpa using hu)
        subst hu'
        exact ⟨x, by rw [HML.out, lf_last]; exact HX.out, HSM.out⟩)

theorem add_any (base rb mb : Nat) (v : Value) (M : List GM) (f : Nat → Int) (L : List Ob) (O : List Int) (t : GM) (x : Ob) (w : World) (h : RS w base rb mb v M f L O) (hp : -1000000000 ≤ t.at_ ∧ t.at_ ≤ 1000000000) (hz : base ≤ w.heap.size) (hx : findO L t.at_ = some x) (hsm : GSame t (obG f x)) (hsr : Src w t.a t.n t.f) (hfar : t.n = 0 ∨ t.g + 1 < base) (hl : O.length ≤ 400) :
    Calls Try.prog 186 #[.pointer (some ⟨rb, 0, none⟩), .agg #[.int .i64 t.at_, .int .i64 t.s, .int .i64 t.m, .int .i64 t.o, .int .i64 t.h, .slice t.a t.n t.c]] w fun e w' => e = .returned (.tuple #[]) ∧ Below base w w' ∧ w.heap.size ≤ w'.heap.size ∧ ∃ v' M', RS w' base rb mb v' M' f L (add1 O t.at_) := by
  by_cases hin : t.at_ ∈ O
  · refine (add_old base rb mb v M f L O t w h hp hin hz).mono ?_
    rintro e w' ⟨h1, h2, h3, h4⟩
    exact ⟨h1, h2, h3, v, M, by rw [add1, if_pos hin]; exact h4⟩
  · refine (add_new base rb mb v M f L O t x w h hp hin hz hx hsm hsr hfar hl).mono ?_
    rintro e w' ⟨h1, h2, h3, v', h4⟩
    exact ⟨h1, h2, h3, v', _, by rw [add1, if_neg hin]; exact h4⟩
end Go.Proofs.Ytbhjmomphajnnaa

namespace Go.Proofs.Ytbhjmomphajnnaa
open Go.RowKit Go.Maps
set_option linter.unusedVariables false

theorem fld_obj7 (v0 v1 v2 v3 v4 v5 v6 : Value) (w : World) : (Instr.field 233 (.agg #[v0, v1, v2, v3, v4, v5, v6]) 1).run Try.prog w = .ok (.agg #[v1, v2, v3, v4, v5, v6]) w := by kernel_rfl

/-- What is known of the objects of an arena without a fault, as the program reads them. -/
structure Shaped (w : World) (a : Option Addr) (T : Nat → GM) (f : Nat → Int) (L : List Ob) : Prop where
  gv : GV w a L.length T
  same : ∀ i, i < L.length → GSame (T i) (obT f L i)
  sort : ∀ i j, i < j → j < L.length → (T i).at_ < (T j).at_
  right : Right f L
  len : L.length ≤ 400
  place : ∀ x ∈ L, 0 ≤ x.at_ ∧ x.at_ ≤ 1000000
  word : ∀ x ∈ L, ∀ k, k < x.s.toNat → -1000000000 ≤ f (x.at_.toNat + 2 + k) ∧ f (x.at_.toNat + 2 + k) ≤ 1000000000

section

variable {w w' : World} {a : Option Addr} {T : Nat → GM} {f : Nat → Int} {L : List Ob}

theorem Shaped.below (h : Shaped w a T f L) (hb : Below w.heap.size w w') : Shaped w' a T f L := ⟨h.gv.below hb, h.same, h.sort, h.right, h.len, h.place, h.word⟩

theorem Shaped.src (h : Shaped w a T f L) {i : Nat} (hi : i < L.length) : Src w (T i).a (T i).n (T i).f := by
  rcases h.gv with h0 | ⟨b, q, _, g⟩
  · omega
  · exact g.flds i hi

theorem gm_lt {t : GM} (h : Src w t.a t.n t.f) : t.n = 0 ∨ t.g < w.heap.size := by
  rcases h with h0 | ⟨b, o, e, hb, _⟩
  · exact .inl h0
  · exact .inr (by simpa [GM.g, e] using hb)

theorem Shaped.obj (h : Shaped w a T f L) {i : Nat} (hi : i < L.length) : findO L (T i).at_ = some L[i] ∧ GSame (T i) (obG f L[i]) ∧ (0 ≤ (T i).at_ ∧ (T i).at_ ≤ 1000000) := by
  have hs := h.same i hi
  rw [obT_get f hi] at hs
  have e : (T i).at_ = L[i].at_ := hs.1
  exact ⟨by rw [e]; exact h.right.apart _ (List.getElem_mem hi), hs, by rw [e]; exact h.place _ (List.getElem_mem hi)⟩

theorem Shaped.nope (h : Shaped w a T f L) {p : Int} (hn : ∀ i, i < L.length → ¬ (T i).at_ = p) : p ∉ placesO L := fun hp => by
  obtain ⟨x, hx, rfl⟩ := List.mem_map.mp hp
  obtain ⟨i, hi, rfl⟩ := List.getElem_of_mem hx
  have hs := h.same i hi
  rw [obT_get f hi] at hs
  exact hn i hi hs.1

theorem Shaped.yes (h : Shaped w a T f L) {i : Nat} (hi : i < L.length) : (T i).at_ ∈ placesO L := mem_placesO.2 ⟨_, (h.obj hi).1⟩

end

/-- The program's scan: at a field of an object, or at the end. -/
def ST (f : Nat → Int) (L : List Ob) (roots : List Int) (n i : Nat) (O : List Int) : Prop := (n = O.length ∧ i = 0 ∧ SC f L roots n O) ∨ ∃ x, i ≤ x.s.toNat ∧ SI f L roots n i x O

theorem st_of_sc {f : Nat → Int} {L : List Ob} {roots O : List Int} {n : Nat} (h : SC f L roots n O) : ST f L roots n 0 O := by
  rcases Nat.lt_or_ge n O.length with h1 | h1
  · obtain ⟨x, _, hx⟩ := sc_in h h1
    exact .inr ⟨x, Nat.zero_le _, hx⟩
  · have := h.le
    exact .inl ⟨by omega, rfl, h⟩

theorem ST.len {f : Nat → Int} {L : List Ob} {roots O : List Int} {n i : Nat} (h : ST f L roots n i O) : O.length ≤ L.length := by
  rcases h with ⟨_, _, h⟩ | ⟨_, _, h⟩
  · exact h.len
  · exact h.len

theorem tgt_eq {t : GM} {f : Nat → Int} {x : Ob} (h : GSame t (obG f x)) {k : Nat} (hk : k < x.s.toNat) : tgtV t k = if x.m / P2 (k : Int) % 2 = 1 ∧ ¬ f (x.at_.toNat + 2 + k) = 0 then some (f (x.at_.toNat + 2 + k) - 1) else none := by
  obtain ⟨h1, h2, h3, h4, h5, h6, h7⟩ := h
  have e := h7 k (by rw [h6]; exact hk)
  have e' : t.f k = f (x.at_.toNat + 2 + k) := e
  have e3 : t.m = x.m := h3
  unfold tgtV
  rw [e', e3]

def RetReach (W : World) (f : Nat → Int) (L : List Ob) (roots : List Int) (e : Ending) (w' : World) : Prop :=
  Below W.heap.size W w' ∧ (((∃ p ∈ roots, p ∉ placesO L) ∧ e = .returned (.agg #[.int .i64 4, .slice none 0 0, .map none])) ∨
    ((∀ p ∈ roots, p ∈ placesO L) ∧ ∃ a c mb T, e = .returned (.agg #[.int .i64 0, .slice a (reachO f L roots).length c, .map (some mb)]) ∧ GV w' a (reachO f L roots).length T ∧ MapT w' mb (reachO f L roots).length (reachO f L roots) (fun i => (i : Int)) ∧ ∀ i, i < (reachO f L roots).length → ∃ x, findO L (lf (reachO f L roots) i) = some x ∧ GSame (T i) (obG f x)))

theorem ret_of_rs {W w : World} {base rb mb : Nat} {av : Option Addr} {kv : Nat} {M : List GM} {f : Nat → Int} {L : List Ob} {O roots : List Int} (hall : ∀ p ∈ roots, p ∈ placesO L) (he : reachO f L roots = O) (h : RS w base rb mb (.slice av M.length kv) M f L O) (hb : Below W.heap.size W w) : RetReach W f L roots (.returned (.agg #[.int .i64 0, .slice av M.length kv, .map (some mb)])) w := by
  obtain ⟨a, c, e, hg⟩ := h.out
  simp only [Value.slice.injEq] at e
  obtain ⟨rfl, -, rfl⟩ := e
  have hl := h.len
  rw [hl] at hg
  refine ⟨hb, .inr ⟨hall, av, kv, mb, gT M, by rw [he, hl], by rw [he]; exact hg, by rw [he]; exact h.map, fun i hi => ?_⟩⟩
  rw [he] at hi ⊢
  have hi' : i < M.length := by omega
  rw [gT_at (List.getElem?_eq_getElem hi')]
  exact h.same i _ (List.getElem?_eq_getElem hi')

set_option maxRecDepth 100000 in
set_option maxHeartbeats 1600000 in
theorem reachOf_any (a : Option Addr) (kc : Nat) (T : Nat → GM) (f : Nat → Int) (L : List Ob) (ra : Option Addr) (roots : List Int) (rc : Nat) (w : World) (hsh : Shaped w a T f L) (hrs : Src w ra roots.length (lf roots)) (hrn : roots.length ≤ 60) :
    Calls Try.prog 131 #[.slice a L.length kc, .slice ra roots.length rc] w (RetReach w f L roots) := by
  have HSH := Lib.hid hsh; have HRS := Lib.hid hrs
  have hL4 := hsh.len
  have hmk := @run_makeMap Try.prog
  clear hsh hrs
  go_enter Try.func131, Try.ntmps131
  go_wp2_with fail
  go_step3
  have HW0 := Lib.hid ((Below.refl w.heap.size w).alloc (Nat.le_refl _) (.cells #[.int .i64 0, .slice none 0 0, .map none] 101))
  have R0 := Lib.hid (Blk.new_at (w := w) (cs := #[.int .i64 0, .slice none 0 0, .map none]) (t := 101) w.heap.size rfl)
  have z0 : (w.alloc (.cells #[.int .i64 0, .slice none 0 0, .map none] 101)).heap.size = w.heap.size + 1 := by simp
  have HM1 := Lib.hid ((MapT.made (w.alloc (.cells #[.int .i64 0, .slice none 0 0, .map none] 101)) (fun i => (i : Int))).alloc (.cells #[.int .i64 0, .slice none 0 0, .map (some (w.heap.size + 1))] 101))
  have B1 := Lib.hid (Blk.new_at (w := (w.alloc (.cells #[.int .i64 0, .slice none 0 0, .map none] 101)).alloc (.map #[] 0)) (cs := #[.int .i64 0, .slice none 0 0, .map (some (w.heap.size + 1))]) (t := 101) (w.heap.size + 1 + 1) (by simp))
  go_wp2_with fail
  generalize w.alloc (.cells #[.int .i64 0, .slice none 0 0, .map none] 101) = W0 at *
  rw [z0] at HM1
  have RS0 : Hid (RS ((W0.alloc (.map #[] 0)).alloc (.cells #[.int .i64 0, .slice none 0 0, .map (some (w.heap.size + 1))] 101)) (w.heap.size + 1) (w.heap.size + 1 + 1) (w.heap.size + 1) (.slice none 0 0) [] f L []) := Lib.hid
    ⟨B1.out, by omega, Nat.le_refl _, by omega, by simp [Value.ownBlock], by simp [Value.ownBlock], World.ownsRow_nil _ _ _ _, HM1.out, rfl, fun t ht => (by cases ht), fun i t ht => (by simp at ht)⟩
  have HB0 : Hid (Below (w.heap.size + 1) W0 ((W0.alloc (.map #[] 0)).alloc (.cells #[.int .i64 0, .slice none 0 0, .map (some (w.heap.size + 1))] 101))) := Lib.hid (((Below.refl _ _).alloc (by omega) _).alloc (by simp; omega) _)
  have zz : w.heap.size + 3 ≤ ((W0.alloc (.map #[] 0)).alloc (.cells #[.int .i64 0, .slice none 0 0, .map (some (w.heap.size + 1))] 101)).heap.size := by simp; omega
  generalize (W0.alloc (.map #[] 0)).alloc (.cells #[.int .i64 0, .slice none 0 0, .map (some (w.heap.size + 1))] 101) = W3 at *
  clear HM1 B1
  generalize hrb : w.heap.size + 1 + 1 = rb at *
  generalize hmb : w.heap.size + 1 = mb at *
  have HBW : Hid (∀ wr, Below mb W0 wr → Below w.heap.size w wr) := Lib.hid (fun wr hb => HW0.out.trans (hb.mono (by omega)))
  go_loopw [17] (fun p wr => ∃ (i : Nat) (v : Value) (M : List GM), i ≤ roots.length ∧ p = .int .i64 (i : Int) ∧ Hid (Below mb W0 wr) ∧ Hid (RS wr mb rb mb v M f L (addNew [] (roots.take i))) ∧ Hid (∀ j, j < i → lf roots j ∈ placesO L)) (fun p _ => roots.length - (intOf p).toNat)
  case atStart => exact ⟨0, _, [], by omega, rfl, HB0, RS0, Lib.hid (fun j hj => by omega)⟩
  case round =>
    clear HB0 RS0 zz
    obtain ⟨i, v, M, hi, rfl, HB_r, RS_r, HD⟩ := hrel
    have hzr : mb ≤ wr.heap.size := by have := RS_r.out.map.lt; omega
    by_cases hlt : i < roots.length
    · have hlt' : (i : Int) < (roots.length : Int) := by omega
      have hi0 : (0 : Int) ≤ (i : Int) := by omega
      obtain ⟨xb, xo, rfl, hxb, hxc⟩ := src_some (HRS.out.below (HBW.out _ HB_r.out)) (by omega)
      have c0 := hxc i hlt
      obtain ⟨y, hy⟩ : ∃ y, lf roots i = y := ⟨_, rfl⟩
      have HY := Lib.hid hy
      have HME := Lib.hid (lf_mem hlt)
      have HSN := Lib.hid (roots_snoc hlt [])
      rw [hy] at c0 HME HSN
      clear hxc hy
      go_wp2_with fail
      refine (find_any a L.length kc T y _ (HSH.out.below (HBW.out _ HB_r.out)).gv (by omega) HSH.out.sort).mono ?_
      rintro e w1 ⟨hb, hr⟩
      have HB1 := Lib.hid (HB_r.out.trans (hb.mono hzr))
      have RS1 := Lib.hid (RS_r.out.below hb)
      have z1 := hb.size
      clear hb
      rcases hr with ⟨j, hj, hat, rfl⟩ | ⟨hn, rfl⟩
      · obtain ⟨ho1, ho2, ho3⟩ := HSH.out.obj hj
        have HO := Lib.hid (And.intro ho1 (And.intro ho2 (And.intro ho3 (And.intro (HSH.out.src hj) (HSH.out.yes hj)))))
        have HL6 := Lib.hid (addNew_len (roots.take i) [])
        have HAT := Lib.hid hat
        clear ho1 ho2 ho3 hat
        generalize T j = t at *
        go_wp2_with fail
        have RS2 := Lib.hid (RS1.out.below ((Below.refl _ _).alloc (Nat.le_refl _) (.cells #[.int .i64 0, .int .i64 t.at_, .int .i64 t.s, .int .i64 t.m, .int .i64 t.o, .int .i64 t.h, .slice t.a t.n t.c] 233)))
        have HB2 := Lib.hid (HB1.out.alloc (by omega) (.cells #[.int .i64 0, .int .i64 t.at_, .int .i64 t.s, .int .i64 t.m, .int .i64 t.o, .int .i64 t.h, .slice t.a t.n t.c] 233))
        have z2 : w1.heap.size + 1 = (w1.alloc (.cells #[.int .i64 0, .int .i64 t.at_, .int .i64 t.s, .int .i64 t.m, .int .i64 t.o, .int .i64 t.h, .slice t.a t.n t.c] 233)).heap.size := by simp
        clear RS1 HB1
        generalize w1.alloc (.cells #[.int .i64 0, .int .i64 t.at_, .int .i64 t.s, .int .i64 t.m, .int .i64 t.o, .int .i64 t.h, .slice t.a t.n t.c] 233) = w2 at *
        have hs2 := HO.out.2.2.2.1
        refine (add_any mb rb mb v M f L _ t L[j] _ RS2.out (by have := HO.out.2.2.1; omega) (by omega) HO.out.1 HO.out.2.1 (HO.out.2.2.2.1.below (HBW.out _ HB2.out)) (by rcases gm_lt hs2 with h0 | h0; exact .inl h0; exact .inr (by omega)) (by have := HL6.out; simp at this; omega)).mono ?_
        rintro e w3 ⟨rfl, hb, hz, v', M', hrs⟩
        have HB3 := Lib.hid (HB2.out.trans hb)
        have RS3 : Hid (RS w3 mb rb mb v' M' f L (addNew [] (roots.take (i + 1)))) := Lib.hid (by rw [HSN.out, ← HAT.out]; exact hrs)
        have HP := Lib.hid (show y ∈ placesO L by rw [← HAT.out]; exact HO.out.2.2.2.2)
        clear hb hrs hs2 HB2 RS2 HO
        go_wp2
        go_roundw
        case rel => first | exact ⟨i + 1, v', M', by omega, by go_num, HB3, RS3, Lib.hid (fun j hj => by rcases Nat.lt_succ_iff_lt_or_eq.mp hj with h1 | h1; exact HD.out j h1; subst h1; rw [HY.out]; exact HP.out)⟩ | ((repeat apply Exists.intro); exact ⟨⟨i + 1, v', M', by omega, by go_num, HB3, RS3, Lib.hid (fun j hj => by rcases Nat.lt_succ_iff_lt_or_eq.mp hj with h1 | h1; exact HD.out j h1; subst h1; rw [HY.out]; exact HP.out)⟩, rfl⟩)
        case measure => simp [intOf]; omega
      · have hnp := HSH.out.nope hn
        have HNP := Lib.hid hnp
        have R_1 := Lib.hid (blk_under R0.out HB1.out (by omega))
        clear hn hnp
        have lR := R_1.out.1; have cR0 := R_1.out.at 0 rfl; have fR0 := R_1.out.free 0 rfl; have cR1 := R_1.out.at 1 rfl; have fR1 := R_1.out.free 1 rfl; have cR2 := R_1.out.at 2 rfl; have fR2 := R_1.out.free 2 rfl
        go_wp2
        refine bodyPost_ret (v := .agg #[.int .i64 4, .slice none 0 0, .map none]) (by simp [results, Try.results131, go_sem, cR0, cR1, cR2, lR]) rfl ⟨?_, .inl ⟨⟨y, HME.out, HNP.out⟩, rfl⟩⟩
        repeat (first | (with_reducible refine Below.setCell ?_ (by (try simp); (try omega)) _) | (with_reducible refine Below.alloc ?_ (by (try simp); (try omega)) _) | (with_reducible refine Below.drew ?_))
        exact HBW.out _ HB1.out
    · have hlt' : ¬ (i : Int) < (roots.length : Int) := by omega
      obtain rfl : i = roots.length := by omega
      have HALL : Hid (∀ p ∈ roots, p ∈ placesO L) := Lib.hid (fun p hp => by
        obtain ⟨j, hj, rfl⟩ := List.getElem_of_mem hp
        rw [← lf_at hj]; exact HD.out j hj)
      have HSC : Hid (SC f L roots 0 (addNew [] roots)) := Lib.hid (sc_start HALL.out)
      have RS4 : Hid (RS wr mb rb mb v M f L (addNew [] roots)) := Lib.hid (by have := RS_r.out; rw [List.take_length] at this; exact this)
      clear HD RS_r
      have st0 := st_of_sc HSC.out
      have ST0 := Lib.hid st0
      clear hlt hlt' HSC HRS st0 hrn hi
      go_wp2
      go_step3
      go_wp2_with fail
      go_loopw [9, 10] (fun p q wr => ∃ (n i : Nat) (v : Value) (M : List GM) (O : List Int), p = .int .i64 (n : Int) ∧ q = .int .i64 (i : Int) ∧ n ≤ L.length ∧ i ≤ 12 ∧ Hid (Below mb W0 wr) ∧ Hid (RS wr mb rb mb v M f L O) ∧ Hid (ST f L roots n i O)) (fun p q _ => (L.length - (intOf p).toNat) * 14 + (13 - (intOf q).toNat))
      case atStart => exact ⟨0, 0, v, M, _, rfl, rfl, by omega, by omega, HB_r, RS4, ST0⟩
      case round =>
        clear HB_r RS4 ST0 hzr
        obtain ⟨n, i, v, M, O, rfl, rfl, hnl, hi12, HB_r, RS_r, STT⟩ := hrel
        have hzr : mb ≤ wr.heap.size := by have := RS_r.out.map.lt; omega
        have hml := Lib.hid RS_r.out.len
        have hol := ST.len STT.out
        have hB := RS_r.out.blk
        obtain ⟨av, kv, hv⟩ := rowG_val RS_r.out.row
        subst hv
        have lB := hB.1; have cB0 := hB.at 0 rfl; have cB1 := hB.at 1 rfl; have cB2 := hB.at 2 rfl
        clear hB
        rcases STT.out with ⟨hn, hi0, hsc⟩ | ⟨x, hix, hsi⟩
        · have hnm : n = M.length := by rw [hml.out]; exact hn
          subst hi0
          have HSC := Lib.hid hsc
          have R_r := Lib.hid (blk_under R0.out HB_r.out (by omega))
          have HE : Hid (reachO f L roots = O) := Lib.hid (sc_end hsc (by omega))
          obtain ⟨a', c', he, hg⟩ := rowG_GV RS_r.out.row (fun t ht => (RS_r.out.src t ht).1)
          have HGV := Lib.hid hg; have HEE := Lib.hid he
          clear hsc hg he hn
          subst hnm
          have lR := R_r.out.1; have cR0 := R_r.out.at 0 rfl; have fR0 := R_r.out.free 0 rfl; have cR1 := R_r.out.at 1 rfl; have fR1 := R_r.out.free 1 rfl; have cR2 := R_r.out.at 2 rfl; have fR2 := R_r.out.free 2 rfl
          go_wp2
          rw [Exit.noGoto_ret]
          refine bodyPost_ret (v := .agg #[.int .i64 0, .slice av M.length kv, .map (some mb)]) (by simp [results, Try.results131, go_sem, cR0, cR1, cR2]) rfl ?_
          have hRF := ((RS_r.out.set (p := ⟨w.heap.size, 0, none⟩) hmb (.int .i64 0)).set (p := ⟨w.heap.size, 1, none⟩) hmb (.slice av M.length kv)).set (p := ⟨w.heap.size, 2, none⟩) hmb (.map (some mb))
          have hBF : Below w.heap.size w (((wr.setCell ⟨w.heap.size, 0, none⟩ (.int .i64 0)).setCell ⟨w.heap.size, 1, none⟩ (.slice av M.length kv)).setCell ⟨w.heap.size, 2, none⟩ (.map (some mb))) := (((HBW.out _ HB_r.out).setCell (Nat.le_refl _) _).setCell (Nat.le_refl _) _).setCell (Nat.le_refl _) _
          exact ret_of_rs HALL.out HE.out hRF hBF
        · have hnO : n < O.length := hsi.lt
          have hnM : n < M.length := by rw [hml.out]; exact hnO
          have hnm : ¬ n = M.length := by omega
          have hnm' : ((n : Int) == (M.length : Int)) = false := by simp; omega
          have hn0 : (0 : Int) ≤ (n : Int) := by omega
          have hnI : (n : Int) < (M.length : Int) := by omega
          obtain ⟨a', c', he, hg⟩ := RS_r.out.out
          simp only [Value.slice.injEq] at he
          obtain ⟨rfl, -, rfl⟩ := he
          obtain ⟨gb, gq, rfl, gs⟩ : ∃ b q, av = some ⟨b, q, none⟩ ∧ GSrc wr b q M.length (gT M) := by
            rcases hg with h0 | h
            · omega
            · exact h
          have hMn : M[n]? = some M[n] := List.getElem?_eq_getElem hnM
          obtain ⟨x', hx', hsame⟩ := RS_r.out.same n M[n] hMn
          rw [hsi.at_] at hx'
          obtain rfl := Option.some.inj hx'
          have hsx := gs.six n hnM
          have hfx := gs.flds n hnM
          rw [gT_at hMn] at hsx hfx
          have hxL : x ∈ L := List.mem_of_find?_eq_some hsi.at_
          have hok := HSH.out.right.ok x hxL
          have hwd := HSH.out.word x hxL
          generalize M[n] = t at *
          obtain ⟨s0, s1, s2, s3, s4, s5⟩ := hsx
          have htn : t.n = x.s.toNat := hsame.2.2.2.2.2.1
          have htx : t.s = x.s ∧ t.m = x.m ∧ t.o = x.o ∧ t.h = x.h := ⟨hsame.2.1, hsame.2.2.1, hsame.2.2.2.1, hsame.2.2.2.2.1⟩
          have HSM := Lib.hid hsame; have HFX := Lib.hid hfx; have HOK := Lib.hid hok; have HWD := Lib.hid hwd; have HSI := Lib.hid hsi; have HTX := Lib.hid htx
          have hs12 : x.s.toNat ≤ 12 := by have := hok.1.1; omega
          have HTN := Lib.hid htn
          clear hsame hfx hok hwd hsi htx gs hg hMn hxL htn hml
          by_cases hie : i = t.n
          · have hie' : ((i : Int) == (t.n : Int)) = true := by simp; omega
            have STN := Lib.hid (st_of_sc (si_end HSI.out (by rw [← HTN.out, hie]; exact Nat.le_refl _)))
            go_wp2
            go_roundw
            case rel => first | exact ⟨n + 1, 0, _, M, O, by go_num, rfl, by omega, by omega, HB_r, RS_r, STN⟩ | ((repeat apply Exists.intro); exact ⟨⟨n + 1, 0, _, M, O, by go_num, rfl, by omega, by omega, HB_r, RS_r, STN⟩, rfl⟩)
            case measure => simp [intOf]; omega
          · have hie' : ((i : Int) == (t.n : Int)) = false := by simp; omega
            have hit : i < t.n := by have := HTN.out; omega
            have hkx : i < x.s.toNat := by have := HTN.out; omega
            have HTG := Lib.hid (tgt_eq HSM.out hkx)
            go_wp2_with fail
            clear s0 s1 s2 s3 s4 s5
            refine (target_any t i _ HFX.out hit (by rw [HTX.out.1, HTX.out.2.1, HTX.out.2.2.1, HTX.out.2.2.2]; exact HOK.out.1) (by rw [HTX.out.1]; exact HTN.out) (by rw [show t.f i = f (x.at_.toNat + 2 + i) from HSM.out.2.2.2.2.2.2 i hit]; exact HWD.out i hkx)).mono ?_
            rintro e w1 ⟨hb, rfl⟩
            have HB1 := Lib.hid (HB_r.out.trans (hb.mono hzr))
            have RS1 := Lib.hid (RS_r.out.below hb)
            have z1 := hb.size
            clear hb
            rw [HTG.out]
            by_cases hd : x.m / P2 (i : Int) % 2 = 1 ∧ ¬ f (x.at_.toNat + 2 + i) = 0
            · rw [if_pos hd]
              have hsy := si_yes HSH.out.right.points HSH.out.right.size HSI.out hkx hd.1 hd.2
              have hin := si_in HSH.out.right.points HSH.out.right.size HSI.out hkx hd.1 hd.2
              obtain ⟨y, hy⟩ : ∃ y, f (x.at_.toNat + 2 + i) - 1 = y := ⟨_, rfl⟩
              rw [hy] at hsy hin ⊢
              have HSY := Lib.hid hsy; have HIN := Lib.hid hin
              clear hsy hin hd hy
              simp only [Option.getD_some, Option.isSome_some]
              go_wp2_with fail
              refine (find_any _ L.length kc T y _ (HSH.out.below (HBW.out _ HB1.out)).gv (by omega) HSH.out.sort).mono ?_
              rintro e w2 ⟨hb, hr⟩
              have HB2 := Lib.hid (HB1.out.trans (hb.mono (by omega)))
              have RS2 := Lib.hid (RS1.out.below hb)
              have z2 := hb.size
              clear hb
              rcases hr with ⟨j, hj, hat, rfl⟩ | ⟨hn, rfl⟩
              case inr => exact absurd HIN.out (HSH.out.nope hn)
              obtain ⟨ho1, ho2, ho3⟩ := HSH.out.obj hj
              have HO := Lib.hid (And.intro ho1 (And.intro ho2 (And.intro ho3 (HSH.out.src hj))))
              have HAT := Lib.hid hat
              clear ho1 ho2 ho3 hat
              have hf7 := fld_obj7
              generalize T j = u at *
              go_wp2_with fail
              have hs2 := HO.out.2.2.2
              refine (add_any mb rb mb _ M f L O u L[j] _ RS2.out (by have := HO.out.2.2.1; omega) (by omega) HO.out.1 HO.out.2.1 (HO.out.2.2.2.below (HBW.out _ HB2.out)) (by rcases gm_lt hs2 with h0 | h0; exact .inl h0; exact .inr (by omega)) (by omega)).mono ?_
              rintro e w3 ⟨rfl, hb, hz, v', M', hrs⟩
              have HB3 := Lib.hid (HB2.out.trans hb)
              have RS3 : Hid (RS w3 mb rb mb v' M' f L (add1 O y)) := Lib.hid (by rw [← HAT.out]; exact hrs)
              have STN : Hid (ST f L roots n (i + 1) (add1 O y)) := Lib.hid (.inr ⟨x, by omega, HSY.out⟩)
              clear hb hrs hs2 HB2 RS2 HO hf7
              go_wp2
              go_roundw
              case rel => first | exact ⟨n, i + 1, v', M', _, rfl, by go_num, by omega, by omega, HB3, RS3, STN⟩ | ((repeat apply Exists.intro); exact ⟨⟨n, i + 1, v', M', _, rfl, by go_num, by omega, by omega, HB3, RS3, STN⟩, rfl⟩)
              case measure => simp [intOf]; omega
            · rw [if_neg hd]
              have STN : Hid (ST f L roots n (i + 1) O) := Lib.hid (.inr ⟨x, by omega, si_no HSI.out hkx hd⟩)
              simp only [Option.getD_none, Option.isSome_none]
              clear hd
              go_wp2
              go_roundw
              case rel => first | exact ⟨n, i + 1, _, M, O, rfl, by go_num, by omega, by omega, HB1, RS1, STN⟩ | ((repeat apply Exists.intro); exact ⟨⟨n, i + 1, _, M, O, rfl, by go_num, by omega, by omega, HB1, RS1, STN⟩, rfl⟩)
              case measure => simp [intOf]; omega
end Go.Proofs.Ytbhjmomphajnnaa

namespace Go.Proofs.Ytbhjmomphajnnaa
open Go.RowKit Go.Maps
set_option linter.unusedVariables false

theorem shaped_of {h : Int} {n : Nat} {f : Nat → Int} {ac bu : Int} {L : List Ob} {w : World} {a : Option Addr} {T : Nat → GM} (hk : IsSF h n f ac bu 0) (ho : IsOI h n f ac bu 0 L) (hg : GV w a L.length T) (hT : ∀ i, i < L.length → GSame (T i) (obT f L i)) : Shaped w a T f L := by
  obtain ⟨h4, h5⟩ := isOI_zero ho
  obtain ⟨⟨⟨g1, g2⟩, ⟨g3, g4⟩, g5, g6⟩, gn, gw⟩ := isFault_ok h4
  have hb := baseI_bd (ac := ac) g1
  have hPU : (baseI ac h).toNat + bu.toNat ≤ n := by
    have hb0 : 0 ≤ baseI ac h ∧ baseI ac h ≤ h ∧ baseI ac h + h ≤ 2 * h := by rcases (by omega : ac = 0 ∨ ac = 1) with rfl | rfl <;> simp [baseI] <;> omega
    omega
  have hok := parse_ok h5 hPU gw
  have hln := parse_length _ _ L (Nat.le_refl _) h5
  refine ⟨hg, hT, fun i j hij hj => sorted_T h5 hT i j hij hj, right_of hk ho, by omega, fun x hx => ?_, fun x hx => (hok x hx).2.2.2.2⟩
  have := (hok x hx).2.2.2.1
  omega

/-- A block that holds no more than a code, an empty row and no map. -/
def Dead (w : World) (R : Nat) : Prop := ∃ t fr, w.heap[R]? = some (.cells #[.int .i64 0, .slice none 0 0, .map none] t fr)

theorem dead_new {w : World} {t : TypeId} (R : Nat) (hR : R = w.heap.size) : Dead (w.alloc (.cells #[.int .i64 0, .slice none 0 0, .map none] t)) R := by
  subst hR
  exact ⟨t, _, (heap_alloc_new w _)⟩

theorem Dead.below {w w' : World} {R : Nat} (h : Dead w R) (hb : Below w.heap.size w w') : Dead w' R := by
  obtain ⟨t, fr, h1⟩ := h
  exact ⟨t, fr, (hb.block R (Array.getElem?_eq_some_iff.1 h1).1).trans h1⟩

def lain (w : World) (R : Nat) (x y : Value) : World := ((w.setCell ⟨R, 0, none⟩ (.int .i64 0)).setCell ⟨R, 1, none⟩ x).setCell ⟨R, 2, none⟩ y

theorem lain_block {w : World} {R b : Nat} {x y : Value} (h : b ≠ R) : (lain w R x y).heap[b]? = w.heap[b]? :=
  (Below.heap_setCell _ _ _ b h).trans ((Below.heap_setCell _ _ _ b h).trans (Below.heap_setCell _ _ _ b h))

theorem dead_cell {w : World} {R : Nat} (h : Dead w R) (o : Nat) : w.cell? ⟨R, o, none⟩ = (#[.int .i64 0, .slice none 0 0, .map none] : Array Value)[o]? := by
  obtain ⟨t, fr, h1⟩ := h
  exact cell_of_row w R o _ t fr h1

theorem dead_int {w : World} {R b o : Nat} {v : Int} (h : Dead w R) (hc : w.cell? ⟨b, o, none⟩ = some (.int .i64 v)) (x y : Value) : (lain w R x y).cell? ⟨b, o, none⟩ = some (.int .i64 v) := by
  by_cases e : b = R
  · subst e
    have h0 := dead_cell h o
    rw [hc] at h0
    match o, h0 with
    | 0, h0 =>
      have h9 : v = 0 := by simpa using h0
      subst h9
      have hc' : (w.setCell ⟨b, 0, none⟩ (.int .i64 0)).cell? ⟨b, 0, none⟩ = some (.int .i64 0) := by rw [World.cell?_setCell_same' _ _ _ (by rw [hc]; rfl)]
      unfold lain
      rw [World.cell?_setCell_other _ _ _ _ (by simp), World.cell?_setCell_other _ _ _ _ (by simp)]
      exact hc'
    | 1, h0 => simp at h0
    | 2, h0 => simp at h0
    | o + 3, h0 => simp at h0
  · exact (World.cell?_of_block (w := w) (a := ⟨b, o, none⟩) (lain_block e)).trans hc

theorem dead_src {w : World} {R : Nat} {a : Option Addr} {n : Nat} {f : Nat → Int} (h : Dead w R) (hs : Src w a n f) (x y : Value) : Src (lain w R x y) a n f := by
  rcases hs with h0 | ⟨b, o, e, hb, hc⟩
  · exact .inl h0
  · exact .inr ⟨b, o, e, by simpa [lain] using hb, fun i hi => dead_int h (hc i hi) x y⟩

theorem dead_gv {w : World} {R : Nat} {a : Option Addr} {N : Nat} {T : Nat → GM} (h : Dead w R) (hg : GV w a N T) (x y : Value) : GV (lain w R x y) a N T := by
  rcases hg with h0 | ⟨b, q, e, g⟩
  · exact .inl h0
  · rcases Nat.eq_zero_or_pos N with h0 | hp
    · exact .inl h0
    have hne : b ≠ R := fun e => by
      subst e
      have h0 := (g.six 0 hp).1
      have h1 := (g.six 0 hp).2.1
      rw [dead_cell h] at h0 h1
      match q, h0, h1 with
      | 0, h0, h1 => simp at h1
      | 1, h0, h1 => simp at h0
      | 2, h0, h1 => simp at h0
      | q + 3, h0, h1 => simp at h0
    exact .inr ⟨b, q, e, by have := g.lt; simpa [lain] using this, fun i hi => (g.six i hi).block (lain_block hne), fun i hi => dead_src h (g.flds i hi) x y⟩

theorem dead_map {w : World} {R mb n : Nat} {O : List Int} {v : Nat → Int} (h : Dead w R) (hm : MapT w mb n O v) (x y : Value) : MapT (lain w R x y) mb n O v := by
  refine hm.block (lain_block fun e => ?_)
  subst e
  obtain ⟨t, fr, h1⟩ := h
  obtain ⟨D, ⟨es, clock, h2, _⟩, _⟩ := hm
  rw [h1] at h2; cases h2

def RetIn (W : World) (f : Nat → Int) (roots : List Int) (co : Int) (L : List Ob) (e : Ending) (w' : World) : Prop :=
  Below W.heap.size W w' ∧ ((¬ co = 0 ∧ e = .returned (.agg #[.int .i64 co, .slice none 0 0, .map none])) ∨
    (co = 0 ∧ ∃ a c mb T, e = .returned (.agg #[.int .i64 0, .slice a (reachO f L roots).length c, .map (some mb)]) ∧ GV w' a (reachO f L roots).length T ∧ MapT w' mb (reachO f L roots).length (reachO f L roots) (fun i => (i : Int)) ∧ ∀ i, i < (reachO f L roots).length → ∃ x, findO L (lf (reachO f L roots) i) = some x ∧ GSame (T i) (obG f x)))

set_option maxRecDepth 100000 in
set_option maxHeartbeats 1600000 in
theorem reachIn_code (h ac bu : Int) (a : Option Addr) (n c : Nat) (f : Nat → Int) (ra : Option Addr) (roots : List Int) (rc : Nat) (co : Int) (L : List Ob) (w : World) (hs : Src w a n f) (hcn : n ≤ c) (hcm : c ≤ maxLen) (hrs : Src w ra roots.length (lf roots)) (hk : IsSF h n f ac bu co) (h0 : ¬ co = 0) :
    Calls Try.prog 57 #[.agg #[.int .i64 h, .slice a n c, .int .i64 ac, .int .i64 bu], .slice ra roots.length rc] w (RetIn w f roots co L) := by
  have HS := Lib.hid hs; have HK := Lib.hid hk; have HCM := Lib.hid hcm; have HRS := Lib.hid hrs
  clear hs hk hcm hrs
  go_enter Try.func57, Try.ntmps57
  go_wp2_with fail
  refine (shaped_any h ac bu a n c f _ ((HS.out.alloc _).alloc _) hcn HCM.out co [] (.inl ⟨HK.out, h0, rfl⟩)).mono ?_
  rintro e w1 ⟨a1, c1, T, rfl, hg, hT, hb, hc1, hc2⟩
  have HB1 := Lib.hid (thru2 (Below.refl _ _) hb)
  have R_1 := Lib.hid ((Blk.new_at (w := w.alloc (.cells #[.int .i64 h, .slice a n c, .int .i64 ac, .int .i64 bu] 26)) (cs := #[.int .i64 0, .slice none 0 0, .map none]) (t := 101) (w.heap.size + 1) (by simp)).below hb)
  have z1 : w.heap.size + 2 ≤ w1.heap.size := by have := hb.size; simp at this; omega
  have HG := Lib.hid hg; have HT := Lib.hid hT
  have HBb := Lib.hid hb
  clear hb hg hT hc1 hc2
  have hz := HB1.out.size
  have hd : (co != 0) = true := by simpa using h0
  have H0 := Lib.hid h0
  clear h0
  have lR := R_1.out.1; have cR0 := R_1.out.at 0 rfl; have fR0 := R_1.out.free 0 rfl; have cR1 := R_1.out.at 1 rfl; have fR1 := R_1.out.free 1 rfl; have cR2 := R_1.out.at 2 rfl; have fR2 := R_1.out.free 2 rfl
  go_wp2
  refine bodyPost_ret (v := .agg #[.int .i64 co, .slice none 0 0, .map none]) (by simp [results, Try.results57, go_sem, cR0, cR1, cR2, lR]) rfl ⟨?_, .inl ⟨H0.out, rfl⟩⟩
  repeat (first | (with_reducible refine Below.setCell ?_ (by (try simp); (try omega)) _) | (with_reducible refine Below.alloc ?_ (by (try simp); (try omega)) _) | (with_reducible refine Below.drew ?_))
  exact HB1.out

set_option maxRecDepth 100000 in
set_option maxHeartbeats 1600000 in
theorem reachIn_many (h ac bu : Int) (a : Option Addr) (n c : Nat) (f : Nat → Int) (ra : Option Addr) (roots : List Int) (rc : Nat) (co : Int) (L : List Ob) (w : World) (hs : Src w a n f) (hcn : n ≤ c) (hcm : c ≤ maxLen) (hrs : Src w ra roots.length (lf roots)) (hk : IsSF h n f ac bu 0) (L0 : List Ob) (ho : IsOI h n f ac bu 0 L0) (h0 : 60 < roots.length) :
    Calls Try.prog 57 #[.agg #[.int .i64 h, .slice a n c, .int .i64 ac, .int .i64 bu], .slice ra roots.length rc] w (RetIn w f roots 2 L) := by
  have HS := Lib.hid hs; have HK := Lib.hid hk; have HCM := Lib.hid hcm; have HRS := Lib.hid hrs
  clear hs hk hcm hrs
  go_enter Try.func57, Try.ntmps57
  go_wp2_with fail
  refine (shaped_any h ac bu a n c f _ ((HS.out.alloc _).alloc _) hcn HCM.out 0 L0 (.inr ⟨rfl, HK.out, ho⟩)).mono ?_
  rintro e w1 ⟨a1, c1, T, rfl, hg, hT, hb, hc1, hc2⟩
  have HB1 := Lib.hid (thru2 (Below.refl _ _) hb)
  have R_1 := Lib.hid ((Blk.new_at (w := w.alloc (.cells #[.int .i64 h, .slice a n c, .int .i64 ac, .int .i64 bu] 26)) (cs := #[.int .i64 0, .slice none 0 0, .map none]) (t := 101) (w.heap.size + 1) (by simp)).below hb)
  have z1 : w.heap.size + 2 ≤ w1.heap.size := by have := hb.size; simp at this; omega
  have HG := Lib.hid hg; have HT := Lib.hid hT
  have HBb := Lib.hid hb
  clear hb hg hT hc1 hc2
  have hz := HB1.out.size
  have hd : (60 : Int) < (roots.length : Int) := by omega
  clear h0 ho
  have lR := R_1.out.1; have cR0 := R_1.out.at 0 rfl; have fR0 := R_1.out.free 0 rfl; have cR1 := R_1.out.at 1 rfl; have fR1 := R_1.out.free 1 rfl; have cR2 := R_1.out.at 2 rfl; have fR2 := R_1.out.free 2 rfl
  go_wp2
  refine bodyPost_ret (v := .agg #[.int .i64 2, .slice none 0 0, .map none]) (by simp [results, Try.results57, go_sem, cR0, cR1, cR2, lR]) rfl ⟨?_, .inl ⟨by decide, rfl⟩⟩
  repeat (first | (with_reducible refine Below.setCell ?_ (by (try simp); (try omega)) _) | (with_reducible refine Below.alloc ?_ (by (try simp); (try omega)) _) | (with_reducible refine Below.drew ?_))
  exact HB1.out

set_option maxRecDepth 100000 in
set_option maxHeartbeats 1600000 in
theorem reachIn_rest (h ac bu : Int) (a : Option Addr) (n c : Nat) (f : Nat → Int) (ra : Option Addr) (roots : List Int) (rc : Nat) (co : Int) (L : List Ob) (w : World) (hs : Src w a n f) (hcn : n ≤ c) (hcm : c ≤ maxLen) (hrs : Src w ra roots.length (lf roots)) (hk : IsSF h n f ac bu 0) (ho : IsOI h n f ac bu 0 L) (h60 : roots.length ≤ 60) (hco : ((∃ p ∈ roots, p ∉ placesO L) ∧ co = 4) ∨ ((∀ p ∈ roots, p ∈ placesO L) ∧ co = 0)) :
    Calls Try.prog 57 #[.agg #[.int .i64 h, .slice a n c, .int .i64 ac, .int .i64 bu], .slice ra roots.length rc] w (RetIn w f roots co L) := by
  have HS := Lib.hid hs; have HK := Lib.hid hk; have HCM := Lib.hid hcm; have HRS := Lib.hid hrs
  have HO := Lib.hid ho; have HCO := Lib.hid hco
  clear hs hk hcm hrs ho hco
  go_enter Try.func57, Try.ntmps57
  go_wp2_with fail
  refine (shaped_any h ac bu a n c f _ ((HS.out.alloc _).alloc _) hcn HCM.out 0 L (.inr ⟨rfl, HK.out, HO.out⟩)).mono ?_
  rintro e w1 ⟨a1, c1, T, rfl, hg, hT, hb, hc1, hc2⟩
  have HB1 := Lib.hid (thru2 (Below.refl _ _) hb)
  have R_1 := Lib.hid ((Blk.new_at (w := w.alloc (.cells #[.int .i64 h, .slice a n c, .int .i64 ac, .int .i64 bu] 26)) (cs := #[.int .i64 0, .slice none 0 0, .map none]) (t := 101) (w.heap.size + 1) (by simp)).below hb)
  have z1 : w.heap.size + 2 ≤ w1.heap.size := by have := hb.size; simp at this; omega
  have HG := Lib.hid hg; have HT := Lib.hid hT
  have HBb := Lib.hid hb
  clear hb hg hT hc1 hc2
  have hz := HB1.out.size
  have hd : ¬ (60 : Int) < (roots.length : Int) := by omega
  have DE_1 := Lib.hid ((dead_new (w := w.alloc (.cells #[.int .i64 h, .slice a n c, .int .i64 ac, .int .i64 bu] 26)) (t := 101) (w.heap.size + 1) (by simp)).below HBb.out)
  have HSH := Lib.hid (shaped_of HK.out HO.out HG.out.src HT.out)
  clear HG HT
  go_wp2_with fail
  have HB2 := Lib.hid (HB1.out.alloc hz (.cells #[.int .i64 0, .slice a1 L.length c1] 121))
  have DE2 := Lib.hid (DE_1.out.below ((Below.refl _ _).alloc (Nat.le_refl _) (.cells #[.int .i64 0, .slice a1 L.length c1] 121)))
  have R_2 := Lib.hid (R_1.out.alloc (.cells #[.int .i64 0, .slice a1 L.length c1] 121))
  have SH2 := Lib.hid (HSH.out.below ((Below.refl _ _).alloc (Nat.le_refl _) (.cells #[.int .i64 0, .slice a1 L.length c1] 121)))
  have hz2 : w.heap.size + 2 ≤ (w1.alloc (.cells #[.int .i64 0, .slice a1 L.length c1] 121)).heap.size := by simp; omega
  clear HB1 R_1 HSH
  generalize w1.alloc (.cells #[.int .i64 0, .slice a1 L.length c1] 121) = w2 at *
  refine (reachOf_any a1 c1 T f L ra roots rc _ SH2.out (HRS.out.below HB2.out) h60).mono ?_
  rintro e w3 ⟨hb, hr⟩
  have HB3 := Lib.hid (thru0 HB2.out hb)
  have R_3 := Lib.hid (R_2.out.below hb)
  have DE3 := Lib.hid (DE2.out.below hb)
  have z3 := hb.size
  clear hb
  have lR := R_3.out.1; have cR0 := R_3.out.at 0 rfl; have fR0 := R_3.out.free 0 rfl; have cR1 := R_3.out.at 1 rfl; have fR1 := R_3.out.free 1 rfl; have cR2 := R_3.out.at 2 rfl; have fR2 := R_3.out.free 2 rfl
  rcases hr with ⟨hbad, rfl⟩ | ⟨hall, a3, c3, mb, U, rfl, hgv, hmp, hsm⟩
  · have hc4 : co = 4 := by
      rcases HCO.out with ⟨_, h4⟩ | ⟨hq, _⟩
      · exact h4
      · obtain ⟨p, hp, hq'⟩ := hbad; exact absurd (hq p hp) hq'
    subst hc4
    clear hbad
    go_wp2
    refine bodyPost_ret (v := .agg #[.int .i64 4, .slice none 0 0, .map none]) (by simp [results, Try.results57, go_sem, cR0, cR1, cR2]) rfl ⟨?_, .inl ⟨by decide, rfl⟩⟩
    repeat (first | (with_reducible refine Below.setCell ?_ (by (try simp); (try omega)) _) | (with_reducible refine Below.alloc ?_ (by (try simp); (try omega)) _) | (with_reducible refine Below.drew ?_))
    exact HB3.out
  · have hc0 : co = 0 := by
      rcases HCO.out with ⟨⟨p, hp, hq⟩, _⟩ | ⟨_, h0⟩
      · exact absurd (hall p hp) hq
      · exact h0
    subst hc0
    have HGV := Lib.hid hgv; have HMP := Lib.hid hmp; have HSM := Lib.hid hsm
    clear hall hgv hmp hsm
    go_wp2
    refine bodyPost_ret (v := .agg #[.int .i64 0, .slice a3 (reachO f L roots).length c3, .map (some mb)]) (by simp [results, Try.results57, go_sem, cR0, cR1, cR2]) rfl ⟨?_, .inr ⟨rfl, a3, c3, mb, U, rfl, dead_gv DE3.out HGV.out _ _, dead_map DE3.out HMP.out _ _, HSM.out⟩⟩
    repeat (first | (with_reducible refine Below.setCell ?_ (by (try simp); (try omega)) _) | (with_reducible refine Below.alloc ?_ (by (try simp); (try omega)) _) | (with_reducible refine Below.drew ?_))
    exact HB3.out
end Go.Proofs.Ytbhjmomphajnnaa

namespace Go.Proofs.Ytbhjmomphajnnaa
open Go.RowKit Go.Maps
set_option linter.unusedVariables false

theorem news1b (w : World) (x : Int) (B : Nat) (hB : B = w.heap.size) : ∀ (j : Nat) (u : Value), ([.int .i64 x] : List Value)[j]? = some u → (w.alloc (.cells #[.int .i64 x] 2)).cell? ((⟨B, 0, none⟩ : Addr).add j) = some u := hB ▸ news1 w x

theorem nums_succ (n : Nat) (f : Nat → Int) : nums (n + 1) f = nums n f ++ [.int .i64 (f n)] := by simp [nums, List.range_succ]

theorem fld_ir (x y : Value) (w : World) : (Instr.field 38 (.agg #[x, y]) 1).run Try.prog w = .ok y w := by kernel_rfl

theorem gv_get {w : World} {a : Option Addr} {N : Nat} {T : Nat → GM} (h : GV w a N T) {i : Nat} (hi : i < N) : ∃ b q, a = some ⟨b, q, none⟩ ∧ b < w.heap.size ∧ SixG w b (q + i * 6) (T i) := by
  rcases h with h0 | ⟨b, q, e, g⟩
  · omega
  · exact ⟨b, q, e, g.lt, g.six i hi⟩

set_option maxRecDepth 100000 in
set_option maxHeartbeats 1600000 in
theorem places_any (a : Option Addr) (O : List Int) (c : Nat) (T : Nat → GM) (w : World) (hg : GV w a O.length T) (hl : O.length ≤ 1000000) (hO : ∀ i, i < O.length → (T i).at_ = lf O i) :
    Calls Try.prog 77 #[.slice a O.length c] w (RetInts w O.length (lf O)) := by
  have G := Lib.hid hg; have HO := Lib.hid hO
  obtain ⟨i0, hif, hz0, hz1, hz2⟩ := info_parts Try.info2
  clear hg hO
  go_enter Try.func77, Try.ntmps77
  go_wp2
  go_loopw [3, 8] (fun u p wr => ∃ i : Nat, i ≤ O.length ∧ p = .int .i64 (i : Int) ∧ Hid (Below w.heap.size w wr) ∧ Hid (wr.ownsRow w.heap.size 2 1 u i (nums i (lf O)))) (fun _ p _ => O.length - (intOf p).toNat)
  case atStart => exact ⟨0, Nat.zero_le _, rfl, Below.refl _ _, World.ownsRow_nil _ _ _ _⟩
  case round =>
    obtain ⟨i, hi, rfl, HB_r, OW_r⟩ := hrel
    have hzr := HB_r.out.size
    by_cases hlt : i < O.length
    · have hlt' : (i : Int) < (O.length : Int) := by omega
      have hi0 : (0 : Int) ≤ (i : Int) := by omega
      obtain ⟨b, q, rfl, lb, hsix⟩ := gv_get (G.out.below HB_r.out) hlt
      have HAT := Lib.hid (HO.out i hlt)
      have HAL : Hid (Below w.heap.size w (wr.alloc (.cells #[.int .i64 (T i).at_, .int .i64 (T i).s, .int .i64 (T i).m, .int .i64 (T i).o, .int .i64 (T i).h, .slice (T i).a (T i).n (T i).c] 111))) := Lib.hid (HB_r.out.alloc hzr _)
      have OWA := Lib.hid (OW_r.out.alloc (.cells #[.int .i64 (T i).at_, .int .i64 (T i).s, .int .i64 (T i).m, .int .i64 (T i).o, .int .i64 (T i).h, .slice (T i).a (T i).n (T i).c] 111))
      have HGE : Hid (∀ k, u3.ownBlock = some k → w.heap.size ≤ k) := Lib.hid (fun k hk => (OW_r.out.lt k hk).1)
      generalize T i = t at *
      obtain ⟨s0, s1, s2, s3, s4, s5⟩ := hsix
      go_wp2_with (at_builtin; go_loud (refine wpList_append_lies _ rfl _ _ 24 rfl w.heap.size 2 i0 (.int .i64 0) 1 8 Try.underlying24 hif hz0 hz1 hz2 rfl (by decide) u3 i (nums i (lf O)) rfl (OWA.out.alloc _) ⟨wr.heap.size + 1, 0, none⟩ 1 1 [.int .i64 t.at_] rfl rfl (news1b (wr.alloc (.cells #[.int .i64 t.at_, .int .i64 t.s, .int .i64 t.m, .int .i64 t.o, .int .i64 t.h, .slice t.a t.n t.c] 111)) t.at_ (wr.heap.size + 1) (by simp)) (by intro u hu; simp only [List.mem_cons, List.mem_nil_iff, or_false] at hu; subst hu; rfl) (by omega) (by unfold maxLen; omega) (by omega) (by simp; omega) (wr.heap.size + 1 + 1) (by simp) ?_); intro g9 cap9 w9 hown9 hgrow9 hat9 hlt9)
      have HB9 : Hid (Below w.heap.size w w9) := (HAL.out.alloc (by simp; omega) _).grown hgrow9 (by simp; omega) (fun k hk => HGE.out k hk)
      have OW9 : Hid (w9.ownsRow w.heap.size 2 1 (.slice (some ⟨g9, 0, none⟩) (i + 1) cap9) (i + 1) (nums (i + 1) (lf O))) := Lib.hid (by rw [nums_succ, ← HAT.out]; exact hown9)
      clear hown9 hgrow9 hat9 s0 s1 s2 s3 s4 s5
      go_wp2
      go_roundw
      case rel => first | exact ⟨i + 1, by omega, by go_num, HB9, OW9⟩ | ((repeat apply Exists.intro); exact ⟨⟨i + 1, by omega, by go_num, HB9, OW9⟩, rfl⟩)
      case measure => simp [intOf]; omega
    · have hlt' : ¬ (i : Int) < (O.length : Int) := by omega
      obtain rfl : i = O.length := by omega
      have HRet := Lib.hid (retInts_of_row OW_r.out HB_r.out)
      go_wp2
      go_ret
      exact HRet.out

set_option maxRecDepth 100000 in
set_option maxHeartbeats 1600000 in
theorem words_any (co : Int) (mv : Value) (a : Option Addr) (O : List Int) (c : Nat) (T : Nat → GM) (L : List Ob) (f : Nat → Int) (w : World) (hg : GV w a O.length T) (hl : O.length ≤ 400) (hO : ∀ i, i < O.length → ∃ x, findO L (lf O i) = some x ∧ GSame (T i) (obG f x)) (hok : ∀ x ∈ L, ObOk x) :
    Calls Try.prog 64 #[.agg #[.int .i64 co, .slice a O.length c, mv]] w (fun e w' => e = .returned (.int .i64 (sumW (wordsAt L) O : Int)) ∧ Below w.heap.size w w') := by
  have G := Lib.hid hg; have HO := Lib.hid hO; have HOK := Lib.hid hok
  have hfi := fld_ir
  clear hg hO hok
  go_enter Try.func64, Try.ntmps64
  go_wp2
  go_loopw [3, 9] (fun u p wr => ∃ i : Nat, i ≤ O.length ∧ p = .int .i64 (i : Int) ∧ u = .int .i64 (sumW (wordsAt L) (O.take i) : Int) ∧ sumW (wordsAt L) (O.take i) ≤ i * 14 ∧ Hid (Below w.heap.size w wr)) (fun _ p _ => O.length - (intOf p).toNat)
  case atStart => exact ⟨0, Nat.zero_le _, rfl, by simp [sumW], by simp [sumW], (Below.refl _ _).alloc (Nat.le_refl _) _⟩
  case round =>
    obtain ⟨i, hi, rfl, rfl, hsum, HB_r⟩ := hrel
    have hzr := HB_r.out.size
    by_cases hlt : i < O.length
    · have hlt' : (i : Int) < (O.length : Int) := by omega
      have hi0 : (0 : Int) ≤ (i : Int) := by omega
      obtain ⟨b, q, rfl, lb, hsix⟩ := gv_get (G.out.below HB_r.out) hlt
      obtain ⟨x, hx, hs⟩ := HO.out i hlt
      have hok := HOK.out x (List.mem_of_find?_eq_some hx)
      have hts : (T i).s = x.s ∧ (T i).m = x.m ∧ (T i).o = x.o ∧ (T i).h = x.h := ⟨hs.2.1, hs.2.2.1, hs.2.2.2.1, hs.2.2.2.2.1⟩
      have HST := Lib.hid (sumW_take (u := wordsAt L) hlt)
      have HW := Lib.hid (wordsAt_some hx)
      have hs12 := hok.1.1
      have HK : Hid (HOk (T i).s (T i).m (T i).o (T i).h) := Lib.hid (by rw [hts.1, hts.2.1, hts.2.2.1, hts.2.2.2]; exact hok.1)
      have hss : (T i).s = x.s := hts.1
      have HSS := Lib.hid hss
      have hsb : 0 ≤ (T i).s ∧ (T i).s ≤ 12 := by rw [hss]; exact hs12
      have HAL : Hid (Below w.heap.size w (wr.alloc (.cells #[.int .i64 (T i).at_, .int .i64 (T i).s, .int .i64 (T i).m, .int .i64 (T i).o, .int .i64 (T i).h, .slice (T i).a (T i).n (T i).c] 111))) := Lib.hid (HB_r.out.alloc hzr _)
      have e3 : sumW (wordsAt L) (O.take (i + 1)) ≤ (i + 1) * 14 := by rw [HST.out, HW.out]; omega
      have e2 : (sumW (wordsAt L) (O.take (i + 1)) : Int) = (sumW (wordsAt L) (O.take i) : Int) + ((T i).s + 2) := by rw [HST.out, HW.out, hss]; omega
      have E2 := Lib.hid e2; have E3 := Lib.hid e3
      clear hs hok hts e2 e3 hx hss hs12
      generalize T i = t at *
      obtain ⟨s0, s1, s2, s3, s4, s5⟩ := hsix
      obtain ⟨hsb1, hsb2⟩ := hsb
      go_wp2_with fail
      refine (implWO_yes t.s t.m t.o t.h _ HK.out).mono ?_
      rintro e w2 ⟨rfl, hb⟩
      have HB2 := Lib.hid (thru0 HAL.out hb)
      clear hb s0 s1 s2 s3 s4 s5
      generalize sumW (wordsAt L) (O.take i) = sm at *
      go_wp2
      go_roundw
      case rel => first | exact ⟨i + 1, by omega, by go_num, by rw [E2.out], E3.out, HB2⟩ | ((repeat apply Exists.intro); exact ⟨⟨i + 1, by omega, by go_num, by rw [E2.out], E3.out, HB2⟩, rfl⟩)
      case measure => simp [intOf]; omega
    · have hlt' : ¬ (i : Int) < (O.length : Int) := by omega
      obtain rfl : i = O.length := by omega
      have HT : Hid (O.take O.length = O) := Lib.hid List.take_length
      go_wp2
      go_ret
      exact ⟨rfl, HB_r.out⟩
end Go.Proofs.Ytbhjmomphajnnaa

namespace Go.Proofs.Ytbhjmomphajnnaa
open Go.RowKit Go.Maps
set_option linter.unusedVariables false

theorem reachIn_any (h ac bu : Int) (a : Option Addr) (n c : Nat) (f : Nat → Int) (ra : Option Addr) (roots : List Int) (rc : Nat) (co : Int) (L : List Ob) (w : World) (hs : Src w a n f) (hcn : n ≤ c) (hcm : c ≤ maxLen) (hrs : Src w ra roots.length (lf roots)) (hk : IsAsk h n f ac bu roots co L) :
    Calls Try.prog 57 #[.agg #[.int .i64 h, .slice a n c, .int .i64 ac, .int .i64 bu], .slice ra roots.length rc] w (RetIn w f roots co L) := by
  rcases hk with ⟨h1, h2⟩ | ⟨h1, h2, rfl⟩ | ⟨h1, h2, h3, h4, rfl⟩ | ⟨h1, h2, h3, h4, rfl⟩
  · exact reachIn_code h ac bu a n c f ra roots rc co L w hs hcn hcm hrs h1 h2
  · obtain ⟨L0, hL0⟩ := isSF_zero h1
    exact reachIn_many h ac bu a n c f ra roots rc 2 L w hs hcn hcm hrs h1 L0 hL0 h2
  · exact reachIn_rest h ac bu a n c f ra roots rc 4 L w hs hcn hcm hrs h1 h2 h3 (.inl ⟨h4, rfl⟩)
  · exact reachIn_rest h ac bu a n c f ra roots rc 0 L w hs hcn hcm hrs h1 h2 h3 (.inr ⟨h4, rfl⟩)

theorem three3 {w : World} {b : Nat} {v0 v1 v2 : Value} (h : Blk w b [v0, v1, v2]) : w.cell? ⟨b, 0, none⟩ = some v0 ∧ w.cell? ⟨b, 1, none⟩ = some v1 ∧ w.cell? ⟨b, 2, none⟩ = some v2 := ⟨h.at 0 rfl, h.at 1 rfl, h.at 2 rfl⟩
end Go.Proofs.Ytbhjmomphajnnaa

namespace Go.Proofs.Ytbhjmomphajnnaa
open Go.RowKit Go.Maps
set_option linter.unusedVariables false

set_option maxRecDepth 100000 in
set_option maxHeartbeats 3200000 in
theorem implLW_any (h ac bu : Int) (a : Option Addr) (n c : Nat) (f : Nat → Int) (ra : Option Addr) (roots : List Int) (rc : Nat) (co : Int) (L : List Ob) (w : World) (hs : Src w a n f) (hcn : n ≤ c) (hcm : c ≤ maxLen) (hrs : Src w ra roots.length (lf roots)) (hk : IsAsk h n f ac bu roots co L) :
    Calls Try.prog 18 #[.agg #[.int .i64 h, .slice a n c, .int .i64 ac, .int .i64 bu], .slice ra roots.length rc] w (RetPair w co (outW f L roots co)) := by
  have HS := Lib.hid hs; have HK := Lib.hid hk; have HCM := Lib.hid hcm; have HRS := Lib.hid hrs
  clear hs hk hcm hrs
  go_enter Try.func18, Try.ntmps18
  go_wp2_with fail
  refine (reachIn_any h ac bu a n c f ra roots rc co L _ ((HS.out.alloc _).alloc _) hcn HCM.out ((HRS.out.alloc _).alloc _) HK.out).mono ?_
  rintro e w1 ⟨hb, hr⟩
  have HB1 := Lib.hid (thru2 (Below.refl _ _) hb)
  have R_1 := Lib.hid ((Blk.new_at (w := w.alloc (.cells #[.int .i64 h, .slice a n c, .int .i64 ac, .int .i64 bu] 26)) (cs := #[.int .i64 0, .int .i64 0]) (t := 38) (w.heap.size + 1) (by simp)).below hb)
  have z1 : w.heap.size + 2 ≤ w1.heap.size := by have := hb.size; simp at this; omega
  clear hb
  have hz := HB1.out.size
  rcases hr with ⟨h0, rfl⟩ | ⟨rfl, a1, c1, mb, T, rfl, hg, hm, hsm⟩
  · have HE := Lib.hid (outW_no f L roots h0)
    clear h0
    have HB2 := Lib.hid (HB1.out.alloc hz (.cells #[.int .i64 co, .slice none 0 0, .map none] 101))
    have R_2 := Lib.hid (R_1.out.alloc (.cells #[.int .i64 co, .slice none 0 0, .map none] 101))
    have X_2 := Lib.hid (Blk.new_at (w := w1) (cs := #[.int .i64 co, .slice none 0 0, .map none]) (t := 101) w1.heap.size rfl)
    have hz2 : w1.heap.size + 1 = (w1.alloc (.cells #[.int .i64 co, .slice none 0 0, .map none] 101)).heap.size := by simp
    have HW12 := Lib.hid ((Below.refl w1.heap.size w1).alloc (Nat.le_refl _) (.cells #[.int .i64 co, .slice none 0 0, .map none] 101))
    go_wp2_with fail
    clear HB1 R_1 hz
    generalize w1.alloc (.cells #[.int .i64 co, .slice none 0 0, .map none] 101) = w2 at *
    have X_d := Lib.hid X_2.out.drew; have R_d := Lib.hid R_2.out.drew; have HB_d := Lib.hid HB2.out.drew
    have hz2' : w1.heap.size + 1 = w2.drew.heap.size := by simpa using hz2
    skip
    go_region_held3 (fun w' => w'.cell? ⟨w1.heap.size, 0, none⟩ = some (.int .i64 co) ∧ w'.cell? ⟨w1.heap.size, 1, none⟩ = some (.slice none 0 0) ∧ w'.cell? ⟨w1.heap.size, 2, none⟩ = some (.map none))
      (first | (with_reducible exact three3 X_2.out) | (with_reducible exact three3 X_d.out) | (with_reducible exact three3 X_3.out) | (exact three3 ((X_3.out.other (by (try simp); (try omega)) _).other (by (try simp); (try omega)) _)))
      (first | (go_at_call 64; (refine (words_any co (.map none) none [] 0 (fun _ => gzero) [] f _ (.inl rfl) (by simp) (fun i hi => (by simp at hi)) (fun x hx => (by cases hx))).mono ?_; rintro e w3 ⟨rfl, hb⟩; have HB3 := Lib.hid (thru0 HB_d.out hb); have X_3 := Lib.hid (X_d.out.below hb); have R_3 := Lib.hid (R_d.out.below hb); have z3 := hb.size; clear hb; have lR := R_3.out.1; have cR0 := R_3.out.at 0 rfl; have fR0 := R_3.out.free 0 rfl; have cR1 := R_3.out.at 1 rfl; have fR1 := R_3.out.free 1 rfl)))
    have hz3 := HB3.out.size
    go_wp2
    refine bodyPost_ret (v := .agg #[.int .i64 co, .int .i64 0]) (by simp [results, Try.results18, go_sem, cR0, cR1, sumW]) rfl ?_
    rw [HE.out]
    refine ⟨rfl, ?_⟩
    repeat (first | (with_reducible refine Below.setCell ?_ (by (try simp); (try omega)) _) | (with_reducible refine Below.alloc ?_ (by (try simp); (try omega)) _) | (with_reducible refine Below.drew ?_))
    exact HB3.out
  · have HKZ := Lib.hid (isAsk_zero HK.out)
    have HRI := Lib.hid (right_of HKZ.out.1 HKZ.out.2.1)
    have hrl : (reachO f L roots).length ≤ 400 := by
      have h9 := reachO_length HRI.out.points HRI.out.size HKZ.out.2.2.2
      have h8 := isOI_small HKZ.out.2.1
      omega
    have HG := Lib.hid hg; have HSM := Lib.hid hsm
    clear hg hm hsm
    have HB2 := Lib.hid (HB1.out.alloc hz (.cells #[.int .i64 0, .slice a1 (reachO f L roots).length c1, .map (some mb)] 101))
    have R_2 := Lib.hid (R_1.out.alloc (.cells #[.int .i64 0, .slice a1 (reachO f L roots).length c1, .map (some mb)] 101))
    have X_2 := Lib.hid (Blk.new_at (w := w1) (cs := #[.int .i64 0, .slice a1 (reachO f L roots).length c1, .map (some mb)]) (t := 101) w1.heap.size rfl)
    have hz2 : w1.heap.size + 1 = (w1.alloc (.cells #[.int .i64 0, .slice a1 (reachO f L roots).length c1, .map (some mb)] 101)).heap.size := by simp
    have HW12 := Lib.hid ((Below.refl w1.heap.size w1).alloc (Nat.le_refl _) (.cells #[.int .i64 0, .slice a1 (reachO f L roots).length c1, .map (some mb)] 101))
    go_wp2_with fail
    clear HB1 R_1 hz
    generalize w1.alloc (.cells #[.int .i64 0, .slice a1 (reachO f L roots).length c1, .map (some mb)] 101) = w2 at *
    have X_d := Lib.hid X_2.out.drew; have R_d := Lib.hid R_2.out.drew; have HB_d := Lib.hid HB2.out.drew
    have hz2' : w1.heap.size + 1 = w2.drew.heap.size := by simpa using hz2
    have HG2 := Lib.hid ((HG.out.below (show Below w1.heap.size w1 w2 from HW12.out)).drew)
    go_region_held3 (fun w' => w'.cell? ⟨w1.heap.size, 0, none⟩ = some (.int .i64 0) ∧ w'.cell? ⟨w1.heap.size, 1, none⟩ = some (.slice a1 (reachO f L roots).length c1) ∧ w'.cell? ⟨w1.heap.size, 2, none⟩ = some (.map (some mb)))
      (first | (with_reducible exact three3 X_2.out) | (with_reducible exact three3 X_d.out) | (with_reducible exact three3 X_3.out) | (exact three3 ((X_3.out.other (by (try simp); (try omega)) _).other (by (try simp); (try omega)) _)))
      (first | (go_at_call 64; (refine (words_any 0 (.map (some mb)) a1 (reachO f L roots) c1 T L f _ HG2.out hrl HSM.out HRI.out.ok).mono ?_; rintro e w3 ⟨rfl, hb⟩; have HB3 := Lib.hid (thru0 HB_d.out hb); have X_3 := Lib.hid (X_d.out.below hb); have R_3 := Lib.hid (R_d.out.below hb); have z3 := hb.size; clear hb; have lR := R_3.out.1; have cR0 := R_3.out.at 0 rfl; have fR0 := R_3.out.free 0 rfl; have cR1 := R_3.out.at 1 rfl; have fR1 := R_3.out.free 1 rfl)))
    have hz3 := HB3.out.size
    go_wp2
    refine bodyPost_ret (v := .agg #[.int .i64 0, .int .i64 (sumW (wordsAt L) (reachO f L roots) : Int)]) (by simp [results, Try.results18, go_sem, cR0, cR1]) rfl ⟨?_, ?_⟩
    · unfold outW; rw [if_pos rfl]
    · repeat (first | (with_reducible refine Below.setCell ?_ (by (try simp); (try omega)) _) | (with_reducible refine Below.alloc ?_ (by (try simp); (try omega)) _) | (with_reducible refine Below.drew ?_))
      exact HB3.out
end Go.Proofs.Ytbhjmomphajnnaa

namespace Go.Proofs.Ytbhjmomphajnnaa
open Go.RowKit Go.Maps
set_option linter.unusedVariables false

theorem reach_small {h : Int} {n : Nat} {f : Nat → Int} {ac bu : Int} {roots : List Int} {co : Int} {L : List Ob} (hk : IsAsk h n f ac bu roots co L) : (outR f L roots co).length ≤ 400 ∧ (outG f L roots co).length ≤ 400 := by
  by_cases h0 : co = 0
  · subst h0
    obtain ⟨h1, h2, h3, h4⟩ := isAsk_zero hk
    have hri := right_of h1 h2
    have h9 := reachO_length hri.points hri.size h4
    have h8 := isOI_small h2
    refine ⟨by rw [outR_zero]; omega, ?_⟩
    unfold outG
    rw [if_pos rfl]
    have := List.length_filter_le (fun p => decide (p ∉ reachO f L roots)) (placesO L)
    simp [placesO] at this ⊢
    omega
  · rw [outR_no f L roots h0, outG_no f L roots h0]; simp
end Go.Proofs.Ytbhjmomphajnnaa

namespace Go.Proofs.Ytbhjmomphajnnaa
open Go.RowKit Go.Maps
set_option linter.unusedVariables false

/-- What the closure reads. -/
structure Cap (w : World) (rb mb nn : Nat) (v : Value) (O : List Int) : Prop where
  blk : Blk w rb [.int .i64 0, v, .map (some mb)]
  map : MapT w mb nn O (fun i => (i : Int))

theorem Cap.below {w w' : World} {rb mb nn : Nat} {v : Value} {O : List Int} (h : Cap w rb mb nn v O) (hb : Below w.heap.size w w') : Cap w' rb mb nn v O := ⟨h.blk.below hb, h.map.below hb⟩

set_option maxRecDepth 100000 in
set_option maxHeartbeats 1600000 in
theorem clos_any (rb mb nn : Nat) (v : Value) (O : List Int) (t : GM) (w : World) (h : Cap w rb mb nn v O) (hp : -1000000000 ≤ t.at_ ∧ t.at_ ≤ 1000000000) :
    Calls Try.prog 76 #[.agg #[.int .i64 t.at_, .int .i64 t.s, .int .i64 t.m, .int .i64 t.o, .int .i64 t.h, .slice t.a t.n t.c], .pointer (some ⟨rb, 0, none⟩)] w (RetBool w (decide (t.at_ ∈ O))) := by
  have H := Lib.hid h
  have X0 := Lib.hid (Blk.new_at (w := w) (cs := #[.int .i64 t.at_, .int .i64 t.s, .int .i64 t.m, .int .i64 t.o, .int .i64 t.h, .slice t.a t.n t.c]) (t := 111) w.heap.size rfl)
  have B0 := Lib.hid (h.blk.alloc (.cells #[.int .i64 t.at_, .int .i64 t.s, .int .i64 t.m, .int .i64 t.o, .int .i64 t.h, .slice t.a t.n t.c] 111))
  have HB0 := Lib.hid ((Below.refl w.heap.size w).alloc (Nat.le_refl _) (.cells #[.int .i64 t.at_, .int .i64 t.s, .int .i64 t.m, .int .i64 t.o, .int .i64 t.h, .slice t.a t.n t.c] 111))
  have hlk := (h.map.alloc (.cells #[.int .i64 t.at_, .int .i64 t.s, .int .i64 t.m, .int .i64 t.o, .int .i64 t.h, .slice t.a t.n t.c] 111)).look_ok hp
  obtain ⟨bb, hbb⟩ : ∃ bb, decide (t.at_ ∈ O) = bb := ⟨_, rfl⟩
  have HBB := Lib.hid hbb
  rw [hbb] at hlk
  clear h hbb
  have lX := X0.out.1; have cX0 := X0.out.at 0 rfl; have cX1 := X0.out.at 1 rfl; have cX2 := X0.out.at 2 rfl; have cX3 := X0.out.at 3 rfl; have cX4 := X0.out.at 4 rfl; have cX5 := X0.out.at 5 rfl
  have lB := B0.out.1; have cB0 := B0.out.at 0 rfl; have cB1 := B0.out.at 1 rfl; have cB2 := B0.out.at 2 rfl
  clear X0 B0
  go_enter Try.func76, Try.ntmps76
  go_wp2
  go_ret
  exact ⟨by rw [HBB.out]; rfl, HB0.out⟩
end Go.Proofs.Ytbhjmomphajnnaa

namespace Go.Proofs.Ytbhjmomphajnnaa
open Go.RowKit Go.Maps
set_option linter.unusedVariables false

set_option maxRecDepth 100000 in
set_option maxHeartbeats 1600000 in
theorem index_any (a : Option Addr) (N c : Nat) (T : Nat → GM) (rb mb nn : Nat) (v : Value) (O : List Int) (w : World) (hg : GV w a N T) (hN : N ≤ 1048576) (hc : Cap w rb mb nn v O) (hp : ∀ i, i < N → -1000000000 ≤ (T i).at_ ∧ (T i).at_ ≤ 1000000000) :
    Calls Try.prog 148 #[.slice a N c, .func (.func 76) #[] #[.pointer (some ⟨rb, 0, none⟩)]] w (fun e w' => Below w.heap.size w w' ∧ (((∀ j, j < N → (T j).at_ ∉ O) ∧ e = .returned (.int .i64 (-1))) ∨ ∃ i : Nat, i < N ∧ (T i).at_ ∈ O ∧ (∀ j, j < i → (T j).at_ ∉ O) ∧ e = .returned (.int .i64 (i : Int)))) := by
  have G := Lib.hid hg; have HC := Lib.hid hc; have HP := Lib.hid hp
  have eg : ∀ args w, (callFunc 76 args).run Try.prog w = .ok (.enter 76 args) w := enters_of Try.func76 (by kernel_rfl) rfl
  clear hg hc hp
  go_enter Try.func148, Try.ntmps148
  go_wp2
  go_loopw [8] (fun p wr => ∃ i : Nat, i ≤ N ∧ p = .int .i64 (i : Int) ∧ Hid (Below w.heap.size w wr) ∧ Hid (∀ j, j < i → (T j).at_ ∉ O)) (fun p _ => N - (intOf p).toNat)
  case atStart => exact ⟨0, Nat.zero_le _, rfl, Below.refl _ _, Lib.hid (fun j hj => by omega)⟩
  case round =>
    obtain ⟨i, hi, rfl, HB_r, HD⟩ := hrel
    by_cases hlt : i < N
    · have hlt' : (i : Int) < (N : Int) := by omega
      have hi0 : (0 : Int) ≤ (i : Int) := by omega
      obtain ⟨b, q, rfl, lb, hsix⟩ := gv_get (G.out.below HB_r.out) hlt
      have hp := HP.out i hlt
      have HNX : Hid ((T i).at_ ∉ O → ∀ j, j < i + 1 → (T j).at_ ∉ O) := Lib.hid (fun h j hj => by
        rcases Nat.lt_succ_iff_lt_or_eq.mp hj with h1 | h1
        · exact HD.out j h1
        · subst h1; exact h)
      have HFD : Hid ((T i).at_ ∈ O → ∃ i' : Nat, i' < N ∧ (T i').at_ ∈ O ∧ (∀ j, j < i' → (T j).at_ ∉ O) ∧ Ending.returned (.int .i64 (i : Int)) = Ending.returned (.int .i64 (i' : Int))) := Lib.hid (fun h => ⟨i, hlt, h, HD.out, rfl⟩)
      generalize T i = t at *
      obtain ⟨s0, s1, s2, s3, s4, s5⟩ := hsix
      by_cases hin : t.at_ ∈ O
      · have hd : decide (t.at_ ∈ O) = true := decide_eq_true hin
        have HIN := Lib.hid hin
        clear hin
        go_wp2_with (go_at_fn 76; refine (clos_any rb mb nn v O t _ (HC.out.below HB_r.out) hp).mono ?_; rintro e w1 ⟨rfl, hb⟩; rw [hd]; have HB1 := Lib.hid (thru0 HB_r.out hb); clear hb)
        go_ret
        exact ⟨HB1.out, .inr (HFD.out HIN.out)⟩
      · have hd : decide (t.at_ ∈ O) = false := decide_eq_false hin
        have HN := Lib.hid (HNX.out hin)
        clear hin
        go_wp2_with (go_at_fn 76; refine (clos_any rb mb nn v O t _ (HC.out.below HB_r.out) hp).mono ?_; rintro e w1 ⟨rfl, hb⟩; rw [hd]; have HB1 := Lib.hid (thru0 HB_r.out hb); clear hb)
        clear s0 s1 s2 s3 s4 s5 hd
        go_roundw
        case rel => first | exact ⟨i + 1, by omega, by go_num, HB1, HN⟩ | ((repeat apply Exists.intro); exact ⟨⟨i + 1, by omega, by go_num, HB1, HN⟩, rfl⟩)
        case measure => simp [intOf]; omega
    · have hlt' : ¬ (i : Int) < (N : Int) := by omega
      go_wp2
      go_ret
      exact ⟨HB_r.out, .inl ⟨fun j hj => HD.out j (by omega), rfl⟩⟩
end Go.Proofs.Ytbhjmomphajnnaa

namespace Go.Proofs.Ytbhjmomphajnnaa
open Go.RowKit Go.Maps
set_option linter.unusedVariables false

/-- A row of objects that may be written. -/
structure RW (w : World) (b q N : Nat) (V : Nat → GM) : Prop where
  lt : b < w.heap.size
  six : ∀ k, k < N → SixG w b (q + k * 6) (V k)
  free : ∀ k, k < N → SixF w b (q + k * 6)
  flds : ∀ k, k < N → Src w (V k).a (V k).n (V k).f
  off : ∀ k, k < N → (V k).n = 0 ∨ (V k).g ≠ b

theorem RW.of {w : World} {lo hi b q N : Nat} {T : Nat → GM} (h : GOwn w lo hi b q N T) : RW w b q N T := ⟨h.lt, h.six, h.free, fun k hk => (h.flds k hk).src, h.off⟩

theorem RW.below {w w' : World} {b q N : Nat} {V : Nat → GM} (h : RW w b q N V) (hb : Below w.heap.size w w') : RW w' b q N V :=
  ⟨Nat.lt_of_lt_of_le h.lt hb.size, fun k hk => (h.six k hk).below hb h.lt, fun k hk => (h.free k hk).below hb h.lt, fun k hk => (h.flds k hk).below hb, h.off⟩

theorem src_six {w : World} {b o : Nat} {t u : GM} (h : Src w u.a u.n u.f) (hb : u.n = 0 ∨ u.g ≠ b) : Src (sixW w b o t) u.a u.n u.f := by
  rcases h with h0 | ⟨b', o', e, h1, h2⟩
  · exact .inl h0
  · rcases hb with h0 | hb
    · exact .inl h0
    · have hg : u.g = b' := by simp [GM.g, e]
      have hk := (sixW_keeps w b o t).block b' h1 (by omega)
      exact .inr ⟨b', o', e, Nat.lt_of_lt_of_le h1 (sixW_keeps w b o t).size, fun i hi => (World.cell?_of_block (w := w) (a := ⟨b', o' + i, none⟩) hk).trans (h2 i hi)⟩

theorem sixF_six {w : World} {b o o' : Nat} {t : GM} (h : SixF w b o) : SixF (sixW w b o' t) b o :=
  ⟨(sixW_frozen _ _ _ _ _).trans h.1, (sixW_frozen _ _ _ _ _).trans h.2.1, (sixW_frozen _ _ _ _ _).trans h.2.2.1, (sixW_frozen _ _ _ _ _).trans h.2.2.2.1, (sixW_frozen _ _ _ _ _).trans h.2.2.2.2.1, (sixW_frozen _ _ _ _ _).trans h.2.2.2.2.2⟩

theorem RW.set {w : World} {b q N i : Nat} {V : Nat → GM} {t : GM} (h : RW w b q N V) (hi : i < N) (hs : Src w t.a t.n t.f) (ho : t.n = 0 ∨ t.g ≠ b) : RW (sixW w b (q + i * 6) t) b q N (fun k => if k = i then t else V k) := by
  refine ⟨Nat.lt_of_lt_of_le h.lt (sixW_keeps w b _ t).size, fun k hk => ?_, fun k hk => sixF_six (h.free k hk), fun k hk => ?_, fun k hk => ?_⟩
  · by_cases e : k = i
    · subst e; rw [if_pos rfl]; exact sixW_at (h.six k hk) t
    · rw [if_neg e]; exact sixW_other (h.six k hk) (by omega) t
  · by_cases e : k = i
    · rw [if_pos e]; exact src_six hs ho
    · rw [if_neg e]; exact src_six (h.flds k hk) (h.off k hk)
  · by_cases e : k = i
    · rw [if_pos e]; exact ho
    · rw [if_neg e]; exact h.off k hk

def ki (T : Nat → GM) (O : List Int) (j : Nat) : List Nat := (List.range j).filter (fun k => decide ((T k).at_ ∉ O))

theorem ki_succ (T : Nat → GM) (O : List Int) (j : Nat) : ki T O (j + 1) = if (T j).at_ ∉ O then ki T O j ++ [j] else ki T O j := by
  unfold ki
  rw [List.range_succ, List.filter_append]
  by_cases h : (T j).at_ ∉ O
  · rw [if_pos h]; simp [h]
  · rw [if_neg h]; simp [h]

theorem ki_first (T : Nat → GM) (O : List Int) : ∀ i, (∀ j, j < i → (T j).at_ ∉ O) → ki T O i = List.range i := fun i h => by
  unfold ki
  rw [List.filter_eq_self]
  intro k hk
  exact decide_eq_true (h k (by simpa using hk))

theorem ki_le (T : Nat → GM) (O : List Int) (j : Nat) : (ki T O j).length ≤ j := by
  have := List.length_filter_le (fun k => decide ((T k).at_ ∉ O)) (List.range j)
  simpa [ki] using this

/-- What the row is like when the objects ahead of j have been looked at. -/
def KI (T : Nat → GM) (O : List Int) (N i j : Nat) (V : Nat → GM) : Prop := i = (ki T O j).length ∧ (∀ k (hk : k < (ki T O j).length), V k = T (ki T O j)[k]) ∧ ∀ k, j ≤ k → k < N → V k = T k

theorem KI.start {T : Nat → GM} {O : List Int} {N i : Nat} (h : ∀ j, j < i → (T j).at_ ∉ O) (hi : (T i).at_ ∈ O) : KI T O N i (i + 1) T := by
  have e : ki T O (i + 1) = List.range i := by rw [ki_succ, if_neg (fun hn => hn hi), ki_first T O i h]
  refine ⟨by rw [e]; simp, fun k hk => ?_, fun k _ _ => rfl⟩
  simp only [e, List.getElem_range]

theorem KI.skip {T : Nat → GM} {O : List Int} {N i j : Nat} {V : Nat → GM} (h : KI T O N i j V) (hj : (T j).at_ ∈ O) : KI T O N i (j + 1) V := by
  have e : ki T O (j + 1) = ki T O j := by rw [ki_succ, if_neg (fun hn => hn hj)]
  refine ⟨by rw [e]; exact h.1, fun k hk => ?_, fun k hk => h.2.2 k (by omega)⟩
  have hk' : k < (ki T O j).length := by rw [e] at hk; exact hk
  rw [h.2.1 k hk']
  simp only [e]

theorem KI.keep {T : Nat → GM} {O : List Int} {N i j : Nat} {V : Nat → GM} (h : KI T O N i j V) (hij : i < j) (hj : (T j).at_ ∉ O) : KI T O N (i + 1) (j + 1) (fun k => if k = i then T j else V k) := by
  have e : ki T O (j + 1) = ki T O j ++ [j] := by rw [ki_succ, if_pos hj]
  refine ⟨by rw [e, List.length_append, ← h.1]; rfl, fun k hk => ?_, fun k hk hkN => ?_⟩
  · have hk2 : k < (ki T O j).length + 1 := by rw [e] at hk; simpa using hk
    simp only [e]
    by_cases ek : k = i
    · subst ek
      rw [if_pos rfl, List.getElem_append_right (by rw [← h.1]; exact Nat.le_refl _)]
      simp [← h.1]
    · rw [if_neg ek, List.getElem_append_left (by have := h.1; omega)]
      exact h.2.1 k _
  · show (if k = i then T j else V k) = T k
    rw [if_neg (by omega)]; exact h.2.2 k (by omega) hkN

theorem Cap.under {w w' : World} {B rb mb nn : Nat} {v : Value} {O : List Int} (h : Cap w rb mb nn v O) (hb : Below B w w') (h1 : rb < B) (h2 : mb < B) : Cap w' rb mb nn v O := ⟨blk_under h.blk hb h1, h.map.block (hb.block mb h2)⟩

/-- clear of a row of objects. -/
theorem run_clear_obj (w : World) (ty : TypeId) (b o n c : Nat) (hn : 0 < n) (hc : ∀ j, j < n * 6 → (w.cell? ⟨b, o + j, none⟩).isSome = true) (hf : ∀ j, j < n * 6 → w.frozen? ⟨b, o + j, none⟩ = false) :
    ∃ zs, (Builtin.clear_ #[98] ty #[.slice (some ⟨b, o, none⟩) n c]).run Try.prog w = .ok (.tuple #[]) (w.setCells b o zs) := by
  refine ⟨(Builtin.zeroCells #[.int .i64 0, .int .i64 0, .int .i64 0, .int .i64 0, .int .i64 0, .slice none 0 0] n).toList, ?_⟩
  have hz : ∀ w, (zeroValue 111).run Try.prog w = .ok (.agg #[.int .i64 0, .int .i64 0, .int .i64 0, .int .i64 0, .int .i64 0, .slice none 0 0]) w := fun w => by kernel_rfl
  have hlen : (Builtin.zeroCells #[.int .i64 0, .int .i64 0, .int .i64 0, .int .i64 0, .int .i64 0, .slice none 0 0] n).toList.length = n * 6 := by
    rw [Array.length_toList, size_zeroCells]; rfl
  have hone : ∀ v ∈ (Builtin.zeroCells #[.int .i64 0, .int .i64 0, .int .i64 0, .int .i64 0, .int .i64 0, .slice none 0 0] n).toList, v.oneCell' = true := by
    intro v hv
    simp only [Builtin.zeroCells, Array.toList_map, List.mem_map] at hv
    obtain ⟨i, _, rfl⟩ := hv
    have h6 : i % 6 < 6 := Nat.mod_lt _ (by omega)
    show (#[Value.int .i64 0, .int .i64 0, .int .i64 0, .int .i64 0, .int .i64 0, .slice none 0 0][i % 6]!).oneCell' = true
    generalize i % 6 = k at h6
    match k, h6 with
    | 0, _ => rfl
    | 1, _ => rfl
    | 2, _ => rfl
    | 3, _ => rfl
    | 4, _ => rfl
    | 5, _ => rfl
  have hst := run_storeCells_cells (P := Try.prog) b o (Builtin.zeroCells #[.int .i64 0, .int .i64 0, .int .i64 0, .int .i64 0, .int .i64 0, .slice none 0 0] n).toList 0 w (by rw [hlen]; simpa using hc) (by rw [hlen]; simpa using hf) hone
  simp only [Nat.add_zero] at hst
  obtain ⟨m, rfl⟩ : ∃ m, n = m + 1 := ⟨n - 1, by omega⟩
  simp [Builtin.clear_, run_underlying Try.underlying98, hz, Value.cells, hst]
end Go.Proofs.Ytbhjmomphajnnaa

namespace Go.Proofs.Ytbhjmomphajnnaa
open Go.RowKit Go.Maps
set_option linter.unusedVariables false

theorem setCells_block (b : Nat) : ∀ (vs : List Value) (o : Nat) (w : World) (k : Nat), k ≠ b → (w.setCells b o vs).heap[k]? = w.heap[k]?
  | [], o, w, k, h => rfl
  | v :: vs, o, w, k, h => by
    have h1 := setCells_block b vs (o + 1) (w.setCell ⟨b, o, none⟩ v) k h
    exact h1.trans (Below.heap_setCell w ⟨b, o, none⟩ v k h)

theorem setCells_size (b : Nat) : ∀ (vs : List Value) (o : Nat) (w : World), (w.setCells b o vs).heap.size = w.heap.size
  | [], o, w => rfl
  | v :: vs, o, w => by
    have h1 := setCells_size b vs (o + 1) (w.setCell ⟨b, o, none⟩ v)
    exact h1.trans (by simp)

theorem below_setC {B b : Nat} {w : World} (hb : B ≤ b) : ∀ (vs : List Value) (o : Nat) (w' : World), Below B w w' → Below B w (w'.setCells b o vs)
  | [], o, w', h => h
  | v :: vs, o, w', h => below_setC hb vs (o + 1) (w'.setCell ⟨b, o, none⟩ v) (Below.setCell h (show B ≤ (⟨b, o, none⟩ : Addr).block from hb) v)

theorem RW.has {w : World} {b q N : Nat} {V : Nat → GM} (h : RW w b q N V) (o : Nat) (ho : o < N * 6) : (w.cell? ⟨b, q + o, none⟩).isSome = true ∧ w.frozen? ⟨b, q + o, none⟩ = false := by
  obtain ⟨k, r, hr, e⟩ : ∃ k r, r < 6 ∧ o = k * 6 + r := ⟨o / 6, o % 6, Nat.mod_lt _ (by omega), by omega⟩
  subst e
  have hk : k < N := by omega
  obtain ⟨x0, x1, x2, x3, x4, x5⟩ := h.six k hk
  obtain ⟨g0, g1, g2, g3, g4, g5⟩ := h.free k hk
  rw [← Nat.add_assoc]
  match r, hr with
  | 0, _ => exact ⟨by rw [Nat.add_zero, x0]; rfl, g0⟩
  | 1, _ => exact ⟨by rw [x1]; rfl, g1⟩
  | 2, _ => exact ⟨by rw [x2]; rfl, g2⟩
  | 3, _ => exact ⟨by rw [x3]; rfl, g3⟩
  | 4, _ => exact ⟨by rw [x4]; rfl, g4⟩
  | 5, _ => exact ⟨by rw [x5]; rfl, g5⟩

theorem RW.cut {w : World} {b q N i : Nat} {V : Nat → GM} (h : RW w b q N V) (hi : i ≤ N) (zs : List Value) : GSrc (w.setCells b (q + i * 6) zs) b q i V := by
  have hc : ∀ o, o < i * 6 → (w.setCells b (q + i * 6) zs).cell? ⟨b, q + o, none⟩ = w.cell? ⟨b, q + o, none⟩ := fun o ho => World.cell?_setCells_out b zs (q + i * 6) w ⟨b, q + o, none⟩ (fun _ _ => .inl (by show q + o < q + i * 6; omega))
  refine ⟨by rw [setCells_size]; exact h.lt, fun k hk => ?_, fun k hk => ?_⟩
  · obtain ⟨x0, x1, x2, x3, x4, x5⟩ := h.six k (by omega)
    have e : ∀ j, j < 6 → (w.setCells b (q + i * 6) zs).cell? ⟨b, q + k * 6 + j, none⟩ = w.cell? ⟨b, q + k * 6 + j, none⟩ := fun j hj => by rw [Nat.add_assoc]; exact hc _ (by omega)
    exact ⟨(e 0 (by omega)).trans x0, (e 1 (by omega)).trans x1, (e 2 (by omega)).trans x2, (e 3 (by omega)).trans x3, (e 4 (by omega)).trans x4, (e 5 (by omega)).trans x5⟩
  · rcases h.flds k (by omega) with h0 | ⟨b', o', e, h1, h2⟩
    · exact .inl h0
    · rcases h.off k (by omega) with h0 | hne
      · exact .inl h0
      · have hg : (V k).g = b' := by simp [GM.g, e]
        exact .inr ⟨b', o', e, by rw [setCells_size]; exact h1, fun j hj => (World.cell?_of_block (w := w) (a := ⟨b', o' + j, none⟩) (setCells_block b zs _ w b' (by omega))).trans (h2 j hj)⟩

def RetDel (W : World) (lo N : Nat) (T : Nat → GM) (O : List Int) (e : Ending) (w' : World) : Prop :=
  Below lo W w' ∧ W.heap.size ≤ w'.heap.size ∧ ∃ a c U, e = .returned (.slice a (ki T O N).length c) ∧ GV w' a (ki T O N).length U ∧ ∀ k (hk : k < (ki T O N).length), U k = T (ki T O N)[k]

set_option maxRecDepth 100000 in
set_option maxHeartbeats 3200000 in
theorem delete_any (a : Option Addr) (lo hi N c : Nat) (T : Nat → GM) (rb mb nn : Nat) (v : Value) (O : List Int) (w : World) (hg : GVO w lo hi a N T) (hN : N ≤ 1000) (hNc : N ≤ c) (hcm : c ≤ maxLen) (hc : Cap w rb mb nn v O) (hrb : rb < lo) (hmb : mb < lo) (hlo : lo ≤ w.heap.size) (hp : ∀ i, i < N → -1000000000 ≤ (T i).at_ ∧ (T i).at_ ≤ 1000000000) :
    Calls Try.prog 74 #[.slice a N c, .func (.func 76) #[] #[.pointer (some ⟨rb, 0, none⟩)]] w (RetDel w lo N T O) := by
  have G := Lib.hid hg; have HC := Lib.hid hc; have HP := Lib.hid hp; have HCM := Lib.hid hcm
  have eg : ∀ args w, (callFunc 76 args).run Try.prog w = .ok (.enter 76 args) w := enters_of Try.func76 (by kernel_rfl) rfl
  clear hg hc hp hcm
  go_enter Try.func74, Try.ntmps74
  go_wp2_with fail
  refine (index_any a N c T rb mb nn v O _ G.out.src (by omega) HC.out HP.out).mono ?_
  rintro e w1 ⟨hb, hr⟩
  have HB1 := Lib.hid hb
  clear hb
  rcases hr with ⟨hall, rfl⟩ | ⟨i0, hi0N, hin, hfst, rfl⟩
  · have HK : Hid (ki T O N = List.range N) := Lib.hid (ki_first T O N hall)
    clear hall
    go_wp2
    go_ret
    refine ⟨HB1.out.mono hlo, HB1.out.size, a, c, T, ?_, ?_, fun k hk => ?_⟩
    · rw [HK.out]; simp
    · rw [HK.out, List.length_range]; exact G.out.src.below HB1.out
    · simp only [HK.out, List.getElem_range]
  · have HK0 := Lib.hid (KI.start (N := N) hfst hin)
    obtain ⟨b, q, rfl, hgo⟩ : ∃ b q, a = some ⟨b, q, none⟩ ∧ GOwn w lo hi b q N T := by
      rcases G.out with h0 | h
      · omega
      · exact h
    have hblo := hgo.glo
    have RW1 := Lib.hid ((RW.of hgo).below HB1.out)
    have HBl := Lib.hid (HB1.out.mono hlo)
    have z1 := HB1.out.size
    have hne : ((i0 : Int) == -1) = false := by simp
    clear hfst hin hgo
    go_wp2
    go_loopw [5, 6] (fun p p6 wr => ∃ (i j : Nat) (V : Nat → GM), i < j ∧ j ≤ N ∧ p = .int .i64 (i : Int) ∧ p6 = .int .i64 (j : Int) ∧ Hid (Below lo w wr) ∧ w.heap.size ≤ wr.heap.size ∧ Hid (RW wr b q N V) ∧ Hid (KI T O N i j V)) (fun _ p6 _ => N - (intOf p6).toNat)
    case atStart => exact ⟨i0, i0 + 1, T, by omega, by omega, rfl, by go_num, HBl, z1, RW1, HK0⟩
    case round =>
      clear HBl RW1 HK0 HB1
      obtain ⟨i, j, V, hij, hjN, rfl, rfl, HB_r, hzr, RW_r, HK⟩ := hrel
      by_cases hlt : j < N
      · have hlt' : (j : Int) < (N : Int) := by omega
        have hj0 : (0 : Int) ≤ (j : Int) := by omega
        have hi0' : (0 : Int) ≤ (i : Int) := by omega
        have hiI : (i : Int) < (N : Int) := by omega
        have hiN : i < N := by omega
        have hVj : V j = T j := HK.out.2.2 j (Nat.le_refl _) hlt
        have hsix := RW_r.out.six j hlt
        have hp := HP.out j hlt
        have hfl := RW_r.out.flds j hlt
        have hof := RW_r.out.off j hlt
        rw [hVj] at hsix hfl hof
        have lbb := RW_r.out.lt
        have HSK := Lib.hid (fun h => KI.skip HK.out h)
        have HKP := Lib.hid (fun h => KI.keep HK.out hij h)
        have HTJ : Hid (∃ t, T j = t) := Lib.hid ⟨_, rfl⟩
        obtain ⟨t, hte⟩ := HTJ.out
        rw [hte] at hsix hp hfl hof HSK HKP
        have HFL := Lib.hid hfl; have HOF := Lib.hid hof
        have HB0 := Lib.hid (HB_r.out.alloc (by omega) (.cells #[.int .i64 t.at_, .int .i64 t.s, .int .i64 t.m, .int .i64 t.o, .int .i64 t.h, .slice t.a t.n t.c] 111))
        have RW0 := Lib.hid (RW_r.out.below ((Below.refl _ _).alloc (Nat.le_refl _) (.cells #[.int .i64 t.at_, .int .i64 t.s, .int .i64 t.m, .int .i64 t.o, .int .i64 t.h, .slice t.a t.n t.c] 111)))
        have HFL0 := Lib.hid (hfl.alloc (.cells #[.int .i64 t.at_, .int .i64 t.s, .int .i64 t.m, .int .i64 t.o, .int .i64 t.h, .slice t.a t.n t.c] 111))
        have zz : wr.heap.size + 1 = (wr.alloc (.cells #[.int .i64 t.at_, .int .i64 t.s, .int .i64 t.m, .int .i64 t.o, .int .i64 t.h, .slice t.a t.n t.c] 111)).heap.size := by simp
        clear hVj hte hfl hof HTJ
        obtain ⟨s0, s1, s2, s3, s4, s5⟩ := hsix
        by_cases hin : t.at_ ∈ O
        · have hd : decide (t.at_ ∈ O) = true := decide_eq_true hin
          have HKN := Lib.hid (HSK.out hin)
          clear hin
          go_wp2_with (go_at_fn 76; refine (clos_any rb mb nn v O t _ (HC.out.under HB0.out hrb hmb) hp).mono ?_; rintro e w2 ⟨rfl, hb⟩; rw [hd]; have HB2 := Lib.hid (HB0.out.trans (hb.mono (by omega))); have RW2 := Lib.hid (RW0.out.below hb); have z2 := hb.size; clear hb)
          clear s0 s1 s2 s3 s4 s5 hd
          go_roundw
          case rel => first | exact ⟨i, j + 1, V, by omega, by omega, rfl, by go_num, HB2, by omega, RW2, HKN⟩ | ((repeat apply Exists.intro); exact ⟨⟨i, j + 1, V, by omega, by omega, rfl, by go_num, HB2, by omega, RW2, HKN⟩, rfl⟩)
          case measure => simp [intOf]; omega
        · have hd : decide (t.at_ ∈ O) = false := decide_eq_false hin
          have HKN := Lib.hid (HKP.out hin)
          have X0 := Lib.hid (Blk.new_at (w := wr) (cs := #[.int .i64 t.at_, .int .i64 t.s, .int .i64 t.m, .int .i64 t.o, .int .i64 t.h, .slice t.a t.n t.c]) (t := 111) wr.heap.size rfl)
          clear hin
          go_upto_region 9 with (go_at_fn 76; refine (clos_any rb mb nn v O t _ (HC.out.under HB0.out hrb hmb) hp).mono ?_; rintro e w2 ⟨rfl, hb⟩; rw [hd]; have HB2 := Lib.hid (HB0.out.trans (hb.mono (by omega))); have RW2 := Lib.hid (RW0.out.below hb); have X2 := Lib.hid (X0.out.below hb); have HFL2 := Lib.hid (HFL0.out.below hb); have z2 := hb.size; clear hb)
          clear s0 s1 s2 s3 s4 s5 hd
          have lX := X2.out.1; have cX0 := X2.out.at 0 rfl; have cX1 := X2.out.at 1 rfl; have cX2 := X2.out.at 2 rfl; have cX3 := X2.out.at 3 rfl; have cX4 := X2.out.at 4 rfl; have cX5 := X2.out.at 5 rfl
          obtain ⟨y0, y1, y2, y3, y4, y5⟩ := RW2.out.six i hiN
          obtain ⟨g0, g1, g2, g3, g4, g5⟩ := RW2.out.free i hiN
          have lb2 := RW2.out.lt
          go_upto_region 10 with fail
          clear y0 y1 y2 y3 y4 y5 g0 g1 g2 g3 g4 g5
          clear lX cX0 cX1 cX2 cX3 cX4 cX5
          have RW3 := Lib.hid (RW2.out.set hiN HFL2.out HOF.out)
          have HB3 := Lib.hid (HB2.out.trans ((sixW_keeps w2 b (q + i * 6) t).below (by omega) (by omega)))
          have z3 := (sixW_keeps w2 b (q + i * 6) t).size
          have hif : ∀ k, (if k = i then t else V k) = (if k = i then t else V k) := fun k => rfl
          change Code.wp _ _ _ _ (sixW w2 b (q + i * 6) t)
          generalize sixW w2 b (q + i * 6) t = w3 at *
          go_wp2
          go_roundw
          case rel => first | exact ⟨i + 1, j + 1, _, by omega, by omega, by go_num, by go_num, HB3, by omega, RW3, HKN⟩ | ((repeat apply Exists.intro); exact ⟨⟨i + 1, j + 1, _, by omega, by omega, by go_num, by go_num, HB3, by omega, RW3, HKN⟩, rfl⟩)
          case measure => simp [intOf]; omega
      · have hlt' : ¬ (j : Int) < (N : Int) := by omega
        obtain rfl : j = N := by omega
        have hiN : i < j := hij
        have hi0' : (0 : Int) ≤ (i : Int) := by omega
        have hl1 : (i : Int) ≤ (j : Int) := by omega
        have hl2 : (j : Int) ≤ (c : Int) := by omega
        have hl3 : (i : Int) ≤ (c : Int) := by omega
        have hci : ¬ c = i := by omega
        have lb9 := RW_r.out.lt
        obtain ⟨zs, hzs⟩ := run_clear_obj wr 0 b (q + i * 6) (j - i) (c - i) (by omega) (fun o ho => by rw [Nat.add_assoc]; exact (RW_r.out.has (i * 6 + o) (by omega)).1) (fun o ho => by rw [Nat.add_assoc]; exact (RW_r.out.has (i * 6 + o) (by omega)).2)
        go_wp2
        go_ret
        have hk1 := HK.out.1
        refine ⟨below_setC hblo _ _ _ HB_r.out, by rw [setCells_size]; exact hzr, some ⟨b, q, none⟩, c, V, ?_, ?_, HK.out.2.1⟩
        · rw [← hk1]; rfl
        · rw [← hk1]; exact .inr ⟨b, q, rfl, RW_r.out.cut (by omega) zs⟩
end Go.Proofs.Ytbhjmomphajnnaa

namespace Go.Proofs.Ytbhjmomphajnnaa
open Go.RowKit Go.Maps
set_option linter.unusedVariables false

theorem outG_get {f : Nat → Int} {L : List Ob} {roots : List Int} {T : Nat → GM} (hT : ∀ i, i < L.length → GSame (T i) (obT f L i)) : outG f L roots 0 = (ki T (reachO f L roots) L.length).map (fun k => (T k).at_) := by
  have e : placesO L = (List.range L.length).map (fun k => (T k).at_) := by
    apply List.ext_getElem?
    intro i
    by_cases hi : i < L.length
    · have hs := hT i hi
      rw [obT_get f hi] at hs
      have e1 : (T i).at_ = L[i].at_ := hs.1
      simp [placesO, hi, e1]
    · rw [List.getElem?_eq_none (by simp [placesO]; omega), List.getElem?_eq_none (by simp; omega)]
  unfold outG ki
  rw [if_pos rfl, e, List.filter_map]
  rfl

theorem fld_ors (x y : Value) (w : World) : (Instr.field 121 (.agg #[x, y]) 1).run Try.prog w = .ok y w := by kernel_rfl

set_option maxRecDepth 100000 in
set_option maxHeartbeats 3200000 in
theorem implGI_any (h ac bu : Int) (a : Option Addr) (n c : Nat) (f : Nat → Int) (ra : Option Addr) (roots : List Int) (rc : Nat) (co : Int) (L : List Ob) (w : World) (hs : Src w a n f) (hcn : n ≤ c) (hcm : c ≤ maxLen) (hrs : Src w ra roots.length (lf roots)) (hk : IsAsk h n f ac bu roots co L) :
    Calls Try.prog 17 #[.agg #[.int .i64 h, .slice a n c, .int .i64 ac, .int .i64 bu], .slice ra roots.length rc] w (RetIR w co (outG f L roots co).length (lf (outG f L roots co))) := by
  have HS := Lib.hid hs; have HK := Lib.hid hk; have HCM := Lib.hid hcm; have HRS := Lib.hid hrs
  clear hs hk hcm hrs
  go_enter Try.func17, Try.ntmps17
  go_wp2_with fail
  refine (reachIn_any h ac bu a n c f ra roots rc co L _ ((HS.out.alloc _).alloc _) hcn HCM.out ((HRS.out.alloc _).alloc _) HK.out).mono ?_
  rintro e w1 ⟨hb, hr⟩
  have HB1 := Lib.hid (thru2 (Below.refl _ _) hb)
  have R_1 := Lib.hid ((Blk.new_at (w := w.alloc (.cells #[.int .i64 h, .slice a n c, .int .i64 ac, .int .i64 bu] 26)) (cs := #[.int .i64 0, .slice none 0 0]) (t := 35) (w.heap.size + 1) (by simp)).below hb)
  have z1 : w.heap.size + 2 ≤ w1.heap.size := by have := hb.size; simp at this; omega
  have HBb := Lib.hid hb
  clear hb
  have hz := HB1.out.size
  rcases hr with ⟨h0, rfl⟩ | ⟨rfl, a1, c1, mb, T0, rfl, hg, hm, hsm⟩
  · have HE := Lib.hid (outG_no f L roots h0)
    have hd : (co != 0) = true := by simpa using h0
    clear h0
    have lR := R_1.out.1; have cR0 := R_1.out.at 0 rfl; have fR0 := R_1.out.free 0 rfl; have cR1 := R_1.out.at 1 rfl; have fR1 := R_1.out.free 1 rfl
    go_wp2
    refine bodyPost_ret (v := .agg #[.int .i64 co, .slice none 0 0]) (by simp [results, Try.results17, go_sem, cR0, cR1, lR]) rfl ?_
    rw [HE.out]
    refine ⟨none, 0, rfl, .inl rfl, ?_⟩
    repeat (first | (with_reducible refine Below.setCell ?_ (by (try simp); (try omega)) _) | (with_reducible refine Below.alloc ?_ (by (try simp); (try omega)) _) | (with_reducible refine Below.drew ?_))
    exact HB1.out
  · have HKZ := Lib.hid (isAsk_zero HK.out)
    have HM := Lib.hid hm
    clear hg hm hsm
    have HB2 := Lib.hid (HB1.out.alloc hz (.cells #[.int .i64 0, .slice a1 (reachO f L roots).length c1, .map (some mb)] 101))
    have R_2 := Lib.hid (R_1.out.alloc (.cells #[.int .i64 0, .slice a1 (reachO f L roots).length c1, .map (some mb)] 101))
    have X_2 := Lib.hid (Blk.new_at (w := w1) (cs := #[.int .i64 0, .slice a1 (reachO f L roots).length c1, .map (some mb)]) (t := 101) w1.heap.size rfl)
    have hz2 : w1.heap.size + 1 = (w1.alloc (.cells #[.int .i64 0, .slice a1 (reachO f L roots).length c1, .map (some mb)] 101)).heap.size := by simp
    have M_2 := Lib.hid (HM.out.alloc (.cells #[.int .i64 0, .slice a1 (reachO f L roots).length c1, .map (some mb)] 101))
    have hmb : mb < w1.heap.size := HM.out.lt
    have A_1 : Hid (Blk w1 w.heap.size [.int .i64 h, .slice a n c, .int .i64 ac, .int .i64 bu]) := Lib.hid (((Blk.new_at (w := w) (cs := #[.int .i64 h, .slice a n c, .int .i64 ac, .int .i64 bu]) (t := 26) w.heap.size rfl).alloc (.cells #[.int .i64 0, .slice none 0 0] 35)).below HBb.out)
    have A_2 := Lib.hid (A_1.out.alloc (.cells #[.int .i64 0, .slice a1 (reachO f L roots).length c1, .map (some mb)] 101))
    have lA := A_2.out.1; have cA0 := A_2.out.at 0 rfl; have cA1 := A_2.out.at 1 rfl; have cA2 := A_2.out.at 2 rfl; have cA3 := A_2.out.at 3 rfl
    have lX := X_2.out.1; have cX0 := X_2.out.at 0 rfl; have cX1 := X_2.out.at 1 rfl; have cX2 := X_2.out.at 2 rfl
    clear HB1 R_1 hz HM A_1
    have hf5 := fld_ors
    go_wp2_with fail
    clear lA cA0 cA1 cA2 cA3 lX cX0 cX1 cX2
    generalize w1.alloc (.cells #[.int .i64 0, .slice a1 (reachO f L roots).length c1, .map (some mb)] 101) = w2 at *
    refine (implOI h ac bu a n c f 0 L _ (HS.out.below HB2.out) hcn HCM.out HKZ.out.2.1).mono ?_
    rintro e w3 ⟨a3, c3, T, rfl, hgo, hT, hb, hc31, hc32⟩
    have HB3 := Lib.hid (HB2.out.trans (hb.mono HB2.out.size))
    have R_3 := Lib.hid (R_2.out.below hb); have X_3 := Lib.hid (X_2.out.below hb); have M_3 := Lib.hid (M_2.out.below hb)
    have HGO := Lib.hid hgo; have HT := Lib.hid hT
    have z3 := hb.size
    clear hb hgo hT R_2 X_2 M_2
    go_wp2_with fail
    have HSH := Lib.hid (shaped_of HKZ.out.1 HKZ.out.2.1 HGO.out.src HT.out)
    have hl4 := HSH.out.len
    refine (delete_any a3 w2.heap.size w3.heap.size L.length c3 T w1.heap.size mb (reachO f L roots).length (.slice a1 (reachO f L roots).length c1) (reachO f L roots) _ HGO.out (by omega) hc31 hc32 ⟨X_3.out, M_3.out⟩ (by omega) (by omega) z3 (fun i hi => by have := (HSH.out.obj hi).2.2; omega)).mono ?_
    rintro e w4 ⟨hb, hz4, a4, c4, U, rfl, hgU, hU⟩
    have HB4 := Lib.hid (HB3.out.trans (hb.mono HB2.out.size))
    have R_4 := Lib.hid (blk_under R_3.out hb (by omega))
    have HOG : Hid ((outG f L roots 0).length = (ki T (reachO f L roots) L.length).length ∧ ∀ k (hk : k < (ki T (reachO f L roots) L.length).length), lf (outG f L roots 0) k = (T (ki T (reachO f L roots) L.length)[k]).at_) := Lib.hid (by
      have e := outG_get (roots := roots) HT.out
      refine ⟨by rw [e]; simp, fun k hk => ?_⟩
      rw [e, lf_at (by simpa using hk)]
      simp)
    have HGU : Hid (GV w4 a4 (outG f L roots 0).length U) := Lib.hid (by rw [HOG.out.1]; exact hgU)
    have HUU : Hid (∀ k, k < (outG f L roots 0).length → (U k).at_ = lf (outG f L roots 0) k) := Lib.hid (fun k hk => by rw [HOG.out.1] at hk; rw [hU k hk, HOG.out.2 k hk])
    have hkl := ki_le T (reachO f L roots) L.length
    have hgl : (outG f L roots 0).length ≤ 1000000 := by have := HOG.out.1; omega
    rw [← HOG.out.1]
    clear hb hgU hU hc31 hc32 R_3 X_3 M_3 HSH HGO hkl
    go_wp2_with fail
    refine (places_any a4 (outG f L roots 0) c4 U _ HGU.out hgl HUU.out).mono ?_
    rintro e w5 ⟨a5, c5, rfl, ho5, hb, h51, h52, h53⟩
    have HB5 := Lib.hid (thru0 HB4.out hb)
    have R_5 := Lib.hid (R_4.out.below hb)
    have HO5 := Lib.hid ho5
    have z5 := hb.size
    clear hb ho5 h51 h52 h53 R_4
    have lR := R_5.out.1; have cR0 := R_5.out.at 0 rfl; have fR0 := R_5.out.free 0 rfl; have cR1 := R_5.out.at 1 rfl; have fR1 := R_5.out.free 1 rfl
    go_wp2
    refine bodyPost_ret (v := .agg #[.int .i64 0, .slice a5 (outG f L roots 0).length c5]) (by simp [results, Try.results17, go_sem, cR0, cR1]) rfl ⟨a5, c5, rfl, ?_, ?_⟩
    · refine Own.mono (B := w4.heap.size) ?_ (by omega)
      repeat (first | (with_reducible refine Own.setCell ?_ (by (try simp); (try omega)) _) | (with_reducible refine Own.alloc ?_ _) | (with_reducible refine Own.drew ?_))
      exact HO5.out
    · repeat (first | (with_reducible refine Below.setCell ?_ (by (try simp); (try omega)) _) | (with_reducible refine Below.alloc ?_ (by (try simp); (try omega)) _) | (with_reducible refine Below.drew ?_))
      exact HB5.out
end Go.Proofs.Ytbhjmomphajnnaa

namespace Go.Proofs.Ytbhjmomphajnnaa
open Go.RowKit Go.Maps
set_option linter.unusedVariables false

theorem keeps_grown {w w' : World} {b : Nat} (h : Keeps w w' b (b + 1)) : w.grownBy w' (some b) :=
  ⟨h.os, h.tape, h.output, h.size, fun k hk hne => h.block k hk (by rcases Nat.lt_trichotomy k b with h1 | h1 | h1; exact .inl h1; exact absurd (by rw [h1]) hne; exact .inr (by omega))⟩

/-- l3Objects, of an arena without a fault: some list. -/
theorem l3Objs_some (b : Nat) (h ac bu : Int) (a : Option Addr) (n c : Nat) (f : Nat → Int) (w : World) (hB : Blk w b [.int .i64 h, .slice a n c, .int .i64 ac, .int .i64 bu]) (hs : Src w a n f) (hcn : n ≤ c) (hcm : c ≤ maxLen) (hF : IsFault h n f ac bu 0) :
    Calls Try.prog 139 #[.pointer (some ⟨b, 0, none⟩)] w fun e w' => Below w.heap.size w w' ∧ ∃ (r : Bool) (a' : Option Addr) (M : List OM) (c' : Nat), e = .returned (.tuple #[.slice a' M.length c', .bool r]) ∧ OMS w' w.heap.size w.heap.size f (.slice a' M.length c') M := by
  obtain ⟨⟨⟨g1, g2⟩, ⟨g3, g4⟩, g5, g6⟩, gn, gw⟩ := isFault_ok hF
  cases hp : parse f ((baseI ac h).toNat + bu.toNat) (baseI ac h).toNat with
  | some L =>
    have ho : IsOI h n f ac bu 0 L := .inr (.inr ⟨hF, hp, rfl⟩)
    refine (l3Objs_any b h ac bu a n c f L w hB hs hcn hcm ho).mono ?_
    rintro e w' ⟨hb, v, M, hL, rfl, hm⟩
    obtain ⟨a1, k1, rfl⟩ := row_nil hm.row
    exact ⟨hb, true, a1, M, k1, rfl, hm⟩
  | none =>
    have hb := baseI_bd (ac := ac) g1
    obtain ⟨P, hP⟩ : ∃ P : Nat, baseI ac h = (P : Int) := ⟨(baseI ac h).toNat, by omega⟩
    obtain ⟨U, rfl⟩ : ∃ U : Nat, bu = (U : Int) := ⟨bu.toNat, by omega⟩
    obtain ⟨ab, ao, rfl, hab, hac⟩ := src_some hs (by omega)
    rw [hP, Int.toNat_natCast, Int.toNat_natCast] at hp
    have hPU : P + U ≤ n := by rcases (by omega : ac = 0 ∨ ac = 1) with rfl | rfl <;> simp [baseI] at hP <;> omega
    refine (l3Objects_any b P U h ac ab ao n c f w hB hs g1 g2 g3 g4 hP hPU (by omega) hcn hcm (fun i hi => by have := gw i hi; unfold Word at this; omega)).mono ?_
    rintro e w' ⟨hb1, hr⟩
    rw [hp] at hr
    obtain ⟨_, rfl⟩ | ⟨v, M, hx, _⟩ := hr
    · exact ⟨hb1, false, none, [], 0, rfl, World.ownsRow_nil _ _ _ _, ⟨fun t ht => (by cases ht), List.Pairwise.nil⟩, by simp, fun t ht => (by cases ht)⟩
    · cases hx

/-- Roots are drawn. -/
def RetRoots (W : World) (b : Nat) (ca : Option Addr) (k kc t : Nat) (e : Ending) (w' : World) : Prop :=
  ∃ (v : Value) (l : List Int) (t' : Nat), e = .returned v ∧ w'.ownsRow W.heap.size 2 1 v l.length (nums l.length (lf l)) ∧ l.length ≤ 4 ∧ Blk w' b [.slice ca k kc, .int .i64 (t' : Int)] ∧ t' ≤ t + 6 ∧ Keeps W w' b (b + 1)

set_option maxRecDepth 100000 in
set_option maxHeartbeats 3200000 in
theorem roots_any (b S : Nat) (ca : Option Addr) (k kc t : Nat) (B : Nat → Int) (P lo hi : Nat) (h ac bu : Int) (a : Option Addr) (n c : Nat) (f : Nat → Int) (w : World) (hB0 : Blk w b [.slice ca k kc, .int .i64 (t : Int)]) (hs : SrcB w S ca k B) (hS : S ≤ b) (hk0 : k ≤ 1048576) (ht : t ≤ 1000)
    (hA : Blk w P [.int .i64 h, .slice a n c, .int .i64 ac, .int .i64 bu]) (hPb : P ≠ b) (hO : OwnIn w lo hi a n f) (hlo : b + 1 ≤ lo) (hhi : hi ≤ w.heap.size) (hF : IsFault h n f ac bu 0) (hcn : n ≤ c) (hcm : c ≤ maxLen) :
    Calls Try.prog 130 #[.pointer (some ⟨b, 0, none⟩), .pointer (some ⟨P, 0, none⟩)] w (RetRoots w b ca k kc t) := by
  have S_0 := Lib.hid hB0; have B_0 := Lib.hid hs; have A_0 := Lib.hid hA; have O_0 := Lib.hid hO; have HF := Lib.hid hF; have HCM := Lib.hid hcm
  have hbl := hB0.1; have hPl := hA.1
  have hSl : S ≤ w.heap.size := by omega
  obtain ⟨i0, hif, hz0, hz1, hz2⟩ := info_parts Try.info2
  clear hB0 hs hA hO hF hcm
  go_enter Try.func130, Try.ntmps130
  go_wp2_with fail
  have K_a := Lib.hid ((Keeps.refl w b (b + 1)).alloc (.cells #[] 2))
  have S_a := Lib.hid (S_0.out.alloc (.cells #[] 2)); have B_a := Lib.hid (B_0.out.alloc (.cells #[] 2)); have A_a := Lib.hid (A_0.out.alloc (.cells #[] 2)); have O_a := Lib.hid (O_0.out.alloc (.cells #[] 2))
  have OWa : Hid ((w.alloc (.cells #[] 2)).ownsRow w.heap.size 2 1 (.slice (some ⟨w.heap.size, 0, none⟩) 0 0) ([] : List Int).length (nums ([] : List Int).length (lf []))) := World.ownsRow_lit w #[] 0 (Nat.le_refl _) (by simp [maxLen]) rfl
  clear S_0 B_0 A_0 O_0
  generalize w.alloc (.cells #[] 2) = wa at *
  refine (next_is 4 b S ca k kc t 4 B _ rfl S_a.out B_a.out hS hk0 (by omega) (by omega) (by omega)).mono ?_
  rintro e w1 ⟨m, rfl, hm4, hB, hk⟩
  have K_1 := Lib.hid (K_a.out.trans hk)
  have S_1 : Hid (Blk w1 b [.slice ca k kc, .int .i64 ((t + 1 : Nat) : Int)]) := Lib.hid (by have := hB; simpa using this)
  have B_1 := Lib.hid (B_a.out.keeps hk hS)
  have A_1 := Lib.hid (A_a.out.keeps hk (by omega)); have O_1 := Lib.hid (O_a.out.keeps hk (by omega))
  have OW_1 := Lib.hid (OWa.out.kept (keeps_grown hk) (.inr (by simp [Value.ownBlock]; omega)))
  clear hB hk K_a S_a B_a A_a O_a OWa
  go_wp2
  go_loopw [5, 6] (fun u p wr => ∃ (cnt t1 : Nat) (l : List Int), p = .int .i64 (cnt : Int) ∧ cnt + l.length ≤ 4 ∧ t1 + cnt ≤ t + 6 ∧ Hid (Keeps w wr b (b + 1)) ∧ Hid (Blk wr b [.slice ca k kc, .int .i64 (t1 : Int)]) ∧ Hid (SrcB wr S ca k B) ∧ Hid (Blk wr P [.int .i64 h, .slice a n c, .int .i64 ac, .int .i64 bu]) ∧ Hid (OwnIn wr lo hi a n f) ∧ Hid (wr.ownsRow w.heap.size 2 1 u l.length (nums l.length (lf l)))) (fun _ p _ => (intOf p).toNat)
  case atStart => exact ⟨m, t + 1, [], rfl, by simp; omega, by omega, K_1, S_1, B_1, A_1, O_1, OW_1⟩
  case round =>
    clear K_1 S_1 B_1 A_1 O_1 OW_1
    obtain ⟨cnt, t1, l, rfl, hcl, htc, K_r, S_r, B_r, A_r, O_r, OW_r⟩ := hrel
    have hzr := K_r.out.size
    by_cases h0 : 0 < cnt
    · have h0' : (0 : Int) < (cnt : Int) := by omega
      go_wp2_with fail
      refine (l3Objs_some P h ac bu a n c f _ A_r.out O_r.out.src hcn HCM.out HF.out).mono ?_
      rintro e w2 ⟨hb, r, a2, M, c2, rfl, hm⟩
      have hkb := keeps_of_below hb b (b + 1)
      have K_2 := Lib.hid (K_r.out.trans hkb)
      have S_2 := Lib.hid (S_r.out.below hb); have B_2 := Lib.hid (B_r.out.below hb); have A_2 := Lib.hid (A_r.out.below hb); have O_2 := Lib.hid (O_r.out.below hb); have OW_2 := Lib.hid (ownsRow_below OW_r.out hb)
      have M_2 := Lib.hid hm
      have hml := hm.len
      have z2 := hb.size
      clear hb hkb hm K_r S_r B_r A_r O_r OW_r
      by_cases hM : 0 < M.length
      · have hM' : (0 : Int) < (M.length : Int) := by omega
        go_wp2_with fail
        refine (next_is (M.length : Int) b S ca k kc t1 M.length B _ rfl S_2.out B_2.out hS hk0 (by omega) (by omega) (by omega)).mono ?_
        rintro e w3 ⟨j, rfl, hj, hB, hk⟩
        have K_3 := Lib.hid (K_2.out.trans hk)
        have S_3 : Hid (Blk w3 b [.slice ca k kc, .int .i64 ((t1 + 1 : Nat) : Int)]) := Lib.hid (by have := hB; simpa using this)
        have B_3 := Lib.hid (B_2.out.keeps hk hS)
        have A_3 := Lib.hid (A_2.out.keeps hk (by omega)); have O_3 := Lib.hid (O_2.out.keeps hk (by omega))
        have OW_3 := Lib.hid (OW_2.out.kept (keeps_grown hk) (.inr (fun e => by have := (OW_2.out.lt b e).1; omega)))
        have z3 := hk.size
        obtain ⟨x, hx⟩ : ∃ x, (M.map OM.x)[j]? = some x := ⟨_, List.getElem?_eq_getElem (by simpa using hj)⟩
        obtain ⟨g1, cc1, g, cg, e1, hjm, l1, x0, x1, x2, x3, x4, x5, lg, hfc, hss, hmm, hat, hwd⟩ := M_2.out.get hx
        simp only [Value.slice.injEq] at e1
        obtain ⟨rfl, -, rfl⟩ := e1
        have hgb : w.heap.size ≤ g1 := by
          have := M_2.out.row.lt g1 rfl
          omega
        have x0' := (World.cell?_of_block (w := w2) (a := ⟨g1, j * 6, none⟩) (hk.block g1 l1 (by omega))).trans x0
        have hj' : (j : Int) < (M.length : Int) := by omega
        have hj0 : (0 : Int) ≤ (j : Int) := by omega
        have HGE : Hid (∀ k, u5.ownBlock = some k → w.heap.size ≤ k) := Lib.hid (fun k hk => (OW_3.out.lt k hk).1)
        generalize x.at_ = y at *
        clear hB hk K_2 S_2 B_2 A_2 O_2 OW_2 M_2 hx x0 x1 x2 x3 x4 x5 lg hfc hss hmm hat hwd
        go_wp2_with (at_builtin; go_loud (refine wpList_append_lies _ rfl _ _ 24 rfl w.heap.size 2 i0 (.int .i64 0) 1 8 Try.underlying24 hif hz0 hz1 hz2 rfl (by decide) u5 l.length (nums l.length (lf l)) rfl (ownsRow_below OW_3.out ((Below.refl _ _).alloc (Nat.le_refl _) _)) ⟨w3.heap.size, 0, none⟩ 1 1 [.int .i64 y] rfl rfl (news1 w3 y) (by intro u hu; simp only [List.mem_cons, List.mem_nil_iff, or_false] at hu; subst hu; rfl) (by omega) (by unfold maxLen; omega) (by omega) (by simp; omega) (w3.heap.size + 1) (by simp) ?_); intro g9 cap9 w9 hown9 hgrow9 hat9 hlt9)
        have hz9 : w3.heap.size ≤ w9.heap.size := by have := hgrow9.size; simp at this; omega
        have hk9 : Keeps w3 w9 w.heap.size w9.heap.size := ⟨hgrow9.os, hgrow9.tape, hgrow9.output, hz9, fun q hq hd => by
          rcases hd with hd | hd
          · exact (hgrow9.block q (by simp; omega) (fun e => by have := HGE.out q e.symm; omega)).trans (Below.heap_alloc _ _ _ hq)
          · omega⟩
        have K_9 : Hid (Keeps w w9 b (b + 1)) := Lib.hid ⟨hk9.os.trans K_3.out.os, hk9.tape.trans K_3.out.tape, hk9.output.trans K_3.out.output, Nat.le_trans K_3.out.size hk9.size, fun q hq hd => (hk9.block q (by omega) (.inl hq)).trans (K_3.out.block q hq hd)⟩
        have S_9 := Lib.hid (S_3.out.keeps hk9 (.inl hbl)); have B_9 := Lib.hid (B_3.out.keeps hk9 hSl); have A_9 := Lib.hid (A_3.out.keeps hk9 (.inl hPl)); have O_9 := Lib.hid (O_3.out.keeps hk9 (.inl hhi))
        have OW_9 : Hid (w9.ownsRow w.heap.size 2 1 (.slice (some ⟨g9, 0, none⟩) (l.length + 1) cap9) (l ++ [y]).length (nums (l ++ [y]).length (lf (l ++ [y])))) := Lib.hid (by
          rw [show (l ++ [y]).length = l.length + 1 by simp, ← nums_snoc]; exact hown9)
        clear hown9 hgrow9 hat9 hk9 K_3 S_3 B_3 A_3 O_3 OW_3 x0'
        go_wp2
        go_roundw
        case rel => first | exact ⟨cnt - 1, t1 + 1, l ++ [y], by go_num, by simp; omega, by omega, K_9, S_9, B_9, A_9, O_9, OW_9⟩ | ((repeat apply Exists.intro); exact ⟨⟨cnt - 1, t1 + 1, l ++ [y], by go_num, by simp; omega, by omega, K_9, S_9, B_9, A_9, O_9, OW_9⟩, rfl⟩)
        case measure => simp [intOf]; omega
      · have hM' : ¬ (0 : Int) < (M.length : Int) := by omega
        go_wp2
        go_roundw
        case rel => first | exact ⟨cnt - 1, t1, l, by go_num, by omega, by omega, K_2, S_2, B_2, A_2, O_2, OW_2⟩ | ((repeat apply Exists.intro); exact ⟨⟨cnt - 1, t1, l, by go_num, by omega, by omega, K_2, S_2, B_2, A_2, O_2, OW_2⟩, rfl⟩)
        case measure => simp [intOf]; omega
    · have h0' : ¬ (0 : Int) < (cnt : Int) := by omega
      go_wp2
      go_ret
      exact ⟨_, l, t1, rfl, OW_r.out, by omega, S_r.out, by omega, K_r.out⟩
end Go.Proofs.Ytbhjmomphajnnaa

