/- FnExactSameCopies returns true at every input, and its arguments read afterwards as before. No condition beside those of the statement itself. -/
import Derived.Test.YtnacdhnnpddccaaPQ1
namespace Go.Proofs.Ytnacdhnnpddccaa
open Go.ChangeShapes Go.WideShapes Go.ChangeAt Go.RowKit Go.Joins
set_option linter.unusedVariables false

set_option maxRecDepth 100000 in
theorem p3_lifted (os : Os) (started : os.Started) (H : Type) (enc : TypeId × Value → H) :
    ReturnsInHanded {} Try.checked os 3 .any (Rows.fnExactSameCopiesSpec.pre6 enc Try.prog Try.f3 Rows.fnExactSameCopiesRow.domain false) (Rows.fnExactSameCopiesSpec.post enc Try.prog Try.f3 false true false false) := by
  refine returnsInHanded_of_change (C := Try.checked) Try.own started (by kernel_rfl) Try.func3
    (ChangeSpec.witness6 (enc := enc) (C := Try.checked) false ⟨#[], #[.agg #[.int .i64 0, .slice none 0 0, .int .i64 0, .int .i64 0, .int .i64 0, .bool false], .agg #[.int .i64 0, .slice none 0 0, .int .i64 0, .int .i64 0, .int .i64 0, .bool false]], []⟩ 8 (by kernel_rfl) (by kernel_rfl) (by kernel_rfl) (by kernel_rfl)) ?_
  intro W base args ds gs before hval0 hW hcnd _
  have hval : ∀ (j : Nat) t v, Try.f3.params[j]? = some t → args[j]? = some v → Value.okWide Try.prog W .any base t v := hval0
  have hW' := hW
  obtain ⟨p, q, hA0, hV, rfl, hfz, hnd⟩ := hW
  have hA : DataW.TrodAll enc Try.prog W 0 (fun _ => true) true Try.f3.params.toList args.toList ds p := hA0
  rw [Try.params3] at hA hval
  obtain ⟨v0, vs0, d0, ds0, p0, q0, hargs, rfl, rfl, h0, r0⟩ := trodAll_cons hA
  obtain ⟨v1, vs1, d1, ds1, p1, q1, rfl, rfl, rfl, h1, r1⟩ := trodAll_cons r0
  obtain ⟨rfl, rfl, rfl⟩ := trodAll_nil r1
  obtain rfl : args = #[v0, v1] := by cases args; simp_all
  obtain ⟨rfl, rfl⟩ := trodVars_none hV
  have k0 := h0
  have lt0 : ∀ x ∈ p0, x.block < W.heap.size := by obtain ⟨m, hm⟩ := k0; exact DataW.trod_lt m _ _ _ hm
  obtain ⟨x0o, x0a, x0n, x0c, x0f, x0nx, x0sc, x0fr, x0d, rfl, hs0, hn0⟩ := open_ct (hval 0 24 v0 rfl rfl) h0
  have k1 := h1
  have lt1 : ∀ x ∈ p1, x.block < W.heap.size := by obtain ⟨m, hm⟩ := k1; exact DataW.trod_lt m _ _ _ hm
  obtain ⟨x1o, x1a, x1n, x1c, x1f, x1nx, x1sc, x1fr, x1d, rfl, hs1, hn1⟩ := open_ct (hval 1 24 v1 rfl rfl) h1
  clear hA0 hval0
  refine (e3_any  x0o x0a x0n x0c x0f x0nx x0sc x0fr x0d x1o x1a x1n x1c x1f x1nx x1sc x1fr x1d W hs0 hn0 hs1 hn1).mono fun e W' ⟨he, bel⟩ => ?_
  subst he
  exact ⟨_, rfl, _, _, _, [], _, [], hW', trodAll_mk1 (shut_bool Try.underlying4 _), (trodAll_cons_mk (Below.trod Try.laidOut (by kernel_rfl) (of_decide_eq_true (by kernel_rfl)) k0 bel lt0) (trodAll_cons_mk (Below.trod Try.laidOut (by kernel_rfl) (of_decide_eq_true (by kernel_rfl)) k1 bel lt1) trodAll_mk0)), rfl, bel.frame _, fun h => by cases h⟩

theorem p3_named : Try.checked.prog.funcNamed Rows.fnExactSameCopiesRow.func = some 3 := by kernel_rfl

set_option maxHeartbeats 4000000 in
theorem p3_facts : joinedFacts Try.checked.prog 3 Try.f3 Rows.fnExactSameCopiesSpec Rows.fnExactSameCopiesRow = true := by
  simp only [joinedFacts, Bool.and_eq_true]
  repeat' apply And.intro
  all_goals (as_aux_lemma => kernel_rfl)

theorem p3_wrap : Try.f3.isWrapper Try.checked.prog Rows.fnExactSameCopiesRow.wrapper Rows.fnExactSameCopiesRow.mainSum := by unfold Func.isWrapper; first | (rw [if_pos (by decide +kernel)]; kernel_rfl) | (rw [if_neg (by decide +kernel)]; exact ⟨rfl, rfl⟩)

theorem p3_inst : Try.f3.isInstance Try.checked.prog Rows.fnExactSameCopiesRow.origin Rows.fnExactSameCopiesRow.targs := of_decide_eq_true (by kernel_rfl)

theorem p3_holds : Rows.FnExactSameCopiesSaid :=
  OpenClaim.holds_of_wide 3 Try.f3 rfl rfl rfl rfl rfl rfl rfl ⟨rfl, rfl, rfl, rfl, rfl⟩ rfl rfl rfl rfl rfl p3_named Try.func3 p3_facts p3_inst p3_wrap
    (fun os started H enc _ => p3_lifted  os started H enc)
#print axioms p3_holds
end Go.Proofs.Ytnacdhnnpddccaa

