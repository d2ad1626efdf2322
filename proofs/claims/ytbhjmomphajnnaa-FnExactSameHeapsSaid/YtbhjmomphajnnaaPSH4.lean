/- FnExactSameHeaps returns true at every input, and its arguments read afterwards as before. No condition beside those of the statement itself. -/
import Derived.Test.YtbhjmomphajnnaaPSH3
namespace Go.Proofs.Ytbhjmomphajnnaa
open Go.ChangeShapes Go.WideShapes Go.ChangeAt Go.RowKit Go.Joins
set_option linter.unusedVariables false

set_option maxRecDepth 100000 in
theorem p9_lifted (os : Os) (started : os.Started) (H : Type) (enc : TypeId × Value → H) :
    ReturnsInHanded {} Try.checked os 9 .any (Rows.fnExactSameHeapsSpec.pre6 enc Try.prog Try.f9 Rows.fnExactSameHeapsRow.domain false) (Rows.fnExactSameHeapsSpec.post enc Try.prog Try.f9 false true false false) := by
  refine returnsInHanded_of_change (C := Try.checked) Try.own started (by kernel_rfl) Try.func9
    (ChangeSpec.witness6 (enc := enc) (C := Try.checked) false ⟨#[], #[.agg #[.int .i64 0, .slice none 0 0, .int .i64 0, .int .i64 0, .slice none 0 0], .agg #[.int .i64 0, .slice none 0 0, .int .i64 0, .int .i64 0, .slice none 0 0]], []⟩ 8 (by kernel_rfl) (by kernel_rfl) (by kernel_rfl) (by kernel_rfl)) ?_
  intro W base args ds gs before hval0 hW hcnd _
  have hval : ∀ (j : Nat) t v, Try.f9.params[j]? = some t → args[j]? = some v → Value.okWide Try.prog W .any base t v := hval0
  have hW' := hW
  obtain ⟨p, q, hA0, hV, rfl, hfz, hnd⟩ := hW
  have hA : DataW.TrodAll enc Try.prog W 0 (fun _ => true) true Try.f9.params.toList args.toList ds p := hA0
  rw [Try.params9] at hA hval
  obtain ⟨v0, vs0, d0, ds0, p0, q0, hargs, rfl, rfl, h0, r0⟩ := trodAll_cons hA
  obtain ⟨v1, vs1, d1, ds1, p1, q1, rfl, rfl, rfl, h1, r1⟩ := trodAll_cons r0
  obtain ⟨rfl, rfl, rfl⟩ := trodAll_nil r1
  obtain rfl : args = #[v0, v1] := by cases args; simp_all
  obtain ⟨rfl, rfl⟩ := trodVars_none hV
  have k0 := h0
  have lt0 : ∀ x ∈ p0, x.block < W.heap.size := by obtain ⟨m, hm⟩ := k0; exact DataW.trod_lt m _ _ _ hm
  obtain ⟨x0h, x0ac, x0bu, x0a, x0n, x0c, x0f, x0ta, x0N, x0tc, x0T, rfl, hs0, hn0, ht0, hN0, hM0⟩ := open_heap (hval 0 93 v0 rfl rfl) h0
  have k1 := h1
  have lt1 : ∀ x ∈ p1, x.block < W.heap.size := by obtain ⟨m, hm⟩ := k1; exact DataW.trod_lt m _ _ _ hm
  obtain ⟨x1h, x1ac, x1bu, x1a, x1n, x1c, x1f, x1ta, x1N, x1tc, x1T, rfl, hs1, hn1, ht1, hN1, hM1⟩ := open_heap (hval 1 93 v1 rfl rfl) h1
  clear hA0 hval0
  refine (e9_any  x0h x0ac x0bu x0a x0n x0c x0f x0ta x0N x0tc x0T x1h x1ac x1bu x1a x1n x1c x1f x1ta x1N x1tc x1T W hs0 hn0 ht0 hN0 hM0 hs1 hn1 ht1 hN1 hM1).mono fun e W' ⟨he, bel⟩ => ?_
  subst he
  exact ⟨_, rfl, _, _, _, [], _, [], hW', trodAll_mk1 (shut_bool Try.underlying4 _), (trodAll_cons_mk (Below.trod Try.laidOut (by kernel_rfl) (of_decide_eq_true (by kernel_rfl)) k0 bel lt0) (trodAll_cons_mk (Below.trod Try.laidOut (by kernel_rfl) (of_decide_eq_true (by kernel_rfl)) k1 bel lt1) trodAll_mk0)), rfl, bel.frame _, fun h => by cases h⟩

theorem p9_named : Try.checked.prog.funcNamed Rows.fnExactSameHeapsRow.func = some 9 := by kernel_rfl

set_option maxHeartbeats 4000000 in
theorem p9_facts : joinedFacts Try.checked.prog 9 Try.f9 Rows.fnExactSameHeapsSpec Rows.fnExactSameHeapsRow = true := by
  simp only [joinedFacts, Bool.and_eq_true]
  repeat' apply And.intro
  all_goals (as_aux_lemma => kernel_rfl)

theorem p9_wrap : Try.f9.isWrapper Try.checked.prog Rows.fnExactSameHeapsRow.wrapper Rows.fnExactSameHeapsRow.mainSum := by unfold Func.isWrapper; first | (rw [if_pos (by decide +kernel)]; kernel_rfl) | (rw [if_neg (by decide +kernel)]; exact ⟨rfl, rfl⟩)

theorem p9_inst : Try.f9.isInstance Try.checked.prog Rows.fnExactSameHeapsRow.origin Rows.fnExactSameHeapsRow.targs := of_decide_eq_true (by kernel_rfl)

theorem p9_holds : Rows.FnExactSameHeapsSaid :=
  OpenClaim.holds_of_wide 9 Try.f9 rfl rfl rfl rfl rfl rfl rfl ⟨rfl, rfl, rfl, rfl, rfl⟩ rfl rfl rfl rfl rfl p9_named Try.func9 p9_facts p9_inst p9_wrap
    (fun os started H enc _ => p9_lifted  os started H enc)
#print axioms p9_holds
end Go.Proofs.Ytbhjmomphajnnaa

