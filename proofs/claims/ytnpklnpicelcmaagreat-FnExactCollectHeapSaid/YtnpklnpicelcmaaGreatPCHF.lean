/- FnExactCollectHeap returns true at every input, and its arguments read afterwards as before. No condition beside those of the statement itself. -/
import Derived.Test.YtnpklnpicelcmaaGreatPC6
namespace Go.Proofs.YtnpklnpicelcmaaGreat
open Go.ChangeShapes Go.WideShapes Go.ChangeAt Go.RowKit Go.Joins
set_option linter.unusedVariables false

set_option maxRecDepth 100000 in
theorem p3_lifted (os : Os) (started : os.Started) (H : Type) (enc : TypeId × Value → H) :
    ReturnsInHanded {} Tryz.checked os 3 .any (Rows.fnExactCollectHeapSpec.pre6 enc Tryz.prog Tryz.f3 Rows.fnExactCollectHeapRow.domain false) (Rows.fnExactCollectHeapSpec.post enc Tryz.prog Tryz.f3 false true false false) := by
  refine returnsInHanded_of_change (C := Tryz.checked) Tryz.own started (by kernel_rfl) Tryz.func3
    (ChangeSpec.witness6 (enc := enc) (C := Tryz.checked) false ⟨#[], #[.agg #[.int .i64 0, .slice none 0 0, .int .i64 0, .int .i64 0, .slice none 0 0]], []⟩ 8 (by kernel_rfl) (by kernel_rfl) (by kernel_rfl) (by kernel_rfl)) ?_
  intro W base args ds gs before hval0 hW hcnd _
  have hval : ∀ (j : Nat) t v, Tryz.f3.params[j]? = some t → args[j]? = some v → Value.okWide Tryz.prog W .any base t v := hval0
  have hW' := hW
  obtain ⟨p, q, hA0, hV, rfl, hfz, hnd⟩ := hW
  have hA : DataW.TrodAll enc Tryz.prog W 0 (fun _ => true) true Tryz.f3.params.toList args.toList ds p := hA0
  rw [Tryz.params3] at hA hval
  obtain ⟨v0, vs0, d0, ds0, p0, q0, hargs, rfl, rfl, h0, r0⟩ := trodAll_cons hA
  obtain ⟨rfl, rfl, rfl⟩ := trodAll_nil r0
  obtain rfl : args = #[v0] := by cases args; simp_all
  obtain ⟨rfl, rfl⟩ := trodVars_none hV
  have k0 := h0
  have lt0 : ∀ x ∈ p0, x.block < W.heap.size := by obtain ⟨m, hm⟩ := k0; exact DataW.trod_lt m _ _ _ hm
  obtain ⟨x0h, x0ac, x0bu, x0a, x0n, x0c, x0f, x0ta, x0N, x0tc, x0T, rfl, hs0, hn0, ht0, hN0, hM0, hW0⟩ := open_heap2 (hval 0 27 v0 rfl rfl) h0
  clear hA0 hval0
  refine (e3_any  x0h x0ac x0bu x0a x0n x0c x0f x0ta x0N x0tc x0T W hs0 hn0 ht0 hN0 hM0 hW0).mono fun e W' ⟨he, bel⟩ => ?_
  subst he
  exact ⟨_, rfl, _, _, _, [], _, [], hW', trodAll_mk1 (shut_bool Tryz.underlying4 _), (trodAll_cons_mk (Below.trod Tryz.laidOut (by kernel_rfl) (of_decide_eq_true (by kernel_rfl)) k0 bel lt0) trodAll_mk0), rfl, bel.frame _, fun h => by cases h⟩

theorem p3_named : Tryz.checked.prog.funcNamed Rows.fnExactCollectHeapRow.func = some 3 := by kernel_rfl

set_option maxHeartbeats 4000000 in
theorem p3_facts : joinedFacts Tryz.checked.prog 3 Tryz.f3 Rows.fnExactCollectHeapSpec Rows.fnExactCollectHeapRow = true := by
  simp only [joinedFacts, Bool.and_eq_true]
  repeat' apply And.intro
  all_goals (as_aux_lemma => kernel_rfl)

theorem p3_wrap : Tryz.f3.isWrapper Tryz.checked.prog Rows.fnExactCollectHeapRow.wrapper Rows.fnExactCollectHeapRow.mainSum := by unfold Func.isWrapper; first | (rw [if_pos (by decide +kernel)]; kernel_rfl) | (rw [if_neg (by decide +kernel)]; exact ⟨rfl, rfl⟩)

theorem p3_inst : Tryz.f3.isInstance Tryz.checked.prog Rows.fnExactCollectHeapRow.origin Rows.fnExactCollectHeapRow.targs := of_decide_eq_true (by kernel_rfl)

theorem p3_holds : Rows.FnExactCollectHeapSaid :=
  OpenClaim.holds_of_wide 3 Tryz.f3 rfl rfl rfl rfl rfl rfl rfl ⟨rfl, rfl, rfl, rfl, rfl⟩ rfl rfl rfl rfl rfl p3_named Tryz.func3 p3_facts p3_inst p3_wrap
    (fun os started H enc _ => p3_lifted  os started H enc)
#print axioms p3_holds
end Go.Proofs.YtnpklnpicelcmaaGreat

