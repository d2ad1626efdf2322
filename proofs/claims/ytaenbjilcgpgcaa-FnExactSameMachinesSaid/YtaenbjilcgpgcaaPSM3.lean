/- FnExactSameMachines returns true at every input, and its arguments read afterwards as before. No condition beside those of the statement itself. -/
import Derived.Test.YtaenbjilcgpgcaaPSM2
namespace Go.Proofs.Ytaenbjilcgpgcaa
open Go.ChangeShapes Go.WideShapes Go.ChangeAt Go.RowKit Go.Joins
set_option linter.unusedVariables false

set_option maxRecDepth 100000 in
theorem p10_lifted (os : Os) (started : os.Started) (H : Type) (enc : TypeId × Value → H) :
    ReturnsInHanded {} Try.checked os 10 .any (Rows.fnExactSameMachinesSpec.pre6 enc Try.prog Try.f10 Rows.fnExactSameMachinesRow.domain false) (Rows.fnExactSameMachinesSpec.post enc Try.prog Try.f10 false true false false) := by
  refine returnsInHanded_of_change (C := Try.checked) Try.own started (by kernel_rfl) Try.func10
    (ChangeSpec.witness6 (enc := enc) (C := Try.checked) false ⟨#[], #[.agg #[.int .i64 0, .int .i64 0, .int .i64 0, .slice none 0 0, .slice none 0 0], .agg #[.int .i64 0, .int .i64 0, .int .i64 0, .slice none 0 0, .slice none 0 0]], []⟩ 8 (by kernel_rfl) (by kernel_rfl) (by kernel_rfl) (by kernel_rfl)) ?_
  intro W base args ds gs before hval0 hW hcnd _
  have hval : ∀ (j : Nat) t v, Try.f10.params[j]? = some t → args[j]? = some v → Value.okWide Try.prog W .any base t v := hval0
  have hW' := hW
  obtain ⟨p, q, hA0, hV, rfl, hfz, hnd⟩ := hW
  have hA : DataW.TrodAll enc Try.prog W 0 (fun _ => true) true Try.f10.params.toList args.toList ds p := hA0
  rw [Try.params10] at hA hval
  obtain ⟨v0, vs0, d0, ds0, p0, q0, hargs, rfl, rfl, h0, r0⟩ := trodAll_cons hA
  obtain ⟨v1, vs1, d1, ds1, p1, q1, rfl, rfl, rfl, h1, r1⟩ := trodAll_cons r0
  obtain ⟨rfl, rfl, rfl⟩ := trodAll_nil r1
  obtain rfl : args = #[v0, v1] := by cases args; simp_all
  obtain ⟨rfl, rfl⟩ := trodVars_none hV
  have k0 := h0
  have lt0 : ∀ x ∈ p0, x.block < W.heap.size := by obtain ⟨m, hm⟩ := k0; exact DataW.trod_lt m _ _ _ hm
  obtain ⟨x0te, x0qu, x0ha, x0sa, x0M, x0kc, x0S, x0na, x0K, x0nc, x0T, rfl, hp0, hg0, hM0, hK0, hn0⟩ := open_machine (hval 0 70 v0 rfl rfl) h0
  have k1 := h1
  have lt1 : ∀ x ∈ p1, x.block < W.heap.size := by obtain ⟨m, hm⟩ := k1; exact DataW.trod_lt m _ _ _ hm
  obtain ⟨x1te, x1qu, x1ha, x1sa, x1M, x1kc, x1S, x1na, x1K, x1nc, x1T, rfl, hp1, hg1, hM1, hK1, hn1⟩ := open_machine (hval 1 70 v1 rfl rfl) h1
  clear hA0 hval0
  refine (e10_any  x0te x0qu x0ha x0sa x0M x0kc x0S x0na x0K x0nc x0T x1te x1qu x1ha x1sa x1M x1kc x1S x1na x1K x1nc x1T W hp0 hg0 hM0 hK0 hn0 hp1 hg1 hM1 hK1 hn1).mono fun e W' ⟨he, bel⟩ => ?_
  subst he
  exact ⟨_, rfl, _, _, _, [], _, [], hW', trodAll_mk1 (shut_bool Try.underlying4 _), (trodAll_cons_mk (Below.trod Try.laidOut (by kernel_rfl) (of_decide_eq_true (by kernel_rfl)) k0 bel lt0) (trodAll_cons_mk (Below.trod Try.laidOut (by kernel_rfl) (of_decide_eq_true (by kernel_rfl)) k1 bel lt1) trodAll_mk0)), rfl, bel.frame _, fun h => by cases h⟩

theorem p10_named : Try.checked.prog.funcNamed Rows.fnExactSameMachinesRow.func = some 10 := by kernel_rfl

set_option maxHeartbeats 4000000 in
theorem p10_facts : joinedFacts Try.checked.prog 10 Try.f10 Rows.fnExactSameMachinesSpec Rows.fnExactSameMachinesRow = true := by
  simp only [joinedFacts, Bool.and_eq_true]
  repeat' apply And.intro
  all_goals (as_aux_lemma => kernel_rfl)

theorem p10_wrap : Try.f10.isWrapper Try.checked.prog Rows.fnExactSameMachinesRow.wrapper Rows.fnExactSameMachinesRow.mainSum := by unfold Func.isWrapper; first | (rw [if_pos (by decide +kernel)]; kernel_rfl) | (rw [if_neg (by decide +kernel)]; exact ⟨rfl, rfl⟩)

theorem p10_inst : Try.f10.isInstance Try.checked.prog Rows.fnExactSameMachinesRow.origin Rows.fnExactSameMachinesRow.targs := of_decide_eq_true (by kernel_rfl)

theorem p10_holds : Rows.FnExactSameMachinesSaid :=
  OpenClaim.holds_of_wide 10 Try.f10 rfl rfl rfl rfl rfl rfl rfl ⟨rfl, rfl, rfl, rfl, rfl⟩ rfl rfl rfl rfl rfl p10_named Try.func10 p10_facts p10_inst p10_wrap
    (fun os started H enc _ => p10_lifted  os started H enc)
#print axioms p10_holds
end Go.Proofs.Ytaenbjilcgpgcaa

