/- The facts of the row. -/
import Derived.Test.YtaenbjilcgpgcaaPTM1
namespace Go.Proofs.Ytaenbjilcgpgcaa
open Go.ChangeShapes Go.WideShapes Go.ChangeAt Go.RowKit Go.Joins
set_option linter.unusedVariables false

theorem p8_named : Try.checked.prog.funcNamed Rows.fnExactTidyMachineRow.func = some 8 := by kernel_rfl

set_option maxHeartbeats 4000000 in
theorem p8_facts : joinedFacts Try.checked.prog 8 Try.f8 Rows.fnExactTidyMachineSpec Rows.fnExactTidyMachineRow = true := by
  simp only [joinedFacts, Bool.and_eq_true]
  repeat' apply And.intro
  all_goals (as_aux_lemma => kernel_rfl)

theorem p8_wrap : Try.f8.isWrapper Try.checked.prog Rows.fnExactTidyMachineRow.wrapper Rows.fnExactTidyMachineRow.mainSum := by unfold Func.isWrapper; first | (rw [if_pos (by decide +kernel)]; kernel_rfl) | (rw [if_neg (by decide +kernel)]; exact ⟨rfl, rfl⟩)

theorem p8_inst : Try.f8.isInstance Try.checked.prog Rows.fnExactTidyMachineRow.origin Rows.fnExactTidyMachineRow.targs := of_decide_eq_true (by kernel_rfl)

end Go.Proofs.Ytaenbjilcgpgcaa
