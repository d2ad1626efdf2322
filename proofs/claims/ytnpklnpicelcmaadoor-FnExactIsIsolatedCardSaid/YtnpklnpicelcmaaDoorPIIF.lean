/- FnExactIsIsolated returns true at every input, and its arguments read afterwards as before. Its condition is the row's own: the listed package-level variable holds, when the call begins, what the program's text lays there, and the given tie ties it to that text; no other condition. -/
import Derived.Test.YtnpklnpicelcmaaDoorPU5
import Derived.Test.YtnpklnpicelcmaaDoorTie
import Derived.Test.YtnpklnpicelcmaaDoorCards
import Derived.ChangeMaps5
import Derived.Stop.LaidErr
import Derived.SevenTiedAt
import Derived.LaidLaws
import Derived.LaidMore
import Derived.ChangeSame
import Derived.ChangeVars
import Derived.JoinedOf
import Derived.RowKitTokens
import Derived.Stop.Joined
import Derived.MakeChecks
namespace Go.Proofs.YtnpklnpicelcmaaDoor
open Go.ChangeShapes Go.WideShapes Go.ChangeAt Go.RowKit Go.Joins
set_option linter.unusedVariables false

theorem gE : Tryd.prog.globalNamed "loop.example/g00723/impl.errNoTenant" = some 0 := by kernel_rfl

theorem gET : (Tryd.prog.globals[0]?).map (·.type) = some 115 := by kernel_rfl

theorem cellsES : Tryd.prog.cellsOf 196 = 1 := by kernel_rfl

theorem cellsST : Tryd.prog.cellsOf 9 = 1 := by kernel_rfl

theorem starES : "*" ++ "errors.errorString" = "*errors.errorString" := by decide

theorem rowES (u : TypeId) (h : Tryd.prog.typeName? 3 u = some "*errors.errorString") : u = 176 :=
  typeName_ptr_named (nm := "errors.errorString") (by rw [starES]; kernel_rfl) (by kernel_rfl) (by decide) u (by rw [starES]; exact h)

theorem var_below {W W' : World} {cs : Array Value} (h : W.var? Tryd.prog "loop.example/g00723/impl.errNoTenant" = some cs) (hb : Below W.heap.size W W') : W'.var? Tryd.prog "loop.example/g00723/impl.errNoTenant" = some cs := by
  unfold World.var? at h ⊢
  rw [gE] at h ⊢
  simp only [Option.bind_some] at h ⊢
  cases hg : W.heap[0]? with
  | none => rw [hg] at h; cases h
  | some o =>
    have hlt : 0 < W.heap.size := (Array.getElem?_eq_some_iff.1 hg).1
    rw [hb.block 0 hlt]; exact h

theorem door_met (os : Os) (args : Array Value) : laidMetH Tryd.prog [("loop.example/g00723/impl.errNoTenant", Rows.laid_loop_example_g00723_impl_errNoTenant)] ((World.doorLaid Tryd.prog 28 os).forCall (fun _ _ => 0) ⟨#[], args, []⟩).memory :=
  laidMetH_of_parts3 (fuel := 8) (laidMet_of_run' 8 (by kernel_rfl) (by kernel_rfl)) (by kernel_rfl) (by kernel_rfl)

set_option maxRecDepth 100000 in
theorem p4_lifted (os : Os) (started : os.Started) (H : Type) (enc : TypeId × Value → H) :
    ReturnsInHanded {} Tryd.checked os 4 .any (fun w args => (Rows.fnExactIsIsolatedSpec.pre enc Tryd.prog Tryd.f4 [] false w args ∧ laidMetH Tryd.prog [("loop.example/g00723/impl.errNoTenant", Rows.laid_loop_example_g00723_impl_errNoTenant)] w) ∧ sizedMet enc Tryd.prog Tryd.f4 (OpenSpec.ofChange Rows.fnExactIsIsolatedSpec) false w args)
      (Rows.fnExactIsIsolatedSpec.post enc Tryd.prog Tryd.f4 false true false false) := by
  refine returnsInHanded_of_change_and (C := Tryd.checked) (X := fun w _ => laidMetH Tryd.prog [("loop.example/g00723/impl.errNoTenant", Rows.laid_loop_example_g00723_impl_errNoTenant)] w) (fun _ _ _ hh h => h.of_heap hh) Tryd.own started (by kernel_rfl) Tryd.func4
    (ChangeSpec.witness_shaped (enc := enc) (C := Tryd.checked) (os := os) (X := fun w _ => laidMetH Tryd.prog [("loop.example/g00723/impl.errNoTenant", Rows.laid_loop_example_g00723_impl_errNoTenant)] w) false (World.doorLaid Tryd.prog 28 os) #[.agg #[.int .i64 0, .slice none 0 0, .int .i64 0, .int .i64 0, .slice none 0 0]] 8 rfl (World.shaped_of_RefB (by kernel_rfl) (by kernel_rfl)) (by kernel_rfl) (by kernel_rfl) (by kernel_rfl) (door_met os _)) ?_
  intro W base args ds gs before hval0 hW _ _ hL _
  have hval : ∀ (j : Nat) t v, Tryd.f4.params[j]? = some t → args[j]? = some v → Value.okWide Tryd.prog W .any base t v := hval0
  have hW' := hW
  obtain ⟨p, q, hA0, hV0, rfl, hfz, hnd⟩ := hW
  have hV : DataW.TrodVars enc Tryd.prog W (fun _ => true) ["loop.example/g00723/impl.errNoTenant"] gs q := hV0
  rw [MakeChecks.laidMetH_plain _ _ _ (by kernel_rfl)] at hL
  have hA : DataW.TrodAll enc Tryd.prog W 0 (fun _ => true) true Tryd.f4.params.toList args.toList ds p := hA0
  rw [Tryd.params4] at hA hval
  obtain ⟨v0, vs0, d0, ds0, p0, q0, hargs, rfl, rfl, h0, r0⟩ := trodAll_cons hA
  obtain ⟨rfl, rfl, rfl⟩ := trodAll_nil r0
  obtain rfl : args = #[v0] := by cases args; simp_all
  obtain ⟨aE, sE, hvE, hcE, hsE, hzE⟩ := laid_sentinel hL gE gET Tryd.underlying115 rowES Tryd.underlying176 Tryd.underlying196 rfl rfl Tryd.underlying9 cellsES cellsST
  obtain ⟨rfl, rfl⟩ := hV.unique (vars_read1 enc gE gET Tryd.underlying115 hvE trivial _)
  have k0 := h0
  have lt0 : ∀ x ∈ p0, x.block < W.heap.size := by obtain ⟨m, hm⟩ := k0; exact DataW.trod_lt m _ _ _ hm
  obtain ⟨x0h, x0ac, x0bu, x0a, x0n, x0c, x0f, x0ta, x0N, x0tc, x0T, rfl, hs0, hn0, ht0, hN0, hM0, hW0⟩ := open_heap2 (hval 0 27 v0 rfl rfl) h0
  clear hA0 hval0 hV0 hL hcE hsE hzE
  refine (e4_any  x0h x0ac x0bu x0a x0n x0c x0f x0ta x0N x0tc x0T W hs0 hn0 ht0 hN0 hM0 hW0).mono fun e W' ⟨he, bel⟩ => ?_
  subst he
  exact ⟨_, rfl, _, _, _, [], _, [.cell 0 0], hW', trodAll_mk1 (shut_bool Tryd.underlying4 _), (trodAll_cons_mk (Below.trod Tryd.laidOut (by kernel_rfl) (of_decide_eq_true (by kernel_rfl)) k0 bel lt0) trodAll_mk0), vars_read1 enc gE gET Tryd.underlying115 (var_below hvE bel) trivial _, bel.frame _, fun h => by cases h⟩

theorem p4_named : Tryd.checked.prog.funcNamed Rows.fnExactIsIsolatedRow.func = some 4 := by kernel_rfl

set_option maxHeartbeats 4000000 in
theorem p4_facts : joinedFacts Tryd.checked.prog 4 Tryd.f4 Rows.fnExactIsIsolatedSpec Rows.fnExactIsIsolatedRow = true := by
  simp only [joinedFacts, Bool.and_eq_true]
  repeat' apply And.intro
  all_goals (as_aux_lemma => kernel_rfl)

theorem p4_wrap : Tryd.f4.isWrapper Tryd.checked.prog Rows.fnExactIsIsolatedRow.wrapper Rows.fnExactIsIsolatedRow.mainSum := by unfold Func.isWrapper; first | (rw [if_pos (by decide +kernel)]; kernel_rfl) | (rw [if_neg (by decide +kernel)]; exact ⟨rfl, rfl⟩)

theorem p4_inst : Tryd.f4.isInstance Tryd.checked.prog Rows.fnExactIsIsolatedRow.origin Rows.fnExactIsIsolatedRow.targs := of_decide_eq_true (by kernel_rfl)

theorem p4_holds : Rows.FnExactIsIsolatedSaid :=
  OpenClaim.holds_of_wide 4 Tryd.f4 rfl rfl rfl rfl rfl rfl rfl ⟨rfl, rfl, rfl, rfl, rfl⟩ rfl rfl rfl rfl rfl p4_named Tryd.func4 p4_facts p4_inst p4_wrap
    (fun os started H enc _ => p4_lifted  os started H enc)

theorem p4_card : Rows.FnExactIsIsolatedCardSaid :=
  Claim7.holds_tied_plain_at .later [] [.sentinel] true (true, "563f22526590b0ad4018381bd8b8b5277added0af97d0eb835a76eb33556777c") true
    p4_holds (fun _ h => by cases h) (by kernel_rfl) (fun _ h => by cases h) fnExactIsIsolated_row_tie rfl ⟨rfl, rfl⟩ (by kernel_rfl) rfl
    (fun f fn hf hfn => by
      obtain rfl : f = 4 := Option.some.inj ((show Tryd.prog.funcNamed "loop.example/g00723/laws.FnExactIsIsolated" = some 4 by kernel_rfl).symm.trans hf) |>.symm
      obtain rfl : fn = Tryd.f4 := (Option.some.inj (Tryd.func4.symm.trans hfn)).symm
      exact ⟨by kernel_rfl, fun j t ht => by
        rw [Tryd.params4] at ht
        have hm : t ∈ [27] := by simpa using Array.mem_of_getElem? ht
        have hall : ([27].all fun u => !Tryd.prog.wantsStandIn u) = true := by kernel_rfl
        exact (show Tryd.prog.wantsStandIn t = false by simpa using List.all_eq_true.1 hall t hm)⟩)
    (by kernel_rfl)
#print axioms p4_card
end Go.Proofs.YtnpklnpicelcmaaDoor

