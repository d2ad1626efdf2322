/-
  NARROWER THAN 'FOR EVERY INPUT', by the rows' own cells (each row's printed sentence says how): FnExactHeldBy: ifaces, laid · FnExactIsIsolated: ifaces, laid · FnExactSpaceFor: ifaces, laid.
  DERIVED. THE GIVEN ROWS OF THIS SEAT. 3 by the template 'for every input the law returns true; each argument reads behind the call as it read before'; 0 by the template 'total and deterministic' (their statements: YtnpklnpicelcmaaDoorTotals.lean).
  GIVEN WITH THE SEED: the statements are not yours to turn. If you find one false, say at which input.
  Laid BY PROGRAM, IN A SANDBOX (cutbox-rows.mjs): the forced cells as the released guide's own fill.sh prints them over the translation e8d3174eafcbde1a… (all of the seat's roots in one cut). By AI agents, Wed Nov 11 2026. No macro, syntax, notation, axiom, sorry.
-/
import Derived.Test.YtnpklnpicelcmaaDoorChecked
import GoSem.Claim
import GoSem.ClaimJoined
import GoSem.ClaimMapViews
import Derived.JoinedTies
import Derived.KernelRfl
namespace Go.Proofs.YtnpklnpicelcmaaDoor
/- THE CELL 'sum', in the pinned program and in every row, IS THE sha256 OF THE DUMP (.gsa) THAT YtnpklnpicelcmaaDoorProg.lean LOADS. Nothing in Lean hashes anything: it is a label: what it is worth is what the hold of that sum in a sandbox is worth. -/
noncomputable def Tryd.pinned : Pinned := { name := "ytnpklnpicelcmaadoor", sum := "e8d3174eafcbde1aae52325f891df19f8bdd62c9441723402b17f85bf1d32f40", checked := Tryd.checked }
namespace Rows
def none {H : Type} : Left H := { results := [], args := [] }

/- WHAT THE LISTED PACKAGE-LEVEL VARIABLES READ AS WHEN THE CALL BEGINS. Each datum BY PROGRAM (the guide's laid-datum.mjs) off the statement by which the dump's own 'gosem.cut.vars' lays the variable. In a bare row this is a premise. The card (YtnpklnpicelcmaaDoorCards.lean) ties it to the program's text. -/
def laid_loop_example_g00723_impl_errNoTenant {H : Type} : DataW H := .iface "*errors.errorString" (.ptr (.agg [.lit (.string [116, 104, 101, 114, 101, 32, 105, 115, 32, 110, 111, 32, 115, 117, 99, 104, 32, 116, 101, 110, 97, 110, 116])]))

/-- 'laws.FnExactHeldBy': WHATEVER THE INPUT: true; the input reads as it did. -/
def fnExactHeldBySpec : ChangeSpec := { name := "fnExactHeldBy", vars := ["loop.example/g00723/impl.errNoTenant"], fn := fun _ => fun
  | [d, g1] => { results := [.lit (.bool true)], args := [d], vars := [g1] }
  | _ => none }
def fnExactHeldByRow : OpenClaim := { program := "ytnpklnpicelcmaadoor", sum := "e8d3174eafcbde1aae52325f891df19f8bdd62c9441723402b17f85bf1d32f40", func := "loop.example/g00723/laws.FnExactHeldBy", spec := "fnExactHeldBy", unfollowed := true, recurses := true, named := ["loop.example/g00723/impl.errNoTenant"], ifaces := true, apart := false, laid := [("loop.example/g00723/impl.errNoTenant", laid_loop_example_g00723_impl_errNoTenant)] }
def FnExactHeldBySaid : Prop := fnExactHeldByRow.holds Tryd.pinned (OpenSpec.ofChange fnExactHeldBySpec)

/-- ITS FALSE NEIGHBOUR: 'it returns false'. Refute it at one input. -/
def fnExactHeldByWrong : ChangeSpec := { name := "fnExactHeldBy", vars := ["loop.example/g00723/impl.errNoTenant"], fn := fun _ => fun
  | [d, g1] => { results := [.lit (.bool false)], args := [d], vars := [g1] }
  | _ => none }
def FnExactHeldByWrongFalsely : Prop := fnExactHeldByRow.holds Tryd.pinned (OpenSpec.ofChange fnExactHeldByWrong)

/-- 'laws.FnExactIsIsolated': WHATEVER THE INPUT: true; the input reads as it did. -/
def fnExactIsIsolatedSpec : ChangeSpec := { name := "fnExactIsIsolated", vars := ["loop.example/g00723/impl.errNoTenant"], fn := fun _ => fun
  | [d, g1] => { results := [.lit (.bool true)], args := [d], vars := [g1] }
  | _ => none }
def fnExactIsIsolatedRow : OpenClaim := { program := "ytnpklnpicelcmaadoor", sum := "e8d3174eafcbde1aae52325f891df19f8bdd62c9441723402b17f85bf1d32f40", func := "loop.example/g00723/laws.FnExactIsIsolated", spec := "fnExactIsIsolated", unfollowed := true, recurses := true, named := ["loop.example/g00723/impl.errNoTenant"], ifaces := true, apart := false, laid := [("loop.example/g00723/impl.errNoTenant", laid_loop_example_g00723_impl_errNoTenant)] }
def FnExactIsIsolatedSaid : Prop := fnExactIsIsolatedRow.holds Tryd.pinned (OpenSpec.ofChange fnExactIsIsolatedSpec)

/-- ITS FALSE NEIGHBOUR: 'it returns false'. Refute it at one input. -/
def fnExactIsIsolatedWrong : ChangeSpec := { name := "fnExactIsIsolated", vars := ["loop.example/g00723/impl.errNoTenant"], fn := fun _ => fun
  | [d, g1] => { results := [.lit (.bool false)], args := [d], vars := [g1] }
  | _ => none }
def FnExactIsIsolatedWrongFalsely : Prop := fnExactIsIsolatedRow.holds Tryd.pinned (OpenSpec.ofChange fnExactIsIsolatedWrong)

/-- 'laws.FnExactSpaceFor': WHATEVER THE INPUT: true; the input reads as it did. -/
def fnExactSpaceForSpec : ChangeSpec := { name := "fnExactSpaceFor", vars := ["loop.example/g00723/impl.errNoTenant"], fn := fun _ => fun
  | [d1, d2, g1] => { results := [.lit (.bool true)], args := [d1, d2], vars := [g1] }
  | _ => none }
def fnExactSpaceForRow : OpenClaim := { program := "ytnpklnpicelcmaadoor", sum := "e8d3174eafcbde1aae52325f891df19f8bdd62c9441723402b17f85bf1d32f40", func := "loop.example/g00723/laws.FnExactSpaceFor", spec := "fnExactSpaceFor", unfollowed := true, recurses := true, named := ["loop.example/g00723/impl.errNoTenant"], ifaces := true, apart := false, laid := [("loop.example/g00723/impl.errNoTenant", laid_loop_example_g00723_impl_errNoTenant)] }
def FnExactSpaceForSaid : Prop := fnExactSpaceForRow.holds Tryd.pinned (OpenSpec.ofChange fnExactSpaceForSpec)

/-- ITS FALSE NEIGHBOUR: 'it returns false'. Refute it at one input. -/
def fnExactSpaceForWrong : ChangeSpec := { name := "fnExactSpaceFor", vars := ["loop.example/g00723/impl.errNoTenant"], fn := fun _ => fun
  | [d1, d2, g1] => { results := [.lit (.bool false)], args := [d1, d2], vars := [g1] }
  | _ => none }
def FnExactSpaceForWrongFalsely : Prop := fnExactSpaceForRow.holds Tryd.pinned (OpenSpec.ofChange fnExactSpaceForWrong)

/- THE SECOND FORM. 'bulk': how many values and letters a reading holds, each counted each time it is reached (what is shared counts as often as it is met; a slice's spare places count too). A statement '..UptoSaid' is the law's where the arguments, and the package variables that the reading takes, are together of bulk at most 1048576: NARROWER than '..Said'. Prove '..Said' where nothing that the law and all that it calls make is longer than what came in: it says more and counts as full. Else prove '..UptoSaid'. A law counts once. -/
mutual
def uptoBulk {H : Type} : DataW H → Nat
  | .lit (.string bytes) => bytes.length + 1
  | .lit _ => 1
  | .nil => 1
  | .ptr d => uptoBulk d + 1
  | .slice elems spare => uptoBulkAll elems + uptoBulkAll spare + 1
  | .agg parts => uptoBulkAll parts + 1
  | .iface _ d => uptoBulk d + 1
  | .map entries => uptoBulkEntries entries + 1
  | .held _ => 1
def uptoBulkAll {H : Type} : List (DataW H) → Nat
  | [] => 0
  | d :: r => uptoBulk d + uptoBulkAll r
def uptoBulkEntries {H : Type} : List (Lit × DataW H) → Nat
  | [] => 0
  | x :: r => uptoBulkEntry x + uptoBulkEntries r
def uptoBulkEntry {H : Type} : Lit × DataW H → Nat
  | (.string bytes, d) => bytes.length + uptoBulk d + 1
  | (_, d) => uptoBulk d + 1
 end
def uptoSmall : (H : Type) → List (DataW H) → Bool := fun _ ds => decide (uptoBulkAll ds ≤ 1048576)
def OpenSpec.upto (s : _root_.Go.ChangeSpec) : _root_.Go.OpenSpec := { _root_.Go.OpenSpec.ofChange s with cond := some uptoSmall }

/-- 'laws.FnExactHeldBy', WHERE WHAT IT READS IS OF BULK AT MOST 1048576: true; the input reads as it did. -/
def fnExactHeldByUptoRow : OpenClaim := { program := "ytnpklnpicelcmaadoor", sum := "e8d3174eafcbde1aae52325f891df19f8bdd62c9441723402b17f85bf1d32f40", func := "loop.example/g00723/laws.FnExactHeldBy", spec := "fnExactHeldBy", unfollowed := true, recurses := true, named := ["loop.example/g00723/impl.errNoTenant"], ifaces := true, apart := false, laid := [("loop.example/g00723/impl.errNoTenant", laid_loop_example_g00723_impl_errNoTenant)], narrowed := true }
def FnExactHeldByUptoSaid : Prop := fnExactHeldByUptoRow.holds Tryd.pinned (OpenSpec.upto fnExactHeldBySpec)

/-- 'laws.FnExactIsIsolated', WHERE WHAT IT READS IS OF BULK AT MOST 1048576: true; the input reads as it did. -/
def fnExactIsIsolatedUptoRow : OpenClaim := { program := "ytnpklnpicelcmaadoor", sum := "e8d3174eafcbde1aae52325f891df19f8bdd62c9441723402b17f85bf1d32f40", func := "loop.example/g00723/laws.FnExactIsIsolated", spec := "fnExactIsIsolated", unfollowed := true, recurses := true, named := ["loop.example/g00723/impl.errNoTenant"], ifaces := true, apart := false, laid := [("loop.example/g00723/impl.errNoTenant", laid_loop_example_g00723_impl_errNoTenant)], narrowed := true }
def FnExactIsIsolatedUptoSaid : Prop := fnExactIsIsolatedUptoRow.holds Tryd.pinned (OpenSpec.upto fnExactIsIsolatedSpec)

/-- 'laws.FnExactSpaceFor', WHERE WHAT IT READS IS OF BULK AT MOST 1048576: true; the input reads as it did. -/
def fnExactSpaceForUptoRow : OpenClaim := { program := "ytnpklnpicelcmaadoor", sum := "e8d3174eafcbde1aae52325f891df19f8bdd62c9441723402b17f85bf1d32f40", func := "loop.example/g00723/laws.FnExactSpaceFor", spec := "fnExactSpaceFor", unfollowed := true, recurses := true, named := ["loop.example/g00723/impl.errNoTenant"], ifaces := true, apart := false, laid := [("loop.example/g00723/impl.errNoTenant", laid_loop_example_g00723_impl_errNoTenant)], narrowed := true }
def FnExactSpaceForUptoSaid : Prop := fnExactSpaceForUptoRow.holds Tryd.pinned (OpenSpec.upto fnExactSpaceForSpec)

end Rows
end Go.Proofs.YtnpklnpicelcmaaDoor
