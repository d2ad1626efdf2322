/-
  No cell of these rows narrows 'for every input' (looked for: loops, veiled, ifaces, maps, wideKeys, modest, calm, conditions, laid).
  DERIVED. THE GIVEN ROWS OF THIS SEAT. 13 by the template 'for every input the law returns true; each argument reads behind the call as it read before'; 0 by the template 'total and deterministic' (their statements: YtihbenbfnpiikaaTotals.lean).
  GIVEN WITH THE SEED: the statements are not yours to turn. If you find one false, say at which input.
  Laid BY PROGRAM, IN A SANDBOX (cutbox-rows.mjs): the forced cells as the released guide's own fill.sh prints them over the translation 0c39f57a78442d75… (all of the seat's roots in one cut). By AI agents, Wed Nov 11 2026. No macro, syntax, notation, axiom, sorry.
-/
import Derived.Test.YtihbenbfnpiikaaChecked
import GoSem.Claim
import GoSem.ClaimJoined
import GoSem.ClaimMapViews
import Derived.JoinedTies
import Derived.KernelRfl
namespace Go.Proofs.Ytihbenbfnpiikaa
/- THE CELL 'sum', in the pinned program and in every row, IS THE sha256 OF THE DUMP (.gsa) THAT YtihbenbfnpiikaaProg.lean LOADS. Nothing in Lean hashes anything: it is a label: what it is worth is what the hold of that sum in a sandbox is worth. -/
noncomputable def Try.pinned : Pinned := { name := "ytihbenbfnpiikaa", sum := "0c39f57a78442d75aca14fba28b8c96d9e9eacf4c60adb6ec9293c1ec8ce204a", checked := Try.checked }
namespace Rows
def none {H : Type} : Left H := { results := [], args := [] }

/-- 'laws.FnCollects': WHATEVER THE INPUT: true; the input reads as it did. -/
def fnCollectsSpec : ChangeSpec := { name := "fnCollects", fn := fun _ => fun
  | [d] => { results := [.lit (.bool true)], args := [d] }
  | _ => none }
def fnCollectsRow : OpenClaim := { program := "ytihbenbfnpiikaa", sum := "0c39f57a78442d75aca14fba28b8c96d9e9eacf4c60adb6ec9293c1ec8ce204a", func := "loop.example/g00723/laws.FnCollects", spec := "fnCollects", unfollowed := true, recurses := true, plainKeys := false, apart := false }
def FnCollectsSaid : Prop := fnCollectsRow.holds Try.pinned (OpenSpec.ofChange fnCollectsSpec)

/-- ITS FALSE NEIGHBOUR: 'it returns false'. Refute it at one input. -/
def fnCollectsWrong : ChangeSpec := { name := "fnCollects", fn := fun _ => fun
  | [d] => { results := [.lit (.bool false)], args := [d] }
  | _ => none }
def FnCollectsWrongFalsely : Prop := fnCollectsRow.holds Try.pinned (OpenSpec.ofChange fnCollectsWrong)

/-- 'laws.FnAlikes': WHATEVER THE INPUT: true; the input reads as it did. -/
def fnAlikesSpec : ChangeSpec := { name := "fnAlikes", fn := fun _ => fun
  | [d] => { results := [.lit (.bool true)], args := [d] }
  | _ => none }
def fnAlikesRow : OpenClaim := { program := "ytihbenbfnpiikaa", sum := "0c39f57a78442d75aca14fba28b8c96d9e9eacf4c60adb6ec9293c1ec8ce204a", func := "loop.example/g00723/laws.FnAlikes", spec := "fnAlikes", unfollowed := true, recurses := true, plainKeys := false, apart := false }
def FnAlikesSaid : Prop := fnAlikesRow.holds Try.pinned (OpenSpec.ofChange fnAlikesSpec)

/-- ITS FALSE NEIGHBOUR: 'it returns false'. Refute it at one input. -/
def fnAlikesWrong : ChangeSpec := { name := "fnAlikes", fn := fun _ => fun
  | [d] => { results := [.lit (.bool false)], args := [d] }
  | _ => none }
def FnAlikesWrongFalsely : Prop := fnAlikesRow.holds Try.pinned (OpenSpec.ofChange fnAlikesWrong)

/-- 'laws.FnHandles': WHATEVER THE INPUT: true; the input reads as it did. -/
def fnHandlesSpec : ChangeSpec := { name := "fnHandles", fn := fun _ => fun
  | [d] => { results := [.lit (.bool true)], args := [d] }
  | _ => none }
def fnHandlesRow : OpenClaim := { program := "ytihbenbfnpiikaa", sum := "0c39f57a78442d75aca14fba28b8c96d9e9eacf4c60adb6ec9293c1ec8ce204a", func := "loop.example/g00723/laws.FnHandles", spec := "fnHandles", unfollowed := true, recurses := true, plainKeys := false, apart := false }
def FnHandlesSaid : Prop := fnHandlesRow.holds Try.pinned (OpenSpec.ofChange fnHandlesSpec)

/-- ITS FALSE NEIGHBOUR: 'it returns false'. Refute it at one input. -/
def fnHandlesWrong : ChangeSpec := { name := "fnHandles", fn := fun _ => fun
  | [d] => { results := [.lit (.bool false)], args := [d] }
  | _ => none }
def FnHandlesWrongFalsely : Prop := fnHandlesRow.holds Try.pinned (OpenSpec.ofChange fnHandlesWrong)

/-- 'laws.FnTidies': WHATEVER THE INPUT: true; the input reads as it did. -/
def fnTidiesSpec : ChangeSpec := { name := "fnTidies", fn := fun _ => fun
  | [d] => { results := [.lit (.bool true)], args := [d] }
  | _ => none }
def fnTidiesRow : OpenClaim := { program := "ytihbenbfnpiikaa", sum := "0c39f57a78442d75aca14fba28b8c96d9e9eacf4c60adb6ec9293c1ec8ce204a", func := "loop.example/g00723/laws.FnTidies", spec := "fnTidies", unfollowed := true, recurses := true, plainKeys := false, apart := false }
def FnTidiesSaid : Prop := fnTidiesRow.holds Try.pinned (OpenSpec.ofChange fnTidiesSpec)

/-- ITS FALSE NEIGHBOUR: 'it returns false'. Refute it at one input. -/
def fnTidiesWrong : ChangeSpec := { name := "fnTidies", fn := fun _ => fun
  | [d] => { results := [.lit (.bool false)], args := [d] }
  | _ => none }
def FnTidiesWrongFalsely : Prop := fnTidiesRow.holds Try.pinned (OpenSpec.ofChange fnTidiesWrong)

/-- 'laws.FnExactHandleWord': WHATEVER THE INPUT: true; the input reads as it did. -/
def fnExactHandleWordSpec : ChangeSpec := { name := "fnExactHandleWord", fn := fun _ => fun
  | [d] => { results := [.lit (.bool true)], args := [d] }
  | _ => none }
def fnExactHandleWordRow : OpenClaim := { program := "ytihbenbfnpiikaa", sum := "0c39f57a78442d75aca14fba28b8c96d9e9eacf4c60adb6ec9293c1ec8ce204a", func := "loop.example/g00723/laws.FnExactHandleWord", spec := "fnExactHandleWord", plainKeys := false, apart := false }
def FnExactHandleWordSaid : Prop := fnExactHandleWordRow.holds Try.pinned (OpenSpec.ofChange fnExactHandleWordSpec)

/-- ITS FALSE NEIGHBOUR: 'it returns false'. Refute it at one input. -/
def fnExactHandleWordWrong : ChangeSpec := { name := "fnExactHandleWord", fn := fun _ => fun
  | [d] => { results := [.lit (.bool false)], args := [d] }
  | _ => none }
def FnExactHandleWordWrongFalsely : Prop := fnExactHandleWordRow.holds Try.pinned (OpenSpec.ofChange fnExactHandleWordWrong)

/-- 'laws.FnExactReadHandle': WHATEVER THE INPUT: true; the input reads as it did. -/
def fnExactReadHandleSpec : ChangeSpec := { name := "fnExactReadHandle", fn := fun _ => fun
  | [d] => { results := [.lit (.bool true)], args := [d] }
  | _ => none }
def fnExactReadHandleRow : OpenClaim := { program := "ytihbenbfnpiikaa", sum := "0c39f57a78442d75aca14fba28b8c96d9e9eacf4c60adb6ec9293c1ec8ce204a", func := "loop.example/g00723/laws.FnExactReadHandle", spec := "fnExactReadHandle", plainKeys := false, apart := false }
def FnExactReadHandleSaid : Prop := fnExactReadHandleRow.holds Try.pinned (OpenSpec.ofChange fnExactReadHandleSpec)

/-- ITS FALSE NEIGHBOUR: 'it returns false'. Refute it at one input. -/
def fnExactReadHandleWrong : ChangeSpec := { name := "fnExactReadHandle", fn := fun _ => fun
  | [d] => { results := [.lit (.bool false)], args := [d] }
  | _ => none }
def FnExactReadHandleWrongFalsely : Prop := fnExactReadHandleRow.holds Try.pinned (OpenSpec.ofChange fnExactReadHandleWrong)

/-- 'laws.FnExactMachineFault': WHATEVER THE INPUT: true; the input reads as it did. -/
def fnExactMachineFaultSpec : ChangeSpec := { name := "fnExactMachineFault", fn := fun _ => fun
  | [d] => { results := [.lit (.bool true)], args := [d] }
  | _ => none }
def fnExactMachineFaultRow : OpenClaim := { program := "ytihbenbfnpiikaa", sum := "0c39f57a78442d75aca14fba28b8c96d9e9eacf4c60adb6ec9293c1ec8ce204a", func := "loop.example/g00723/laws.FnExactMachineFault", spec := "fnExactMachineFault", unfollowed := true, recurses := true, plainKeys := false, apart := false }
def FnExactMachineFaultSaid : Prop := fnExactMachineFaultRow.holds Try.pinned (OpenSpec.ofChange fnExactMachineFaultSpec)

/-- ITS FALSE NEIGHBOUR: 'it returns false'. Refute it at one input. -/
def fnExactMachineFaultWrong : ChangeSpec := { name := "fnExactMachineFault", fn := fun _ => fun
  | [d] => { results := [.lit (.bool false)], args := [d] }
  | _ => none }
def FnExactMachineFaultWrongFalsely : Prop := fnExactMachineFaultRow.holds Try.pinned (OpenSpec.ofChange fnExactMachineFaultWrong)

/-- 'laws.FnExactNewMachine': WHATEVER THE INPUT: true; the input reads as it did. -/
def fnExactNewMachineSpec : ChangeSpec := { name := "fnExactNewMachine", fn := fun _ => fun
  | [d1, d2, d3] => { results := [.lit (.bool true)], args := [d1, d2, d3] }
  | _ => none }
def fnExactNewMachineRow : OpenClaim := { program := "ytihbenbfnpiikaa", sum := "0c39f57a78442d75aca14fba28b8c96d9e9eacf4c60adb6ec9293c1ec8ce204a", func := "loop.example/g00723/laws.FnExactNewMachine", spec := "fnExactNewMachine", unfollowed := true, recurses := true, plainKeys := false, apart := false }
def FnExactNewMachineSaid : Prop := fnExactNewMachineRow.holds Try.pinned (OpenSpec.ofChange fnExactNewMachineSpec)

/-- ITS FALSE NEIGHBOUR: 'it returns false'. Refute it at one input. -/
def fnExactNewMachineWrong : ChangeSpec := { name := "fnExactNewMachine", fn := fun _ => fun
  | [d1, d2, d3] => { results := [.lit (.bool false)], args := [d1, d2, d3] }
  | _ => none }
def FnExactNewMachineWrongFalsely : Prop := fnExactNewMachineRow.holds Try.pinned (OpenSpec.ofChange fnExactNewMachineWrong)

/-- 'laws.FnExactReachOf': WHATEVER THE INPUT: true; the input reads as it did. -/
def fnExactReachOfSpec : ChangeSpec := { name := "fnExactReachOf", fn := fun _ => fun
  | [d] => { results := [.lit (.bool true)], args := [d] }
  | _ => none }
def fnExactReachOfRow : OpenClaim := { program := "ytihbenbfnpiikaa", sum := "0c39f57a78442d75aca14fba28b8c96d9e9eacf4c60adb6ec9293c1ec8ce204a", func := "loop.example/g00723/laws.FnExactReachOf", spec := "fnExactReachOf", unfollowed := true, recurses := true, plainKeys := false, apart := false }
def FnExactReachOfSaid : Prop := fnExactReachOfRow.holds Try.pinned (OpenSpec.ofChange fnExactReachOfSpec)

/-- ITS FALSE NEIGHBOUR: 'it returns false'. Refute it at one input. -/
def fnExactReachOfWrong : ChangeSpec := { name := "fnExactReachOf", fn := fun _ => fun
  | [d] => { results := [.lit (.bool false)], args := [d] }
  | _ => none }
def FnExactReachOfWrongFalsely : Prop := fnExactReachOfRow.holds Try.pinned (OpenSpec.ofChange fnExactReachOfWrong)

/-- 'laws.FnExactUsedBy': WHATEVER THE INPUT: true; the input reads as it did. -/
def fnExactUsedBySpec : ChangeSpec := { name := "fnExactUsedBy", fn := fun _ => fun
  | [d] => { results := [.lit (.bool true)], args := [d] }
  | _ => none }
def fnExactUsedByRow : OpenClaim := { program := "ytihbenbfnpiikaa", sum := "0c39f57a78442d75aca14fba28b8c96d9e9eacf4c60adb6ec9293c1ec8ce204a", func := "loop.example/g00723/laws.FnExactUsedBy", spec := "fnExactUsedBy", unfollowed := true, recurses := true, plainKeys := false, apart := false }
def FnExactUsedBySaid : Prop := fnExactUsedByRow.holds Try.pinned (OpenSpec.ofChange fnExactUsedBySpec)

/-- ITS FALSE NEIGHBOUR: 'it returns false'. Refute it at one input. -/
def fnExactUsedByWrong : ChangeSpec := { name := "fnExactUsedBy", fn := fun _ => fun
  | [d] => { results := [.lit (.bool false)], args := [d] }
  | _ => none }
def FnExactUsedByWrongFalsely : Prop := fnExactUsedByRow.holds Try.pinned (OpenSpec.ofChange fnExactUsedByWrong)

/-- 'laws.FnExactTidyMachine': WHATEVER THE INPUT: true; the input reads as it did. -/
def fnExactTidyMachineSpec : ChangeSpec := { name := "fnExactTidyMachine", fn := fun _ => fun
  | [d] => { results := [.lit (.bool true)], args := [d] }
  | _ => none }
def fnExactTidyMachineRow : OpenClaim := { program := "ytihbenbfnpiikaa", sum := "0c39f57a78442d75aca14fba28b8c96d9e9eacf4c60adb6ec9293c1ec8ce204a", func := "loop.example/g00723/laws.FnExactTidyMachine", spec := "fnExactTidyMachine", unfollowed := true, recurses := true, plainKeys := false, apart := false }
def FnExactTidyMachineSaid : Prop := fnExactTidyMachineRow.holds Try.pinned (OpenSpec.ofChange fnExactTidyMachineSpec)

/-- ITS FALSE NEIGHBOUR: 'it returns false'. Refute it at one input. -/
def fnExactTidyMachineWrong : ChangeSpec := { name := "fnExactTidyMachine", fn := fun _ => fun
  | [d] => { results := [.lit (.bool false)], args := [d] }
  | _ => none }
def FnExactTidyMachineWrongFalsely : Prop := fnExactTidyMachineRow.holds Try.pinned (OpenSpec.ofChange fnExactTidyMachineWrong)

/-- 'laws.FnExactSlotOf': WHATEVER THE INPUT: true; the input reads as it did. -/
def fnExactSlotOfSpec : ChangeSpec := { name := "fnExactSlotOf", fn := fun _ => fun
  | [d1, d2] => { results := [.lit (.bool true)], args := [d1, d2] }
  | _ => none }
def fnExactSlotOfRow : OpenClaim := { program := "ytihbenbfnpiikaa", sum := "0c39f57a78442d75aca14fba28b8c96d9e9eacf4c60adb6ec9293c1ec8ce204a", func := "loop.example/g00723/laws.FnExactSlotOf", spec := "fnExactSlotOf", unfollowed := true, recurses := true, plainKeys := false, apart := false }
def FnExactSlotOfSaid : Prop := fnExactSlotOfRow.holds Try.pinned (OpenSpec.ofChange fnExactSlotOfSpec)

/-- ITS FALSE NEIGHBOUR: 'it returns false'. Refute it at one input. -/
def fnExactSlotOfWrong : ChangeSpec := { name := "fnExactSlotOf", fn := fun _ => fun
  | [d1, d2] => { results := [.lit (.bool false)], args := [d1, d2] }
  | _ => none }
def FnExactSlotOfWrongFalsely : Prop := fnExactSlotOfRow.holds Try.pinned (OpenSpec.ofChange fnExactSlotOfWrong)

/-- 'laws.FnExactSameMachines': WHATEVER THE INPUT: true; the input reads as it did. -/
def fnExactSameMachinesSpec : ChangeSpec := { name := "fnExactSameMachines", fn := fun _ => fun
  | [d1, d2] => { results := [.lit (.bool true)], args := [d1, d2] }
  | _ => none }
def fnExactSameMachinesRow : OpenClaim := { program := "ytihbenbfnpiikaa", sum := "0c39f57a78442d75aca14fba28b8c96d9e9eacf4c60adb6ec9293c1ec8ce204a", func := "loop.example/g00723/laws.FnExactSameMachines", spec := "fnExactSameMachines", unfollowed := true, recurses := true, plainKeys := false, apart := false }
def FnExactSameMachinesSaid : Prop := fnExactSameMachinesRow.holds Try.pinned (OpenSpec.ofChange fnExactSameMachinesSpec)

/-- ITS FALSE NEIGHBOUR: 'it returns false'. Refute it at one input. -/
def fnExactSameMachinesWrong : ChangeSpec := { name := "fnExactSameMachines", fn := fun _ => fun
  | [d1, d2] => { results := [.lit (.bool false)], args := [d1, d2] }
  | _ => none }
def FnExactSameMachinesWrongFalsely : Prop := fnExactSameMachinesRow.holds Try.pinned (OpenSpec.ofChange fnExactSameMachinesWrong)

/- THE SECOND FORM. 'bulk': how many values and letters a reading holds, each counted each time it is reached (what is shared counts as often as it is met; a slice's spare places count too). A statement '..UptoSaid' is the law's where the arguments, and the package variables that the reading takes, are together of bulk at most 1048576: NARROWER than '..Said'. Prove '..Said' where nothing that the law and all that it calls make is longer than what came in: it says more and counts as full. Else prove '..UptoSaid'. A law counts once. -/
mutual
def uptoBulk {H : Type} : DataW H → Nat
  | .lit (.string bytes) => bytes.length + 1
  | .lit _ => 1
  | .nil => 1
  | .ptr d => uptoBulk d + 1
  | .slice elems spare => uptoBulkAll elems + uptoBulkAll spare + 1
  | .agg parts => uptoBulkAll parts + 1
  | .iface _ d => uptoBulk d + 1
  | .map entries => uptoBulkEntries entries + 1
  | .held _ => 1
def uptoBulkAll {H : Type} : List (DataW H) → Nat
  | [] => 0
  | d :: r => uptoBulk d + uptoBulkAll r
def uptoBulkEntries {H : Type} : List (Lit × DataW H) → Nat
  | [] => 0
  | x :: r => uptoBulkEntry x + uptoBulkEntries r
def uptoBulkEntry {H : Type} : Lit × DataW H → Nat
  | (.string bytes, d) => bytes.length + uptoBulk d + 1
  | (_, d) => uptoBulk d + 1
 end
def uptoSmall : (H : Type) → List (DataW H) → Bool := fun _ ds => decide (uptoBulkAll ds ≤ 1048576)
def OpenSpec.upto (s : _root_.Go.ChangeSpec) : _root_.Go.OpenSpec := { _root_.Go.OpenSpec.ofChange s with cond := some uptoSmall }

/-- 'laws.FnCollects', WHERE WHAT IT READS IS OF BULK AT MOST 1048576: true; the input reads as it did. -/
def fnCollectsUptoRow : OpenClaim := { program := "ytihbenbfnpiikaa", sum := "0c39f57a78442d75aca14fba28b8c96d9e9eacf4c60adb6ec9293c1ec8ce204a", func := "loop.example/g00723/laws.FnCollects", spec := "fnCollects", unfollowed := true, recurses := true, plainKeys := false, apart := false, narrowed := true }
def FnCollectsUptoSaid : Prop := fnCollectsUptoRow.holds Try.pinned (OpenSpec.upto fnCollectsSpec)

/-- 'laws.FnAlikes', WHERE WHAT IT READS IS OF BULK AT MOST 1048576: true; the input reads as it did. -/
def fnAlikesUptoRow : OpenClaim := { program := "ytihbenbfnpiikaa", sum := "0c39f57a78442d75aca14fba28b8c96d9e9eacf4c60adb6ec9293c1ec8ce204a", func := "loop.example/g00723/laws.FnAlikes", spec := "fnAlikes", unfollowed := true, recurses := true, plainKeys := false, apart := false, narrowed := true }
def FnAlikesUptoSaid : Prop := fnAlikesUptoRow.holds Try.pinned (OpenSpec.upto fnAlikesSpec)

/-- 'laws.FnHandles', WHERE WHAT IT READS IS OF BULK AT MOST 1048576: true; the input reads as it did. -/
def fnHandlesUptoRow : OpenClaim := { program := "ytihbenbfnpiikaa", sum := "0c39f57a78442d75aca14fba28b8c96d9e9eacf4c60adb6ec9293c1ec8ce204a", func := "loop.example/g00723/laws.FnHandles", spec := "fnHandles", unfollowed := true, recurses := true, plainKeys := false, apart := false, narrowed := true }
def FnHandlesUptoSaid : Prop := fnHandlesUptoRow.holds Try.pinned (OpenSpec.upto fnHandlesSpec)

/-- 'laws.FnTidies', WHERE WHAT IT READS IS OF BULK AT MOST 1048576: true; the input reads as it did. -/
def fnTidiesUptoRow : OpenClaim := { program := "ytihbenbfnpiikaa", sum := "0c39f57a78442d75aca14fba28b8c96d9e9eacf4c60adb6ec9293c1ec8ce204a", func := "loop.example/g00723/laws.FnTidies", spec := "fnTidies", unfollowed := true, recurses := true, plainKeys := false, apart := false, narrowed := true }
def FnTidiesUptoSaid : Prop := fnTidiesUptoRow.holds Try.pinned (OpenSpec.upto fnTidiesSpec)

/-- 'laws.FnExactHandleWord', WHERE WHAT IT READS IS OF BULK AT MOST 1048576: true; the input reads as it did. -/
def fnExactHandleWordUptoRow : OpenClaim := { program := "ytihbenbfnpiikaa", sum := "0c39f57a78442d75aca14fba28b8c96d9e9eacf4c60adb6ec9293c1ec8ce204a", func := "loop.example/g00723/laws.FnExactHandleWord", spec := "fnExactHandleWord", plainKeys := false, apart := false, narrowed := true }
def FnExactHandleWordUptoSaid : Prop := fnExactHandleWordUptoRow.holds Try.pinned (OpenSpec.upto fnExactHandleWordSpec)

/-- 'laws.FnExactReadHandle', WHERE WHAT IT READS IS OF BULK AT MOST 1048576: true; the input reads as it did. -/
def fnExactReadHandleUptoRow : OpenClaim := { program := "ytihbenbfnpiikaa", sum := "0c39f57a78442d75aca14fba28b8c96d9e9eacf4c60adb6ec9293c1ec8ce204a", func := "loop.example/g00723/laws.FnExactReadHandle", spec := "fnExactReadHandle", plainKeys := false, apart := false, narrowed := true }
def FnExactReadHandleUptoSaid : Prop := fnExactReadHandleUptoRow.holds Try.pinned (OpenSpec.upto fnExactReadHandleSpec)

/-- 'laws.FnExactMachineFault', WHERE WHAT IT READS IS OF BULK AT MOST 1048576: true; the input reads as it did. -/
def fnExactMachineFaultUptoRow : OpenClaim := { program := "ytihbenbfnpiikaa", sum := "0c39f57a78442d75aca14fba28b8c96d9e9eacf4c60adb6ec9293c1ec8ce204a", func := "loop.example/g00723/laws.FnExactMachineFault", spec := "fnExactMachineFault", unfollowed := true, recurses := true, plainKeys := false, apart := false, narrowed := true }
def FnExactMachineFaultUptoSaid : Prop := fnExactMachineFaultUptoRow.holds Try.pinned (OpenSpec.upto fnExactMachineFaultSpec)

/-- 'laws.FnExactNewMachine', WHERE WHAT IT READS IS OF BULK AT MOST 1048576: true; the input reads as it did. -/
def fnExactNewMachineUptoRow : OpenClaim := { program := "ytihbenbfnpiikaa", sum := "0c39f57a78442d75aca14fba28b8c96d9e9eacf4c60adb6ec9293c1ec8ce204a", func := "loop.example/g00723/laws.FnExactNewMachine", spec := "fnExactNewMachine", unfollowed := true, recurses := true, plainKeys := false, apart := false, narrowed := true }
def FnExactNewMachineUptoSaid : Prop := fnExactNewMachineUptoRow.holds Try.pinned (OpenSpec.upto fnExactNewMachineSpec)

/-- 'laws.FnExactReachOf', WHERE WHAT IT READS IS OF BULK AT MOST 1048576: true; the input reads as it did. -/
def fnExactReachOfUptoRow : OpenClaim := { program := "ytihbenbfnpiikaa", sum := "0c39f57a78442d75aca14fba28b8c96d9e9eacf4c60adb6ec9293c1ec8ce204a", func := "loop.example/g00723/laws.FnExactReachOf", spec := "fnExactReachOf", unfollowed := true, recurses := true, plainKeys := false, apart := false, narrowed := true }
def FnExactReachOfUptoSaid : Prop := fnExactReachOfUptoRow.holds Try.pinned (OpenSpec.upto fnExactReachOfSpec)

/-- 'laws.FnExactUsedBy', WHERE WHAT IT READS IS OF BULK AT MOST 1048576: true; the input reads as it did. -/
def fnExactUsedByUptoRow : OpenClaim := { program := "ytihbenbfnpiikaa", sum := "0c39f57a78442d75aca14fba28b8c96d9e9eacf4c60adb6ec9293c1ec8ce204a", func := "loop.example/g00723/laws.FnExactUsedBy", spec := "fnExactUsedBy", unfollowed := true, recurses := true, plainKeys := false, apart := false, narrowed := true }
def FnExactUsedByUptoSaid : Prop := fnExactUsedByUptoRow.holds Try.pinned (OpenSpec.upto fnExactUsedBySpec)

/-- 'laws.FnExactTidyMachine', WHERE WHAT IT READS IS OF BULK AT MOST 1048576: true; the input reads as it did. -/
def fnExactTidyMachineUptoRow : OpenClaim := { program := "ytihbenbfnpiikaa", sum := "0c39f57a78442d75aca14fba28b8c96d9e9eacf4c60adb6ec9293c1ec8ce204a", func := "loop.example/g00723/laws.FnExactTidyMachine", spec := "fnExactTidyMachine", unfollowed := true, recurses := true, plainKeys := false, apart := false, narrowed := true }
def FnExactTidyMachineUptoSaid : Prop := fnExactTidyMachineUptoRow.holds Try.pinned (OpenSpec.upto fnExactTidyMachineSpec)

/-- 'laws.FnExactSlotOf', WHERE WHAT IT READS IS OF BULK AT MOST 1048576: true; the input reads as it did. -/
def fnExactSlotOfUptoRow : OpenClaim := { program := "ytihbenbfnpiikaa", sum := "0c39f57a78442d75aca14fba28b8c96d9e9eacf4c60adb6ec9293c1ec8ce204a", func := "loop.example/g00723/laws.FnExactSlotOf", spec := "fnExactSlotOf", unfollowed := true, recurses := true, plainKeys := false, apart := false, narrowed := true }
def FnExactSlotOfUptoSaid : Prop := fnExactSlotOfUptoRow.holds Try.pinned (OpenSpec.upto fnExactSlotOfSpec)

/-- 'laws.FnExactSameMachines', WHERE WHAT IT READS IS OF BULK AT MOST 1048576: true; the input reads as it did. -/
def fnExactSameMachinesUptoRow : OpenClaim := { program := "ytihbenbfnpiikaa", sum := "0c39f57a78442d75aca14fba28b8c96d9e9eacf4c60adb6ec9293c1ec8ce204a", func := "loop.example/g00723/laws.FnExactSameMachines", spec := "fnExactSameMachines", unfollowed := true, recurses := true, plainKeys := false, apart := false, narrowed := true }
def FnExactSameMachinesUptoSaid : Prop := fnExactSameMachinesUptoRow.holds Try.pinned (OpenSpec.upto fnExactSameMachinesSpec)

end Rows
end Go.Proofs.Ytihbenbfnpiikaa
