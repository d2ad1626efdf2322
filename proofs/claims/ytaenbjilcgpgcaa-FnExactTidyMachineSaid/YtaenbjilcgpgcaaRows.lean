/-
  No cell of these rows narrows 'for every input' (looked for: loops, veiled, ifaces, maps, wideKeys, modest, calm, conditions, laid).
  DERIVED. THE GIVEN ROWS OF THIS SEAT. 8 by the template 'for every input the law returns true; each argument reads behind the call as it read before'; 0 by the template 'total and deterministic' (their statements: YtaenbjilcgpgcaaTotals.lean).
  GIVEN WITH THE SEED: the statements are not yours to turn. If you find one false, say at which input.
  Laid BY PROGRAM, IN A SANDBOX (cutbox-rows.mjs): the forced cells as the released guide's own fill.sh prints them over the translation 49adfeb53889b93d… (all of the seat's roots in one cut). By AI agents, Wed Nov 11 2026. No macro, syntax, notation, axiom, sorry.
-/
import Derived.Test.YtaenbjilcgpgcaaChecked
import GoSem.Claim
import GoSem.ClaimJoined
import GoSem.ClaimMapViews
import Derived.JoinedTies
import Derived.KernelRfl
namespace Go.Proofs.Ytaenbjilcgpgcaa
/- THE CELL 'sum', in the pinned program and in every row, IS THE sha256 OF THE DUMP (.gsa) THAT YtaenbjilcgpgcaaProg.lean LOADS. Nothing in Lean hashes anything: it is a label: what it is worth is what the hold of that sum in a sandbox is worth. -/
noncomputable def Try.pinned : Pinned := { name := "ytaenbjilcgpgcaa", sum := "49adfeb53889b93d9f4d42e4c57b39a43ed53c5b31298fe76c56d58a3007ee48", checked := Try.checked }
namespace Rows
def none {H : Type} : Left H := { results := [], args := [] }

/-- 'laws.FnCollects': WHATEVER THE INPUT: true; the input reads as it did. -/
def fnCollectsSpec : ChangeSpec := { name := "fnCollects", fn := fun _ => fun
  | [d] => { results := [.lit (.bool true)], args := [d] }
  | _ => none }
def fnCollectsRow : OpenClaim := { program := "ytaenbjilcgpgcaa", sum := "49adfeb53889b93d9f4d42e4c57b39a43ed53c5b31298fe76c56d58a3007ee48", func := "loop.example/g00723/laws.FnCollects", spec := "fnCollects", unfollowed := true, recurses := true, plainKeys := false, apart := false }
def FnCollectsSaid : Prop := fnCollectsRow.holds Try.pinned (OpenSpec.ofChange fnCollectsSpec)

/-- ITS FALSE NEIGHBOUR: 'it returns false'. Refute it at one input. -/
def fnCollectsWrong : ChangeSpec := { name := "fnCollects", fn := fun _ => fun
  | [d] => { results := [.lit (.bool false)], args := [d] }
  | _ => none }
def FnCollectsWrongFalsely : Prop := fnCollectsRow.holds Try.pinned (OpenSpec.ofChange fnCollectsWrong)

/-- 'laws.FnHandles': WHATEVER THE INPUT: true; the input reads as it did. -/
def fnHandlesSpec : ChangeSpec := { name := "fnHandles", fn := fun _ => fun
  | [d] => { results := [.lit (.bool true)], args := [d] }
  | _ => none }
def fnHandlesRow : OpenClaim := { program := "ytaenbjilcgpgcaa", sum := "49adfeb53889b93d9f4d42e4c57b39a43ed53c5b31298fe76c56d58a3007ee48", func := "loop.example/g00723/laws.FnHandles", spec := "fnHandles", unfollowed := true, recurses := true, plainKeys := false, apart := false }
def FnHandlesSaid : Prop := fnHandlesRow.holds Try.pinned (OpenSpec.ofChange fnHandlesSpec)

/-- ITS FALSE NEIGHBOUR: 'it returns false'. Refute it at one input. -/
def fnHandlesWrong : ChangeSpec := { name := "fnHandles", fn := fun _ => fun
  | [d] => { results := [.lit (.bool false)], args := [d] }
  | _ => none }
def FnHandlesWrongFalsely : Prop := fnHandlesRow.holds Try.pinned (OpenSpec.ofChange fnHandlesWrong)

/-- 'laws.FnTidies': WHATEVER THE INPUT: true; the input reads as it did. -/
def fnTidiesSpec : ChangeSpec := { name := "fnTidies", fn := fun _ => fun
  | [d] => { results := [.lit (.bool true)], args := [d] }
  | _ => none }
def fnTidiesRow : OpenClaim := { program := "ytaenbjilcgpgcaa", sum := "49adfeb53889b93d9f4d42e4c57b39a43ed53c5b31298fe76c56d58a3007ee48", func := "loop.example/g00723/laws.FnTidies", spec := "fnTidies", unfollowed := true, recurses := true, plainKeys := false, apart := false }
def FnTidiesSaid : Prop := fnTidiesRow.holds Try.pinned (OpenSpec.ofChange fnTidiesSpec)

/-- ITS FALSE NEIGHBOUR: 'it returns false'. Refute it at one input. -/
def fnTidiesWrong : ChangeSpec := { name := "fnTidies", fn := fun _ => fun
  | [d] => { results := [.lit (.bool false)], args := [d] }
  | _ => none }
def FnTidiesWrongFalsely : Prop := fnTidiesRow.holds Try.pinned (OpenSpec.ofChange fnTidiesWrong)

/-- 'laws.FnExactReachOf': WHATEVER THE INPUT: true; the input reads as it did. -/
def fnExactReachOfSpec : ChangeSpec := { name := "fnExactReachOf", fn := fun _ => fun
  | [d] => { results := [.lit (.bool true)], args := [d] }
  | _ => none }
def fnExactReachOfRow : OpenClaim := { program := "ytaenbjilcgpgcaa", sum := "49adfeb53889b93d9f4d42e4c57b39a43ed53c5b31298fe76c56d58a3007ee48", func := "loop.example/g00723/laws.FnExactReachOf", spec := "fnExactReachOf", unfollowed := true, recurses := true, plainKeys := false, apart := false }
def FnExactReachOfSaid : Prop := fnExactReachOfRow.holds Try.pinned (OpenSpec.ofChange fnExactReachOfSpec)

/-- ITS FALSE NEIGHBOUR: 'it returns false'. Refute it at one input. -/
def fnExactReachOfWrong : ChangeSpec := { name := "fnExactReachOf", fn := fun _ => fun
  | [d] => { results := [.lit (.bool false)], args := [d] }
  | _ => none }
def FnExactReachOfWrongFalsely : Prop := fnExactReachOfRow.holds Try.pinned (OpenSpec.ofChange fnExactReachOfWrong)

/-- 'laws.FnExactUsedBy': WHATEVER THE INPUT: true; the input reads as it did. -/
def fnExactUsedBySpec : ChangeSpec := { name := "fnExactUsedBy", fn := fun _ => fun
  | [d] => { results := [.lit (.bool true)], args := [d] }
  | _ => none }
def fnExactUsedByRow : OpenClaim := { program := "ytaenbjilcgpgcaa", sum := "49adfeb53889b93d9f4d42e4c57b39a43ed53c5b31298fe76c56d58a3007ee48", func := "loop.example/g00723/laws.FnExactUsedBy", spec := "fnExactUsedBy", unfollowed := true, recurses := true, plainKeys := false, apart := false }
def FnExactUsedBySaid : Prop := fnExactUsedByRow.holds Try.pinned (OpenSpec.ofChange fnExactUsedBySpec)

/-- ITS FALSE NEIGHBOUR: 'it returns false'. Refute it at one input. -/
def fnExactUsedByWrong : ChangeSpec := { name := "fnExactUsedBy", fn := fun _ => fun
  | [d] => { results := [.lit (.bool false)], args := [d] }
  | _ => none }
def FnExactUsedByWrongFalsely : Prop := fnExactUsedByRow.holds Try.pinned (OpenSpec.ofChange fnExactUsedByWrong)

/-- 'laws.FnExactTidyMachine': WHATEVER THE INPUT: true; the input reads as it did. -/
def fnExactTidyMachineSpec : ChangeSpec := { name := "fnExactTidyMachine", fn := fun _ => fun
  | [d] => { results := [.lit (.bool true)], args := [d] }
  | _ => none }
def fnExactTidyMachineRow : OpenClaim := { program := "ytaenbjilcgpgcaa", sum := "49adfeb53889b93d9f4d42e4c57b39a43ed53c5b31298fe76c56d58a3007ee48", func := "loop.example/g00723/laws.FnExactTidyMachine", spec := "fnExactTidyMachine", unfollowed := true, recurses := true, plainKeys := false, apart := false }
def FnExactTidyMachineSaid : Prop := fnExactTidyMachineRow.holds Try.pinned (OpenSpec.ofChange fnExactTidyMachineSpec)

/-- ITS FALSE NEIGHBOUR: 'it returns false'. Refute it at one input. -/
def fnExactTidyMachineWrong : ChangeSpec := { name := "fnExactTidyMachine", fn := fun _ => fun
  | [d] => { results := [.lit (.bool false)], args := [d] }
  | _ => none }
def FnExactTidyMachineWrongFalsely : Prop := fnExactTidyMachineRow.holds Try.pinned (OpenSpec.ofChange fnExactTidyMachineWrong)

/-- 'laws.FnExactSlotOf': WHATEVER THE INPUT: true; the input reads as it did. -/
def fnExactSlotOfSpec : ChangeSpec := { name := "fnExactSlotOf", fn := fun _ => fun
  | [d1, d2] => { results := [.lit (.bool true)], args := [d1, d2] }
  | _ => none }
def fnExactSlotOfRow : OpenClaim := { program := "ytaenbjilcgpgcaa", sum := "49adfeb53889b93d9f4d42e4c57b39a43ed53c5b31298fe76c56d58a3007ee48", func := "loop.example/g00723/laws.FnExactSlotOf", spec := "fnExactSlotOf", unfollowed := true, recurses := true, plainKeys := false, apart := false }
def FnExactSlotOfSaid : Prop := fnExactSlotOfRow.holds Try.pinned (OpenSpec.ofChange fnExactSlotOfSpec)

/-- ITS FALSE NEIGHBOUR: 'it returns false'. Refute it at one input. -/
def fnExactSlotOfWrong : ChangeSpec := { name := "fnExactSlotOf", fn := fun _ => fun
  | [d1, d2] => { results := [.lit (.bool false)], args := [d1, d2] }
  | _ => none }
def FnExactSlotOfWrongFalsely : Prop := fnExactSlotOfRow.holds Try.pinned (OpenSpec.ofChange fnExactSlotOfWrong)

/-- 'laws.FnExactSameMachines': WHATEVER THE INPUT: true; the input reads as it did. -/
def fnExactSameMachinesSpec : ChangeSpec := { name := "fnExactSameMachines", fn := fun _ => fun
  | [d1, d2] => { results := [.lit (.bool true)], args := [d1, d2] }
  | _ => none }
def fnExactSameMachinesRow : OpenClaim := { program := "ytaenbjilcgpgcaa", sum := "49adfeb53889b93d9f4d42e4c57b39a43ed53c5b31298fe76c56d58a3007ee48", func := "loop.example/g00723/laws.FnExactSameMachines", spec := "fnExactSameMachines", unfollowed := true, recurses := true, plainKeys := false, apart := false }
def FnExactSameMachinesSaid : Prop := fnExactSameMachinesRow.holds Try.pinned (OpenSpec.ofChange fnExactSameMachinesSpec)

/-- ITS FALSE NEIGHBOUR: 'it returns false'. Refute it at one input. -/
def fnExactSameMachinesWrong : ChangeSpec := { name := "fnExactSameMachines", fn := fun _ => fun
  | [d1, d2] => { results := [.lit (.bool false)], args := [d1, d2] }
  | _ => none }
def FnExactSameMachinesWrongFalsely : Prop := fnExactSameMachinesRow.holds Try.pinned (OpenSpec.ofChange fnExactSameMachinesWrong)

/- THE SECOND FORM. 'bulk': how many values and letters a reading holds, each counted each time it is reached (what is shared counts as often as it is met; a slice's spare places count too). A statement '..UptoSaid' is the law's where the arguments, and the package variables that the reading takes, are together of bulk at most 1048576: NARROWER than '..Said'. Prove '..Said' where nothing that the law and all that it calls make is longer than what came in: it says more and counts as full. Else prove '..UptoSaid'. A law counts once. -/
mutual
def uptoBulk {H : Type} : DataW H → Nat
  | .lit (.string bytes) => bytes.length + 1
  | .lit _ => 1
  | .nil => 1
  | .ptr d => uptoBulk d + 1
  | .slice elems spare => uptoBulkAll elems + uptoBulkAll spare + 1
  | .agg parts => uptoBulkAll parts + 1
  | .iface _ d => uptoBulk d + 1
  | .map entries => uptoBulkEntries entries + 1
  | .held _ => 1
def uptoBulkAll {H : Type} : List (DataW H) → Nat
  | [] => 0
  | d :: r => uptoBulk d + uptoBulkAll r
def uptoBulkEntries {H : Type} : List (Lit × DataW H) → Nat
  | [] => 0
  | x :: r => uptoBulkEntry x + uptoBulkEntries r
def uptoBulkEntry {H : Type} : Lit × DataW H → Nat
  | (.string bytes, d) => bytes.length + uptoBulk d + 1
  | (_, d) => uptoBulk d + 1
 end
def uptoSmall : (H : Type) → List (DataW H) → Bool := fun _ ds => decide (uptoBulkAll ds ≤ 1048576)
def OpenSpec.upto (s : _root_.Go.ChangeSpec) : _root_.Go.OpenSpec := { _root_.Go.OpenSpec.ofChange s with cond := some uptoSmall }

/-- 'laws.FnCollects', WHERE WHAT IT READS IS OF BULK AT MOST 1048576: true; the input reads as it did. -/
def fnCollectsUptoRow : OpenClaim := { program := "ytaenbjilcgpgcaa", sum := "49adfeb53889b93d9f4d42e4c57b39a43ed53c5b31298fe76c56d58a3007ee48", func := "loop.example/g00723/laws.FnCollects", spec := "fnCollects", unfollowed := true, recurses := true, plainKeys := false, apart := false, narrowed := true }
def FnCollectsUptoSaid : Prop := fnCollectsUptoRow.holds Try.pinned (OpenSpec.upto fnCollectsSpec)

/-- 'laws.FnHandles', WHERE WHAT IT READS IS OF BULK AT MOST 1048576: true; the input reads as it did. -/
def fnHandlesUptoRow : OpenClaim := { program := "ytaenbjilcgpgcaa", sum := "49adfeb53889b93d9f4d42e4c57b39a43ed53c5b31298fe76c56d58a3007ee48", func := "loop.example/g00723/laws.FnHandles", spec := "fnHandles", unfollowed := true, recurses := true, plainKeys := false, apart := false, narrowed := true }
def FnHandlesUptoSaid : Prop := fnHandlesUptoRow.holds Try.pinned (OpenSpec.upto fnHandlesSpec)

/-- 'laws.FnTidies', WHERE WHAT IT READS IS OF BULK AT MOST 1048576: true; the input reads as it did. -/
def fnTidiesUptoRow : OpenClaim := { program := "ytaenbjilcgpgcaa", sum := "49adfeb53889b93d9f4d42e4c57b39a43ed53c5b31298fe76c56d58a3007ee48", func := "loop.example/g00723/laws.FnTidies", spec := "fnTidies", unfollowed := true, recurses := true, plainKeys := false, apart := false, narrowed := true }
def FnTidiesUptoSaid : Prop := fnTidiesUptoRow.holds Try.pinned (OpenSpec.upto fnTidiesSpec)

/-- 'laws.FnExactReachOf', WHERE WHAT IT READS IS OF BULK AT MOST 1048576: true; the input reads as it did. -/
def fnExactReachOfUptoRow : OpenClaim := { program := "ytaenbjilcgpgcaa", sum := "49adfeb53889b93d9f4d42e4c57b39a43ed53c5b31298fe76c56d58a3007ee48", func := "loop.example/g00723/laws.FnExactReachOf", spec := "fnExactReachOf", unfollowed := true, recurses := true, plainKeys := false, apart := false, narrowed := true }
def FnExactReachOfUptoSaid : Prop := fnExactReachOfUptoRow.holds Try.pinned (OpenSpec.upto fnExactReachOfSpec)

/-- 'laws.FnExactUsedBy', WHERE WHAT IT READS IS OF BULK AT MOST 1048576: true; the input reads as it did. -/
def fnExactUsedByUptoRow : OpenClaim := { program := "ytaenbjilcgpgcaa", sum := "49adfeb53889b93d9f4d42e4c57b39a43ed53c5b31298fe76c56d58a3007ee48", func := "loop.example/g00723/laws.FnExactUsedBy", spec := "fnExactUsedBy", unfollowed := true, recurses := true, plainKeys := false, apart := false, narrowed := true }
def FnExactUsedByUptoSaid : Prop := fnExactUsedByUptoRow.holds Try.pinned (OpenSpec.upto fnExactUsedBySpec)

/-- 'laws.FnExactTidyMachine', WHERE WHAT IT READS IS OF BULK AT MOST 1048576: true; the input reads as it did. -/
def fnExactTidyMachineUptoRow : OpenClaim := { program := "ytaenbjilcgpgcaa", sum := "49adfeb53889b93d9f4d42e4c57b39a43ed53c5b31298fe76c56d58a3007ee48", func := "loop.example/g00723/laws.FnExactTidyMachine", spec := "fnExactTidyMachine", unfollowed := true, recurses := true, plainKeys := false, apart := false, narrowed := true }
def FnExactTidyMachineUptoSaid : Prop := fnExactTidyMachineUptoRow.holds Try.pinned (OpenSpec.upto fnExactTidyMachineSpec)

/-- 'laws.FnExactSlotOf', WHERE WHAT IT READS IS OF BULK AT MOST 1048576: true; the input reads as it did. -/
def fnExactSlotOfUptoRow : OpenClaim := { program := "ytaenbjilcgpgcaa", sum := "49adfeb53889b93d9f4d42e4c57b39a43ed53c5b31298fe76c56d58a3007ee48", func := "loop.example/g00723/laws.FnExactSlotOf", spec := "fnExactSlotOf", unfollowed := true, recurses := true, plainKeys := false, apart := false, narrowed := true }
def FnExactSlotOfUptoSaid : Prop := fnExactSlotOfUptoRow.holds Try.pinned (OpenSpec.upto fnExactSlotOfSpec)

/-- 'laws.FnExactSameMachines', WHERE WHAT IT READS IS OF BULK AT MOST 1048576: true; the input reads as it did. -/
def fnExactSameMachinesUptoRow : OpenClaim := { program := "ytaenbjilcgpgcaa", sum := "49adfeb53889b93d9f4d42e4c57b39a43ed53c5b31298fe76c56d58a3007ee48", func := "loop.example/g00723/laws.FnExactSameMachines", spec := "fnExactSameMachines", unfollowed := true, recurses := true, plainKeys := false, apart := false, narrowed := true }
def FnExactSameMachinesUptoSaid : Prop := fnExactSameMachinesUptoRow.holds Try.pinned (OpenSpec.upto fnExactSameMachinesSpec)

end Rows
end Go.Proofs.Ytaenbjilcgpgcaa
