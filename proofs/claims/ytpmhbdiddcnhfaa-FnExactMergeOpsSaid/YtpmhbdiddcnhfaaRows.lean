/-
  No cell of these rows narrows 'for every input' (looked for: loops, veiled, ifaces, maps, wideKeys, modest, calm, conditions, laid).
  DERIVED. THE GIVEN ROWS OF THIS SEAT. 7 by the template 'for every input the law returns true; each argument reads behind the call as it read before'; 0 by the template 'total and deterministic' (their statements: YtpmhbdiddcnhfaaTotals.lean).
  GIVEN WITH THE SEED: the statements are not yours to turn. If you find one false, say at which input.
  Laid BY PROGRAM, IN A SANDBOX (cutbox-rows.mjs): the forced cells as the released guide's own fill.sh prints them over the translation c7d79a512586e8e5… (all of the seat's roots in one cut). By AI agents, Wed Nov 11 2026. No macro, syntax, notation, axiom, sorry.
-/
import Derived.Test.YtpmhbdiddcnhfaaChecked
import GoSem.Claim
import GoSem.ClaimJoined
import GoSem.ClaimMapViews
import Derived.JoinedTies
import Derived.KernelRfl
namespace Go.Proofs.Ytpmhbdiddcnhfaa
/- THE CELL 'sum', in the pinned program and in every row, IS THE sha256 OF THE DUMP (.gsa) THAT YtpmhbdiddcnhfaaProg.lean LOADS. Nothing in Lean hashes anything: it is a label: what it is worth is what the hold of that sum in a sandbox is worth. -/
noncomputable def Try.pinned : Pinned := { name := "ytpmhbdiddcnhfaa", sum := "c7d79a512586e8e5d3c281c6c9d96354975972e34dea3c845869e10086bc10ca", checked := Try.checked }
namespace Rows
def none {H : Type} : Left H := { results := [], args := [] }

/-- 'laws.FnExactOpsFor': WHATEVER THE INPUT: true; the input reads as it did. -/
def fnExactOpsForSpec : ChangeSpec := { name := "fnExactOpsFor", fn := fun _ => fun
  | [d1, d2] => { results := [.lit (.bool true)], args := [d1, d2] }
  | _ => none }
def fnExactOpsForRow : OpenClaim := { program := "ytpmhbdiddcnhfaa", sum := "c7d79a512586e8e5d3c281c6c9d96354975972e34dea3c845869e10086bc10ca", func := "loop.example/g00723/laws.FnExactOpsFor", spec := "fnExactOpsFor", plainKeys := false, apart := false }
def FnExactOpsForSaid : Prop := fnExactOpsForRow.holds Try.pinned (OpenSpec.ofChange fnExactOpsForSpec)

/-- ITS FALSE NEIGHBOUR: 'it returns false'. Refute it at one input. -/
def fnExactOpsForWrong : ChangeSpec := { name := "fnExactOpsFor", fn := fun _ => fun
  | [d1, d2] => { results := [.lit (.bool false)], args := [d1, d2] }
  | _ => none }
def FnExactOpsForWrongFalsely : Prop := fnExactOpsForRow.holds Try.pinned (OpenSpec.ofChange fnExactOpsForWrong)

/-- 'laws.FnExactRepliesFor': WHATEVER THE INPUT: true; the input reads as it did. -/
def fnExactRepliesForSpec : ChangeSpec := { name := "fnExactRepliesFor", fn := fun _ => fun
  | [d1, d2, d3] => { results := [.lit (.bool true)], args := [d1, d2, d3] }
  | _ => none }
def fnExactRepliesForRow : OpenClaim := { program := "ytpmhbdiddcnhfaa", sum := "c7d79a512586e8e5d3c281c6c9d96354975972e34dea3c845869e10086bc10ca", func := "loop.example/g00723/laws.FnExactRepliesFor", spec := "fnExactRepliesFor", plainKeys := false, apart := false }
def FnExactRepliesForSaid : Prop := fnExactRepliesForRow.holds Try.pinned (OpenSpec.ofChange fnExactRepliesForSpec)

/-- ITS FALSE NEIGHBOUR: 'it returns false'. Refute it at one input. -/
def fnExactRepliesForWrong : ChangeSpec := { name := "fnExactRepliesFor", fn := fun _ => fun
  | [d1, d2, d3] => { results := [.lit (.bool false)], args := [d1, d2, d3] }
  | _ => none }
def FnExactRepliesForWrongFalsely : Prop := fnExactRepliesForRow.holds Try.pinned (OpenSpec.ofChange fnExactRepliesForWrong)

/-- 'laws.FnExactCalmOps': WHATEVER THE INPUT: true; the input reads as it did. -/
def fnExactCalmOpsSpec : ChangeSpec := { name := "fnExactCalmOps", fn := fun _ => fun
  | [d1, d2] => { results := [.lit (.bool true)], args := [d1, d2] }
  | _ => none }
def fnExactCalmOpsRow : OpenClaim := { program := "ytpmhbdiddcnhfaa", sum := "c7d79a512586e8e5d3c281c6c9d96354975972e34dea3c845869e10086bc10ca", func := "loop.example/g00723/laws.FnExactCalmOps", spec := "fnExactCalmOps", plainKeys := false, apart := false }
def FnExactCalmOpsSaid : Prop := fnExactCalmOpsRow.holds Try.pinned (OpenSpec.ofChange fnExactCalmOpsSpec)

/-- ITS FALSE NEIGHBOUR: 'it returns false'. Refute it at one input. -/
def fnExactCalmOpsWrong : ChangeSpec := { name := "fnExactCalmOps", fn := fun _ => fun
  | [d1, d2] => { results := [.lit (.bool false)], args := [d1, d2] }
  | _ => none }
def FnExactCalmOpsWrongFalsely : Prop := fnExactCalmOpsRow.holds Try.pinned (OpenSpec.ofChange fnExactCalmOpsWrong)

/-- 'laws.FnExactMergeOps': WHATEVER THE INPUT: true; the input reads as it did. -/
def fnExactMergeOpsSpec : ChangeSpec := { name := "fnExactMergeOps", fn := fun _ => fun
  | [d1, d2, d3] => { results := [.lit (.bool true)], args := [d1, d2, d3] }
  | _ => none }
def fnExactMergeOpsRow : OpenClaim := { program := "ytpmhbdiddcnhfaa", sum := "c7d79a512586e8e5d3c281c6c9d96354975972e34dea3c845869e10086bc10ca", func := "loop.example/g00723/laws.FnExactMergeOps", spec := "fnExactMergeOps", unfollowed := true, recurses := true, plainKeys := false, apart := false }
def FnExactMergeOpsSaid : Prop := fnExactMergeOpsRow.holds Try.pinned (OpenSpec.ofChange fnExactMergeOpsSpec)

/-- ITS FALSE NEIGHBOUR: 'it returns false'. Refute it at one input. -/
def fnExactMergeOpsWrong : ChangeSpec := { name := "fnExactMergeOps", fn := fun _ => fun
  | [d1, d2, d3] => { results := [.lit (.bool false)], args := [d1, d2, d3] }
  | _ => none }
def FnExactMergeOpsWrongFalsely : Prop := fnExactMergeOpsRow.holds Try.pinned (OpenSpec.ofChange fnExactMergeOpsWrong)

/-- 'laws.FnExactHeapFault': WHATEVER THE INPUT: true; the input reads as it did. -/
def fnExactHeapFaultSpec : ChangeSpec := { name := "fnExactHeapFault", fn := fun _ => fun
  | [d] => { results := [.lit (.bool true)], args := [d] }
  | _ => none }
def fnExactHeapFaultRow : OpenClaim := { program := "ytpmhbdiddcnhfaa", sum := "c7d79a512586e8e5d3c281c6c9d96354975972e34dea3c845869e10086bc10ca", func := "loop.example/g00723/laws.FnExactHeapFault", spec := "fnExactHeapFault", unfollowed := true, recurses := true, plainKeys := false, apart := false }
def FnExactHeapFaultSaid : Prop := fnExactHeapFaultRow.holds Try.pinned (OpenSpec.ofChange fnExactHeapFaultSpec)

/-- ITS FALSE NEIGHBOUR: 'it returns false'. Refute it at one input. -/
def fnExactHeapFaultWrong : ChangeSpec := { name := "fnExactHeapFault", fn := fun _ => fun
  | [d] => { results := [.lit (.bool false)], args := [d] }
  | _ => none }
def FnExactHeapFaultWrongFalsely : Prop := fnExactHeapFaultRow.holds Try.pinned (OpenSpec.ofChange fnExactHeapFaultWrong)

/-- 'laws.FnExactRootsOf': WHATEVER THE INPUT: true; the input reads as it did. -/
def fnExactRootsOfSpec : ChangeSpec := { name := "fnExactRootsOf", fn := fun _ => fun
  | [d] => { results := [.lit (.bool true)], args := [d] }
  | _ => none }
def fnExactRootsOfRow : OpenClaim := { program := "ytpmhbdiddcnhfaa", sum := "c7d79a512586e8e5d3c281c6c9d96354975972e34dea3c845869e10086bc10ca", func := "loop.example/g00723/laws.FnExactRootsOf", spec := "fnExactRootsOf", unfollowed := true, recurses := true, plainKeys := false, apart := false }
def FnExactRootsOfSaid : Prop := fnExactRootsOfRow.holds Try.pinned (OpenSpec.ofChange fnExactRootsOfSpec)

/-- ITS FALSE NEIGHBOUR: 'it returns false'. Refute it at one input. -/
def fnExactRootsOfWrong : ChangeSpec := { name := "fnExactRootsOf", fn := fun _ => fun
  | [d] => { results := [.lit (.bool false)], args := [d] }
  | _ => none }
def FnExactRootsOfWrongFalsely : Prop := fnExactRootsOfRow.holds Try.pinned (OpenSpec.ofChange fnExactRootsOfWrong)

/-- 'laws.FnTidies': WHATEVER THE INPUT: true; the input reads as it did. -/
def fnTidiesSpec : ChangeSpec := { name := "fnTidies", fn := fun _ => fun
  | [d] => { results := [.lit (.bool true)], args := [d] }
  | _ => none }
def fnTidiesRow : OpenClaim := { program := "ytpmhbdiddcnhfaa", sum := "c7d79a512586e8e5d3c281c6c9d96354975972e34dea3c845869e10086bc10ca", func := "loop.example/g00723/laws.FnTidies", spec := "fnTidies", unfollowed := true, recurses := true, plainKeys := false, apart := false }
def FnTidiesSaid : Prop := fnTidiesRow.holds Try.pinned (OpenSpec.ofChange fnTidiesSpec)

/-- ITS FALSE NEIGHBOUR: 'it returns false'. Refute it at one input. -/
def fnTidiesWrong : ChangeSpec := { name := "fnTidies", fn := fun _ => fun
  | [d] => { results := [.lit (.bool false)], args := [d] }
  | _ => none }
def FnTidiesWrongFalsely : Prop := fnTidiesRow.holds Try.pinned (OpenSpec.ofChange fnTidiesWrong)

/- THE SECOND FORM. 'bulk': how many values and letters a reading holds, each counted each time it is reached (what is shared counts as often as it is met; a slice's spare places count too). A statement '..UptoSaid' is the law's where the arguments, and the package variables that the reading takes, are together of bulk at most 1048576: NARROWER than '..Said'. Prove '..Said' where nothing that the law and all that it calls make is longer than what came in: it says more and counts as full. Else prove '..UptoSaid'. A law counts once. -/
mutual
def uptoBulk {H : Type} : DataW H → Nat
  | .lit (.string bytes) => bytes.length + 1
  | .lit _ => 1
  | .nil => 1
  | .ptr d => uptoBulk d + 1
  | .slice elems spare => uptoBulkAll elems + uptoBulkAll spare + 1
  | .agg parts => uptoBulkAll parts + 1
  | .iface _ d => uptoBulk d + 1
  | .map entries => uptoBulkEntries entries + 1
  | .held _ => 1
def uptoBulkAll {H : Type} : List (DataW H) → Nat
  | [] => 0
  | d :: r => uptoBulk d + uptoBulkAll r
def uptoBulkEntries {H : Type} : List (Lit × DataW H) → Nat
  | [] => 0
  | x :: r => uptoBulkEntry x + uptoBulkEntries r
def uptoBulkEntry {H : Type} : Lit × DataW H → Nat
  | (.string bytes, d) => bytes.length + uptoBulk d + 1
  | (_, d) => uptoBulk d + 1
 end
def uptoSmall : (H : Type) → List (DataW H) → Bool := fun _ ds => decide (uptoBulkAll ds ≤ 1048576)
def OpenSpec.upto (s : _root_.Go.ChangeSpec) : _root_.Go.OpenSpec := { _root_.Go.OpenSpec.ofChange s with cond := some uptoSmall }

/-- 'laws.FnExactOpsFor', WHERE WHAT IT READS IS OF BULK AT MOST 1048576: true; the input reads as it did. -/
def fnExactOpsForUptoRow : OpenClaim := { program := "ytpmhbdiddcnhfaa", sum := "c7d79a512586e8e5d3c281c6c9d96354975972e34dea3c845869e10086bc10ca", func := "loop.example/g00723/laws.FnExactOpsFor", spec := "fnExactOpsFor", plainKeys := false, apart := false, narrowed := true }
def FnExactOpsForUptoSaid : Prop := fnExactOpsForUptoRow.holds Try.pinned (OpenSpec.upto fnExactOpsForSpec)

/-- 'laws.FnExactRepliesFor', WHERE WHAT IT READS IS OF BULK AT MOST 1048576: true; the input reads as it did. -/
def fnExactRepliesForUptoRow : OpenClaim := { program := "ytpmhbdiddcnhfaa", sum := "c7d79a512586e8e5d3c281c6c9d96354975972e34dea3c845869e10086bc10ca", func := "loop.example/g00723/laws.FnExactRepliesFor", spec := "fnExactRepliesFor", plainKeys := false, apart := false, narrowed := true }
def FnExactRepliesForUptoSaid : Prop := fnExactRepliesForUptoRow.holds Try.pinned (OpenSpec.upto fnExactRepliesForSpec)

/-- 'laws.FnExactCalmOps', WHERE WHAT IT READS IS OF BULK AT MOST 1048576: true; the input reads as it did. -/
def fnExactCalmOpsUptoRow : OpenClaim := { program := "ytpmhbdiddcnhfaa", sum := "c7d79a512586e8e5d3c281c6c9d96354975972e34dea3c845869e10086bc10ca", func := "loop.example/g00723/laws.FnExactCalmOps", spec := "fnExactCalmOps", plainKeys := false, apart := false, narrowed := true }
def FnExactCalmOpsUptoSaid : Prop := fnExactCalmOpsUptoRow.holds Try.pinned (OpenSpec.upto fnExactCalmOpsSpec)

/-- 'laws.FnExactMergeOps', WHERE WHAT IT READS IS OF BULK AT MOST 1048576: true; the input reads as it did. -/
def fnExactMergeOpsUptoRow : OpenClaim := { program := "ytpmhbdiddcnhfaa", sum := "c7d79a512586e8e5d3c281c6c9d96354975972e34dea3c845869e10086bc10ca", func := "loop.example/g00723/laws.FnExactMergeOps", spec := "fnExactMergeOps", unfollowed := true, recurses := true, plainKeys := false, apart := false, narrowed := true }
def FnExactMergeOpsUptoSaid : Prop := fnExactMergeOpsUptoRow.holds Try.pinned (OpenSpec.upto fnExactMergeOpsSpec)

/-- 'laws.FnExactHeapFault', WHERE WHAT IT READS IS OF BULK AT MOST 1048576: true; the input reads as it did. -/
def fnExactHeapFaultUptoRow : OpenClaim := { program := "ytpmhbdiddcnhfaa", sum := "c7d79a512586e8e5d3c281c6c9d96354975972e34dea3c845869e10086bc10ca", func := "loop.example/g00723/laws.FnExactHeapFault", spec := "fnExactHeapFault", unfollowed := true, recurses := true, plainKeys := false, apart := false, narrowed := true }
def FnExactHeapFaultUptoSaid : Prop := fnExactHeapFaultUptoRow.holds Try.pinned (OpenSpec.upto fnExactHeapFaultSpec)

/-- 'laws.FnExactRootsOf', WHERE WHAT IT READS IS OF BULK AT MOST 1048576: true; the input reads as it did. -/
def fnExactRootsOfUptoRow : OpenClaim := { program := "ytpmhbdiddcnhfaa", sum := "c7d79a512586e8e5d3c281c6c9d96354975972e34dea3c845869e10086bc10ca", func := "loop.example/g00723/laws.FnExactRootsOf", spec := "fnExactRootsOf", unfollowed := true, recurses := true, plainKeys := false, apart := false, narrowed := true }
def FnExactRootsOfUptoSaid : Prop := fnExactRootsOfUptoRow.holds Try.pinned (OpenSpec.upto fnExactRootsOfSpec)

/-- 'laws.FnTidies', WHERE WHAT IT READS IS OF BULK AT MOST 1048576: true; the input reads as it did. -/
def fnTidiesUptoRow : OpenClaim := { program := "ytpmhbdiddcnhfaa", sum := "c7d79a512586e8e5d3c281c6c9d96354975972e34dea3c845869e10086bc10ca", func := "loop.example/g00723/laws.FnTidies", spec := "fnTidies", unfollowed := true, recurses := true, plainKeys := false, apart := false, narrowed := true }
def FnTidiesUptoSaid : Prop := fnTidiesUptoRow.holds Try.pinned (OpenSpec.upto fnTidiesSpec)

end Rows
end Go.Proofs.Ytpmhbdiddcnhfaa
