/-
  No cell of these rows narrows 'for every input' (looked for: loops, veiled, ifaces, maps, wideKeys, modest, calm, conditions, laid).
  DERIVED. THE GIVEN ROWS OF THIS SEAT. 7 by the template 'for every input the law returns true; each argument reads behind the call as it read before'; 0 by the template 'total and deterministic' (their statements: YtbhjmomphajnnaaTotals.lean).
  GIVEN WITH THE SEED: the statements are not yours to turn. If you find one false, say at which input.
  Laid BY PROGRAM, IN A SANDBOX (cutbox-rows.mjs): the forced cells as the released guide's own fill.sh prints them over the translation c1341d3373569a70… (all of the seat's roots in one cut). By AI agents, Wed Nov 11 2026. No macro, syntax, notation, axiom, sorry.
-/
import Derived.Test.YtbhjmomphajnnaaChecked
import GoSem.Claim
import GoSem.ClaimJoined
import GoSem.ClaimMapViews
import Derived.JoinedTies
import Derived.KernelRfl
namespace Go.Proofs.Ytbhjmomphajnnaa
/- THE CELL 'sum', in the pinned program and in every row, IS THE sha256 OF THE DUMP (.gsa) THAT YtbhjmomphajnnaaProg.lean LOADS. Nothing in Lean hashes anything: it is a label: what it is worth is what the hold of that sum in a sandbox is worth. -/
noncomputable def Try.pinned : Pinned := { name := "ytbhjmomphajnnaa", sum := "c1341d3373569a70ae327db7d93a3ec456ed112900bb23e4369c10dd79df40a5", checked := Try.checked }
namespace Rows
def none {H : Type} : Left H := { results := [], args := [] }

/-- 'laws.FnCollects': WHATEVER THE INPUT: true; the input reads as it did. -/
def fnCollectsSpec : ChangeSpec := { name := "fnCollects", fn := fun _ => fun
  | [d] => { results := [.lit (.bool true)], args := [d] }
  | _ => none }
def fnCollectsRow : OpenClaim := { program := "ytbhjmomphajnnaa", sum := "c1341d3373569a70ae327db7d93a3ec456ed112900bb23e4369c10dd79df40a5", func := "loop.example/g00723/laws.FnCollects", spec := "fnCollects", unfollowed := true, recurses := true, plainKeys := false, apart := false }
def FnCollectsSaid : Prop := fnCollectsRow.holds Try.pinned (OpenSpec.ofChange fnCollectsSpec)

/-- ITS FALSE NEIGHBOUR: 'it returns false'. Refute it at one input. -/
def fnCollectsWrong : ChangeSpec := { name := "fnCollects", fn := fun _ => fun
  | [d] => { results := [.lit (.bool false)], args := [d] }
  | _ => none }
def FnCollectsWrongFalsely : Prop := fnCollectsRow.holds Try.pinned (OpenSpec.ofChange fnCollectsWrong)

/-- 'laws.FnHandles': WHATEVER THE INPUT: true; the input reads as it did. -/
def fnHandlesSpec : ChangeSpec := { name := "fnHandles", fn := fun _ => fun
  | [d] => { results := [.lit (.bool true)], args := [d] }
  | _ => none }
def fnHandlesRow : OpenClaim := { program := "ytbhjmomphajnnaa", sum := "c1341d3373569a70ae327db7d93a3ec456ed112900bb23e4369c10dd79df40a5", func := "loop.example/g00723/laws.FnHandles", spec := "fnHandles", unfollowed := true, recurses := true, plainKeys := false, apart := false }
def FnHandlesSaid : Prop := fnHandlesRow.holds Try.pinned (OpenSpec.ofChange fnHandlesSpec)

/-- ITS FALSE NEIGHBOUR: 'it returns false'. Refute it at one input. -/
def fnHandlesWrong : ChangeSpec := { name := "fnHandles", fn := fun _ => fun
  | [d] => { results := [.lit (.bool false)], args := [d] }
  | _ => none }
def FnHandlesWrongFalsely : Prop := fnHandlesRow.holds Try.pinned (OpenSpec.ofChange fnHandlesWrong)

/-- 'laws.FnExactOpFault': WHATEVER THE INPUT: true; the input reads as it did. -/
def fnExactOpFaultSpec : ChangeSpec := { name := "fnExactOpFault", fn := fun _ => fun
  | [d] => { results := [.lit (.bool true)], args := [d] }
  | _ => none }
def fnExactOpFaultRow : OpenClaim := { program := "ytbhjmomphajnnaa", sum := "c1341d3373569a70ae327db7d93a3ec456ed112900bb23e4369c10dd79df40a5", func := "loop.example/g00723/laws.FnExactOpFault", spec := "fnExactOpFault", unfollowed := true, recurses := true, plainKeys := false, apart := false }
def FnExactOpFaultSaid : Prop := fnExactOpFaultRow.holds Try.pinned (OpenSpec.ofChange fnExactOpFaultSpec)

/-- ITS FALSE NEIGHBOUR: 'it returns false'. Refute it at one input. -/
def fnExactOpFaultWrong : ChangeSpec := { name := "fnExactOpFault", fn := fun _ => fun
  | [d] => { results := [.lit (.bool false)], args := [d] }
  | _ => none }
def FnExactOpFaultWrongFalsely : Prop := fnExactOpFaultRow.holds Try.pinned (OpenSpec.ofChange fnExactOpFaultWrong)

/-- 'laws.FnExactSameReplies': WHATEVER THE INPUT: true; the input reads as it did. -/
def fnExactSameRepliesSpec : ChangeSpec := { name := "fnExactSameReplies", fn := fun _ => fun
  | [d1, d2] => { results := [.lit (.bool true)], args := [d1, d2] }
  | _ => none }
def fnExactSameRepliesRow : OpenClaim := { program := "ytbhjmomphajnnaa", sum := "c1341d3373569a70ae327db7d93a3ec456ed112900bb23e4369c10dd79df40a5", func := "loop.example/g00723/laws.FnExactSameReplies", spec := "fnExactSameReplies", plainKeys := false, apart := false }
def FnExactSameRepliesSaid : Prop := fnExactSameRepliesRow.holds Try.pinned (OpenSpec.ofChange fnExactSameRepliesSpec)

/-- ITS FALSE NEIGHBOUR: 'it returns false'. Refute it at one input. -/
def fnExactSameRepliesWrong : ChangeSpec := { name := "fnExactSameReplies", fn := fun _ => fun
  | [d1, d2] => { results := [.lit (.bool false)], args := [d1, d2] }
  | _ => none }
def FnExactSameRepliesWrongFalsely : Prop := fnExactSameRepliesRow.holds Try.pinned (OpenSpec.ofChange fnExactSameRepliesWrong)

/-- 'laws.FnExactConfigFault': WHATEVER THE INPUT: true; the input reads as it did. -/
def fnExactConfigFaultSpec : ChangeSpec := { name := "fnExactConfigFault", fn := fun _ => fun
  | [d] => { results := [.lit (.bool true)], args := [d] }
  | _ => none }
def fnExactConfigFaultRow : OpenClaim := { program := "ytbhjmomphajnnaa", sum := "c1341d3373569a70ae327db7d93a3ec456ed112900bb23e4369c10dd79df40a5", func := "loop.example/g00723/laws.FnExactConfigFault", spec := "fnExactConfigFault", plainKeys := false, apart := false }
def FnExactConfigFaultSaid : Prop := fnExactConfigFaultRow.holds Try.pinned (OpenSpec.ofChange fnExactConfigFaultSpec)

/-- ITS FALSE NEIGHBOUR: 'it returns false'. Refute it at one input. -/
def fnExactConfigFaultWrong : ChangeSpec := { name := "fnExactConfigFault", fn := fun _ => fun
  | [d] => { results := [.lit (.bool false)], args := [d] }
  | _ => none }
def FnExactConfigFaultWrongFalsely : Prop := fnExactConfigFaultRow.holds Try.pinned (OpenSpec.ofChange fnExactConfigFaultWrong)

/-- 'laws.FnExactNewHeap': WHATEVER THE INPUT: true; the input reads as it did. -/
def fnExactNewHeapSpec : ChangeSpec := { name := "fnExactNewHeap", fn := fun _ => fun
  | [d] => { results := [.lit (.bool true)], args := [d] }
  | _ => none }
def fnExactNewHeapRow : OpenClaim := { program := "ytbhjmomphajnnaa", sum := "c1341d3373569a70ae327db7d93a3ec456ed112900bb23e4369c10dd79df40a5", func := "loop.example/g00723/laws.FnExactNewHeap", spec := "fnExactNewHeap", plainKeys := false, apart := false }
def FnExactNewHeapSaid : Prop := fnExactNewHeapRow.holds Try.pinned (OpenSpec.ofChange fnExactNewHeapSpec)

/-- ITS FALSE NEIGHBOUR: 'it returns false'. Refute it at one input. -/
def fnExactNewHeapWrong : ChangeSpec := { name := "fnExactNewHeap", fn := fun _ => fun
  | [d] => { results := [.lit (.bool false)], args := [d] }
  | _ => none }
def FnExactNewHeapWrongFalsely : Prop := fnExactNewHeapRow.holds Try.pinned (OpenSpec.ofChange fnExactNewHeapWrong)

/-- 'laws.FnExactSameHeaps': WHATEVER THE INPUT: true; the input reads as it did. -/
def fnExactSameHeapsSpec : ChangeSpec := { name := "fnExactSameHeaps", fn := fun _ => fun
  | [d1, d2] => { results := [.lit (.bool true)], args := [d1, d2] }
  | _ => none }
def fnExactSameHeapsRow : OpenClaim := { program := "ytbhjmomphajnnaa", sum := "c1341d3373569a70ae327db7d93a3ec456ed112900bb23e4369c10dd79df40a5", func := "loop.example/g00723/laws.FnExactSameHeaps", spec := "fnExactSameHeaps", unfollowed := true, recurses := true, plainKeys := false, apart := false }
def FnExactSameHeapsSaid : Prop := fnExactSameHeapsRow.holds Try.pinned (OpenSpec.ofChange fnExactSameHeapsSpec)

/-- ITS FALSE NEIGHBOUR: 'it returns false'. Refute it at one input. -/
def fnExactSameHeapsWrong : ChangeSpec := { name := "fnExactSameHeaps", fn := fun _ => fun
  | [d1, d2] => { results := [.lit (.bool false)], args := [d1, d2] }
  | _ => none }
def FnExactSameHeapsWrongFalsely : Prop := fnExactSameHeapsRow.holds Try.pinned (OpenSpec.ofChange fnExactSameHeapsWrong)

/- THE SECOND FORM. 'bulk': how many values and letters a reading holds, each counted each time it is reached (what is shared counts as often as it is met; a slice's spare places count too). A statement '..UptoSaid' is the law's where the arguments, and the package variables that the reading takes, are together of bulk at most 1048576: NARROWER than '..Said'. Prove '..Said' where nothing that the law and all that it calls make is longer than what came in: it says more and counts as full. Else prove '..UptoSaid'. A law counts once. -/
mutual
def uptoBulk {H : Type} : DataW H → Nat
  | .lit (.string bytes) => bytes.length + 1
  | .lit _ => 1
  | .nil => 1
  | .ptr d => uptoBulk d + 1
  | .slice elems spare => uptoBulkAll elems + uptoBulkAll spare + 1
  | .agg parts => uptoBulkAll parts + 1
  | .iface _ d => uptoBulk d + 1
  | .map entries => uptoBulkEntries entries + 1
  | .held _ => 1
def uptoBulkAll {H : Type} : List (DataW H) → Nat
  | [] => 0
  | d :: r => uptoBulk d + uptoBulkAll r
def uptoBulkEntries {H : Type} : List (Lit × DataW H) → Nat
  | [] => 0
  | x :: r => uptoBulkEntry x + uptoBulkEntries r
def uptoBulkEntry {H : Type} : Lit × DataW H → Nat
  | (.string bytes, d) => bytes.length + uptoBulk d + 1
  | (_, d) => uptoBulk d + 1
 end
def uptoSmall : (H : Type) → List (DataW H) → Bool := fun _ ds => decide (uptoBulkAll ds ≤ 1048576)
def OpenSpec.upto (s : _root_.Go.ChangeSpec) : _root_.Go.OpenSpec := { _root_.Go.OpenSpec.ofChange s with cond := some uptoSmall }

/-- 'laws.FnCollects', WHERE WHAT IT READS IS OF BULK AT MOST 1048576: true; the input reads as it did. -/
def fnCollectsUptoRow : OpenClaim := { program := "ytbhjmomphajnnaa", sum := "c1341d3373569a70ae327db7d93a3ec456ed112900bb23e4369c10dd79df40a5", func := "loop.example/g00723/laws.FnCollects", spec := "fnCollects", unfollowed := true, recurses := true, plainKeys := false, apart := false, narrowed := true }
def FnCollectsUptoSaid : Prop := fnCollectsUptoRow.holds Try.pinned (OpenSpec.upto fnCollectsSpec)

/-- 'laws.FnHandles', WHERE WHAT IT READS IS OF BULK AT MOST 1048576: true; the input reads as it did. -/
def fnHandlesUptoRow : OpenClaim := { program := "ytbhjmomphajnnaa", sum := "c1341d3373569a70ae327db7d93a3ec456ed112900bb23e4369c10dd79df40a5", func := "loop.example/g00723/laws.FnHandles", spec := "fnHandles", unfollowed := true, recurses := true, plainKeys := false, apart := false, narrowed := true }
def FnHandlesUptoSaid : Prop := fnHandlesUptoRow.holds Try.pinned (OpenSpec.upto fnHandlesSpec)

/-- 'laws.FnExactOpFault', WHERE WHAT IT READS IS OF BULK AT MOST 1048576: true; the input reads as it did. -/
def fnExactOpFaultUptoRow : OpenClaim := { program := "ytbhjmomphajnnaa", sum := "c1341d3373569a70ae327db7d93a3ec456ed112900bb23e4369c10dd79df40a5", func := "loop.example/g00723/laws.FnExactOpFault", spec := "fnExactOpFault", unfollowed := true, recurses := true, plainKeys := false, apart := false, narrowed := true }
def FnExactOpFaultUptoSaid : Prop := fnExactOpFaultUptoRow.holds Try.pinned (OpenSpec.upto fnExactOpFaultSpec)

/-- 'laws.FnExactSameReplies', WHERE WHAT IT READS IS OF BULK AT MOST 1048576: true; the input reads as it did. -/
def fnExactSameRepliesUptoRow : OpenClaim := { program := "ytbhjmomphajnnaa", sum := "c1341d3373569a70ae327db7d93a3ec456ed112900bb23e4369c10dd79df40a5", func := "loop.example/g00723/laws.FnExactSameReplies", spec := "fnExactSameReplies", plainKeys := false, apart := false, narrowed := true }
def FnExactSameRepliesUptoSaid : Prop := fnExactSameRepliesUptoRow.holds Try.pinned (OpenSpec.upto fnExactSameRepliesSpec)

/-- 'laws.FnExactConfigFault', WHERE WHAT IT READS IS OF BULK AT MOST 1048576: true; the input reads as it did. -/
def fnExactConfigFaultUptoRow : OpenClaim := { program := "ytbhjmomphajnnaa", sum := "c1341d3373569a70ae327db7d93a3ec456ed112900bb23e4369c10dd79df40a5", func := "loop.example/g00723/laws.FnExactConfigFault", spec := "fnExactConfigFault", plainKeys := false, apart := false, narrowed := true }
def FnExactConfigFaultUptoSaid : Prop := fnExactConfigFaultUptoRow.holds Try.pinned (OpenSpec.upto fnExactConfigFaultSpec)

/-- 'laws.FnExactNewHeap', WHERE WHAT IT READS IS OF BULK AT MOST 1048576: true; the input reads as it did. -/
def fnExactNewHeapUptoRow : OpenClaim := { program := "ytbhjmomphajnnaa", sum := "c1341d3373569a70ae327db7d93a3ec456ed112900bb23e4369c10dd79df40a5", func := "loop.example/g00723/laws.FnExactNewHeap", spec := "fnExactNewHeap", plainKeys := false, apart := false, narrowed := true }
def FnExactNewHeapUptoSaid : Prop := fnExactNewHeapUptoRow.holds Try.pinned (OpenSpec.upto fnExactNewHeapSpec)

/-- 'laws.FnExactSameHeaps', WHERE WHAT IT READS IS OF BULK AT MOST 1048576: true; the input reads as it did. -/
def fnExactSameHeapsUptoRow : OpenClaim := { program := "ytbhjmomphajnnaa", sum := "c1341d3373569a70ae327db7d93a3ec456ed112900bb23e4369c10dd79df40a5", func := "loop.example/g00723/laws.FnExactSameHeaps", spec := "fnExactSameHeaps", unfollowed := true, recurses := true, plainKeys := false, apart := false, narrowed := true }
def FnExactSameHeapsUptoSaid : Prop := fnExactSameHeapsUptoRow.holds Try.pinned (OpenSpec.upto fnExactSameHeapsSpec)

end Rows
end Go.Proofs.Ytbhjmomphajnnaa
