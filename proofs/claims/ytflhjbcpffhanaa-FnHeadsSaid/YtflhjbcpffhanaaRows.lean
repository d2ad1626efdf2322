/-
  No cell of these rows narrows 'for every input' (looked for: loops, veiled, ifaces, maps, wideKeys, modest, calm, conditions, laid).
  DERIVED. THE GIVEN ROWS OF THIS SEAT. 8 by the template 'for every input the law returns true; each argument reads behind the call as it read before'; 0 by the template 'total and deterministic' (their statements: YtflhjbcpffhanaaTotals.lean).
  GIVEN WITH THE SEED: the statements are not yours to turn. If you find one false, say at which input.
  Laid BY PROGRAM, IN A SANDBOX (cutbox-rows.mjs): the forced cells as the released guide's own fill.sh prints them over the translation 7d6a181d27b7f724… (all of the seat's roots in one cut). By AI agents, Wed Nov 11 2026. No macro, syntax, notation, axiom, sorry.
-/
import Derived.Test.YtflhjbcpffhanaaChecked
import GoSem.Claim
import GoSem.ClaimJoined
import GoSem.ClaimMapViews
import Derived.JoinedTies
import Derived.KernelRfl
namespace Go.Proofs.Ytflhjbcpffhanaa
/- THE CELL 'sum', in the pinned program and in every row, IS THE sha256 OF THE DUMP (.gsa) THAT YtflhjbcpffhanaaProg.lean LOADS. Nothing in Lean hashes anything: it is a label: what it is worth is what the hold of that sum in a sandbox is worth. -/
noncomputable def Try.pinned : Pinned := { name := "ytflhjbcpffhanaa", sum := "7d6a181d27b7f724fc432571fc928253b134beb0b1572cf6d7b66307da8f7439", checked := Try.checked }
namespace Rows
def none {H : Type} : Left H := { results := [], args := [] }

/-- 'laws.FnHeads': WHATEVER THE INPUT: true; the input reads as it did. -/
def fnHeadsSpec : ChangeSpec := { name := "fnHeads", fn := fun _ => fun
  | [d] => { results := [.lit (.bool true)], args := [d] }
  | _ => none }
def fnHeadsRow : OpenClaim := { program := "ytflhjbcpffhanaa", sum := "7d6a181d27b7f724fc432571fc928253b134beb0b1572cf6d7b66307da8f7439", func := "loop.example/g00723/laws.FnHeads", spec := "fnHeads", unfollowed := true, recurses := true, apart := false }
def FnHeadsSaid : Prop := fnHeadsRow.holds Try.pinned (OpenSpec.ofChange fnHeadsSpec)

/-- ITS FALSE NEIGHBOUR: 'it returns false'. Refute it at one input. -/
def fnHeadsWrong : ChangeSpec := { name := "fnHeads", fn := fun _ => fun
  | [d] => { results := [.lit (.bool false)], args := [d] }
  | _ => none }
def FnHeadsWrongFalsely : Prop := fnHeadsRow.holds Try.pinned (OpenSpec.ofChange fnHeadsWrong)

/-- 'laws.FnExactHeadFault': WHATEVER THE INPUT: true; the input reads as it did. -/
def fnExactHeadFaultSpec : ChangeSpec := { name := "fnExactHeadFault", fn := fun _ => fun
  | [d] => { results := [.lit (.bool true)], args := [d] }
  | _ => none }
def fnExactHeadFaultRow : OpenClaim := { program := "ytflhjbcpffhanaa", sum := "7d6a181d27b7f724fc432571fc928253b134beb0b1572cf6d7b66307da8f7439", func := "loop.example/g00723/laws.FnExactHeadFault", spec := "fnExactHeadFault", apart := false }
def FnExactHeadFaultSaid : Prop := fnExactHeadFaultRow.holds Try.pinned (OpenSpec.ofChange fnExactHeadFaultSpec)

/-- ITS FALSE NEIGHBOUR: 'it returns false'. Refute it at one input. -/
def fnExactHeadFaultWrong : ChangeSpec := { name := "fnExactHeadFault", fn := fun _ => fun
  | [d] => { results := [.lit (.bool false)], args := [d] }
  | _ => none }
def FnExactHeadFaultWrongFalsely : Prop := fnExactHeadFaultRow.holds Try.pinned (OpenSpec.ofChange fnExactHeadFaultWrong)

/-- 'laws.FnExactPackHead': WHATEVER THE INPUT: true; the input reads as it did. -/
def fnExactPackHeadSpec : ChangeSpec := { name := "fnExactPackHead", fn := fun _ => fun
  | [d] => { results := [.lit (.bool true)], args := [d] }
  | _ => none }
def fnExactPackHeadRow : OpenClaim := { program := "ytflhjbcpffhanaa", sum := "7d6a181d27b7f724fc432571fc928253b134beb0b1572cf6d7b66307da8f7439", func := "loop.example/g00723/laws.FnExactPackHead", spec := "fnExactPackHead", apart := false }
def FnExactPackHeadSaid : Prop := fnExactPackHeadRow.holds Try.pinned (OpenSpec.ofChange fnExactPackHeadSpec)

/-- ITS FALSE NEIGHBOUR: 'it returns false'. Refute it at one input. -/
def fnExactPackHeadWrong : ChangeSpec := { name := "fnExactPackHead", fn := fun _ => fun
  | [d] => { results := [.lit (.bool false)], args := [d] }
  | _ => none }
def FnExactPackHeadWrongFalsely : Prop := fnExactPackHeadRow.holds Try.pinned (OpenSpec.ofChange fnExactPackHeadWrong)

/-- 'laws.FnExactReadHead': WHATEVER THE INPUT: true; the input reads as it did. -/
def fnExactReadHeadSpec : ChangeSpec := { name := "fnExactReadHead", fn := fun _ => fun
  | [d] => { results := [.lit (.bool true)], args := [d] }
  | _ => none }
def fnExactReadHeadRow : OpenClaim := { program := "ytflhjbcpffhanaa", sum := "7d6a181d27b7f724fc432571fc928253b134beb0b1572cf6d7b66307da8f7439", func := "loop.example/g00723/laws.FnExactReadHead", spec := "fnExactReadHead", unfollowed := true, recurses := true, apart := false }
def FnExactReadHeadSaid : Prop := fnExactReadHeadRow.holds Try.pinned (OpenSpec.ofChange fnExactReadHeadSpec)

/-- ITS FALSE NEIGHBOUR: 'it returns false'. Refute it at one input. -/
def fnExactReadHeadWrong : ChangeSpec := { name := "fnExactReadHead", fn := fun _ => fun
  | [d] => { results := [.lit (.bool false)], args := [d] }
  | _ => none }
def FnExactReadHeadWrongFalsely : Prop := fnExactReadHeadRow.holds Try.pinned (OpenSpec.ofChange fnExactReadHeadWrong)

/-- 'laws.FnExactWordsOf': WHATEVER THE INPUT: true; the input reads as it did. -/
def fnExactWordsOfSpec : ChangeSpec := { name := "fnExactWordsOf", fn := fun _ => fun
  | [d] => { results := [.lit (.bool true)], args := [d] }
  | _ => none }
def fnExactWordsOfRow : OpenClaim := { program := "ytflhjbcpffhanaa", sum := "7d6a181d27b7f724fc432571fc928253b134beb0b1572cf6d7b66307da8f7439", func := "loop.example/g00723/laws.FnExactWordsOf", spec := "fnExactWordsOf", apart := false }
def FnExactWordsOfSaid : Prop := fnExactWordsOfRow.holds Try.pinned (OpenSpec.ofChange fnExactWordsOfSpec)

/-- ITS FALSE NEIGHBOUR: 'it returns false'. Refute it at one input. -/
def fnExactWordsOfWrong : ChangeSpec := { name := "fnExactWordsOf", fn := fun _ => fun
  | [d] => { results := [.lit (.bool false)], args := [d] }
  | _ => none }
def FnExactWordsOfWrongFalsely : Prop := fnExactWordsOfRow.holds Try.pinned (OpenSpec.ofChange fnExactWordsOfWrong)

/-- 'laws.FnExactIsPointer': WHATEVER THE INPUT: true; the input reads as it did. -/
def fnExactIsPointerSpec : ChangeSpec := { name := "fnExactIsPointer", fn := fun _ => fun
  | [d1, d2] => { results := [.lit (.bool true)], args := [d1, d2] }
  | _ => none }
def fnExactIsPointerRow : OpenClaim := { program := "ytflhjbcpffhanaa", sum := "7d6a181d27b7f724fc432571fc928253b134beb0b1572cf6d7b66307da8f7439", func := "loop.example/g00723/laws.FnExactIsPointer", spec := "fnExactIsPointer", apart := false }
def FnExactIsPointerSaid : Prop := fnExactIsPointerRow.holds Try.pinned (OpenSpec.ofChange fnExactIsPointerSpec)

/-- ITS FALSE NEIGHBOUR: 'it returns false'. Refute it at one input. -/
def fnExactIsPointerWrong : ChangeSpec := { name := "fnExactIsPointer", fn := fun _ => fun
  | [d1, d2] => { results := [.lit (.bool false)], args := [d1, d2] }
  | _ => none }
def FnExactIsPointerWrongFalsely : Prop := fnExactIsPointerRow.holds Try.pinned (OpenSpec.ofChange fnExactIsPointerWrong)

/-- 'laws.FnExactForwardWord': WHATEVER THE INPUT: true; the input reads as it did. -/
def fnExactForwardWordSpec : ChangeSpec := { name := "fnExactForwardWord", fn := fun _ => fun
  | [d] => { results := [.lit (.bool true)], args := [d] }
  | _ => none }
def fnExactForwardWordRow : OpenClaim := { program := "ytflhjbcpffhanaa", sum := "7d6a181d27b7f724fc432571fc928253b134beb0b1572cf6d7b66307da8f7439", func := "loop.example/g00723/laws.FnExactForwardWord", spec := "fnExactForwardWord", apart := false }
def FnExactForwardWordSaid : Prop := fnExactForwardWordRow.holds Try.pinned (OpenSpec.ofChange fnExactForwardWordSpec)

/-- ITS FALSE NEIGHBOUR: 'it returns false'. Refute it at one input. -/
def fnExactForwardWordWrong : ChangeSpec := { name := "fnExactForwardWord", fn := fun _ => fun
  | [d] => { results := [.lit (.bool false)], args := [d] }
  | _ => none }
def FnExactForwardWordWrongFalsely : Prop := fnExactForwardWordRow.holds Try.pinned (OpenSpec.ofChange fnExactForwardWordWrong)

/-- 'laws.FnExactReadForward': WHATEVER THE INPUT: true; the input reads as it did. -/
def fnExactReadForwardSpec : ChangeSpec := { name := "fnExactReadForward", fn := fun _ => fun
  | [d] => { results := [.lit (.bool true)], args := [d] }
  | _ => none }
def fnExactReadForwardRow : OpenClaim := { program := "ytflhjbcpffhanaa", sum := "7d6a181d27b7f724fc432571fc928253b134beb0b1572cf6d7b66307da8f7439", func := "loop.example/g00723/laws.FnExactReadForward", spec := "fnExactReadForward", apart := false }
def FnExactReadForwardSaid : Prop := fnExactReadForwardRow.holds Try.pinned (OpenSpec.ofChange fnExactReadForwardSpec)

/-- ITS FALSE NEIGHBOUR: 'it returns false'. Refute it at one input. -/
def fnExactReadForwardWrong : ChangeSpec := { name := "fnExactReadForward", fn := fun _ => fun
  | [d] => { results := [.lit (.bool false)], args := [d] }
  | _ => none }
def FnExactReadForwardWrongFalsely : Prop := fnExactReadForwardRow.holds Try.pinned (OpenSpec.ofChange fnExactReadForwardWrong)

/- THE SECOND FORM. 'bulk': how many values and letters a reading holds, each counted each time it is reached (what is shared counts as often as it is met; a slice's spare places count too). A statement '..UptoSaid' is the law's where the arguments, and the package variables that the reading takes, are together of bulk at most 1048576: NARROWER than '..Said'. Prove '..Said' where nothing that the law and all that it calls make is longer than what came in: it says more and counts as full. Else prove '..UptoSaid'. A law counts once. -/
mutual
def uptoBulk {H : Type} : DataW H → Nat
  | .lit (.string bytes) => bytes.length + 1
  | .lit _ => 1
  | .nil => 1
  | .ptr d => uptoBulk d + 1
  | .slice elems spare => uptoBulkAll elems + uptoBulkAll spare + 1
  | .agg parts => uptoBulkAll parts + 1
  | .iface _ d => uptoBulk d + 1
  | .map entries => uptoBulkEntries entries + 1
  | .held _ => 1
def uptoBulkAll {H : Type} : List (DataW H) → Nat
  | [] => 0
  | d :: r => uptoBulk d + uptoBulkAll r
def uptoBulkEntries {H : Type} : List (Lit × DataW H) → Nat
  | [] => 0
  | x :: r => uptoBulkEntry x + uptoBulkEntries r
def uptoBulkEntry {H : Type} : Lit × DataW H → Nat
  | (.string bytes, d) => bytes.length + uptoBulk d + 1
  | (_, d) => uptoBulk d + 1
 end
def uptoSmall : (H : Type) → List (DataW H) → Bool := fun _ ds => decide (uptoBulkAll ds ≤ 1048576)
def OpenSpec.upto (s : _root_.Go.ChangeSpec) : _root_.Go.OpenSpec := { _root_.Go.OpenSpec.ofChange s with cond := some uptoSmall }

/-- 'laws.FnHeads', WHERE WHAT IT READS IS OF BULK AT MOST 1048576: true; the input reads as it did. -/
def fnHeadsUptoRow : OpenClaim := { program := "ytflhjbcpffhanaa", sum := "7d6a181d27b7f724fc432571fc928253b134beb0b1572cf6d7b66307da8f7439", func := "loop.example/g00723/laws.FnHeads", spec := "fnHeads", unfollowed := true, recurses := true, apart := false, narrowed := true }
def FnHeadsUptoSaid : Prop := fnHeadsUptoRow.holds Try.pinned (OpenSpec.upto fnHeadsSpec)

/-- 'laws.FnExactHeadFault', WHERE WHAT IT READS IS OF BULK AT MOST 1048576: true; the input reads as it did. -/
def fnExactHeadFaultUptoRow : OpenClaim := { program := "ytflhjbcpffhanaa", sum := "7d6a181d27b7f724fc432571fc928253b134beb0b1572cf6d7b66307da8f7439", func := "loop.example/g00723/laws.FnExactHeadFault", spec := "fnExactHeadFault", apart := false, narrowed := true }
def FnExactHeadFaultUptoSaid : Prop := fnExactHeadFaultUptoRow.holds Try.pinned (OpenSpec.upto fnExactHeadFaultSpec)

/-- 'laws.FnExactPackHead', WHERE WHAT IT READS IS OF BULK AT MOST 1048576: true; the input reads as it did. -/
def fnExactPackHeadUptoRow : OpenClaim := { program := "ytflhjbcpffhanaa", sum := "7d6a181d27b7f724fc432571fc928253b134beb0b1572cf6d7b66307da8f7439", func := "loop.example/g00723/laws.FnExactPackHead", spec := "fnExactPackHead", apart := false, narrowed := true }
def FnExactPackHeadUptoSaid : Prop := fnExactPackHeadUptoRow.holds Try.pinned (OpenSpec.upto fnExactPackHeadSpec)

/-- 'laws.FnExactReadHead', WHERE WHAT IT READS IS OF BULK AT MOST 1048576: true; the input reads as it did. -/
def fnExactReadHeadUptoRow : OpenClaim := { program := "ytflhjbcpffhanaa", sum := "7d6a181d27b7f724fc432571fc928253b134beb0b1572cf6d7b66307da8f7439", func := "loop.example/g00723/laws.FnExactReadHead", spec := "fnExactReadHead", unfollowed := true, recurses := true, apart := false, narrowed := true }
def FnExactReadHeadUptoSaid : Prop := fnExactReadHeadUptoRow.holds Try.pinned (OpenSpec.upto fnExactReadHeadSpec)

/-- 'laws.FnExactWordsOf', WHERE WHAT IT READS IS OF BULK AT MOST 1048576: true; the input reads as it did. -/
def fnExactWordsOfUptoRow : OpenClaim := { program := "ytflhjbcpffhanaa", sum := "7d6a181d27b7f724fc432571fc928253b134beb0b1572cf6d7b66307da8f7439", func := "loop.example/g00723/laws.FnExactWordsOf", spec := "fnExactWordsOf", apart := false, narrowed := true }
def FnExactWordsOfUptoSaid : Prop := fnExactWordsOfUptoRow.holds Try.pinned (OpenSpec.upto fnExactWordsOfSpec)

/-- 'laws.FnExactIsPointer', WHERE WHAT IT READS IS OF BULK AT MOST 1048576: true; the input reads as it did. -/
def fnExactIsPointerUptoRow : OpenClaim := { program := "ytflhjbcpffhanaa", sum := "7d6a181d27b7f724fc432571fc928253b134beb0b1572cf6d7b66307da8f7439", func := "loop.example/g00723/laws.FnExactIsPointer", spec := "fnExactIsPointer", apart := false, narrowed := true }
def FnExactIsPointerUptoSaid : Prop := fnExactIsPointerUptoRow.holds Try.pinned (OpenSpec.upto fnExactIsPointerSpec)

/-- 'laws.FnExactForwardWord', WHERE WHAT IT READS IS OF BULK AT MOST 1048576: true; the input reads as it did. -/
def fnExactForwardWordUptoRow : OpenClaim := { program := "ytflhjbcpffhanaa", sum := "7d6a181d27b7f724fc432571fc928253b134beb0b1572cf6d7b66307da8f7439", func := "loop.example/g00723/laws.FnExactForwardWord", spec := "fnExactForwardWord", apart := false, narrowed := true }
def FnExactForwardWordUptoSaid : Prop := fnExactForwardWordUptoRow.holds Try.pinned (OpenSpec.upto fnExactForwardWordSpec)

/-- 'laws.FnExactReadForward', WHERE WHAT IT READS IS OF BULK AT MOST 1048576: true; the input reads as it did. -/
def fnExactReadForwardUptoRow : OpenClaim := { program := "ytflhjbcpffhanaa", sum := "7d6a181d27b7f724fc432571fc928253b134beb0b1572cf6d7b66307da8f7439", func := "loop.example/g00723/laws.FnExactReadForward", spec := "fnExactReadForward", apart := false, narrowed := true }
def FnExactReadForwardUptoSaid : Prop := fnExactReadForwardUptoRow.holds Try.pinned (OpenSpec.upto fnExactReadForwardSpec)

end Rows
end Go.Proofs.Ytflhjbcpffhanaa
