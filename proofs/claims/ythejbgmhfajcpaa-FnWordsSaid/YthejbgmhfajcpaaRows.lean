/-
  No cell of these rows narrows 'for every input' (looked for: loops, veiled, ifaces, maps, wideKeys, modest, calm, conditions, laid).
  DERIVED. THE GIVEN ROWS OF THIS SEAT. 10 by the template 'for every input the law returns true; each argument reads behind the call as it read before'; 0 by the template 'total and deterministic' (their statements: YthejbgmhfajcpaaTotals.lean).
  GIVEN WITH THE SEED: the statements are not yours to turn. If you find one false, say at which input.
  Laid BY PROGRAM, IN A SANDBOX (cutbox-rows.mjs): the forced cells as the released guide's own fill.sh prints them over the translation 4cd088a5cf40802d… (all of the seat's roots in one cut). By AI agents, Wed Nov 11 2026. No macro, syntax, notation, axiom, sorry.
-/
import Derived.Test.YthejbgmhfajcpaaChecked
import GoSem.Claim
import GoSem.ClaimJoined
import GoSem.ClaimMapViews
import Derived.JoinedTies
import Derived.KernelRfl
namespace Go.Proofs.Ythejbgmhfajcpaa
/- THE CELL 'sum', in the pinned program and in every row, IS THE sha256 OF THE DUMP (.gsa) THAT YthejbgmhfajcpaaProg.lean LOADS. Nothing in Lean hashes anything: it is a label: what it is worth is what the hold of that sum in a sandbox is worth. -/
noncomputable def Try.pinned : Pinned := { name := "ythejbgmhfajcpaa", sum := "4cd088a5cf40802d99d94ffff6c49109d6c82d1522b5019d41888c4aef34685c", checked := Try.checked }
namespace Rows
def none {H : Type} : Left H := { results := [], args := [] }

/-- 'laws.FnWords': WHATEVER THE INPUT: true; the input reads as it did. -/
def fnWordsSpec : ChangeSpec := { name := "fnWords", fn := fun _ => fun
  | [d] => { results := [.lit (.bool true)], args := [d] }
  | _ => none }
def fnWordsRow : OpenClaim := { program := "ythejbgmhfajcpaa", sum := "4cd088a5cf40802d99d94ffff6c49109d6c82d1522b5019d41888c4aef34685c", func := "loop.example/g00723/laws.FnWords", spec := "fnWords", apart := false }
def FnWordsSaid : Prop := fnWordsRow.holds Try.pinned (OpenSpec.ofChange fnWordsSpec)

/-- ITS FALSE NEIGHBOUR: 'it returns false'. Refute it at one input. -/
def fnWordsWrong : ChangeSpec := { name := "fnWords", fn := fun _ => fun
  | [d] => { results := [.lit (.bool false)], args := [d] }
  | _ => none }
def FnWordsWrongFalsely : Prop := fnWordsRow.holds Try.pinned (OpenSpec.ofChange fnWordsWrong)

/-- 'laws.FnHalves': WHATEVER THE INPUT: true; the input reads as it did. -/
def fnHalvesSpec : ChangeSpec := { name := "fnHalves", fn := fun _ => fun
  | [d] => { results := [.lit (.bool true)], args := [d] }
  | _ => none }
def fnHalvesRow : OpenClaim := { program := "ythejbgmhfajcpaa", sum := "4cd088a5cf40802d99d94ffff6c49109d6c82d1522b5019d41888c4aef34685c", func := "loop.example/g00723/laws.FnHalves", spec := "fnHalves", apart := false }
def FnHalvesSaid : Prop := fnHalvesRow.holds Try.pinned (OpenSpec.ofChange fnHalvesSpec)

/-- ITS FALSE NEIGHBOUR: 'it returns false'. Refute it at one input. -/
def fnHalvesWrong : ChangeSpec := { name := "fnHalves", fn := fun _ => fun
  | [d] => { results := [.lit (.bool false)], args := [d] }
  | _ => none }
def FnHalvesWrongFalsely : Prop := fnHalvesRow.holds Try.pinned (OpenSpec.ofChange fnHalvesWrong)

/-- 'laws.FnExactArenaFault': WHATEVER THE INPUT: true; the input reads as it did. -/
def fnExactArenaFaultSpec : ChangeSpec := { name := "fnExactArenaFault", fn := fun _ => fun
  | [d] => { results := [.lit (.bool true)], args := [d] }
  | _ => none }
def fnExactArenaFaultRow : OpenClaim := { program := "ythejbgmhfajcpaa", sum := "4cd088a5cf40802d99d94ffff6c49109d6c82d1522b5019d41888c4aef34685c", func := "loop.example/g00723/laws.FnExactArenaFault", spec := "fnExactArenaFault", apart := false }
def FnExactArenaFaultSaid : Prop := fnExactArenaFaultRow.holds Try.pinned (OpenSpec.ofChange fnExactArenaFaultSpec)

/-- ITS FALSE NEIGHBOUR: 'it returns false'. Refute it at one input. -/
def fnExactArenaFaultWrong : ChangeSpec := { name := "fnExactArenaFault", fn := fun _ => fun
  | [d] => { results := [.lit (.bool false)], args := [d] }
  | _ => none }
def FnExactArenaFaultWrongFalsely : Prop := fnExactArenaFaultRow.holds Try.pinned (OpenSpec.ofChange fnExactArenaFaultWrong)

/-- 'laws.FnExactNewArena': WHATEVER THE INPUT: true; the input reads as it did. -/
def fnExactNewArenaSpec : ChangeSpec := { name := "fnExactNewArena", fn := fun _ => fun
  | [d] => { results := [.lit (.bool true)], args := [d] }
  | _ => none }
def fnExactNewArenaRow : OpenClaim := { program := "ythejbgmhfajcpaa", sum := "4cd088a5cf40802d99d94ffff6c49109d6c82d1522b5019d41888c4aef34685c", func := "loop.example/g00723/laws.FnExactNewArena", spec := "fnExactNewArena", apart := false }
def FnExactNewArenaSaid : Prop := fnExactNewArenaRow.holds Try.pinned (OpenSpec.ofChange fnExactNewArenaSpec)

/-- ITS FALSE NEIGHBOUR: 'it returns false'. Refute it at one input. -/
def fnExactNewArenaWrong : ChangeSpec := { name := "fnExactNewArena", fn := fun _ => fun
  | [d] => { results := [.lit (.bool false)], args := [d] }
  | _ => none }
def FnExactNewArenaWrongFalsely : Prop := fnExactNewArenaRow.holds Try.pinned (OpenSpec.ofChange fnExactNewArenaWrong)

/-- 'laws.FnExactReadAt': WHATEVER THE INPUT: true; the input reads as it did. -/
def fnExactReadAtSpec : ChangeSpec := { name := "fnExactReadAt", fn := fun _ => fun
  | [d1, d2] => { results := [.lit (.bool true)], args := [d1, d2] }
  | _ => none }
def fnExactReadAtRow : OpenClaim := { program := "ythejbgmhfajcpaa", sum := "4cd088a5cf40802d99d94ffff6c49109d6c82d1522b5019d41888c4aef34685c", func := "loop.example/g00723/laws.FnExactReadAt", spec := "fnExactReadAt", apart := false }
def FnExactReadAtSaid : Prop := fnExactReadAtRow.holds Try.pinned (OpenSpec.ofChange fnExactReadAtSpec)

/-- ITS FALSE NEIGHBOUR: 'it returns false'. Refute it at one input. -/
def fnExactReadAtWrong : ChangeSpec := { name := "fnExactReadAt", fn := fun _ => fun
  | [d1, d2] => { results := [.lit (.bool false)], args := [d1, d2] }
  | _ => none }
def FnExactReadAtWrongFalsely : Prop := fnExactReadAtRow.holds Try.pinned (OpenSpec.ofChange fnExactReadAtWrong)

/-- 'laws.FnExactWriteAt': WHATEVER THE INPUT: true; the input reads as it did. -/
def fnExactWriteAtSpec : ChangeSpec := { name := "fnExactWriteAt", fn := fun _ => fun
  | [d1, d2, d3] => { results := [.lit (.bool true)], args := [d1, d2, d3] }
  | _ => none }
def fnExactWriteAtRow : OpenClaim := { program := "ythejbgmhfajcpaa", sum := "4cd088a5cf40802d99d94ffff6c49109d6c82d1522b5019d41888c4aef34685c", func := "loop.example/g00723/laws.FnExactWriteAt", spec := "fnExactWriteAt", apart := false }
def FnExactWriteAtSaid : Prop := fnExactWriteAtRow.holds Try.pinned (OpenSpec.ofChange fnExactWriteAtSpec)

/-- ITS FALSE NEIGHBOUR: 'it returns false'. Refute it at one input. -/
def fnExactWriteAtWrong : ChangeSpec := { name := "fnExactWriteAt", fn := fun _ => fun
  | [d1, d2, d3] => { results := [.lit (.bool false)], args := [d1, d2, d3] }
  | _ => none }
def FnExactWriteAtWrongFalsely : Prop := fnExactWriteAtRow.holds Try.pinned (OpenSpec.ofChange fnExactWriteAtWrong)

/-- 'laws.FnExactZeroRange': WHATEVER THE INPUT: true; the input reads as it did. -/
def fnExactZeroRangeSpec : ChangeSpec := { name := "fnExactZeroRange", fn := fun _ => fun
  | [d1, d2, d3] => { results := [.lit (.bool true)], args := [d1, d2, d3] }
  | _ => none }
def fnExactZeroRangeRow : OpenClaim := { program := "ythejbgmhfajcpaa", sum := "4cd088a5cf40802d99d94ffff6c49109d6c82d1522b5019d41888c4aef34685c", func := "loop.example/g00723/laws.FnExactZeroRange", spec := "fnExactZeroRange", apart := false }
def FnExactZeroRangeSaid : Prop := fnExactZeroRangeRow.holds Try.pinned (OpenSpec.ofChange fnExactZeroRangeSpec)

/-- ITS FALSE NEIGHBOUR: 'it returns false'. Refute it at one input. -/
def fnExactZeroRangeWrong : ChangeSpec := { name := "fnExactZeroRange", fn := fun _ => fun
  | [d1, d2, d3] => { results := [.lit (.bool false)], args := [d1, d2, d3] }
  | _ => none }
def FnExactZeroRangeWrongFalsely : Prop := fnExactZeroRangeRow.holds Try.pinned (OpenSpec.ofChange fnExactZeroRangeWrong)

/-- 'laws.FnExactTakeWords': WHATEVER THE INPUT: true; the input reads as it did. -/
def fnExactTakeWordsSpec : ChangeSpec := { name := "fnExactTakeWords", fn := fun _ => fun
  | [d1, d2] => { results := [.lit (.bool true)], args := [d1, d2] }
  | _ => none }
def fnExactTakeWordsRow : OpenClaim := { program := "ythejbgmhfajcpaa", sum := "4cd088a5cf40802d99d94ffff6c49109d6c82d1522b5019d41888c4aef34685c", func := "loop.example/g00723/laws.FnExactTakeWords", spec := "fnExactTakeWords", apart := false }
def FnExactTakeWordsSaid : Prop := fnExactTakeWordsRow.holds Try.pinned (OpenSpec.ofChange fnExactTakeWordsSpec)

/-- ITS FALSE NEIGHBOUR: 'it returns false'. Refute it at one input. -/
def fnExactTakeWordsWrong : ChangeSpec := { name := "fnExactTakeWords", fn := fun _ => fun
  | [d1, d2] => { results := [.lit (.bool false)], args := [d1, d2] }
  | _ => none }
def FnExactTakeWordsWrongFalsely : Prop := fnExactTakeWordsRow.holds Try.pinned (OpenSpec.ofChange fnExactTakeWordsWrong)

/-- 'laws.FnExactFlipArena': WHATEVER THE INPUT: true; the input reads as it did. -/
def fnExactFlipArenaSpec : ChangeSpec := { name := "fnExactFlipArena", fn := fun _ => fun
  | [d] => { results := [.lit (.bool true)], args := [d] }
  | _ => none }
def fnExactFlipArenaRow : OpenClaim := { program := "ythejbgmhfajcpaa", sum := "4cd088a5cf40802d99d94ffff6c49109d6c82d1522b5019d41888c4aef34685c", func := "loop.example/g00723/laws.FnExactFlipArena", spec := "fnExactFlipArena", apart := false }
def FnExactFlipArenaSaid : Prop := fnExactFlipArenaRow.holds Try.pinned (OpenSpec.ofChange fnExactFlipArenaSpec)

/-- ITS FALSE NEIGHBOUR: 'it returns false'. Refute it at one input. -/
def fnExactFlipArenaWrong : ChangeSpec := { name := "fnExactFlipArena", fn := fun _ => fun
  | [d] => { results := [.lit (.bool false)], args := [d] }
  | _ => none }
def FnExactFlipArenaWrongFalsely : Prop := fnExactFlipArenaRow.holds Try.pinned (OpenSpec.ofChange fnExactFlipArenaWrong)

/-- 'laws.FnExactSameArenas': WHATEVER THE INPUT: true; the input reads as it did. -/
def fnExactSameArenasSpec : ChangeSpec := { name := "fnExactSameArenas", fn := fun _ => fun
  | [d1, d2] => { results := [.lit (.bool true)], args := [d1, d2] }
  | _ => none }
def fnExactSameArenasRow : OpenClaim := { program := "ythejbgmhfajcpaa", sum := "4cd088a5cf40802d99d94ffff6c49109d6c82d1522b5019d41888c4aef34685c", func := "loop.example/g00723/laws.FnExactSameArenas", spec := "fnExactSameArenas", apart := false }
def FnExactSameArenasSaid : Prop := fnExactSameArenasRow.holds Try.pinned (OpenSpec.ofChange fnExactSameArenasSpec)

/-- ITS FALSE NEIGHBOUR: 'it returns false'. Refute it at one input. -/
def fnExactSameArenasWrong : ChangeSpec := { name := "fnExactSameArenas", fn := fun _ => fun
  | [d1, d2] => { results := [.lit (.bool false)], args := [d1, d2] }
  | _ => none }
def FnExactSameArenasWrongFalsely : Prop := fnExactSameArenasRow.holds Try.pinned (OpenSpec.ofChange fnExactSameArenasWrong)

/- THE SECOND FORM. 'bulk': how many values and letters a reading holds, each counted each time it is reached (what is shared counts as often as it is met; a slice's spare places count too). A statement '..UptoSaid' is the law's where the arguments, and the package variables that the reading takes, are together of bulk at most 1048576: NARROWER than '..Said'. Prove '..Said' where nothing that the law and all that it calls make is longer than what came in: it says more and counts as full. Else prove '..UptoSaid'. A law counts once. -/
mutual
def uptoBulk {H : Type} : DataW H → Nat
  | .lit (.string bytes) => bytes.length + 1
  | .lit _ => 1
  | .nil => 1
  | .ptr d => uptoBulk d + 1
  | .slice elems spare => uptoBulkAll elems + uptoBulkAll spare + 1
  | .agg parts => uptoBulkAll parts + 1
  | .iface _ d => uptoBulk d + 1
  | .map entries => uptoBulkEntries entries + 1
  | .held _ => 1
def uptoBulkAll {H : Type} : List (DataW H) → Nat
  | [] => 0
  | d :: r => uptoBulk d + uptoBulkAll r
def uptoBulkEntries {H : Type} : List (Lit × DataW H) → Nat
  | [] => 0
  | x :: r => uptoBulkEntry x + uptoBulkEntries r
def uptoBulkEntry {H : Type} : Lit × DataW H → Nat
  | (.string bytes, d) => bytes.length + uptoBulk d + 1
  | (_, d) => uptoBulk d + 1
 end
def uptoSmall : (H : Type) → List (DataW H) → Bool := fun _ ds => decide (uptoBulkAll ds ≤ 1048576)
def OpenSpec.upto (s : _root_.Go.ChangeSpec) : _root_.Go.OpenSpec := { _root_.Go.OpenSpec.ofChange s with cond := some uptoSmall }

/-- 'laws.FnWords', WHERE WHAT IT READS IS OF BULK AT MOST 1048576: true; the input reads as it did. -/
def fnWordsUptoRow : OpenClaim := { program := "ythejbgmhfajcpaa", sum := "4cd088a5cf40802d99d94ffff6c49109d6c82d1522b5019d41888c4aef34685c", func := "loop.example/g00723/laws.FnWords", spec := "fnWords", apart := false, narrowed := true }
def FnWordsUptoSaid : Prop := fnWordsUptoRow.holds Try.pinned (OpenSpec.upto fnWordsSpec)

/-- 'laws.FnHalves', WHERE WHAT IT READS IS OF BULK AT MOST 1048576: true; the input reads as it did. -/
def fnHalvesUptoRow : OpenClaim := { program := "ythejbgmhfajcpaa", sum := "4cd088a5cf40802d99d94ffff6c49109d6c82d1522b5019d41888c4aef34685c", func := "loop.example/g00723/laws.FnHalves", spec := "fnHalves", apart := false, narrowed := true }
def FnHalvesUptoSaid : Prop := fnHalvesUptoRow.holds Try.pinned (OpenSpec.upto fnHalvesSpec)

/-- 'laws.FnExactArenaFault', WHERE WHAT IT READS IS OF BULK AT MOST 1048576: true; the input reads as it did. -/
def fnExactArenaFaultUptoRow : OpenClaim := { program := "ythejbgmhfajcpaa", sum := "4cd088a5cf40802d99d94ffff6c49109d6c82d1522b5019d41888c4aef34685c", func := "loop.example/g00723/laws.FnExactArenaFault", spec := "fnExactArenaFault", apart := false, narrowed := true }
def FnExactArenaFaultUptoSaid : Prop := fnExactArenaFaultUptoRow.holds Try.pinned (OpenSpec.upto fnExactArenaFaultSpec)

/-- 'laws.FnExactNewArena', WHERE WHAT IT READS IS OF BULK AT MOST 1048576: true; the input reads as it did. -/
def fnExactNewArenaUptoRow : OpenClaim := { program := "ythejbgmhfajcpaa", sum := "4cd088a5cf40802d99d94ffff6c49109d6c82d1522b5019d41888c4aef34685c", func := "loop.example/g00723/laws.FnExactNewArena", spec := "fnExactNewArena", apart := false, narrowed := true }
def FnExactNewArenaUptoSaid : Prop := fnExactNewArenaUptoRow.holds Try.pinned (OpenSpec.upto fnExactNewArenaSpec)

/-- 'laws.FnExactReadAt', WHERE WHAT IT READS IS OF BULK AT MOST 1048576: true; the input reads as it did. -/
def fnExactReadAtUptoRow : OpenClaim := { program := "ythejbgmhfajcpaa", sum := "4cd088a5cf40802d99d94ffff6c49109d6c82d1522b5019d41888c4aef34685c", func := "loop.example/g00723/laws.FnExactReadAt", spec := "fnExactReadAt", apart := false, narrowed := true }
def FnExactReadAtUptoSaid : Prop := fnExactReadAtUptoRow.holds Try.pinned (OpenSpec.upto fnExactReadAtSpec)

/-- 'laws.FnExactWriteAt', WHERE WHAT IT READS IS OF BULK AT MOST 1048576: true; the input reads as it did. -/
def fnExactWriteAtUptoRow : OpenClaim := { program := "ythejbgmhfajcpaa", sum := "4cd088a5cf40802d99d94ffff6c49109d6c82d1522b5019d41888c4aef34685c", func := "loop.example/g00723/laws.FnExactWriteAt", spec := "fnExactWriteAt", apart := false, narrowed := true }
def FnExactWriteAtUptoSaid : Prop := fnExactWriteAtUptoRow.holds Try.pinned (OpenSpec.upto fnExactWriteAtSpec)

/-- 'laws.FnExactZeroRange', WHERE WHAT IT READS IS OF BULK AT MOST 1048576: true; the input reads as it did. -/
def fnExactZeroRangeUptoRow : OpenClaim := { program := "ythejbgmhfajcpaa", sum := "4cd088a5cf40802d99d94ffff6c49109d6c82d1522b5019d41888c4aef34685c", func := "loop.example/g00723/laws.FnExactZeroRange", spec := "fnExactZeroRange", apart := false, narrowed := true }
def FnExactZeroRangeUptoSaid : Prop := fnExactZeroRangeUptoRow.holds Try.pinned (OpenSpec.upto fnExactZeroRangeSpec)

/-- 'laws.FnExactTakeWords', WHERE WHAT IT READS IS OF BULK AT MOST 1048576: true; the input reads as it did. -/
def fnExactTakeWordsUptoRow : OpenClaim := { program := "ythejbgmhfajcpaa", sum := "4cd088a5cf40802d99d94ffff6c49109d6c82d1522b5019d41888c4aef34685c", func := "loop.example/g00723/laws.FnExactTakeWords", spec := "fnExactTakeWords", apart := false, narrowed := true }
def FnExactTakeWordsUptoSaid : Prop := fnExactTakeWordsUptoRow.holds Try.pinned (OpenSpec.upto fnExactTakeWordsSpec)

/-- 'laws.FnExactFlipArena', WHERE WHAT IT READS IS OF BULK AT MOST 1048576: true; the input reads as it did. -/
def fnExactFlipArenaUptoRow : OpenClaim := { program := "ythejbgmhfajcpaa", sum := "4cd088a5cf40802d99d94ffff6c49109d6c82d1522b5019d41888c4aef34685c", func := "loop.example/g00723/laws.FnExactFlipArena", spec := "fnExactFlipArena", apart := false, narrowed := true }
def FnExactFlipArenaUptoSaid : Prop := fnExactFlipArenaUptoRow.holds Try.pinned (OpenSpec.upto fnExactFlipArenaSpec)

/-- 'laws.FnExactSameArenas', WHERE WHAT IT READS IS OF BULK AT MOST 1048576: true; the input reads as it did. -/
def fnExactSameArenasUptoRow : OpenClaim := { program := "ythejbgmhfajcpaa", sum := "4cd088a5cf40802d99d94ffff6c49109d6c82d1522b5019d41888c4aef34685c", func := "loop.example/g00723/laws.FnExactSameArenas", spec := "fnExactSameArenas", apart := false, narrowed := true }
def FnExactSameArenasUptoSaid : Prop := fnExactSameArenasUptoRow.holds Try.pinned (OpenSpec.upto fnExactSameArenasSpec)

end Rows
end Go.Proofs.Ythejbgmhfajcpaa
