/-
  No cell of these rows narrows 'for every input' (looked for: loops, veiled, ifaces, maps, wideKeys, modest, calm, conditions, laid).
  DERIVED. THE GIVEN ROWS OF THIS SEAT. 9 by the template 'for every input the law returns true; each argument reads behind the call as it read before'; 0 by the template 'total and deterministic' (their statements: YtlelgfkebcnepaaTotals.lean).
  GIVEN WITH THE SEED: the statements are not yours to turn. If you find one false, say at which input.
  Laid BY PROGRAM, IN A SANDBOX (cutbox-rows.mjs): the forced cells as the released guide's own fill.sh prints them over the translation a41e5f2ce1e5b3ea… (all of the seat's roots in one cut). By AI agents, Wed Nov 11 2026. No macro, syntax, notation, axiom, sorry.
-/
import Derived.Test.YtlelgfkebcnepaaChecked
import GoSem.Claim
import GoSem.ClaimJoined
import GoSem.ClaimMapViews
import Derived.JoinedTies
import Derived.KernelRfl
namespace Go.Proofs.Ytlelgfkebcnepaa
/- THE CELL 'sum', in the pinned program and in every row, IS THE sha256 OF THE DUMP (.gsa) THAT YtlelgfkebcnepaaProg.lean LOADS. Nothing in Lean hashes anything: it is a label: what it is worth is what the hold of that sum in a sandbox is worth. -/
noncomputable def Try.pinned : Pinned := { name := "ytlelgfkebcnepaa", sum := "a41e5f2ce1e5b3eac72d1b2d3445fd64b80ec62786b41a3ed6f4e67e1971f74d", checked := Try.checked }
namespace Rows
def none {H : Type} : Left H := { results := [], args := [] }

/-- 'laws.FnObjects': WHATEVER THE INPUT: true; the input reads as it did. -/
def fnObjectsSpec : ChangeSpec := { name := "fnObjects", fn := fun _ => fun
  | [d] => { results := [.lit (.bool true)], args := [d] }
  | _ => none }
def fnObjectsRow : OpenClaim := { program := "ytlelgfkebcnepaa", sum := "a41e5f2ce1e5b3eac72d1b2d3445fd64b80ec62786b41a3ed6f4e67e1971f74d", func := "loop.example/g00723/laws.FnObjects", spec := "fnObjects", unfollowed := true, recurses := true, apart := false }
def FnObjectsSaid : Prop := fnObjectsRow.holds Try.pinned (OpenSpec.ofChange fnObjectsSpec)

/-- ITS FALSE NEIGHBOUR: 'it returns false'. Refute it at one input. -/
def fnObjectsWrong : ChangeSpec := { name := "fnObjects", fn := fun _ => fun
  | [d] => { results := [.lit (.bool false)], args := [d] }
  | _ => none }
def FnObjectsWrongFalsely : Prop := fnObjectsRow.holds Try.pinned (OpenSpec.ofChange fnObjectsWrong)

/-- 'laws.FnFields': WHATEVER THE INPUT: true; the input reads as it did. -/
def fnFieldsSpec : ChangeSpec := { name := "fnFields", fn := fun _ => fun
  | [d] => { results := [.lit (.bool true)], args := [d] }
  | _ => none }
def fnFieldsRow : OpenClaim := { program := "ytlelgfkebcnepaa", sum := "a41e5f2ce1e5b3eac72d1b2d3445fd64b80ec62786b41a3ed6f4e67e1971f74d", func := "loop.example/g00723/laws.FnFields", spec := "fnFields", unfollowed := true, recurses := true, apart := false }
def FnFieldsSaid : Prop := fnFieldsRow.holds Try.pinned (OpenSpec.ofChange fnFieldsSpec)

/-- ITS FALSE NEIGHBOUR: 'it returns false'. Refute it at one input. -/
def fnFieldsWrong : ChangeSpec := { name := "fnFields", fn := fun _ => fun
  | [d] => { results := [.lit (.bool false)], args := [d] }
  | _ => none }
def FnFieldsWrongFalsely : Prop := fnFieldsRow.holds Try.pinned (OpenSpec.ofChange fnFieldsWrong)

/-- 'laws.FnExactObjectsIn': WHATEVER THE INPUT: true; the input reads as it did. -/
def fnExactObjectsInSpec : ChangeSpec := { name := "fnExactObjectsIn", fn := fun _ => fun
  | [d] => { results := [.lit (.bool true)], args := [d] }
  | _ => none }
def fnExactObjectsInRow : OpenClaim := { program := "ytlelgfkebcnepaa", sum := "a41e5f2ce1e5b3eac72d1b2d3445fd64b80ec62786b41a3ed6f4e67e1971f74d", func := "loop.example/g00723/laws.FnExactObjectsIn", spec := "fnExactObjectsIn", unfollowed := true, recurses := true, apart := false }
def FnExactObjectsInSaid : Prop := fnExactObjectsInRow.holds Try.pinned (OpenSpec.ofChange fnExactObjectsInSpec)

/-- ITS FALSE NEIGHBOUR: 'it returns false'. Refute it at one input. -/
def fnExactObjectsInWrong : ChangeSpec := { name := "fnExactObjectsIn", fn := fun _ => fun
  | [d] => { results := [.lit (.bool false)], args := [d] }
  | _ => none }
def FnExactObjectsInWrongFalsely : Prop := fnExactObjectsInRow.holds Try.pinned (OpenSpec.ofChange fnExactObjectsInWrong)

/-- 'laws.FnExactShapeFault': WHATEVER THE INPUT: true; the input reads as it did. -/
def fnExactShapeFaultSpec : ChangeSpec := { name := "fnExactShapeFault", fn := fun _ => fun
  | [d] => { results := [.lit (.bool true)], args := [d] }
  | _ => none }
def fnExactShapeFaultRow : OpenClaim := { program := "ytlelgfkebcnepaa", sum := "a41e5f2ce1e5b3eac72d1b2d3445fd64b80ec62786b41a3ed6f4e67e1971f74d", func := "loop.example/g00723/laws.FnExactShapeFault", spec := "fnExactShapeFault", unfollowed := true, recurses := true, apart := false }
def FnExactShapeFaultSaid : Prop := fnExactShapeFaultRow.holds Try.pinned (OpenSpec.ofChange fnExactShapeFaultSpec)

/-- ITS FALSE NEIGHBOUR: 'it returns false'. Refute it at one input. -/
def fnExactShapeFaultWrong : ChangeSpec := { name := "fnExactShapeFault", fn := fun _ => fun
  | [d] => { results := [.lit (.bool false)], args := [d] }
  | _ => none }
def FnExactShapeFaultWrongFalsely : Prop := fnExactShapeFaultRow.holds Try.pinned (OpenSpec.ofChange fnExactShapeFaultWrong)

/-- 'laws.FnExactObjectAt': WHATEVER THE INPUT: true; the input reads as it did. -/
def fnExactObjectAtSpec : ChangeSpec := { name := "fnExactObjectAt", fn := fun _ => fun
  | [d1, d2] => { results := [.lit (.bool true)], args := [d1, d2] }
  | _ => none }
def fnExactObjectAtRow : OpenClaim := { program := "ytlelgfkebcnepaa", sum := "a41e5f2ce1e5b3eac72d1b2d3445fd64b80ec62786b41a3ed6f4e67e1971f74d", func := "loop.example/g00723/laws.FnExactObjectAt", spec := "fnExactObjectAt", unfollowed := true, recurses := true, apart := false }
def FnExactObjectAtSaid : Prop := fnExactObjectAtRow.holds Try.pinned (OpenSpec.ofChange fnExactObjectAtSpec)

/-- ITS FALSE NEIGHBOUR: 'it returns false'. Refute it at one input. -/
def fnExactObjectAtWrong : ChangeSpec := { name := "fnExactObjectAt", fn := fun _ => fun
  | [d1, d2] => { results := [.lit (.bool false)], args := [d1, d2] }
  | _ => none }
def FnExactObjectAtWrongFalsely : Prop := fnExactObjectAtRow.holds Try.pinned (OpenSpec.ofChange fnExactObjectAtWrong)

/-- 'laws.FnExactPutObject': WHATEVER THE INPUT: true; the input reads as it did. -/
def fnExactPutObjectSpec : ChangeSpec := { name := "fnExactPutObject", fn := fun _ => fun
  | [d1, d2] => { results := [.lit (.bool true)], args := [d1, d2] }
  | _ => none }
def fnExactPutObjectRow : OpenClaim := { program := "ytlelgfkebcnepaa", sum := "a41e5f2ce1e5b3eac72d1b2d3445fd64b80ec62786b41a3ed6f4e67e1971f74d", func := "loop.example/g00723/laws.FnExactPutObject", spec := "fnExactPutObject", unfollowed := true, recurses := true, apart := false }
def FnExactPutObjectSaid : Prop := fnExactPutObjectRow.holds Try.pinned (OpenSpec.ofChange fnExactPutObjectSpec)

/-- ITS FALSE NEIGHBOUR: 'it returns false'. Refute it at one input. -/
def fnExactPutObjectWrong : ChangeSpec := { name := "fnExactPutObject", fn := fun _ => fun
  | [d1, d2] => { results := [.lit (.bool false)], args := [d1, d2] }
  | _ => none }
def FnExactPutObjectWrongFalsely : Prop := fnExactPutObjectRow.holds Try.pinned (OpenSpec.ofChange fnExactPutObjectWrong)

/-- 'laws.FnExactFieldAt': WHATEVER THE INPUT: true; the input reads as it did. -/
def fnExactFieldAtSpec : ChangeSpec := { name := "fnExactFieldAt", fn := fun _ => fun
  | [d1, d2, d3] => { results := [.lit (.bool true)], args := [d1, d2, d3] }
  | _ => none }
def fnExactFieldAtRow : OpenClaim := { program := "ytlelgfkebcnepaa", sum := "a41e5f2ce1e5b3eac72d1b2d3445fd64b80ec62786b41a3ed6f4e67e1971f74d", func := "loop.example/g00723/laws.FnExactFieldAt", spec := "fnExactFieldAt", unfollowed := true, recurses := true, apart := false }
def FnExactFieldAtSaid : Prop := fnExactFieldAtRow.holds Try.pinned (OpenSpec.ofChange fnExactFieldAtSpec)

/-- ITS FALSE NEIGHBOUR: 'it returns false'. Refute it at one input. -/
def fnExactFieldAtWrong : ChangeSpec := { name := "fnExactFieldAt", fn := fun _ => fun
  | [d1, d2, d3] => { results := [.lit (.bool false)], args := [d1, d2, d3] }
  | _ => none }
def FnExactFieldAtWrongFalsely : Prop := fnExactFieldAtRow.holds Try.pinned (OpenSpec.ofChange fnExactFieldAtWrong)

/-- 'laws.FnExactSetField': WHATEVER THE INPUT: true; the input reads as it did. -/
def fnExactSetFieldSpec : ChangeSpec := { name := "fnExactSetField", fn := fun _ => fun
  | [d1, d2, d3, d4] => { results := [.lit (.bool true)], args := [d1, d2, d3, d4] }
  | _ => none }
def fnExactSetFieldRow : OpenClaim := { program := "ytlelgfkebcnepaa", sum := "a41e5f2ce1e5b3eac72d1b2d3445fd64b80ec62786b41a3ed6f4e67e1971f74d", func := "loop.example/g00723/laws.FnExactSetField", spec := "fnExactSetField", unfollowed := true, recurses := true, apart := false }
def FnExactSetFieldSaid : Prop := fnExactSetFieldRow.holds Try.pinned (OpenSpec.ofChange fnExactSetFieldSpec)

/-- ITS FALSE NEIGHBOUR: 'it returns false'. Refute it at one input. -/
def fnExactSetFieldWrong : ChangeSpec := { name := "fnExactSetField", fn := fun _ => fun
  | [d1, d2, d3, d4] => { results := [.lit (.bool false)], args := [d1, d2, d3, d4] }
  | _ => none }
def FnExactSetFieldWrongFalsely : Prop := fnExactSetFieldRow.holds Try.pinned (OpenSpec.ofChange fnExactSetFieldWrong)

/-- 'laws.FnExactSameObjects': WHATEVER THE INPUT: true; the input reads as it did. -/
def fnExactSameObjectsSpec : ChangeSpec := { name := "fnExactSameObjects", fn := fun _ => fun
  | [d1, d2] => { results := [.lit (.bool true)], args := [d1, d2] }
  | _ => none }
def fnExactSameObjectsRow : OpenClaim := { program := "ytlelgfkebcnepaa", sum := "a41e5f2ce1e5b3eac72d1b2d3445fd64b80ec62786b41a3ed6f4e67e1971f74d", func := "loop.example/g00723/laws.FnExactSameObjects", spec := "fnExactSameObjects", unfollowed := true, recurses := true, apart := false }
def FnExactSameObjectsSaid : Prop := fnExactSameObjectsRow.holds Try.pinned (OpenSpec.ofChange fnExactSameObjectsSpec)

/-- ITS FALSE NEIGHBOUR: 'it returns false'. Refute it at one input. -/
def fnExactSameObjectsWrong : ChangeSpec := { name := "fnExactSameObjects", fn := fun _ => fun
  | [d1, d2] => { results := [.lit (.bool false)], args := [d1, d2] }
  | _ => none }
def FnExactSameObjectsWrongFalsely : Prop := fnExactSameObjectsRow.holds Try.pinned (OpenSpec.ofChange fnExactSameObjectsWrong)

/- THE SECOND FORM. 'bulk': how many values and letters a reading holds, each counted each time it is reached (what is shared counts as often as it is met; a slice's spare places count too). A statement '..UptoSaid' is the law's where the arguments, and the package variables that the reading takes, are together of bulk at most 1048576: NARROWER than '..Said'. Prove '..Said' where nothing that the law and all that it calls make is longer than what came in: it says more and counts as full. Else prove '..UptoSaid'. A law counts once. -/
mutual
def uptoBulk {H : Type} : DataW H → Nat
  | .lit (.string bytes) => bytes.length + 1
  | .lit _ => 1
  | .nil => 1
  | .ptr d => uptoBulk d + 1
  | .slice elems spare => uptoBulkAll elems + uptoBulkAll spare + 1
  | .agg parts => uptoBulkAll parts + 1
  | .iface _ d => uptoBulk d + 1
  | .map entries => uptoBulkEntries entries + 1
  | .held _ => 1
def uptoBulkAll {H : Type} : List (DataW H) → Nat
  | [] => 0
  | d :: r => uptoBulk d + uptoBulkAll r
def uptoBulkEntries {H : Type} : List (Lit × DataW H) → Nat
  | [] => 0
  | x :: r => uptoBulkEntry x + uptoBulkEntries r
def uptoBulkEntry {H : Type} : Lit × DataW H → Nat
  | (.string bytes, d) => bytes.length + uptoBulk d + 1
  | (_, d) => uptoBulk d + 1
 end
def uptoSmall : (H : Type) → List (DataW H) → Bool := fun _ ds => decide (uptoBulkAll ds ≤ 1048576)
def OpenSpec.upto (s : _root_.Go.ChangeSpec) : _root_.Go.OpenSpec := { _root_.Go.OpenSpec.ofChange s with cond := some uptoSmall }

/-- 'laws.FnObjects', WHERE WHAT IT READS IS OF BULK AT MOST 1048576: true; the input reads as it did. -/
def fnObjectsUptoRow : OpenClaim := { program := "ytlelgfkebcnepaa", sum := "a41e5f2ce1e5b3eac72d1b2d3445fd64b80ec62786b41a3ed6f4e67e1971f74d", func := "loop.example/g00723/laws.FnObjects", spec := "fnObjects", unfollowed := true, recurses := true, apart := false, narrowed := true }
def FnObjectsUptoSaid : Prop := fnObjectsUptoRow.holds Try.pinned (OpenSpec.upto fnObjectsSpec)

/-- 'laws.FnFields', WHERE WHAT IT READS IS OF BULK AT MOST 1048576: true; the input reads as it did. -/
def fnFieldsUptoRow : OpenClaim := { program := "ytlelgfkebcnepaa", sum := "a41e5f2ce1e5b3eac72d1b2d3445fd64b80ec62786b41a3ed6f4e67e1971f74d", func := "loop.example/g00723/laws.FnFields", spec := "fnFields", unfollowed := true, recurses := true, apart := false, narrowed := true }
def FnFieldsUptoSaid : Prop := fnFieldsUptoRow.holds Try.pinned (OpenSpec.upto fnFieldsSpec)

/-- 'laws.FnExactObjectsIn', WHERE WHAT IT READS IS OF BULK AT MOST 1048576: true; the input reads as it did. -/
def fnExactObjectsInUptoRow : OpenClaim := { program := "ytlelgfkebcnepaa", sum := "a41e5f2ce1e5b3eac72d1b2d3445fd64b80ec62786b41a3ed6f4e67e1971f74d", func := "loop.example/g00723/laws.FnExactObjectsIn", spec := "fnExactObjectsIn", unfollowed := true, recurses := true, apart := false, narrowed := true }
def FnExactObjectsInUptoSaid : Prop := fnExactObjectsInUptoRow.holds Try.pinned (OpenSpec.upto fnExactObjectsInSpec)

/-- 'laws.FnExactShapeFault', WHERE WHAT IT READS IS OF BULK AT MOST 1048576: true; the input reads as it did. -/
def fnExactShapeFaultUptoRow : OpenClaim := { program := "ytlelgfkebcnepaa", sum := "a41e5f2ce1e5b3eac72d1b2d3445fd64b80ec62786b41a3ed6f4e67e1971f74d", func := "loop.example/g00723/laws.FnExactShapeFault", spec := "fnExactShapeFault", unfollowed := true, recurses := true, apart := false, narrowed := true }
def FnExactShapeFaultUptoSaid : Prop := fnExactShapeFaultUptoRow.holds Try.pinned (OpenSpec.upto fnExactShapeFaultSpec)

/-- 'laws.FnExactObjectAt', WHERE WHAT IT READS IS OF BULK AT MOST 1048576: true; the input reads as it did. -/
def fnExactObjectAtUptoRow : OpenClaim := { program := "ytlelgfkebcnepaa", sum := "a41e5f2ce1e5b3eac72d1b2d3445fd64b80ec62786b41a3ed6f4e67e1971f74d", func := "loop.example/g00723/laws.FnExactObjectAt", spec := "fnExactObjectAt", unfollowed := true, recurses := true, apart := false, narrowed := true }
def FnExactObjectAtUptoSaid : Prop := fnExactObjectAtUptoRow.holds Try.pinned (OpenSpec.upto fnExactObjectAtSpec)

/-- 'laws.FnExactPutObject', WHERE WHAT IT READS IS OF BULK AT MOST 1048576: true; the input reads as it did. -/
def fnExactPutObjectUptoRow : OpenClaim := { program := "ytlelgfkebcnepaa", sum := "a41e5f2ce1e5b3eac72d1b2d3445fd64b80ec62786b41a3ed6f4e67e1971f74d", func := "loop.example/g00723/laws.FnExactPutObject", spec := "fnExactPutObject", unfollowed := true, recurses := true, apart := false, narrowed := true }
def FnExactPutObjectUptoSaid : Prop := fnExactPutObjectUptoRow.holds Try.pinned (OpenSpec.upto fnExactPutObjectSpec)

/-- 'laws.FnExactFieldAt', WHERE WHAT IT READS IS OF BULK AT MOST 1048576: true; the input reads as it did. -/
def fnExactFieldAtUptoRow : OpenClaim := { program := "ytlelgfkebcnepaa", sum := "a41e5f2ce1e5b3eac72d1b2d3445fd64b80ec62786b41a3ed6f4e67e1971f74d", func := "loop.example/g00723/laws.FnExactFieldAt", spec := "fnExactFieldAt", unfollowed := true, recurses := true, apart := false, narrowed := true }
def FnExactFieldAtUptoSaid : Prop := fnExactFieldAtUptoRow.holds Try.pinned (OpenSpec.upto fnExactFieldAtSpec)

/-- 'laws.FnExactSetField', WHERE WHAT IT READS IS OF BULK AT MOST 1048576: true; the input reads as it did. -/
def fnExactSetFieldUptoRow : OpenClaim := { program := "ytlelgfkebcnepaa", sum := "a41e5f2ce1e5b3eac72d1b2d3445fd64b80ec62786b41a3ed6f4e67e1971f74d", func := "loop.example/g00723/laws.FnExactSetField", spec := "fnExactSetField", unfollowed := true, recurses := true, apart := false, narrowed := true }
def FnExactSetFieldUptoSaid : Prop := fnExactSetFieldUptoRow.holds Try.pinned (OpenSpec.upto fnExactSetFieldSpec)

/-- 'laws.FnExactSameObjects', WHERE WHAT IT READS IS OF BULK AT MOST 1048576: true; the input reads as it did. -/
def fnExactSameObjectsUptoRow : OpenClaim := { program := "ytlelgfkebcnepaa", sum := "a41e5f2ce1e5b3eac72d1b2d3445fd64b80ec62786b41a3ed6f4e67e1971f74d", func := "loop.example/g00723/laws.FnExactSameObjects", spec := "fnExactSameObjects", unfollowed := true, recurses := true, apart := false, narrowed := true }
def FnExactSameObjectsUptoSaid : Prop := fnExactSameObjectsUptoRow.holds Try.pinned (OpenSpec.upto fnExactSameObjectsSpec)

end Rows
end Go.Proofs.Ytlelgfkebcnepaa
