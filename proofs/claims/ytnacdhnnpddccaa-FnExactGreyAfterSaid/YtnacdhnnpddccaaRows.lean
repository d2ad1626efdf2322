/-
  No cell of these rows narrows 'for every input' (looked for: loops, veiled, ifaces, maps, wideKeys, modest, calm, conditions, laid).
  DERIVED. THE GIVEN ROWS OF THIS SEAT. 7 by the template 'for every input the law returns true; each argument reads behind the call as it read before'; 0 by the template 'total and deterministic' (their statements: YtnacdhnnpddccaaTotals.lean).
  GIVEN WITH THE SEED: the statements are not yours to turn. If you find one false, say at which input.
  Laid BY PROGRAM, IN A SANDBOX (cutbox-rows.mjs): the forced cells as the released guide's own fill.sh prints them over the translation 8edb152d140e4833… (all of the seat's roots in one cut). By AI agents, Wed Nov 11 2026. No macro, syntax, notation, axiom, sorry.
-/
import Derived.Test.YtnacdhnnpddccaaChecked
import GoSem.Claim
import GoSem.ClaimJoined
import GoSem.ClaimMapViews
import Derived.JoinedTies
import Derived.KernelRfl
namespace Go.Proofs.Ytnacdhnnpddccaa
/- THE CELL 'sum', in the pinned program and in every row, IS THE sha256 OF THE DUMP (.gsa) THAT YtnacdhnnpddccaaProg.lean LOADS. Nothing in Lean hashes anything: it is a label: what it is worth is what the hold of that sum in a sandbox is worth. -/
noncomputable def Try.pinned : Pinned := { name := "ytnacdhnnpddccaa", sum := "8edb152d140e4833cd5307d2c800f11559007d7de617c0aa18f8748b4671e7a3", checked := Try.checked }
namespace Rows
def none {H : Type} : Left H := { results := [], args := [] }

/-- 'laws.FnExactSameCopies': WHATEVER THE INPUT: true; the input reads as it did. -/
def fnExactSameCopiesSpec : ChangeSpec := { name := "fnExactSameCopies", fn := fun _ => fun
  | [d1, d2] => { results := [.lit (.bool true)], args := [d1, d2] }
  | _ => none }
def fnExactSameCopiesRow : OpenClaim := { program := "ytnacdhnnpddccaa", sum := "8edb152d140e4833cd5307d2c800f11559007d7de617c0aa18f8748b4671e7a3", func := "loop.example/g00723/laws.FnExactSameCopies", spec := "fnExactSameCopies", apart := false }
def FnExactSameCopiesSaid : Prop := fnExactSameCopiesRow.holds Try.pinned (OpenSpec.ofChange fnExactSameCopiesSpec)

/-- ITS FALSE NEIGHBOUR: 'it returns false'. Refute it at one input. -/
def fnExactSameCopiesWrong : ChangeSpec := { name := "fnExactSameCopies", fn := fun _ => fun
  | [d1, d2] => { results := [.lit (.bool false)], args := [d1, d2] }
  | _ => none }
def FnExactSameCopiesWrongFalsely : Prop := fnExactSameCopiesRow.holds Try.pinned (OpenSpec.ofChange fnExactSameCopiesWrong)

/-- 'laws.FnExactCopyAfter': WHATEVER THE INPUT: true; the input reads as it did. -/
def fnExactCopyAfterSpec : ChangeSpec := { name := "fnExactCopyAfter", fn := fun _ => fun
  | [d1, d2, d3] => { results := [.lit (.bool true)], args := [d1, d2, d3] }
  | _ => none }
def fnExactCopyAfterRow : OpenClaim := { program := "ytnacdhnnpddccaa", sum := "8edb152d140e4833cd5307d2c800f11559007d7de617c0aa18f8748b4671e7a3", func := "loop.example/g00723/laws.FnExactCopyAfter", spec := "fnExactCopyAfter", unfollowed := true, recurses := true, apart := false }
def FnExactCopyAfterSaid : Prop := fnExactCopyAfterRow.holds Try.pinned (OpenSpec.ofChange fnExactCopyAfterSpec)

/-- ITS FALSE NEIGHBOUR: 'it returns false'. Refute it at one input. -/
def fnExactCopyAfterWrong : ChangeSpec := { name := "fnExactCopyAfter", fn := fun _ => fun
  | [d1, d2, d3] => { results := [.lit (.bool false)], args := [d1, d2, d3] }
  | _ => none }
def FnExactCopyAfterWrongFalsely : Prop := fnExactCopyAfterRow.holds Try.pinned (OpenSpec.ofChange fnExactCopyAfterWrong)

/-- 'laws.FnExactCopySteps': WHATEVER THE INPUT: true; the input reads as it did. -/
def fnExactCopyStepsSpec : ChangeSpec := { name := "fnExactCopySteps", fn := fun _ => fun
  | [d1, d2] => { results := [.lit (.bool true)], args := [d1, d2] }
  | _ => none }
def fnExactCopyStepsRow : OpenClaim := { program := "ytnacdhnnpddccaa", sum := "8edb152d140e4833cd5307d2c800f11559007d7de617c0aa18f8748b4671e7a3", func := "loop.example/g00723/laws.FnExactCopySteps", spec := "fnExactCopySteps", unfollowed := true, recurses := true, apart := false }
def FnExactCopyStepsSaid : Prop := fnExactCopyStepsRow.holds Try.pinned (OpenSpec.ofChange fnExactCopyStepsSpec)

/-- ITS FALSE NEIGHBOUR: 'it returns false'. Refute it at one input. -/
def fnExactCopyStepsWrong : ChangeSpec := { name := "fnExactCopySteps", fn := fun _ => fun
  | [d1, d2] => { results := [.lit (.bool false)], args := [d1, d2] }
  | _ => none }
def FnExactCopyStepsWrongFalsely : Prop := fnExactCopyStepsRow.holds Try.pinned (OpenSpec.ofChange fnExactCopyStepsWrong)

/-- 'laws.FnExactWaysAfter': WHATEVER THE INPUT: true; the input reads as it did. -/
def fnExactWaysAfterSpec : ChangeSpec := { name := "fnExactWaysAfter", fn := fun _ => fun
  | [d1, d2, d3] => { results := [.lit (.bool true)], args := [d1, d2, d3] }
  | _ => none }
def fnExactWaysAfterRow : OpenClaim := { program := "ytnacdhnnpddccaa", sum := "8edb152d140e4833cd5307d2c800f11559007d7de617c0aa18f8748b4671e7a3", func := "loop.example/g00723/laws.FnExactWaysAfter", spec := "fnExactWaysAfter", unfollowed := true, recurses := true, apart := false }
def FnExactWaysAfterSaid : Prop := fnExactWaysAfterRow.holds Try.pinned (OpenSpec.ofChange fnExactWaysAfterSpec)

/-- ITS FALSE NEIGHBOUR: 'it returns false'. Refute it at one input. -/
def fnExactWaysAfterWrong : ChangeSpec := { name := "fnExactWaysAfter", fn := fun _ => fun
  | [d1, d2, d3] => { results := [.lit (.bool false)], args := [d1, d2, d3] }
  | _ => none }
def FnExactWaysAfterWrongFalsely : Prop := fnExactWaysAfterRow.holds Try.pinned (OpenSpec.ofChange fnExactWaysAfterWrong)

/-- 'laws.FnExactGreyAfter': WHATEVER THE INPUT: true; the input reads as it did. -/
def fnExactGreyAfterSpec : ChangeSpec := { name := "fnExactGreyAfter", fn := fun _ => fun
  | [d1, d2, d3] => { results := [.lit (.bool true)], args := [d1, d2, d3] }
  | _ => none }
def fnExactGreyAfterRow : OpenClaim := { program := "ytnacdhnnpddccaa", sum := "8edb152d140e4833cd5307d2c800f11559007d7de617c0aa18f8748b4671e7a3", func := "loop.example/g00723/laws.FnExactGreyAfter", spec := "fnExactGreyAfter", unfollowed := true, recurses := true, apart := false }
def FnExactGreyAfterSaid : Prop := fnExactGreyAfterRow.holds Try.pinned (OpenSpec.ofChange fnExactGreyAfterSpec)

/-- ITS FALSE NEIGHBOUR: 'it returns false'. Refute it at one input. -/
def fnExactGreyAfterWrong : ChangeSpec := { name := "fnExactGreyAfter", fn := fun _ => fun
  | [d1, d2, d3] => { results := [.lit (.bool false)], args := [d1, d2, d3] }
  | _ => none }
def FnExactGreyAfterWrongFalsely : Prop := fnExactGreyAfterRow.holds Try.pinned (OpenSpec.ofChange fnExactGreyAfterWrong)

/-- 'laws.FnExactBlackAfter': WHATEVER THE INPUT: true; the input reads as it did. -/
def fnExactBlackAfterSpec : ChangeSpec := { name := "fnExactBlackAfter", fn := fun _ => fun
  | [d1, d2, d3] => { results := [.lit (.bool true)], args := [d1, d2, d3] }
  | _ => none }
def fnExactBlackAfterRow : OpenClaim := { program := "ytnacdhnnpddccaa", sum := "8edb152d140e4833cd5307d2c800f11559007d7de617c0aa18f8748b4671e7a3", func := "loop.example/g00723/laws.FnExactBlackAfter", spec := "fnExactBlackAfter", unfollowed := true, recurses := true, apart := false }
def FnExactBlackAfterSaid : Prop := fnExactBlackAfterRow.holds Try.pinned (OpenSpec.ofChange fnExactBlackAfterSpec)

/-- ITS FALSE NEIGHBOUR: 'it returns false'. Refute it at one input. -/
def fnExactBlackAfterWrong : ChangeSpec := { name := "fnExactBlackAfter", fn := fun _ => fun
  | [d1, d2, d3] => { results := [.lit (.bool false)], args := [d1, d2, d3] }
  | _ => none }
def FnExactBlackAfterWrongFalsely : Prop := fnExactBlackAfterRow.holds Try.pinned (OpenSpec.ofChange fnExactBlackAfterWrong)

/-- 'laws.FnExactFinishCopy': WHATEVER THE INPUT: true; the input reads as it did. -/
def fnExactFinishCopySpec : ChangeSpec := { name := "fnExactFinishCopy", fn := fun _ => fun
  | [d1, d2] => { results := [.lit (.bool true)], args := [d1, d2] }
  | _ => none }
def fnExactFinishCopyRow : OpenClaim := { program := "ytnacdhnnpddccaa", sum := "8edb152d140e4833cd5307d2c800f11559007d7de617c0aa18f8748b4671e7a3", func := "loop.example/g00723/laws.FnExactFinishCopy", spec := "fnExactFinishCopy", unfollowed := true, recurses := true, apart := false }
def FnExactFinishCopySaid : Prop := fnExactFinishCopyRow.holds Try.pinned (OpenSpec.ofChange fnExactFinishCopySpec)

/-- ITS FALSE NEIGHBOUR: 'it returns false'. Refute it at one input. -/
def fnExactFinishCopyWrong : ChangeSpec := { name := "fnExactFinishCopy", fn := fun _ => fun
  | [d1, d2] => { results := [.lit (.bool false)], args := [d1, d2] }
  | _ => none }
def FnExactFinishCopyWrongFalsely : Prop := fnExactFinishCopyRow.holds Try.pinned (OpenSpec.ofChange fnExactFinishCopyWrong)

/- THE SECOND FORM. 'bulk': how many values and letters a reading holds, each counted each time it is reached (what is shared counts as often as it is met; a slice's spare places count too). A statement '..UptoSaid' is the law's where the arguments, and the package variables that the reading takes, are together of bulk at most 1048576: NARROWER than '..Said'. Prove '..Said' where nothing that the law and all that it calls make is longer than what came in: it says more and counts as full. Else prove '..UptoSaid'. A law counts once. -/
mutual
def uptoBulk {H : Type} : DataW H → Nat
  | .lit (.string bytes) => bytes.length + 1
  | .lit _ => 1
  | .nil => 1
  | .ptr d => uptoBulk d + 1
  | .slice elems spare => uptoBulkAll elems + uptoBulkAll spare + 1
  | .agg parts => uptoBulkAll parts + 1
  | .iface _ d => uptoBulk d + 1
  | .map entries => uptoBulkEntries entries + 1
  | .held _ => 1
def uptoBulkAll {H : Type} : List (DataW H) → Nat
  | [] => 0
  | d :: r => uptoBulk d + uptoBulkAll r
def uptoBulkEntries {H : Type} : List (Lit × DataW H) → Nat
  | [] => 0
  | x :: r => uptoBulkEntry x + uptoBulkEntries r
def uptoBulkEntry {H : Type} : Lit × DataW H → Nat
  | (.string bytes, d) => bytes.length + uptoBulk d + 1
  | (_, d) => uptoBulk d + 1
 end
def uptoSmall : (H : Type) → List (DataW H) → Bool := fun _ ds => decide (uptoBulkAll ds ≤ 1048576)
def OpenSpec.upto (s : _root_.Go.ChangeSpec) : _root_.Go.OpenSpec := { _root_.Go.OpenSpec.ofChange s with cond := some uptoSmall }

/-- 'laws.FnExactSameCopies', WHERE WHAT IT READS IS OF BULK AT MOST 1048576: true; the input reads as it did. -/
def fnExactSameCopiesUptoRow : OpenClaim := { program := "ytnacdhnnpddccaa", sum := "8edb152d140e4833cd5307d2c800f11559007d7de617c0aa18f8748b4671e7a3", func := "loop.example/g00723/laws.FnExactSameCopies", spec := "fnExactSameCopies", apart := false, narrowed := true }
def FnExactSameCopiesUptoSaid : Prop := fnExactSameCopiesUptoRow.holds Try.pinned (OpenSpec.upto fnExactSameCopiesSpec)

/-- 'laws.FnExactCopyAfter', WHERE WHAT IT READS IS OF BULK AT MOST 1048576: true; the input reads as it did. -/
def fnExactCopyAfterUptoRow : OpenClaim := { program := "ytnacdhnnpddccaa", sum := "8edb152d140e4833cd5307d2c800f11559007d7de617c0aa18f8748b4671e7a3", func := "loop.example/g00723/laws.FnExactCopyAfter", spec := "fnExactCopyAfter", unfollowed := true, recurses := true, apart := false, narrowed := true }
def FnExactCopyAfterUptoSaid : Prop := fnExactCopyAfterUptoRow.holds Try.pinned (OpenSpec.upto fnExactCopyAfterSpec)

/-- 'laws.FnExactCopySteps', WHERE WHAT IT READS IS OF BULK AT MOST 1048576: true; the input reads as it did. -/
def fnExactCopyStepsUptoRow : OpenClaim := { program := "ytnacdhnnpddccaa", sum := "8edb152d140e4833cd5307d2c800f11559007d7de617c0aa18f8748b4671e7a3", func := "loop.example/g00723/laws.FnExactCopySteps", spec := "fnExactCopySteps", unfollowed := true, recurses := true, apart := false, narrowed := true }
def FnExactCopyStepsUptoSaid : Prop := fnExactCopyStepsUptoRow.holds Try.pinned (OpenSpec.upto fnExactCopyStepsSpec)

/-- 'laws.FnExactWaysAfter', WHERE WHAT IT READS IS OF BULK AT MOST 1048576: true; the input reads as it did. -/
def fnExactWaysAfterUptoRow : OpenClaim := { program := "ytnacdhnnpddccaa", sum := "8edb152d140e4833cd5307d2c800f11559007d7de617c0aa18f8748b4671e7a3", func := "loop.example/g00723/laws.FnExactWaysAfter", spec := "fnExactWaysAfter", unfollowed := true, recurses := true, apart := false, narrowed := true }
def FnExactWaysAfterUptoSaid : Prop := fnExactWaysAfterUptoRow.holds Try.pinned (OpenSpec.upto fnExactWaysAfterSpec)

/-- 'laws.FnExactGreyAfter', WHERE WHAT IT READS IS OF BULK AT MOST 1048576: true; the input reads as it did. -/
def fnExactGreyAfterUptoRow : OpenClaim := { program := "ytnacdhnnpddccaa", sum := "8edb152d140e4833cd5307d2c800f11559007d7de617c0aa18f8748b4671e7a3", func := "loop.example/g00723/laws.FnExactGreyAfter", spec := "fnExactGreyAfter", unfollowed := true, recurses := true, apart := false, narrowed := true }
def FnExactGreyAfterUptoSaid : Prop := fnExactGreyAfterUptoRow.holds Try.pinned (OpenSpec.upto fnExactGreyAfterSpec)

/-- 'laws.FnExactBlackAfter', WHERE WHAT IT READS IS OF BULK AT MOST 1048576: true; the input reads as it did. -/
def fnExactBlackAfterUptoRow : OpenClaim := { program := "ytnacdhnnpddccaa", sum := "8edb152d140e4833cd5307d2c800f11559007d7de617c0aa18f8748b4671e7a3", func := "loop.example/g00723/laws.FnExactBlackAfter", spec := "fnExactBlackAfter", unfollowed := true, recurses := true, apart := false, narrowed := true }
def FnExactBlackAfterUptoSaid : Prop := fnExactBlackAfterUptoRow.holds Try.pinned (OpenSpec.upto fnExactBlackAfterSpec)

/-- 'laws.FnExactFinishCopy', WHERE WHAT IT READS IS OF BULK AT MOST 1048576: true; the input reads as it did. -/
def fnExactFinishCopyUptoRow : OpenClaim := { program := "ytnacdhnnpddccaa", sum := "8edb152d140e4833cd5307d2c800f11559007d7de617c0aa18f8748b4671e7a3", func := "loop.example/g00723/laws.FnExactFinishCopy", spec := "fnExactFinishCopy", unfollowed := true, recurses := true, apart := false, narrowed := true }
def FnExactFinishCopyUptoSaid : Prop := fnExactFinishCopyUptoRow.holds Try.pinned (OpenSpec.upto fnExactFinishCopySpec)

end Rows
end Go.Proofs.Ytnacdhnnpddccaa
