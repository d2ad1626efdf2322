/-
  No cell of these rows narrows 'for every input' (looked for: loops, veiled, ifaces, maps, wideKeys, modest, calm, conditions, laid).
  DERIVED. THE GIVEN ROWS OF THIS SEAT. 8 by the template 'for every input the law returns true; each argument reads behind the call as it read before'; 0 by the template 'total and deterministic' (their statements: YtdgppcaeknbnjaaTotals.lean).
  GIVEN WITH THE SEED: the statements are not yours to turn. If you find one false, say at which input.
  Laid BY PROGRAM, IN A SANDBOX (cutbox-rows.mjs): the forced cells as the released guide's own fill.sh prints them over the translation f6fe75bf4ccd6b97… (all of the seat's roots in one cut). By AI agents, Wed Nov 11 2026. No macro, syntax, notation, axiom, sorry.
-/
import Derived.Test.YtdgppcaeknbnjaaChecked
import GoSem.Claim
import GoSem.ClaimJoined
import GoSem.ClaimMapViews
import Derived.JoinedTies
import Derived.KernelRfl
namespace Go.Proofs.Ytdgppcaeknbnjaa
/- THE CELL 'sum', in the pinned program and in every row, IS THE sha256 OF THE DUMP (.gsa) THAT YtdgppcaeknbnjaaProg.lean LOADS. Nothing in Lean hashes anything: it is a label: what it is worth is what the hold of that sum in a sandbox is worth. -/
noncomputable def Try.pinned : Pinned := { name := "ytdgppcaeknbnjaa", sum := "f6fe75bf4ccd6b97b398e70a6c4dfaeeb7e4a3bbce3677bfaba35850a908ad6c", checked := Try.checked }
namespace Rows
def none {H : Type} : Left H := { results := [], args := [] }

/-- 'laws.FnReaches': WHATEVER THE INPUT: true; the input reads as it did. -/
def fnReachesSpec : ChangeSpec := { name := "fnReaches", fn := fun _ => fun
  | [d] => { results := [.lit (.bool true)], args := [d] }
  | _ => none }
def fnReachesRow : OpenClaim := { program := "ytdgppcaeknbnjaa", sum := "f6fe75bf4ccd6b97b398e70a6c4dfaeeb7e4a3bbce3677bfaba35850a908ad6c", func := "loop.example/g00723/laws.FnReaches", spec := "fnReaches", unfollowed := true, recurses := true, apart := false }
def FnReachesSaid : Prop := fnReachesRow.holds Try.pinned (OpenSpec.ofChange fnReachesSpec)

/-- ITS FALSE NEIGHBOUR: 'it returns false'. Refute it at one input. -/
def fnReachesWrong : ChangeSpec := { name := "fnReaches", fn := fun _ => fun
  | [d] => { results := [.lit (.bool false)], args := [d] }
  | _ => none }
def FnReachesWrongFalsely : Prop := fnReachesRow.holds Try.pinned (OpenSpec.ofChange fnReachesWrong)

/-- 'laws.FnCollects': WHATEVER THE INPUT: true; the input reads as it did. -/
def fnCollectsSpec : ChangeSpec := { name := "fnCollects", fn := fun _ => fun
  | [d] => { results := [.lit (.bool true)], args := [d] }
  | _ => none }
def fnCollectsRow : OpenClaim := { program := "ytdgppcaeknbnjaa", sum := "f6fe75bf4ccd6b97b398e70a6c4dfaeeb7e4a3bbce3677bfaba35850a908ad6c", func := "loop.example/g00723/laws.FnCollects", spec := "fnCollects", unfollowed := true, recurses := true, apart := false }
def FnCollectsSaid : Prop := fnCollectsRow.holds Try.pinned (OpenSpec.ofChange fnCollectsSpec)

/-- ITS FALSE NEIGHBOUR: 'it returns false'. Refute it at one input. -/
def fnCollectsWrong : ChangeSpec := { name := "fnCollects", fn := fun _ => fun
  | [d] => { results := [.lit (.bool false)], args := [d] }
  | _ => none }
def FnCollectsWrongFalsely : Prop := fnCollectsRow.holds Try.pinned (OpenSpec.ofChange fnCollectsWrong)

/-- 'laws.FnAlikes': WHATEVER THE INPUT: true; the input reads as it did. -/
def fnAlikesSpec : ChangeSpec := { name := "fnAlikes", fn := fun _ => fun
  | [d] => { results := [.lit (.bool true)], args := [d] }
  | _ => none }
def fnAlikesRow : OpenClaim := { program := "ytdgppcaeknbnjaa", sum := "f6fe75bf4ccd6b97b398e70a6c4dfaeeb7e4a3bbce3677bfaba35850a908ad6c", func := "loop.example/g00723/laws.FnAlikes", spec := "fnAlikes", unfollowed := true, recurses := true, apart := false }
def FnAlikesSaid : Prop := fnAlikesRow.holds Try.pinned (OpenSpec.ofChange fnAlikesSpec)

/-- ITS FALSE NEIGHBOUR: 'it returns false'. Refute it at one input. -/
def fnAlikesWrong : ChangeSpec := { name := "fnAlikes", fn := fun _ => fun
  | [d] => { results := [.lit (.bool false)], args := [d] }
  | _ => none }
def FnAlikesWrongFalsely : Prop := fnAlikesRow.holds Try.pinned (OpenSpec.ofChange fnAlikesWrong)

/-- 'laws.FnExactReachFrom': WHATEVER THE INPUT: true; the input reads as it did. -/
def fnExactReachFromSpec : ChangeSpec := { name := "fnExactReachFrom", fn := fun _ => fun
  | [d1, d2] => { results := [.lit (.bool true)], args := [d1, d2] }
  | _ => none }
def fnExactReachFromRow : OpenClaim := { program := "ytdgppcaeknbnjaa", sum := "f6fe75bf4ccd6b97b398e70a6c4dfaeeb7e4a3bbce3677bfaba35850a908ad6c", func := "loop.example/g00723/laws.FnExactReachFrom", spec := "fnExactReachFrom", unfollowed := true, recurses := true, apart := false }
def FnExactReachFromSaid : Prop := fnExactReachFromRow.holds Try.pinned (OpenSpec.ofChange fnExactReachFromSpec)

/-- ITS FALSE NEIGHBOUR: 'it returns false'. Refute it at one input. -/
def fnExactReachFromWrong : ChangeSpec := { name := "fnExactReachFrom", fn := fun _ => fun
  | [d1, d2] => { results := [.lit (.bool false)], args := [d1, d2] }
  | _ => none }
def FnExactReachFromWrongFalsely : Prop := fnExactReachFromRow.holds Try.pinned (OpenSpec.ofChange fnExactReachFromWrong)

/-- 'laws.FnExactLiveWords': WHATEVER THE INPUT: true; the input reads as it did. -/
def fnExactLiveWordsSpec : ChangeSpec := { name := "fnExactLiveWords", fn := fun _ => fun
  | [d1, d2] => { results := [.lit (.bool true)], args := [d1, d2] }
  | _ => none }
def fnExactLiveWordsRow : OpenClaim := { program := "ytdgppcaeknbnjaa", sum := "f6fe75bf4ccd6b97b398e70a6c4dfaeeb7e4a3bbce3677bfaba35850a908ad6c", func := "loop.example/g00723/laws.FnExactLiveWords", spec := "fnExactLiveWords", unfollowed := true, recurses := true, apart := false }
def FnExactLiveWordsSaid : Prop := fnExactLiveWordsRow.holds Try.pinned (OpenSpec.ofChange fnExactLiveWordsSpec)

/-- ITS FALSE NEIGHBOUR: 'it returns false'. Refute it at one input. -/
def fnExactLiveWordsWrong : ChangeSpec := { name := "fnExactLiveWords", fn := fun _ => fun
  | [d1, d2] => { results := [.lit (.bool false)], args := [d1, d2] }
  | _ => none }
def FnExactLiveWordsWrongFalsely : Prop := fnExactLiveWordsRow.holds Try.pinned (OpenSpec.ofChange fnExactLiveWordsWrong)

/-- 'laws.FnExactGarbageIn': WHATEVER THE INPUT: true; the input reads as it did. -/
def fnExactGarbageInSpec : ChangeSpec := { name := "fnExactGarbageIn", fn := fun _ => fun
  | [d1, d2] => { results := [.lit (.bool true)], args := [d1, d2] }
  | _ => none }
def fnExactGarbageInRow : OpenClaim := { program := "ytdgppcaeknbnjaa", sum := "f6fe75bf4ccd6b97b398e70a6c4dfaeeb7e4a3bbce3677bfaba35850a908ad6c", func := "loop.example/g00723/laws.FnExactGarbageIn", spec := "fnExactGarbageIn", unfollowed := true, recurses := true, apart := false }
def FnExactGarbageInSaid : Prop := fnExactGarbageInRow.holds Try.pinned (OpenSpec.ofChange fnExactGarbageInSpec)

/-- ITS FALSE NEIGHBOUR: 'it returns false'. Refute it at one input. -/
def fnExactGarbageInWrong : ChangeSpec := { name := "fnExactGarbageIn", fn := fun _ => fun
  | [d1, d2] => { results := [.lit (.bool false)], args := [d1, d2] }
  | _ => none }
def FnExactGarbageInWrongFalsely : Prop := fnExactGarbageInRow.holds Try.pinned (OpenSpec.ofChange fnExactGarbageInWrong)

/-- 'laws.FnExactCollect': WHATEVER THE INPUT: true; the input reads as it did. -/
def fnExactCollectSpec : ChangeSpec := { name := "fnExactCollect", fn := fun _ => fun
  | [d1, d2] => { results := [.lit (.bool true)], args := [d1, d2] }
  | _ => none }
def fnExactCollectRow : OpenClaim := { program := "ytdgppcaeknbnjaa", sum := "f6fe75bf4ccd6b97b398e70a6c4dfaeeb7e4a3bbce3677bfaba35850a908ad6c", func := "loop.example/g00723/laws.FnExactCollect", spec := "fnExactCollect", unfollowed := true, recurses := true, apart := false }
def FnExactCollectSaid : Prop := fnExactCollectRow.holds Try.pinned (OpenSpec.ofChange fnExactCollectSpec)

/-- ITS FALSE NEIGHBOUR: 'it returns false'. Refute it at one input. -/
def fnExactCollectWrong : ChangeSpec := { name := "fnExactCollect", fn := fun _ => fun
  | [d1, d2] => { results := [.lit (.bool false)], args := [d1, d2] }
  | _ => none }
def FnExactCollectWrongFalsely : Prop := fnExactCollectRow.holds Try.pinned (OpenSpec.ofChange fnExactCollectWrong)

/-- 'laws.FnExactIsAlike': WHATEVER THE INPUT: true; the input reads as it did. -/
def fnExactIsAlikeSpec : ChangeSpec := { name := "fnExactIsAlike", fn := fun _ => fun
  | [d1, d2, d3, d4] => { results := [.lit (.bool true)], args := [d1, d2, d3, d4] }
  | _ => none }
def fnExactIsAlikeRow : OpenClaim := { program := "ytdgppcaeknbnjaa", sum := "f6fe75bf4ccd6b97b398e70a6c4dfaeeb7e4a3bbce3677bfaba35850a908ad6c", func := "loop.example/g00723/laws.FnExactIsAlike", spec := "fnExactIsAlike", unfollowed := true, recurses := true, apart := false }
def FnExactIsAlikeSaid : Prop := fnExactIsAlikeRow.holds Try.pinned (OpenSpec.ofChange fnExactIsAlikeSpec)

/-- ITS FALSE NEIGHBOUR: 'it returns false'. Refute it at one input. -/
def fnExactIsAlikeWrong : ChangeSpec := { name := "fnExactIsAlike", fn := fun _ => fun
  | [d1, d2, d3, d4] => { results := [.lit (.bool false)], args := [d1, d2, d3, d4] }
  | _ => none }
def FnExactIsAlikeWrongFalsely : Prop := fnExactIsAlikeRow.holds Try.pinned (OpenSpec.ofChange fnExactIsAlikeWrong)

/- THE SECOND FORM. 'bulk': how many values and letters a reading holds, each counted each time it is reached (what is shared counts as often as it is met; a slice's spare places count too). A statement '..UptoSaid' is the law's where the arguments, and the package variables that the reading takes, are together of bulk at most 1048576: NARROWER than '..Said'. Prove '..Said' where nothing that the law and all that it calls make is longer than what came in: it says more and counts as full. Else prove '..UptoSaid'. A law counts once. -/
mutual
def uptoBulk {H : Type} : DataW H → Nat
  | .lit (.string bytes) => bytes.length + 1
  | .lit _ => 1
  | .nil => 1
  | .ptr d => uptoBulk d + 1
  | .slice elems spare => uptoBulkAll elems + uptoBulkAll spare + 1
  | .agg parts => uptoBulkAll parts + 1
  | .iface _ d => uptoBulk d + 1
  | .map entries => uptoBulkEntries entries + 1
  | .held _ => 1
def uptoBulkAll {H : Type} : List (DataW H) → Nat
  | [] => 0
  | d :: r => uptoBulk d + uptoBulkAll r
def uptoBulkEntries {H : Type} : List (Lit × DataW H) → Nat
  | [] => 0
  | x :: r => uptoBulkEntry x + uptoBulkEntries r
def uptoBulkEntry {H : Type} : Lit × DataW H → Nat
  | (.string bytes, d) => bytes.length + uptoBulk d + 1
  | (_, d) => uptoBulk d + 1
 end
def uptoSmall : (H : Type) → List (DataW H) → Bool := fun _ ds => decide (uptoBulkAll ds ≤ 1048576)
def OpenSpec.upto (s : _root_.Go.ChangeSpec) : _root_.Go.OpenSpec := { _root_.Go.OpenSpec.ofChange s with cond := some uptoSmall }

/-- 'laws.FnReaches', WHERE WHAT IT READS IS OF BULK AT MOST 1048576: true; the input reads as it did. -/
def fnReachesUptoRow : OpenClaim := { program := "ytdgppcaeknbnjaa", sum := "f6fe75bf4ccd6b97b398e70a6c4dfaeeb7e4a3bbce3677bfaba35850a908ad6c", func := "loop.example/g00723/laws.FnReaches", spec := "fnReaches", unfollowed := true, recurses := true, apart := false, narrowed := true }
def FnReachesUptoSaid : Prop := fnReachesUptoRow.holds Try.pinned (OpenSpec.upto fnReachesSpec)

/-- 'laws.FnCollects', WHERE WHAT IT READS IS OF BULK AT MOST 1048576: true; the input reads as it did. -/
def fnCollectsUptoRow : OpenClaim := { program := "ytdgppcaeknbnjaa", sum := "f6fe75bf4ccd6b97b398e70a6c4dfaeeb7e4a3bbce3677bfaba35850a908ad6c", func := "loop.example/g00723/laws.FnCollects", spec := "fnCollects", unfollowed := true, recurses := true, apart := false, narrowed := true }
def FnCollectsUptoSaid : Prop := fnCollectsUptoRow.holds Try.pinned (OpenSpec.upto fnCollectsSpec)

/-- 'laws.FnAlikes', WHERE WHAT IT READS IS OF BULK AT MOST 1048576: true; the input reads as it did. -/
def fnAlikesUptoRow : OpenClaim := { program := "ytdgppcaeknbnjaa", sum := "f6fe75bf4ccd6b97b398e70a6c4dfaeeb7e4a3bbce3677bfaba35850a908ad6c", func := "loop.example/g00723/laws.FnAlikes", spec := "fnAlikes", unfollowed := true, recurses := true, apart := false, narrowed := true }
def FnAlikesUptoSaid : Prop := fnAlikesUptoRow.holds Try.pinned (OpenSpec.upto fnAlikesSpec)

/-- 'laws.FnExactReachFrom', WHERE WHAT IT READS IS OF BULK AT MOST 1048576: true; the input reads as it did. -/
def fnExactReachFromUptoRow : OpenClaim := { program := "ytdgppcaeknbnjaa", sum := "f6fe75bf4ccd6b97b398e70a6c4dfaeeb7e4a3bbce3677bfaba35850a908ad6c", func := "loop.example/g00723/laws.FnExactReachFrom", spec := "fnExactReachFrom", unfollowed := true, recurses := true, apart := false, narrowed := true }
def FnExactReachFromUptoSaid : Prop := fnExactReachFromUptoRow.holds Try.pinned (OpenSpec.upto fnExactReachFromSpec)

/-- 'laws.FnExactLiveWords', WHERE WHAT IT READS IS OF BULK AT MOST 1048576: true; the input reads as it did. -/
def fnExactLiveWordsUptoRow : OpenClaim := { program := "ytdgppcaeknbnjaa", sum := "f6fe75bf4ccd6b97b398e70a6c4dfaeeb7e4a3bbce3677bfaba35850a908ad6c", func := "loop.example/g00723/laws.FnExactLiveWords", spec := "fnExactLiveWords", unfollowed := true, recurses := true, apart := false, narrowed := true }
def FnExactLiveWordsUptoSaid : Prop := fnExactLiveWordsUptoRow.holds Try.pinned (OpenSpec.upto fnExactLiveWordsSpec)

/-- 'laws.FnExactGarbageIn', WHERE WHAT IT READS IS OF BULK AT MOST 1048576: true; the input reads as it did. -/
def fnExactGarbageInUptoRow : OpenClaim := { program := "ytdgppcaeknbnjaa", sum := "f6fe75bf4ccd6b97b398e70a6c4dfaeeb7e4a3bbce3677bfaba35850a908ad6c", func := "loop.example/g00723/laws.FnExactGarbageIn", spec := "fnExactGarbageIn", unfollowed := true, recurses := true, apart := false, narrowed := true }
def FnExactGarbageInUptoSaid : Prop := fnExactGarbageInUptoRow.holds Try.pinned (OpenSpec.upto fnExactGarbageInSpec)

/-- 'laws.FnExactCollect', WHERE WHAT IT READS IS OF BULK AT MOST 1048576: true; the input reads as it did. -/
def fnExactCollectUptoRow : OpenClaim := { program := "ytdgppcaeknbnjaa", sum := "f6fe75bf4ccd6b97b398e70a6c4dfaeeb7e4a3bbce3677bfaba35850a908ad6c", func := "loop.example/g00723/laws.FnExactCollect", spec := "fnExactCollect", unfollowed := true, recurses := true, apart := false, narrowed := true }
def FnExactCollectUptoSaid : Prop := fnExactCollectUptoRow.holds Try.pinned (OpenSpec.upto fnExactCollectSpec)

/-- 'laws.FnExactIsAlike', WHERE WHAT IT READS IS OF BULK AT MOST 1048576: true; the input reads as it did. -/
def fnExactIsAlikeUptoRow : OpenClaim := { program := "ytdgppcaeknbnjaa", sum := "f6fe75bf4ccd6b97b398e70a6c4dfaeeb7e4a3bbce3677bfaba35850a908ad6c", func := "loop.example/g00723/laws.FnExactIsAlike", spec := "fnExactIsAlike", unfollowed := true, recurses := true, apart := false, narrowed := true }
def FnExactIsAlikeUptoSaid : Prop := fnExactIsAlikeUptoRow.holds Try.pinned (OpenSpec.upto fnExactIsAlikeSpec)

end Rows
end Go.Proofs.Ytdgppcaeknbnjaa
