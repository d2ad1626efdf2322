/-
  DERIVED. GIVEN WITH THE SEED: THE CARDS: each row of YtnpklnpicelcmaaDoorRows.lean that lists a variable, with what it lists TIED to the program's text (the seventh form; the later family's looks); each row that meets fmt, with fmt's text TOLD by the authors' own Lean function (tested against real Go, not proved from fmt's source: count such statements apart). THE CARD IS WHAT COUNTS. Prove the row's statement (the work); the ties are given (YtnpklnpicelcmaaDoorTie.lean); close each card by the builder's one call (the guide's Derived/Test/ToyasCard.lean, 'card_holds'). Laid BY PROGRAM, IN A SANDBOX (cutbox-door.mjs). By AI agents, Wed Nov 11 2026. No macro, syntax, notation, axiom, sorry.
-/
import Derived.Test.YtnpklnpicelcmaaDoorRows
import GoSem.ClaimSeven
namespace Go.Proofs.YtnpklnpicelcmaaDoor
namespace Rows

/-- THE TIED CARD OF 'laws.FnExactHeldBy'. -/
def fnExactHeldByCard : Claim7 := { stood := { row := fnExactHeldByRow, standIns := [], harness := (true, "563f22526590b0ad4018381bd8b8b5277added0af97d0eb835a76eb33556777c"), looks := true }, kinds := [], alts := [], laidByText := true, laidKinds := [.sentinel], laidTests := true, laidLooks := .later }
def FnExactHeldByCardSaid : Prop := Claim7.holds Tryd.pinned (.plain (OpenSpec.ofChange fnExactHeldBySpec)) fnExactHeldByCard

/-- THE TIED CARD OF 'laws.FnExactIsIsolated'. -/
def fnExactIsIsolatedCard : Claim7 := { stood := { row := fnExactIsIsolatedRow, standIns := [], harness := (true, "563f22526590b0ad4018381bd8b8b5277added0af97d0eb835a76eb33556777c"), looks := true }, kinds := [], alts := [], laidByText := true, laidKinds := [.sentinel], laidTests := true, laidLooks := .later }
def FnExactIsIsolatedCardSaid : Prop := Claim7.holds Tryd.pinned (.plain (OpenSpec.ofChange fnExactIsIsolatedSpec)) fnExactIsIsolatedCard

/-- THE TIED CARD OF 'laws.FnExactSpaceFor'. -/
def fnExactSpaceForCard : Claim7 := { stood := { row := fnExactSpaceForRow, standIns := [], harness := (true, "563f22526590b0ad4018381bd8b8b5277added0af97d0eb835a76eb33556777c"), looks := true }, kinds := [], alts := [], laidByText := true, laidKinds := [.sentinel], laidTests := true, laidLooks := .later }
def FnExactSpaceForCardSaid : Prop := Claim7.holds Tryd.pinned (.plain (OpenSpec.ofChange fnExactSpaceForSpec)) fnExactSpaceForCard

/-- THE SECOND FORM's CARD OF 'laws.FnExactHeldBy'. -/
def fnExactHeldByUptoCard : Claim7 := { stood := { row := fnExactHeldByUptoRow, standIns := [], harness := (true, "563f22526590b0ad4018381bd8b8b5277added0af97d0eb835a76eb33556777c"), looks := true }, kinds := [], alts := [], laidByText := true, laidKinds := [.sentinel], laidTests := true, laidLooks := .later }
def FnExactHeldByUptoCardSaid : Prop := Claim7.holds Tryd.pinned (.plain (OpenSpec.upto fnExactHeldBySpec)) fnExactHeldByUptoCard

/-- THE SECOND FORM's CARD OF 'laws.FnExactIsIsolated'. -/
def fnExactIsIsolatedUptoCard : Claim7 := { stood := { row := fnExactIsIsolatedUptoRow, standIns := [], harness := (true, "563f22526590b0ad4018381bd8b8b5277added0af97d0eb835a76eb33556777c"), looks := true }, kinds := [], alts := [], laidByText := true, laidKinds := [.sentinel], laidTests := true, laidLooks := .later }
def FnExactIsIsolatedUptoCardSaid : Prop := Claim7.holds Tryd.pinned (.plain (OpenSpec.upto fnExactIsIsolatedSpec)) fnExactIsIsolatedUptoCard

/-- THE SECOND FORM's CARD OF 'laws.FnExactSpaceFor'. -/
def fnExactSpaceForUptoCard : Claim7 := { stood := { row := fnExactSpaceForUptoRow, standIns := [], harness := (true, "563f22526590b0ad4018381bd8b8b5277added0af97d0eb835a76eb33556777c"), looks := true }, kinds := [], alts := [], laidByText := true, laidKinds := [.sentinel], laidTests := true, laidLooks := .later }
def FnExactSpaceForUptoCardSaid : Prop := Claim7.holds Tryd.pinned (.plain (OpenSpec.upto fnExactSpaceForSpec)) fnExactSpaceForUptoCard
end Rows
end Go.Proofs.YtnpklnpicelcmaaDoor
