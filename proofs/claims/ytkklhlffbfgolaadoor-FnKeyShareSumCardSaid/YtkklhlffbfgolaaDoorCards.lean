/-
  DERIVED. GIVEN WITH THE SEED: THE CARDS: each row of YtkklhlffbfgolaaDoorRows.lean that lists a variable, with what it lists TIED to the program's text (the seventh form; the later family's looks); each row that meets fmt, with fmt's text TOLD by the authors' own Lean function (tested against real Go, not proved from fmt's source: count such statements apart). THE CARD IS WHAT COUNTS. Prove the row's statement (the work); the ties are given (YtkklhlffbfgolaaDoorTie.lean); close each card by the builder's one call (the guide's Derived/Test/ToyasCard.lean, 'card_holds'). Laid BY PROGRAM, IN A SANDBOX (cutbox-door.mjs). By AI agents, Wed Nov 11 2026. No macro, syntax, notation, axiom, sorry.
-/
import Derived.Test.YtkklhlffbfgolaaDoorRows
import GoSem.ClaimSeven
namespace Go.Proofs.YtkklhlffbfgolaaDoor
namespace Rows

/-- THE TIED CARD OF 'laws.FnKeyShareSum'. -/
def fnKeyShareSumCard : Claim7 := { stood := { row := fnKeyShareSumRow, standIns := [], harness := (true, "11b2ffe74b38308e82f3cbfc064b26eb506f844416fce2f3c7a6fa5f95ebaed1"), looks := true }, kinds := [], alts := [], laidByText := true, laidKinds := [.sentinel], laidTests := true, laidLooks := .later }
def FnKeyShareSumCardSaid : Prop := Claim7.holds Tryd.pinned (.plain (OpenSpec.ofChange fnKeyShareSumSpec)) fnKeyShareSumCard

/-- THE SECOND FORM's CARD OF 'laws.FnKeyShareSum'. -/
def fnKeyShareSumUptoCard : Claim7 := { stood := { row := fnKeyShareSumUptoRow, standIns := [], harness := (true, "11b2ffe74b38308e82f3cbfc064b26eb506f844416fce2f3c7a6fa5f95ebaed1"), looks := true }, kinds := [], alts := [], laidByText := true, laidKinds := [.sentinel], laidTests := true, laidLooks := .later }
def FnKeyShareSumUptoCardSaid : Prop := Claim7.holds Tryd.pinned (.plain (OpenSpec.upto fnKeyShareSumSpec)) fnKeyShareSumUptoCard
end Rows
end Go.Proofs.YtkklhlffbfgolaaDoor
