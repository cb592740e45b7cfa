/-
  DERIVED. GIVEN WITH THE SEED: THE CARDS: each row of YthbigmcklacbnaaGreatDoorRows.lean that lists a variable, with what it lists TIED to the program's text (the seventh form; the later family's looks); each row that meets fmt, with fmt's text TOLD by the authors' own Lean function (tested against real Go, not proved from fmt's source: count such statements apart). THE CARD IS WHAT COUNTS. Prove the row's statement (the work); the ties are given (YthbigmcklacbnaaGreatDoorTie.lean); close each card by the builder's one call (the guide's Derived/Test/ToyasCard.lean, 'card_holds'). Laid BY PROGRAM, IN A SANDBOX (cutbox-door.mjs). By AI agents, Wed Nov 11 2026. No macro, syntax, notation, axiom, sorry.
-/
import Derived.Test.YthbigmcklacbnaaGreatDoorRows
import GoSem.ClaimSeven
namespace Go.Proofs.YthbigmcklacbnaaGreatDoor
namespace Rows

/-- THE TIED CARD OF 'laws.FnSessionNew'. -/
def fnSessionNewCard : Claim7 := { stood := { row := fnSessionNewRow, standIns := [], harness := (true, "69cb89ce19a761f7f1f91606a4b82eedad04908c0db2ba6fc7c00477f75a73ec"), looks := true }, kinds := [], alts := [], laidByText := true, laidKinds := [.handle, .sentinel], laidTests := true, laidLooks := .later }
def FnSessionNewCardSaid : Prop := Claim7.holds Tryz.pinned (.plain (OpenSpec.ofChange fnSessionNewSpec)) fnSessionNewCard

/-- THE SECOND FORM's CARD OF 'laws.FnSessionNew'. -/
def fnSessionNewUptoCard : Claim7 := { stood := { row := fnSessionNewUptoRow, standIns := [], harness := (true, "69cb89ce19a761f7f1f91606a4b82eedad04908c0db2ba6fc7c00477f75a73ec"), looks := true }, kinds := [], alts := [], laidByText := true, laidKinds := [.handle, .sentinel], laidTests := true, laidLooks := .later }
def FnSessionNewUptoCardSaid : Prop := Claim7.holds Tryz.pinned (.plain (OpenSpec.upto fnSessionNewSpec)) fnSessionNewUptoCard
end Rows
end Go.Proofs.YthbigmcklacbnaaGreatDoor
