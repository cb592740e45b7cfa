/-
  DERIVED. GIVEN WITH THE SEED: THE CARDS: each row of YtonhdkideianiaaGreatDoorRows.lean that lists a variable, with what it lists TIED to the program's text (the seventh form; the later family's looks); each row that meets fmt, with fmt's text TOLD by the authors' own Lean function (tested against real Go, not proved from fmt's source: count such statements apart). THE CARD IS WHAT COUNTS. Prove the row's statement (the work); the ties are given (YtonhdkideianiaaGreatDoorTie.lean); close each card by the builder's one call (the guide's Derived/Test/ToyasCard.lean, 'card_holds'). Laid BY PROGRAM, IN A SANDBOX (cutbox-door.mjs). By AI agents, Wed Nov 11 2026. No macro, syntax, notation, axiom, sorry.
-/
import Derived.Test.YtonhdkideianiaaGreatDoorRows
import GoSem.ClaimSeven
namespace Go.Proofs.YtonhdkideianiaaGreatDoor
namespace Rows

/-- THE TIED CARD OF 'laws.FnHandShare'. -/
def fnHandShareCard : Claim7 := { stood := { row := fnHandShareRow, standIns := [], harness := (true, "29b714bb1e3414891632032de2356316c6e840216c37bd86e308321aed45ab5b"), looks := true }, kinds := [], alts := [], laidByText := true, laidKinds := [.sentinel], laidTests := true, laidLooks := .later }
def FnHandShareCardSaid : Prop := Claim7.holds Tryz.pinned (.plain (OpenSpec.ofChange fnHandShareSpec)) fnHandShareCard

/-- THE SECOND FORM's CARD OF 'laws.FnHandShare'. -/
def fnHandShareUptoCard : Claim7 := { stood := { row := fnHandShareUptoRow, standIns := [], harness := (true, "29b714bb1e3414891632032de2356316c6e840216c37bd86e308321aed45ab5b"), looks := true }, kinds := [], alts := [], laidByText := true, laidKinds := [.sentinel], laidTests := true, laidLooks := .later }
def FnHandShareUptoCardSaid : Prop := Claim7.holds Tryz.pinned (.plain (OpenSpec.upto fnHandShareSpec)) fnHandShareUptoCard
end Rows
end Go.Proofs.YtonhdkideianiaaGreatDoor
