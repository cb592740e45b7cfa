/-
  DERIVED. GIVEN WITH THE SEED: THE CARDS: each row of YtonhdkideianiaaDoorRows.lean that lists a variable, with what it lists TIED to the program's text (the seventh form; the later family's looks); each row that meets fmt, with fmt's text TOLD by the authors' own Lean function (tested against real Go, not proved from fmt's source: count such statements apart). THE CARD IS WHAT COUNTS. Prove the row's statement (the work); the ties are given (YtonhdkideianiaaDoorTie.lean); close each card by the builder's one call (the guide's Derived/Test/ToyasCard.lean, 'card_holds'). Laid BY PROGRAM, IN A SANDBOX (cutbox-door.mjs). By AI agents, Wed Nov 11 2026. No macro, syntax, notation, axiom, sorry.
-/
import Derived.Test.YtonhdkideianiaaDoorRows
import GoSem.ClaimSeven
namespace Go.Proofs.YtonhdkideianiaaDoor
namespace Rows

/-- THE TIED CARD OF 'laws.FnHandOk'. -/
def fnHandOkCard : Claim7 := { stood := { row := fnHandOkRow, standIns := [], harness := (true, "fd406f71ae73c1a141a6434376f1662c51e357dc469f21de933445e628416749"), looks := true }, kinds := [], alts := [], laidByText := true, laidKinds := [.sentinel], laidTests := true, laidLooks := .later }
def FnHandOkCardSaid : Prop := Claim7.holds Tryd.pinned (.plain (OpenSpec.ofChange fnHandOkSpec)) fnHandOkCard

/-- THE TIED CARD OF 'laws.FnExactHandOk'. -/
def fnExactHandOkCard : Claim7 := { stood := { row := fnExactHandOkRow, standIns := [], harness := (true, "fd406f71ae73c1a141a6434376f1662c51e357dc469f21de933445e628416749"), looks := true }, kinds := [], alts := [], laidByText := true, laidKinds := [.sentinel], laidTests := true, laidLooks := .later }
def FnExactHandOkCardSaid : Prop := Claim7.holds Tryd.pinned (.plain (OpenSpec.ofChange fnExactHandOkSpec)) fnExactHandOkCard

/-- THE TIED CARD OF 'laws.FnExactHandShare'. -/
def fnExactHandShareCard : Claim7 := { stood := { row := fnExactHandShareRow, standIns := [], harness := (true, "fd406f71ae73c1a141a6434376f1662c51e357dc469f21de933445e628416749"), looks := true }, kinds := [], alts := [], laidByText := true, laidKinds := [.sentinel], laidTests := true, laidLooks := .later }
def FnExactHandShareCardSaid : Prop := Claim7.holds Tryd.pinned (.plain (OpenSpec.ofChange fnExactHandShareSpec)) fnExactHandShareCard

/-- THE SECOND FORM's CARD OF 'laws.FnHandOk'. -/
def fnHandOkUptoCard : Claim7 := { stood := { row := fnHandOkUptoRow, standIns := [], harness := (true, "fd406f71ae73c1a141a6434376f1662c51e357dc469f21de933445e628416749"), looks := true }, kinds := [], alts := [], laidByText := true, laidKinds := [.sentinel], laidTests := true, laidLooks := .later }
def FnHandOkUptoCardSaid : Prop := Claim7.holds Tryd.pinned (.plain (OpenSpec.upto fnHandOkSpec)) fnHandOkUptoCard

/-- THE SECOND FORM's CARD OF 'laws.FnExactHandOk'. -/
def fnExactHandOkUptoCard : Claim7 := { stood := { row := fnExactHandOkUptoRow, standIns := [], harness := (true, "fd406f71ae73c1a141a6434376f1662c51e357dc469f21de933445e628416749"), looks := true }, kinds := [], alts := [], laidByText := true, laidKinds := [.sentinel], laidTests := true, laidLooks := .later }
def FnExactHandOkUptoCardSaid : Prop := Claim7.holds Tryd.pinned (.plain (OpenSpec.upto fnExactHandOkSpec)) fnExactHandOkUptoCard

/-- THE SECOND FORM's CARD OF 'laws.FnExactHandShare'. -/
def fnExactHandShareUptoCard : Claim7 := { stood := { row := fnExactHandShareUptoRow, standIns := [], harness := (true, "fd406f71ae73c1a141a6434376f1662c51e357dc469f21de933445e628416749"), looks := true }, kinds := [], alts := [], laidByText := true, laidKinds := [.sentinel], laidTests := true, laidLooks := .later }
def FnExactHandShareUptoCardSaid : Prop := Claim7.holds Tryd.pinned (.plain (OpenSpec.upto fnExactHandShareSpec)) fnExactHandShareUptoCard
end Rows
end Go.Proofs.YtonhdkideianiaaDoor
