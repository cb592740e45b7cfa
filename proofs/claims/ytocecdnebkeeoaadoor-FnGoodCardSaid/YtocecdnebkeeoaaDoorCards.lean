/-
  DERIVED. GIVEN WITH THE SEED: THE CARDS: each row of YtocecdnebkeeoaaDoorRows.lean that lists a variable, with what it lists TIED to the program's text (the seventh form; the later family's looks); each row that meets fmt, with fmt's text TOLD by the authors' own Lean function (tested against real Go, not proved from fmt's source: count such statements apart). THE CARD IS WHAT COUNTS. Prove the row's statement (the work); the ties are given (YtocecdnebkeeoaaDoorTie.lean); close each card by the builder's one call (the guide's Derived/Test/ToyasCard.lean, 'card_holds'). Laid BY PROGRAM, IN A SANDBOX (cutbox-door.mjs). By AI agents, Wed Nov 11 2026. No macro, syntax, notation, axiom, sorry.
-/
import Derived.Test.YtocecdnebkeeoaaDoorRows
import GoSem.ClaimSeven
namespace Go.Proofs.YtocecdnebkeeoaaDoor
namespace Rows

/-- THE TIED CARD OF 'laws.FnGood'. -/
def fnGoodCard : Claim7 := { stood := { row := fnGoodRow, standIns := [], harness := (true, "2123a02d8441b48f81cdcdac9f4c113fa050bb030e6a0467f62eae2cd6cb5b1b"), looks := true }, kinds := [], alts := [], laidByText := true, laidKinds := [.sentinel], laidTests := true, laidLooks := .later }
def FnGoodCardSaid : Prop := Claim7.holds Tryd.pinned (.plain (OpenSpec.ofChange fnGoodSpec)) fnGoodCard

/-- THE TIED CARD OF 'laws.FnGoodLie'. -/
def fnGoodLieCard : Claim7 := { stood := { row := fnGoodLieRow, standIns := [], harness := (true, "2123a02d8441b48f81cdcdac9f4c113fa050bb030e6a0467f62eae2cd6cb5b1b"), looks := true }, kinds := [], alts := [], laidByText := true, laidKinds := [.sentinel], laidTests := true, laidLooks := .later }
def FnGoodLieCardSaid : Prop := Claim7.holds Tryd.pinned (.plain (OpenSpec.ofChange fnGoodLieSpec)) fnGoodLieCard

/-- THE TIED CARD OF 'laws.FnKeyShareSum'. -/
def fnKeyShareSumCard : Claim7 := { stood := { row := fnKeyShareSumRow, standIns := [], harness := (true, "2123a02d8441b48f81cdcdac9f4c113fa050bb030e6a0467f62eae2cd6cb5b1b"), looks := true }, kinds := [], alts := [], laidByText := true, laidKinds := [.sentinel], laidTests := true, laidLooks := .later }
def FnKeyShareSumCardSaid : Prop := Claim7.holds Tryd.pinned (.plain (OpenSpec.ofChange fnKeyShareSumSpec)) fnKeyShareSumCard

/-- THE TIED CARD OF 'laws.FnExactKeyGood'. -/
def fnExactKeyGoodCard : Claim7 := { stood := { row := fnExactKeyGoodRow, standIns := [], harness := (true, "2123a02d8441b48f81cdcdac9f4c113fa050bb030e6a0467f62eae2cd6cb5b1b"), looks := true }, kinds := [], alts := [], laidByText := true, laidKinds := [.sentinel], laidTests := true, laidLooks := .later }
def FnExactKeyGoodCardSaid : Prop := Claim7.holds Tryd.pinned (.plain (OpenSpec.ofChange fnExactKeyGoodSpec)) fnExactKeyGoodCard

/-- THE TIED CARD OF 'laws.FnExactKeyShare'. -/
def fnExactKeyShareCard : Claim7 := { stood := { row := fnExactKeyShareRow, standIns := [], harness := (true, "2123a02d8441b48f81cdcdac9f4c113fa050bb030e6a0467f62eae2cd6cb5b1b"), looks := true }, kinds := [], alts := [], laidByText := true, laidKinds := [.sentinel], laidTests := true, laidLooks := .later }
def FnExactKeyShareCardSaid : Prop := Claim7.holds Tryd.pinned (.plain (OpenSpec.ofChange fnExactKeyShareSpec)) fnExactKeyShareCard

/-- THE SECOND FORM's CARD OF 'laws.FnGood'. -/
def fnGoodUptoCard : Claim7 := { stood := { row := fnGoodUptoRow, standIns := [], harness := (true, "2123a02d8441b48f81cdcdac9f4c113fa050bb030e6a0467f62eae2cd6cb5b1b"), looks := true }, kinds := [], alts := [], laidByText := true, laidKinds := [.sentinel], laidTests := true, laidLooks := .later }
def FnGoodUptoCardSaid : Prop := Claim7.holds Tryd.pinned (.plain (OpenSpec.upto fnGoodSpec)) fnGoodUptoCard

/-- THE SECOND FORM's CARD OF 'laws.FnGoodLie'. -/
def fnGoodLieUptoCard : Claim7 := { stood := { row := fnGoodLieUptoRow, standIns := [], harness := (true, "2123a02d8441b48f81cdcdac9f4c113fa050bb030e6a0467f62eae2cd6cb5b1b"), looks := true }, kinds := [], alts := [], laidByText := true, laidKinds := [.sentinel], laidTests := true, laidLooks := .later }
def FnGoodLieUptoCardSaid : Prop := Claim7.holds Tryd.pinned (.plain (OpenSpec.upto fnGoodLieSpec)) fnGoodLieUptoCard

/-- THE SECOND FORM's CARD OF 'laws.FnKeyShareSum'. -/
def fnKeyShareSumUptoCard : Claim7 := { stood := { row := fnKeyShareSumUptoRow, standIns := [], harness := (true, "2123a02d8441b48f81cdcdac9f4c113fa050bb030e6a0467f62eae2cd6cb5b1b"), looks := true }, kinds := [], alts := [], laidByText := true, laidKinds := [.sentinel], laidTests := true, laidLooks := .later }
def FnKeyShareSumUptoCardSaid : Prop := Claim7.holds Tryd.pinned (.plain (OpenSpec.upto fnKeyShareSumSpec)) fnKeyShareSumUptoCard

/-- THE SECOND FORM's CARD OF 'laws.FnExactKeyGood'. -/
def fnExactKeyGoodUptoCard : Claim7 := { stood := { row := fnExactKeyGoodUptoRow, standIns := [], harness := (true, "2123a02d8441b48f81cdcdac9f4c113fa050bb030e6a0467f62eae2cd6cb5b1b"), looks := true }, kinds := [], alts := [], laidByText := true, laidKinds := [.sentinel], laidTests := true, laidLooks := .later }
def FnExactKeyGoodUptoCardSaid : Prop := Claim7.holds Tryd.pinned (.plain (OpenSpec.upto fnExactKeyGoodSpec)) fnExactKeyGoodUptoCard

/-- THE SECOND FORM's CARD OF 'laws.FnExactKeyShare'. -/
def fnExactKeyShareUptoCard : Claim7 := { stood := { row := fnExactKeyShareUptoRow, standIns := [], harness := (true, "2123a02d8441b48f81cdcdac9f4c113fa050bb030e6a0467f62eae2cd6cb5b1b"), looks := true }, kinds := [], alts := [], laidByText := true, laidKinds := [.sentinel], laidTests := true, laidLooks := .later }
def FnExactKeyShareUptoCardSaid : Prop := Claim7.holds Tryd.pinned (.plain (OpenSpec.upto fnExactKeyShareSpec)) fnExactKeyShareUptoCard
end Rows
end Go.Proofs.YtocecdnebkeeoaaDoor
