/-
  DERIVED. GIVEN WITH THE SEED: THE CARDS: each row of YtbemggelljgkhaaDoorRows.lean that lists a variable, with what it lists TIED to the program's text (the seventh form; the later family's looks); each row that meets fmt, with fmt's text TOLD by the authors' own Lean function (tested against real Go, not proved from fmt's source: count such statements apart). THE CARD IS WHAT COUNTS. Prove the row's statement (the work); the ties are given (YtbemggelljgkhaaDoorTie.lean); close each card by the builder's one call (the guide's Derived/Test/ToyasCard.lean, 'card_holds'). Laid BY PROGRAM, IN A SANDBOX (cutbox-door.mjs). By AI agents, Wed Nov 11 2026. No macro, syntax, notation, axiom, sorry.
-/
import Derived.Test.YtbemggelljgkhaaDoorRows
import GoSem.ClaimSeven
namespace Go.Proofs.YtbemggelljgkhaaDoor
namespace Rows

/-- THE TIED CARD OF 'laws.FnDealBad'. -/
def fnDealBadCard : Claim7 := { stood := { row := fnDealBadRow, standIns := [], harness := (true, "77cfb3e84bc94f09ab2fabe45f74cdedc679395029b86ab1b7ade015d0e19f6a"), looks := true }, kinds := [], alts := [], laidByText := true, laidKinds := [.sentinel], laidTests := true, laidLooks := .later }
def FnDealBadCardSaid : Prop := Claim7.holds Tryd.pinned (.plain (OpenSpec.ofChange fnDealBadSpec)) fnDealBadCard

/-- THE TIED CARD OF 'laws.FnDealOnly'. -/
def fnDealOnlyCard : Claim7 := { stood := { row := fnDealOnlyRow, standIns := [], harness := (true, "77cfb3e84bc94f09ab2fabe45f74cdedc679395029b86ab1b7ade015d0e19f6a"), looks := true }, kinds := [], alts := [], laidByText := true, laidKinds := [.sentinel], laidTests := true, laidLooks := .later }
def FnDealOnlyCardSaid : Prop := Claim7.holds Tryd.pinned (.plain (OpenSpec.ofChange fnDealOnlySpec)) fnDealOnlyCard

/-- THE TIED CARD OF 'laws.FnDealForm'. -/
def fnDealFormCard : Claim7 := { stood := { row := fnDealFormRow, standIns := [], harness := (true, "77cfb3e84bc94f09ab2fabe45f74cdedc679395029b86ab1b7ade015d0e19f6a"), looks := true }, kinds := [], alts := [], laidByText := true, laidKinds := [.sentinel], laidTests := true, laidLooks := .later }
def FnDealFormCardSaid : Prop := Claim7.holds Tryd.pinned (.plain (OpenSpec.ofChange fnDealFormSpec)) fnDealFormCard

/-- THE TIED CARD OF 'laws.FnExactDealOk'. -/
def fnExactDealOkCard : Claim7 := { stood := { row := fnExactDealOkRow, standIns := [], harness := (true, "77cfb3e84bc94f09ab2fabe45f74cdedc679395029b86ab1b7ade015d0e19f6a"), looks := true }, kinds := [], alts := [], laidByText := true, laidKinds := [.sentinel], laidTests := true, laidLooks := .later }
def FnExactDealOkCardSaid : Prop := Claim7.holds Tryd.pinned (.plain (OpenSpec.ofChange fnExactDealOkSpec)) fnExactDealOkCard

/-- THE TIED CARD OF 'laws.FnExactDealBad'. -/
def fnExactDealBadCard : Claim7 := { stood := { row := fnExactDealBadRow, standIns := [], harness := (true, "77cfb3e84bc94f09ab2fabe45f74cdedc679395029b86ab1b7ade015d0e19f6a"), looks := true }, kinds := [], alts := [], laidByText := true, laidKinds := [.sentinel], laidTests := true, laidLooks := .later }
def FnExactDealBadCardSaid : Prop := Claim7.holds Tryd.pinned (.plain (OpenSpec.ofChange fnExactDealBadSpec)) fnExactDealBadCard

/-- THE SECOND FORM's CARD OF 'laws.FnDealBad'. -/
def fnDealBadUptoCard : Claim7 := { stood := { row := fnDealBadUptoRow, standIns := [], harness := (true, "77cfb3e84bc94f09ab2fabe45f74cdedc679395029b86ab1b7ade015d0e19f6a"), looks := true }, kinds := [], alts := [], laidByText := true, laidKinds := [.sentinel], laidTests := true, laidLooks := .later }
def FnDealBadUptoCardSaid : Prop := Claim7.holds Tryd.pinned (.plain (OpenSpec.upto fnDealBadSpec)) fnDealBadUptoCard

/-- THE SECOND FORM's CARD OF 'laws.FnDealOnly'. -/
def fnDealOnlyUptoCard : Claim7 := { stood := { row := fnDealOnlyUptoRow, standIns := [], harness := (true, "77cfb3e84bc94f09ab2fabe45f74cdedc679395029b86ab1b7ade015d0e19f6a"), looks := true }, kinds := [], alts := [], laidByText := true, laidKinds := [.sentinel], laidTests := true, laidLooks := .later }
def FnDealOnlyUptoCardSaid : Prop := Claim7.holds Tryd.pinned (.plain (OpenSpec.upto fnDealOnlySpec)) fnDealOnlyUptoCard

/-- THE SECOND FORM's CARD OF 'laws.FnDealForm'. -/
def fnDealFormUptoCard : Claim7 := { stood := { row := fnDealFormUptoRow, standIns := [], harness := (true, "77cfb3e84bc94f09ab2fabe45f74cdedc679395029b86ab1b7ade015d0e19f6a"), looks := true }, kinds := [], alts := [], laidByText := true, laidKinds := [.sentinel], laidTests := true, laidLooks := .later }
def FnDealFormUptoCardSaid : Prop := Claim7.holds Tryd.pinned (.plain (OpenSpec.upto fnDealFormSpec)) fnDealFormUptoCard

/-- THE SECOND FORM's CARD OF 'laws.FnExactDealOk'. -/
def fnExactDealOkUptoCard : Claim7 := { stood := { row := fnExactDealOkUptoRow, standIns := [], harness := (true, "77cfb3e84bc94f09ab2fabe45f74cdedc679395029b86ab1b7ade015d0e19f6a"), looks := true }, kinds := [], alts := [], laidByText := true, laidKinds := [.sentinel], laidTests := true, laidLooks := .later }
def FnExactDealOkUptoCardSaid : Prop := Claim7.holds Tryd.pinned (.plain (OpenSpec.upto fnExactDealOkSpec)) fnExactDealOkUptoCard

/-- THE SECOND FORM's CARD OF 'laws.FnExactDealBad'. -/
def fnExactDealBadUptoCard : Claim7 := { stood := { row := fnExactDealBadUptoRow, standIns := [], harness := (true, "77cfb3e84bc94f09ab2fabe45f74cdedc679395029b86ab1b7ade015d0e19f6a"), looks := true }, kinds := [], alts := [], laidByText := true, laidKinds := [.sentinel], laidTests := true, laidLooks := .later }
def FnExactDealBadUptoCardSaid : Prop := Claim7.holds Tryd.pinned (.plain (OpenSpec.upto fnExactDealBadSpec)) fnExactDealBadUptoCard
end Rows
end Go.Proofs.YtbemggelljgkhaaDoor
