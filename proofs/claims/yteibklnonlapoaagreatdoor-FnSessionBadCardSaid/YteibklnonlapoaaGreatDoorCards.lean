/-
  DERIVED. GIVEN WITH THE SEED: THE CARDS: each row of YteibklnonlapoaaGreatDoorRows.lean that lists a variable, with what it lists TIED to the program's text (the seventh form; the later family's looks); each row that meets fmt, with fmt's text TOLD by the authors' own Lean function (tested against real Go, not proved from fmt's source: count such statements apart). THE CARD IS WHAT COUNTS. Prove the row's statement (the work); the ties are given (YteibklnonlapoaaGreatDoorTie.lean); close each card by the builder's one call (the guide's Derived/Test/ToyasCard.lean, 'card_holds'). Laid BY PROGRAM, IN A SANDBOX (cutbox-door.mjs). By AI agents, Wed Nov 11 2026. No macro, syntax, notation, axiom, sorry.
-/
import Derived.Test.YteibklnonlapoaaGreatDoorRows
import GoSem.ClaimSeven
namespace Go.Proofs.YteibklnonlapoaaGreatDoor
namespace Rows

/-- THE TIED CARD OF 'laws.FnSessionNew'. -/
def fnSessionNewCard : Claim7 := { stood := { row := fnSessionNewRow, standIns := [], harness := (true, "1fd3325074de5a4874fa3137c380f6f4b12638ce4a9c9f41fc0c9726ce9a400c"), looks := true }, kinds := [], alts := [], laidByText := true, laidKinds := [.handle, .sentinel], laidTests := true, laidLooks := .later }
def FnSessionNewCardSaid : Prop := Claim7.holds Tryz.pinned (.plain (OpenSpec.ofChange fnSessionNewSpec)) fnSessionNewCard

/-- THE TIED CARD OF 'laws.FnSessionBad'. -/
def fnSessionBadCard : Claim7 := { stood := { row := fnSessionBadRow, standIns := [], harness := (true, "1fd3325074de5a4874fa3137c380f6f4b12638ce4a9c9f41fc0c9726ce9a400c"), looks := true }, kinds := [], alts := [], laidByText := true, laidKinds := [.handle, .sentinel], laidTests := true, laidLooks := .later }
def FnSessionBadCardSaid : Prop := Claim7.holds Tryz.pinned (.plain (OpenSpec.ofChange fnSessionBadSpec)) fnSessionBadCard

/-- THE TIED CARD OF 'laws.FnSessionSig'. -/
def fnSessionSigCard : Claim7 := { stood := { row := fnSessionSigRow, standIns := [], harness := (true, "1fd3325074de5a4874fa3137c380f6f4b12638ce4a9c9f41fc0c9726ce9a400c"), looks := true }, kinds := [], alts := [], laidByText := true, laidKinds := [.handle, .sentinel], laidTests := true, laidLooks := .later }
def FnSessionSigCardSaid : Prop := Claim7.holds Tryz.pinned (.plain (OpenSpec.ofChange fnSessionSigSpec)) fnSessionSigCard

/-- THE TIED CARD OF 'laws.FnSessionOne'. -/
def fnSessionOneCard : Claim7 := { stood := { row := fnSessionOneRow, standIns := [], harness := (true, "1fd3325074de5a4874fa3137c380f6f4b12638ce4a9c9f41fc0c9726ce9a400c"), looks := true }, kinds := [], alts := [], laidByText := true, laidKinds := [.handle, .sentinel], laidTests := true, laidLooks := .later }
def FnSessionOneCardSaid : Prop := Claim7.holds Tryz.pinned (.plain (OpenSpec.ofChange fnSessionOneSpec)) fnSessionOneCard

/-- THE TIED CARD OF 'laws.FnSessionMend'. -/
def fnSessionMendCard : Claim7 := { stood := { row := fnSessionMendRow, standIns := [], harness := (true, "1fd3325074de5a4874fa3137c380f6f4b12638ce4a9c9f41fc0c9726ce9a400c"), looks := true }, kinds := [], alts := [], laidByText := true, laidKinds := [.handle, .sentinel], laidTests := true, laidLooks := .later }
def FnSessionMendCardSaid : Prop := Claim7.holds Tryz.pinned (.plain (OpenSpec.ofChange fnSessionMendSpec)) fnSessionMendCard

/-- THE SECOND FORM's CARD OF 'laws.FnSessionNew'. -/
def fnSessionNewUptoCard : Claim7 := { stood := { row := fnSessionNewUptoRow, standIns := [], harness := (true, "1fd3325074de5a4874fa3137c380f6f4b12638ce4a9c9f41fc0c9726ce9a400c"), looks := true }, kinds := [], alts := [], laidByText := true, laidKinds := [.handle, .sentinel], laidTests := true, laidLooks := .later }
def FnSessionNewUptoCardSaid : Prop := Claim7.holds Tryz.pinned (.plain (OpenSpec.upto fnSessionNewSpec)) fnSessionNewUptoCard

/-- THE SECOND FORM's CARD OF 'laws.FnSessionBad'. -/
def fnSessionBadUptoCard : Claim7 := { stood := { row := fnSessionBadUptoRow, standIns := [], harness := (true, "1fd3325074de5a4874fa3137c380f6f4b12638ce4a9c9f41fc0c9726ce9a400c"), looks := true }, kinds := [], alts := [], laidByText := true, laidKinds := [.handle, .sentinel], laidTests := true, laidLooks := .later }
def FnSessionBadUptoCardSaid : Prop := Claim7.holds Tryz.pinned (.plain (OpenSpec.upto fnSessionBadSpec)) fnSessionBadUptoCard

/-- THE SECOND FORM's CARD OF 'laws.FnSessionSig'. -/
def fnSessionSigUptoCard : Claim7 := { stood := { row := fnSessionSigUptoRow, standIns := [], harness := (true, "1fd3325074de5a4874fa3137c380f6f4b12638ce4a9c9f41fc0c9726ce9a400c"), looks := true }, kinds := [], alts := [], laidByText := true, laidKinds := [.handle, .sentinel], laidTests := true, laidLooks := .later }
def FnSessionSigUptoCardSaid : Prop := Claim7.holds Tryz.pinned (.plain (OpenSpec.upto fnSessionSigSpec)) fnSessionSigUptoCard

/-- THE SECOND FORM's CARD OF 'laws.FnSessionOne'. -/
def fnSessionOneUptoCard : Claim7 := { stood := { row := fnSessionOneUptoRow, standIns := [], harness := (true, "1fd3325074de5a4874fa3137c380f6f4b12638ce4a9c9f41fc0c9726ce9a400c"), looks := true }, kinds := [], alts := [], laidByText := true, laidKinds := [.handle, .sentinel], laidTests := true, laidLooks := .later }
def FnSessionOneUptoCardSaid : Prop := Claim7.holds Tryz.pinned (.plain (OpenSpec.upto fnSessionOneSpec)) fnSessionOneUptoCard

/-- THE SECOND FORM's CARD OF 'laws.FnSessionMend'. -/
def fnSessionMendUptoCard : Claim7 := { stood := { row := fnSessionMendUptoRow, standIns := [], harness := (true, "1fd3325074de5a4874fa3137c380f6f4b12638ce4a9c9f41fc0c9726ce9a400c"), looks := true }, kinds := [], alts := [], laidByText := true, laidKinds := [.handle, .sentinel], laidTests := true, laidLooks := .later }
def FnSessionMendUptoCardSaid : Prop := Claim7.holds Tryz.pinned (.plain (OpenSpec.upto fnSessionMendSpec)) fnSessionMendUptoCard
end Rows
end Go.Proofs.YteibklnonlapoaaGreatDoor
