/-
  DERIVED. GIVEN WITH THE SEED: THE CARDS: each row of YtlaimokedhdnjaaDoorRows.lean that lists a variable, with what it lists TIED to the program's text (the seventh form; the later family's looks); each row that meets fmt, with fmt's text TOLD by the authors' own Lean function (tested against real Go, not proved from fmt's source: count such statements apart). THE CARD IS WHAT COUNTS. Prove the row's statement (the work); the ties are given (YtlaimokedhdnjaaDoorTie.lean); close each card by the builder's one call (the guide's Derived/Test/ToyasCard.lean, 'card_holds'). Laid BY PROGRAM, IN A SANDBOX (cutbox-door.mjs). By AI agents, Wed Nov 11 2026. No macro, syntax, notation, axiom, sorry.
-/
import Derived.Test.YtlaimokedhdnjaaDoorRows
import GoSem.ClaimSeven
namespace Go.Proofs.YtlaimokedhdnjaaDoor
namespace Rows

/-- THE TIED CARD OF 'laws.FnFreshOk'. -/
def fnFreshOkCard : Claim7 := { stood := { row := fnFreshOkRow, standIns := [], harness := (true, "c67b07a3b3a65f677d9ee72fe2ca574e584ba248b830e9bda55a7f527526b0ae"), looks := true }, kinds := [], alts := [], laidByText := true, laidKinds := [.sentinel], laidTests := true, laidLooks := .later }
def FnFreshOkCardSaid : Prop := Claim7.holds Tryd.pinned (.plain (OpenSpec.ofChange fnFreshOkSpec)) fnFreshOkCard

/-- THE TIED CARD OF 'laws.FnExactFreshOk'. -/
def fnExactFreshOkCard : Claim7 := { stood := { row := fnExactFreshOkRow, standIns := [], harness := (true, "c67b07a3b3a65f677d9ee72fe2ca574e584ba248b830e9bda55a7f527526b0ae"), looks := true }, kinds := [], alts := [], laidByText := true, laidKinds := [.sentinel], laidTests := true, laidLooks := .later }
def FnExactFreshOkCardSaid : Prop := Claim7.holds Tryd.pinned (.plain (OpenSpec.ofChange fnExactFreshOkSpec)) fnExactFreshOkCard

/-- THE SECOND FORM's CARD OF 'laws.FnFreshOk'. -/
def fnFreshOkUptoCard : Claim7 := { stood := { row := fnFreshOkUptoRow, standIns := [], harness := (true, "c67b07a3b3a65f677d9ee72fe2ca574e584ba248b830e9bda55a7f527526b0ae"), looks := true }, kinds := [], alts := [], laidByText := true, laidKinds := [.sentinel], laidTests := true, laidLooks := .later }
def FnFreshOkUptoCardSaid : Prop := Claim7.holds Tryd.pinned (.plain (OpenSpec.upto fnFreshOkSpec)) fnFreshOkUptoCard

/-- THE SECOND FORM's CARD OF 'laws.FnExactFreshOk'. -/
def fnExactFreshOkUptoCard : Claim7 := { stood := { row := fnExactFreshOkUptoRow, standIns := [], harness := (true, "c67b07a3b3a65f677d9ee72fe2ca574e584ba248b830e9bda55a7f527526b0ae"), looks := true }, kinds := [], alts := [], laidByText := true, laidKinds := [.sentinel], laidTests := true, laidLooks := .later }
def FnExactFreshOkUptoCardSaid : Prop := Claim7.holds Tryd.pinned (.plain (OpenSpec.upto fnExactFreshOkSpec)) fnExactFreshOkUptoCard
end Rows
end Go.Proofs.YtlaimokedhdnjaaDoor
