/-
  DERIVED. GIVEN WITH THE SEED: THE CARDS: each row of YtlaimokedhdnjaaGreatDoorRows.lean that lists a variable, with what it lists TIED to the program's text (the seventh form; the later family's looks); each row that meets fmt, with fmt's text TOLD by the authors' own Lean function (tested against real Go, not proved from fmt's source: count such statements apart). THE CARD IS WHAT COUNTS. Prove the row's statement (the work); the ties are given (YtlaimokedhdnjaaGreatDoorTie.lean); close each card by the builder's one call (the guide's Derived/Test/ToyasCard.lean, 'card_holds'). Laid BY PROGRAM, IN A SANDBOX (cutbox-door.mjs). By AI agents, Wed Nov 11 2026. No macro, syntax, notation, axiom, sorry.
-/
import Derived.Test.YtlaimokedhdnjaaGreatDoorRows
import GoSem.ClaimSeven
namespace Go.Proofs.YtlaimokedhdnjaaGreatDoor
namespace Rows

/-- THE TIED CARD OF 'laws.FnExactFreshShare'. -/
def fnExactFreshShareCard : Claim7 := { stood := { row := fnExactFreshShareRow, standIns := [], harness := (true, "740e39dc67ad3f66a2731815cfe07ce6dca1ed63bbdcb12b0654161c7b127dad"), looks := true }, kinds := [], alts := [], goes := true, laidByText := true, laidKinds := [.sentinel], laidTests := true, laidLooks := .later }
def FnExactFreshShareCardSaid : Prop := Claim7.holds Tryz.pinned (.plain (OpenSpec.ofChange fnExactFreshShareSpec)) fnExactFreshShareCard

/-- THE SECOND FORM's CARD OF 'laws.FnExactFreshShare'. -/
def fnExactFreshShareUptoCard : Claim7 := { stood := { row := fnExactFreshShareUptoRow, standIns := [], harness := (true, "740e39dc67ad3f66a2731815cfe07ce6dca1ed63bbdcb12b0654161c7b127dad"), looks := true }, kinds := [], alts := [], goes := true, laidByText := true, laidKinds := [.sentinel], laidTests := true, laidLooks := .later }
def FnExactFreshShareUptoCardSaid : Prop := Claim7.holds Tryz.pinned (.plain (OpenSpec.upto fnExactFreshShareSpec)) fnExactFreshShareUptoCard
end Rows
end Go.Proofs.YtlaimokedhdnjaaGreatDoor
