/-
  DERIVED. GIVEN WITH THE SEED: THE CARDS: each row of YtgahfifojagghaaDoorRows.lean that lists a variable, with what it lists TIED to the program's text (the seventh form; the later family's looks); each row that meets fmt, with fmt's text TOLD by the authors' own Lean function (tested against real Go, not proved from fmt's source: count such statements apart). THE CARD IS WHAT COUNTS. Prove the row's statement (the work); the ties are given (YtgahfifojagghaaDoorTie.lean); close each card by the builder's one call (the guide's Derived/Test/ToyasCard.lean, 'card_holds'). Laid BY PROGRAM, IN A SANDBOX (cutbox-door.mjs). By AI agents, Wed Nov 11 2026. No macro, syntax, notation, axiom, sorry.
-/
import Derived.Test.YtgahfifojagghaaDoorRows
import GoSem.ClaimSeven
namespace Go.Proofs.YtgahfifojagghaaDoor
namespace Rows

/-- THE TIED CARD OF 'laws.FnExactSessionSig'. -/
def fnExactSessionSigCard : Claim7 := { stood := { row := fnExactSessionSigRow, standIns := [], harness := (true, "820ef34a5f145f926cb8e4c48feb738fc689d7777579e17aad3572b40e2edac9"), looks := true }, kinds := [], alts := [], laidByText := true, laidKinds := [.sentinel], laidTests := true, laidLooks := .later }
def FnExactSessionSigCardSaid : Prop := Claim7.holds Tryd.pinned (.plain (OpenSpec.ofChange fnExactSessionSigSpec)) fnExactSessionSigCard

/-- THE SECOND FORM's CARD OF 'laws.FnExactSessionSig'. -/
def fnExactSessionSigUptoCard : Claim7 := { stood := { row := fnExactSessionSigUptoRow, standIns := [], harness := (true, "820ef34a5f145f926cb8e4c48feb738fc689d7777579e17aad3572b40e2edac9"), looks := true }, kinds := [], alts := [], laidByText := true, laidKinds := [.sentinel], laidTests := true, laidLooks := .later }
def FnExactSessionSigUptoCardSaid : Prop := Claim7.holds Tryd.pinned (.plain (OpenSpec.upto fnExactSessionSigSpec)) fnExactSessionSigUptoCard
end Rows
end Go.Proofs.YtgahfifojagghaaDoor
