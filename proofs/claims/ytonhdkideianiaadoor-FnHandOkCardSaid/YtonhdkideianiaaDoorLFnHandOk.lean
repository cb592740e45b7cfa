/-
  The law FnHandOk of the document's chapter 22, for every code: a drawn deal hands a share of a drawn key on just if it is well formed for the drawn committee, by a member, of the share that the key shows, and nobody can complain. The law's function returns true and leaves its argument as it was. Condition: the program's error value is what its text lays (tied by the card).
-/
import Derived.Test.YtonhdkideianiaaDoorRows
import Derived.Test.YtonhdkideianiaaDoorCl
import Derived.Test.YtonhdkideianiaaDoorTie
import Derived.Test.YtonhdkideianiaaDoorCards
import Derived.Test.YtonhdkideianiaaDoorDv
import Derived.SevenTiedAt
import Derived.Test.YtonhdkideianiaaDoorRunHo
import Derived.WalkKit
import Derived.ProofKit
import Derived.OpenShut
import Derived.ShutString
import Derived.ChangeOld
import Derived.Below
namespace Go.Proofs.YtonhdkideianiaaDoor.fnHandOk
open Go.ChangeShapes Go.WideShapes Go.ChangeAt Go.RowKit
open Go.ChangeMaps (open_string shut_string)
set_option linter.unusedVariables false

theorem own : ownKnob Tryd.prog.godebug = none := by kernel_rfl
theorem laidOut : laidOutB Tryd.prog = true := by kernel_rfl

/-- A slice of integers that came in. -/
def IsRow (k : IntKind) (w : World) (a : Option Addr) (len cap : Nat) (zs : List Int) : Prop :=
  (a = none ∧ len = 0 ∧ cap = 0 ∧ zs = []) ∨
  ∃ x, a = some x ∧ len ≤ cap ∧ cap ≤ maxLen ∧ zs.length = cap ∧ (∀ i, i < zs.length → w.cell? (x.add i) = some (.int k (zs.getD i 0))) ∧ ∀ n ∈ zs, (Lit.int k n).wf = true

end Go.Proofs.YtonhdkideianiaaDoor.fnHandOk
