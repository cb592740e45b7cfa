/-
  The law FnExactHandOk of the document's chapter 22, for every key, every deal and every two integers: the program's HandOk answers what the model's HandOk answers, and writes into no argument. Condition: the program's error value is what its text lays (tied by the card).
-/
import Derived.Test.YtonhdkideianiaaDoorRows
import Derived.Test.YtonhdkideianiaaDoorCl
import Derived.Test.YtonhdkideianiaaDoorTie
import Derived.Test.YtonhdkideianiaaDoorCards
import Derived.Test.YtonhdkideianiaaDoorDv
import Derived.SevenTiedAt
import Derived.Test.YtonhdkideianiaaDoorRunHe
import Derived.WalkKit
import Derived.ProofKit
import Derived.OpenShut
import Derived.ShutString
import Derived.ChangeOld
import Derived.Below
namespace Go.Proofs.YtonhdkideianiaaDoor.fnExactHandOk
open Go.ChangeShapes Go.WideShapes Go.ChangeAt Go.RowKit
open Go.ChangeMaps (open_string shut_string)
set_option linter.unusedVariables false

theorem own : ownKnob Tryd.prog.godebug = none := by kernel_rfl
theorem laidOut : laidOutB Tryd.prog = true := by kernel_rfl

end Go.Proofs.YtonhdkideianiaaDoor.fnExactHandOk
