/-
  The walk of the exact law on which deals hand a share on.
-/
import Derived.Test.YtonhdkideianiaaDoorWk
import Derived.Test.YtonhdkideianiaaDoorXo
import Derived.Test.YtonhdkideianiaaDoorHo
import Derived.Deep.RegionHeld3
namespace Go.Proofs.YtonhdkideianiaaDoor
namespace Run
open Go.RowKit Alg Mem Con Mp
set_option linter.unusedVariables false

end Run
end Go.Proofs.YtonhdkideianiaaDoor
