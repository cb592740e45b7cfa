/-
  The walk of the law on which deals hand a share on.
-/
import Derived.Test.YtonhdkideianiaaDoorHd
namespace Go.Proofs.YtonhdkideianiaaDoor
namespace Run
open Go.RowKit Alg Mem Con Mp
set_option linter.unusedVariables false

end Run
end Go.Proofs.YtonhdkideianiaaDoor
