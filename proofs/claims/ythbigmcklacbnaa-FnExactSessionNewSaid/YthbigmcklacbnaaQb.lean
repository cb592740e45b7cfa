/-
  How the model draws answers to deals.
-/
import Derived.Test.YthbigmcklacbnaaQa
import Derived.Deep.RegionHeld3
namespace Go.Proofs.Ythbigmcklacbnaa
namespace Draw
open Go.RowKit Alg Mem Con Mp
set_option linter.unusedVariables false

end Draw
end Go.Proofs.Ythbigmcklacbnaa
