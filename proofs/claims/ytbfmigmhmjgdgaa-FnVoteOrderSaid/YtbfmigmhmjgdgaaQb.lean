/-
  How the model draws answers to deals.
-/
import Derived.Test.YtbfmigmhmjgdgaaQa
import Derived.Deep.RegionHeld3
namespace Go.Proofs.Ytbfmigmhmjgdgaa
namespace Draw
open Go.RowKit Alg Mem Con Mp
set_option linter.unusedVariables false

end Draw
end Go.Proofs.Ytbfmigmhmjgdgaa
