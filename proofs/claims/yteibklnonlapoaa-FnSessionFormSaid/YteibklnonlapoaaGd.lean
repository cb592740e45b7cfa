/-
  How the model draws messages, members who may sign, and signatures.
-/
import Derived.Test.YteibklnonlapoaaWk
import Derived.Test.YteibklnonlapoaaGj
import Derived.Test.YteibklnonlapoaaSb
namespace Go.Proofs.Yteibklnonlapoaa
namespace Draw
open Go.RowKit Alg Mem Con Mp
set_option linter.unusedVariables false

end Draw
end Go.Proofs.Yteibklnonlapoaa
