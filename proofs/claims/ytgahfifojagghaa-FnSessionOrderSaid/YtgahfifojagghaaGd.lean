/-
  How the model draws messages, members who may sign, and signatures.
-/
import Derived.Test.YtgahfifojagghaaWk
import Derived.Test.YtgahfifojagghaaGj
import Derived.Test.YtgahfifojagghaaSb
namespace Go.Proofs.Ytgahfifojagghaa
namespace Draw
open Go.RowKit Alg Mem Con Mp
set_option linter.unusedVariables false

end Draw
end Go.Proofs.Ytgahfifojagghaa
