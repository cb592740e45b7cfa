/-
  Signatures in the exact laws: copied, compared, and as they come in.
-/
import Derived.Test.YtgahfifojagghaaGj
import Derived.Test.YtgahfifojagghaaXo
import Derived.Test.YtgahfifojagghaaSm
namespace Go.Proofs.Ytgahfifojagghaa
namespace Con
open Go.RowKit Alg Mem Draw
set_option linter.unusedVariables false
end Con
namespace Op
open Go.ChangeShapes Go.WideShapes Go.ChangeAt Go.RowKit Go.Joins Mem
end Op
end Go.Proofs.Ytgahfifojagghaa
