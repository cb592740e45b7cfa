/-
  Sizes that come in, told in one way: either the law has nothing to say, or all is short.
-/
import Derived.Test.YthbigmcklacbnaaGreatDoorKc
import Derived.Test.YthbigmcklacbnaaGreatDoorDo
namespace Go.Proofs.YthbigmcklacbnaaGreatDoor
namespace Con
open Go.RowKit Alg Mem
set_option linter.unusedVariables false

end Con
namespace Op
open Go.ChangeShapes Go.WideShapes Go.ChangeAt Go.RowKit Go.Joins Mem
end Op
end Go.Proofs.YthbigmcklacbnaaGreatDoor
