/-
  errors.Is by its contracts, where the target is the program's own error value: the value itself is found, no error is not.
-/
import Derived.Test.YtkklhlffbfgolaaMem
import Derived.Test.YtkklhlffbfgolaaChecked
import Derived.WalkKit
import Derived.LaidEql
import Derived.Stop.Asserts
import Derived.RowKitTokens
namespace Go.Proofs.Ytkklhlffbfgolaa
namespace Con
open Go.RowKit Go.Extern.Stop Go.Stop Go.Extern Mem
set_option linter.unusedVariables false

end Con
end Go.Proofs.Ytkklhlffbfgolaa
