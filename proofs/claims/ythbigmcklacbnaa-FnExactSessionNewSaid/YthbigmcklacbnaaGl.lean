/-
  Signatures: the program's functions on a part, of one of a group.
-/
import Derived.Test.YthbigmcklacbnaaGk
import Derived.Test.YthbigmcklacbnaaGj
import Derived.Handy
namespace Go.Proofs.Ythbigmcklacbnaa
namespace Con
open Go.RowKit Alg Mem Draw
set_option linter.unusedVariables false

/-- One of a group, as a signer. -/
def gpV (need many : Int) (ag : Option Addr) (ng cg : Nat) (ac : Option Addr) (nc cc : Nat) (am : Option Addr) (nm cm : Nat) (i : Nat) : Value := .agg #[.int .i64 need, .int .i64 many, .slice ag ng cg, .slice ac nc cc, .slice am nm cm, .int .i64 (i : Int)]
end Con
end Go.Proofs.Ythbigmcklacbnaa
