/-
  NARROWER THAN 'FOR EVERY INPUT', by the rows' own cells (each row's printed sentence says how): FnHandOk: ifaces, laid · FnExactHandOk: ifaces, laid · FnExactHandShare: ifaces, laid.
  DERIVED. THE GIVEN ROWS OF THIS SEAT. 3 by the template 'for every input the law returns true; each argument reads behind the call as it read before'; 0 by the template 'total and deterministic' (their statements: YtonhdkideianiaaDoorTotals.lean).
  GIVEN WITH THE SEED: the statements are not yours to turn. If you find one false, say at which input.
  Laid BY PROGRAM, IN A SANDBOX (cutbox-rows.mjs): the forced cells as the released guide's own fill.sh prints them over the translation 08312d3ac06a2c96… (all of the seat's roots in one cut). By AI agents, Wed Nov 11 2026. No macro, syntax, notation, axiom, sorry.
-/
import Derived.Test.YtonhdkideianiaaDoorChecked
import GoSem.Claim
import GoSem.ClaimJoined
import GoSem.ClaimMapViews
import Derived.JoinedTies
import Derived.KernelRfl
namespace Go.Proofs.YtonhdkideianiaaDoor
/- THE CELL 'sum', in the pinned program and in every row, IS THE sha256 OF THE DUMP (.gsa) THAT YtonhdkideianiaaDoorProg.lean LOADS. Nothing in Lean hashes anything: it is a label: what it is worth is what the hold of that sum in a sandbox is worth. -/
noncomputable def Tryd.pinned : Pinned := { name := "ytonhdkideianiaadoor", sum := "08312d3ac06a2c96034631232614064c47e0476c84766bddaebea431f77b1a80", checked := Tryd.checked }
namespace Rows
def none {H : Type} : Left H := { results := [], args := [] }

/- WHAT THE LISTED PACKAGE-LEVEL VARIABLES READ AS WHEN THE CALL BEGINS. Each datum BY PROGRAM (the guide's laid-datum.mjs) off the statement by which the dump's own 'gosem.cut.vars' lays the variable. In a bare row this is a premise. The card (YtonhdkideianiaaDoorCards.lean) ties it to the program's text. -/
def laid_loop_example_wardstaff_impl_errInvalidDeal {H : Type} : DataW H := .iface "*errors.errorString" (.ptr (.agg [.lit (.string [105, 110, 118, 97, 108, 105, 100, 32, 100, 101, 97, 108])]))

/-- 'laws.FnHandOk': WHATEVER THE INPUT: true; the input reads as it did. -/
def fnHandOkSpec : ChangeSpec := { name := "fnHandOk", vars := ["loop.example/wardstaff/impl.errInvalidDeal"], fn := fun _ => fun
  | [d, g1] => { results := [.lit (.bool true)], args := [d], vars := [g1] }
  | _ => none }
def fnHandOkRow : OpenClaim := { program := "ytonhdkideianiaadoor", sum := "08312d3ac06a2c96034631232614064c47e0476c84766bddaebea431f77b1a80", func := "loop.example/wardstaff/laws.FnHandOk", spec := "fnHandOk", inPlace := ["internal/reflectlite.TypeOf"], unfollowed := true, recurses := true, named := ["loop.example/wardstaff/impl.errInvalidDeal"], ifaces := true, apart := false, laid := [("loop.example/wardstaff/impl.errInvalidDeal", laid_loop_example_wardstaff_impl_errInvalidDeal)] }
def FnHandOkSaid : Prop := fnHandOkRow.holds Tryd.pinned (OpenSpec.ofChange fnHandOkSpec)

/-- ITS FALSE NEIGHBOUR: 'it returns false'. Refute it at one input. -/
def fnHandOkWrong : ChangeSpec := { name := "fnHandOk", vars := ["loop.example/wardstaff/impl.errInvalidDeal"], fn := fun _ => fun
  | [d, g1] => { results := [.lit (.bool false)], args := [d], vars := [g1] }
  | _ => none }
def FnHandOkWrongFalsely : Prop := fnHandOkRow.holds Tryd.pinned (OpenSpec.ofChange fnHandOkWrong)

/-- 'laws.FnExactHandOk': WHATEVER THE INPUT: true; the input reads as it did. -/
def fnExactHandOkSpec : ChangeSpec := { name := "fnExactHandOk", vars := ["loop.example/wardstaff/impl.errInvalidDeal"], fn := fun _ => fun
  | [d1, d2, d3, d4, g1] => { results := [.lit (.bool true)], args := [d1, d2, d3, d4], vars := [g1] }
  | _ => none }
def fnExactHandOkRow : OpenClaim := { program := "ytonhdkideianiaadoor", sum := "08312d3ac06a2c96034631232614064c47e0476c84766bddaebea431f77b1a80", func := "loop.example/wardstaff/laws.FnExactHandOk", spec := "fnExactHandOk", inPlace := ["internal/reflectlite.TypeOf"], unfollowed := true, recurses := true, named := ["loop.example/wardstaff/impl.errInvalidDeal"], ifaces := true, apart := false, laid := [("loop.example/wardstaff/impl.errInvalidDeal", laid_loop_example_wardstaff_impl_errInvalidDeal)] }
def FnExactHandOkSaid : Prop := fnExactHandOkRow.holds Tryd.pinned (OpenSpec.ofChange fnExactHandOkSpec)

/-- ITS FALSE NEIGHBOUR: 'it returns false'. Refute it at one input. -/
def fnExactHandOkWrong : ChangeSpec := { name := "fnExactHandOk", vars := ["loop.example/wardstaff/impl.errInvalidDeal"], fn := fun _ => fun
  | [d1, d2, d3, d4, g1] => { results := [.lit (.bool false)], args := [d1, d2, d3, d4], vars := [g1] }
  | _ => none }
def FnExactHandOkWrongFalsely : Prop := fnExactHandOkRow.holds Tryd.pinned (OpenSpec.ofChange fnExactHandOkWrong)

/-- 'laws.FnExactHandShare': WHATEVER THE INPUT: true; the input reads as it did. -/
def fnExactHandShareSpec : ChangeSpec := { name := "fnExactHandShare", vars := ["loop.example/wardstaff/impl.errInvalidDeal"], fn := fun _ => fun
  | [d1, d2, d3, d4, d5, g1] => { results := [.lit (.bool true)], args := [d1, d2, d3, d4, d5], vars := [g1] }
  | _ => none }
def fnExactHandShareRow : OpenClaim := { program := "ytonhdkideianiaadoor", sum := "08312d3ac06a2c96034631232614064c47e0476c84766bddaebea431f77b1a80", func := "loop.example/wardstaff/laws.FnExactHandShare", spec := "fnExactHandShare", inPlace := ["internal/reflectlite.TypeOf"], unfollowed := true, recurses := true, named := ["loop.example/wardstaff/impl.errInvalidDeal"], ifaces := true, apart := false, laid := [("loop.example/wardstaff/impl.errInvalidDeal", laid_loop_example_wardstaff_impl_errInvalidDeal)] }
def FnExactHandShareSaid : Prop := fnExactHandShareRow.holds Tryd.pinned (OpenSpec.ofChange fnExactHandShareSpec)

/-- ITS FALSE NEIGHBOUR: 'it returns false'. Refute it at one input. -/
def fnExactHandShareWrong : ChangeSpec := { name := "fnExactHandShare", vars := ["loop.example/wardstaff/impl.errInvalidDeal"], fn := fun _ => fun
  | [d1, d2, d3, d4, d5, g1] => { results := [.lit (.bool false)], args := [d1, d2, d3, d4, d5], vars := [g1] }
  | _ => none }
def FnExactHandShareWrongFalsely : Prop := fnExactHandShareRow.holds Tryd.pinned (OpenSpec.ofChange fnExactHandShareWrong)

/- THE SECOND FORM. 'bulk': how many values and letters a reading holds, each counted each time it is reached (what is shared counts as often as it is met; a slice's spare places count too). A statement '..UptoSaid' is the law's where the arguments, and the package variables that the reading takes, are together of bulk at most 1048576: NARROWER than '..Said'. Prove '..Said' where nothing that the law and all that it calls make is longer than what came in: it says more and counts as full. Else prove '..UptoSaid'. A law counts once. -/
mutual
def uptoBulk {H : Type} : DataW H → Nat
  | .lit (.string bytes) => bytes.length + 1
  | .lit _ => 1
  | .nil => 1
  | .ptr d => uptoBulk d + 1
  | .slice elems spare => uptoBulkAll elems + uptoBulkAll spare + 1
  | .agg parts => uptoBulkAll parts + 1
  | .iface _ d => uptoBulk d + 1
  | .map entries => uptoBulkEntries entries + 1
  | .held _ => 1
def uptoBulkAll {H : Type} : List (DataW H) → Nat
  | [] => 0
  | d :: r => uptoBulk d + uptoBulkAll r
def uptoBulkEntries {H : Type} : List (Lit × DataW H) → Nat
  | [] => 0
  | x :: r => uptoBulkEntry x + uptoBulkEntries r
def uptoBulkEntry {H : Type} : Lit × DataW H → Nat
  | (.string bytes, d) => bytes.length + uptoBulk d + 1
  | (_, d) => uptoBulk d + 1
 end
def uptoSmall : (H : Type) → List (DataW H) → Bool := fun _ ds => decide (uptoBulkAll ds ≤ 1048576)
def OpenSpec.upto (s : _root_.Go.ChangeSpec) : _root_.Go.OpenSpec := { _root_.Go.OpenSpec.ofChange s with cond := some uptoSmall }

/-- 'laws.FnHandOk', WHERE WHAT IT READS IS OF BULK AT MOST 1048576: true; the input reads as it did. -/
def fnHandOkUptoRow : OpenClaim := { program := "ytonhdkideianiaadoor", sum := "08312d3ac06a2c96034631232614064c47e0476c84766bddaebea431f77b1a80", func := "loop.example/wardstaff/laws.FnHandOk", spec := "fnHandOk", inPlace := ["internal/reflectlite.TypeOf"], unfollowed := true, recurses := true, named := ["loop.example/wardstaff/impl.errInvalidDeal"], ifaces := true, apart := false, laid := [("loop.example/wardstaff/impl.errInvalidDeal", laid_loop_example_wardstaff_impl_errInvalidDeal)], narrowed := true }
def FnHandOkUptoSaid : Prop := fnHandOkUptoRow.holds Tryd.pinned (OpenSpec.upto fnHandOkSpec)

/-- 'laws.FnExactHandOk', WHERE WHAT IT READS IS OF BULK AT MOST 1048576: true; the input reads as it did. -/
def fnExactHandOkUptoRow : OpenClaim := { program := "ytonhdkideianiaadoor", sum := "08312d3ac06a2c96034631232614064c47e0476c84766bddaebea431f77b1a80", func := "loop.example/wardstaff/laws.FnExactHandOk", spec := "fnExactHandOk", inPlace := ["internal/reflectlite.TypeOf"], unfollowed := true, recurses := true, named := ["loop.example/wardstaff/impl.errInvalidDeal"], ifaces := true, apart := false, laid := [("loop.example/wardstaff/impl.errInvalidDeal", laid_loop_example_wardstaff_impl_errInvalidDeal)], narrowed := true }
def FnExactHandOkUptoSaid : Prop := fnExactHandOkUptoRow.holds Tryd.pinned (OpenSpec.upto fnExactHandOkSpec)

/-- 'laws.FnExactHandShare', WHERE WHAT IT READS IS OF BULK AT MOST 1048576: true; the input reads as it did. -/
def fnExactHandShareUptoRow : OpenClaim := { program := "ytonhdkideianiaadoor", sum := "08312d3ac06a2c96034631232614064c47e0476c84766bddaebea431f77b1a80", func := "loop.example/wardstaff/laws.FnExactHandShare", spec := "fnExactHandShare", inPlace := ["internal/reflectlite.TypeOf"], unfollowed := true, recurses := true, named := ["loop.example/wardstaff/impl.errInvalidDeal"], ifaces := true, apart := false, laid := [("loop.example/wardstaff/impl.errInvalidDeal", laid_loop_example_wardstaff_impl_errInvalidDeal)], narrowed := true }
def FnExactHandShareUptoSaid : Prop := fnExactHandShareUptoRow.holds Tryd.pinned (OpenSpec.upto fnExactHandShareSpec)

end Rows
end Go.Proofs.YtonhdkideianiaaDoor
