/-
  NARROWER THAN 'FOR EVERY INPUT', by the rows' own cells (each row's printed sentence says how): FnKeyShareSum: ifaces, laid.
  DERIVED. THE GIVEN ROWS OF THIS SEAT. 1 by the template 'for every input the law returns true; each argument reads behind the call as it read before'; 0 by the template 'total and deterministic' (their statements: YtkklhlffbfgolaaDoorTotals.lean).
  GIVEN WITH THE SEED: the statements are not yours to turn. If you find one false, say at which input.
  Laid BY PROGRAM, IN A SANDBOX (cutbox-rows.mjs): the forced cells as the released guide's own fill.sh prints them over the translation d1b99dfe0125bbfa… (all of the seat's roots in one cut). By AI agents, Wed Nov 11 2026. No macro, syntax, notation, axiom, sorry.
-/
import Derived.Test.YtkklhlffbfgolaaDoorChecked
import GoSem.Claim
import GoSem.ClaimJoined
import GoSem.ClaimMapViews
import Derived.JoinedTies
import Derived.KernelRfl
namespace Go.Proofs.YtkklhlffbfgolaaDoor
/- THE CELL 'sum', in the pinned program and in every row, IS THE sha256 OF THE DUMP (.gsa) THAT YtkklhlffbfgolaaDoorProg.lean LOADS. Nothing in Lean hashes anything: it is a label: what it is worth is what the hold of that sum in a sandbox is worth. -/
noncomputable def Tryd.pinned : Pinned := { name := "ytkklhlffbfgolaadoor", sum := "d1b99dfe0125bbfa1b8c353504cd6db99303e4d10c90eda0a966f688a0935f59", checked := Tryd.checked }
namespace Rows
def none {H : Type} : Left H := { results := [], args := [] }

/- WHAT THE LISTED PACKAGE-LEVEL VARIABLES READ AS WHEN THE CALL BEGINS. Each datum BY PROGRAM (the guide's laid-datum.mjs) off the statement by which the dump's own 'gosem.cut.vars' lays the variable. In a bare row this is a premise. The card (YtkklhlffbfgolaaDoorCards.lean) ties it to the program's text. -/
def laid_loop_example_wardstaff_impl_errInvalidDeal {H : Type} : DataW H := .iface "*errors.errorString" (.ptr (.agg [.lit (.string [105, 110, 118, 97, 108, 105, 100, 32, 100, 101, 97, 108])]))

/-- 'laws.FnKeyShareSum': WHATEVER THE INPUT: true; the input reads as it did. -/
def fnKeyShareSumSpec : ChangeSpec := { name := "fnKeyShareSum", vars := ["loop.example/wardstaff/impl.errInvalidDeal"], fn := fun _ => fun
  | [d, g1] => { results := [.lit (.bool true)], args := [d], vars := [g1] }
  | _ => none }
def fnKeyShareSumRow : OpenClaim := { program := "ytkklhlffbfgolaadoor", sum := "d1b99dfe0125bbfa1b8c353504cd6db99303e4d10c90eda0a966f688a0935f59", func := "loop.example/wardstaff/laws.FnKeyShareSum", spec := "fnKeyShareSum", inPlace := ["internal/reflectlite.TypeOf"], unfollowed := true, recurses := true, named := ["loop.example/wardstaff/impl.errInvalidDeal"], ifaces := true, plainKeys := false, apart := false, laid := [("loop.example/wardstaff/impl.errInvalidDeal", laid_loop_example_wardstaff_impl_errInvalidDeal)] }
def FnKeyShareSumSaid : Prop := fnKeyShareSumRow.holds Tryd.pinned (OpenSpec.ofChange fnKeyShareSumSpec)

/-- ITS FALSE NEIGHBOUR: 'it returns false'. Refute it at one input. -/
def fnKeyShareSumWrong : ChangeSpec := { name := "fnKeyShareSum", vars := ["loop.example/wardstaff/impl.errInvalidDeal"], fn := fun _ => fun
  | [d, g1] => { results := [.lit (.bool false)], args := [d], vars := [g1] }
  | _ => none }
def FnKeyShareSumWrongFalsely : Prop := fnKeyShareSumRow.holds Tryd.pinned (OpenSpec.ofChange fnKeyShareSumWrong)

/- THE SECOND FORM. 'bulk': how many values and letters a reading holds, each counted each time it is reached (what is shared counts as often as it is met; a slice's spare places count too). A statement '..UptoSaid' is the law's where the arguments, and the package variables that the reading takes, are together of bulk at most 1048576: NARROWER than '..Said'. Prove '..Said' where nothing that the law and all that it calls make is longer than what came in: it says more and counts as full. Else prove '..UptoSaid'. A law counts once. -/
mutual
def uptoBulk {H : Type} : DataW H → Nat
  | .lit (.string bytes) => bytes.length + 1
  | .lit _ => 1
  | .nil => 1
  | .ptr d => uptoBulk d + 1
  | .slice elems spare => uptoBulkAll elems + uptoBulkAll spare + 1
  | .agg parts => uptoBulkAll parts + 1
  | .iface _ d => uptoBulk d + 1
  | .map entries => uptoBulkEntries entries + 1
  | .held _ => 1
def uptoBulkAll {H : Type} : List (DataW H) → Nat
  | [] => 0
  | d :: r => uptoBulk d + uptoBulkAll r
def uptoBulkEntries {H : Type} : List (Lit × DataW H) → Nat
  | [] => 0
  | x :: r => uptoBulkEntry x + uptoBulkEntries r
def uptoBulkEntry {H : Type} : Lit × DataW H → Nat
  | (.string bytes, d) => bytes.length + uptoBulk d + 1
  | (_, d) => uptoBulk d + 1
 end
def uptoSmall : (H : Type) → List (DataW H) → Bool := fun _ ds => decide (uptoBulkAll ds ≤ 1048576)
def OpenSpec.upto (s : _root_.Go.ChangeSpec) : _root_.Go.OpenSpec := { _root_.Go.OpenSpec.ofChange s with cond := some uptoSmall }

/-- 'laws.FnKeyShareSum', WHERE WHAT IT READS IS OF BULK AT MOST 1048576: true; the input reads as it did. -/
def fnKeyShareSumUptoRow : OpenClaim := { program := "ytkklhlffbfgolaadoor", sum := "d1b99dfe0125bbfa1b8c353504cd6db99303e4d10c90eda0a966f688a0935f59", func := "loop.example/wardstaff/laws.FnKeyShareSum", spec := "fnKeyShareSum", inPlace := ["internal/reflectlite.TypeOf"], unfollowed := true, recurses := true, named := ["loop.example/wardstaff/impl.errInvalidDeal"], ifaces := true, plainKeys := false, apart := false, laid := [("loop.example/wardstaff/impl.errInvalidDeal", laid_loop_example_wardstaff_impl_errInvalidDeal)], narrowed := true }
def FnKeyShareSumUptoSaid : Prop := fnKeyShareSumUptoRow.holds Tryd.pinned (OpenSpec.upto fnKeyShareSumSpec)

end Rows
end Go.Proofs.YtkklhlffbfgolaaDoor
