/-
  NARROWER THAN 'FOR EVERY INPUT', by the rows' own cells (each row's printed sentence says how): FnFreshOk: ifaces, laid · FnExactFreshOk: ifaces, laid.
  DERIVED. THE GIVEN ROWS OF THIS SEAT. 2 by the template 'for every input the law returns true; each argument reads behind the call as it read before'; 0 by the template 'total and deterministic' (their statements: YtlaimokedhdnjaaDoorTotals.lean).
  GIVEN WITH THE SEED: the statements are not yours to turn. If you find one false, say at which input.
  Laid BY PROGRAM, IN A SANDBOX (cutbox-rows.mjs): the forced cells as the released guide's own fill.sh prints them over the translation 3446815a78ae755a… (all of the seat's roots in one cut). By AI agents, Wed Nov 11 2026. No macro, syntax, notation, axiom, sorry.
-/
import Derived.Test.YtlaimokedhdnjaaDoorChecked
import GoSem.Claim
import GoSem.ClaimJoined
import GoSem.ClaimMapViews
import Derived.JoinedTies
import Derived.KernelRfl
namespace Go.Proofs.YtlaimokedhdnjaaDoor
/- THE CELL 'sum', in the pinned program and in every row, IS THE sha256 OF THE DUMP (.gsa) THAT YtlaimokedhdnjaaDoorProg.lean LOADS. Nothing in Lean hashes anything: it is a label: what it is worth is what the hold of that sum in a sandbox is worth. -/
noncomputable def Tryd.pinned : Pinned := { name := "ytlaimokedhdnjaadoor", sum := "3446815a78ae755a9e092e12ba6c7e89d40acf171d5a0134e816036215c3ba5e", checked := Tryd.checked }
namespace Rows
def none {H : Type} : Left H := { results := [], args := [] }

/- WHAT THE LISTED PACKAGE-LEVEL VARIABLES READ AS WHEN THE CALL BEGINS. Each datum BY PROGRAM (the guide's laid-datum.mjs) off the statement by which the dump's own 'gosem.cut.vars' lays the variable. In a bare row this is a premise. The card (YtlaimokedhdnjaaDoorCards.lean) ties it to the program's text. -/
def laid_loop_example_wardstaff_impl_errInvalidDeal {H : Type} : DataW H := .iface "*errors.errorString" (.ptr (.agg [.lit (.string [105, 110, 118, 97, 108, 105, 100, 32, 100, 101, 97, 108])]))

/-- 'laws.FnFreshOk': WHATEVER THE INPUT: true; the input reads as it did. -/
def fnFreshOkSpec : ChangeSpec := { name := "fnFreshOk", vars := ["loop.example/wardstaff/impl.errInvalidDeal"], fn := fun _ => fun
  | [d, g1] => { results := [.lit (.bool true)], args := [d], vars := [g1] }
  | _ => none }
def fnFreshOkRow : OpenClaim := { program := "ytlaimokedhdnjaadoor", sum := "3446815a78ae755a9e092e12ba6c7e89d40acf171d5a0134e816036215c3ba5e", func := "loop.example/wardstaff/laws.FnFreshOk", spec := "fnFreshOk", inPlace := ["internal/reflectlite.TypeOf"], unfollowed := true, recurses := true, named := ["loop.example/wardstaff/impl.errInvalidDeal"], ifaces := true, apart := false, laid := [("loop.example/wardstaff/impl.errInvalidDeal", laid_loop_example_wardstaff_impl_errInvalidDeal)] }
def FnFreshOkSaid : Prop := fnFreshOkRow.holds Tryd.pinned (OpenSpec.ofChange fnFreshOkSpec)

/-- ITS FALSE NEIGHBOUR: 'it returns false'. Refute it at one input. -/
def fnFreshOkWrong : ChangeSpec := { name := "fnFreshOk", vars := ["loop.example/wardstaff/impl.errInvalidDeal"], fn := fun _ => fun
  | [d, g1] => { results := [.lit (.bool false)], args := [d], vars := [g1] }
  | _ => none }
def FnFreshOkWrongFalsely : Prop := fnFreshOkRow.holds Tryd.pinned (OpenSpec.ofChange fnFreshOkWrong)

/-- 'laws.FnExactFreshOk': WHATEVER THE INPUT: true; the input reads as it did. -/
def fnExactFreshOkSpec : ChangeSpec := { name := "fnExactFreshOk", vars := ["loop.example/wardstaff/impl.errInvalidDeal"], fn := fun _ => fun
  | [d1, d2, g1] => { results := [.lit (.bool true)], args := [d1, d2], vars := [g1] }
  | _ => none }
def fnExactFreshOkRow : OpenClaim := { program := "ytlaimokedhdnjaadoor", sum := "3446815a78ae755a9e092e12ba6c7e89d40acf171d5a0134e816036215c3ba5e", func := "loop.example/wardstaff/laws.FnExactFreshOk", spec := "fnExactFreshOk", inPlace := ["internal/reflectlite.TypeOf"], unfollowed := true, recurses := true, named := ["loop.example/wardstaff/impl.errInvalidDeal"], ifaces := true, apart := false, laid := [("loop.example/wardstaff/impl.errInvalidDeal", laid_loop_example_wardstaff_impl_errInvalidDeal)] }
def FnExactFreshOkSaid : Prop := fnExactFreshOkRow.holds Tryd.pinned (OpenSpec.ofChange fnExactFreshOkSpec)

/-- ITS FALSE NEIGHBOUR: 'it returns false'. Refute it at one input. -/
def fnExactFreshOkWrong : ChangeSpec := { name := "fnExactFreshOk", vars := ["loop.example/wardstaff/impl.errInvalidDeal"], fn := fun _ => fun
  | [d1, d2, g1] => { results := [.lit (.bool false)], args := [d1, d2], vars := [g1] }
  | _ => none }
def FnExactFreshOkWrongFalsely : Prop := fnExactFreshOkRow.holds Tryd.pinned (OpenSpec.ofChange fnExactFreshOkWrong)

/- THE SECOND FORM. 'bulk': how many values and letters a reading holds, each counted each time it is reached (what is shared counts as often as it is met; a slice's spare places count too). A statement '..UptoSaid' is the law's where the arguments, and the package variables that the reading takes, are together of bulk at most 1048576: NARROWER than '..Said'. Prove '..Said' where nothing that the law and all that it calls make is longer than what came in: it says more and counts as full. Else prove '..UptoSaid'. A law counts once. -/
mutual
def uptoBulk {H : Type} : DataW H → Nat
  | .lit (.string bytes) => bytes.length + 1
  | .lit _ => 1
  | .nil => 1
  | .ptr d => uptoBulk d + 1
  | .slice elems spare => uptoBulkAll elems + uptoBulkAll spare + 1
  | .agg parts => uptoBulkAll parts + 1
  | .iface _ d => uptoBulk d + 1
  | .map entries => uptoBulkEntries entries + 1
  | .held _ => 1
def uptoBulkAll {H : Type} : List (DataW H) → Nat
  | [] => 0
  | d :: r => uptoBulk d + uptoBulkAll r
def uptoBulkEntries {H : Type} : List (Lit × DataW H) → Nat
  | [] => 0
  | x :: r => uptoBulkEntry x + uptoBulkEntries r
def uptoBulkEntry {H : Type} : Lit × DataW H → Nat
  | (.string bytes, d) => bytes.length + uptoBulk d + 1
  | (_, d) => uptoBulk d + 1
 end
def uptoSmall : (H : Type) → List (DataW H) → Bool := fun _ ds => decide (uptoBulkAll ds ≤ 1048576)
def OpenSpec.upto (s : _root_.Go.ChangeSpec) : _root_.Go.OpenSpec := { _root_.Go.OpenSpec.ofChange s with cond := some uptoSmall }

/-- 'laws.FnFreshOk', WHERE WHAT IT READS IS OF BULK AT MOST 1048576: true; the input reads as it did. -/
def fnFreshOkUptoRow : OpenClaim := { program := "ytlaimokedhdnjaadoor", sum := "3446815a78ae755a9e092e12ba6c7e89d40acf171d5a0134e816036215c3ba5e", func := "loop.example/wardstaff/laws.FnFreshOk", spec := "fnFreshOk", inPlace := ["internal/reflectlite.TypeOf"], unfollowed := true, recurses := true, named := ["loop.example/wardstaff/impl.errInvalidDeal"], ifaces := true, apart := false, laid := [("loop.example/wardstaff/impl.errInvalidDeal", laid_loop_example_wardstaff_impl_errInvalidDeal)], narrowed := true }
def FnFreshOkUptoSaid : Prop := fnFreshOkUptoRow.holds Tryd.pinned (OpenSpec.upto fnFreshOkSpec)

/-- 'laws.FnExactFreshOk', WHERE WHAT IT READS IS OF BULK AT MOST 1048576: true; the input reads as it did. -/
def fnExactFreshOkUptoRow : OpenClaim := { program := "ytlaimokedhdnjaadoor", sum := "3446815a78ae755a9e092e12ba6c7e89d40acf171d5a0134e816036215c3ba5e", func := "loop.example/wardstaff/laws.FnExactFreshOk", spec := "fnExactFreshOk", inPlace := ["internal/reflectlite.TypeOf"], unfollowed := true, recurses := true, named := ["loop.example/wardstaff/impl.errInvalidDeal"], ifaces := true, apart := false, laid := [("loop.example/wardstaff/impl.errInvalidDeal", laid_loop_example_wardstaff_impl_errInvalidDeal)], narrowed := true }
def FnExactFreshOkUptoSaid : Prop := fnExactFreshOkUptoRow.holds Tryd.pinned (OpenSpec.upto fnExactFreshOkSpec)

end Rows
end Go.Proofs.YtlaimokedhdnjaaDoor
