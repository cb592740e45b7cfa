/-
  NARROWER THAN 'FOR EVERY INPUT', by the rows' own cells (each row's printed sentence says how): FnDealBad: ifaces, laid · FnDealOnly: ifaces, laid · FnDealForm: ifaces, laid · FnExactDealOk: ifaces, laid · FnExactDealBad: ifaces, laid.
  DERIVED. THE GIVEN ROWS OF THIS SEAT. 5 by the template 'for every input the law returns true; each argument reads behind the call as it read before'; 0 by the template 'total and deterministic' (their statements: YtbemggelljgkhaaDoorTotals.lean).
  GIVEN WITH THE SEED: the statements are not yours to turn. If you find one false, say at which input.
  Laid BY PROGRAM, IN A SANDBOX (cutbox-rows.mjs): the forced cells as the released guide's own fill.sh prints them over the translation a42092f6c85d0442… (all of the seat's roots in one cut). By AI agents, Wed Nov 11 2026. No macro, syntax, notation, axiom, sorry.
-/
import Derived.Test.YtbemggelljgkhaaDoorChecked
import GoSem.Claim
import GoSem.ClaimJoined
import GoSem.ClaimMapViews
import Derived.JoinedTies
import Derived.KernelRfl
namespace Go.Proofs.YtbemggelljgkhaaDoor
/- THE CELL 'sum', in the pinned program and in every row, IS THE sha256 OF THE DUMP (.gsa) THAT YtbemggelljgkhaaDoorProg.lean LOADS. Nothing in Lean hashes anything: it is a label: what it is worth is what the hold of that sum in a sandbox is worth. -/
noncomputable def Tryd.pinned : Pinned := { name := "ytbemggelljgkhaadoor", sum := "a42092f6c85d0442b1e681065d999e92b1a848019b3b82c5c8432b317a5a4ee0", checked := Tryd.checked }
namespace Rows
def none {H : Type} : Left H := { results := [], args := [] }

/- WHAT THE LISTED PACKAGE-LEVEL VARIABLES READ AS WHEN THE CALL BEGINS. Each datum BY PROGRAM (the guide's laid-datum.mjs) off the statement by which the dump's own 'gosem.cut.vars' lays the variable. In a bare row this is a premise. The card (YtbemggelljgkhaaDoorCards.lean) ties it to the program's text. -/
def laid_loop_example_wardstaff_impl_errInvalidDeal {H : Type} : DataW H := .iface "*errors.errorString" (.ptr (.agg [.lit (.string [105, 110, 118, 97, 108, 105, 100, 32, 100, 101, 97, 108])]))

/-- 'laws.FnDealBad': WHATEVER THE INPUT: true; the input reads as it did. -/
def fnDealBadSpec : ChangeSpec := { name := "fnDealBad", vars := ["loop.example/wardstaff/impl.errInvalidDeal"], fn := fun _ => fun
  | [d, g1] => { results := [.lit (.bool true)], args := [d], vars := [g1] }
  | _ => none }
def fnDealBadRow : OpenClaim := { program := "ytbemggelljgkhaadoor", sum := "a42092f6c85d0442b1e681065d999e92b1a848019b3b82c5c8432b317a5a4ee0", func := "loop.example/wardstaff/laws.FnDealBad", spec := "fnDealBad", inPlace := ["internal/reflectlite.TypeOf"], unfollowed := true, recurses := true, named := ["loop.example/wardstaff/impl.errInvalidDeal"], ifaces := true, apart := false, laid := [("loop.example/wardstaff/impl.errInvalidDeal", laid_loop_example_wardstaff_impl_errInvalidDeal)] }
def FnDealBadSaid : Prop := fnDealBadRow.holds Tryd.pinned (OpenSpec.ofChange fnDealBadSpec)

/-- ITS FALSE NEIGHBOUR: 'it returns false'. Refute it at one input. -/
def fnDealBadWrong : ChangeSpec := { name := "fnDealBad", vars := ["loop.example/wardstaff/impl.errInvalidDeal"], fn := fun _ => fun
  | [d, g1] => { results := [.lit (.bool false)], args := [d], vars := [g1] }
  | _ => none }
def FnDealBadWrongFalsely : Prop := fnDealBadRow.holds Tryd.pinned (OpenSpec.ofChange fnDealBadWrong)

/-- 'laws.FnDealOnly': WHATEVER THE INPUT: true; the input reads as it did. -/
def fnDealOnlySpec : ChangeSpec := { name := "fnDealOnly", vars := ["loop.example/wardstaff/impl.errInvalidDeal"], fn := fun _ => fun
  | [d1, d2, g1] => { results := [.lit (.bool true)], args := [d1, d2], vars := [g1] }
  | _ => none }
def fnDealOnlyRow : OpenClaim := { program := "ytbemggelljgkhaadoor", sum := "a42092f6c85d0442b1e681065d999e92b1a848019b3b82c5c8432b317a5a4ee0", func := "loop.example/wardstaff/laws.FnDealOnly", spec := "fnDealOnly", inPlace := ["internal/reflectlite.TypeOf"], unfollowed := true, recurses := true, named := ["loop.example/wardstaff/impl.errInvalidDeal"], ifaces := true, apart := false, laid := [("loop.example/wardstaff/impl.errInvalidDeal", laid_loop_example_wardstaff_impl_errInvalidDeal)] }
def FnDealOnlySaid : Prop := fnDealOnlyRow.holds Tryd.pinned (OpenSpec.ofChange fnDealOnlySpec)

/-- ITS FALSE NEIGHBOUR: 'it returns false'. Refute it at one input. -/
def fnDealOnlyWrong : ChangeSpec := { name := "fnDealOnly", vars := ["loop.example/wardstaff/impl.errInvalidDeal"], fn := fun _ => fun
  | [d1, d2, g1] => { results := [.lit (.bool false)], args := [d1, d2], vars := [g1] }
  | _ => none }
def FnDealOnlyWrongFalsely : Prop := fnDealOnlyRow.holds Tryd.pinned (OpenSpec.ofChange fnDealOnlyWrong)

/-- 'laws.FnDealForm': WHATEVER THE INPUT: true; the input reads as it did. -/
def fnDealFormSpec : ChangeSpec := { name := "fnDealForm", vars := ["loop.example/wardstaff/impl.errInvalidDeal"], fn := fun _ => fun
  | [d, g1] => { results := [.lit (.bool true)], args := [d], vars := [g1] }
  | _ => none }
def fnDealFormRow : OpenClaim := { program := "ytbemggelljgkhaadoor", sum := "a42092f6c85d0442b1e681065d999e92b1a848019b3b82c5c8432b317a5a4ee0", func := "loop.example/wardstaff/laws.FnDealForm", spec := "fnDealForm", inPlace := ["internal/reflectlite.TypeOf"], unfollowed := true, recurses := true, named := ["loop.example/wardstaff/impl.errInvalidDeal"], ifaces := true, apart := false, laid := [("loop.example/wardstaff/impl.errInvalidDeal", laid_loop_example_wardstaff_impl_errInvalidDeal)] }
def FnDealFormSaid : Prop := fnDealFormRow.holds Tryd.pinned (OpenSpec.ofChange fnDealFormSpec)

/-- ITS FALSE NEIGHBOUR: 'it returns false'. Refute it at one input. -/
def fnDealFormWrong : ChangeSpec := { name := "fnDealForm", vars := ["loop.example/wardstaff/impl.errInvalidDeal"], fn := fun _ => fun
  | [d, g1] => { results := [.lit (.bool false)], args := [d], vars := [g1] }
  | _ => none }
def FnDealFormWrongFalsely : Prop := fnDealFormRow.holds Tryd.pinned (OpenSpec.ofChange fnDealFormWrong)

/-- 'laws.FnExactDealOk': WHATEVER THE INPUT: true; the input reads as it did. -/
def fnExactDealOkSpec : ChangeSpec := { name := "fnExactDealOk", vars := ["loop.example/wardstaff/impl.errInvalidDeal"], fn := fun _ => fun
  | [d1, d2, d3, g1] => { results := [.lit (.bool true)], args := [d1, d2, d3], vars := [g1] }
  | _ => none }
def fnExactDealOkRow : OpenClaim := { program := "ytbemggelljgkhaadoor", sum := "a42092f6c85d0442b1e681065d999e92b1a848019b3b82c5c8432b317a5a4ee0", func := "loop.example/wardstaff/laws.FnExactDealOk", spec := "fnExactDealOk", inPlace := ["internal/reflectlite.TypeOf"], unfollowed := true, recurses := true, named := ["loop.example/wardstaff/impl.errInvalidDeal"], ifaces := true, apart := false, laid := [("loop.example/wardstaff/impl.errInvalidDeal", laid_loop_example_wardstaff_impl_errInvalidDeal)] }
def FnExactDealOkSaid : Prop := fnExactDealOkRow.holds Tryd.pinned (OpenSpec.ofChange fnExactDealOkSpec)

/-- ITS FALSE NEIGHBOUR: 'it returns false'. Refute it at one input. -/
def fnExactDealOkWrong : ChangeSpec := { name := "fnExactDealOk", vars := ["loop.example/wardstaff/impl.errInvalidDeal"], fn := fun _ => fun
  | [d1, d2, d3, g1] => { results := [.lit (.bool false)], args := [d1, d2, d3], vars := [g1] }
  | _ => none }
def FnExactDealOkWrongFalsely : Prop := fnExactDealOkRow.holds Tryd.pinned (OpenSpec.ofChange fnExactDealOkWrong)

/-- 'laws.FnExactDealBad': WHATEVER THE INPUT: true; the input reads as it did. -/
def fnExactDealBadSpec : ChangeSpec := { name := "fnExactDealBad", vars := ["loop.example/wardstaff/impl.errInvalidDeal"], fn := fun _ => fun
  | [d1, d2, d3, g1] => { results := [.lit (.bool true)], args := [d1, d2, d3], vars := [g1] }
  | _ => none }
def fnExactDealBadRow : OpenClaim := { program := "ytbemggelljgkhaadoor", sum := "a42092f6c85d0442b1e681065d999e92b1a848019b3b82c5c8432b317a5a4ee0", func := "loop.example/wardstaff/laws.FnExactDealBad", spec := "fnExactDealBad", inPlace := ["internal/reflectlite.TypeOf"], unfollowed := true, recurses := true, named := ["loop.example/wardstaff/impl.errInvalidDeal"], ifaces := true, apart := false, laid := [("loop.example/wardstaff/impl.errInvalidDeal", laid_loop_example_wardstaff_impl_errInvalidDeal)] }
def FnExactDealBadSaid : Prop := fnExactDealBadRow.holds Tryd.pinned (OpenSpec.ofChange fnExactDealBadSpec)

/-- ITS FALSE NEIGHBOUR: 'it returns false'. Refute it at one input. -/
def fnExactDealBadWrong : ChangeSpec := { name := "fnExactDealBad", vars := ["loop.example/wardstaff/impl.errInvalidDeal"], fn := fun _ => fun
  | [d1, d2, d3, g1] => { results := [.lit (.bool false)], args := [d1, d2, d3], vars := [g1] }
  | _ => none }
def FnExactDealBadWrongFalsely : Prop := fnExactDealBadRow.holds Tryd.pinned (OpenSpec.ofChange fnExactDealBadWrong)

/- THE SECOND FORM. 'bulk': how many values and letters a reading holds, each counted each time it is reached (what is shared counts as often as it is met; a slice's spare places count too). A statement '..UptoSaid' is the law's where the arguments, and the package variables that the reading takes, are together of bulk at most 1048576: NARROWER than '..Said'. Prove '..Said' where nothing that the law and all that it calls make is longer than what came in: it says more and counts as full. Else prove '..UptoSaid'. A law counts once. -/
mutual
def uptoBulk {H : Type} : DataW H → Nat
  | .lit (.string bytes) => bytes.length + 1
  | .lit _ => 1
  | .nil => 1
  | .ptr d => uptoBulk d + 1
  | .slice elems spare => uptoBulkAll elems + uptoBulkAll spare + 1
  | .agg parts => uptoBulkAll parts + 1
  | .iface _ d => uptoBulk d + 1
  | .map entries => uptoBulkEntries entries + 1
  | .held _ => 1
def uptoBulkAll {H : Type} : List (DataW H) → Nat
  | [] => 0
  | d :: r => uptoBulk d + uptoBulkAll r
def uptoBulkEntries {H : Type} : List (Lit × DataW H) → Nat
  | [] => 0
  | x :: r => uptoBulkEntry x + uptoBulkEntries r
def uptoBulkEntry {H : Type} : Lit × DataW H → Nat
  | (.string bytes, d) => bytes.length + uptoBulk d + 1
  | (_, d) => uptoBulk d + 1
 end
def uptoSmall : (H : Type) → List (DataW H) → Bool := fun _ ds => decide (uptoBulkAll ds ≤ 1048576)
def OpenSpec.upto (s : _root_.Go.ChangeSpec) : _root_.Go.OpenSpec := { _root_.Go.OpenSpec.ofChange s with cond := some uptoSmall }

/-- 'laws.FnDealBad', WHERE WHAT IT READS IS OF BULK AT MOST 1048576: true; the input reads as it did. -/
def fnDealBadUptoRow : OpenClaim := { program := "ytbemggelljgkhaadoor", sum := "a42092f6c85d0442b1e681065d999e92b1a848019b3b82c5c8432b317a5a4ee0", func := "loop.example/wardstaff/laws.FnDealBad", spec := "fnDealBad", inPlace := ["internal/reflectlite.TypeOf"], unfollowed := true, recurses := true, named := ["loop.example/wardstaff/impl.errInvalidDeal"], ifaces := true, apart := false, laid := [("loop.example/wardstaff/impl.errInvalidDeal", laid_loop_example_wardstaff_impl_errInvalidDeal)], narrowed := true }
def FnDealBadUptoSaid : Prop := fnDealBadUptoRow.holds Tryd.pinned (OpenSpec.upto fnDealBadSpec)

/-- 'laws.FnDealOnly', WHERE WHAT IT READS IS OF BULK AT MOST 1048576: true; the input reads as it did. -/
def fnDealOnlyUptoRow : OpenClaim := { program := "ytbemggelljgkhaadoor", sum := "a42092f6c85d0442b1e681065d999e92b1a848019b3b82c5c8432b317a5a4ee0", func := "loop.example/wardstaff/laws.FnDealOnly", spec := "fnDealOnly", inPlace := ["internal/reflectlite.TypeOf"], unfollowed := true, recurses := true, named := ["loop.example/wardstaff/impl.errInvalidDeal"], ifaces := true, apart := false, laid := [("loop.example/wardstaff/impl.errInvalidDeal", laid_loop_example_wardstaff_impl_errInvalidDeal)], narrowed := true }
def FnDealOnlyUptoSaid : Prop := fnDealOnlyUptoRow.holds Tryd.pinned (OpenSpec.upto fnDealOnlySpec)

/-- 'laws.FnDealForm', WHERE WHAT IT READS IS OF BULK AT MOST 1048576: true; the input reads as it did. -/
def fnDealFormUptoRow : OpenClaim := { program := "ytbemggelljgkhaadoor", sum := "a42092f6c85d0442b1e681065d999e92b1a848019b3b82c5c8432b317a5a4ee0", func := "loop.example/wardstaff/laws.FnDealForm", spec := "fnDealForm", inPlace := ["internal/reflectlite.TypeOf"], unfollowed := true, recurses := true, named := ["loop.example/wardstaff/impl.errInvalidDeal"], ifaces := true, apart := false, laid := [("loop.example/wardstaff/impl.errInvalidDeal", laid_loop_example_wardstaff_impl_errInvalidDeal)], narrowed := true }
def FnDealFormUptoSaid : Prop := fnDealFormUptoRow.holds Tryd.pinned (OpenSpec.upto fnDealFormSpec)

/-- 'laws.FnExactDealOk', WHERE WHAT IT READS IS OF BULK AT MOST 1048576: true; the input reads as it did. -/
def fnExactDealOkUptoRow : OpenClaim := { program := "ytbemggelljgkhaadoor", sum := "a42092f6c85d0442b1e681065d999e92b1a848019b3b82c5c8432b317a5a4ee0", func := "loop.example/wardstaff/laws.FnExactDealOk", spec := "fnExactDealOk", inPlace := ["internal/reflectlite.TypeOf"], unfollowed := true, recurses := true, named := ["loop.example/wardstaff/impl.errInvalidDeal"], ifaces := true, apart := false, laid := [("loop.example/wardstaff/impl.errInvalidDeal", laid_loop_example_wardstaff_impl_errInvalidDeal)], narrowed := true }
def FnExactDealOkUptoSaid : Prop := fnExactDealOkUptoRow.holds Tryd.pinned (OpenSpec.upto fnExactDealOkSpec)

/-- 'laws.FnExactDealBad', WHERE WHAT IT READS IS OF BULK AT MOST 1048576: true; the input reads as it did. -/
def fnExactDealBadUptoRow : OpenClaim := { program := "ytbemggelljgkhaadoor", sum := "a42092f6c85d0442b1e681065d999e92b1a848019b3b82c5c8432b317a5a4ee0", func := "loop.example/wardstaff/laws.FnExactDealBad", spec := "fnExactDealBad", inPlace := ["internal/reflectlite.TypeOf"], unfollowed := true, recurses := true, named := ["loop.example/wardstaff/impl.errInvalidDeal"], ifaces := true, apart := false, laid := [("loop.example/wardstaff/impl.errInvalidDeal", laid_loop_example_wardstaff_impl_errInvalidDeal)], narrowed := true }
def FnExactDealBadUptoSaid : Prop := fnExactDealBadUptoRow.holds Tryd.pinned (OpenSpec.upto fnExactDealBadSpec)

end Rows
end Go.Proofs.YtbemggelljgkhaaDoor
