/-
  No cell of these rows narrows 'for every input' (looked for: loops, veiled, ifaces, maps, wideKeys, modest, calm, conditions, laid).
  DERIVED. THE GIVEN ROWS OF THIS SEAT. 15 by the template 'for every input the law returns true; each argument reads behind the call as it read before'; 0 by the template 'total and deterministic' (their statements: YtnobfnjejffoiaaTotals.lean).
  GIVEN WITH THE SEED: the statements are not yours to turn. If you find one false, say at which input.
  Laid BY PROGRAM, IN A SANDBOX (cutbox-rows.mjs): the forced cells as the released guide's own fill.sh prints them over the translation 41545a1a06b008e9… (all of the seat's roots in one cut). By AI agents, Wed Nov 11 2026. No macro, syntax, notation, axiom, sorry.
-/
import Derived.Test.YtnobfnjejffoiaaChecked
import GoSem.Claim
import GoSem.ClaimJoined
import GoSem.ClaimMapViews
import Derived.JoinedTies
import Derived.KernelRfl
namespace Go.Proofs.Ytnobfnjejffoiaa
/- THE CELL 'sum', in the pinned program and in every row, IS THE sha256 OF THE DUMP (.gsa) THAT YtnobfnjejffoiaaProg.lean LOADS. Nothing in Lean hashes anything: it is a label: what it is worth is what the hold of that sum in a sandbox is worth. -/
noncomputable def Try.pinned : Pinned := { name := "ytnobfnjejffoiaa", sum := "41545a1a06b008e99fa9e8da52964618d6af4e40f0ddd431796cc2d8d995b946", checked := Try.checked }
namespace Rows
def none {H : Type} : Left H := { results := [], args := [] }

/-- 'laws.FnFieldOk': WHATEVER THE INPUT: true; the input reads as it did. -/
def fnFieldOkSpec : ChangeSpec := { name := "fnFieldOk", fn := fun _ => fun
  | [d] => { results := [.lit (.bool true)], args := [d] }
  | _ => none }
def fnFieldOkRow : OpenClaim := { program := "ytnobfnjejffoiaa", sum := "41545a1a06b008e99fa9e8da52964618d6af4e40f0ddd431796cc2d8d995b946", func := "loop.example/wardstaff/laws.FnFieldOk", spec := "fnFieldOk", apart := false }
def FnFieldOkSaid : Prop := fnFieldOkRow.holds Try.pinned (OpenSpec.ofChange fnFieldOkSpec)

/-- ITS FALSE NEIGHBOUR: 'it returns false'. Refute it at one input. -/
def fnFieldOkWrong : ChangeSpec := { name := "fnFieldOk", fn := fun _ => fun
  | [d] => { results := [.lit (.bool false)], args := [d] }
  | _ => none }
def FnFieldOkWrongFalsely : Prop := fnFieldOkRow.holds Try.pinned (OpenSpec.ofChange fnFieldOkWrong)

/-- 'laws.FnSumLaws': WHATEVER THE INPUT: true; the input reads as it did. -/
def fnSumLawsSpec : ChangeSpec := { name := "fnSumLaws", fn := fun _ => fun
  | [d1, d2] => { results := [.lit (.bool true)], args := [d1, d2] }
  | _ => none }
def fnSumLawsRow : OpenClaim := { program := "ytnobfnjejffoiaa", sum := "41545a1a06b008e99fa9e8da52964618d6af4e40f0ddd431796cc2d8d995b946", func := "loop.example/wardstaff/laws.FnSumLaws", spec := "fnSumLaws", apart := false }
def FnSumLawsSaid : Prop := fnSumLawsRow.holds Try.pinned (OpenSpec.ofChange fnSumLawsSpec)

/-- ITS FALSE NEIGHBOUR: 'it returns false'. Refute it at one input. -/
def fnSumLawsWrong : ChangeSpec := { name := "fnSumLaws", fn := fun _ => fun
  | [d1, d2] => { results := [.lit (.bool false)], args := [d1, d2] }
  | _ => none }
def FnSumLawsWrongFalsely : Prop := fnSumLawsRow.holds Try.pinned (OpenSpec.ofChange fnSumLawsWrong)

/-- 'laws.FnSumDif': WHATEVER THE INPUT: true; the input reads as it did. -/
def fnSumDifSpec : ChangeSpec := { name := "fnSumDif", fn := fun _ => fun
  | [d] => { results := [.lit (.bool true)], args := [d] }
  | _ => none }
def fnSumDifRow : OpenClaim := { program := "ytnobfnjejffoiaa", sum := "41545a1a06b008e99fa9e8da52964618d6af4e40f0ddd431796cc2d8d995b946", func := "loop.example/wardstaff/laws.FnSumDif", spec := "fnSumDif", apart := false }
def FnSumDifSaid : Prop := fnSumDifRow.holds Try.pinned (OpenSpec.ofChange fnSumDifSpec)

/-- ITS FALSE NEIGHBOUR: 'it returns false'. Refute it at one input. -/
def fnSumDifWrong : ChangeSpec := { name := "fnSumDif", fn := fun _ => fun
  | [d] => { results := [.lit (.bool false)], args := [d] }
  | _ => none }
def FnSumDifWrongFalsely : Prop := fnSumDifRow.holds Try.pinned (OpenSpec.ofChange fnSumDifWrong)

/-- 'laws.FnMulLaws': WHATEVER THE INPUT: true; the input reads as it did. -/
def fnMulLawsSpec : ChangeSpec := { name := "fnMulLaws", fn := fun _ => fun
  | [d1, d2] => { results := [.lit (.bool true)], args := [d1, d2] }
  | _ => none }
def fnMulLawsRow : OpenClaim := { program := "ytnobfnjejffoiaa", sum := "41545a1a06b008e99fa9e8da52964618d6af4e40f0ddd431796cc2d8d995b946", func := "loop.example/wardstaff/laws.FnMulLaws", spec := "fnMulLaws", apart := false }
def FnMulLawsSaid : Prop := fnMulLawsRow.holds Try.pinned (OpenSpec.ofChange fnMulLawsSpec)

/-- ITS FALSE NEIGHBOUR: 'it returns false'. Refute it at one input. -/
def fnMulLawsWrong : ChangeSpec := { name := "fnMulLaws", fn := fun _ => fun
  | [d1, d2] => { results := [.lit (.bool false)], args := [d1, d2] }
  | _ => none }
def FnMulLawsWrongFalsely : Prop := fnMulLawsRow.holds Try.pinned (OpenSpec.ofChange fnMulLawsWrong)

/-- 'laws.FnMulNone': WHATEVER THE INPUT: true; the input reads as it did. -/
def fnMulNoneSpec : ChangeSpec := { name := "fnMulNone", fn := fun _ => fun
  | [d] => { results := [.lit (.bool true)], args := [d] }
  | _ => none }
def fnMulNoneRow : OpenClaim := { program := "ytnobfnjejffoiaa", sum := "41545a1a06b008e99fa9e8da52964618d6af4e40f0ddd431796cc2d8d995b946", func := "loop.example/wardstaff/laws.FnMulNone", spec := "fnMulNone", apart := false }
def FnMulNoneSaid : Prop := fnMulNoneRow.holds Try.pinned (OpenSpec.ofChange fnMulNoneSpec)

/-- ITS FALSE NEIGHBOUR: 'it returns false'. Refute it at one input. -/
def fnMulNoneWrong : ChangeSpec := { name := "fnMulNone", fn := fun _ => fun
  | [d] => { results := [.lit (.bool false)], args := [d] }
  | _ => none }
def FnMulNoneWrongFalsely : Prop := fnMulNoneRow.holds Try.pinned (OpenSpec.ofChange fnMulNoneWrong)

/-- 'laws.FnInv': WHATEVER THE INPUT: true; the input reads as it did. -/
def fnInvSpec : ChangeSpec := { name := "fnInv", fn := fun _ => fun
  | [d1, d2] => { results := [.lit (.bool true)], args := [d1, d2] }
  | _ => none }
def fnInvRow : OpenClaim := { program := "ytnobfnjejffoiaa", sum := "41545a1a06b008e99fa9e8da52964618d6af4e40f0ddd431796cc2d8d995b946", func := "loop.example/wardstaff/laws.FnInv", spec := "fnInv", apart := false }
def FnInvSaid : Prop := fnInvRow.holds Try.pinned (OpenSpec.ofChange fnInvSpec)

/-- ITS FALSE NEIGHBOUR: 'it returns false'. Refute it at one input. -/
def fnInvWrong : ChangeSpec := { name := "fnInv", fn := fun _ => fun
  | [d1, d2] => { results := [.lit (.bool false)], args := [d1, d2] }
  | _ => none }
def FnInvWrongFalsely : Prop := fnInvRow.holds Try.pinned (OpenSpec.ofChange fnInvWrong)

/-- 'laws.FnMulDif': WHATEVER THE INPUT: true; the input reads as it did. -/
def fnMulDifSpec : ChangeSpec := { name := "fnMulDif", fn := fun _ => fun
  | [d1, d2] => { results := [.lit (.bool true)], args := [d1, d2] }
  | _ => none }
def fnMulDifRow : OpenClaim := { program := "ytnobfnjejffoiaa", sum := "41545a1a06b008e99fa9e8da52964618d6af4e40f0ddd431796cc2d8d995b946", func := "loop.example/wardstaff/laws.FnMulDif", spec := "fnMulDif", apart := false }
def FnMulDifSaid : Prop := fnMulDifRow.holds Try.pinned (OpenSpec.ofChange fnMulDifSpec)

/-- ITS FALSE NEIGHBOUR: 'it returns false'. Refute it at one input. -/
def fnMulDifWrong : ChangeSpec := { name := "fnMulDif", fn := fun _ => fun
  | [d1, d2] => { results := [.lit (.bool false)], args := [d1, d2] }
  | _ => none }
def FnMulDifWrongFalsely : Prop := fnMulDifRow.holds Try.pinned (OpenSpec.ofChange fnMulDifWrong)

/-- 'laws.FnSquares': WHATEVER THE INPUT: true; the input reads as it did. -/
def fnSquaresSpec : ChangeSpec := { name := "fnSquares", fn := fun _ => fun
  | [d] => { results := [.lit (.bool true)], args := [d] }
  | _ => none }
def fnSquaresRow : OpenClaim := { program := "ytnobfnjejffoiaa", sum := "41545a1a06b008e99fa9e8da52964618d6af4e40f0ddd431796cc2d8d995b946", func := "loop.example/wardstaff/laws.FnSquares", spec := "fnSquares", apart := false }
def FnSquaresSaid : Prop := fnSquaresRow.holds Try.pinned (OpenSpec.ofChange fnSquaresSpec)

/-- ITS FALSE NEIGHBOUR: 'it returns false'. Refute it at one input. -/
def fnSquaresWrong : ChangeSpec := { name := "fnSquares", fn := fun _ => fun
  | [d] => { results := [.lit (.bool false)], args := [d] }
  | _ => none }
def FnSquaresWrongFalsely : Prop := fnSquaresRow.holds Try.pinned (OpenSpec.ofChange fnSquaresWrong)

/-- 'laws.FnDifZero': WHATEVER THE INPUT: true; the input reads as it did. -/
def fnDifZeroSpec : ChangeSpec := { name := "fnDifZero", fn := fun _ => fun
  | [d] => { results := [.lit (.bool true)], args := [d] }
  | _ => none }
def fnDifZeroRow : OpenClaim := { program := "ytnobfnjejffoiaa", sum := "41545a1a06b008e99fa9e8da52964618d6af4e40f0ddd431796cc2d8d995b946", func := "loop.example/wardstaff/laws.FnDifZero", spec := "fnDifZero", apart := false }
def FnDifZeroSaid : Prop := fnDifZeroRow.holds Try.pinned (OpenSpec.ofChange fnDifZeroSpec)

/-- ITS FALSE NEIGHBOUR: 'it returns false'. Refute it at one input. -/
def fnDifZeroWrong : ChangeSpec := { name := "fnDifZero", fn := fun _ => fun
  | [d] => { results := [.lit (.bool false)], args := [d] }
  | _ => none }
def FnDifZeroWrongFalsely : Prop := fnDifZeroRow.holds Try.pinned (OpenSpec.ofChange fnDifZeroWrong)

/-- 'laws.FnInvDif': WHATEVER THE INPUT: true; the input reads as it did. -/
def fnInvDifSpec : ChangeSpec := { name := "fnInvDif", fn := fun _ => fun
  | [d1, d2] => { results := [.lit (.bool true)], args := [d1, d2] }
  | _ => none }
def fnInvDifRow : OpenClaim := { program := "ytnobfnjejffoiaa", sum := "41545a1a06b008e99fa9e8da52964618d6af4e40f0ddd431796cc2d8d995b946", func := "loop.example/wardstaff/laws.FnInvDif", spec := "fnInvDif", apart := false }
def FnInvDifSaid : Prop := fnInvDifRow.holds Try.pinned (OpenSpec.ofChange fnInvDifSpec)

/-- ITS FALSE NEIGHBOUR: 'it returns false'. Refute it at one input. -/
def fnInvDifWrong : ChangeSpec := { name := "fnInvDif", fn := fun _ => fun
  | [d1, d2] => { results := [.lit (.bool false)], args := [d1, d2] }
  | _ => none }
def FnInvDifWrongFalsely : Prop := fnInvDifRow.holds Try.pinned (OpenSpec.ofChange fnInvDifWrong)

/-- 'laws.FnExactFieldOk': WHATEVER THE INPUT: true; the input reads as it did. -/
def fnExactFieldOkSpec : ChangeSpec := { name := "fnExactFieldOk", fn := fun _ => fun
  | [d] => { results := [.lit (.bool true)], args := [d] }
  | _ => none }
def fnExactFieldOkRow : OpenClaim := { program := "ytnobfnjejffoiaa", sum := "41545a1a06b008e99fa9e8da52964618d6af4e40f0ddd431796cc2d8d995b946", func := "loop.example/wardstaff/laws.FnExactFieldOk", spec := "fnExactFieldOk", apart := false }
def FnExactFieldOkSaid : Prop := fnExactFieldOkRow.holds Try.pinned (OpenSpec.ofChange fnExactFieldOkSpec)

/-- ITS FALSE NEIGHBOUR: 'it returns false'. Refute it at one input. -/
def fnExactFieldOkWrong : ChangeSpec := { name := "fnExactFieldOk", fn := fun _ => fun
  | [d] => { results := [.lit (.bool false)], args := [d] }
  | _ => none }
def FnExactFieldOkWrongFalsely : Prop := fnExactFieldOkRow.holds Try.pinned (OpenSpec.ofChange fnExactFieldOkWrong)

/-- 'laws.FnExactFieldSum': WHATEVER THE INPUT: true; the input reads as it did. -/
def fnExactFieldSumSpec : ChangeSpec := { name := "fnExactFieldSum", fn := fun _ => fun
  | [d1, d2] => { results := [.lit (.bool true)], args := [d1, d2] }
  | _ => none }
def fnExactFieldSumRow : OpenClaim := { program := "ytnobfnjejffoiaa", sum := "41545a1a06b008e99fa9e8da52964618d6af4e40f0ddd431796cc2d8d995b946", func := "loop.example/wardstaff/laws.FnExactFieldSum", spec := "fnExactFieldSum", apart := false }
def FnExactFieldSumSaid : Prop := fnExactFieldSumRow.holds Try.pinned (OpenSpec.ofChange fnExactFieldSumSpec)

/-- ITS FALSE NEIGHBOUR: 'it returns false'. Refute it at one input. -/
def fnExactFieldSumWrong : ChangeSpec := { name := "fnExactFieldSum", fn := fun _ => fun
  | [d1, d2] => { results := [.lit (.bool false)], args := [d1, d2] }
  | _ => none }
def FnExactFieldSumWrongFalsely : Prop := fnExactFieldSumRow.holds Try.pinned (OpenSpec.ofChange fnExactFieldSumWrong)

/-- 'laws.FnExactFieldDif': WHATEVER THE INPUT: true; the input reads as it did. -/
def fnExactFieldDifSpec : ChangeSpec := { name := "fnExactFieldDif", fn := fun _ => fun
  | [d1, d2] => { results := [.lit (.bool true)], args := [d1, d2] }
  | _ => none }
def fnExactFieldDifRow : OpenClaim := { program := "ytnobfnjejffoiaa", sum := "41545a1a06b008e99fa9e8da52964618d6af4e40f0ddd431796cc2d8d995b946", func := "loop.example/wardstaff/laws.FnExactFieldDif", spec := "fnExactFieldDif", apart := false }
def FnExactFieldDifSaid : Prop := fnExactFieldDifRow.holds Try.pinned (OpenSpec.ofChange fnExactFieldDifSpec)

/-- ITS FALSE NEIGHBOUR: 'it returns false'. Refute it at one input. -/
def fnExactFieldDifWrong : ChangeSpec := { name := "fnExactFieldDif", fn := fun _ => fun
  | [d1, d2] => { results := [.lit (.bool false)], args := [d1, d2] }
  | _ => none }
def FnExactFieldDifWrongFalsely : Prop := fnExactFieldDifRow.holds Try.pinned (OpenSpec.ofChange fnExactFieldDifWrong)

/-- 'laws.FnExactFieldMul': WHATEVER THE INPUT: true; the input reads as it did. -/
def fnExactFieldMulSpec : ChangeSpec := { name := "fnExactFieldMul", fn := fun _ => fun
  | [d1, d2] => { results := [.lit (.bool true)], args := [d1, d2] }
  | _ => none }
def fnExactFieldMulRow : OpenClaim := { program := "ytnobfnjejffoiaa", sum := "41545a1a06b008e99fa9e8da52964618d6af4e40f0ddd431796cc2d8d995b946", func := "loop.example/wardstaff/laws.FnExactFieldMul", spec := "fnExactFieldMul", apart := false }
def FnExactFieldMulSaid : Prop := fnExactFieldMulRow.holds Try.pinned (OpenSpec.ofChange fnExactFieldMulSpec)

/-- ITS FALSE NEIGHBOUR: 'it returns false'. Refute it at one input. -/
def fnExactFieldMulWrong : ChangeSpec := { name := "fnExactFieldMul", fn := fun _ => fun
  | [d1, d2] => { results := [.lit (.bool false)], args := [d1, d2] }
  | _ => none }
def FnExactFieldMulWrongFalsely : Prop := fnExactFieldMulRow.holds Try.pinned (OpenSpec.ofChange fnExactFieldMulWrong)

/-- 'laws.FnExactFieldInv': WHATEVER THE INPUT: true; the input reads as it did. -/
def fnExactFieldInvSpec : ChangeSpec := { name := "fnExactFieldInv", fn := fun _ => fun
  | [d] => { results := [.lit (.bool true)], args := [d] }
  | _ => none }
def fnExactFieldInvRow : OpenClaim := { program := "ytnobfnjejffoiaa", sum := "41545a1a06b008e99fa9e8da52964618d6af4e40f0ddd431796cc2d8d995b946", func := "loop.example/wardstaff/laws.FnExactFieldInv", spec := "fnExactFieldInv", apart := false }
def FnExactFieldInvSaid : Prop := fnExactFieldInvRow.holds Try.pinned (OpenSpec.ofChange fnExactFieldInvSpec)

/-- ITS FALSE NEIGHBOUR: 'it returns false'. Refute it at one input. -/
def fnExactFieldInvWrong : ChangeSpec := { name := "fnExactFieldInv", fn := fun _ => fun
  | [d] => { results := [.lit (.bool false)], args := [d] }
  | _ => none }
def FnExactFieldInvWrongFalsely : Prop := fnExactFieldInvRow.holds Try.pinned (OpenSpec.ofChange fnExactFieldInvWrong)

/- THE SECOND FORM. 'bulk': how many values and letters a reading holds, each counted each time it is reached (what is shared counts as often as it is met; a slice's spare places count too). A statement '..UptoSaid' is the law's where the arguments, and the package variables that the reading takes, are together of bulk at most 1048576: NARROWER than '..Said'. Prove '..Said' where nothing that the law and all that it calls make is longer than what came in: it says more and counts as full. Else prove '..UptoSaid'. A law counts once. -/
mutual
def uptoBulk {H : Type} : DataW H → Nat
  | .lit (.string bytes) => bytes.length + 1
  | .lit _ => 1
  | .nil => 1
  | .ptr d => uptoBulk d + 1
  | .slice elems spare => uptoBulkAll elems + uptoBulkAll spare + 1
  | .agg parts => uptoBulkAll parts + 1
  | .iface _ d => uptoBulk d + 1
  | .map entries => uptoBulkEntries entries + 1
  | .held _ => 1
def uptoBulkAll {H : Type} : List (DataW H) → Nat
  | [] => 0
  | d :: r => uptoBulk d + uptoBulkAll r
def uptoBulkEntries {H : Type} : List (Lit × DataW H) → Nat
  | [] => 0
  | x :: r => uptoBulkEntry x + uptoBulkEntries r
def uptoBulkEntry {H : Type} : Lit × DataW H → Nat
  | (.string bytes, d) => bytes.length + uptoBulk d + 1
  | (_, d) => uptoBulk d + 1
 end
def uptoSmall : (H : Type) → List (DataW H) → Bool := fun _ ds => decide (uptoBulkAll ds ≤ 1048576)
def OpenSpec.upto (s : _root_.Go.ChangeSpec) : _root_.Go.OpenSpec := { _root_.Go.OpenSpec.ofChange s with cond := some uptoSmall }

/-- 'laws.FnFieldOk', WHERE WHAT IT READS IS OF BULK AT MOST 1048576: true; the input reads as it did. -/
def fnFieldOkUptoRow : OpenClaim := { program := "ytnobfnjejffoiaa", sum := "41545a1a06b008e99fa9e8da52964618d6af4e40f0ddd431796cc2d8d995b946", func := "loop.example/wardstaff/laws.FnFieldOk", spec := "fnFieldOk", apart := false, narrowed := true }
def FnFieldOkUptoSaid : Prop := fnFieldOkUptoRow.holds Try.pinned (OpenSpec.upto fnFieldOkSpec)

/-- 'laws.FnSumLaws', WHERE WHAT IT READS IS OF BULK AT MOST 1048576: true; the input reads as it did. -/
def fnSumLawsUptoRow : OpenClaim := { program := "ytnobfnjejffoiaa", sum := "41545a1a06b008e99fa9e8da52964618d6af4e40f0ddd431796cc2d8d995b946", func := "loop.example/wardstaff/laws.FnSumLaws", spec := "fnSumLaws", apart := false, narrowed := true }
def FnSumLawsUptoSaid : Prop := fnSumLawsUptoRow.holds Try.pinned (OpenSpec.upto fnSumLawsSpec)

/-- 'laws.FnSumDif', WHERE WHAT IT READS IS OF BULK AT MOST 1048576: true; the input reads as it did. -/
def fnSumDifUptoRow : OpenClaim := { program := "ytnobfnjejffoiaa", sum := "41545a1a06b008e99fa9e8da52964618d6af4e40f0ddd431796cc2d8d995b946", func := "loop.example/wardstaff/laws.FnSumDif", spec := "fnSumDif", apart := false, narrowed := true }
def FnSumDifUptoSaid : Prop := fnSumDifUptoRow.holds Try.pinned (OpenSpec.upto fnSumDifSpec)

/-- 'laws.FnMulLaws', WHERE WHAT IT READS IS OF BULK AT MOST 1048576: true; the input reads as it did. -/
def fnMulLawsUptoRow : OpenClaim := { program := "ytnobfnjejffoiaa", sum := "41545a1a06b008e99fa9e8da52964618d6af4e40f0ddd431796cc2d8d995b946", func := "loop.example/wardstaff/laws.FnMulLaws", spec := "fnMulLaws", apart := false, narrowed := true }
def FnMulLawsUptoSaid : Prop := fnMulLawsUptoRow.holds Try.pinned (OpenSpec.upto fnMulLawsSpec)

/-- 'laws.FnMulNone', WHERE WHAT IT READS IS OF BULK AT MOST 1048576: true; the input reads as it did. -/
def fnMulNoneUptoRow : OpenClaim := { program := "ytnobfnjejffoiaa", sum := "41545a1a06b008e99fa9e8da52964618d6af4e40f0ddd431796cc2d8d995b946", func := "loop.example/wardstaff/laws.FnMulNone", spec := "fnMulNone", apart := false, narrowed := true }
def FnMulNoneUptoSaid : Prop := fnMulNoneUptoRow.holds Try.pinned (OpenSpec.upto fnMulNoneSpec)

/-- 'laws.FnInv', WHERE WHAT IT READS IS OF BULK AT MOST 1048576: true; the input reads as it did. -/
def fnInvUptoRow : OpenClaim := { program := "ytnobfnjejffoiaa", sum := "41545a1a06b008e99fa9e8da52964618d6af4e40f0ddd431796cc2d8d995b946", func := "loop.example/wardstaff/laws.FnInv", spec := "fnInv", apart := false, narrowed := true }
def FnInvUptoSaid : Prop := fnInvUptoRow.holds Try.pinned (OpenSpec.upto fnInvSpec)

/-- 'laws.FnMulDif', WHERE WHAT IT READS IS OF BULK AT MOST 1048576: true; the input reads as it did. -/
def fnMulDifUptoRow : OpenClaim := { program := "ytnobfnjejffoiaa", sum := "41545a1a06b008e99fa9e8da52964618d6af4e40f0ddd431796cc2d8d995b946", func := "loop.example/wardstaff/laws.FnMulDif", spec := "fnMulDif", apart := false, narrowed := true }
def FnMulDifUptoSaid : Prop := fnMulDifUptoRow.holds Try.pinned (OpenSpec.upto fnMulDifSpec)

/-- 'laws.FnSquares', WHERE WHAT IT READS IS OF BULK AT MOST 1048576: true; the input reads as it did. -/
def fnSquaresUptoRow : OpenClaim := { program := "ytnobfnjejffoiaa", sum := "41545a1a06b008e99fa9e8da52964618d6af4e40f0ddd431796cc2d8d995b946", func := "loop.example/wardstaff/laws.FnSquares", spec := "fnSquares", apart := false, narrowed := true }
def FnSquaresUptoSaid : Prop := fnSquaresUptoRow.holds Try.pinned (OpenSpec.upto fnSquaresSpec)

/-- 'laws.FnDifZero', WHERE WHAT IT READS IS OF BULK AT MOST 1048576: true; the input reads as it did. -/
def fnDifZeroUptoRow : OpenClaim := { program := "ytnobfnjejffoiaa", sum := "41545a1a06b008e99fa9e8da52964618d6af4e40f0ddd431796cc2d8d995b946", func := "loop.example/wardstaff/laws.FnDifZero", spec := "fnDifZero", apart := false, narrowed := true }
def FnDifZeroUptoSaid : Prop := fnDifZeroUptoRow.holds Try.pinned (OpenSpec.upto fnDifZeroSpec)

/-- 'laws.FnInvDif', WHERE WHAT IT READS IS OF BULK AT MOST 1048576: true; the input reads as it did. -/
def fnInvDifUptoRow : OpenClaim := { program := "ytnobfnjejffoiaa", sum := "41545a1a06b008e99fa9e8da52964618d6af4e40f0ddd431796cc2d8d995b946", func := "loop.example/wardstaff/laws.FnInvDif", spec := "fnInvDif", apart := false, narrowed := true }
def FnInvDifUptoSaid : Prop := fnInvDifUptoRow.holds Try.pinned (OpenSpec.upto fnInvDifSpec)

/-- 'laws.FnExactFieldOk', WHERE WHAT IT READS IS OF BULK AT MOST 1048576: true; the input reads as it did. -/
def fnExactFieldOkUptoRow : OpenClaim := { program := "ytnobfnjejffoiaa", sum := "41545a1a06b008e99fa9e8da52964618d6af4e40f0ddd431796cc2d8d995b946", func := "loop.example/wardstaff/laws.FnExactFieldOk", spec := "fnExactFieldOk", apart := false, narrowed := true }
def FnExactFieldOkUptoSaid : Prop := fnExactFieldOkUptoRow.holds Try.pinned (OpenSpec.upto fnExactFieldOkSpec)

/-- 'laws.FnExactFieldSum', WHERE WHAT IT READS IS OF BULK AT MOST 1048576: true; the input reads as it did. -/
def fnExactFieldSumUptoRow : OpenClaim := { program := "ytnobfnjejffoiaa", sum := "41545a1a06b008e99fa9e8da52964618d6af4e40f0ddd431796cc2d8d995b946", func := "loop.example/wardstaff/laws.FnExactFieldSum", spec := "fnExactFieldSum", apart := false, narrowed := true }
def FnExactFieldSumUptoSaid : Prop := fnExactFieldSumUptoRow.holds Try.pinned (OpenSpec.upto fnExactFieldSumSpec)

/-- 'laws.FnExactFieldDif', WHERE WHAT IT READS IS OF BULK AT MOST 1048576: true; the input reads as it did. -/
def fnExactFieldDifUptoRow : OpenClaim := { program := "ytnobfnjejffoiaa", sum := "41545a1a06b008e99fa9e8da52964618d6af4e40f0ddd431796cc2d8d995b946", func := "loop.example/wardstaff/laws.FnExactFieldDif", spec := "fnExactFieldDif", apart := false, narrowed := true }
def FnExactFieldDifUptoSaid : Prop := fnExactFieldDifUptoRow.holds Try.pinned (OpenSpec.upto fnExactFieldDifSpec)

/-- 'laws.FnExactFieldMul', WHERE WHAT IT READS IS OF BULK AT MOST 1048576: true; the input reads as it did. -/
def fnExactFieldMulUptoRow : OpenClaim := { program := "ytnobfnjejffoiaa", sum := "41545a1a06b008e99fa9e8da52964618d6af4e40f0ddd431796cc2d8d995b946", func := "loop.example/wardstaff/laws.FnExactFieldMul", spec := "fnExactFieldMul", apart := false, narrowed := true }
def FnExactFieldMulUptoSaid : Prop := fnExactFieldMulUptoRow.holds Try.pinned (OpenSpec.upto fnExactFieldMulSpec)

/-- 'laws.FnExactFieldInv', WHERE WHAT IT READS IS OF BULK AT MOST 1048576: true; the input reads as it did. -/
def fnExactFieldInvUptoRow : OpenClaim := { program := "ytnobfnjejffoiaa", sum := "41545a1a06b008e99fa9e8da52964618d6af4e40f0ddd431796cc2d8d995b946", func := "loop.example/wardstaff/laws.FnExactFieldInv", spec := "fnExactFieldInv", apart := false, narrowed := true }
def FnExactFieldInvUptoSaid : Prop := fnExactFieldInvUptoRow.holds Try.pinned (OpenSpec.upto fnExactFieldInvSpec)

end Rows
end Go.Proofs.Ytnobfnjejffoiaa
