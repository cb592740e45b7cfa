/-
  No cell of these rows narrows 'for every input' (looked for: loops, veiled, ifaces, maps, wideKeys, modest, calm, conditions, laid).
  DERIVED. THE GIVEN ROWS OF THIS SEAT. 14 by the template 'for every input the law returns true; each argument reads behind the call as it read before'; 0 by the template 'total and deterministic' (their statements: YtpkpdococokaaaaTotals.lean).
  GIVEN WITH THE SEED: the statements are not yours to turn. If you find one false, say at which input.
  Laid BY PROGRAM, IN A SANDBOX (cutbox-rows.mjs): the forced cells as the released guide's own fill.sh prints them over the translation a86995df60127032… (all of the seat's roots in one cut). By AI agents, Wed Nov 11 2026. No macro, syntax, notation, axiom, sorry.
-/
import Derived.Test.YtpkpdococokaaaaChecked
import GoSem.Claim
import GoSem.ClaimJoined
import GoSem.ClaimMapViews
import Derived.JoinedTies
import Derived.KernelRfl
namespace Go.Proofs.Ytpkpdococokaaaa
/- THE CELL 'sum', in the pinned program and in every row, IS THE sha256 OF THE DUMP (.gsa) THAT YtpkpdococokaaaaProg.lean LOADS. Nothing in Lean hashes anything: it is a label: what it is worth is what the hold of that sum in a sandbox is worth. -/
noncomputable def Try.pinned : Pinned := { name := "ytpkpdococokaaaa", sum := "a86995df60127032eb1289fccd5292e167ec44115add4f05dfb49f3b1af37e7b", checked := Try.checked }
namespace Rows
def none {H : Type} : Left H := { results := [], args := [] }

/-- 'laws.FnGroupOk': WHATEVER THE INPUT: true; the input reads as it did. -/
def fnGroupOkSpec : ChangeSpec := { name := "fnGroupOk", fn := fun _ => fun
  | [d] => { results := [.lit (.bool true)], args := [d] }
  | _ => none }
def fnGroupOkRow : OpenClaim := { program := "ytpkpdococokaaaa", sum := "a86995df60127032eb1289fccd5292e167ec44115add4f05dfb49f3b1af37e7b", func := "loop.example/wardstaff/laws.FnGroupOk", spec := "fnGroupOk", apart := false }
def FnGroupOkSaid : Prop := fnGroupOkRow.holds Try.pinned (OpenSpec.ofChange fnGroupOkSpec)

/-- ITS FALSE NEIGHBOUR: 'it returns false'. Refute it at one input. -/
def fnGroupOkWrong : ChangeSpec := { name := "fnGroupOk", fn := fun _ => fun
  | [d] => { results := [.lit (.bool false)], args := [d] }
  | _ => none }
def FnGroupOkWrongFalsely : Prop := fnGroupOkRow.holds Try.pinned (OpenSpec.ofChange fnGroupOkWrong)

/-- 'laws.FnGroupMul': WHATEVER THE INPUT: true; the input reads as it did. -/
def fnGroupMulSpec : ChangeSpec := { name := "fnGroupMul", fn := fun _ => fun
  | [d1, d2] => { results := [.lit (.bool true)], args := [d1, d2] }
  | _ => none }
def fnGroupMulRow : OpenClaim := { program := "ytpkpdococokaaaa", sum := "a86995df60127032eb1289fccd5292e167ec44115add4f05dfb49f3b1af37e7b", func := "loop.example/wardstaff/laws.FnGroupMul", spec := "fnGroupMul", apart := false }
def FnGroupMulSaid : Prop := fnGroupMulRow.holds Try.pinned (OpenSpec.ofChange fnGroupMulSpec)

/-- ITS FALSE NEIGHBOUR: 'it returns false'. Refute it at one input. -/
def fnGroupMulWrong : ChangeSpec := { name := "fnGroupMul", fn := fun _ => fun
  | [d1, d2] => { results := [.lit (.bool false)], args := [d1, d2] }
  | _ => none }
def FnGroupMulWrongFalsely : Prop := fnGroupMulRow.holds Try.pinned (OpenSpec.ofChange fnGroupMulWrong)

/-- 'laws.FnGroupOf': WHATEVER THE INPUT: true; the input reads as it did. -/
def fnGroupOfSpec : ChangeSpec := { name := "fnGroupOf", fn := fun _ => fun
  | [d1, d2] => { results := [.lit (.bool true)], args := [d1, d2] }
  | _ => none }
def fnGroupOfRow : OpenClaim := { program := "ytpkpdococokaaaa", sum := "a86995df60127032eb1289fccd5292e167ec44115add4f05dfb49f3b1af37e7b", func := "loop.example/wardstaff/laws.FnGroupOf", spec := "fnGroupOf", apart := false }
def FnGroupOfSaid : Prop := fnGroupOfRow.holds Try.pinned (OpenSpec.ofChange fnGroupOfSpec)

/-- ITS FALSE NEIGHBOUR: 'it returns false'. Refute it at one input. -/
def fnGroupOfWrong : ChangeSpec := { name := "fnGroupOf", fn := fun _ => fun
  | [d1, d2] => { results := [.lit (.bool false)], args := [d1, d2] }
  | _ => none }
def FnGroupOfWrongFalsely : Prop := fnGroupOfRow.holds Try.pinned (OpenSpec.ofChange fnGroupOfWrong)

/-- 'laws.FnGroupPow': WHATEVER THE INPUT: true; the input reads as it did. -/
def fnGroupPowSpec : ChangeSpec := { name := "fnGroupPow", fn := fun _ => fun
  | [d1, d2] => { results := [.lit (.bool true)], args := [d1, d2] }
  | _ => none }
def fnGroupPowRow : OpenClaim := { program := "ytpkpdococokaaaa", sum := "a86995df60127032eb1289fccd5292e167ec44115add4f05dfb49f3b1af37e7b", func := "loop.example/wardstaff/laws.FnGroupPow", spec := "fnGroupPow", apart := false }
def FnGroupPowSaid : Prop := fnGroupPowRow.holds Try.pinned (OpenSpec.ofChange fnGroupPowSpec)

/-- ITS FALSE NEIGHBOUR: 'it returns false'. Refute it at one input. -/
def fnGroupPowWrong : ChangeSpec := { name := "fnGroupPow", fn := fun _ => fun
  | [d1, d2] => { results := [.lit (.bool false)], args := [d1, d2] }
  | _ => none }
def FnGroupPowWrongFalsely : Prop := fnGroupPowRow.holds Try.pinned (OpenSpec.ofChange fnGroupPowWrong)

/-- 'laws.FnPowMul': WHATEVER THE INPUT: true; the input reads as it did. -/
def fnPowMulSpec : ChangeSpec := { name := "fnPowMul", fn := fun _ => fun
  | [d1, d2] => { results := [.lit (.bool true)], args := [d1, d2] }
  | _ => none }
def fnPowMulRow : OpenClaim := { program := "ytpkpdococokaaaa", sum := "a86995df60127032eb1289fccd5292e167ec44115add4f05dfb49f3b1af37e7b", func := "loop.example/wardstaff/laws.FnPowMul", spec := "fnPowMul", apart := false }
def FnPowMulSaid : Prop := fnPowMulRow.holds Try.pinned (OpenSpec.ofChange fnPowMulSpec)

/-- ITS FALSE NEIGHBOUR: 'it returns false'. Refute it at one input. -/
def fnPowMulWrong : ChangeSpec := { name := "fnPowMul", fn := fun _ => fun
  | [d1, d2] => { results := [.lit (.bool false)], args := [d1, d2] }
  | _ => none }
def FnPowMulWrongFalsely : Prop := fnPowMulRow.holds Try.pinned (OpenSpec.ofChange fnPowMulWrong)

/-- 'laws.FnPowOne': WHATEVER THE INPUT: true; the input reads as it did. -/
def fnPowOneSpec : ChangeSpec := { name := "fnPowOne", fn := fun _ => fun
  | [d1, d2] => { results := [.lit (.bool true)], args := [d1, d2] }
  | _ => none }
def fnPowOneRow : OpenClaim := { program := "ytpkpdococokaaaa", sum := "a86995df60127032eb1289fccd5292e167ec44115add4f05dfb49f3b1af37e7b", func := "loop.example/wardstaff/laws.FnPowOne", spec := "fnPowOne", apart := false }
def FnPowOneSaid : Prop := fnPowOneRow.holds Try.pinned (OpenSpec.ofChange fnPowOneSpec)

/-- ITS FALSE NEIGHBOUR: 'it returns false'. Refute it at one input. -/
def fnPowOneWrong : ChangeSpec := { name := "fnPowOne", fn := fun _ => fun
  | [d1, d2] => { results := [.lit (.bool false)], args := [d1, d2] }
  | _ => none }
def FnPowOneWrongFalsely : Prop := fnPowOneRow.holds Try.pinned (OpenSpec.ofChange fnPowOneWrong)

/-- 'laws.FnGroupInv': WHATEVER THE INPUT: true; the input reads as it did. -/
def fnGroupInvSpec : ChangeSpec := { name := "fnGroupInv", fn := fun _ => fun
  | [d1, d2] => { results := [.lit (.bool true)], args := [d1, d2] }
  | _ => none }
def fnGroupInvRow : OpenClaim := { program := "ytpkpdococokaaaa", sum := "a86995df60127032eb1289fccd5292e167ec44115add4f05dfb49f3b1af37e7b", func := "loop.example/wardstaff/laws.FnGroupInv", spec := "fnGroupInv", apart := false }
def FnGroupInvSaid : Prop := fnGroupInvRow.holds Try.pinned (OpenSpec.ofChange fnGroupInvSpec)

/-- ITS FALSE NEIGHBOUR: 'it returns false'. Refute it at one input. -/
def fnGroupInvWrong : ChangeSpec := { name := "fnGroupInv", fn := fun _ => fun
  | [d1, d2] => { results := [.lit (.bool false)], args := [d1, d2] }
  | _ => none }
def FnGroupInvWrongFalsely : Prop := fnGroupInvRow.holds Try.pinned (OpenSpec.ofChange fnGroupInvWrong)

/-- 'laws.FnGroupTurn': WHATEVER THE INPUT: true; the input reads as it did. -/
def fnGroupTurnSpec : ChangeSpec := { name := "fnGroupTurn", fn := fun _ => fun
  | [d] => { results := [.lit (.bool true)], args := [d] }
  | _ => none }
def fnGroupTurnRow : OpenClaim := { program := "ytpkpdococokaaaa", sum := "a86995df60127032eb1289fccd5292e167ec44115add4f05dfb49f3b1af37e7b", func := "loop.example/wardstaff/laws.FnGroupTurn", spec := "fnGroupTurn", apart := false }
def FnGroupTurnSaid : Prop := fnGroupTurnRow.holds Try.pinned (OpenSpec.ofChange fnGroupTurnSpec)

/-- ITS FALSE NEIGHBOUR: 'it returns false'. Refute it at one input. -/
def fnGroupTurnWrong : ChangeSpec := { name := "fnGroupTurn", fn := fun _ => fun
  | [d] => { results := [.lit (.bool false)], args := [d] }
  | _ => none }
def FnGroupTurnWrongFalsely : Prop := fnGroupTurnRow.holds Try.pinned (OpenSpec.ofChange fnGroupTurnWrong)

/-- 'laws.FnGroupDif': WHATEVER THE INPUT: true; the input reads as it did. -/
def fnGroupDifSpec : ChangeSpec := { name := "fnGroupDif", fn := fun _ => fun
  | [d1, d2] => { results := [.lit (.bool true)], args := [d1, d2] }
  | _ => none }
def fnGroupDifRow : OpenClaim := { program := "ytpkpdococokaaaa", sum := "a86995df60127032eb1289fccd5292e167ec44115add4f05dfb49f3b1af37e7b", func := "loop.example/wardstaff/laws.FnGroupDif", spec := "fnGroupDif", apart := false }
def FnGroupDifSaid : Prop := fnGroupDifRow.holds Try.pinned (OpenSpec.ofChange fnGroupDifSpec)

/-- ITS FALSE NEIGHBOUR: 'it returns false'. Refute it at one input. -/
def fnGroupDifWrong : ChangeSpec := { name := "fnGroupDif", fn := fun _ => fun
  | [d1, d2] => { results := [.lit (.bool false)], args := [d1, d2] }
  | _ => none }
def FnGroupDifWrongFalsely : Prop := fnGroupDifRow.holds Try.pinned (OpenSpec.ofChange fnGroupDifWrong)

/-- 'laws.FnExactGroupOk': WHATEVER THE INPUT: true; the input reads as it did. -/
def fnExactGroupOkSpec : ChangeSpec := { name := "fnExactGroupOk", fn := fun _ => fun
  | [d] => { results := [.lit (.bool true)], args := [d] }
  | _ => none }
def fnExactGroupOkRow : OpenClaim := { program := "ytpkpdococokaaaa", sum := "a86995df60127032eb1289fccd5292e167ec44115add4f05dfb49f3b1af37e7b", func := "loop.example/wardstaff/laws.FnExactGroupOk", spec := "fnExactGroupOk", apart := false }
def FnExactGroupOkSaid : Prop := fnExactGroupOkRow.holds Try.pinned (OpenSpec.ofChange fnExactGroupOkSpec)

/-- ITS FALSE NEIGHBOUR: 'it returns false'. Refute it at one input. -/
def fnExactGroupOkWrong : ChangeSpec := { name := "fnExactGroupOk", fn := fun _ => fun
  | [d] => { results := [.lit (.bool false)], args := [d] }
  | _ => none }
def FnExactGroupOkWrongFalsely : Prop := fnExactGroupOkRow.holds Try.pinned (OpenSpec.ofChange fnExactGroupOkWrong)

/-- 'laws.FnExactGroupMul': WHATEVER THE INPUT: true; the input reads as it did. -/
def fnExactGroupMulSpec : ChangeSpec := { name := "fnExactGroupMul", fn := fun _ => fun
  | [d1, d2] => { results := [.lit (.bool true)], args := [d1, d2] }
  | _ => none }
def fnExactGroupMulRow : OpenClaim := { program := "ytpkpdococokaaaa", sum := "a86995df60127032eb1289fccd5292e167ec44115add4f05dfb49f3b1af37e7b", func := "loop.example/wardstaff/laws.FnExactGroupMul", spec := "fnExactGroupMul", apart := false }
def FnExactGroupMulSaid : Prop := fnExactGroupMulRow.holds Try.pinned (OpenSpec.ofChange fnExactGroupMulSpec)

/-- ITS FALSE NEIGHBOUR: 'it returns false'. Refute it at one input. -/
def fnExactGroupMulWrong : ChangeSpec := { name := "fnExactGroupMul", fn := fun _ => fun
  | [d1, d2] => { results := [.lit (.bool false)], args := [d1, d2] }
  | _ => none }
def FnExactGroupMulWrongFalsely : Prop := fnExactGroupMulRow.holds Try.pinned (OpenSpec.ofChange fnExactGroupMulWrong)

/-- 'laws.FnExactGroupPow': WHATEVER THE INPUT: true; the input reads as it did. -/
def fnExactGroupPowSpec : ChangeSpec := { name := "fnExactGroupPow", fn := fun _ => fun
  | [d1, d2] => { results := [.lit (.bool true)], args := [d1, d2] }
  | _ => none }
def fnExactGroupPowRow : OpenClaim := { program := "ytpkpdococokaaaa", sum := "a86995df60127032eb1289fccd5292e167ec44115add4f05dfb49f3b1af37e7b", func := "loop.example/wardstaff/laws.FnExactGroupPow", spec := "fnExactGroupPow", apart := false }
def FnExactGroupPowSaid : Prop := fnExactGroupPowRow.holds Try.pinned (OpenSpec.ofChange fnExactGroupPowSpec)

/-- ITS FALSE NEIGHBOUR: 'it returns false'. Refute it at one input. -/
def fnExactGroupPowWrong : ChangeSpec := { name := "fnExactGroupPow", fn := fun _ => fun
  | [d1, d2] => { results := [.lit (.bool false)], args := [d1, d2] }
  | _ => none }
def FnExactGroupPowWrongFalsely : Prop := fnExactGroupPowRow.holds Try.pinned (OpenSpec.ofChange fnExactGroupPowWrong)

/-- 'laws.FnExactGroupOf': WHATEVER THE INPUT: true; the input reads as it did. -/
def fnExactGroupOfSpec : ChangeSpec := { name := "fnExactGroupOf", fn := fun _ => fun
  | [d] => { results := [.lit (.bool true)], args := [d] }
  | _ => none }
def fnExactGroupOfRow : OpenClaim := { program := "ytpkpdococokaaaa", sum := "a86995df60127032eb1289fccd5292e167ec44115add4f05dfb49f3b1af37e7b", func := "loop.example/wardstaff/laws.FnExactGroupOf", spec := "fnExactGroupOf", apart := false }
def FnExactGroupOfSaid : Prop := fnExactGroupOfRow.holds Try.pinned (OpenSpec.ofChange fnExactGroupOfSpec)

/-- ITS FALSE NEIGHBOUR: 'it returns false'. Refute it at one input. -/
def fnExactGroupOfWrong : ChangeSpec := { name := "fnExactGroupOf", fn := fun _ => fun
  | [d] => { results := [.lit (.bool false)], args := [d] }
  | _ => none }
def FnExactGroupOfWrongFalsely : Prop := fnExactGroupOfRow.holds Try.pinned (OpenSpec.ofChange fnExactGroupOfWrong)

/-- 'laws.FnExactGroupInv': WHATEVER THE INPUT: true; the input reads as it did. -/
def fnExactGroupInvSpec : ChangeSpec := { name := "fnExactGroupInv", fn := fun _ => fun
  | [d] => { results := [.lit (.bool true)], args := [d] }
  | _ => none }
def fnExactGroupInvRow : OpenClaim := { program := "ytpkpdococokaaaa", sum := "a86995df60127032eb1289fccd5292e167ec44115add4f05dfb49f3b1af37e7b", func := "loop.example/wardstaff/laws.FnExactGroupInv", spec := "fnExactGroupInv", apart := false }
def FnExactGroupInvSaid : Prop := fnExactGroupInvRow.holds Try.pinned (OpenSpec.ofChange fnExactGroupInvSpec)

/-- ITS FALSE NEIGHBOUR: 'it returns false'. Refute it at one input. -/
def fnExactGroupInvWrong : ChangeSpec := { name := "fnExactGroupInv", fn := fun _ => fun
  | [d] => { results := [.lit (.bool false)], args := [d] }
  | _ => none }
def FnExactGroupInvWrongFalsely : Prop := fnExactGroupInvRow.holds Try.pinned (OpenSpec.ofChange fnExactGroupInvWrong)

/- THE SECOND FORM. 'bulk': how many values and letters a reading holds, each counted each time it is reached (what is shared counts as often as it is met; a slice's spare places count too). A statement '..UptoSaid' is the law's where the arguments, and the package variables that the reading takes, are together of bulk at most 1048576: NARROWER than '..Said'. Prove '..Said' where nothing that the law and all that it calls make is longer than what came in: it says more and counts as full. Else prove '..UptoSaid'. A law counts once. -/
mutual
def uptoBulk {H : Type} : DataW H → Nat
  | .lit (.string bytes) => bytes.length + 1
  | .lit _ => 1
  | .nil => 1
  | .ptr d => uptoBulk d + 1
  | .slice elems spare => uptoBulkAll elems + uptoBulkAll spare + 1
  | .agg parts => uptoBulkAll parts + 1
  | .iface _ d => uptoBulk d + 1
  | .map entries => uptoBulkEntries entries + 1
  | .held _ => 1
def uptoBulkAll {H : Type} : List (DataW H) → Nat
  | [] => 0
  | d :: r => uptoBulk d + uptoBulkAll r
def uptoBulkEntries {H : Type} : List (Lit × DataW H) → Nat
  | [] => 0
  | x :: r => uptoBulkEntry x + uptoBulkEntries r
def uptoBulkEntry {H : Type} : Lit × DataW H → Nat
  | (.string bytes, d) => bytes.length + uptoBulk d + 1
  | (_, d) => uptoBulk d + 1
 end
def uptoSmall : (H : Type) → List (DataW H) → Bool := fun _ ds => decide (uptoBulkAll ds ≤ 1048576)
def OpenSpec.upto (s : _root_.Go.ChangeSpec) : _root_.Go.OpenSpec := { _root_.Go.OpenSpec.ofChange s with cond := some uptoSmall }

/-- 'laws.FnGroupOk', WHERE WHAT IT READS IS OF BULK AT MOST 1048576: true; the input reads as it did. -/
def fnGroupOkUptoRow : OpenClaim := { program := "ytpkpdococokaaaa", sum := "a86995df60127032eb1289fccd5292e167ec44115add4f05dfb49f3b1af37e7b", func := "loop.example/wardstaff/laws.FnGroupOk", spec := "fnGroupOk", apart := false, narrowed := true }
def FnGroupOkUptoSaid : Prop := fnGroupOkUptoRow.holds Try.pinned (OpenSpec.upto fnGroupOkSpec)

/-- 'laws.FnGroupMul', WHERE WHAT IT READS IS OF BULK AT MOST 1048576: true; the input reads as it did. -/
def fnGroupMulUptoRow : OpenClaim := { program := "ytpkpdococokaaaa", sum := "a86995df60127032eb1289fccd5292e167ec44115add4f05dfb49f3b1af37e7b", func := "loop.example/wardstaff/laws.FnGroupMul", spec := "fnGroupMul", apart := false, narrowed := true }
def FnGroupMulUptoSaid : Prop := fnGroupMulUptoRow.holds Try.pinned (OpenSpec.upto fnGroupMulSpec)

/-- 'laws.FnGroupOf', WHERE WHAT IT READS IS OF BULK AT MOST 1048576: true; the input reads as it did. -/
def fnGroupOfUptoRow : OpenClaim := { program := "ytpkpdococokaaaa", sum := "a86995df60127032eb1289fccd5292e167ec44115add4f05dfb49f3b1af37e7b", func := "loop.example/wardstaff/laws.FnGroupOf", spec := "fnGroupOf", apart := false, narrowed := true }
def FnGroupOfUptoSaid : Prop := fnGroupOfUptoRow.holds Try.pinned (OpenSpec.upto fnGroupOfSpec)

/-- 'laws.FnGroupPow', WHERE WHAT IT READS IS OF BULK AT MOST 1048576: true; the input reads as it did. -/
def fnGroupPowUptoRow : OpenClaim := { program := "ytpkpdococokaaaa", sum := "a86995df60127032eb1289fccd5292e167ec44115add4f05dfb49f3b1af37e7b", func := "loop.example/wardstaff/laws.FnGroupPow", spec := "fnGroupPow", apart := false, narrowed := true }
def FnGroupPowUptoSaid : Prop := fnGroupPowUptoRow.holds Try.pinned (OpenSpec.upto fnGroupPowSpec)

/-- 'laws.FnPowMul', WHERE WHAT IT READS IS OF BULK AT MOST 1048576: true; the input reads as it did. -/
def fnPowMulUptoRow : OpenClaim := { program := "ytpkpdococokaaaa", sum := "a86995df60127032eb1289fccd5292e167ec44115add4f05dfb49f3b1af37e7b", func := "loop.example/wardstaff/laws.FnPowMul", spec := "fnPowMul", apart := false, narrowed := true }
def FnPowMulUptoSaid : Prop := fnPowMulUptoRow.holds Try.pinned (OpenSpec.upto fnPowMulSpec)

/-- 'laws.FnPowOne', WHERE WHAT IT READS IS OF BULK AT MOST 1048576: true; the input reads as it did. -/
def fnPowOneUptoRow : OpenClaim := { program := "ytpkpdococokaaaa", sum := "a86995df60127032eb1289fccd5292e167ec44115add4f05dfb49f3b1af37e7b", func := "loop.example/wardstaff/laws.FnPowOne", spec := "fnPowOne", apart := false, narrowed := true }
def FnPowOneUptoSaid : Prop := fnPowOneUptoRow.holds Try.pinned (OpenSpec.upto fnPowOneSpec)

/-- 'laws.FnGroupInv', WHERE WHAT IT READS IS OF BULK AT MOST 1048576: true; the input reads as it did. -/
def fnGroupInvUptoRow : OpenClaim := { program := "ytpkpdococokaaaa", sum := "a86995df60127032eb1289fccd5292e167ec44115add4f05dfb49f3b1af37e7b", func := "loop.example/wardstaff/laws.FnGroupInv", spec := "fnGroupInv", apart := false, narrowed := true }
def FnGroupInvUptoSaid : Prop := fnGroupInvUptoRow.holds Try.pinned (OpenSpec.upto fnGroupInvSpec)

/-- 'laws.FnGroupTurn', WHERE WHAT IT READS IS OF BULK AT MOST 1048576: true; the input reads as it did. -/
def fnGroupTurnUptoRow : OpenClaim := { program := "ytpkpdococokaaaa", sum := "a86995df60127032eb1289fccd5292e167ec44115add4f05dfb49f3b1af37e7b", func := "loop.example/wardstaff/laws.FnGroupTurn", spec := "fnGroupTurn", apart := false, narrowed := true }
def FnGroupTurnUptoSaid : Prop := fnGroupTurnUptoRow.holds Try.pinned (OpenSpec.upto fnGroupTurnSpec)

/-- 'laws.FnGroupDif', WHERE WHAT IT READS IS OF BULK AT MOST 1048576: true; the input reads as it did. -/
def fnGroupDifUptoRow : OpenClaim := { program := "ytpkpdococokaaaa", sum := "a86995df60127032eb1289fccd5292e167ec44115add4f05dfb49f3b1af37e7b", func := "loop.example/wardstaff/laws.FnGroupDif", spec := "fnGroupDif", apart := false, narrowed := true }
def FnGroupDifUptoSaid : Prop := fnGroupDifUptoRow.holds Try.pinned (OpenSpec.upto fnGroupDifSpec)

/-- 'laws.FnExactGroupOk', WHERE WHAT IT READS IS OF BULK AT MOST 1048576: true; the input reads as it did. -/
def fnExactGroupOkUptoRow : OpenClaim := { program := "ytpkpdococokaaaa", sum := "a86995df60127032eb1289fccd5292e167ec44115add4f05dfb49f3b1af37e7b", func := "loop.example/wardstaff/laws.FnExactGroupOk", spec := "fnExactGroupOk", apart := false, narrowed := true }
def FnExactGroupOkUptoSaid : Prop := fnExactGroupOkUptoRow.holds Try.pinned (OpenSpec.upto fnExactGroupOkSpec)

/-- 'laws.FnExactGroupMul', WHERE WHAT IT READS IS OF BULK AT MOST 1048576: true; the input reads as it did. -/
def fnExactGroupMulUptoRow : OpenClaim := { program := "ytpkpdococokaaaa", sum := "a86995df60127032eb1289fccd5292e167ec44115add4f05dfb49f3b1af37e7b", func := "loop.example/wardstaff/laws.FnExactGroupMul", spec := "fnExactGroupMul", apart := false, narrowed := true }
def FnExactGroupMulUptoSaid : Prop := fnExactGroupMulUptoRow.holds Try.pinned (OpenSpec.upto fnExactGroupMulSpec)

/-- 'laws.FnExactGroupPow', WHERE WHAT IT READS IS OF BULK AT MOST 1048576: true; the input reads as it did. -/
def fnExactGroupPowUptoRow : OpenClaim := { program := "ytpkpdococokaaaa", sum := "a86995df60127032eb1289fccd5292e167ec44115add4f05dfb49f3b1af37e7b", func := "loop.example/wardstaff/laws.FnExactGroupPow", spec := "fnExactGroupPow", apart := false, narrowed := true }
def FnExactGroupPowUptoSaid : Prop := fnExactGroupPowUptoRow.holds Try.pinned (OpenSpec.upto fnExactGroupPowSpec)

/-- 'laws.FnExactGroupOf', WHERE WHAT IT READS IS OF BULK AT MOST 1048576: true; the input reads as it did. -/
def fnExactGroupOfUptoRow : OpenClaim := { program := "ytpkpdococokaaaa", sum := "a86995df60127032eb1289fccd5292e167ec44115add4f05dfb49f3b1af37e7b", func := "loop.example/wardstaff/laws.FnExactGroupOf", spec := "fnExactGroupOf", apart := false, narrowed := true }
def FnExactGroupOfUptoSaid : Prop := fnExactGroupOfUptoRow.holds Try.pinned (OpenSpec.upto fnExactGroupOfSpec)

/-- 'laws.FnExactGroupInv', WHERE WHAT IT READS IS OF BULK AT MOST 1048576: true; the input reads as it did. -/
def fnExactGroupInvUptoRow : OpenClaim := { program := "ytpkpdococokaaaa", sum := "a86995df60127032eb1289fccd5292e167ec44115add4f05dfb49f3b1af37e7b", func := "loop.example/wardstaff/laws.FnExactGroupInv", spec := "fnExactGroupInv", apart := false, narrowed := true }
def FnExactGroupInvUptoSaid : Prop := fnExactGroupInvUptoRow.holds Try.pinned (OpenSpec.upto fnExactGroupInvSpec)

end Rows
end Go.Proofs.Ytpkpdococokaaaa
