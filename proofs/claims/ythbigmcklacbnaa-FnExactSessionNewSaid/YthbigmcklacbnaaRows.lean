/-
  No cell of these rows narrows 'for every input' (looked for: loops, veiled, ifaces, maps, wideKeys, modest, calm, conditions, laid).
  DERIVED. THE GIVEN ROWS OF THIS SEAT. 17 by the template 'for every input the law returns true; each argument reads behind the call as it read before'; 0 by the template 'total and deterministic' (their statements: YthbigmcklacbnaaTotals.lean).
  GIVEN WITH THE SEED: the statements are not yours to turn. If you find one false, say at which input.
  Laid BY PROGRAM, IN A SANDBOX (cutbox-rows.mjs): the forced cells as the released guide's own fill.sh prints them over the translation 22489dc9109835e0… (all of the seat's roots in one cut). By AI agents, Wed Nov 11 2026. No macro, syntax, notation, axiom, sorry.
-/
import Derived.Test.YthbigmcklacbnaaChecked
import GoSem.Claim
import GoSem.ClaimJoined
import GoSem.ClaimMapViews
import Derived.JoinedTies
import Derived.KernelRfl
namespace Go.Proofs.Ythbigmcklacbnaa
/- THE CELL 'sum', in the pinned program and in every row, IS THE sha256 OF THE DUMP (.gsa) THAT YthbigmcklacbnaaProg.lean LOADS. Nothing in Lean hashes anything: it is a label: what it is worth is what the hold of that sum in a sandbox is worth. -/
noncomputable def Try.pinned : Pinned := { name := "ythbigmcklacbnaa", sum := "22489dc9109835e074a05c60bdc083738ce036bbb7f2c07a83d9540ffce16a72", checked := Try.checked }
namespace Rows
def none {H : Type} : Left H := { results := [], args := [] }

/-- 'laws.FnRole': WHATEVER THE INPUT: true; the input reads as it did. -/
def fnRoleSpec : ChangeSpec := { name := "fnRole", fn := fun _ => fun
  | [d] => { results := [.lit (.bool true)], args := [d] }
  | _ => none }
def fnRoleRow : OpenClaim := { program := "ythbigmcklacbnaa", sum := "22489dc9109835e074a05c60bdc083738ce036bbb7f2c07a83d9540ffce16a72", func := "loop.example/wardstaff/laws.FnRole", spec := "fnRole", unfollowed := true, recurses := true, apart := false }
def FnRoleSaid : Prop := fnRoleRow.holds Try.pinned (OpenSpec.ofChange fnRoleSpec)

/-- ITS FALSE NEIGHBOUR: 'it returns false'. Refute it at one input. -/
def fnRoleWrong : ChangeSpec := { name := "fnRole", fn := fun _ => fun
  | [d] => { results := [.lit (.bool false)], args := [d] }
  | _ => none }
def FnRoleWrongFalsely : Prop := fnRoleRow.holds Try.pinned (OpenSpec.ofChange fnRoleWrong)

/-- 'laws.FnRoleMany': WHATEVER THE INPUT: true; the input reads as it did. -/
def fnRoleManySpec : ChangeSpec := { name := "fnRoleMany", fn := fun _ => fun
  | [d] => { results := [.lit (.bool true)], args := [d] }
  | _ => none }
def fnRoleManyRow : OpenClaim := { program := "ythbigmcklacbnaa", sum := "22489dc9109835e074a05c60bdc083738ce036bbb7f2c07a83d9540ffce16a72", func := "loop.example/wardstaff/laws.FnRoleMany", spec := "fnRoleMany", unfollowed := true, recurses := true, apart := false }
def FnRoleManySaid : Prop := fnRoleManyRow.holds Try.pinned (OpenSpec.ofChange fnRoleManySpec)

/-- ITS FALSE NEIGHBOUR: 'it returns false'. Refute it at one input. -/
def fnRoleManyWrong : ChangeSpec := { name := "fnRoleMany", fn := fun _ => fun
  | [d] => { results := [.lit (.bool false)], args := [d] }
  | _ => none }
def FnRoleManyWrongFalsely : Prop := fnRoleManyRow.holds Try.pinned (OpenSpec.ofChange fnRoleManyWrong)

/-- 'laws.FnMay': WHATEVER THE INPUT: true; the input reads as it did. -/
def fnMaySpec : ChangeSpec := { name := "fnMay", fn := fun _ => fun
  | [d] => { results := [.lit (.bool true)], args := [d] }
  | _ => none }
def fnMayRow : OpenClaim := { program := "ythbigmcklacbnaa", sum := "22489dc9109835e074a05c60bdc083738ce036bbb7f2c07a83d9540ffce16a72", func := "loop.example/wardstaff/laws.FnMay", spec := "fnMay", unfollowed := true, recurses := true, apart := false }
def FnMaySaid : Prop := fnMayRow.holds Try.pinned (OpenSpec.ofChange fnMaySpec)

/-- ITS FALSE NEIGHBOUR: 'it returns false'. Refute it at one input. -/
def fnMayWrong : ChangeSpec := { name := "fnMay", fn := fun _ => fun
  | [d] => { results := [.lit (.bool false)], args := [d] }
  | _ => none }
def FnMayWrongFalsely : Prop := fnMayRow.holds Try.pinned (OpenSpec.ofChange fnMayWrong)

/-- 'laws.FnMayMore': WHATEVER THE INPUT: true; the input reads as it did. -/
def fnMayMoreSpec : ChangeSpec := { name := "fnMayMore", fn := fun _ => fun
  | [d1, d2] => { results := [.lit (.bool true)], args := [d1, d2] }
  | _ => none }
def fnMayMoreRow : OpenClaim := { program := "ythbigmcklacbnaa", sum := "22489dc9109835e074a05c60bdc083738ce036bbb7f2c07a83d9540ffce16a72", func := "loop.example/wardstaff/laws.FnMayMore", spec := "fnMayMore", unfollowed := true, recurses := true, apart := false }
def FnMayMoreSaid : Prop := fnMayMoreRow.holds Try.pinned (OpenSpec.ofChange fnMayMoreSpec)

/-- ITS FALSE NEIGHBOUR: 'it returns false'. Refute it at one input. -/
def fnMayMoreWrong : ChangeSpec := { name := "fnMayMore", fn := fun _ => fun
  | [d1, d2] => { results := [.lit (.bool false)], args := [d1, d2] }
  | _ => none }
def FnMayMoreWrongFalsely : Prop := fnMayMoreRow.holds Try.pinned (OpenSpec.ofChange fnMayMoreWrong)

/-- 'laws.FnMost': WHATEVER THE INPUT: true; the input reads as it did. -/
def fnMostSpec : ChangeSpec := { name := "fnMost", fn := fun _ => fun
  | [d] => { results := [.lit (.bool true)], args := [d] }
  | _ => none }
def fnMostRow : OpenClaim := { program := "ythbigmcklacbnaa", sum := "22489dc9109835e074a05c60bdc083738ce036bbb7f2c07a83d9540ffce16a72", func := "loop.example/wardstaff/laws.FnMost", spec := "fnMost", unfollowed := true, recurses := true, apart := false }
def FnMostSaid : Prop := fnMostRow.holds Try.pinned (OpenSpec.ofChange fnMostSpec)

/-- ITS FALSE NEIGHBOUR: 'it returns false'. Refute it at one input. -/
def fnMostWrong : ChangeSpec := { name := "fnMost", fn := fun _ => fun
  | [d] => { results := [.lit (.bool false)], args := [d] }
  | _ => none }
def FnMostWrongFalsely : Prop := fnMostRow.holds Try.pinned (OpenSpec.ofChange fnMostWrong)

/-- 'laws.FnMayNobody': WHATEVER THE INPUT: true; the input reads as it did. -/
def fnMayNobodySpec : ChangeSpec := { name := "fnMayNobody", fn := fun _ => fun
  | [d] => { results := [.lit (.bool true)], args := [d] }
  | _ => none }
def fnMayNobodyRow : OpenClaim := { program := "ythbigmcklacbnaa", sum := "22489dc9109835e074a05c60bdc083738ce036bbb7f2c07a83d9540ffce16a72", func := "loop.example/wardstaff/laws.FnMayNobody", spec := "fnMayNobody", unfollowed := true, recurses := true, apart := false }
def FnMayNobodySaid : Prop := fnMayNobodyRow.holds Try.pinned (OpenSpec.ofChange fnMayNobodySpec)

/-- ITS FALSE NEIGHBOUR: 'it returns false'. Refute it at one input. -/
def fnMayNobodyWrong : ChangeSpec := { name := "fnMayNobody", fn := fun _ => fun
  | [d] => { results := [.lit (.bool false)], args := [d] }
  | _ => none }
def FnMayNobodyWrongFalsely : Prop := fnMayNobodyRow.holds Try.pinned (OpenSpec.ofChange fnMayNobodyWrong)

/-- 'laws.FnPolicyForm': WHATEVER THE INPUT: true; the input reads as it did. -/
def fnPolicyFormSpec : ChangeSpec := { name := "fnPolicyForm", fn := fun _ => fun
  | [d1, d2] => { results := [.lit (.bool true)], args := [d1, d2] }
  | _ => none }
def fnPolicyFormRow : OpenClaim := { program := "ythbigmcklacbnaa", sum := "22489dc9109835e074a05c60bdc083738ce036bbb7f2c07a83d9540ffce16a72", func := "loop.example/wardstaff/laws.FnPolicyForm", spec := "fnPolicyForm", unfollowed := true, recurses := true, apart := false }
def FnPolicyFormSaid : Prop := fnPolicyFormRow.holds Try.pinned (OpenSpec.ofChange fnPolicyFormSpec)

/-- ITS FALSE NEIGHBOUR: 'it returns false'. Refute it at one input. -/
def fnPolicyFormWrong : ChangeSpec := { name := "fnPolicyForm", fn := fun _ => fun
  | [d1, d2] => { results := [.lit (.bool false)], args := [d1, d2] }
  | _ => none }
def FnPolicyFormWrongFalsely : Prop := fnPolicyFormRow.holds Try.pinned (OpenSpec.ofChange fnPolicyFormWrong)

/-- 'laws.FnRoleSum': WHATEVER THE INPUT: true; the input reads as it did. -/
def fnRoleSumSpec : ChangeSpec := { name := "fnRoleSum", fn := fun _ => fun
  | [d] => { results := [.lit (.bool true)], args := [d] }
  | _ => none }
def fnRoleSumRow : OpenClaim := { program := "ythbigmcklacbnaa", sum := "22489dc9109835e074a05c60bdc083738ce036bbb7f2c07a83d9540ffce16a72", func := "loop.example/wardstaff/laws.FnRoleSum", spec := "fnRoleSum", unfollowed := true, recurses := true, apart := false }
def FnRoleSumSaid : Prop := fnRoleSumRow.holds Try.pinned (OpenSpec.ofChange fnRoleSumSpec)

/-- ITS FALSE NEIGHBOUR: 'it returns false'. Refute it at one input. -/
def fnRoleSumWrong : ChangeSpec := { name := "fnRoleSum", fn := fun _ => fun
  | [d] => { results := [.lit (.bool false)], args := [d] }
  | _ => none }
def FnRoleSumWrongFalsely : Prop := fnRoleSumRow.holds Try.pinned (OpenSpec.ofChange fnRoleSumWrong)

/-- 'laws.FnMostRules': WHATEVER THE INPUT: true; the input reads as it did. -/
def fnMostRulesSpec : ChangeSpec := { name := "fnMostRules", fn := fun _ => fun
  | [d1, d2] => { results := [.lit (.bool true)], args := [d1, d2] }
  | _ => none }
def fnMostRulesRow : OpenClaim := { program := "ythbigmcklacbnaa", sum := "22489dc9109835e074a05c60bdc083738ce036bbb7f2c07a83d9540ffce16a72", func := "loop.example/wardstaff/laws.FnMostRules", spec := "fnMostRules", unfollowed := true, recurses := true, apart := false }
def FnMostRulesSaid : Prop := fnMostRulesRow.holds Try.pinned (OpenSpec.ofChange fnMostRulesSpec)

/-- ITS FALSE NEIGHBOUR: 'it returns false'. Refute it at one input. -/
def fnMostRulesWrong : ChangeSpec := { name := "fnMostRules", fn := fun _ => fun
  | [d1, d2] => { results := [.lit (.bool false)], args := [d1, d2] }
  | _ => none }
def FnMostRulesWrongFalsely : Prop := fnMostRulesRow.holds Try.pinned (OpenSpec.ofChange fnMostRulesWrong)

/-- 'laws.FnMostOrder': WHATEVER THE INPUT: true; the input reads as it did. -/
def fnMostOrderSpec : ChangeSpec := { name := "fnMostOrder", fn := fun _ => fun
  | [d] => { results := [.lit (.bool true)], args := [d] }
  | _ => none }
def fnMostOrderRow : OpenClaim := { program := "ythbigmcklacbnaa", sum := "22489dc9109835e074a05c60bdc083738ce036bbb7f2c07a83d9540ffce16a72", func := "loop.example/wardstaff/laws.FnMostOrder", spec := "fnMostOrder", unfollowed := true, recurses := true, apart := false }
def FnMostOrderSaid : Prop := fnMostOrderRow.holds Try.pinned (OpenSpec.ofChange fnMostOrderSpec)

/-- ITS FALSE NEIGHBOUR: 'it returns false'. Refute it at one input. -/
def fnMostOrderWrong : ChangeSpec := { name := "fnMostOrder", fn := fun _ => fun
  | [d] => { results := [.lit (.bool false)], args := [d] }
  | _ => none }
def FnMostOrderWrongFalsely : Prop := fnMostOrderRow.holds Try.pinned (OpenSpec.ofChange fnMostOrderWrong)

/-- 'laws.FnExactPolicyOk': WHATEVER THE INPUT: true; the input reads as it did. -/
def fnExactPolicyOkSpec : ChangeSpec := { name := "fnExactPolicyOk", fn := fun _ => fun
  | [d1, d2] => { results := [.lit (.bool true)], args := [d1, d2] }
  | _ => none }
def fnExactPolicyOkRow : OpenClaim := { program := "ythbigmcklacbnaa", sum := "22489dc9109835e074a05c60bdc083738ce036bbb7f2c07a83d9540ffce16a72", func := "loop.example/wardstaff/laws.FnExactPolicyOk", spec := "fnExactPolicyOk", unfollowed := true, recurses := true, apart := false }
def FnExactPolicyOkSaid : Prop := fnExactPolicyOkRow.holds Try.pinned (OpenSpec.ofChange fnExactPolicyOkSpec)

/-- ITS FALSE NEIGHBOUR: 'it returns false'. Refute it at one input. -/
def fnExactPolicyOkWrong : ChangeSpec := { name := "fnExactPolicyOk", fn := fun _ => fun
  | [d1, d2] => { results := [.lit (.bool false)], args := [d1, d2] }
  | _ => none }
def FnExactPolicyOkWrongFalsely : Prop := fnExactPolicyOkRow.holds Try.pinned (OpenSpec.ofChange fnExactPolicyOkWrong)

/-- 'laws.FnExactPolicyRole': WHATEVER THE INPUT: true; the input reads as it did. -/
def fnExactPolicyRoleSpec : ChangeSpec := { name := "fnExactPolicyRole", fn := fun _ => fun
  | [d1, d2] => { results := [.lit (.bool true)], args := [d1, d2] }
  | _ => none }
def fnExactPolicyRoleRow : OpenClaim := { program := "ythbigmcklacbnaa", sum := "22489dc9109835e074a05c60bdc083738ce036bbb7f2c07a83d9540ffce16a72", func := "loop.example/wardstaff/laws.FnExactPolicyRole", spec := "fnExactPolicyRole", unfollowed := true, recurses := true, apart := false }
def FnExactPolicyRoleSaid : Prop := fnExactPolicyRoleRow.holds Try.pinned (OpenSpec.ofChange fnExactPolicyRoleSpec)

/-- ITS FALSE NEIGHBOUR: 'it returns false'. Refute it at one input. -/
def fnExactPolicyRoleWrong : ChangeSpec := { name := "fnExactPolicyRole", fn := fun _ => fun
  | [d1, d2] => { results := [.lit (.bool false)], args := [d1, d2] }
  | _ => none }
def FnExactPolicyRoleWrongFalsely : Prop := fnExactPolicyRoleRow.holds Try.pinned (OpenSpec.ofChange fnExactPolicyRoleWrong)

/-- 'laws.FnExactPolicyMany': WHATEVER THE INPUT: true; the input reads as it did. -/
def fnExactPolicyManySpec : ChangeSpec := { name := "fnExactPolicyMany", fn := fun _ => fun
  | [d1, d2, d3] => { results := [.lit (.bool true)], args := [d1, d2, d3] }
  | _ => none }
def fnExactPolicyManyRow : OpenClaim := { program := "ythbigmcklacbnaa", sum := "22489dc9109835e074a05c60bdc083738ce036bbb7f2c07a83d9540ffce16a72", func := "loop.example/wardstaff/laws.FnExactPolicyMany", spec := "fnExactPolicyMany", unfollowed := true, recurses := true, apart := false }
def FnExactPolicyManySaid : Prop := fnExactPolicyManyRow.holds Try.pinned (OpenSpec.ofChange fnExactPolicyManySpec)

/-- ITS FALSE NEIGHBOUR: 'it returns false'. Refute it at one input. -/
def fnExactPolicyManyWrong : ChangeSpec := { name := "fnExactPolicyMany", fn := fun _ => fun
  | [d1, d2, d3] => { results := [.lit (.bool false)], args := [d1, d2, d3] }
  | _ => none }
def FnExactPolicyManyWrongFalsely : Prop := fnExactPolicyManyRow.holds Try.pinned (OpenSpec.ofChange fnExactPolicyManyWrong)

/-- 'laws.FnExactPolicyMay': WHATEVER THE INPUT: true; the input reads as it did. -/
def fnExactPolicyMaySpec : ChangeSpec := { name := "fnExactPolicyMay", fn := fun _ => fun
  | [d1, d2, d3, d4] => { results := [.lit (.bool true)], args := [d1, d2, d3, d4] }
  | _ => none }
def fnExactPolicyMayRow : OpenClaim := { program := "ythbigmcklacbnaa", sum := "22489dc9109835e074a05c60bdc083738ce036bbb7f2c07a83d9540ffce16a72", func := "loop.example/wardstaff/laws.FnExactPolicyMay", spec := "fnExactPolicyMay", unfollowed := true, recurses := true, apart := false }
def FnExactPolicyMaySaid : Prop := fnExactPolicyMayRow.holds Try.pinned (OpenSpec.ofChange fnExactPolicyMaySpec)

/-- ITS FALSE NEIGHBOUR: 'it returns false'. Refute it at one input. -/
def fnExactPolicyMayWrong : ChangeSpec := { name := "fnExactPolicyMay", fn := fun _ => fun
  | [d1, d2, d3, d4] => { results := [.lit (.bool false)], args := [d1, d2, d3, d4] }
  | _ => none }
def FnExactPolicyMayWrongFalsely : Prop := fnExactPolicyMayRow.holds Try.pinned (OpenSpec.ofChange fnExactPolicyMayWrong)

/-- 'laws.FnExactPolicyMost': WHATEVER THE INPUT: true; the input reads as it did. -/
def fnExactPolicyMostSpec : ChangeSpec := { name := "fnExactPolicyMost", fn := fun _ => fun
  | [d1, d2, d3] => { results := [.lit (.bool true)], args := [d1, d2, d3] }
  | _ => none }
def fnExactPolicyMostRow : OpenClaim := { program := "ythbigmcklacbnaa", sum := "22489dc9109835e074a05c60bdc083738ce036bbb7f2c07a83d9540ffce16a72", func := "loop.example/wardstaff/laws.FnExactPolicyMost", spec := "fnExactPolicyMost", unfollowed := true, recurses := true, apart := false }
def FnExactPolicyMostSaid : Prop := fnExactPolicyMostRow.holds Try.pinned (OpenSpec.ofChange fnExactPolicyMostSpec)

/-- ITS FALSE NEIGHBOUR: 'it returns false'. Refute it at one input. -/
def fnExactPolicyMostWrong : ChangeSpec := { name := "fnExactPolicyMost", fn := fun _ => fun
  | [d1, d2, d3] => { results := [.lit (.bool false)], args := [d1, d2, d3] }
  | _ => none }
def FnExactPolicyMostWrongFalsely : Prop := fnExactPolicyMostRow.holds Try.pinned (OpenSpec.ofChange fnExactPolicyMostWrong)

/-- 'laws.FnExactSessionNew': WHATEVER THE INPUT: true; the input reads as it did. -/
def fnExactSessionNewSpec : ChangeSpec := { name := "fnExactSessionNew", fn := fun _ => fun
  | [d1, d2, d3, d4] => { results := [.lit (.bool true)], args := [d1, d2, d3, d4] }
  | _ => none }
def fnExactSessionNewRow : OpenClaim := { program := "ythbigmcklacbnaa", sum := "22489dc9109835e074a05c60bdc083738ce036bbb7f2c07a83d9540ffce16a72", func := "loop.example/wardstaff/laws.FnExactSessionNew", spec := "fnExactSessionNew", unfollowed := true, recurses := true, apart := false }
def FnExactSessionNewSaid : Prop := fnExactSessionNewRow.holds Try.pinned (OpenSpec.ofChange fnExactSessionNewSpec)

/-- ITS FALSE NEIGHBOUR: 'it returns false'. Refute it at one input. -/
def fnExactSessionNewWrong : ChangeSpec := { name := "fnExactSessionNew", fn := fun _ => fun
  | [d1, d2, d3, d4] => { results := [.lit (.bool false)], args := [d1, d2, d3, d4] }
  | _ => none }
def FnExactSessionNewWrongFalsely : Prop := fnExactSessionNewRow.holds Try.pinned (OpenSpec.ofChange fnExactSessionNewWrong)

/-- 'laws.FnExactSessionPut': WHATEVER THE INPUT: true; the input reads as it did. -/
def fnExactSessionPutSpec : ChangeSpec := { name := "fnExactSessionPut", fn := fun _ => fun
  | [d1, d2, d3] => { results := [.lit (.bool true)], args := [d1, d2, d3] }
  | _ => none }
def fnExactSessionPutRow : OpenClaim := { program := "ythbigmcklacbnaa", sum := "22489dc9109835e074a05c60bdc083738ce036bbb7f2c07a83d9540ffce16a72", func := "loop.example/wardstaff/laws.FnExactSessionPut", spec := "fnExactSessionPut", unfollowed := true, recurses := true, apart := false }
def FnExactSessionPutSaid : Prop := fnExactSessionPutRow.holds Try.pinned (OpenSpec.ofChange fnExactSessionPutSpec)

/-- ITS FALSE NEIGHBOUR: 'it returns false'. Refute it at one input. -/
def fnExactSessionPutWrong : ChangeSpec := { name := "fnExactSessionPut", fn := fun _ => fun
  | [d1, d2, d3] => { results := [.lit (.bool false)], args := [d1, d2, d3] }
  | _ => none }
def FnExactSessionPutWrongFalsely : Prop := fnExactSessionPutRow.holds Try.pinned (OpenSpec.ofChange fnExactSessionPutWrong)

/- THE SECOND FORM. 'bulk': how many values and letters a reading holds, each counted each time it is reached (what is shared counts as often as it is met; a slice's spare places count too). A statement '..UptoSaid' is the law's where the arguments, and the package variables that the reading takes, are together of bulk at most 1048576: NARROWER than '..Said'. Prove '..Said' where nothing that the law and all that it calls make is longer than what came in: it says more and counts as full. Else prove '..UptoSaid'. A law counts once. -/
mutual
def uptoBulk {H : Type} : DataW H → Nat
  | .lit (.string bytes) => bytes.length + 1
  | .lit _ => 1
  | .nil => 1
  | .ptr d => uptoBulk d + 1
  | .slice elems spare => uptoBulkAll elems + uptoBulkAll spare + 1
  | .agg parts => uptoBulkAll parts + 1
  | .iface _ d => uptoBulk d + 1
  | .map entries => uptoBulkEntries entries + 1
  | .held _ => 1
def uptoBulkAll {H : Type} : List (DataW H) → Nat
  | [] => 0
  | d :: r => uptoBulk d + uptoBulkAll r
def uptoBulkEntries {H : Type} : List (Lit × DataW H) → Nat
  | [] => 0
  | x :: r => uptoBulkEntry x + uptoBulkEntries r
def uptoBulkEntry {H : Type} : Lit × DataW H → Nat
  | (.string bytes, d) => bytes.length + uptoBulk d + 1
  | (_, d) => uptoBulk d + 1
 end
def uptoSmall : (H : Type) → List (DataW H) → Bool := fun _ ds => decide (uptoBulkAll ds ≤ 1048576)
def OpenSpec.upto (s : _root_.Go.ChangeSpec) : _root_.Go.OpenSpec := { _root_.Go.OpenSpec.ofChange s with cond := some uptoSmall }

/-- 'laws.FnRole', WHERE WHAT IT READS IS OF BULK AT MOST 1048576: true; the input reads as it did. -/
def fnRoleUptoRow : OpenClaim := { program := "ythbigmcklacbnaa", sum := "22489dc9109835e074a05c60bdc083738ce036bbb7f2c07a83d9540ffce16a72", func := "loop.example/wardstaff/laws.FnRole", spec := "fnRole", unfollowed := true, recurses := true, apart := false, narrowed := true }
def FnRoleUptoSaid : Prop := fnRoleUptoRow.holds Try.pinned (OpenSpec.upto fnRoleSpec)

/-- 'laws.FnRoleMany', WHERE WHAT IT READS IS OF BULK AT MOST 1048576: true; the input reads as it did. -/
def fnRoleManyUptoRow : OpenClaim := { program := "ythbigmcklacbnaa", sum := "22489dc9109835e074a05c60bdc083738ce036bbb7f2c07a83d9540ffce16a72", func := "loop.example/wardstaff/laws.FnRoleMany", spec := "fnRoleMany", unfollowed := true, recurses := true, apart := false, narrowed := true }
def FnRoleManyUptoSaid : Prop := fnRoleManyUptoRow.holds Try.pinned (OpenSpec.upto fnRoleManySpec)

/-- 'laws.FnMay', WHERE WHAT IT READS IS OF BULK AT MOST 1048576: true; the input reads as it did. -/
def fnMayUptoRow : OpenClaim := { program := "ythbigmcklacbnaa", sum := "22489dc9109835e074a05c60bdc083738ce036bbb7f2c07a83d9540ffce16a72", func := "loop.example/wardstaff/laws.FnMay", spec := "fnMay", unfollowed := true, recurses := true, apart := false, narrowed := true }
def FnMayUptoSaid : Prop := fnMayUptoRow.holds Try.pinned (OpenSpec.upto fnMaySpec)

/-- 'laws.FnMayMore', WHERE WHAT IT READS IS OF BULK AT MOST 1048576: true; the input reads as it did. -/
def fnMayMoreUptoRow : OpenClaim := { program := "ythbigmcklacbnaa", sum := "22489dc9109835e074a05c60bdc083738ce036bbb7f2c07a83d9540ffce16a72", func := "loop.example/wardstaff/laws.FnMayMore", spec := "fnMayMore", unfollowed := true, recurses := true, apart := false, narrowed := true }
def FnMayMoreUptoSaid : Prop := fnMayMoreUptoRow.holds Try.pinned (OpenSpec.upto fnMayMoreSpec)

/-- 'laws.FnMost', WHERE WHAT IT READS IS OF BULK AT MOST 1048576: true; the input reads as it did. -/
def fnMostUptoRow : OpenClaim := { program := "ythbigmcklacbnaa", sum := "22489dc9109835e074a05c60bdc083738ce036bbb7f2c07a83d9540ffce16a72", func := "loop.example/wardstaff/laws.FnMost", spec := "fnMost", unfollowed := true, recurses := true, apart := false, narrowed := true }
def FnMostUptoSaid : Prop := fnMostUptoRow.holds Try.pinned (OpenSpec.upto fnMostSpec)

/-- 'laws.FnMayNobody', WHERE WHAT IT READS IS OF BULK AT MOST 1048576: true; the input reads as it did. -/
def fnMayNobodyUptoRow : OpenClaim := { program := "ythbigmcklacbnaa", sum := "22489dc9109835e074a05c60bdc083738ce036bbb7f2c07a83d9540ffce16a72", func := "loop.example/wardstaff/laws.FnMayNobody", spec := "fnMayNobody", unfollowed := true, recurses := true, apart := false, narrowed := true }
def FnMayNobodyUptoSaid : Prop := fnMayNobodyUptoRow.holds Try.pinned (OpenSpec.upto fnMayNobodySpec)

/-- 'laws.FnPolicyForm', WHERE WHAT IT READS IS OF BULK AT MOST 1048576: true; the input reads as it did. -/
def fnPolicyFormUptoRow : OpenClaim := { program := "ythbigmcklacbnaa", sum := "22489dc9109835e074a05c60bdc083738ce036bbb7f2c07a83d9540ffce16a72", func := "loop.example/wardstaff/laws.FnPolicyForm", spec := "fnPolicyForm", unfollowed := true, recurses := true, apart := false, narrowed := true }
def FnPolicyFormUptoSaid : Prop := fnPolicyFormUptoRow.holds Try.pinned (OpenSpec.upto fnPolicyFormSpec)

/-- 'laws.FnRoleSum', WHERE WHAT IT READS IS OF BULK AT MOST 1048576: true; the input reads as it did. -/
def fnRoleSumUptoRow : OpenClaim := { program := "ythbigmcklacbnaa", sum := "22489dc9109835e074a05c60bdc083738ce036bbb7f2c07a83d9540ffce16a72", func := "loop.example/wardstaff/laws.FnRoleSum", spec := "fnRoleSum", unfollowed := true, recurses := true, apart := false, narrowed := true }
def FnRoleSumUptoSaid : Prop := fnRoleSumUptoRow.holds Try.pinned (OpenSpec.upto fnRoleSumSpec)

/-- 'laws.FnMostRules', WHERE WHAT IT READS IS OF BULK AT MOST 1048576: true; the input reads as it did. -/
def fnMostRulesUptoRow : OpenClaim := { program := "ythbigmcklacbnaa", sum := "22489dc9109835e074a05c60bdc083738ce036bbb7f2c07a83d9540ffce16a72", func := "loop.example/wardstaff/laws.FnMostRules", spec := "fnMostRules", unfollowed := true, recurses := true, apart := false, narrowed := true }
def FnMostRulesUptoSaid : Prop := fnMostRulesUptoRow.holds Try.pinned (OpenSpec.upto fnMostRulesSpec)

/-- 'laws.FnMostOrder', WHERE WHAT IT READS IS OF BULK AT MOST 1048576: true; the input reads as it did. -/
def fnMostOrderUptoRow : OpenClaim := { program := "ythbigmcklacbnaa", sum := "22489dc9109835e074a05c60bdc083738ce036bbb7f2c07a83d9540ffce16a72", func := "loop.example/wardstaff/laws.FnMostOrder", spec := "fnMostOrder", unfollowed := true, recurses := true, apart := false, narrowed := true }
def FnMostOrderUptoSaid : Prop := fnMostOrderUptoRow.holds Try.pinned (OpenSpec.upto fnMostOrderSpec)

/-- 'laws.FnExactPolicyOk', WHERE WHAT IT READS IS OF BULK AT MOST 1048576: true; the input reads as it did. -/
def fnExactPolicyOkUptoRow : OpenClaim := { program := "ythbigmcklacbnaa", sum := "22489dc9109835e074a05c60bdc083738ce036bbb7f2c07a83d9540ffce16a72", func := "loop.example/wardstaff/laws.FnExactPolicyOk", spec := "fnExactPolicyOk", unfollowed := true, recurses := true, apart := false, narrowed := true }
def FnExactPolicyOkUptoSaid : Prop := fnExactPolicyOkUptoRow.holds Try.pinned (OpenSpec.upto fnExactPolicyOkSpec)

/-- 'laws.FnExactPolicyRole', WHERE WHAT IT READS IS OF BULK AT MOST 1048576: true; the input reads as it did. -/
def fnExactPolicyRoleUptoRow : OpenClaim := { program := "ythbigmcklacbnaa", sum := "22489dc9109835e074a05c60bdc083738ce036bbb7f2c07a83d9540ffce16a72", func := "loop.example/wardstaff/laws.FnExactPolicyRole", spec := "fnExactPolicyRole", unfollowed := true, recurses := true, apart := false, narrowed := true }
def FnExactPolicyRoleUptoSaid : Prop := fnExactPolicyRoleUptoRow.holds Try.pinned (OpenSpec.upto fnExactPolicyRoleSpec)

/-- 'laws.FnExactPolicyMany', WHERE WHAT IT READS IS OF BULK AT MOST 1048576: true; the input reads as it did. -/
def fnExactPolicyManyUptoRow : OpenClaim := { program := "ythbigmcklacbnaa", sum := "22489dc9109835e074a05c60bdc083738ce036bbb7f2c07a83d9540ffce16a72", func := "loop.example/wardstaff/laws.FnExactPolicyMany", spec := "fnExactPolicyMany", unfollowed := true, recurses := true, apart := false, narrowed := true }
def FnExactPolicyManyUptoSaid : Prop := fnExactPolicyManyUptoRow.holds Try.pinned (OpenSpec.upto fnExactPolicyManySpec)

/-- 'laws.FnExactPolicyMay', WHERE WHAT IT READS IS OF BULK AT MOST 1048576: true; the input reads as it did. -/
def fnExactPolicyMayUptoRow : OpenClaim := { program := "ythbigmcklacbnaa", sum := "22489dc9109835e074a05c60bdc083738ce036bbb7f2c07a83d9540ffce16a72", func := "loop.example/wardstaff/laws.FnExactPolicyMay", spec := "fnExactPolicyMay", unfollowed := true, recurses := true, apart := false, narrowed := true }
def FnExactPolicyMayUptoSaid : Prop := fnExactPolicyMayUptoRow.holds Try.pinned (OpenSpec.upto fnExactPolicyMaySpec)

/-- 'laws.FnExactPolicyMost', WHERE WHAT IT READS IS OF BULK AT MOST 1048576: true; the input reads as it did. -/
def fnExactPolicyMostUptoRow : OpenClaim := { program := "ythbigmcklacbnaa", sum := "22489dc9109835e074a05c60bdc083738ce036bbb7f2c07a83d9540ffce16a72", func := "loop.example/wardstaff/laws.FnExactPolicyMost", spec := "fnExactPolicyMost", unfollowed := true, recurses := true, apart := false, narrowed := true }
def FnExactPolicyMostUptoSaid : Prop := fnExactPolicyMostUptoRow.holds Try.pinned (OpenSpec.upto fnExactPolicyMostSpec)

/-- 'laws.FnExactSessionNew', WHERE WHAT IT READS IS OF BULK AT MOST 1048576: true; the input reads as it did. -/
def fnExactSessionNewUptoRow : OpenClaim := { program := "ythbigmcklacbnaa", sum := "22489dc9109835e074a05c60bdc083738ce036bbb7f2c07a83d9540ffce16a72", func := "loop.example/wardstaff/laws.FnExactSessionNew", spec := "fnExactSessionNew", unfollowed := true, recurses := true, apart := false, narrowed := true }
def FnExactSessionNewUptoSaid : Prop := fnExactSessionNewUptoRow.holds Try.pinned (OpenSpec.upto fnExactSessionNewSpec)

/-- 'laws.FnExactSessionPut', WHERE WHAT IT READS IS OF BULK AT MOST 1048576: true; the input reads as it did. -/
def fnExactSessionPutUptoRow : OpenClaim := { program := "ythbigmcklacbnaa", sum := "22489dc9109835e074a05c60bdc083738ce036bbb7f2c07a83d9540ffce16a72", func := "loop.example/wardstaff/laws.FnExactSessionPut", spec := "fnExactSessionPut", unfollowed := true, recurses := true, apart := false, narrowed := true }
def FnExactSessionPutUptoSaid : Prop := fnExactSessionPutUptoRow.holds Try.pinned (OpenSpec.upto fnExactSessionPutSpec)

end Rows
end Go.Proofs.Ythbigmcklacbnaa
