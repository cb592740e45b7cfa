/-
  No cell of these rows narrows 'for every input' (looked for: loops, veiled, ifaces, maps, wideKeys, modest, calm, conditions, laid).
  DERIVED. THE GIVEN ROWS OF THIS SEAT. 8 by the template 'for every input the law returns true; each argument reads behind the call as it read before'; 0 by the template 'total and deterministic' (their statements: YtgahfifojagghaaTotals.lean).
  GIVEN WITH THE SEED: the statements are not yours to turn. If you find one false, say at which input.
  Laid BY PROGRAM, IN A SANDBOX (cutbox-rows.mjs): the forced cells as the released guide's own fill.sh prints them over the translation ca67b85384a44bee… (all of the seat's roots in one cut). By AI agents, Wed Nov 11 2026. No macro, syntax, notation, axiom, sorry.
-/
import Derived.Test.YtgahfifojagghaaChecked
import GoSem.Claim
import GoSem.ClaimJoined
import GoSem.ClaimMapViews
import Derived.JoinedTies
import Derived.KernelRfl
namespace Go.Proofs.Ytgahfifojagghaa
/- THE CELL 'sum', in the pinned program and in every row, IS THE sha256 OF THE DUMP (.gsa) THAT YtgahfifojagghaaProg.lean LOADS. Nothing in Lean hashes anything: it is a label: what it is worth is what the hold of that sum in a sandbox is worth. -/
noncomputable def Try.pinned : Pinned := { name := "ytgahfifojagghaa", sum := "ca67b85384a44beef7425dfb1483a68e408868285db64c2a93dddc513644a4ab", checked := Try.checked }
namespace Rows
def none {H : Type} : Left H := { results := [], args := [] }

/-- 'laws.FnSessionR': WHATEVER THE INPUT: true; the input reads as it did. -/
def fnSessionRSpec : ChangeSpec := { name := "fnSessionR", fn := fun _ => fun
  | [d] => { results := [.lit (.bool true)], args := [d] }
  | _ => none }
def fnSessionRRow : OpenClaim := { program := "ytgahfifojagghaa", sum := "ca67b85384a44beef7425dfb1483a68e408868285db64c2a93dddc513644a4ab", func := "loop.example/wardstaff/laws.FnSessionR", spec := "fnSessionR", unfollowed := true, recurses := true, apart := false }
def FnSessionRSaid : Prop := fnSessionRRow.holds Try.pinned (OpenSpec.ofChange fnSessionRSpec)

/-- ITS FALSE NEIGHBOUR: 'it returns false'. Refute it at one input. -/
def fnSessionRWrong : ChangeSpec := { name := "fnSessionR", fn := fun _ => fun
  | [d] => { results := [.lit (.bool false)], args := [d] }
  | _ => none }
def FnSessionRWrongFalsely : Prop := fnSessionRRow.holds Try.pinned (OpenSpec.ofChange fnSessionRWrong)

/-- 'laws.FnSessionPut': WHATEVER THE INPUT: true; the input reads as it did. -/
def fnSessionPutSpec : ChangeSpec := { name := "fnSessionPut", fn := fun _ => fun
  | [d] => { results := [.lit (.bool true)], args := [d] }
  | _ => none }
def fnSessionPutRow : OpenClaim := { program := "ytgahfifojagghaa", sum := "ca67b85384a44beef7425dfb1483a68e408868285db64c2a93dddc513644a4ab", func := "loop.example/wardstaff/laws.FnSessionPut", spec := "fnSessionPut", unfollowed := true, recurses := true, apart := false }
def FnSessionPutSaid : Prop := fnSessionPutRow.holds Try.pinned (OpenSpec.ofChange fnSessionPutSpec)

/-- ITS FALSE NEIGHBOUR: 'it returns false'. Refute it at one input. -/
def fnSessionPutWrong : ChangeSpec := { name := "fnSessionPut", fn := fun _ => fun
  | [d] => { results := [.lit (.bool false)], args := [d] }
  | _ => none }
def FnSessionPutWrongFalsely : Prop := fnSessionPutRow.holds Try.pinned (OpenSpec.ofChange fnSessionPutWrong)

/-- 'laws.FnSessionForm': WHATEVER THE INPUT: true; the input reads as it did. -/
def fnSessionFormSpec : ChangeSpec := { name := "fnSessionForm", fn := fun _ => fun
  | [d] => { results := [.lit (.bool true)], args := [d] }
  | _ => none }
def fnSessionFormRow : OpenClaim := { program := "ytgahfifojagghaa", sum := "ca67b85384a44beef7425dfb1483a68e408868285db64c2a93dddc513644a4ab", func := "loop.example/wardstaff/laws.FnSessionForm", spec := "fnSessionForm", unfollowed := true, recurses := true, apart := false }
def FnSessionFormSaid : Prop := fnSessionFormRow.holds Try.pinned (OpenSpec.ofChange fnSessionFormSpec)

/-- ITS FALSE NEIGHBOUR: 'it returns false'. Refute it at one input. -/
def fnSessionFormWrong : ChangeSpec := { name := "fnSessionForm", fn := fun _ => fun
  | [d] => { results := [.lit (.bool false)], args := [d] }
  | _ => none }
def FnSessionFormWrongFalsely : Prop := fnSessionFormRow.holds Try.pinned (OpenSpec.ofChange fnSessionFormWrong)

/-- 'laws.FnSessionOrder': WHATEVER THE INPUT: true; the input reads as it did. -/
def fnSessionOrderSpec : ChangeSpec := { name := "fnSessionOrder", fn := fun _ => fun
  | [d1, d2] => { results := [.lit (.bool true)], args := [d1, d2] }
  | _ => none }
def fnSessionOrderRow : OpenClaim := { program := "ytgahfifojagghaa", sum := "ca67b85384a44beef7425dfb1483a68e408868285db64c2a93dddc513644a4ab", func := "loop.example/wardstaff/laws.FnSessionOrder", spec := "fnSessionOrder", unfollowed := true, recurses := true, apart := false }
def FnSessionOrderSaid : Prop := fnSessionOrderRow.holds Try.pinned (OpenSpec.ofChange fnSessionOrderSpec)

/-- ITS FALSE NEIGHBOUR: 'it returns false'. Refute it at one input. -/
def fnSessionOrderWrong : ChangeSpec := { name := "fnSessionOrder", fn := fun _ => fun
  | [d1, d2] => { results := [.lit (.bool false)], args := [d1, d2] }
  | _ => none }
def FnSessionOrderWrongFalsely : Prop := fnSessionOrderRow.holds Try.pinned (OpenSpec.ofChange fnSessionOrderWrong)

/-- 'laws.FnExactSessionNew': WHATEVER THE INPUT: true; the input reads as it did. -/
def fnExactSessionNewSpec : ChangeSpec := { name := "fnExactSessionNew", fn := fun _ => fun
  | [d1, d2, d3, d4] => { results := [.lit (.bool true)], args := [d1, d2, d3, d4] }
  | _ => none }
def fnExactSessionNewRow : OpenClaim := { program := "ytgahfifojagghaa", sum := "ca67b85384a44beef7425dfb1483a68e408868285db64c2a93dddc513644a4ab", func := "loop.example/wardstaff/laws.FnExactSessionNew", spec := "fnExactSessionNew", unfollowed := true, recurses := true, apart := false }
def FnExactSessionNewSaid : Prop := fnExactSessionNewRow.holds Try.pinned (OpenSpec.ofChange fnExactSessionNewSpec)

/-- ITS FALSE NEIGHBOUR: 'it returns false'. Refute it at one input. -/
def fnExactSessionNewWrong : ChangeSpec := { name := "fnExactSessionNew", fn := fun _ => fun
  | [d1, d2, d3, d4] => { results := [.lit (.bool false)], args := [d1, d2, d3, d4] }
  | _ => none }
def FnExactSessionNewWrongFalsely : Prop := fnExactSessionNewRow.holds Try.pinned (OpenSpec.ofChange fnExactSessionNewWrong)

/-- 'laws.FnExactSessionOk': WHATEVER THE INPUT: true; the input reads as it did. -/
def fnExactSessionOkSpec : ChangeSpec := { name := "fnExactSessionOk", fn := fun _ => fun
  | [d] => { results := [.lit (.bool true)], args := [d] }
  | _ => none }
def fnExactSessionOkRow : OpenClaim := { program := "ytgahfifojagghaa", sum := "ca67b85384a44beef7425dfb1483a68e408868285db64c2a93dddc513644a4ab", func := "loop.example/wardstaff/laws.FnExactSessionOk", spec := "fnExactSessionOk", unfollowed := true, recurses := true, apart := false }
def FnExactSessionOkSaid : Prop := fnExactSessionOkRow.holds Try.pinned (OpenSpec.ofChange fnExactSessionOkSpec)

/-- ITS FALSE NEIGHBOUR: 'it returns false'. Refute it at one input. -/
def fnExactSessionOkWrong : ChangeSpec := { name := "fnExactSessionOk", fn := fun _ => fun
  | [d] => { results := [.lit (.bool false)], args := [d] }
  | _ => none }
def FnExactSessionOkWrongFalsely : Prop := fnExactSessionOkRow.holds Try.pinned (OpenSpec.ofChange fnExactSessionOkWrong)

/-- 'laws.FnExactSessionR': WHATEVER THE INPUT: true; the input reads as it did. -/
def fnExactSessionRSpec : ChangeSpec := { name := "fnExactSessionR", fn := fun _ => fun
  | [d] => { results := [.lit (.bool true)], args := [d] }
  | _ => none }
def fnExactSessionRRow : OpenClaim := { program := "ytgahfifojagghaa", sum := "ca67b85384a44beef7425dfb1483a68e408868285db64c2a93dddc513644a4ab", func := "loop.example/wardstaff/laws.FnExactSessionR", spec := "fnExactSessionR", unfollowed := true, recurses := true, apart := false }
def FnExactSessionRSaid : Prop := fnExactSessionRRow.holds Try.pinned (OpenSpec.ofChange fnExactSessionRSpec)

/-- ITS FALSE NEIGHBOUR: 'it returns false'. Refute it at one input. -/
def fnExactSessionRWrong : ChangeSpec := { name := "fnExactSessionR", fn := fun _ => fun
  | [d] => { results := [.lit (.bool false)], args := [d] }
  | _ => none }
def FnExactSessionRWrongFalsely : Prop := fnExactSessionRRow.holds Try.pinned (OpenSpec.ofChange fnExactSessionRWrong)

/-- 'laws.FnExactSessionPut': WHATEVER THE INPUT: true; the input reads as it did. -/
def fnExactSessionPutSpec : ChangeSpec := { name := "fnExactSessionPut", fn := fun _ => fun
  | [d1, d2, d3] => { results := [.lit (.bool true)], args := [d1, d2, d3] }
  | _ => none }
def fnExactSessionPutRow : OpenClaim := { program := "ytgahfifojagghaa", sum := "ca67b85384a44beef7425dfb1483a68e408868285db64c2a93dddc513644a4ab", func := "loop.example/wardstaff/laws.FnExactSessionPut", spec := "fnExactSessionPut", unfollowed := true, recurses := true, apart := false }
def FnExactSessionPutSaid : Prop := fnExactSessionPutRow.holds Try.pinned (OpenSpec.ofChange fnExactSessionPutSpec)

/-- ITS FALSE NEIGHBOUR: 'it returns false'. Refute it at one input. -/
def fnExactSessionPutWrong : ChangeSpec := { name := "fnExactSessionPut", fn := fun _ => fun
  | [d1, d2, d3] => { results := [.lit (.bool false)], args := [d1, d2, d3] }
  | _ => none }
def FnExactSessionPutWrongFalsely : Prop := fnExactSessionPutRow.holds Try.pinned (OpenSpec.ofChange fnExactSessionPutWrong)

/- THE SECOND FORM. 'bulk': how many values and letters a reading holds, each counted each time it is reached (what is shared counts as often as it is met; a slice's spare places count too). A statement '..UptoSaid' is the law's where the arguments, and the package variables that the reading takes, are together of bulk at most 1048576: NARROWER than '..Said'. Prove '..Said' where nothing that the law and all that it calls make is longer than what came in: it says more and counts as full. Else prove '..UptoSaid'. A law counts once. -/
mutual
def uptoBulk {H : Type} : DataW H → Nat
  | .lit (.string bytes) => bytes.length + 1
  | .lit _ => 1
  | .nil => 1
  | .ptr d => uptoBulk d + 1
  | .slice elems spare => uptoBulkAll elems + uptoBulkAll spare + 1
  | .agg parts => uptoBulkAll parts + 1
  | .iface _ d => uptoBulk d + 1
  | .map entries => uptoBulkEntries entries + 1
  | .held _ => 1
def uptoBulkAll {H : Type} : List (DataW H) → Nat
  | [] => 0
  | d :: r => uptoBulk d + uptoBulkAll r
def uptoBulkEntries {H : Type} : List (Lit × DataW H) → Nat
  | [] => 0
  | x :: r => uptoBulkEntry x + uptoBulkEntries r
def uptoBulkEntry {H : Type} : Lit × DataW H → Nat
  | (.string bytes, d) => bytes.length + uptoBulk d + 1
  | (_, d) => uptoBulk d + 1
 end
def uptoSmall : (H : Type) → List (DataW H) → Bool := fun _ ds => decide (uptoBulkAll ds ≤ 1048576)
def OpenSpec.upto (s : _root_.Go.ChangeSpec) : _root_.Go.OpenSpec := { _root_.Go.OpenSpec.ofChange s with cond := some uptoSmall }

/-- 'laws.FnSessionR', WHERE WHAT IT READS IS OF BULK AT MOST 1048576: true; the input reads as it did. -/
def fnSessionRUptoRow : OpenClaim := { program := "ytgahfifojagghaa", sum := "ca67b85384a44beef7425dfb1483a68e408868285db64c2a93dddc513644a4ab", func := "loop.example/wardstaff/laws.FnSessionR", spec := "fnSessionR", unfollowed := true, recurses := true, apart := false, narrowed := true }
def FnSessionRUptoSaid : Prop := fnSessionRUptoRow.holds Try.pinned (OpenSpec.upto fnSessionRSpec)

/-- 'laws.FnSessionPut', WHERE WHAT IT READS IS OF BULK AT MOST 1048576: true; the input reads as it did. -/
def fnSessionPutUptoRow : OpenClaim := { program := "ytgahfifojagghaa", sum := "ca67b85384a44beef7425dfb1483a68e408868285db64c2a93dddc513644a4ab", func := "loop.example/wardstaff/laws.FnSessionPut", spec := "fnSessionPut", unfollowed := true, recurses := true, apart := false, narrowed := true }
def FnSessionPutUptoSaid : Prop := fnSessionPutUptoRow.holds Try.pinned (OpenSpec.upto fnSessionPutSpec)

/-- 'laws.FnSessionForm', WHERE WHAT IT READS IS OF BULK AT MOST 1048576: true; the input reads as it did. -/
def fnSessionFormUptoRow : OpenClaim := { program := "ytgahfifojagghaa", sum := "ca67b85384a44beef7425dfb1483a68e408868285db64c2a93dddc513644a4ab", func := "loop.example/wardstaff/laws.FnSessionForm", spec := "fnSessionForm", unfollowed := true, recurses := true, apart := false, narrowed := true }
def FnSessionFormUptoSaid : Prop := fnSessionFormUptoRow.holds Try.pinned (OpenSpec.upto fnSessionFormSpec)

/-- 'laws.FnSessionOrder', WHERE WHAT IT READS IS OF BULK AT MOST 1048576: true; the input reads as it did. -/
def fnSessionOrderUptoRow : OpenClaim := { program := "ytgahfifojagghaa", sum := "ca67b85384a44beef7425dfb1483a68e408868285db64c2a93dddc513644a4ab", func := "loop.example/wardstaff/laws.FnSessionOrder", spec := "fnSessionOrder", unfollowed := true, recurses := true, apart := false, narrowed := true }
def FnSessionOrderUptoSaid : Prop := fnSessionOrderUptoRow.holds Try.pinned (OpenSpec.upto fnSessionOrderSpec)

/-- 'laws.FnExactSessionNew', WHERE WHAT IT READS IS OF BULK AT MOST 1048576: true; the input reads as it did. -/
def fnExactSessionNewUptoRow : OpenClaim := { program := "ytgahfifojagghaa", sum := "ca67b85384a44beef7425dfb1483a68e408868285db64c2a93dddc513644a4ab", func := "loop.example/wardstaff/laws.FnExactSessionNew", spec := "fnExactSessionNew", unfollowed := true, recurses := true, apart := false, narrowed := true }
def FnExactSessionNewUptoSaid : Prop := fnExactSessionNewUptoRow.holds Try.pinned (OpenSpec.upto fnExactSessionNewSpec)

/-- 'laws.FnExactSessionOk', WHERE WHAT IT READS IS OF BULK AT MOST 1048576: true; the input reads as it did. -/
def fnExactSessionOkUptoRow : OpenClaim := { program := "ytgahfifojagghaa", sum := "ca67b85384a44beef7425dfb1483a68e408868285db64c2a93dddc513644a4ab", func := "loop.example/wardstaff/laws.FnExactSessionOk", spec := "fnExactSessionOk", unfollowed := true, recurses := true, apart := false, narrowed := true }
def FnExactSessionOkUptoSaid : Prop := fnExactSessionOkUptoRow.holds Try.pinned (OpenSpec.upto fnExactSessionOkSpec)

/-- 'laws.FnExactSessionR', WHERE WHAT IT READS IS OF BULK AT MOST 1048576: true; the input reads as it did. -/
def fnExactSessionRUptoRow : OpenClaim := { program := "ytgahfifojagghaa", sum := "ca67b85384a44beef7425dfb1483a68e408868285db64c2a93dddc513644a4ab", func := "loop.example/wardstaff/laws.FnExactSessionR", spec := "fnExactSessionR", unfollowed := true, recurses := true, apart := false, narrowed := true }
def FnExactSessionRUptoSaid : Prop := fnExactSessionRUptoRow.holds Try.pinned (OpenSpec.upto fnExactSessionRSpec)

/-- 'laws.FnExactSessionPut', WHERE WHAT IT READS IS OF BULK AT MOST 1048576: true; the input reads as it did. -/
def fnExactSessionPutUptoRow : OpenClaim := { program := "ytgahfifojagghaa", sum := "ca67b85384a44beef7425dfb1483a68e408868285db64c2a93dddc513644a4ab", func := "loop.example/wardstaff/laws.FnExactSessionPut", spec := "fnExactSessionPut", unfollowed := true, recurses := true, apart := false, narrowed := true }
def FnExactSessionPutUptoSaid : Prop := fnExactSessionPutUptoRow.holds Try.pinned (OpenSpec.upto fnExactSessionPutSpec)

end Rows
end Go.Proofs.Ytgahfifojagghaa
