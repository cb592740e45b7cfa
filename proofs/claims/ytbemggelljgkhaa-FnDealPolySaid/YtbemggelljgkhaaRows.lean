/-
  No cell of these rows narrows 'for every input' (looked for: loops, veiled, ifaces, maps, wideKeys, modest, calm, conditions, laid).
  DERIVED. THE GIVEN ROWS OF THIS SEAT. 4 by the template 'for every input the law returns true; each argument reads behind the call as it read before'; 0 by the template 'total and deterministic' (their statements: YtbemggelljgkhaaTotals.lean).
  GIVEN WITH THE SEED: the statements are not yours to turn. If you find one false, say at which input.
  Laid BY PROGRAM, IN A SANDBOX (cutbox-rows.mjs): the forced cells as the released guide's own fill.sh prints them over the translation 67e7c4a7d392c435… (all of the seat's roots in one cut). By AI agents, Wed Nov 11 2026. No macro, syntax, notation, axiom, sorry.
-/
import Derived.Test.YtbemggelljgkhaaChecked
import GoSem.Claim
import GoSem.ClaimJoined
import GoSem.ClaimMapViews
import Derived.JoinedTies
import Derived.KernelRfl
namespace Go.Proofs.Ytbemggelljgkhaa
/- THE CELL 'sum', in the pinned program and in every row, IS THE sha256 OF THE DUMP (.gsa) THAT YtbemggelljgkhaaProg.lean LOADS. Nothing in Lean hashes anything: it is a label: what it is worth is what the hold of that sum in a sandbox is worth. -/
noncomputable def Try.pinned : Pinned := { name := "ytbemggelljgkhaa", sum := "67e7c4a7d392c435c6fad002d4d2e0c9f1b20aa3586c913ac5d99fdbb2d23456", checked := Try.checked }
namespace Rows
def none {H : Type} : Left H := { results := [], args := [] }

/-- 'laws.FnCrew': WHATEVER THE INPUT: true; the input reads as it did. -/
def fnCrewSpec : ChangeSpec := { name := "fnCrew", fn := fun _ => fun
  | [d] => { results := [.lit (.bool true)], args := [d] }
  | _ => none }
def fnCrewRow : OpenClaim := { program := "ytbemggelljgkhaa", sum := "67e7c4a7d392c435c6fad002d4d2e0c9f1b20aa3586c913ac5d99fdbb2d23456", func := "loop.example/wardstaff/laws.FnCrew", spec := "fnCrew", apart := false }
def FnCrewSaid : Prop := fnCrewRow.holds Try.pinned (OpenSpec.ofChange fnCrewSpec)

/-- ITS FALSE NEIGHBOUR: 'it returns false'. Refute it at one input. -/
def fnCrewWrong : ChangeSpec := { name := "fnCrew", fn := fun _ => fun
  | [d] => { results := [.lit (.bool false)], args := [d] }
  | _ => none }
def FnCrewWrongFalsely : Prop := fnCrewRow.holds Try.pinned (OpenSpec.ofChange fnCrewWrong)

/-- 'laws.FnDealPoly': WHATEVER THE INPUT: true; the input reads as it did. -/
def fnDealPolySpec : ChangeSpec := { name := "fnDealPoly", fn := fun _ => fun
  | [d] => { results := [.lit (.bool true)], args := [d] }
  | _ => none }
def fnDealPolyRow : OpenClaim := { program := "ytbemggelljgkhaa", sum := "67e7c4a7d392c435c6fad002d4d2e0c9f1b20aa3586c913ac5d99fdbb2d23456", func := "loop.example/wardstaff/laws.FnDealPoly", spec := "fnDealPoly", unfollowed := true, recurses := true, apart := false }
def FnDealPolySaid : Prop := fnDealPolyRow.holds Try.pinned (OpenSpec.ofChange fnDealPolySpec)

/-- ITS FALSE NEIGHBOUR: 'it returns false'. Refute it at one input. -/
def fnDealPolyWrong : ChangeSpec := { name := "fnDealPoly", fn := fun _ => fun
  | [d] => { results := [.lit (.bool false)], args := [d] }
  | _ => none }
def FnDealPolyWrongFalsely : Prop := fnDealPolyRow.holds Try.pinned (OpenSpec.ofChange fnDealPolyWrong)

/-- 'laws.FnExactCrewOk': WHATEVER THE INPUT: true; the input reads as it did. -/
def fnExactCrewOkSpec : ChangeSpec := { name := "fnExactCrewOk", fn := fun _ => fun
  | [d1, d2] => { results := [.lit (.bool true)], args := [d1, d2] }
  | _ => none }
def fnExactCrewOkRow : OpenClaim := { program := "ytbemggelljgkhaa", sum := "67e7c4a7d392c435c6fad002d4d2e0c9f1b20aa3586c913ac5d99fdbb2d23456", func := "loop.example/wardstaff/laws.FnExactCrewOk", spec := "fnExactCrewOk", apart := false }
def FnExactCrewOkSaid : Prop := fnExactCrewOkRow.holds Try.pinned (OpenSpec.ofChange fnExactCrewOkSpec)

/-- ITS FALSE NEIGHBOUR: 'it returns false'. Refute it at one input. -/
def fnExactCrewOkWrong : ChangeSpec := { name := "fnExactCrewOk", fn := fun _ => fun
  | [d1, d2] => { results := [.lit (.bool false)], args := [d1, d2] }
  | _ => none }
def FnExactCrewOkWrongFalsely : Prop := fnExactCrewOkRow.holds Try.pinned (OpenSpec.ofChange fnExactCrewOkWrong)

/-- 'laws.FnExactDealPoly': WHATEVER THE INPUT: true; the input reads as it did. -/
def fnExactDealPolySpec : ChangeSpec := { name := "fnExactDealPoly", fn := fun _ => fun
  | [d1, d2, d3] => { results := [.lit (.bool true)], args := [d1, d2, d3] }
  | _ => none }
def fnExactDealPolyRow : OpenClaim := { program := "ytbemggelljgkhaa", sum := "67e7c4a7d392c435c6fad002d4d2e0c9f1b20aa3586c913ac5d99fdbb2d23456", func := "loop.example/wardstaff/laws.FnExactDealPoly", spec := "fnExactDealPoly", apart := false }
def FnExactDealPolySaid : Prop := fnExactDealPolyRow.holds Try.pinned (OpenSpec.ofChange fnExactDealPolySpec)

/-- ITS FALSE NEIGHBOUR: 'it returns false'. Refute it at one input. -/
def fnExactDealPolyWrong : ChangeSpec := { name := "fnExactDealPoly", fn := fun _ => fun
  | [d1, d2, d3] => { results := [.lit (.bool false)], args := [d1, d2, d3] }
  | _ => none }
def FnExactDealPolyWrongFalsely : Prop := fnExactDealPolyRow.holds Try.pinned (OpenSpec.ofChange fnExactDealPolyWrong)

/- THE SECOND FORM. 'bulk': how many values and letters a reading holds, each counted each time it is reached (what is shared counts as often as it is met; a slice's spare places count too). A statement '..UptoSaid' is the law's where the arguments, and the package variables that the reading takes, are together of bulk at most 1048576: NARROWER than '..Said'. Prove '..Said' where nothing that the law and all that it calls make is longer than what came in: it says more and counts as full. Else prove '..UptoSaid'. A law counts once. -/
mutual
def uptoBulk {H : Type} : DataW H → Nat
  | .lit (.string bytes) => bytes.length + 1
  | .lit _ => 1
  | .nil => 1
  | .ptr d => uptoBulk d + 1
  | .slice elems spare => uptoBulkAll elems + uptoBulkAll spare + 1
  | .agg parts => uptoBulkAll parts + 1
  | .iface _ d => uptoBulk d + 1
  | .map entries => uptoBulkEntries entries + 1
  | .held _ => 1
def uptoBulkAll {H : Type} : List (DataW H) → Nat
  | [] => 0
  | d :: r => uptoBulk d + uptoBulkAll r
def uptoBulkEntries {H : Type} : List (Lit × DataW H) → Nat
  | [] => 0
  | x :: r => uptoBulkEntry x + uptoBulkEntries r
def uptoBulkEntry {H : Type} : Lit × DataW H → Nat
  | (.string bytes, d) => bytes.length + uptoBulk d + 1
  | (_, d) => uptoBulk d + 1
 end
def uptoSmall : (H : Type) → List (DataW H) → Bool := fun _ ds => decide (uptoBulkAll ds ≤ 1048576)
def OpenSpec.upto (s : _root_.Go.ChangeSpec) : _root_.Go.OpenSpec := { _root_.Go.OpenSpec.ofChange s with cond := some uptoSmall }

/-- 'laws.FnCrew', WHERE WHAT IT READS IS OF BULK AT MOST 1048576: true; the input reads as it did. -/
def fnCrewUptoRow : OpenClaim := { program := "ytbemggelljgkhaa", sum := "67e7c4a7d392c435c6fad002d4d2e0c9f1b20aa3586c913ac5d99fdbb2d23456", func := "loop.example/wardstaff/laws.FnCrew", spec := "fnCrew", apart := false, narrowed := true }
def FnCrewUptoSaid : Prop := fnCrewUptoRow.holds Try.pinned (OpenSpec.upto fnCrewSpec)

/-- 'laws.FnDealPoly', WHERE WHAT IT READS IS OF BULK AT MOST 1048576: true; the input reads as it did. -/
def fnDealPolyUptoRow : OpenClaim := { program := "ytbemggelljgkhaa", sum := "67e7c4a7d392c435c6fad002d4d2e0c9f1b20aa3586c913ac5d99fdbb2d23456", func := "loop.example/wardstaff/laws.FnDealPoly", spec := "fnDealPoly", unfollowed := true, recurses := true, apart := false, narrowed := true }
def FnDealPolyUptoSaid : Prop := fnDealPolyUptoRow.holds Try.pinned (OpenSpec.upto fnDealPolySpec)

/-- 'laws.FnExactCrewOk', WHERE WHAT IT READS IS OF BULK AT MOST 1048576: true; the input reads as it did. -/
def fnExactCrewOkUptoRow : OpenClaim := { program := "ytbemggelljgkhaa", sum := "67e7c4a7d392c435c6fad002d4d2e0c9f1b20aa3586c913ac5d99fdbb2d23456", func := "loop.example/wardstaff/laws.FnExactCrewOk", spec := "fnExactCrewOk", apart := false, narrowed := true }
def FnExactCrewOkUptoSaid : Prop := fnExactCrewOkUptoRow.holds Try.pinned (OpenSpec.upto fnExactCrewOkSpec)

/-- 'laws.FnExactDealPoly', WHERE WHAT IT READS IS OF BULK AT MOST 1048576: true; the input reads as it did. -/
def fnExactDealPolyUptoRow : OpenClaim := { program := "ytbemggelljgkhaa", sum := "67e7c4a7d392c435c6fad002d4d2e0c9f1b20aa3586c913ac5d99fdbb2d23456", func := "loop.example/wardstaff/laws.FnExactDealPoly", spec := "fnExactDealPoly", apart := false, narrowed := true }
def FnExactDealPolyUptoSaid : Prop := fnExactDealPolyUptoRow.holds Try.pinned (OpenSpec.upto fnExactDealPolySpec)

end Rows
end Go.Proofs.Ytbemggelljgkhaa
