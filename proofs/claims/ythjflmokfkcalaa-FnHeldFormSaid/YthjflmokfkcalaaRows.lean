/-
  No cell of these rows narrows 'for every input' (looked for: loops, veiled, ifaces, maps, wideKeys, modest, calm, conditions, laid).
  DERIVED. THE GIVEN ROWS OF THIS SEAT. 6 by the template 'for every input the law returns true; each argument reads behind the call as it read before'; 0 by the template 'total and deterministic' (their statements: YthjflmokfkcalaaTotals.lean).
  GIVEN WITH THE SEED: the statements are not yours to turn. If you find one false, say at which input.
  Laid BY PROGRAM, IN A SANDBOX (cutbox-rows.mjs): the forced cells as the released guide's own fill.sh prints them over the translation f98e62d0c2d7a36d… (all of the seat's roots in one cut). By AI agents, Wed Nov 11 2026. No macro, syntax, notation, axiom, sorry.
-/
import Derived.Test.YthjflmokfkcalaaChecked
import GoSem.Claim
import GoSem.ClaimJoined
import GoSem.ClaimMapViews
import Derived.JoinedTies
import Derived.KernelRfl
namespace Go.Proofs.Ythjflmokfkcalaa
/- THE CELL 'sum', in the pinned program and in every row, IS THE sha256 OF THE DUMP (.gsa) THAT YthjflmokfkcalaaProg.lean LOADS. Nothing in Lean hashes anything: it is a label: what it is worth is what the hold of that sum in a sandbox is worth. -/
noncomputable def Try.pinned : Pinned := { name := "ythjflmokfkcalaa", sum := "f98e62d0c2d7a36dc7bae74c9a62fe76690d51279faef7fa4d51b214317ea110", checked := Try.checked }
namespace Rows
def none {H : Type} : Left H := { results := [], args := [] }

/-- 'laws.FnSecretOf': WHATEVER THE INPUT: true; the input reads as it did. -/
def fnSecretOfSpec : ChangeSpec := { name := "fnSecretOf", fn := fun _ => fun
  | [d] => { results := [.lit (.bool true)], args := [d] }
  | _ => none }
def fnSecretOfRow : OpenClaim := { program := "ythjflmokfkcalaa", sum := "f98e62d0c2d7a36dc7bae74c9a62fe76690d51279faef7fa4d51b214317ea110", func := "loop.example/wardstaff/laws.FnSecretOf", spec := "fnSecretOf", unfollowed := true, recurses := true, apart := false }
def FnSecretOfSaid : Prop := fnSecretOfRow.holds Try.pinned (OpenSpec.ofChange fnSecretOfSpec)

/-- ITS FALSE NEIGHBOUR: 'it returns false'. Refute it at one input. -/
def fnSecretOfWrong : ChangeSpec := { name := "fnSecretOf", fn := fun _ => fun
  | [d] => { results := [.lit (.bool false)], args := [d] }
  | _ => none }
def FnSecretOfWrongFalsely : Prop := fnSecretOfRow.holds Try.pinned (OpenSpec.ofChange fnSecretOfWrong)

/-- 'laws.FnSecretBad': WHATEVER THE INPUT: true; the input reads as it did. -/
def fnSecretBadSpec : ChangeSpec := { name := "fnSecretBad", fn := fun _ => fun
  | [d] => { results := [.lit (.bool true)], args := [d] }
  | _ => none }
def fnSecretBadRow : OpenClaim := { program := "ythjflmokfkcalaa", sum := "f98e62d0c2d7a36dc7bae74c9a62fe76690d51279faef7fa4d51b214317ea110", func := "loop.example/wardstaff/laws.FnSecretBad", spec := "fnSecretBad", unfollowed := true, recurses := true, apart := false }
def FnSecretBadSaid : Prop := fnSecretBadRow.holds Try.pinned (OpenSpec.ofChange fnSecretBadSpec)

/-- ITS FALSE NEIGHBOUR: 'it returns false'. Refute it at one input. -/
def fnSecretBadWrong : ChangeSpec := { name := "fnSecretBad", fn := fun _ => fun
  | [d] => { results := [.lit (.bool false)], args := [d] }
  | _ => none }
def FnSecretBadWrongFalsely : Prop := fnSecretBadRow.holds Try.pinned (OpenSpec.ofChange fnSecretBadWrong)

/-- 'laws.FnHeldForm': WHATEVER THE INPUT: true; the input reads as it did. -/
def fnHeldFormSpec : ChangeSpec := { name := "fnHeldForm", fn := fun _ => fun
  | [d1, d2] => { results := [.lit (.bool true)], args := [d1, d2] }
  | _ => none }
def fnHeldFormRow : OpenClaim := { program := "ythjflmokfkcalaa", sum := "f98e62d0c2d7a36dc7bae74c9a62fe76690d51279faef7fa4d51b214317ea110", func := "loop.example/wardstaff/laws.FnHeldForm", spec := "fnHeldForm", apart := false }
def FnHeldFormSaid : Prop := fnHeldFormRow.holds Try.pinned (OpenSpec.ofChange fnHeldFormSpec)

/-- ITS FALSE NEIGHBOUR: 'it returns false'. Refute it at one input. -/
def fnHeldFormWrong : ChangeSpec := { name := "fnHeldForm", fn := fun _ => fun
  | [d1, d2] => { results := [.lit (.bool false)], args := [d1, d2] }
  | _ => none }
def FnHeldFormWrongFalsely : Prop := fnHeldFormRow.holds Try.pinned (OpenSpec.ofChange fnHeldFormWrong)

/-- 'laws.FnExactHeldOk': WHATEVER THE INPUT: true; the input reads as it did. -/
def fnExactHeldOkSpec : ChangeSpec := { name := "fnExactHeldOk", fn := fun _ => fun
  | [d] => { results := [.lit (.bool true)], args := [d] }
  | _ => none }
def fnExactHeldOkRow : OpenClaim := { program := "ythjflmokfkcalaa", sum := "f98e62d0c2d7a36dc7bae74c9a62fe76690d51279faef7fa4d51b214317ea110", func := "loop.example/wardstaff/laws.FnExactHeldOk", spec := "fnExactHeldOk", apart := false }
def FnExactHeldOkSaid : Prop := fnExactHeldOkRow.holds Try.pinned (OpenSpec.ofChange fnExactHeldOkSpec)

/-- ITS FALSE NEIGHBOUR: 'it returns false'. Refute it at one input. -/
def fnExactHeldOkWrong : ChangeSpec := { name := "fnExactHeldOk", fn := fun _ => fun
  | [d] => { results := [.lit (.bool false)], args := [d] }
  | _ => none }
def FnExactHeldOkWrongFalsely : Prop := fnExactHeldOkRow.holds Try.pinned (OpenSpec.ofChange fnExactHeldOkWrong)

/-- 'laws.FnExactSecretOf': WHATEVER THE INPUT: true; the input reads as it did. -/
def fnExactSecretOfSpec : ChangeSpec := { name := "fnExactSecretOf", fn := fun _ => fun
  | [d1, d2] => { results := [.lit (.bool true)], args := [d1, d2] }
  | _ => none }
def fnExactSecretOfRow : OpenClaim := { program := "ythjflmokfkcalaa", sum := "f98e62d0c2d7a36dc7bae74c9a62fe76690d51279faef7fa4d51b214317ea110", func := "loop.example/wardstaff/laws.FnExactSecretOf", spec := "fnExactSecretOf", unfollowed := true, recurses := true, apart := false }
def FnExactSecretOfSaid : Prop := fnExactSecretOfRow.holds Try.pinned (OpenSpec.ofChange fnExactSecretOfSpec)

/-- ITS FALSE NEIGHBOUR: 'it returns false'. Refute it at one input. -/
def fnExactSecretOfWrong : ChangeSpec := { name := "fnExactSecretOf", fn := fun _ => fun
  | [d1, d2] => { results := [.lit (.bool false)], args := [d1, d2] }
  | _ => none }
def FnExactSecretOfWrongFalsely : Prop := fnExactSecretOfRow.holds Try.pinned (OpenSpec.ofChange fnExactSecretOfWrong)

/-- 'laws.FnExactSecretBad': WHATEVER THE INPUT: true; the input reads as it did. -/
def fnExactSecretBadSpec : ChangeSpec := { name := "fnExactSecretBad", fn := fun _ => fun
  | [d1, d2] => { results := [.lit (.bool true)], args := [d1, d2] }
  | _ => none }
def fnExactSecretBadRow : OpenClaim := { program := "ythjflmokfkcalaa", sum := "f98e62d0c2d7a36dc7bae74c9a62fe76690d51279faef7fa4d51b214317ea110", func := "loop.example/wardstaff/laws.FnExactSecretBad", spec := "fnExactSecretBad", unfollowed := true, recurses := true, apart := false }
def FnExactSecretBadSaid : Prop := fnExactSecretBadRow.holds Try.pinned (OpenSpec.ofChange fnExactSecretBadSpec)

/-- ITS FALSE NEIGHBOUR: 'it returns false'. Refute it at one input. -/
def fnExactSecretBadWrong : ChangeSpec := { name := "fnExactSecretBad", fn := fun _ => fun
  | [d1, d2] => { results := [.lit (.bool false)], args := [d1, d2] }
  | _ => none }
def FnExactSecretBadWrongFalsely : Prop := fnExactSecretBadRow.holds Try.pinned (OpenSpec.ofChange fnExactSecretBadWrong)

/- THE SECOND FORM. 'bulk': how many values and letters a reading holds, each counted each time it is reached (what is shared counts as often as it is met; a slice's spare places count too). A statement '..UptoSaid' is the law's where the arguments, and the package variables that the reading takes, are together of bulk at most 1048576: NARROWER than '..Said'. Prove '..Said' where nothing that the law and all that it calls make is longer than what came in: it says more and counts as full. Else prove '..UptoSaid'. A law counts once. -/
mutual
def uptoBulk {H : Type} : DataW H → Nat
  | .lit (.string bytes) => bytes.length + 1
  | .lit _ => 1
  | .nil => 1
  | .ptr d => uptoBulk d + 1
  | .slice elems spare => uptoBulkAll elems + uptoBulkAll spare + 1
  | .agg parts => uptoBulkAll parts + 1
  | .iface _ d => uptoBulk d + 1
  | .map entries => uptoBulkEntries entries + 1
  | .held _ => 1
def uptoBulkAll {H : Type} : List (DataW H) → Nat
  | [] => 0
  | d :: r => uptoBulk d + uptoBulkAll r
def uptoBulkEntries {H : Type} : List (Lit × DataW H) → Nat
  | [] => 0
  | x :: r => uptoBulkEntry x + uptoBulkEntries r
def uptoBulkEntry {H : Type} : Lit × DataW H → Nat
  | (.string bytes, d) => bytes.length + uptoBulk d + 1
  | (_, d) => uptoBulk d + 1
 end
def uptoSmall : (H : Type) → List (DataW H) → Bool := fun _ ds => decide (uptoBulkAll ds ≤ 1048576)
def OpenSpec.upto (s : _root_.Go.ChangeSpec) : _root_.Go.OpenSpec := { _root_.Go.OpenSpec.ofChange s with cond := some uptoSmall }

/-- 'laws.FnSecretOf', WHERE WHAT IT READS IS OF BULK AT MOST 1048576: true; the input reads as it did. -/
def fnSecretOfUptoRow : OpenClaim := { program := "ythjflmokfkcalaa", sum := "f98e62d0c2d7a36dc7bae74c9a62fe76690d51279faef7fa4d51b214317ea110", func := "loop.example/wardstaff/laws.FnSecretOf", spec := "fnSecretOf", unfollowed := true, recurses := true, apart := false, narrowed := true }
def FnSecretOfUptoSaid : Prop := fnSecretOfUptoRow.holds Try.pinned (OpenSpec.upto fnSecretOfSpec)

/-- 'laws.FnSecretBad', WHERE WHAT IT READS IS OF BULK AT MOST 1048576: true; the input reads as it did. -/
def fnSecretBadUptoRow : OpenClaim := { program := "ythjflmokfkcalaa", sum := "f98e62d0c2d7a36dc7bae74c9a62fe76690d51279faef7fa4d51b214317ea110", func := "loop.example/wardstaff/laws.FnSecretBad", spec := "fnSecretBad", unfollowed := true, recurses := true, apart := false, narrowed := true }
def FnSecretBadUptoSaid : Prop := fnSecretBadUptoRow.holds Try.pinned (OpenSpec.upto fnSecretBadSpec)

/-- 'laws.FnHeldForm', WHERE WHAT IT READS IS OF BULK AT MOST 1048576: true; the input reads as it did. -/
def fnHeldFormUptoRow : OpenClaim := { program := "ythjflmokfkcalaa", sum := "f98e62d0c2d7a36dc7bae74c9a62fe76690d51279faef7fa4d51b214317ea110", func := "loop.example/wardstaff/laws.FnHeldForm", spec := "fnHeldForm", apart := false, narrowed := true }
def FnHeldFormUptoSaid : Prop := fnHeldFormUptoRow.holds Try.pinned (OpenSpec.upto fnHeldFormSpec)

/-- 'laws.FnExactHeldOk', WHERE WHAT IT READS IS OF BULK AT MOST 1048576: true; the input reads as it did. -/
def fnExactHeldOkUptoRow : OpenClaim := { program := "ythjflmokfkcalaa", sum := "f98e62d0c2d7a36dc7bae74c9a62fe76690d51279faef7fa4d51b214317ea110", func := "loop.example/wardstaff/laws.FnExactHeldOk", spec := "fnExactHeldOk", apart := false, narrowed := true }
def FnExactHeldOkUptoSaid : Prop := fnExactHeldOkUptoRow.holds Try.pinned (OpenSpec.upto fnExactHeldOkSpec)

/-- 'laws.FnExactSecretOf', WHERE WHAT IT READS IS OF BULK AT MOST 1048576: true; the input reads as it did. -/
def fnExactSecretOfUptoRow : OpenClaim := { program := "ythjflmokfkcalaa", sum := "f98e62d0c2d7a36dc7bae74c9a62fe76690d51279faef7fa4d51b214317ea110", func := "loop.example/wardstaff/laws.FnExactSecretOf", spec := "fnExactSecretOf", unfollowed := true, recurses := true, apart := false, narrowed := true }
def FnExactSecretOfUptoSaid : Prop := fnExactSecretOfUptoRow.holds Try.pinned (OpenSpec.upto fnExactSecretOfSpec)

/-- 'laws.FnExactSecretBad', WHERE WHAT IT READS IS OF BULK AT MOST 1048576: true; the input reads as it did. -/
def fnExactSecretBadUptoRow : OpenClaim := { program := "ythjflmokfkcalaa", sum := "f98e62d0c2d7a36dc7bae74c9a62fe76690d51279faef7fa4d51b214317ea110", func := "loop.example/wardstaff/laws.FnExactSecretBad", spec := "fnExactSecretBad", unfollowed := true, recurses := true, apart := false, narrowed := true }
def FnExactSecretBadUptoSaid : Prop := fnExactSecretBadUptoRow.holds Try.pinned (OpenSpec.upto fnExactSecretBadSpec)

end Rows
end Go.Proofs.Ythjflmokfkcalaa
