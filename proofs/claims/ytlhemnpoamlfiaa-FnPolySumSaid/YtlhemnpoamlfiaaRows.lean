/-
  No cell of these rows narrows 'for every input' (looked for: loops, veiled, ifaces, maps, wideKeys, modest, calm, conditions, laid).
  DERIVED. THE GIVEN ROWS OF THIS SEAT. 14 by the template 'for every input the law returns true; each argument reads behind the call as it read before'; 0 by the template 'total and deterministic' (their statements: YtlhemnpoamlfiaaTotals.lean).
  GIVEN WITH THE SEED: the statements are not yours to turn. If you find one false, say at which input.
  Laid BY PROGRAM, IN A SANDBOX (cutbox-rows.mjs): the forced cells as the released guide's own fill.sh prints them over the translation 4b2e449cade7277e… (all of the seat's roots in one cut). By AI agents, Wed Nov 11 2026. No macro, syntax, notation, axiom, sorry.
-/
import Derived.Test.YtlhemnpoamlfiaaChecked
import GoSem.Claim
import GoSem.ClaimJoined
import GoSem.ClaimMapViews
import Derived.JoinedTies
import Derived.KernelRfl
namespace Go.Proofs.Ytlhemnpoamlfiaa
/- THE CELL 'sum', in the pinned program and in every row, IS THE sha256 OF THE DUMP (.gsa) THAT YtlhemnpoamlfiaaProg.lean LOADS. Nothing in Lean hashes anything: it is a label: what it is worth is what the hold of that sum in a sandbox is worth. -/
noncomputable def Try.pinned : Pinned := { name := "ytlhemnpoamlfiaa", sum := "4b2e449cade7277e5fefb7a9d2789606a3b832047c19a98970515539d7006c41", checked := Try.checked }
namespace Rows
def none {H : Type} : Left H := { results := [], args := [] }

/-- 'laws.FnPolyAt': WHATEVER THE INPUT: true; the input reads as it did. -/
def fnPolyAtSpec : ChangeSpec := { name := "fnPolyAt", fn := fun _ => fun
  | [d] => { results := [.lit (.bool true)], args := [d] }
  | _ => none }
def fnPolyAtRow : OpenClaim := { program := "ytlhemnpoamlfiaa", sum := "4b2e449cade7277e5fefb7a9d2789606a3b832047c19a98970515539d7006c41", func := "loop.example/wardstaff/laws.FnPolyAt", spec := "fnPolyAt", unfollowed := true, recurses := true, apart := false }
def FnPolyAtSaid : Prop := fnPolyAtRow.holds Try.pinned (OpenSpec.ofChange fnPolyAtSpec)

/-- ITS FALSE NEIGHBOUR: 'it returns false'. Refute it at one input. -/
def fnPolyAtWrong : ChangeSpec := { name := "fnPolyAt", fn := fun _ => fun
  | [d] => { results := [.lit (.bool false)], args := [d] }
  | _ => none }
def FnPolyAtWrongFalsely : Prop := fnPolyAtRow.holds Try.pinned (OpenSpec.ofChange fnPolyAtWrong)

/-- 'laws.FnPolySum': WHATEVER THE INPUT: true; the input reads as it did. -/
def fnPolySumSpec : ChangeSpec := { name := "fnPolySum", fn := fun _ => fun
  | [d1, d2] => { results := [.lit (.bool true)], args := [d1, d2] }
  | _ => none }
def fnPolySumRow : OpenClaim := { program := "ytlhemnpoamlfiaa", sum := "4b2e449cade7277e5fefb7a9d2789606a3b832047c19a98970515539d7006c41", func := "loop.example/wardstaff/laws.FnPolySum", spec := "fnPolySum", unfollowed := true, recurses := true, apart := false }
def FnPolySumSaid : Prop := fnPolySumRow.holds Try.pinned (OpenSpec.ofChange fnPolySumSpec)

/-- ITS FALSE NEIGHBOUR: 'it returns false'. Refute it at one input. -/
def fnPolySumWrong : ChangeSpec := { name := "fnPolySum", fn := fun _ => fun
  | [d1, d2] => { results := [.lit (.bool false)], args := [d1, d2] }
  | _ => none }
def FnPolySumWrongFalsely : Prop := fnPolySumRow.holds Try.pinned (OpenSpec.ofChange fnPolySumWrong)

/-- 'laws.FnLine': WHATEVER THE INPUT: true; the input reads as it did. -/
def fnLineSpec : ChangeSpec := { name := "fnLine", fn := fun _ => fun
  | [d1, d2] => { results := [.lit (.bool true)], args := [d1, d2] }
  | _ => none }
def fnLineRow : OpenClaim := { program := "ytlhemnpoamlfiaa", sum := "4b2e449cade7277e5fefb7a9d2789606a3b832047c19a98970515539d7006c41", func := "loop.example/wardstaff/laws.FnLine", spec := "fnLine", unfollowed := true, recurses := true, apart := false }
def FnLineSaid : Prop := fnLineRow.holds Try.pinned (OpenSpec.ofChange fnLineSpec)

/-- ITS FALSE NEIGHBOUR: 'it returns false'. Refute it at one input. -/
def fnLineWrong : ChangeSpec := { name := "fnLine", fn := fun _ => fun
  | [d1, d2] => { results := [.lit (.bool false)], args := [d1, d2] }
  | _ => none }
def FnLineWrongFalsely : Prop := fnLineRow.holds Try.pinned (OpenSpec.ofChange fnLineWrong)

/-- 'laws.FnLineOwn': WHATEVER THE INPUT: true; the input reads as it did. -/
def fnLineOwnSpec : ChangeSpec := { name := "fnLineOwn", fn := fun _ => fun
  | [d] => { results := [.lit (.bool true)], args := [d] }
  | _ => none }
def fnLineOwnRow : OpenClaim := { program := "ytlhemnpoamlfiaa", sum := "4b2e449cade7277e5fefb7a9d2789606a3b832047c19a98970515539d7006c41", func := "loop.example/wardstaff/laws.FnLineOwn", spec := "fnLineOwn", unfollowed := true, recurses := true, apart := false }
def FnLineOwnSaid : Prop := fnLineOwnRow.holds Try.pinned (OpenSpec.ofChange fnLineOwnSpec)

/-- ITS FALSE NEIGHBOUR: 'it returns false'. Refute it at one input. -/
def fnLineOwnWrong : ChangeSpec := { name := "fnLineOwn", fn := fun _ => fun
  | [d] => { results := [.lit (.bool false)], args := [d] }
  | _ => none }
def FnLineOwnWrongFalsely : Prop := fnLineOwnRow.holds Try.pinned (OpenSpec.ofChange fnLineOwnWrong)

/-- 'laws.FnPolyRoots': WHATEVER THE INPUT: true; the input reads as it did. -/
def fnPolyRootsSpec : ChangeSpec := { name := "fnPolyRoots", fn := fun _ => fun
  | [d] => { results := [.lit (.bool true)], args := [d] }
  | _ => none }
def fnPolyRootsRow : OpenClaim := { program := "ytlhemnpoamlfiaa", sum := "4b2e449cade7277e5fefb7a9d2789606a3b832047c19a98970515539d7006c41", func := "loop.example/wardstaff/laws.FnPolyRoots", spec := "fnPolyRoots", unfollowed := true, recurses := true, apart := false }
def FnPolyRootsSaid : Prop := fnPolyRootsRow.holds Try.pinned (OpenSpec.ofChange fnPolyRootsSpec)

/-- ITS FALSE NEIGHBOUR: 'it returns false'. Refute it at one input. -/
def fnPolyRootsWrong : ChangeSpec := { name := "fnPolyRoots", fn := fun _ => fun
  | [d] => { results := [.lit (.bool false)], args := [d] }
  | _ => none }
def FnPolyRootsWrongFalsely : Prop := fnPolyRootsRow.holds Try.pinned (OpenSpec.ofChange fnPolyRootsWrong)

/-- 'laws.FnPlacesForm': WHATEVER THE INPUT: true; the input reads as it did. -/
def fnPlacesFormSpec : ChangeSpec := { name := "fnPlacesForm", fn := fun _ => fun
  | [d1, d2] => { results := [.lit (.bool true)], args := [d1, d2] }
  | _ => none }
def fnPlacesFormRow : OpenClaim := { program := "ytlhemnpoamlfiaa", sum := "4b2e449cade7277e5fefb7a9d2789606a3b832047c19a98970515539d7006c41", func := "loop.example/wardstaff/laws.FnPlacesForm", spec := "fnPlacesForm", apart := false }
def FnPlacesFormSaid : Prop := fnPlacesFormRow.holds Try.pinned (OpenSpec.ofChange fnPlacesFormSpec)

/-- ITS FALSE NEIGHBOUR: 'it returns false'. Refute it at one input. -/
def fnPlacesFormWrong : ChangeSpec := { name := "fnPlacesForm", fn := fun _ => fun
  | [d1, d2] => { results := [.lit (.bool false)], args := [d1, d2] }
  | _ => none }
def FnPlacesFormWrongFalsely : Prop := fnPlacesFormRow.holds Try.pinned (OpenSpec.ofChange fnPlacesFormWrong)

/-- 'laws.FnPolyForm': WHATEVER THE INPUT: true; the input reads as it did. -/
def fnPolyFormSpec : ChangeSpec := { name := "fnPolyForm", fn := fun _ => fun
  | [d1, d2] => { results := [.lit (.bool true)], args := [d1, d2] }
  | _ => none }
def fnPolyFormRow : OpenClaim := { program := "ytlhemnpoamlfiaa", sum := "4b2e449cade7277e5fefb7a9d2789606a3b832047c19a98970515539d7006c41", func := "loop.example/wardstaff/laws.FnPolyForm", spec := "fnPolyForm", apart := false }
def FnPolyFormSaid : Prop := fnPolyFormRow.holds Try.pinned (OpenSpec.ofChange fnPolyFormSpec)

/-- ITS FALSE NEIGHBOUR: 'it returns false'. Refute it at one input. -/
def fnPolyFormWrong : ChangeSpec := { name := "fnPolyForm", fn := fun _ => fun
  | [d1, d2] => { results := [.lit (.bool false)], args := [d1, d2] }
  | _ => none }
def FnPolyFormWrongFalsely : Prop := fnPolyFormRow.holds Try.pinned (OpenSpec.ofChange fnPolyFormWrong)

/-- 'laws.FnSumThree': WHATEVER THE INPUT: true; the input reads as it did. -/
def fnSumThreeSpec : ChangeSpec := { name := "fnSumThree", fn := fun _ => fun
  | [d1, d2] => { results := [.lit (.bool true)], args := [d1, d2] }
  | _ => none }
def fnSumThreeRow : OpenClaim := { program := "ytlhemnpoamlfiaa", sum := "4b2e449cade7277e5fefb7a9d2789606a3b832047c19a98970515539d7006c41", func := "loop.example/wardstaff/laws.FnSumThree", spec := "fnSumThree", unfollowed := true, recurses := true, apart := false }
def FnSumThreeSaid : Prop := fnSumThreeRow.holds Try.pinned (OpenSpec.ofChange fnSumThreeSpec)

/-- ITS FALSE NEIGHBOUR: 'it returns false'. Refute it at one input. -/
def fnSumThreeWrong : ChangeSpec := { name := "fnSumThree", fn := fun _ => fun
  | [d1, d2] => { results := [.lit (.bool false)], args := [d1, d2] }
  | _ => none }
def FnSumThreeWrongFalsely : Prop := fnSumThreeRow.holds Try.pinned (OpenSpec.ofChange fnSumThreeWrong)

/-- 'laws.FnLineOrder': WHATEVER THE INPUT: true; the input reads as it did. -/
def fnLineOrderSpec : ChangeSpec := { name := "fnLineOrder", fn := fun _ => fun
  | [d] => { results := [.lit (.bool true)], args := [d] }
  | _ => none }
def fnLineOrderRow : OpenClaim := { program := "ytlhemnpoamlfiaa", sum := "4b2e449cade7277e5fefb7a9d2789606a3b832047c19a98970515539d7006c41", func := "loop.example/wardstaff/laws.FnLineOrder", spec := "fnLineOrder", unfollowed := true, recurses := true, apart := false }
def FnLineOrderSaid : Prop := fnLineOrderRow.holds Try.pinned (OpenSpec.ofChange fnLineOrderSpec)

/-- ITS FALSE NEIGHBOUR: 'it returns false'. Refute it at one input. -/
def fnLineOrderWrong : ChangeSpec := { name := "fnLineOrder", fn := fun _ => fun
  | [d] => { results := [.lit (.bool false)], args := [d] }
  | _ => none }
def FnLineOrderWrongFalsely : Prop := fnLineOrderRow.holds Try.pinned (OpenSpec.ofChange fnLineOrderWrong)

/-- 'laws.FnExactPolyOk': WHATEVER THE INPUT: true; the input reads as it did. -/
def fnExactPolyOkSpec : ChangeSpec := { name := "fnExactPolyOk", fn := fun _ => fun
  | [d] => { results := [.lit (.bool true)], args := [d] }
  | _ => none }
def fnExactPolyOkRow : OpenClaim := { program := "ytlhemnpoamlfiaa", sum := "4b2e449cade7277e5fefb7a9d2789606a3b832047c19a98970515539d7006c41", func := "loop.example/wardstaff/laws.FnExactPolyOk", spec := "fnExactPolyOk", apart := false }
def FnExactPolyOkSaid : Prop := fnExactPolyOkRow.holds Try.pinned (OpenSpec.ofChange fnExactPolyOkSpec)

/-- ITS FALSE NEIGHBOUR: 'it returns false'. Refute it at one input. -/
def fnExactPolyOkWrong : ChangeSpec := { name := "fnExactPolyOk", fn := fun _ => fun
  | [d] => { results := [.lit (.bool false)], args := [d] }
  | _ => none }
def FnExactPolyOkWrongFalsely : Prop := fnExactPolyOkRow.holds Try.pinned (OpenSpec.ofChange fnExactPolyOkWrong)

/-- 'laws.FnExactPolyAt': WHATEVER THE INPUT: true; the input reads as it did. -/
def fnExactPolyAtSpec : ChangeSpec := { name := "fnExactPolyAt", fn := fun _ => fun
  | [d1, d2] => { results := [.lit (.bool true)], args := [d1, d2] }
  | _ => none }
def fnExactPolyAtRow : OpenClaim := { program := "ytlhemnpoamlfiaa", sum := "4b2e449cade7277e5fefb7a9d2789606a3b832047c19a98970515539d7006c41", func := "loop.example/wardstaff/laws.FnExactPolyAt", spec := "fnExactPolyAt", unfollowed := true, recurses := true, apart := false }
def FnExactPolyAtSaid : Prop := fnExactPolyAtRow.holds Try.pinned (OpenSpec.ofChange fnExactPolyAtSpec)

/-- ITS FALSE NEIGHBOUR: 'it returns false'. Refute it at one input. -/
def fnExactPolyAtWrong : ChangeSpec := { name := "fnExactPolyAt", fn := fun _ => fun
  | [d1, d2] => { results := [.lit (.bool false)], args := [d1, d2] }
  | _ => none }
def FnExactPolyAtWrongFalsely : Prop := fnExactPolyAtRow.holds Try.pinned (OpenSpec.ofChange fnExactPolyAtWrong)

/-- 'laws.FnExactPolySum': WHATEVER THE INPUT: true; the input reads as it did. -/
def fnExactPolySumSpec : ChangeSpec := { name := "fnExactPolySum", fn := fun _ => fun
  | [d1, d2] => { results := [.lit (.bool true)], args := [d1, d2] }
  | _ => none }
def fnExactPolySumRow : OpenClaim := { program := "ytlhemnpoamlfiaa", sum := "4b2e449cade7277e5fefb7a9d2789606a3b832047c19a98970515539d7006c41", func := "loop.example/wardstaff/laws.FnExactPolySum", spec := "fnExactPolySum", unfollowed := true, recurses := true, apart := false }
def FnExactPolySumSaid : Prop := fnExactPolySumRow.holds Try.pinned (OpenSpec.ofChange fnExactPolySumSpec)

/-- ITS FALSE NEIGHBOUR: 'it returns false'. Refute it at one input. -/
def fnExactPolySumWrong : ChangeSpec := { name := "fnExactPolySum", fn := fun _ => fun
  | [d1, d2] => { results := [.lit (.bool false)], args := [d1, d2] }
  | _ => none }
def FnExactPolySumWrongFalsely : Prop := fnExactPolySumRow.holds Try.pinned (OpenSpec.ofChange fnExactPolySumWrong)

/-- 'laws.FnExactPlacesOk': WHATEVER THE INPUT: true; the input reads as it did. -/
def fnExactPlacesOkSpec : ChangeSpec := { name := "fnExactPlacesOk", fn := fun _ => fun
  | [d] => { results := [.lit (.bool true)], args := [d] }
  | _ => none }
def fnExactPlacesOkRow : OpenClaim := { program := "ytlhemnpoamlfiaa", sum := "4b2e449cade7277e5fefb7a9d2789606a3b832047c19a98970515539d7006c41", func := "loop.example/wardstaff/laws.FnExactPlacesOk", spec := "fnExactPlacesOk", apart := false }
def FnExactPlacesOkSaid : Prop := fnExactPlacesOkRow.holds Try.pinned (OpenSpec.ofChange fnExactPlacesOkSpec)

/-- ITS FALSE NEIGHBOUR: 'it returns false'. Refute it at one input. -/
def fnExactPlacesOkWrong : ChangeSpec := { name := "fnExactPlacesOk", fn := fun _ => fun
  | [d] => { results := [.lit (.bool false)], args := [d] }
  | _ => none }
def FnExactPlacesOkWrongFalsely : Prop := fnExactPlacesOkRow.holds Try.pinned (OpenSpec.ofChange fnExactPlacesOkWrong)

/-- 'laws.FnExactPolyLine': WHATEVER THE INPUT: true; the input reads as it did. -/
def fnExactPolyLineSpec : ChangeSpec := { name := "fnExactPolyLine", fn := fun _ => fun
  | [d1, d2] => { results := [.lit (.bool true)], args := [d1, d2] }
  | _ => none }
def fnExactPolyLineRow : OpenClaim := { program := "ytlhemnpoamlfiaa", sum := "4b2e449cade7277e5fefb7a9d2789606a3b832047c19a98970515539d7006c41", func := "loop.example/wardstaff/laws.FnExactPolyLine", spec := "fnExactPolyLine", unfollowed := true, recurses := true, apart := false }
def FnExactPolyLineSaid : Prop := fnExactPolyLineRow.holds Try.pinned (OpenSpec.ofChange fnExactPolyLineSpec)

/-- ITS FALSE NEIGHBOUR: 'it returns false'. Refute it at one input. -/
def fnExactPolyLineWrong : ChangeSpec := { name := "fnExactPolyLine", fn := fun _ => fun
  | [d1, d2] => { results := [.lit (.bool false)], args := [d1, d2] }
  | _ => none }
def FnExactPolyLineWrongFalsely : Prop := fnExactPolyLineRow.holds Try.pinned (OpenSpec.ofChange fnExactPolyLineWrong)

/- THE SECOND FORM. 'bulk': how many values and letters a reading holds, each counted each time it is reached (what is shared counts as often as it is met; a slice's spare places count too). A statement '..UptoSaid' is the law's where the arguments, and the package variables that the reading takes, are together of bulk at most 1048576: NARROWER than '..Said'. Prove '..Said' where nothing that the law and all that it calls make is longer than what came in: it says more and counts as full. Else prove '..UptoSaid'. A law counts once. -/
mutual
def uptoBulk {H : Type} : DataW H → Nat
  | .lit (.string bytes) => bytes.length + 1
  | .lit _ => 1
  | .nil => 1
  | .ptr d => uptoBulk d + 1
  | .slice elems spare => uptoBulkAll elems + uptoBulkAll spare + 1
  | .agg parts => uptoBulkAll parts + 1
  | .iface _ d => uptoBulk d + 1
  | .map entries => uptoBulkEntries entries + 1
  | .held _ => 1
def uptoBulkAll {H : Type} : List (DataW H) → Nat
  | [] => 0
  | d :: r => uptoBulk d + uptoBulkAll r
def uptoBulkEntries {H : Type} : List (Lit × DataW H) → Nat
  | [] => 0
  | x :: r => uptoBulkEntry x + uptoBulkEntries r
def uptoBulkEntry {H : Type} : Lit × DataW H → Nat
  | (.string bytes, d) => bytes.length + uptoBulk d + 1
  | (_, d) => uptoBulk d + 1
 end
def uptoSmall : (H : Type) → List (DataW H) → Bool := fun _ ds => decide (uptoBulkAll ds ≤ 1048576)
def OpenSpec.upto (s : _root_.Go.ChangeSpec) : _root_.Go.OpenSpec := { _root_.Go.OpenSpec.ofChange s with cond := some uptoSmall }

/-- 'laws.FnPolyAt', WHERE WHAT IT READS IS OF BULK AT MOST 1048576: true; the input reads as it did. -/
def fnPolyAtUptoRow : OpenClaim := { program := "ytlhemnpoamlfiaa", sum := "4b2e449cade7277e5fefb7a9d2789606a3b832047c19a98970515539d7006c41", func := "loop.example/wardstaff/laws.FnPolyAt", spec := "fnPolyAt", unfollowed := true, recurses := true, apart := false, narrowed := true }
def FnPolyAtUptoSaid : Prop := fnPolyAtUptoRow.holds Try.pinned (OpenSpec.upto fnPolyAtSpec)

/-- 'laws.FnPolySum', WHERE WHAT IT READS IS OF BULK AT MOST 1048576: true; the input reads as it did. -/
def fnPolySumUptoRow : OpenClaim := { program := "ytlhemnpoamlfiaa", sum := "4b2e449cade7277e5fefb7a9d2789606a3b832047c19a98970515539d7006c41", func := "loop.example/wardstaff/laws.FnPolySum", spec := "fnPolySum", unfollowed := true, recurses := true, apart := false, narrowed := true }
def FnPolySumUptoSaid : Prop := fnPolySumUptoRow.holds Try.pinned (OpenSpec.upto fnPolySumSpec)

/-- 'laws.FnLine', WHERE WHAT IT READS IS OF BULK AT MOST 1048576: true; the input reads as it did. -/
def fnLineUptoRow : OpenClaim := { program := "ytlhemnpoamlfiaa", sum := "4b2e449cade7277e5fefb7a9d2789606a3b832047c19a98970515539d7006c41", func := "loop.example/wardstaff/laws.FnLine", spec := "fnLine", unfollowed := true, recurses := true, apart := false, narrowed := true }
def FnLineUptoSaid : Prop := fnLineUptoRow.holds Try.pinned (OpenSpec.upto fnLineSpec)

/-- 'laws.FnLineOwn', WHERE WHAT IT READS IS OF BULK AT MOST 1048576: true; the input reads as it did. -/
def fnLineOwnUptoRow : OpenClaim := { program := "ytlhemnpoamlfiaa", sum := "4b2e449cade7277e5fefb7a9d2789606a3b832047c19a98970515539d7006c41", func := "loop.example/wardstaff/laws.FnLineOwn", spec := "fnLineOwn", unfollowed := true, recurses := true, apart := false, narrowed := true }
def FnLineOwnUptoSaid : Prop := fnLineOwnUptoRow.holds Try.pinned (OpenSpec.upto fnLineOwnSpec)

/-- 'laws.FnPolyRoots', WHERE WHAT IT READS IS OF BULK AT MOST 1048576: true; the input reads as it did. -/
def fnPolyRootsUptoRow : OpenClaim := { program := "ytlhemnpoamlfiaa", sum := "4b2e449cade7277e5fefb7a9d2789606a3b832047c19a98970515539d7006c41", func := "loop.example/wardstaff/laws.FnPolyRoots", spec := "fnPolyRoots", unfollowed := true, recurses := true, apart := false, narrowed := true }
def FnPolyRootsUptoSaid : Prop := fnPolyRootsUptoRow.holds Try.pinned (OpenSpec.upto fnPolyRootsSpec)

/-- 'laws.FnPlacesForm', WHERE WHAT IT READS IS OF BULK AT MOST 1048576: true; the input reads as it did. -/
def fnPlacesFormUptoRow : OpenClaim := { program := "ytlhemnpoamlfiaa", sum := "4b2e449cade7277e5fefb7a9d2789606a3b832047c19a98970515539d7006c41", func := "loop.example/wardstaff/laws.FnPlacesForm", spec := "fnPlacesForm", apart := false, narrowed := true }
def FnPlacesFormUptoSaid : Prop := fnPlacesFormUptoRow.holds Try.pinned (OpenSpec.upto fnPlacesFormSpec)

/-- 'laws.FnPolyForm', WHERE WHAT IT READS IS OF BULK AT MOST 1048576: true; the input reads as it did. -/
def fnPolyFormUptoRow : OpenClaim := { program := "ytlhemnpoamlfiaa", sum := "4b2e449cade7277e5fefb7a9d2789606a3b832047c19a98970515539d7006c41", func := "loop.example/wardstaff/laws.FnPolyForm", spec := "fnPolyForm", apart := false, narrowed := true }
def FnPolyFormUptoSaid : Prop := fnPolyFormUptoRow.holds Try.pinned (OpenSpec.upto fnPolyFormSpec)

/-- 'laws.FnSumThree', WHERE WHAT IT READS IS OF BULK AT MOST 1048576: true; the input reads as it did. -/
def fnSumThreeUptoRow : OpenClaim := { program := "ytlhemnpoamlfiaa", sum := "4b2e449cade7277e5fefb7a9d2789606a3b832047c19a98970515539d7006c41", func := "loop.example/wardstaff/laws.FnSumThree", spec := "fnSumThree", unfollowed := true, recurses := true, apart := false, narrowed := true }
def FnSumThreeUptoSaid : Prop := fnSumThreeUptoRow.holds Try.pinned (OpenSpec.upto fnSumThreeSpec)

/-- 'laws.FnLineOrder', WHERE WHAT IT READS IS OF BULK AT MOST 1048576: true; the input reads as it did. -/
def fnLineOrderUptoRow : OpenClaim := { program := "ytlhemnpoamlfiaa", sum := "4b2e449cade7277e5fefb7a9d2789606a3b832047c19a98970515539d7006c41", func := "loop.example/wardstaff/laws.FnLineOrder", spec := "fnLineOrder", unfollowed := true, recurses := true, apart := false, narrowed := true }
def FnLineOrderUptoSaid : Prop := fnLineOrderUptoRow.holds Try.pinned (OpenSpec.upto fnLineOrderSpec)

/-- 'laws.FnExactPolyOk', WHERE WHAT IT READS IS OF BULK AT MOST 1048576: true; the input reads as it did. -/
def fnExactPolyOkUptoRow : OpenClaim := { program := "ytlhemnpoamlfiaa", sum := "4b2e449cade7277e5fefb7a9d2789606a3b832047c19a98970515539d7006c41", func := "loop.example/wardstaff/laws.FnExactPolyOk", spec := "fnExactPolyOk", apart := false, narrowed := true }
def FnExactPolyOkUptoSaid : Prop := fnExactPolyOkUptoRow.holds Try.pinned (OpenSpec.upto fnExactPolyOkSpec)

/-- 'laws.FnExactPolyAt', WHERE WHAT IT READS IS OF BULK AT MOST 1048576: true; the input reads as it did. -/
def fnExactPolyAtUptoRow : OpenClaim := { program := "ytlhemnpoamlfiaa", sum := "4b2e449cade7277e5fefb7a9d2789606a3b832047c19a98970515539d7006c41", func := "loop.example/wardstaff/laws.FnExactPolyAt", spec := "fnExactPolyAt", unfollowed := true, recurses := true, apart := false, narrowed := true }
def FnExactPolyAtUptoSaid : Prop := fnExactPolyAtUptoRow.holds Try.pinned (OpenSpec.upto fnExactPolyAtSpec)

/-- 'laws.FnExactPolySum', WHERE WHAT IT READS IS OF BULK AT MOST 1048576: true; the input reads as it did. -/
def fnExactPolySumUptoRow : OpenClaim := { program := "ytlhemnpoamlfiaa", sum := "4b2e449cade7277e5fefb7a9d2789606a3b832047c19a98970515539d7006c41", func := "loop.example/wardstaff/laws.FnExactPolySum", spec := "fnExactPolySum", unfollowed := true, recurses := true, apart := false, narrowed := true }
def FnExactPolySumUptoSaid : Prop := fnExactPolySumUptoRow.holds Try.pinned (OpenSpec.upto fnExactPolySumSpec)

/-- 'laws.FnExactPlacesOk', WHERE WHAT IT READS IS OF BULK AT MOST 1048576: true; the input reads as it did. -/
def fnExactPlacesOkUptoRow : OpenClaim := { program := "ytlhemnpoamlfiaa", sum := "4b2e449cade7277e5fefb7a9d2789606a3b832047c19a98970515539d7006c41", func := "loop.example/wardstaff/laws.FnExactPlacesOk", spec := "fnExactPlacesOk", apart := false, narrowed := true }
def FnExactPlacesOkUptoSaid : Prop := fnExactPlacesOkUptoRow.holds Try.pinned (OpenSpec.upto fnExactPlacesOkSpec)

/-- 'laws.FnExactPolyLine', WHERE WHAT IT READS IS OF BULK AT MOST 1048576: true; the input reads as it did. -/
def fnExactPolyLineUptoRow : OpenClaim := { program := "ytlhemnpoamlfiaa", sum := "4b2e449cade7277e5fefb7a9d2789606a3b832047c19a98970515539d7006c41", func := "loop.example/wardstaff/laws.FnExactPolyLine", spec := "fnExactPolyLine", unfollowed := true, recurses := true, apart := false, narrowed := true }
def FnExactPolyLineUptoSaid : Prop := fnExactPolyLineUptoRow.holds Try.pinned (OpenSpec.upto fnExactPolyLineSpec)

end Rows
end Go.Proofs.Ytlhemnpoamlfiaa
