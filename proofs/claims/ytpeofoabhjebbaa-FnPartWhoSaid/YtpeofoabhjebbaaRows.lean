/-
  No cell of these rows narrows 'for every input' (looked for: loops, veiled, ifaces, maps, wideKeys, modest, calm, conditions, laid).
  DERIVED. THE GIVEN ROWS OF THIS SEAT. 14 by the template 'for every input the law returns true; each argument reads behind the call as it read before'; 0 by the template 'total and deterministic' (their statements: YtpeofoabhjebbaaTotals.lean).
  GIVEN WITH THE SEED: the statements are not yours to turn. If you find one false, say at which input.
  Laid BY PROGRAM, IN A SANDBOX (cutbox-rows.mjs): the forced cells as the released guide's own fill.sh prints them over the translation 9c3d7879d180da95… (all of the seat's roots in one cut). By AI agents, Wed Nov 11 2026. No macro, syntax, notation, axiom, sorry.
-/
import Derived.Test.YtpeofoabhjebbaaChecked
import GoSem.Claim
import GoSem.ClaimJoined
import GoSem.ClaimMapViews
import Derived.JoinedTies
import Derived.KernelRfl
namespace Go.Proofs.Ytpeofoabhjebbaa
/- THE CELL 'sum', in the pinned program and in every row, IS THE sha256 OF THE DUMP (.gsa) THAT YtpeofoabhjebbaaProg.lean LOADS. Nothing in Lean hashes anything: it is a label: what it is worth is what the hold of that sum in a sandbox is worth. -/
noncomputable def Try.pinned : Pinned := { name := "ytpeofoabhjebbaa", sum := "9c3d7879d180da956de2fc12c94facfdf16afd5b2326a4219850f42e77e92936", checked := Try.checked }
namespace Rows
def none {H : Type} : Left H := { results := [], args := [] }

/-- 'laws.FnHash': WHATEVER THE INPUT: true; the input reads as it did. -/
def fnHashSpec : ChangeSpec := { name := "fnHash", fn := fun _ => fun
  | [d] => { results := [.lit (.bool true)], args := [d] }
  | _ => none }
def fnHashRow : OpenClaim := { program := "ytpeofoabhjebbaa", sum := "9c3d7879d180da956de2fc12c94facfdf16afd5b2326a4219850f42e77e92936", func := "loop.example/wardstaff/laws.FnHash", spec := "fnHash", apart := false }
def FnHashSaid : Prop := fnHashRow.holds Try.pinned (OpenSpec.ofChange fnHashSpec)

/-- ITS FALSE NEIGHBOUR: 'it returns false'. Refute it at one input. -/
def fnHashWrong : ChangeSpec := { name := "fnHash", fn := fun _ => fun
  | [d] => { results := [.lit (.bool false)], args := [d] }
  | _ => none }
def FnHashWrongFalsely : Prop := fnHashRow.holds Try.pinned (OpenSpec.ofChange fnHashWrong)

/-- 'laws.FnAlone': WHATEVER THE INPUT: true; the input reads as it did. -/
def fnAloneSpec : ChangeSpec := { name := "fnAlone", fn := fun _ => fun
  | [d] => { results := [.lit (.bool true)], args := [d] }
  | _ => none }
def fnAloneRow : OpenClaim := { program := "ytpeofoabhjebbaa", sum := "9c3d7879d180da956de2fc12c94facfdf16afd5b2326a4219850f42e77e92936", func := "loop.example/wardstaff/laws.FnAlone", spec := "fnAlone", unfollowed := true, recurses := true, apart := false }
def FnAloneSaid : Prop := fnAloneRow.holds Try.pinned (OpenSpec.ofChange fnAloneSpec)

/-- ITS FALSE NEIGHBOUR: 'it returns false'. Refute it at one input. -/
def fnAloneWrong : ChangeSpec := { name := "fnAlone", fn := fun _ => fun
  | [d] => { results := [.lit (.bool false)], args := [d] }
  | _ => none }
def FnAloneWrongFalsely : Prop := fnAloneRow.holds Try.pinned (OpenSpec.ofChange fnAloneWrong)

/-- 'laws.FnSigOne': WHATEVER THE INPUT: true; the input reads as it did. -/
def fnSigOneSpec : ChangeSpec := { name := "fnSigOne", fn := fun _ => fun
  | [d] => { results := [.lit (.bool true)], args := [d] }
  | _ => none }
def fnSigOneRow : OpenClaim := { program := "ytpeofoabhjebbaa", sum := "9c3d7879d180da956de2fc12c94facfdf16afd5b2326a4219850f42e77e92936", func := "loop.example/wardstaff/laws.FnSigOne", spec := "fnSigOne", unfollowed := true, recurses := true, apart := false }
def FnSigOneSaid : Prop := fnSigOneRow.holds Try.pinned (OpenSpec.ofChange fnSigOneSpec)

/-- ITS FALSE NEIGHBOUR: 'it returns false'. Refute it at one input. -/
def fnSigOneWrong : ChangeSpec := { name := "fnSigOne", fn := fun _ => fun
  | [d] => { results := [.lit (.bool false)], args := [d] }
  | _ => none }
def FnSigOneWrongFalsely : Prop := fnSigOneRow.holds Try.pinned (OpenSpec.ofChange fnSigOneWrong)

/-- 'laws.FnSigTwo': WHATEVER THE INPUT: true; the input reads as it did. -/
def fnSigTwoSpec : ChangeSpec := { name := "fnSigTwo", fn := fun _ => fun
  | [d1, d2] => { results := [.lit (.bool true)], args := [d1, d2] }
  | _ => none }
def fnSigTwoRow : OpenClaim := { program := "ytpeofoabhjebbaa", sum := "9c3d7879d180da956de2fc12c94facfdf16afd5b2326a4219850f42e77e92936", func := "loop.example/wardstaff/laws.FnSigTwo", spec := "fnSigTwo", unfollowed := true, recurses := true, apart := false }
def FnSigTwoSaid : Prop := fnSigTwoRow.holds Try.pinned (OpenSpec.ofChange fnSigTwoSpec)

/-- ITS FALSE NEIGHBOUR: 'it returns false'. Refute it at one input. -/
def fnSigTwoWrong : ChangeSpec := { name := "fnSigTwo", fn := fun _ => fun
  | [d1, d2] => { results := [.lit (.bool false)], args := [d1, d2] }
  | _ => none }
def FnSigTwoWrongFalsely : Prop := fnSigTwoRow.holds Try.pinned (OpenSpec.ofChange fnSigTwoWrong)

/-- 'laws.FnPart': WHATEVER THE INPUT: true; the input reads as it did. -/
def fnPartSpec : ChangeSpec := { name := "fnPart", fn := fun _ => fun
  | [d] => { results := [.lit (.bool true)], args := [d] }
  | _ => none }
def fnPartRow : OpenClaim := { program := "ytpeofoabhjebbaa", sum := "9c3d7879d180da956de2fc12c94facfdf16afd5b2326a4219850f42e77e92936", func := "loop.example/wardstaff/laws.FnPart", spec := "fnPart", unfollowed := true, recurses := true, apart := false }
def FnPartSaid : Prop := fnPartRow.holds Try.pinned (OpenSpec.ofChange fnPartSpec)

/-- ITS FALSE NEIGHBOUR: 'it returns false'. Refute it at one input. -/
def fnPartWrong : ChangeSpec := { name := "fnPart", fn := fun _ => fun
  | [d] => { results := [.lit (.bool false)], args := [d] }
  | _ => none }
def FnPartWrongFalsely : Prop := fnPartRow.holds Try.pinned (OpenSpec.ofChange fnPartWrong)

/-- 'laws.FnPartOne': WHATEVER THE INPUT: true; the input reads as it did. -/
def fnPartOneSpec : ChangeSpec := { name := "fnPartOne", fn := fun _ => fun
  | [d] => { results := [.lit (.bool true)], args := [d] }
  | _ => none }
def fnPartOneRow : OpenClaim := { program := "ytpeofoabhjebbaa", sum := "9c3d7879d180da956de2fc12c94facfdf16afd5b2326a4219850f42e77e92936", func := "loop.example/wardstaff/laws.FnPartOne", spec := "fnPartOne", unfollowed := true, recurses := true, apart := false }
def FnPartOneSaid : Prop := fnPartOneRow.holds Try.pinned (OpenSpec.ofChange fnPartOneSpec)

/-- ITS FALSE NEIGHBOUR: 'it returns false'. Refute it at one input. -/
def fnPartOneWrong : ChangeSpec := { name := "fnPartOne", fn := fun _ => fun
  | [d] => { results := [.lit (.bool false)], args := [d] }
  | _ => none }
def FnPartOneWrongFalsely : Prop := fnPartOneRow.holds Try.pinned (OpenSpec.ofChange fnPartOneWrong)

/-- 'laws.FnSigSpoilt': WHATEVER THE INPUT: true; the input reads as it did. -/
def fnSigSpoiltSpec : ChangeSpec := { name := "fnSigSpoilt", fn := fun _ => fun
  | [d1, d2] => { results := [.lit (.bool true)], args := [d1, d2] }
  | _ => none }
def fnSigSpoiltRow : OpenClaim := { program := "ytpeofoabhjebbaa", sum := "9c3d7879d180da956de2fc12c94facfdf16afd5b2326a4219850f42e77e92936", func := "loop.example/wardstaff/laws.FnSigSpoilt", spec := "fnSigSpoilt", unfollowed := true, recurses := true, apart := false }
def FnSigSpoiltSaid : Prop := fnSigSpoiltRow.holds Try.pinned (OpenSpec.ofChange fnSigSpoiltSpec)

/-- ITS FALSE NEIGHBOUR: 'it returns false'. Refute it at one input. -/
def fnSigSpoiltWrong : ChangeSpec := { name := "fnSigSpoilt", fn := fun _ => fun
  | [d1, d2] => { results := [.lit (.bool false)], args := [d1, d2] }
  | _ => none }
def FnSigSpoiltWrongFalsely : Prop := fnSigSpoiltRow.holds Try.pinned (OpenSpec.ofChange fnSigSpoiltWrong)

/-- 'laws.FnPartWho': WHATEVER THE INPUT: true; the input reads as it did. -/
def fnPartWhoSpec : ChangeSpec := { name := "fnPartWho", fn := fun _ => fun
  | [d] => { results := [.lit (.bool true)], args := [d] }
  | _ => none }
def fnPartWhoRow : OpenClaim := { program := "ytpeofoabhjebbaa", sum := "9c3d7879d180da956de2fc12c94facfdf16afd5b2326a4219850f42e77e92936", func := "loop.example/wardstaff/laws.FnPartWho", spec := "fnPartWho", unfollowed := true, recurses := true, apart := false }
def FnPartWhoSaid : Prop := fnPartWhoRow.holds Try.pinned (OpenSpec.ofChange fnPartWhoSpec)

/-- ITS FALSE NEIGHBOUR: 'it returns false'. Refute it at one input. -/
def fnPartWhoWrong : ChangeSpec := { name := "fnPartWho", fn := fun _ => fun
  | [d] => { results := [.lit (.bool false)], args := [d] }
  | _ => none }
def FnPartWhoWrongFalsely : Prop := fnPartWhoRow.holds Try.pinned (OpenSpec.ofChange fnPartWhoWrong)

/-- 'laws.FnPartDrawn': WHATEVER THE INPUT: true; the input reads as it did. -/
def fnPartDrawnSpec : ChangeSpec := { name := "fnPartDrawn", fn := fun _ => fun
  | [d1, d2] => { results := [.lit (.bool true)], args := [d1, d2] }
  | _ => none }
def fnPartDrawnRow : OpenClaim := { program := "ytpeofoabhjebbaa", sum := "9c3d7879d180da956de2fc12c94facfdf16afd5b2326a4219850f42e77e92936", func := "loop.example/wardstaff/laws.FnPartDrawn", spec := "fnPartDrawn", unfollowed := true, recurses := true, apart := false }
def FnPartDrawnSaid : Prop := fnPartDrawnRow.holds Try.pinned (OpenSpec.ofChange fnPartDrawnSpec)

/-- ITS FALSE NEIGHBOUR: 'it returns false'. Refute it at one input. -/
def fnPartDrawnWrong : ChangeSpec := { name := "fnPartDrawn", fn := fun _ => fun
  | [d1, d2] => { results := [.lit (.bool false)], args := [d1, d2] }
  | _ => none }
def FnPartDrawnWrongFalsely : Prop := fnPartDrawnRow.holds Try.pinned (OpenSpec.ofChange fnPartDrawnWrong)

/-- 'laws.FnExactHashOf': WHATEVER THE INPUT: true; the input reads as it did. -/
def fnExactHashOfSpec : ChangeSpec := { name := "fnExactHashOf", fn := fun _ => fun
  | [d1, d2, d3] => { results := [.lit (.bool true)], args := [d1, d2, d3] }
  | _ => none }
def fnExactHashOfRow : OpenClaim := { program := "ytpeofoabhjebbaa", sum := "9c3d7879d180da956de2fc12c94facfdf16afd5b2326a4219850f42e77e92936", func := "loop.example/wardstaff/laws.FnExactHashOf", spec := "fnExactHashOf", apart := false }
def FnExactHashOfSaid : Prop := fnExactHashOfRow.holds Try.pinned (OpenSpec.ofChange fnExactHashOfSpec)

/-- ITS FALSE NEIGHBOUR: 'it returns false'. Refute it at one input. -/
def fnExactHashOfWrong : ChangeSpec := { name := "fnExactHashOf", fn := fun _ => fun
  | [d1, d2, d3] => { results := [.lit (.bool false)], args := [d1, d2, d3] }
  | _ => none }
def FnExactHashOfWrongFalsely : Prop := fnExactHashOfRow.holds Try.pinned (OpenSpec.ofChange fnExactHashOfWrong)

/-- 'laws.FnExactSigOk': WHATEVER THE INPUT: true; the input reads as it did. -/
def fnExactSigOkSpec : ChangeSpec := { name := "fnExactSigOk", fn := fun _ => fun
  | [d1, d2, d3] => { results := [.lit (.bool true)], args := [d1, d2, d3] }
  | _ => none }
def fnExactSigOkRow : OpenClaim := { program := "ytpeofoabhjebbaa", sum := "9c3d7879d180da956de2fc12c94facfdf16afd5b2326a4219850f42e77e92936", func := "loop.example/wardstaff/laws.FnExactSigOk", spec := "fnExactSigOk", unfollowed := true, recurses := true, apart := false }
def FnExactSigOkSaid : Prop := fnExactSigOkRow.holds Try.pinned (OpenSpec.ofChange fnExactSigOkSpec)

/-- ITS FALSE NEIGHBOUR: 'it returns false'. Refute it at one input. -/
def fnExactSigOkWrong : ChangeSpec := { name := "fnExactSigOk", fn := fun _ => fun
  | [d1, d2, d3] => { results := [.lit (.bool false)], args := [d1, d2, d3] }
  | _ => none }
def FnExactSigOkWrongFalsely : Prop := fnExactSigOkRow.holds Try.pinned (OpenSpec.ofChange fnExactSigOkWrong)

/-- 'laws.FnExactSignAlone': WHATEVER THE INPUT: true; the input reads as it did. -/
def fnExactSignAloneSpec : ChangeSpec := { name := "fnExactSignAlone", fn := fun _ => fun
  | [d1, d2, d3] => { results := [.lit (.bool true)], args := [d1, d2, d3] }
  | _ => none }
def fnExactSignAloneRow : OpenClaim := { program := "ytpeofoabhjebbaa", sum := "9c3d7879d180da956de2fc12c94facfdf16afd5b2326a4219850f42e77e92936", func := "loop.example/wardstaff/laws.FnExactSignAlone", spec := "fnExactSignAlone", unfollowed := true, recurses := true, apart := false }
def FnExactSignAloneSaid : Prop := fnExactSignAloneRow.holds Try.pinned (OpenSpec.ofChange fnExactSignAloneSpec)

/-- ITS FALSE NEIGHBOUR: 'it returns false'. Refute it at one input. -/
def fnExactSignAloneWrong : ChangeSpec := { name := "fnExactSignAlone", fn := fun _ => fun
  | [d1, d2, d3] => { results := [.lit (.bool false)], args := [d1, d2, d3] }
  | _ => none }
def FnExactSignAloneWrongFalsely : Prop := fnExactSignAloneRow.holds Try.pinned (OpenSpec.ofChange fnExactSignAloneWrong)

/-- 'laws.FnExactSignPart': WHATEVER THE INPUT: true; the input reads as it did. -/
def fnExactSignPartSpec : ChangeSpec := { name := "fnExactSignPart", fn := fun _ => fun
  | [d1, d2, d3, d4, d5, d6] => { results := [.lit (.bool true)], args := [d1, d2, d3, d4, d5, d6] }
  | _ => none }
def fnExactSignPartRow : OpenClaim := { program := "ytpeofoabhjebbaa", sum := "9c3d7879d180da956de2fc12c94facfdf16afd5b2326a4219850f42e77e92936", func := "loop.example/wardstaff/laws.FnExactSignPart", spec := "fnExactSignPart", unfollowed := true, recurses := true, apart := false }
def FnExactSignPartSaid : Prop := fnExactSignPartRow.holds Try.pinned (OpenSpec.ofChange fnExactSignPartSpec)

/-- ITS FALSE NEIGHBOUR: 'it returns false'. Refute it at one input. -/
def fnExactSignPartWrong : ChangeSpec := { name := "fnExactSignPart", fn := fun _ => fun
  | [d1, d2, d3, d4, d5, d6] => { results := [.lit (.bool false)], args := [d1, d2, d3, d4, d5, d6] }
  | _ => none }
def FnExactSignPartWrongFalsely : Prop := fnExactSignPartRow.holds Try.pinned (OpenSpec.ofChange fnExactSignPartWrong)

/-- 'laws.FnExactSignFits': WHATEVER THE INPUT: true; the input reads as it did. -/
def fnExactSignFitsSpec : ChangeSpec := { name := "fnExactSignFits", fn := fun _ => fun
  | [d1, d2, d3, d4, d5, d6, d7] => { results := [.lit (.bool true)], args := [d1, d2, d3, d4, d5, d6, d7] }
  | _ => none }
def fnExactSignFitsRow : OpenClaim := { program := "ytpeofoabhjebbaa", sum := "9c3d7879d180da956de2fc12c94facfdf16afd5b2326a4219850f42e77e92936", func := "loop.example/wardstaff/laws.FnExactSignFits", spec := "fnExactSignFits", unfollowed := true, recurses := true, apart := false }
def FnExactSignFitsSaid : Prop := fnExactSignFitsRow.holds Try.pinned (OpenSpec.ofChange fnExactSignFitsSpec)

/-- ITS FALSE NEIGHBOUR: 'it returns false'. Refute it at one input. -/
def fnExactSignFitsWrong : ChangeSpec := { name := "fnExactSignFits", fn := fun _ => fun
  | [d1, d2, d3, d4, d5, d6, d7] => { results := [.lit (.bool false)], args := [d1, d2, d3, d4, d5, d6, d7] }
  | _ => none }
def FnExactSignFitsWrongFalsely : Prop := fnExactSignFitsRow.holds Try.pinned (OpenSpec.ofChange fnExactSignFitsWrong)

/- THE SECOND FORM. 'bulk': how many values and letters a reading holds, each counted each time it is reached (what is shared counts as often as it is met; a slice's spare places count too). A statement '..UptoSaid' is the law's where the arguments, and the package variables that the reading takes, are together of bulk at most 1048576: NARROWER than '..Said'. Prove '..Said' where nothing that the law and all that it calls make is longer than what came in: it says more and counts as full. Else prove '..UptoSaid'. A law counts once. -/
mutual
def uptoBulk {H : Type} : DataW H → Nat
  | .lit (.string bytes) => bytes.length + 1
  | .lit _ => 1
  | .nil => 1
  | .ptr d => uptoBulk d + 1
  | .slice elems spare => uptoBulkAll elems + uptoBulkAll spare + 1
  | .agg parts => uptoBulkAll parts + 1
  | .iface _ d => uptoBulk d + 1
  | .map entries => uptoBulkEntries entries + 1
  | .held _ => 1
def uptoBulkAll {H : Type} : List (DataW H) → Nat
  | [] => 0
  | d :: r => uptoBulk d + uptoBulkAll r
def uptoBulkEntries {H : Type} : List (Lit × DataW H) → Nat
  | [] => 0
  | x :: r => uptoBulkEntry x + uptoBulkEntries r
def uptoBulkEntry {H : Type} : Lit × DataW H → Nat
  | (.string bytes, d) => bytes.length + uptoBulk d + 1
  | (_, d) => uptoBulk d + 1
 end
def uptoSmall : (H : Type) → List (DataW H) → Bool := fun _ ds => decide (uptoBulkAll ds ≤ 1048576)
def OpenSpec.upto (s : _root_.Go.ChangeSpec) : _root_.Go.OpenSpec := { _root_.Go.OpenSpec.ofChange s with cond := some uptoSmall }

/-- 'laws.FnHash', WHERE WHAT IT READS IS OF BULK AT MOST 1048576: true; the input reads as it did. -/
def fnHashUptoRow : OpenClaim := { program := "ytpeofoabhjebbaa", sum := "9c3d7879d180da956de2fc12c94facfdf16afd5b2326a4219850f42e77e92936", func := "loop.example/wardstaff/laws.FnHash", spec := "fnHash", apart := false, narrowed := true }
def FnHashUptoSaid : Prop := fnHashUptoRow.holds Try.pinned (OpenSpec.upto fnHashSpec)

/-- 'laws.FnAlone', WHERE WHAT IT READS IS OF BULK AT MOST 1048576: true; the input reads as it did. -/
def fnAloneUptoRow : OpenClaim := { program := "ytpeofoabhjebbaa", sum := "9c3d7879d180da956de2fc12c94facfdf16afd5b2326a4219850f42e77e92936", func := "loop.example/wardstaff/laws.FnAlone", spec := "fnAlone", unfollowed := true, recurses := true, apart := false, narrowed := true }
def FnAloneUptoSaid : Prop := fnAloneUptoRow.holds Try.pinned (OpenSpec.upto fnAloneSpec)

/-- 'laws.FnSigOne', WHERE WHAT IT READS IS OF BULK AT MOST 1048576: true; the input reads as it did. -/
def fnSigOneUptoRow : OpenClaim := { program := "ytpeofoabhjebbaa", sum := "9c3d7879d180da956de2fc12c94facfdf16afd5b2326a4219850f42e77e92936", func := "loop.example/wardstaff/laws.FnSigOne", spec := "fnSigOne", unfollowed := true, recurses := true, apart := false, narrowed := true }
def FnSigOneUptoSaid : Prop := fnSigOneUptoRow.holds Try.pinned (OpenSpec.upto fnSigOneSpec)

/-- 'laws.FnSigTwo', WHERE WHAT IT READS IS OF BULK AT MOST 1048576: true; the input reads as it did. -/
def fnSigTwoUptoRow : OpenClaim := { program := "ytpeofoabhjebbaa", sum := "9c3d7879d180da956de2fc12c94facfdf16afd5b2326a4219850f42e77e92936", func := "loop.example/wardstaff/laws.FnSigTwo", spec := "fnSigTwo", unfollowed := true, recurses := true, apart := false, narrowed := true }
def FnSigTwoUptoSaid : Prop := fnSigTwoUptoRow.holds Try.pinned (OpenSpec.upto fnSigTwoSpec)

/-- 'laws.FnPart', WHERE WHAT IT READS IS OF BULK AT MOST 1048576: true; the input reads as it did. -/
def fnPartUptoRow : OpenClaim := { program := "ytpeofoabhjebbaa", sum := "9c3d7879d180da956de2fc12c94facfdf16afd5b2326a4219850f42e77e92936", func := "loop.example/wardstaff/laws.FnPart", spec := "fnPart", unfollowed := true, recurses := true, apart := false, narrowed := true }
def FnPartUptoSaid : Prop := fnPartUptoRow.holds Try.pinned (OpenSpec.upto fnPartSpec)

/-- 'laws.FnPartOne', WHERE WHAT IT READS IS OF BULK AT MOST 1048576: true; the input reads as it did. -/
def fnPartOneUptoRow : OpenClaim := { program := "ytpeofoabhjebbaa", sum := "9c3d7879d180da956de2fc12c94facfdf16afd5b2326a4219850f42e77e92936", func := "loop.example/wardstaff/laws.FnPartOne", spec := "fnPartOne", unfollowed := true, recurses := true, apart := false, narrowed := true }
def FnPartOneUptoSaid : Prop := fnPartOneUptoRow.holds Try.pinned (OpenSpec.upto fnPartOneSpec)

/-- 'laws.FnSigSpoilt', WHERE WHAT IT READS IS OF BULK AT MOST 1048576: true; the input reads as it did. -/
def fnSigSpoiltUptoRow : OpenClaim := { program := "ytpeofoabhjebbaa", sum := "9c3d7879d180da956de2fc12c94facfdf16afd5b2326a4219850f42e77e92936", func := "loop.example/wardstaff/laws.FnSigSpoilt", spec := "fnSigSpoilt", unfollowed := true, recurses := true, apart := false, narrowed := true }
def FnSigSpoiltUptoSaid : Prop := fnSigSpoiltUptoRow.holds Try.pinned (OpenSpec.upto fnSigSpoiltSpec)

/-- 'laws.FnPartWho', WHERE WHAT IT READS IS OF BULK AT MOST 1048576: true; the input reads as it did. -/
def fnPartWhoUptoRow : OpenClaim := { program := "ytpeofoabhjebbaa", sum := "9c3d7879d180da956de2fc12c94facfdf16afd5b2326a4219850f42e77e92936", func := "loop.example/wardstaff/laws.FnPartWho", spec := "fnPartWho", unfollowed := true, recurses := true, apart := false, narrowed := true }
def FnPartWhoUptoSaid : Prop := fnPartWhoUptoRow.holds Try.pinned (OpenSpec.upto fnPartWhoSpec)

/-- 'laws.FnPartDrawn', WHERE WHAT IT READS IS OF BULK AT MOST 1048576: true; the input reads as it did. -/
def fnPartDrawnUptoRow : OpenClaim := { program := "ytpeofoabhjebbaa", sum := "9c3d7879d180da956de2fc12c94facfdf16afd5b2326a4219850f42e77e92936", func := "loop.example/wardstaff/laws.FnPartDrawn", spec := "fnPartDrawn", unfollowed := true, recurses := true, apart := false, narrowed := true }
def FnPartDrawnUptoSaid : Prop := fnPartDrawnUptoRow.holds Try.pinned (OpenSpec.upto fnPartDrawnSpec)

/-- 'laws.FnExactHashOf', WHERE WHAT IT READS IS OF BULK AT MOST 1048576: true; the input reads as it did. -/
def fnExactHashOfUptoRow : OpenClaim := { program := "ytpeofoabhjebbaa", sum := "9c3d7879d180da956de2fc12c94facfdf16afd5b2326a4219850f42e77e92936", func := "loop.example/wardstaff/laws.FnExactHashOf", spec := "fnExactHashOf", apart := false, narrowed := true }
def FnExactHashOfUptoSaid : Prop := fnExactHashOfUptoRow.holds Try.pinned (OpenSpec.upto fnExactHashOfSpec)

/-- 'laws.FnExactSigOk', WHERE WHAT IT READS IS OF BULK AT MOST 1048576: true; the input reads as it did. -/
def fnExactSigOkUptoRow : OpenClaim := { program := "ytpeofoabhjebbaa", sum := "9c3d7879d180da956de2fc12c94facfdf16afd5b2326a4219850f42e77e92936", func := "loop.example/wardstaff/laws.FnExactSigOk", spec := "fnExactSigOk", unfollowed := true, recurses := true, apart := false, narrowed := true }
def FnExactSigOkUptoSaid : Prop := fnExactSigOkUptoRow.holds Try.pinned (OpenSpec.upto fnExactSigOkSpec)

/-- 'laws.FnExactSignAlone', WHERE WHAT IT READS IS OF BULK AT MOST 1048576: true; the input reads as it did. -/
def fnExactSignAloneUptoRow : OpenClaim := { program := "ytpeofoabhjebbaa", sum := "9c3d7879d180da956de2fc12c94facfdf16afd5b2326a4219850f42e77e92936", func := "loop.example/wardstaff/laws.FnExactSignAlone", spec := "fnExactSignAlone", unfollowed := true, recurses := true, apart := false, narrowed := true }
def FnExactSignAloneUptoSaid : Prop := fnExactSignAloneUptoRow.holds Try.pinned (OpenSpec.upto fnExactSignAloneSpec)

/-- 'laws.FnExactSignPart', WHERE WHAT IT READS IS OF BULK AT MOST 1048576: true; the input reads as it did. -/
def fnExactSignPartUptoRow : OpenClaim := { program := "ytpeofoabhjebbaa", sum := "9c3d7879d180da956de2fc12c94facfdf16afd5b2326a4219850f42e77e92936", func := "loop.example/wardstaff/laws.FnExactSignPart", spec := "fnExactSignPart", unfollowed := true, recurses := true, apart := false, narrowed := true }
def FnExactSignPartUptoSaid : Prop := fnExactSignPartUptoRow.holds Try.pinned (OpenSpec.upto fnExactSignPartSpec)

/-- 'laws.FnExactSignFits', WHERE WHAT IT READS IS OF BULK AT MOST 1048576: true; the input reads as it did. -/
def fnExactSignFitsUptoRow : OpenClaim := { program := "ytpeofoabhjebbaa", sum := "9c3d7879d180da956de2fc12c94facfdf16afd5b2326a4219850f42e77e92936", func := "loop.example/wardstaff/laws.FnExactSignFits", spec := "fnExactSignFits", unfollowed := true, recurses := true, apart := false, narrowed := true }
def FnExactSignFitsUptoSaid : Prop := fnExactSignFitsUptoRow.holds Try.pinned (OpenSpec.upto fnExactSignFitsSpec)

end Rows
end Go.Proofs.Ytpeofoabhjebbaa
