/-
  No cell of these rows narrows 'for every input' (looked for: loops, veiled, ifaces, maps, wideKeys, modest, calm, conditions, laid).
  DERIVED. THE GIVEN ROWS OF THIS SEAT. 7 by the template 'for every input the law returns true; each argument reads behind the call as it read before'; 0 by the template 'total and deterministic' (their statements: YtchgjdbmianajaaTotals.lean).
  GIVEN WITH THE SEED: the statements are not yours to turn. If you find one false, say at which input.
  Laid BY PROGRAM, IN A SANDBOX (cutbox-rows.mjs): the forced cells as the released guide's own fill.sh prints them over the translation b67b24837be8ea1d… (all of the seat's roots in one cut). By AI agents, Wed Nov 11 2026. No macro, syntax, notation, axiom, sorry.
-/
import Derived.Test.YtchgjdbmianajaaChecked
import GoSem.Claim
import GoSem.ClaimJoined
import GoSem.ClaimMapViews
import Derived.JoinedTies
import Derived.KernelRfl
namespace Go.Proofs.Ytchgjdbmianajaa
/- THE CELL 'sum', in the pinned program and in every row, IS THE sha256 OF THE DUMP (.gsa) THAT YtchgjdbmianajaaProg.lean LOADS. Nothing in Lean hashes anything: it is a label: what it is worth is what the hold of that sum in a sandbox is worth. -/
noncomputable def Try.pinned : Pinned := { name := "ytchgjdbmianajaa", sum := "b67b24837be8ea1d9d834ffc404f6a7f74db4a6473bd0b1bc005f82656003cc8", checked := Try.checked }
namespace Rows
def none {H : Type} : Left H := { results := [], args := [] }

/-- 'laws.FnLineOwn': WHATEVER THE INPUT: true; the input reads as it did. -/
def fnLineOwnSpec : ChangeSpec := { name := "fnLineOwn", fn := fun _ => fun
  | [d] => { results := [.lit (.bool true)], args := [d] }
  | _ => none }
def fnLineOwnRow : OpenClaim := { program := "ytchgjdbmianajaa", sum := "b67b24837be8ea1d9d834ffc404f6a7f74db4a6473bd0b1bc005f82656003cc8", func := "loop.example/wardstaff/laws.FnLineOwn", spec := "fnLineOwn", unfollowed := true, recurses := true, apart := false }
def FnLineOwnSaid : Prop := fnLineOwnRow.holds Try.pinned (OpenSpec.ofChange fnLineOwnSpec)

/-- ITS FALSE NEIGHBOUR: 'it returns false'. Refute it at one input. -/
def fnLineOwnWrong : ChangeSpec := { name := "fnLineOwn", fn := fun _ => fun
  | [d] => { results := [.lit (.bool false)], args := [d] }
  | _ => none }
def FnLineOwnWrongFalsely : Prop := fnLineOwnRow.holds Try.pinned (OpenSpec.ofChange fnLineOwnWrong)

/-- 'laws.FnPlacesForm': WHATEVER THE INPUT: true; the input reads as it did. -/
def fnPlacesFormSpec : ChangeSpec := { name := "fnPlacesForm", fn := fun _ => fun
  | [d1, d2] => { results := [.lit (.bool true)], args := [d1, d2] }
  | _ => none }
def fnPlacesFormRow : OpenClaim := { program := "ytchgjdbmianajaa", sum := "b67b24837be8ea1d9d834ffc404f6a7f74db4a6473bd0b1bc005f82656003cc8", func := "loop.example/wardstaff/laws.FnPlacesForm", spec := "fnPlacesForm", unfollowed := true, recurses := true, apart := false }
def FnPlacesFormSaid : Prop := fnPlacesFormRow.holds Try.pinned (OpenSpec.ofChange fnPlacesFormSpec)

/-- ITS FALSE NEIGHBOUR: 'it returns false'. Refute it at one input. -/
def fnPlacesFormWrong : ChangeSpec := { name := "fnPlacesForm", fn := fun _ => fun
  | [d1, d2] => { results := [.lit (.bool false)], args := [d1, d2] }
  | _ => none }
def FnPlacesFormWrongFalsely : Prop := fnPlacesFormRow.holds Try.pinned (OpenSpec.ofChange fnPlacesFormWrong)

/-- 'laws.FnLineOrder': WHATEVER THE INPUT: true; the input reads as it did. -/
def fnLineOrderSpec : ChangeSpec := { name := "fnLineOrder", fn := fun _ => fun
  | [d] => { results := [.lit (.bool true)], args := [d] }
  | _ => none }
def fnLineOrderRow : OpenClaim := { program := "ytchgjdbmianajaa", sum := "b67b24837be8ea1d9d834ffc404f6a7f74db4a6473bd0b1bc005f82656003cc8", func := "loop.example/wardstaff/laws.FnLineOrder", spec := "fnLineOrder", unfollowed := true, recurses := true, apart := false }
def FnLineOrderSaid : Prop := fnLineOrderRow.holds Try.pinned (OpenSpec.ofChange fnLineOrderSpec)

/-- ITS FALSE NEIGHBOUR: 'it returns false'. Refute it at one input. -/
def fnLineOrderWrong : ChangeSpec := { name := "fnLineOrder", fn := fun _ => fun
  | [d] => { results := [.lit (.bool false)], args := [d] }
  | _ => none }
def FnLineOrderWrongFalsely : Prop := fnLineOrderRow.holds Try.pinned (OpenSpec.ofChange fnLineOrderWrong)

/-- 'laws.FnSecretOf': WHATEVER THE INPUT: true; the input reads as it did. -/
def fnSecretOfSpec : ChangeSpec := { name := "fnSecretOf", fn := fun _ => fun
  | [d] => { results := [.lit (.bool true)], args := [d] }
  | _ => none }
def fnSecretOfRow : OpenClaim := { program := "ytchgjdbmianajaa", sum := "b67b24837be8ea1d9d834ffc404f6a7f74db4a6473bd0b1bc005f82656003cc8", func := "loop.example/wardstaff/laws.FnSecretOf", spec := "fnSecretOf", unfollowed := true, recurses := true, apart := false }
def FnSecretOfSaid : Prop := fnSecretOfRow.holds Try.pinned (OpenSpec.ofChange fnSecretOfSpec)

/-- ITS FALSE NEIGHBOUR: 'it returns false'. Refute it at one input. -/
def fnSecretOfWrong : ChangeSpec := { name := "fnSecretOf", fn := fun _ => fun
  | [d] => { results := [.lit (.bool false)], args := [d] }
  | _ => none }
def FnSecretOfWrongFalsely : Prop := fnSecretOfRow.holds Try.pinned (OpenSpec.ofChange fnSecretOfWrong)

/-- 'laws.FnExactSecretOf': WHATEVER THE INPUT: true; the input reads as it did. -/
def fnExactSecretOfSpec : ChangeSpec := { name := "fnExactSecretOf", fn := fun _ => fun
  | [d1, d2] => { results := [.lit (.bool true)], args := [d1, d2] }
  | _ => none }
def fnExactSecretOfRow : OpenClaim := { program := "ytchgjdbmianajaa", sum := "b67b24837be8ea1d9d834ffc404f6a7f74db4a6473bd0b1bc005f82656003cc8", func := "loop.example/wardstaff/laws.FnExactSecretOf", spec := "fnExactSecretOf", unfollowed := true, recurses := true, apart := false }
def FnExactSecretOfSaid : Prop := fnExactSecretOfRow.holds Try.pinned (OpenSpec.ofChange fnExactSecretOfSpec)

/-- ITS FALSE NEIGHBOUR: 'it returns false'. Refute it at one input. -/
def fnExactSecretOfWrong : ChangeSpec := { name := "fnExactSecretOf", fn := fun _ => fun
  | [d1, d2] => { results := [.lit (.bool false)], args := [d1, d2] }
  | _ => none }
def FnExactSecretOfWrongFalsely : Prop := fnExactSecretOfRow.holds Try.pinned (OpenSpec.ofChange fnExactSecretOfWrong)

/-- 'laws.FnExactPlacesOk': WHATEVER THE INPUT: true; the input reads as it did. -/
def fnExactPlacesOkSpec : ChangeSpec := { name := "fnExactPlacesOk", fn := fun _ => fun
  | [d] => { results := [.lit (.bool true)], args := [d] }
  | _ => none }
def fnExactPlacesOkRow : OpenClaim := { program := "ytchgjdbmianajaa", sum := "b67b24837be8ea1d9d834ffc404f6a7f74db4a6473bd0b1bc005f82656003cc8", func := "loop.example/wardstaff/laws.FnExactPlacesOk", spec := "fnExactPlacesOk", unfollowed := true, recurses := true, apart := false }
def FnExactPlacesOkSaid : Prop := fnExactPlacesOkRow.holds Try.pinned (OpenSpec.ofChange fnExactPlacesOkSpec)

/-- ITS FALSE NEIGHBOUR: 'it returns false'. Refute it at one input. -/
def fnExactPlacesOkWrong : ChangeSpec := { name := "fnExactPlacesOk", fn := fun _ => fun
  | [d] => { results := [.lit (.bool false)], args := [d] }
  | _ => none }
def FnExactPlacesOkWrongFalsely : Prop := fnExactPlacesOkRow.holds Try.pinned (OpenSpec.ofChange fnExactPlacesOkWrong)

/-- 'laws.FnExactPolyLine': WHATEVER THE INPUT: true; the input reads as it did. -/
def fnExactPolyLineSpec : ChangeSpec := { name := "fnExactPolyLine", fn := fun _ => fun
  | [d1, d2] => { results := [.lit (.bool true)], args := [d1, d2] }
  | _ => none }
def fnExactPolyLineRow : OpenClaim := { program := "ytchgjdbmianajaa", sum := "b67b24837be8ea1d9d834ffc404f6a7f74db4a6473bd0b1bc005f82656003cc8", func := "loop.example/wardstaff/laws.FnExactPolyLine", spec := "fnExactPolyLine", unfollowed := true, recurses := true, apart := false }
def FnExactPolyLineSaid : Prop := fnExactPolyLineRow.holds Try.pinned (OpenSpec.ofChange fnExactPolyLineSpec)

/-- ITS FALSE NEIGHBOUR: 'it returns false'. Refute it at one input. -/
def fnExactPolyLineWrong : ChangeSpec := { name := "fnExactPolyLine", fn := fun _ => fun
  | [d1, d2] => { results := [.lit (.bool false)], args := [d1, d2] }
  | _ => none }
def FnExactPolyLineWrongFalsely : Prop := fnExactPolyLineRow.holds Try.pinned (OpenSpec.ofChange fnExactPolyLineWrong)

/- THE SECOND FORM. 'bulk': how many values and letters a reading holds, each counted each time it is reached (what is shared counts as often as it is met; a slice's spare places count too). A statement '..UptoSaid' is the law's where the arguments, and the package variables that the reading takes, are together of bulk at most 1048576: NARROWER than '..Said'. Prove '..Said' where nothing that the law and all that it calls make is longer than what came in: it says more and counts as full. Else prove '..UptoSaid'. A law counts once. -/
mutual
def uptoBulk {H : Type} : DataW H → Nat
  | .lit (.string bytes) => bytes.length + 1
  | .lit _ => 1
  | .nil => 1
  | .ptr d => uptoBulk d + 1
  | .slice elems spare => uptoBulkAll elems + uptoBulkAll spare + 1
  | .agg parts => uptoBulkAll parts + 1
  | .iface _ d => uptoBulk d + 1
  | .map entries => uptoBulkEntries entries + 1
  | .held _ => 1
def uptoBulkAll {H : Type} : List (DataW H) → Nat
  | [] => 0
  | d :: r => uptoBulk d + uptoBulkAll r
def uptoBulkEntries {H : Type} : List (Lit × DataW H) → Nat
  | [] => 0
  | x :: r => uptoBulkEntry x + uptoBulkEntries r
def uptoBulkEntry {H : Type} : Lit × DataW H → Nat
  | (.string bytes, d) => bytes.length + uptoBulk d + 1
  | (_, d) => uptoBulk d + 1
 end
def uptoSmall : (H : Type) → List (DataW H) → Bool := fun _ ds => decide (uptoBulkAll ds ≤ 1048576)
def OpenSpec.upto (s : _root_.Go.ChangeSpec) : _root_.Go.OpenSpec := { _root_.Go.OpenSpec.ofChange s with cond := some uptoSmall }

/-- 'laws.FnLineOwn', WHERE WHAT IT READS IS OF BULK AT MOST 1048576: true; the input reads as it did. -/
def fnLineOwnUptoRow : OpenClaim := { program := "ytchgjdbmianajaa", sum := "b67b24837be8ea1d9d834ffc404f6a7f74db4a6473bd0b1bc005f82656003cc8", func := "loop.example/wardstaff/laws.FnLineOwn", spec := "fnLineOwn", unfollowed := true, recurses := true, apart := false, narrowed := true }
def FnLineOwnUptoSaid : Prop := fnLineOwnUptoRow.holds Try.pinned (OpenSpec.upto fnLineOwnSpec)

/-- 'laws.FnPlacesForm', WHERE WHAT IT READS IS OF BULK AT MOST 1048576: true; the input reads as it did. -/
def fnPlacesFormUptoRow : OpenClaim := { program := "ytchgjdbmianajaa", sum := "b67b24837be8ea1d9d834ffc404f6a7f74db4a6473bd0b1bc005f82656003cc8", func := "loop.example/wardstaff/laws.FnPlacesForm", spec := "fnPlacesForm", unfollowed := true, recurses := true, apart := false, narrowed := true }
def FnPlacesFormUptoSaid : Prop := fnPlacesFormUptoRow.holds Try.pinned (OpenSpec.upto fnPlacesFormSpec)

/-- 'laws.FnLineOrder', WHERE WHAT IT READS IS OF BULK AT MOST 1048576: true; the input reads as it did. -/
def fnLineOrderUptoRow : OpenClaim := { program := "ytchgjdbmianajaa", sum := "b67b24837be8ea1d9d834ffc404f6a7f74db4a6473bd0b1bc005f82656003cc8", func := "loop.example/wardstaff/laws.FnLineOrder", spec := "fnLineOrder", unfollowed := true, recurses := true, apart := false, narrowed := true }
def FnLineOrderUptoSaid : Prop := fnLineOrderUptoRow.holds Try.pinned (OpenSpec.upto fnLineOrderSpec)

/-- 'laws.FnSecretOf', WHERE WHAT IT READS IS OF BULK AT MOST 1048576: true; the input reads as it did. -/
def fnSecretOfUptoRow : OpenClaim := { program := "ytchgjdbmianajaa", sum := "b67b24837be8ea1d9d834ffc404f6a7f74db4a6473bd0b1bc005f82656003cc8", func := "loop.example/wardstaff/laws.FnSecretOf", spec := "fnSecretOf", unfollowed := true, recurses := true, apart := false, narrowed := true }
def FnSecretOfUptoSaid : Prop := fnSecretOfUptoRow.holds Try.pinned (OpenSpec.upto fnSecretOfSpec)

/-- 'laws.FnExactSecretOf', WHERE WHAT IT READS IS OF BULK AT MOST 1048576: true; the input reads as it did. -/
def fnExactSecretOfUptoRow : OpenClaim := { program := "ytchgjdbmianajaa", sum := "b67b24837be8ea1d9d834ffc404f6a7f74db4a6473bd0b1bc005f82656003cc8", func := "loop.example/wardstaff/laws.FnExactSecretOf", spec := "fnExactSecretOf", unfollowed := true, recurses := true, apart := false, narrowed := true }
def FnExactSecretOfUptoSaid : Prop := fnExactSecretOfUptoRow.holds Try.pinned (OpenSpec.upto fnExactSecretOfSpec)

/-- 'laws.FnExactPlacesOk', WHERE WHAT IT READS IS OF BULK AT MOST 1048576: true; the input reads as it did. -/
def fnExactPlacesOkUptoRow : OpenClaim := { program := "ytchgjdbmianajaa", sum := "b67b24837be8ea1d9d834ffc404f6a7f74db4a6473bd0b1bc005f82656003cc8", func := "loop.example/wardstaff/laws.FnExactPlacesOk", spec := "fnExactPlacesOk", unfollowed := true, recurses := true, apart := false, narrowed := true }
def FnExactPlacesOkUptoSaid : Prop := fnExactPlacesOkUptoRow.holds Try.pinned (OpenSpec.upto fnExactPlacesOkSpec)

/-- 'laws.FnExactPolyLine', WHERE WHAT IT READS IS OF BULK AT MOST 1048576: true; the input reads as it did. -/
def fnExactPolyLineUptoRow : OpenClaim := { program := "ytchgjdbmianajaa", sum := "b67b24837be8ea1d9d834ffc404f6a7f74db4a6473bd0b1bc005f82656003cc8", func := "loop.example/wardstaff/laws.FnExactPolyLine", spec := "fnExactPolyLine", unfollowed := true, recurses := true, apart := false, narrowed := true }
def FnExactPolyLineUptoSaid : Prop := fnExactPolyLineUptoRow.holds Try.pinned (OpenSpec.upto fnExactPolyLineSpec)

end Rows
end Go.Proofs.Ytchgjdbmianajaa
