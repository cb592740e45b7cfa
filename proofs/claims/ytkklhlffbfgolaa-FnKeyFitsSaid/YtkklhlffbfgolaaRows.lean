/-
  No cell of these rows narrows 'for every input' (looked for: loops, veiled, ifaces, maps, wideKeys, modest, calm, conditions, laid).
  DERIVED. THE GIVEN ROWS OF THIS SEAT. 3 by the template 'for every input the law returns true; each argument reads behind the call as it read before'; 0 by the template 'total and deterministic' (their statements: YtkklhlffbfgolaaTotals.lean).
  GIVEN WITH THE SEED: the statements are not yours to turn. If you find one false, say at which input.
  Laid BY PROGRAM, IN A SANDBOX (cutbox-rows.mjs): the forced cells as the released guide's own fill.sh prints them over the translation 053e93ac9d187d33… (all of the seat's roots in one cut). By AI agents, Wed Nov 11 2026. No macro, syntax, notation, axiom, sorry.
-/
import Derived.Test.YtkklhlffbfgolaaChecked
import GoSem.Claim
import GoSem.ClaimJoined
import GoSem.ClaimMapViews
import Derived.JoinedTies
import Derived.KernelRfl
namespace Go.Proofs.Ytkklhlffbfgolaa
/- THE CELL 'sum', in the pinned program and in every row, IS THE sha256 OF THE DUMP (.gsa) THAT YtkklhlffbfgolaaProg.lean LOADS. Nothing in Lean hashes anything: it is a label: what it is worth is what the hold of that sum in a sandbox is worth. -/
noncomputable def Try.pinned : Pinned := { name := "ytkklhlffbfgolaa", sum := "053e93ac9d187d3338ab1144be4f7bf4d4b54aad1919f9dafd512b9ceece0a06", checked := Try.checked }
namespace Rows
def none {H : Type} : Left H := { results := [], args := [] }

/-- 'laws.FnKeyFits': WHATEVER THE INPUT: true; the input reads as it did. -/
def fnKeyFitsSpec : ChangeSpec := { name := "fnKeyFits", fn := fun _ => fun
  | [d] => { results := [.lit (.bool true)], args := [d] }
  | _ => none }
def fnKeyFitsRow : OpenClaim := { program := "ytkklhlffbfgolaa", sum := "053e93ac9d187d3338ab1144be4f7bf4d4b54aad1919f9dafd512b9ceece0a06", func := "loop.example/wardstaff/laws.FnKeyFits", spec := "fnKeyFits", unfollowed := true, recurses := true, apart := false }
def FnKeyFitsSaid : Prop := fnKeyFitsRow.holds Try.pinned (OpenSpec.ofChange fnKeyFitsSpec)

/-- ITS FALSE NEIGHBOUR: 'it returns false'. Refute it at one input. -/
def fnKeyFitsWrong : ChangeSpec := { name := "fnKeyFits", fn := fun _ => fun
  | [d] => { results := [.lit (.bool false)], args := [d] }
  | _ => none }
def FnKeyFitsWrongFalsely : Prop := fnKeyFitsRow.holds Try.pinned (OpenSpec.ofChange fnKeyFitsWrong)

/-- 'laws.FnKeyForm': WHATEVER THE INPUT: true; the input reads as it did. -/
def fnKeyFormSpec : ChangeSpec := { name := "fnKeyForm", fn := fun _ => fun
  | [d] => { results := [.lit (.bool true)], args := [d] }
  | _ => none }
def fnKeyFormRow : OpenClaim := { program := "ytkklhlffbfgolaa", sum := "053e93ac9d187d3338ab1144be4f7bf4d4b54aad1919f9dafd512b9ceece0a06", func := "loop.example/wardstaff/laws.FnKeyForm", spec := "fnKeyForm", unfollowed := true, recurses := true, apart := false }
def FnKeyFormSaid : Prop := fnKeyFormRow.holds Try.pinned (OpenSpec.ofChange fnKeyFormSpec)

/-- ITS FALSE NEIGHBOUR: 'it returns false'. Refute it at one input. -/
def fnKeyFormWrong : ChangeSpec := { name := "fnKeyForm", fn := fun _ => fun
  | [d] => { results := [.lit (.bool false)], args := [d] }
  | _ => none }
def FnKeyFormWrongFalsely : Prop := fnKeyFormRow.holds Try.pinned (OpenSpec.ofChange fnKeyFormWrong)

/-- 'laws.FnKeyPub': WHATEVER THE INPUT: true; the input reads as it did. -/
def fnKeyPubSpec : ChangeSpec := { name := "fnKeyPub", fn := fun _ => fun
  | [d] => { results := [.lit (.bool true)], args := [d] }
  | _ => none }
def fnKeyPubRow : OpenClaim := { program := "ytkklhlffbfgolaa", sum := "053e93ac9d187d3338ab1144be4f7bf4d4b54aad1919f9dafd512b9ceece0a06", func := "loop.example/wardstaff/laws.FnKeyPub", spec := "fnKeyPub", unfollowed := true, recurses := true, apart := false }
def FnKeyPubSaid : Prop := fnKeyPubRow.holds Try.pinned (OpenSpec.ofChange fnKeyPubSpec)

/-- ITS FALSE NEIGHBOUR: 'it returns false'. Refute it at one input. -/
def fnKeyPubWrong : ChangeSpec := { name := "fnKeyPub", fn := fun _ => fun
  | [d] => { results := [.lit (.bool false)], args := [d] }
  | _ => none }
def FnKeyPubWrongFalsely : Prop := fnKeyPubRow.holds Try.pinned (OpenSpec.ofChange fnKeyPubWrong)

/- THE SECOND FORM. 'bulk': how many values and letters a reading holds, each counted each time it is reached (what is shared counts as often as it is met; a slice's spare places count too). A statement '..UptoSaid' is the law's where the arguments, and the package variables that the reading takes, are together of bulk at most 1048576: NARROWER than '..Said'. Prove '..Said' where nothing that the law and all that it calls make is longer than what came in: it says more and counts as full. Else prove '..UptoSaid'. A law counts once. -/
mutual
def uptoBulk {H : Type} : DataW H → Nat
  | .lit (.string bytes) => bytes.length + 1
  | .lit _ => 1
  | .nil => 1
  | .ptr d => uptoBulk d + 1
  | .slice elems spare => uptoBulkAll elems + uptoBulkAll spare + 1
  | .agg parts => uptoBulkAll parts + 1
  | .iface _ d => uptoBulk d + 1
  | .map entries => uptoBulkEntries entries + 1
  | .held _ => 1
def uptoBulkAll {H : Type} : List (DataW H) → Nat
  | [] => 0
  | d :: r => uptoBulk d + uptoBulkAll r
def uptoBulkEntries {H : Type} : List (Lit × DataW H) → Nat
  | [] => 0
  | x :: r => uptoBulkEntry x + uptoBulkEntries r
def uptoBulkEntry {H : Type} : Lit × DataW H → Nat
  | (.string bytes, d) => bytes.length + uptoBulk d + 1
  | (_, d) => uptoBulk d + 1
 end
def uptoSmall : (H : Type) → List (DataW H) → Bool := fun _ ds => decide (uptoBulkAll ds ≤ 1048576)
def OpenSpec.upto (s : _root_.Go.ChangeSpec) : _root_.Go.OpenSpec := { _root_.Go.OpenSpec.ofChange s with cond := some uptoSmall }

/-- 'laws.FnKeyFits', WHERE WHAT IT READS IS OF BULK AT MOST 1048576: true; the input reads as it did. -/
def fnKeyFitsUptoRow : OpenClaim := { program := "ytkklhlffbfgolaa", sum := "053e93ac9d187d3338ab1144be4f7bf4d4b54aad1919f9dafd512b9ceece0a06", func := "loop.example/wardstaff/laws.FnKeyFits", spec := "fnKeyFits", unfollowed := true, recurses := true, apart := false, narrowed := true }
def FnKeyFitsUptoSaid : Prop := fnKeyFitsUptoRow.holds Try.pinned (OpenSpec.upto fnKeyFitsSpec)

/-- 'laws.FnKeyForm', WHERE WHAT IT READS IS OF BULK AT MOST 1048576: true; the input reads as it did. -/
def fnKeyFormUptoRow : OpenClaim := { program := "ytkklhlffbfgolaa", sum := "053e93ac9d187d3338ab1144be4f7bf4d4b54aad1919f9dafd512b9ceece0a06", func := "loop.example/wardstaff/laws.FnKeyForm", spec := "fnKeyForm", unfollowed := true, recurses := true, apart := false, narrowed := true }
def FnKeyFormUptoSaid : Prop := fnKeyFormUptoRow.holds Try.pinned (OpenSpec.upto fnKeyFormSpec)

/-- 'laws.FnKeyPub', WHERE WHAT IT READS IS OF BULK AT MOST 1048576: true; the input reads as it did. -/
def fnKeyPubUptoRow : OpenClaim := { program := "ytkklhlffbfgolaa", sum := "053e93ac9d187d3338ab1144be4f7bf4d4b54aad1919f9dafd512b9ceece0a06", func := "loop.example/wardstaff/laws.FnKeyPub", spec := "fnKeyPub", unfollowed := true, recurses := true, apart := false, narrowed := true }
def FnKeyPubUptoSaid : Prop := fnKeyPubUptoRow.holds Try.pinned (OpenSpec.upto fnKeyPubSpec)

end Rows
end Go.Proofs.Ytkklhlffbfgolaa
