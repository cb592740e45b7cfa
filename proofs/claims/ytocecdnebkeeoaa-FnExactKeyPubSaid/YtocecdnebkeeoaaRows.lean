/-
  No cell of these rows narrows 'for every input' (looked for: loops, veiled, ifaces, maps, wideKeys, modest, calm, conditions, laid).
  DERIVED. THE GIVEN ROWS OF THIS SEAT. 6 by the template 'for every input the law returns true; each argument reads behind the call as it read before'; 0 by the template 'total and deterministic' (their statements: YtocecdnebkeeoaaTotals.lean).
  GIVEN WITH THE SEED: the statements are not yours to turn. If you find one false, say at which input.
  Laid BY PROGRAM, IN A SANDBOX (cutbox-rows.mjs): the forced cells as the released guide's own fill.sh prints them over the translation 66ad65ca3cfbbdc4… (all of the seat's roots in one cut). By AI agents, Wed Nov 11 2026. No macro, syntax, notation, axiom, sorry.
-/
import Derived.Test.YtocecdnebkeeoaaChecked
import GoSem.Claim
import GoSem.ClaimJoined
import GoSem.ClaimMapViews
import Derived.JoinedTies
import Derived.KernelRfl
namespace Go.Proofs.Ytocecdnebkeeoaa
/- THE CELL 'sum', in the pinned program and in every row, IS THE sha256 OF THE DUMP (.gsa) THAT YtocecdnebkeeoaaProg.lean LOADS. Nothing in Lean hashes anything: it is a label: what it is worth is what the hold of that sum in a sandbox is worth. -/
noncomputable def Try.pinned : Pinned := { name := "ytocecdnebkeeoaa", sum := "66ad65ca3cfbbdc466debc915d2456e4dc3cbd6002ea07b440826bd29aaa1fc7", checked := Try.checked }
namespace Rows
def none {H : Type} : Left H := { results := [], args := [] }

/-- 'laws.FnKeyFits': WHATEVER THE INPUT: true; the input reads as it did. -/
def fnKeyFitsSpec : ChangeSpec := { name := "fnKeyFits", fn := fun _ => fun
  | [d] => { results := [.lit (.bool true)], args := [d] }
  | _ => none }
def fnKeyFitsRow : OpenClaim := { program := "ytocecdnebkeeoaa", sum := "66ad65ca3cfbbdc466debc915d2456e4dc3cbd6002ea07b440826bd29aaa1fc7", func := "loop.example/wardstaff/laws.FnKeyFits", spec := "fnKeyFits", unfollowed := true, recurses := true, apart := false }
def FnKeyFitsSaid : Prop := fnKeyFitsRow.holds Try.pinned (OpenSpec.ofChange fnKeyFitsSpec)

/-- ITS FALSE NEIGHBOUR: 'it returns false'. Refute it at one input. -/
def fnKeyFitsWrong : ChangeSpec := { name := "fnKeyFits", fn := fun _ => fun
  | [d] => { results := [.lit (.bool false)], args := [d] }
  | _ => none }
def FnKeyFitsWrongFalsely : Prop := fnKeyFitsRow.holds Try.pinned (OpenSpec.ofChange fnKeyFitsWrong)

/-- 'laws.FnKeyForm': WHATEVER THE INPUT: true; the input reads as it did. -/
def fnKeyFormSpec : ChangeSpec := { name := "fnKeyForm", fn := fun _ => fun
  | [d] => { results := [.lit (.bool true)], args := [d] }
  | _ => none }
def fnKeyFormRow : OpenClaim := { program := "ytocecdnebkeeoaa", sum := "66ad65ca3cfbbdc466debc915d2456e4dc3cbd6002ea07b440826bd29aaa1fc7", func := "loop.example/wardstaff/laws.FnKeyForm", spec := "fnKeyForm", unfollowed := true, recurses := true, apart := false }
def FnKeyFormSaid : Prop := fnKeyFormRow.holds Try.pinned (OpenSpec.ofChange fnKeyFormSpec)

/-- ITS FALSE NEIGHBOUR: 'it returns false'. Refute it at one input. -/
def fnKeyFormWrong : ChangeSpec := { name := "fnKeyForm", fn := fun _ => fun
  | [d] => { results := [.lit (.bool false)], args := [d] }
  | _ => none }
def FnKeyFormWrongFalsely : Prop := fnKeyFormRow.holds Try.pinned (OpenSpec.ofChange fnKeyFormWrong)

/-- 'laws.FnKeyPub': WHATEVER THE INPUT: true; the input reads as it did. -/
def fnKeyPubSpec : ChangeSpec := { name := "fnKeyPub", fn := fun _ => fun
  | [d] => { results := [.lit (.bool true)], args := [d] }
  | _ => none }
def fnKeyPubRow : OpenClaim := { program := "ytocecdnebkeeoaa", sum := "66ad65ca3cfbbdc466debc915d2456e4dc3cbd6002ea07b440826bd29aaa1fc7", func := "loop.example/wardstaff/laws.FnKeyPub", spec := "fnKeyPub", unfollowed := true, recurses := true, apart := false }
def FnKeyPubSaid : Prop := fnKeyPubRow.holds Try.pinned (OpenSpec.ofChange fnKeyPubSpec)

/-- ITS FALSE NEIGHBOUR: 'it returns false'. Refute it at one input. -/
def fnKeyPubWrong : ChangeSpec := { name := "fnKeyPub", fn := fun _ => fun
  | [d] => { results := [.lit (.bool false)], args := [d] }
  | _ => none }
def FnKeyPubWrongFalsely : Prop := fnKeyPubRow.holds Try.pinned (OpenSpec.ofChange fnKeyPubWrong)

/-- 'laws.FnExactKeyOk': WHATEVER THE INPUT: true; the input reads as it did. -/
def fnExactKeyOkSpec : ChangeSpec := { name := "fnExactKeyOk", fn := fun _ => fun
  | [d] => { results := [.lit (.bool true)], args := [d] }
  | _ => none }
def fnExactKeyOkRow : OpenClaim := { program := "ytocecdnebkeeoaa", sum := "66ad65ca3cfbbdc466debc915d2456e4dc3cbd6002ea07b440826bd29aaa1fc7", func := "loop.example/wardstaff/laws.FnExactKeyOk", spec := "fnExactKeyOk", unfollowed := true, recurses := true, apart := false }
def FnExactKeyOkSaid : Prop := fnExactKeyOkRow.holds Try.pinned (OpenSpec.ofChange fnExactKeyOkSpec)

/-- ITS FALSE NEIGHBOUR: 'it returns false'. Refute it at one input. -/
def fnExactKeyOkWrong : ChangeSpec := { name := "fnExactKeyOk", fn := fun _ => fun
  | [d] => { results := [.lit (.bool false)], args := [d] }
  | _ => none }
def FnExactKeyOkWrongFalsely : Prop := fnExactKeyOkRow.holds Try.pinned (OpenSpec.ofChange fnExactKeyOkWrong)

/-- 'laws.FnExactKeyPub': WHATEVER THE INPUT: true; the input reads as it did. -/
def fnExactKeyPubSpec : ChangeSpec := { name := "fnExactKeyPub", fn := fun _ => fun
  | [d] => { results := [.lit (.bool true)], args := [d] }
  | _ => none }
def fnExactKeyPubRow : OpenClaim := { program := "ytocecdnebkeeoaa", sum := "66ad65ca3cfbbdc466debc915d2456e4dc3cbd6002ea07b440826bd29aaa1fc7", func := "loop.example/wardstaff/laws.FnExactKeyPub", spec := "fnExactKeyPub", unfollowed := true, recurses := true, apart := false }
def FnExactKeyPubSaid : Prop := fnExactKeyPubRow.holds Try.pinned (OpenSpec.ofChange fnExactKeyPubSpec)

/-- ITS FALSE NEIGHBOUR: 'it returns false'. Refute it at one input. -/
def fnExactKeyPubWrong : ChangeSpec := { name := "fnExactKeyPub", fn := fun _ => fun
  | [d] => { results := [.lit (.bool false)], args := [d] }
  | _ => none }
def FnExactKeyPubWrongFalsely : Prop := fnExactKeyPubRow.holds Try.pinned (OpenSpec.ofChange fnExactKeyPubWrong)

/-- 'laws.FnExactKeyFits': WHATEVER THE INPUT: true; the input reads as it did. -/
def fnExactKeyFitsSpec : ChangeSpec := { name := "fnExactKeyFits", fn := fun _ => fun
  | [d1, d2, d3] => { results := [.lit (.bool true)], args := [d1, d2, d3] }
  | _ => none }
def fnExactKeyFitsRow : OpenClaim := { program := "ytocecdnebkeeoaa", sum := "66ad65ca3cfbbdc466debc915d2456e4dc3cbd6002ea07b440826bd29aaa1fc7", func := "loop.example/wardstaff/laws.FnExactKeyFits", spec := "fnExactKeyFits", unfollowed := true, recurses := true, apart := false }
def FnExactKeyFitsSaid : Prop := fnExactKeyFitsRow.holds Try.pinned (OpenSpec.ofChange fnExactKeyFitsSpec)

/-- ITS FALSE NEIGHBOUR: 'it returns false'. Refute it at one input. -/
def fnExactKeyFitsWrong : ChangeSpec := { name := "fnExactKeyFits", fn := fun _ => fun
  | [d1, d2, d3] => { results := [.lit (.bool false)], args := [d1, d2, d3] }
  | _ => none }
def FnExactKeyFitsWrongFalsely : Prop := fnExactKeyFitsRow.holds Try.pinned (OpenSpec.ofChange fnExactKeyFitsWrong)

/- THE SECOND FORM. 'bulk': how many values and letters a reading holds, each counted each time it is reached (what is shared counts as often as it is met; a slice's spare places count too). A statement '..UptoSaid' is the law's where the arguments, and the package variables that the reading takes, are together of bulk at most 1048576: NARROWER than '..Said'. Prove '..Said' where nothing that the law and all that it calls make is longer than what came in: it says more and counts as full. Else prove '..UptoSaid'. A law counts once. -/
mutual
def uptoBulk {H : Type} : DataW H → Nat
  | .lit (.string bytes) => bytes.length + 1
  | .lit _ => 1
  | .nil => 1
  | .ptr d => uptoBulk d + 1
  | .slice elems spare => uptoBulkAll elems + uptoBulkAll spare + 1
  | .agg parts => uptoBulkAll parts + 1
  | .iface _ d => uptoBulk d + 1
  | .map entries => uptoBulkEntries entries + 1
  | .held _ => 1
def uptoBulkAll {H : Type} : List (DataW H) → Nat
  | [] => 0
  | d :: r => uptoBulk d + uptoBulkAll r
def uptoBulkEntries {H : Type} : List (Lit × DataW H) → Nat
  | [] => 0
  | x :: r => uptoBulkEntry x + uptoBulkEntries r
def uptoBulkEntry {H : Type} : Lit × DataW H → Nat
  | (.string bytes, d) => bytes.length + uptoBulk d + 1
  | (_, d) => uptoBulk d + 1
 end
def uptoSmall : (H : Type) → List (DataW H) → Bool := fun _ ds => decide (uptoBulkAll ds ≤ 1048576)
def OpenSpec.upto (s : _root_.Go.ChangeSpec) : _root_.Go.OpenSpec := { _root_.Go.OpenSpec.ofChange s with cond := some uptoSmall }

/-- 'laws.FnKeyFits', WHERE WHAT IT READS IS OF BULK AT MOST 1048576: true; the input reads as it did. -/
def fnKeyFitsUptoRow : OpenClaim := { program := "ytocecdnebkeeoaa", sum := "66ad65ca3cfbbdc466debc915d2456e4dc3cbd6002ea07b440826bd29aaa1fc7", func := "loop.example/wardstaff/laws.FnKeyFits", spec := "fnKeyFits", unfollowed := true, recurses := true, apart := false, narrowed := true }
def FnKeyFitsUptoSaid : Prop := fnKeyFitsUptoRow.holds Try.pinned (OpenSpec.upto fnKeyFitsSpec)

/-- 'laws.FnKeyForm', WHERE WHAT IT READS IS OF BULK AT MOST 1048576: true; the input reads as it did. -/
def fnKeyFormUptoRow : OpenClaim := { program := "ytocecdnebkeeoaa", sum := "66ad65ca3cfbbdc466debc915d2456e4dc3cbd6002ea07b440826bd29aaa1fc7", func := "loop.example/wardstaff/laws.FnKeyForm", spec := "fnKeyForm", unfollowed := true, recurses := true, apart := false, narrowed := true }
def FnKeyFormUptoSaid : Prop := fnKeyFormUptoRow.holds Try.pinned (OpenSpec.upto fnKeyFormSpec)

/-- 'laws.FnKeyPub', WHERE WHAT IT READS IS OF BULK AT MOST 1048576: true; the input reads as it did. -/
def fnKeyPubUptoRow : OpenClaim := { program := "ytocecdnebkeeoaa", sum := "66ad65ca3cfbbdc466debc915d2456e4dc3cbd6002ea07b440826bd29aaa1fc7", func := "loop.example/wardstaff/laws.FnKeyPub", spec := "fnKeyPub", unfollowed := true, recurses := true, apart := false, narrowed := true }
def FnKeyPubUptoSaid : Prop := fnKeyPubUptoRow.holds Try.pinned (OpenSpec.upto fnKeyPubSpec)

/-- 'laws.FnExactKeyOk', WHERE WHAT IT READS IS OF BULK AT MOST 1048576: true; the input reads as it did. -/
def fnExactKeyOkUptoRow : OpenClaim := { program := "ytocecdnebkeeoaa", sum := "66ad65ca3cfbbdc466debc915d2456e4dc3cbd6002ea07b440826bd29aaa1fc7", func := "loop.example/wardstaff/laws.FnExactKeyOk", spec := "fnExactKeyOk", unfollowed := true, recurses := true, apart := false, narrowed := true }
def FnExactKeyOkUptoSaid : Prop := fnExactKeyOkUptoRow.holds Try.pinned (OpenSpec.upto fnExactKeyOkSpec)

/-- 'laws.FnExactKeyPub', WHERE WHAT IT READS IS OF BULK AT MOST 1048576: true; the input reads as it did. -/
def fnExactKeyPubUptoRow : OpenClaim := { program := "ytocecdnebkeeoaa", sum := "66ad65ca3cfbbdc466debc915d2456e4dc3cbd6002ea07b440826bd29aaa1fc7", func := "loop.example/wardstaff/laws.FnExactKeyPub", spec := "fnExactKeyPub", unfollowed := true, recurses := true, apart := false, narrowed := true }
def FnExactKeyPubUptoSaid : Prop := fnExactKeyPubUptoRow.holds Try.pinned (OpenSpec.upto fnExactKeyPubSpec)

/-- 'laws.FnExactKeyFits', WHERE WHAT IT READS IS OF BULK AT MOST 1048576: true; the input reads as it did. -/
def fnExactKeyFitsUptoRow : OpenClaim := { program := "ytocecdnebkeeoaa", sum := "66ad65ca3cfbbdc466debc915d2456e4dc3cbd6002ea07b440826bd29aaa1fc7", func := "loop.example/wardstaff/laws.FnExactKeyFits", spec := "fnExactKeyFits", unfollowed := true, recurses := true, apart := false, narrowed := true }
def FnExactKeyFitsUptoSaid : Prop := fnExactKeyFitsUptoRow.holds Try.pinned (OpenSpec.upto fnExactKeyFitsSpec)

end Rows
end Go.Proofs.Ytocecdnebkeeoaa
