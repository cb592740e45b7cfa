/-
  No cell of these rows narrows 'for every input' (looked for: loops, veiled, ifaces, maps, wideKeys, modest, calm, conditions, laid).
  DERIVED. THE GIVEN ROWS OF THIS SEAT. 14 by the template 'for every input the law returns true; each argument reads behind the call as it read before'; 0 by the template 'total and deterministic' (their statements: YtbfmigmhmjgdgaaTotals.lean).
  GIVEN WITH THE SEED: the statements are not yours to turn. If you find one false, say at which input.
  Laid BY PROGRAM, IN A SANDBOX (cutbox-rows.mjs): the forced cells as the released guide's own fill.sh prints them over the translation e5dc0c46fe84ee43… (all of the seat's roots in one cut). By AI agents, Wed Nov 11 2026. No macro, syntax, notation, axiom, sorry.
-/
import Derived.Test.YtbfmigmhmjgdgaaChecked
import GoSem.Claim
import GoSem.ClaimJoined
import GoSem.ClaimMapViews
import Derived.JoinedTies
import Derived.KernelRfl
namespace Go.Proofs.Ytbfmigmhmjgdgaa
/- THE CELL 'sum', in the pinned program and in every row, IS THE sha256 OF THE DUMP (.gsa) THAT YtbfmigmhmjgdgaaProg.lean LOADS. Nothing in Lean hashes anything: it is a label: what it is worth is what the hold of that sum in a sandbox is worth. -/
noncomputable def Try.pinned : Pinned := { name := "ytbfmigmhmjgdgaa", sum := "e5dc0c46fe84ee4376f427ec2df0cd512669c722ee83c10b642f75970860ec72", checked := Try.checked }
namespace Rows
def none {H : Type} : Left H := { results := [], args := [] }

/-- 'laws.FnCourtOpen': WHATEVER THE INPUT: true; the input reads as it did. -/
def fnCourtOpenSpec : ChangeSpec := { name := "fnCourtOpen", fn := fun _ => fun
  | [d] => { results := [.lit (.bool true)], args := [d] }
  | _ => none }
def fnCourtOpenRow : OpenClaim := { program := "ytbfmigmhmjgdgaa", sum := "e5dc0c46fe84ee4376f427ec2df0cd512669c722ee83c10b642f75970860ec72", func := "loop.example/wardstaff/laws.FnCourtOpen", spec := "fnCourtOpen", unfollowed := true, recurses := true, apart := false }
def FnCourtOpenSaid : Prop := fnCourtOpenRow.holds Try.pinned (OpenSpec.ofChange fnCourtOpenSpec)

/-- ITS FALSE NEIGHBOUR: 'it returns false'. Refute it at one input. -/
def fnCourtOpenWrong : ChangeSpec := { name := "fnCourtOpen", fn := fun _ => fun
  | [d] => { results := [.lit (.bool false)], args := [d] }
  | _ => none }
def FnCourtOpenWrongFalsely : Prop := fnCourtOpenRow.holds Try.pinned (OpenSpec.ofChange fnCourtOpenWrong)

/-- 'laws.FnCourtVote': WHATEVER THE INPUT: true; the input reads as it did. -/
def fnCourtVoteSpec : ChangeSpec := { name := "fnCourtVote", fn := fun _ => fun
  | [d] => { results := [.lit (.bool true)], args := [d] }
  | _ => none }
def fnCourtVoteRow : OpenClaim := { program := "ytbfmigmhmjgdgaa", sum := "e5dc0c46fe84ee4376f427ec2df0cd512669c722ee83c10b642f75970860ec72", func := "loop.example/wardstaff/laws.FnCourtVote", spec := "fnCourtVote", unfollowed := true, recurses := true, apart := false }
def FnCourtVoteSaid : Prop := fnCourtVoteRow.holds Try.pinned (OpenSpec.ofChange fnCourtVoteSpec)

/-- ITS FALSE NEIGHBOUR: 'it returns false'. Refute it at one input. -/
def fnCourtVoteWrong : ChangeSpec := { name := "fnCourtVote", fn := fun _ => fun
  | [d] => { results := [.lit (.bool false)], args := [d] }
  | _ => none }
def FnCourtVoteWrongFalsely : Prop := fnCourtVoteRow.holds Try.pinned (OpenSpec.ofChange fnCourtVoteWrong)

/-- 'laws.FnCourtVeto': WHATEVER THE INPUT: true; the input reads as it did. -/
def fnCourtVetoSpec : ChangeSpec := { name := "fnCourtVeto", fn := fun _ => fun
  | [d] => { results := [.lit (.bool true)], args := [d] }
  | _ => none }
def fnCourtVetoRow : OpenClaim := { program := "ytbfmigmhmjgdgaa", sum := "e5dc0c46fe84ee4376f427ec2df0cd512669c722ee83c10b642f75970860ec72", func := "loop.example/wardstaff/laws.FnCourtVeto", spec := "fnCourtVeto", unfollowed := true, recurses := true, apart := false }
def FnCourtVetoSaid : Prop := fnCourtVetoRow.holds Try.pinned (OpenSpec.ofChange fnCourtVetoSpec)

/-- ITS FALSE NEIGHBOUR: 'it returns false'. Refute it at one input. -/
def fnCourtVetoWrong : ChangeSpec := { name := "fnCourtVeto", fn := fun _ => fun
  | [d] => { results := [.lit (.bool false)], args := [d] }
  | _ => none }
def FnCourtVetoWrongFalsely : Prop := fnCourtVetoRow.holds Try.pinned (OpenSpec.ofChange fnCourtVetoWrong)

/-- 'laws.FnCourtMay': WHATEVER THE INPUT: true; the input reads as it did. -/
def fnCourtMaySpec : ChangeSpec := { name := "fnCourtMay", fn := fun _ => fun
  | [d] => { results := [.lit (.bool true)], args := [d] }
  | _ => none }
def fnCourtMayRow : OpenClaim := { program := "ytbfmigmhmjgdgaa", sum := "e5dc0c46fe84ee4376f427ec2df0cd512669c722ee83c10b642f75970860ec72", func := "loop.example/wardstaff/laws.FnCourtMay", spec := "fnCourtMay", unfollowed := true, recurses := true, apart := false }
def FnCourtMaySaid : Prop := fnCourtMayRow.holds Try.pinned (OpenSpec.ofChange fnCourtMaySpec)

/-- ITS FALSE NEIGHBOUR: 'it returns false'. Refute it at one input. -/
def fnCourtMayWrong : ChangeSpec := { name := "fnCourtMay", fn := fun _ => fun
  | [d] => { results := [.lit (.bool false)], args := [d] }
  | _ => none }
def FnCourtMayWrongFalsely : Prop := fnCourtMayRow.holds Try.pinned (OpenSpec.ofChange fnCourtMayWrong)

/-- 'laws.FnCourtLater': WHATEVER THE INPUT: true; the input reads as it did. -/
def fnCourtLaterSpec : ChangeSpec := { name := "fnCourtLater", fn := fun _ => fun
  | [d1, d2] => { results := [.lit (.bool true)], args := [d1, d2] }
  | _ => none }
def fnCourtLaterRow : OpenClaim := { program := "ytbfmigmhmjgdgaa", sum := "e5dc0c46fe84ee4376f427ec2df0cd512669c722ee83c10b642f75970860ec72", func := "loop.example/wardstaff/laws.FnCourtLater", spec := "fnCourtLater", unfollowed := true, recurses := true, apart := false }
def FnCourtLaterSaid : Prop := fnCourtLaterRow.holds Try.pinned (OpenSpec.ofChange fnCourtLaterSpec)

/-- ITS FALSE NEIGHBOUR: 'it returns false'. Refute it at one input. -/
def fnCourtLaterWrong : ChangeSpec := { name := "fnCourtLater", fn := fun _ => fun
  | [d1, d2] => { results := [.lit (.bool false)], args := [d1, d2] }
  | _ => none }
def FnCourtLaterWrongFalsely : Prop := fnCourtLaterRow.holds Try.pinned (OpenSpec.ofChange fnCourtLaterWrong)

/-- 'laws.FnCourtNever': WHATEVER THE INPUT: true; the input reads as it did. -/
def fnCourtNeverSpec : ChangeSpec := { name := "fnCourtNever", fn := fun _ => fun
  | [d1, d2] => { results := [.lit (.bool true)], args := [d1, d2] }
  | _ => none }
def fnCourtNeverRow : OpenClaim := { program := "ytbfmigmhmjgdgaa", sum := "e5dc0c46fe84ee4376f427ec2df0cd512669c722ee83c10b642f75970860ec72", func := "loop.example/wardstaff/laws.FnCourtNever", spec := "fnCourtNever", unfollowed := true, recurses := true, apart := false }
def FnCourtNeverSaid : Prop := fnCourtNeverRow.holds Try.pinned (OpenSpec.ofChange fnCourtNeverSpec)

/-- ITS FALSE NEIGHBOUR: 'it returns false'. Refute it at one input. -/
def fnCourtNeverWrong : ChangeSpec := { name := "fnCourtNever", fn := fun _ => fun
  | [d1, d2] => { results := [.lit (.bool false)], args := [d1, d2] }
  | _ => none }
def FnCourtNeverWrongFalsely : Prop := fnCourtNeverRow.holds Try.pinned (OpenSpec.ofChange fnCourtNeverWrong)

/-- 'laws.FnCourtForm': WHATEVER THE INPUT: true; the input reads as it did. -/
def fnCourtFormSpec : ChangeSpec := { name := "fnCourtForm", fn := fun _ => fun
  | [d] => { results := [.lit (.bool true)], args := [d] }
  | _ => none }
def fnCourtFormRow : OpenClaim := { program := "ytbfmigmhmjgdgaa", sum := "e5dc0c46fe84ee4376f427ec2df0cd512669c722ee83c10b642f75970860ec72", func := "loop.example/wardstaff/laws.FnCourtForm", spec := "fnCourtForm", unfollowed := true, recurses := true, apart := false }
def FnCourtFormSaid : Prop := fnCourtFormRow.holds Try.pinned (OpenSpec.ofChange fnCourtFormSpec)

/-- ITS FALSE NEIGHBOUR: 'it returns false'. Refute it at one input. -/
def fnCourtFormWrong : ChangeSpec := { name := "fnCourtForm", fn := fun _ => fun
  | [d] => { results := [.lit (.bool false)], args := [d] }
  | _ => none }
def FnCourtFormWrongFalsely : Prop := fnCourtFormRow.holds Try.pinned (OpenSpec.ofChange fnCourtFormWrong)

/-- 'laws.FnCourtAgain': WHATEVER THE INPUT: true; the input reads as it did. -/
def fnCourtAgainSpec : ChangeSpec := { name := "fnCourtAgain", fn := fun _ => fun
  | [d1, d2] => { results := [.lit (.bool true)], args := [d1, d2] }
  | _ => none }
def fnCourtAgainRow : OpenClaim := { program := "ytbfmigmhmjgdgaa", sum := "e5dc0c46fe84ee4376f427ec2df0cd512669c722ee83c10b642f75970860ec72", func := "loop.example/wardstaff/laws.FnCourtAgain", spec := "fnCourtAgain", unfollowed := true, recurses := true, apart := false }
def FnCourtAgainSaid : Prop := fnCourtAgainRow.holds Try.pinned (OpenSpec.ofChange fnCourtAgainSpec)

/-- ITS FALSE NEIGHBOUR: 'it returns false'. Refute it at one input. -/
def fnCourtAgainWrong : ChangeSpec := { name := "fnCourtAgain", fn := fun _ => fun
  | [d1, d2] => { results := [.lit (.bool false)], args := [d1, d2] }
  | _ => none }
def FnCourtAgainWrongFalsely : Prop := fnCourtAgainRow.holds Try.pinned (OpenSpec.ofChange fnCourtAgainWrong)

/-- 'laws.FnVoteOrder': WHATEVER THE INPUT: true; the input reads as it did. -/
def fnVoteOrderSpec : ChangeSpec := { name := "fnVoteOrder", fn := fun _ => fun
  | [d1, d2] => { results := [.lit (.bool true)], args := [d1, d2] }
  | _ => none }
def fnVoteOrderRow : OpenClaim := { program := "ytbfmigmhmjgdgaa", sum := "e5dc0c46fe84ee4376f427ec2df0cd512669c722ee83c10b642f75970860ec72", func := "loop.example/wardstaff/laws.FnVoteOrder", spec := "fnVoteOrder", unfollowed := true, recurses := true, apart := false }
def FnVoteOrderSaid : Prop := fnVoteOrderRow.holds Try.pinned (OpenSpec.ofChange fnVoteOrderSpec)

/-- ITS FALSE NEIGHBOUR: 'it returns false'. Refute it at one input. -/
def fnVoteOrderWrong : ChangeSpec := { name := "fnVoteOrder", fn := fun _ => fun
  | [d1, d2] => { results := [.lit (.bool false)], args := [d1, d2] }
  | _ => none }
def FnVoteOrderWrongFalsely : Prop := fnVoteOrderRow.holds Try.pinned (OpenSpec.ofChange fnVoteOrderWrong)

/-- 'laws.FnExactCourtOk': WHATEVER THE INPUT: true; the input reads as it did. -/
def fnExactCourtOkSpec : ChangeSpec := { name := "fnExactCourtOk", fn := fun _ => fun
  | [d] => { results := [.lit (.bool true)], args := [d] }
  | _ => none }
def fnExactCourtOkRow : OpenClaim := { program := "ytbfmigmhmjgdgaa", sum := "e5dc0c46fe84ee4376f427ec2df0cd512669c722ee83c10b642f75970860ec72", func := "loop.example/wardstaff/laws.FnExactCourtOk", spec := "fnExactCourtOk", unfollowed := true, recurses := true, apart := false }
def FnExactCourtOkSaid : Prop := fnExactCourtOkRow.holds Try.pinned (OpenSpec.ofChange fnExactCourtOkSpec)

/-- ITS FALSE NEIGHBOUR: 'it returns false'. Refute it at one input. -/
def fnExactCourtOkWrong : ChangeSpec := { name := "fnExactCourtOk", fn := fun _ => fun
  | [d] => { results := [.lit (.bool false)], args := [d] }
  | _ => none }
def FnExactCourtOkWrongFalsely : Prop := fnExactCourtOkRow.holds Try.pinned (OpenSpec.ofChange fnExactCourtOkWrong)

/-- 'laws.FnExactCourtOpen': WHATEVER THE INPUT: true; the input reads as it did. -/
def fnExactCourtOpenSpec : ChangeSpec := { name := "fnExactCourtOpen", fn := fun _ => fun
  | [d1, d2] => { results := [.lit (.bool true)], args := [d1, d2] }
  | _ => none }
def fnExactCourtOpenRow : OpenClaim := { program := "ytbfmigmhmjgdgaa", sum := "e5dc0c46fe84ee4376f427ec2df0cd512669c722ee83c10b642f75970860ec72", func := "loop.example/wardstaff/laws.FnExactCourtOpen", spec := "fnExactCourtOpen", unfollowed := true, recurses := true, apart := false }
def FnExactCourtOpenSaid : Prop := fnExactCourtOpenRow.holds Try.pinned (OpenSpec.ofChange fnExactCourtOpenSpec)

/-- ITS FALSE NEIGHBOUR: 'it returns false'. Refute it at one input. -/
def fnExactCourtOpenWrong : ChangeSpec := { name := "fnExactCourtOpen", fn := fun _ => fun
  | [d1, d2] => { results := [.lit (.bool false)], args := [d1, d2] }
  | _ => none }
def FnExactCourtOpenWrongFalsely : Prop := fnExactCourtOpenRow.holds Try.pinned (OpenSpec.ofChange fnExactCourtOpenWrong)

/-- 'laws.FnExactCourtVote': WHATEVER THE INPUT: true; the input reads as it did. -/
def fnExactCourtVoteSpec : ChangeSpec := { name := "fnExactCourtVote", fn := fun _ => fun
  | [d1, d2] => { results := [.lit (.bool true)], args := [d1, d2] }
  | _ => none }
def fnExactCourtVoteRow : OpenClaim := { program := "ytbfmigmhmjgdgaa", sum := "e5dc0c46fe84ee4376f427ec2df0cd512669c722ee83c10b642f75970860ec72", func := "loop.example/wardstaff/laws.FnExactCourtVote", spec := "fnExactCourtVote", unfollowed := true, recurses := true, apart := false }
def FnExactCourtVoteSaid : Prop := fnExactCourtVoteRow.holds Try.pinned (OpenSpec.ofChange fnExactCourtVoteSpec)

/-- ITS FALSE NEIGHBOUR: 'it returns false'. Refute it at one input. -/
def fnExactCourtVoteWrong : ChangeSpec := { name := "fnExactCourtVote", fn := fun _ => fun
  | [d1, d2] => { results := [.lit (.bool false)], args := [d1, d2] }
  | _ => none }
def FnExactCourtVoteWrongFalsely : Prop := fnExactCourtVoteRow.holds Try.pinned (OpenSpec.ofChange fnExactCourtVoteWrong)

/-- 'laws.FnExactCourtVeto': WHATEVER THE INPUT: true; the input reads as it did. -/
def fnExactCourtVetoSpec : ChangeSpec := { name := "fnExactCourtVeto", fn := fun _ => fun
  | [d] => { results := [.lit (.bool true)], args := [d] }
  | _ => none }
def fnExactCourtVetoRow : OpenClaim := { program := "ytbfmigmhmjgdgaa", sum := "e5dc0c46fe84ee4376f427ec2df0cd512669c722ee83c10b642f75970860ec72", func := "loop.example/wardstaff/laws.FnExactCourtVeto", spec := "fnExactCourtVeto", unfollowed := true, recurses := true, apart := false }
def FnExactCourtVetoSaid : Prop := fnExactCourtVetoRow.holds Try.pinned (OpenSpec.ofChange fnExactCourtVetoSpec)

/-- ITS FALSE NEIGHBOUR: 'it returns false'. Refute it at one input. -/
def fnExactCourtVetoWrong : ChangeSpec := { name := "fnExactCourtVeto", fn := fun _ => fun
  | [d] => { results := [.lit (.bool false)], args := [d] }
  | _ => none }
def FnExactCourtVetoWrongFalsely : Prop := fnExactCourtVetoRow.holds Try.pinned (OpenSpec.ofChange fnExactCourtVetoWrong)

/-- 'laws.FnExactCourtMay': WHATEVER THE INPUT: true; the input reads as it did. -/
def fnExactCourtMaySpec : ChangeSpec := { name := "fnExactCourtMay", fn := fun _ => fun
  | [d1, d2] => { results := [.lit (.bool true)], args := [d1, d2] }
  | _ => none }
def fnExactCourtMayRow : OpenClaim := { program := "ytbfmigmhmjgdgaa", sum := "e5dc0c46fe84ee4376f427ec2df0cd512669c722ee83c10b642f75970860ec72", func := "loop.example/wardstaff/laws.FnExactCourtMay", spec := "fnExactCourtMay", unfollowed := true, recurses := true, apart := false }
def FnExactCourtMaySaid : Prop := fnExactCourtMayRow.holds Try.pinned (OpenSpec.ofChange fnExactCourtMaySpec)

/-- ITS FALSE NEIGHBOUR: 'it returns false'. Refute it at one input. -/
def fnExactCourtMayWrong : ChangeSpec := { name := "fnExactCourtMay", fn := fun _ => fun
  | [d1, d2] => { results := [.lit (.bool false)], args := [d1, d2] }
  | _ => none }
def FnExactCourtMayWrongFalsely : Prop := fnExactCourtMayRow.holds Try.pinned (OpenSpec.ofChange fnExactCourtMayWrong)

/- THE SECOND FORM. 'bulk': how many values and letters a reading holds, each counted each time it is reached (what is shared counts as often as it is met; a slice's spare places count too). A statement '..UptoSaid' is the law's where the arguments, and the package variables that the reading takes, are together of bulk at most 1048576: NARROWER than '..Said'. Prove '..Said' where nothing that the law and all that it calls make is longer than what came in: it says more and counts as full. Else prove '..UptoSaid'. A law counts once. -/
mutual
def uptoBulk {H : Type} : DataW H → Nat
  | .lit (.string bytes) => bytes.length + 1
  | .lit _ => 1
  | .nil => 1
  | .ptr d => uptoBulk d + 1
  | .slice elems spare => uptoBulkAll elems + uptoBulkAll spare + 1
  | .agg parts => uptoBulkAll parts + 1
  | .iface _ d => uptoBulk d + 1
  | .map entries => uptoBulkEntries entries + 1
  | .held _ => 1
def uptoBulkAll {H : Type} : List (DataW H) → Nat
  | [] => 0
  | d :: r => uptoBulk d + uptoBulkAll r
def uptoBulkEntries {H : Type} : List (Lit × DataW H) → Nat
  | [] => 0
  | x :: r => uptoBulkEntry x + uptoBulkEntries r
def uptoBulkEntry {H : Type} : Lit × DataW H → Nat
  | (.string bytes, d) => bytes.length + uptoBulk d + 1
  | (_, d) => uptoBulk d + 1
 end
def uptoSmall : (H : Type) → List (DataW H) → Bool := fun _ ds => decide (uptoBulkAll ds ≤ 1048576)
def OpenSpec.upto (s : _root_.Go.ChangeSpec) : _root_.Go.OpenSpec := { _root_.Go.OpenSpec.ofChange s with cond := some uptoSmall }

/-- 'laws.FnCourtOpen', WHERE WHAT IT READS IS OF BULK AT MOST 1048576: true; the input reads as it did. -/
def fnCourtOpenUptoRow : OpenClaim := { program := "ytbfmigmhmjgdgaa", sum := "e5dc0c46fe84ee4376f427ec2df0cd512669c722ee83c10b642f75970860ec72", func := "loop.example/wardstaff/laws.FnCourtOpen", spec := "fnCourtOpen", unfollowed := true, recurses := true, apart := false, narrowed := true }
def FnCourtOpenUptoSaid : Prop := fnCourtOpenUptoRow.holds Try.pinned (OpenSpec.upto fnCourtOpenSpec)

/-- 'laws.FnCourtVote', WHERE WHAT IT READS IS OF BULK AT MOST 1048576: true; the input reads as it did. -/
def fnCourtVoteUptoRow : OpenClaim := { program := "ytbfmigmhmjgdgaa", sum := "e5dc0c46fe84ee4376f427ec2df0cd512669c722ee83c10b642f75970860ec72", func := "loop.example/wardstaff/laws.FnCourtVote", spec := "fnCourtVote", unfollowed := true, recurses := true, apart := false, narrowed := true }
def FnCourtVoteUptoSaid : Prop := fnCourtVoteUptoRow.holds Try.pinned (OpenSpec.upto fnCourtVoteSpec)

/-- 'laws.FnCourtVeto', WHERE WHAT IT READS IS OF BULK AT MOST 1048576: true; the input reads as it did. -/
def fnCourtVetoUptoRow : OpenClaim := { program := "ytbfmigmhmjgdgaa", sum := "e5dc0c46fe84ee4376f427ec2df0cd512669c722ee83c10b642f75970860ec72", func := "loop.example/wardstaff/laws.FnCourtVeto", spec := "fnCourtVeto", unfollowed := true, recurses := true, apart := false, narrowed := true }
def FnCourtVetoUptoSaid : Prop := fnCourtVetoUptoRow.holds Try.pinned (OpenSpec.upto fnCourtVetoSpec)

/-- 'laws.FnCourtMay', WHERE WHAT IT READS IS OF BULK AT MOST 1048576: true; the input reads as it did. -/
def fnCourtMayUptoRow : OpenClaim := { program := "ytbfmigmhmjgdgaa", sum := "e5dc0c46fe84ee4376f427ec2df0cd512669c722ee83c10b642f75970860ec72", func := "loop.example/wardstaff/laws.FnCourtMay", spec := "fnCourtMay", unfollowed := true, recurses := true, apart := false, narrowed := true }
def FnCourtMayUptoSaid : Prop := fnCourtMayUptoRow.holds Try.pinned (OpenSpec.upto fnCourtMaySpec)

/-- 'laws.FnCourtLater', WHERE WHAT IT READS IS OF BULK AT MOST 1048576: true; the input reads as it did. -/
def fnCourtLaterUptoRow : OpenClaim := { program := "ytbfmigmhmjgdgaa", sum := "e5dc0c46fe84ee4376f427ec2df0cd512669c722ee83c10b642f75970860ec72", func := "loop.example/wardstaff/laws.FnCourtLater", spec := "fnCourtLater", unfollowed := true, recurses := true, apart := false, narrowed := true }
def FnCourtLaterUptoSaid : Prop := fnCourtLaterUptoRow.holds Try.pinned (OpenSpec.upto fnCourtLaterSpec)

/-- 'laws.FnCourtNever', WHERE WHAT IT READS IS OF BULK AT MOST 1048576: true; the input reads as it did. -/
def fnCourtNeverUptoRow : OpenClaim := { program := "ytbfmigmhmjgdgaa", sum := "e5dc0c46fe84ee4376f427ec2df0cd512669c722ee83c10b642f75970860ec72", func := "loop.example/wardstaff/laws.FnCourtNever", spec := "fnCourtNever", unfollowed := true, recurses := true, apart := false, narrowed := true }
def FnCourtNeverUptoSaid : Prop := fnCourtNeverUptoRow.holds Try.pinned (OpenSpec.upto fnCourtNeverSpec)

/-- 'laws.FnCourtForm', WHERE WHAT IT READS IS OF BULK AT MOST 1048576: true; the input reads as it did. -/
def fnCourtFormUptoRow : OpenClaim := { program := "ytbfmigmhmjgdgaa", sum := "e5dc0c46fe84ee4376f427ec2df0cd512669c722ee83c10b642f75970860ec72", func := "loop.example/wardstaff/laws.FnCourtForm", spec := "fnCourtForm", unfollowed := true, recurses := true, apart := false, narrowed := true }
def FnCourtFormUptoSaid : Prop := fnCourtFormUptoRow.holds Try.pinned (OpenSpec.upto fnCourtFormSpec)

/-- 'laws.FnCourtAgain', WHERE WHAT IT READS IS OF BULK AT MOST 1048576: true; the input reads as it did. -/
def fnCourtAgainUptoRow : OpenClaim := { program := "ytbfmigmhmjgdgaa", sum := "e5dc0c46fe84ee4376f427ec2df0cd512669c722ee83c10b642f75970860ec72", func := "loop.example/wardstaff/laws.FnCourtAgain", spec := "fnCourtAgain", unfollowed := true, recurses := true, apart := false, narrowed := true }
def FnCourtAgainUptoSaid : Prop := fnCourtAgainUptoRow.holds Try.pinned (OpenSpec.upto fnCourtAgainSpec)

/-- 'laws.FnVoteOrder', WHERE WHAT IT READS IS OF BULK AT MOST 1048576: true; the input reads as it did. -/
def fnVoteOrderUptoRow : OpenClaim := { program := "ytbfmigmhmjgdgaa", sum := "e5dc0c46fe84ee4376f427ec2df0cd512669c722ee83c10b642f75970860ec72", func := "loop.example/wardstaff/laws.FnVoteOrder", spec := "fnVoteOrder", unfollowed := true, recurses := true, apart := false, narrowed := true }
def FnVoteOrderUptoSaid : Prop := fnVoteOrderUptoRow.holds Try.pinned (OpenSpec.upto fnVoteOrderSpec)

/-- 'laws.FnExactCourtOk', WHERE WHAT IT READS IS OF BULK AT MOST 1048576: true; the input reads as it did. -/
def fnExactCourtOkUptoRow : OpenClaim := { program := "ytbfmigmhmjgdgaa", sum := "e5dc0c46fe84ee4376f427ec2df0cd512669c722ee83c10b642f75970860ec72", func := "loop.example/wardstaff/laws.FnExactCourtOk", spec := "fnExactCourtOk", unfollowed := true, recurses := true, apart := false, narrowed := true }
def FnExactCourtOkUptoSaid : Prop := fnExactCourtOkUptoRow.holds Try.pinned (OpenSpec.upto fnExactCourtOkSpec)

/-- 'laws.FnExactCourtOpen', WHERE WHAT IT READS IS OF BULK AT MOST 1048576: true; the input reads as it did. -/
def fnExactCourtOpenUptoRow : OpenClaim := { program := "ytbfmigmhmjgdgaa", sum := "e5dc0c46fe84ee4376f427ec2df0cd512669c722ee83c10b642f75970860ec72", func := "loop.example/wardstaff/laws.FnExactCourtOpen", spec := "fnExactCourtOpen", unfollowed := true, recurses := true, apart := false, narrowed := true }
def FnExactCourtOpenUptoSaid : Prop := fnExactCourtOpenUptoRow.holds Try.pinned (OpenSpec.upto fnExactCourtOpenSpec)

/-- 'laws.FnExactCourtVote', WHERE WHAT IT READS IS OF BULK AT MOST 1048576: true; the input reads as it did. -/
def fnExactCourtVoteUptoRow : OpenClaim := { program := "ytbfmigmhmjgdgaa", sum := "e5dc0c46fe84ee4376f427ec2df0cd512669c722ee83c10b642f75970860ec72", func := "loop.example/wardstaff/laws.FnExactCourtVote", spec := "fnExactCourtVote", unfollowed := true, recurses := true, apart := false, narrowed := true }
def FnExactCourtVoteUptoSaid : Prop := fnExactCourtVoteUptoRow.holds Try.pinned (OpenSpec.upto fnExactCourtVoteSpec)

/-- 'laws.FnExactCourtVeto', WHERE WHAT IT READS IS OF BULK AT MOST 1048576: true; the input reads as it did. -/
def fnExactCourtVetoUptoRow : OpenClaim := { program := "ytbfmigmhmjgdgaa", sum := "e5dc0c46fe84ee4376f427ec2df0cd512669c722ee83c10b642f75970860ec72", func := "loop.example/wardstaff/laws.FnExactCourtVeto", spec := "fnExactCourtVeto", unfollowed := true, recurses := true, apart := false, narrowed := true }
def FnExactCourtVetoUptoSaid : Prop := fnExactCourtVetoUptoRow.holds Try.pinned (OpenSpec.upto fnExactCourtVetoSpec)

/-- 'laws.FnExactCourtMay', WHERE WHAT IT READS IS OF BULK AT MOST 1048576: true; the input reads as it did. -/
def fnExactCourtMayUptoRow : OpenClaim := { program := "ytbfmigmhmjgdgaa", sum := "e5dc0c46fe84ee4376f427ec2df0cd512669c722ee83c10b642f75970860ec72", func := "loop.example/wardstaff/laws.FnExactCourtMay", spec := "fnExactCourtMay", unfollowed := true, recurses := true, apart := false, narrowed := true }
def FnExactCourtMayUptoSaid : Prop := fnExactCourtMayUptoRow.holds Try.pinned (OpenSpec.upto fnExactCourtMaySpec)

end Rows
end Go.Proofs.Ytbfmigmhmjgdgaa
