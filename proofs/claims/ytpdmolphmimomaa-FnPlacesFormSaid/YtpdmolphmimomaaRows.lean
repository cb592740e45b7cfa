/-
  No cell of these rows narrows 'for every input' (looked for: loops, veiled, ifaces, maps, wideKeys, modest, calm, conditions, laid).
  DERIVED. THE GIVEN ROWS OF THIS SEAT. 16 by the template 'for every input the law returns true; each argument reads behind the call as it read before'; 0 by the template 'total and deterministic' (their statements: YtpdmolphmimomaaTotals.lean).
  GIVEN WITH THE SEED: the statements are not yours to turn. If you find one false, say at which input.
  Laid BY PROGRAM, IN A SANDBOX (cutbox-rows.mjs): the forced cells as the released guide's own fill.sh prints them over the translation 91f8fbd25da2f280… (all of the seat's roots in one cut). By AI agents, Wed Nov 11 2026. No macro, syntax, notation, axiom, sorry.
-/
import Derived.Test.YtpdmolphmimomaaChecked
import GoSem.Claim
import GoSem.ClaimJoined
import GoSem.ClaimMapViews
import Derived.JoinedTies
import Derived.KernelRfl
namespace Go.Proofs.Ytpdmolphmimomaa
/- THE CELL 'sum', in the pinned program and in every row, IS THE sha256 OF THE DUMP (.gsa) THAT YtpdmolphmimomaaProg.lean LOADS. Nothing in Lean hashes anything: it is a label: what it is worth is what the hold of that sum in a sandbox is worth. -/
noncomputable def Try.pinned : Pinned := { name := "ytpdmolphmimomaa", sum := "91f8fbd25da2f28078ace673d492a70d2f5639a6782aea03fcf43cb6af2c7dfc", checked := Try.checked }
namespace Rows
def none {H : Type} : Left H := { results := [], args := [] }

/-- 'laws.FnCommit': WHATEVER THE INPUT: true; the input reads as it did. -/
def fnCommitSpec : ChangeSpec := { name := "fnCommit", fn := fun _ => fun
  | [d1, d2] => { results := [.lit (.bool true)], args := [d1, d2] }
  | _ => none }
def fnCommitRow : OpenClaim := { program := "ytpdmolphmimomaa", sum := "91f8fbd25da2f28078ace673d492a70d2f5639a6782aea03fcf43cb6af2c7dfc", func := "loop.example/wardstaff/laws.FnCommit", spec := "fnCommit", inPlace := ["(*sync.WaitGroup).Add", "internal/race.ReleaseMerge", "internal/race.Disable", "internal/race.Enable", "internal/synctest.IsInBubble", "internal/synctest.Associate[sync.WaitGroup]", "sync.fatal", "sync/atomic.OrUint64", "sync/atomic.AddUint64", "internal/race.Read", "sync/atomic.LoadUint64", "sync/atomic.StoreUint64", "internal/synctest.Disassociate[sync.WaitGroup]", "sync.runtime_Semrelease", "(*sync.WaitGroup).Done", "(*sync.WaitGroup).Wait", "internal/race.Acquire", "internal/synctest.IsAssociated[sync.WaitGroup]", "sync/atomic.CompareAndSwapUint64", "internal/race.Write", "sync.runtime_SemacquireWaitGroup"], unfollowed := true, recurses := true, leaving := true, apart := false }
def FnCommitSaid : Prop := fnCommitRow.holds Try.pinned (OpenSpec.ofChange fnCommitSpec)

/-- ITS FALSE NEIGHBOUR: 'it returns false'. Refute it at one input. -/
def fnCommitWrong : ChangeSpec := { name := "fnCommit", fn := fun _ => fun
  | [d1, d2] => { results := [.lit (.bool false)], args := [d1, d2] }
  | _ => none }
def FnCommitWrongFalsely : Prop := fnCommitRow.holds Try.pinned (OpenSpec.ofChange fnCommitWrong)

/-- 'laws.FnCommitAt': WHATEVER THE INPUT: true; the input reads as it did. -/
def fnCommitAtSpec : ChangeSpec := { name := "fnCommitAt", fn := fun _ => fun
  | [d1, d2] => { results := [.lit (.bool true)], args := [d1, d2] }
  | _ => none }
def fnCommitAtRow : OpenClaim := { program := "ytpdmolphmimomaa", sum := "91f8fbd25da2f28078ace673d492a70d2f5639a6782aea03fcf43cb6af2c7dfc", func := "loop.example/wardstaff/laws.FnCommitAt", spec := "fnCommitAt", inPlace := ["(*sync.WaitGroup).Add", "internal/race.ReleaseMerge", "internal/race.Disable", "internal/race.Enable", "internal/synctest.IsInBubble", "internal/synctest.Associate[sync.WaitGroup]", "sync.fatal", "sync/atomic.OrUint64", "sync/atomic.AddUint64", "internal/race.Read", "sync/atomic.LoadUint64", "sync/atomic.StoreUint64", "internal/synctest.Disassociate[sync.WaitGroup]", "sync.runtime_Semrelease", "(*sync.WaitGroup).Done", "(*sync.WaitGroup).Wait", "internal/race.Acquire", "internal/synctest.IsAssociated[sync.WaitGroup]", "sync/atomic.CompareAndSwapUint64", "internal/race.Write", "sync.runtime_SemacquireWaitGroup"], unfollowed := true, recurses := true, leaving := true, apart := false }
def FnCommitAtSaid : Prop := fnCommitAtRow.holds Try.pinned (OpenSpec.ofChange fnCommitAtSpec)

/-- ITS FALSE NEIGHBOUR: 'it returns false'. Refute it at one input. -/
def fnCommitAtWrong : ChangeSpec := { name := "fnCommitAt", fn := fun _ => fun
  | [d1, d2] => { results := [.lit (.bool false)], args := [d1, d2] }
  | _ => none }
def FnCommitAtWrongFalsely : Prop := fnCommitAtRow.holds Try.pinned (OpenSpec.ofChange fnCommitAtWrong)

/-- 'laws.FnCommitOne': WHATEVER THE INPUT: true; the input reads as it did. -/
def fnCommitOneSpec : ChangeSpec := { name := "fnCommitOne", fn := fun _ => fun
  | [d] => { results := [.lit (.bool true)], args := [d] }
  | _ => none }
def fnCommitOneRow : OpenClaim := { program := "ytpdmolphmimomaa", sum := "91f8fbd25da2f28078ace673d492a70d2f5639a6782aea03fcf43cb6af2c7dfc", func := "loop.example/wardstaff/laws.FnCommitOne", spec := "fnCommitOne", unfollowed := true, recurses := true, leaving := true, apart := false }
def FnCommitOneSaid : Prop := fnCommitOneRow.holds Try.pinned (OpenSpec.ofChange fnCommitOneSpec)

/-- ITS FALSE NEIGHBOUR: 'it returns false'. Refute it at one input. -/
def fnCommitOneWrong : ChangeSpec := { name := "fnCommitOne", fn := fun _ => fun
  | [d] => { results := [.lit (.bool false)], args := [d] }
  | _ => none }
def FnCommitOneWrongFalsely : Prop := fnCommitOneRow.holds Try.pinned (OpenSpec.ofChange fnCommitOneWrong)

/-- 'laws.FnFits': WHATEVER THE INPUT: true; the input reads as it did. -/
def fnFitsSpec : ChangeSpec := { name := "fnFits", fn := fun _ => fun
  | [d] => { results := [.lit (.bool true)], args := [d] }
  | _ => none }
def fnFitsRow : OpenClaim := { program := "ytpdmolphmimomaa", sum := "91f8fbd25da2f28078ace673d492a70d2f5639a6782aea03fcf43cb6af2c7dfc", func := "loop.example/wardstaff/laws.FnFits", spec := "fnFits", unfollowed := true, recurses := true, leaving := true, apart := false }
def FnFitsSaid : Prop := fnFitsRow.holds Try.pinned (OpenSpec.ofChange fnFitsSpec)

/-- ITS FALSE NEIGHBOUR: 'it returns false'. Refute it at one input. -/
def fnFitsWrong : ChangeSpec := { name := "fnFits", fn := fun _ => fun
  | [d] => { results := [.lit (.bool false)], args := [d] }
  | _ => none }
def FnFitsWrongFalsely : Prop := fnFitsRow.holds Try.pinned (OpenSpec.ofChange fnFitsWrong)

/-- 'laws.FnFitsPoly': WHATEVER THE INPUT: true; the input reads as it did. -/
def fnFitsPolySpec : ChangeSpec := { name := "fnFitsPoly", fn := fun _ => fun
  | [d1, d2] => { results := [.lit (.bool true)], args := [d1, d2] }
  | _ => none }
def fnFitsPolyRow : OpenClaim := { program := "ytpdmolphmimomaa", sum := "91f8fbd25da2f28078ace673d492a70d2f5639a6782aea03fcf43cb6af2c7dfc", func := "loop.example/wardstaff/laws.FnFitsPoly", spec := "fnFitsPoly", inPlace := ["(*sync.WaitGroup).Add", "internal/race.ReleaseMerge", "internal/race.Disable", "internal/race.Enable", "internal/synctest.IsInBubble", "internal/synctest.Associate[sync.WaitGroup]", "sync.fatal", "sync/atomic.OrUint64", "sync/atomic.AddUint64", "internal/race.Read", "sync/atomic.LoadUint64", "sync/atomic.StoreUint64", "internal/synctest.Disassociate[sync.WaitGroup]", "sync.runtime_Semrelease", "(*sync.WaitGroup).Done", "(*sync.WaitGroup).Wait", "internal/race.Acquire", "internal/synctest.IsAssociated[sync.WaitGroup]", "sync/atomic.CompareAndSwapUint64", "internal/race.Write", "sync.runtime_SemacquireWaitGroup"], unfollowed := true, recurses := true, leaving := true, apart := false }
def FnFitsPolySaid : Prop := fnFitsPolyRow.holds Try.pinned (OpenSpec.ofChange fnFitsPolySpec)

/-- ITS FALSE NEIGHBOUR: 'it returns false'. Refute it at one input. -/
def fnFitsPolyWrong : ChangeSpec := { name := "fnFitsPoly", fn := fun _ => fun
  | [d1, d2] => { results := [.lit (.bool false)], args := [d1, d2] }
  | _ => none }
def FnFitsPolyWrongFalsely : Prop := fnFitsPolyRow.holds Try.pinned (OpenSpec.ofChange fnFitsPolyWrong)

/-- 'laws.FnCommitSum': WHATEVER THE INPUT: true; the input reads as it did. -/
def fnCommitSumSpec : ChangeSpec := { name := "fnCommitSum", fn := fun _ => fun
  | [d1, d2] => { results := [.lit (.bool true)], args := [d1, d2] }
  | _ => none }
def fnCommitSumRow : OpenClaim := { program := "ytpdmolphmimomaa", sum := "91f8fbd25da2f28078ace673d492a70d2f5639a6782aea03fcf43cb6af2c7dfc", func := "loop.example/wardstaff/laws.FnCommitSum", spec := "fnCommitSum", inPlace := ["(*sync.WaitGroup).Add", "internal/race.ReleaseMerge", "internal/race.Disable", "internal/race.Enable", "internal/synctest.IsInBubble", "internal/synctest.Associate[sync.WaitGroup]", "sync.fatal", "sync/atomic.OrUint64", "sync/atomic.AddUint64", "internal/race.Read", "sync/atomic.LoadUint64", "sync/atomic.StoreUint64", "internal/synctest.Disassociate[sync.WaitGroup]", "sync.runtime_Semrelease", "(*sync.WaitGroup).Done", "(*sync.WaitGroup).Wait", "internal/race.Acquire", "internal/synctest.IsAssociated[sync.WaitGroup]", "sync/atomic.CompareAndSwapUint64", "internal/race.Write", "sync.runtime_SemacquireWaitGroup"], unfollowed := true, recurses := true, leaving := true, apart := false }
def FnCommitSumSaid : Prop := fnCommitSumRow.holds Try.pinned (OpenSpec.ofChange fnCommitSumSpec)

/-- ITS FALSE NEIGHBOUR: 'it returns false'. Refute it at one input. -/
def fnCommitSumWrong : ChangeSpec := { name := "fnCommitSum", fn := fun _ => fun
  | [d1, d2] => { results := [.lit (.bool false)], args := [d1, d2] }
  | _ => none }
def FnCommitSumWrongFalsely : Prop := fnCommitSumRow.holds Try.pinned (OpenSpec.ofChange fnCommitSumWrong)

/-- 'laws.FnCommitForm': WHATEVER THE INPUT: true; the input reads as it did. -/
def fnCommitFormSpec : ChangeSpec := { name := "fnCommitForm", fn := fun _ => fun
  | [d1, d2] => { results := [.lit (.bool true)], args := [d1, d2] }
  | _ => none }
def fnCommitFormRow : OpenClaim := { program := "ytpdmolphmimomaa", sum := "91f8fbd25da2f28078ace673d492a70d2f5639a6782aea03fcf43cb6af2c7dfc", func := "loop.example/wardstaff/laws.FnCommitForm", spec := "fnCommitForm", unfollowed := true, recurses := true, leaving := true, apart := false }
def FnCommitFormSaid : Prop := fnCommitFormRow.holds Try.pinned (OpenSpec.ofChange fnCommitFormSpec)

/-- ITS FALSE NEIGHBOUR: 'it returns false'. Refute it at one input. -/
def fnCommitFormWrong : ChangeSpec := { name := "fnCommitForm", fn := fun _ => fun
  | [d1, d2] => { results := [.lit (.bool false)], args := [d1, d2] }
  | _ => none }
def FnCommitFormWrongFalsely : Prop := fnCommitFormRow.holds Try.pinned (OpenSpec.ofChange fnCommitFormWrong)

/-- 'laws.FnCommitSame': WHATEVER THE INPUT: true; the input reads as it did. -/
def fnCommitSameSpec : ChangeSpec := { name := "fnCommitSame", fn := fun _ => fun
  | [d1, d2] => { results := [.lit (.bool true)], args := [d1, d2] }
  | _ => none }
def fnCommitSameRow : OpenClaim := { program := "ytpdmolphmimomaa", sum := "91f8fbd25da2f28078ace673d492a70d2f5639a6782aea03fcf43cb6af2c7dfc", func := "loop.example/wardstaff/laws.FnCommitSame", spec := "fnCommitSame", inPlace := ["(*sync.WaitGroup).Add", "internal/race.ReleaseMerge", "internal/race.Disable", "internal/race.Enable", "internal/synctest.IsInBubble", "internal/synctest.Associate[sync.WaitGroup]", "sync.fatal", "sync/atomic.OrUint64", "sync/atomic.AddUint64", "internal/race.Read", "sync/atomic.LoadUint64", "sync/atomic.StoreUint64", "internal/synctest.Disassociate[sync.WaitGroup]", "sync.runtime_Semrelease", "(*sync.WaitGroup).Done", "(*sync.WaitGroup).Wait", "internal/race.Acquire", "internal/synctest.IsAssociated[sync.WaitGroup]", "sync/atomic.CompareAndSwapUint64", "internal/race.Write", "sync.runtime_SemacquireWaitGroup"], unfollowed := true, recurses := true, leaving := true, apart := false }
def FnCommitSameSaid : Prop := fnCommitSameRow.holds Try.pinned (OpenSpec.ofChange fnCommitSameSpec)

/-- ITS FALSE NEIGHBOUR: 'it returns false'. Refute it at one input. -/
def fnCommitSameWrong : ChangeSpec := { name := "fnCommitSame", fn := fun _ => fun
  | [d1, d2] => { results := [.lit (.bool false)], args := [d1, d2] }
  | _ => none }
def FnCommitSameWrongFalsely : Prop := fnCommitSameRow.holds Try.pinned (OpenSpec.ofChange fnCommitSameWrong)

/-- 'laws.FnCommitHide': WHATEVER THE INPUT: true; the input reads as it did. -/
def fnCommitHideSpec : ChangeSpec := { name := "fnCommitHide", fn := fun _ => fun
  | [d] => { results := [.lit (.bool true)], args := [d] }
  | _ => none }
def fnCommitHideRow : OpenClaim := { program := "ytpdmolphmimomaa", sum := "91f8fbd25da2f28078ace673d492a70d2f5639a6782aea03fcf43cb6af2c7dfc", func := "loop.example/wardstaff/laws.FnCommitHide", spec := "fnCommitHide", inPlace := ["(*sync.WaitGroup).Add", "internal/race.ReleaseMerge", "internal/race.Disable", "internal/race.Enable", "internal/synctest.IsInBubble", "internal/synctest.Associate[sync.WaitGroup]", "sync.fatal", "sync/atomic.OrUint64", "sync/atomic.AddUint64", "internal/race.Read", "sync/atomic.LoadUint64", "sync/atomic.StoreUint64", "internal/synctest.Disassociate[sync.WaitGroup]", "sync.runtime_Semrelease", "(*sync.WaitGroup).Done", "(*sync.WaitGroup).Wait", "internal/race.Acquire", "internal/synctest.IsAssociated[sync.WaitGroup]", "sync/atomic.CompareAndSwapUint64", "internal/race.Write", "sync.runtime_SemacquireWaitGroup"], unfollowed := true, recurses := true, leaving := true, apart := false }
def FnCommitHideSaid : Prop := fnCommitHideRow.holds Try.pinned (OpenSpec.ofChange fnCommitHideSpec)

/-- ITS FALSE NEIGHBOUR: 'it returns false'. Refute it at one input. -/
def fnCommitHideWrong : ChangeSpec := { name := "fnCommitHide", fn := fun _ => fun
  | [d] => { results := [.lit (.bool false)], args := [d] }
  | _ => none }
def FnCommitHideWrongFalsely : Prop := fnCommitHideRow.holds Try.pinned (OpenSpec.ofChange fnCommitHideWrong)

/-- 'laws.FnCommitPow': WHATEVER THE INPUT: true; the input reads as it did. -/
def fnCommitPowSpec : ChangeSpec := { name := "fnCommitPow", fn := fun _ => fun
  | [d1, d2] => { results := [.lit (.bool true)], args := [d1, d2] }
  | _ => none }
def fnCommitPowRow : OpenClaim := { program := "ytpdmolphmimomaa", sum := "91f8fbd25da2f28078ace673d492a70d2f5639a6782aea03fcf43cb6af2c7dfc", func := "loop.example/wardstaff/laws.FnCommitPow", spec := "fnCommitPow", inPlace := ["(*sync.WaitGroup).Add", "internal/race.ReleaseMerge", "internal/race.Disable", "internal/race.Enable", "internal/synctest.IsInBubble", "internal/synctest.Associate[sync.WaitGroup]", "sync.fatal", "sync/atomic.OrUint64", "sync/atomic.AddUint64", "internal/race.Read", "sync/atomic.LoadUint64", "sync/atomic.StoreUint64", "internal/synctest.Disassociate[sync.WaitGroup]", "sync.runtime_Semrelease", "(*sync.WaitGroup).Done", "(*sync.WaitGroup).Wait", "internal/race.Acquire", "internal/synctest.IsAssociated[sync.WaitGroup]", "sync/atomic.CompareAndSwapUint64", "internal/race.Write", "sync.runtime_SemacquireWaitGroup"], unfollowed := true, recurses := true, leaving := true, apart := false }
def FnCommitPowSaid : Prop := fnCommitPowRow.holds Try.pinned (OpenSpec.ofChange fnCommitPowSpec)

/-- ITS FALSE NEIGHBOUR: 'it returns false'. Refute it at one input. -/
def fnCommitPowWrong : ChangeSpec := { name := "fnCommitPow", fn := fun _ => fun
  | [d1, d2] => { results := [.lit (.bool false)], args := [d1, d2] }
  | _ => none }
def FnCommitPowWrongFalsely : Prop := fnCommitPowRow.holds Try.pinned (OpenSpec.ofChange fnCommitPowWrong)

/-- 'laws.FnExactCommitOf': WHATEVER THE INPUT: true; the input reads as it did. -/
def fnExactCommitOfSpec : ChangeSpec := { name := "fnExactCommitOf", fn := fun _ => fun
  | [d] => { results := [.lit (.bool true)], args := [d] }
  | _ => none }
def fnExactCommitOfRow : OpenClaim := { program := "ytpdmolphmimomaa", sum := "91f8fbd25da2f28078ace673d492a70d2f5639a6782aea03fcf43cb6af2c7dfc", func := "loop.example/wardstaff/laws.FnExactCommitOf", spec := "fnExactCommitOf", inPlace := ["(*sync.WaitGroup).Add", "internal/race.ReleaseMerge", "internal/race.Disable", "internal/race.Enable", "internal/synctest.IsInBubble", "internal/synctest.Associate[sync.WaitGroup]", "sync.fatal", "sync/atomic.OrUint64", "sync/atomic.AddUint64", "internal/race.Read", "sync/atomic.LoadUint64", "sync/atomic.StoreUint64", "internal/synctest.Disassociate[sync.WaitGroup]", "sync.runtime_Semrelease", "(*sync.WaitGroup).Done", "(*sync.WaitGroup).Wait", "internal/race.Acquire", "internal/synctest.IsAssociated[sync.WaitGroup]", "sync/atomic.CompareAndSwapUint64", "internal/race.Write", "sync.runtime_SemacquireWaitGroup"], unfollowed := true, recurses := true, leaving := true, apart := false }
def FnExactCommitOfSaid : Prop := fnExactCommitOfRow.holds Try.pinned (OpenSpec.ofChange fnExactCommitOfSpec)

/-- ITS FALSE NEIGHBOUR: 'it returns false'. Refute it at one input. -/
def fnExactCommitOfWrong : ChangeSpec := { name := "fnExactCommitOf", fn := fun _ => fun
  | [d] => { results := [.lit (.bool false)], args := [d] }
  | _ => none }
def FnExactCommitOfWrongFalsely : Prop := fnExactCommitOfRow.holds Try.pinned (OpenSpec.ofChange fnExactCommitOfWrong)

/-- 'laws.FnExactCommitOk': WHATEVER THE INPUT: true; the input reads as it did. -/
def fnExactCommitOkSpec : ChangeSpec := { name := "fnExactCommitOk", fn := fun _ => fun
  | [d] => { results := [.lit (.bool true)], args := [d] }
  | _ => none }
def fnExactCommitOkRow : OpenClaim := { program := "ytpdmolphmimomaa", sum := "91f8fbd25da2f28078ace673d492a70d2f5639a6782aea03fcf43cb6af2c7dfc", func := "loop.example/wardstaff/laws.FnExactCommitOk", spec := "fnExactCommitOk", unfollowed := true, recurses := true, leaving := true, apart := false }
def FnExactCommitOkSaid : Prop := fnExactCommitOkRow.holds Try.pinned (OpenSpec.ofChange fnExactCommitOkSpec)

/-- ITS FALSE NEIGHBOUR: 'it returns false'. Refute it at one input. -/
def fnExactCommitOkWrong : ChangeSpec := { name := "fnExactCommitOk", fn := fun _ => fun
  | [d] => { results := [.lit (.bool false)], args := [d] }
  | _ => none }
def FnExactCommitOkWrongFalsely : Prop := fnExactCommitOkRow.holds Try.pinned (OpenSpec.ofChange fnExactCommitOkWrong)

/-- 'laws.FnExactCommitAt': WHATEVER THE INPUT: true; the input reads as it did. -/
def fnExactCommitAtSpec : ChangeSpec := { name := "fnExactCommitAt", fn := fun _ => fun
  | [d1, d2] => { results := [.lit (.bool true)], args := [d1, d2] }
  | _ => none }
def fnExactCommitAtRow : OpenClaim := { program := "ytpdmolphmimomaa", sum := "91f8fbd25da2f28078ace673d492a70d2f5639a6782aea03fcf43cb6af2c7dfc", func := "loop.example/wardstaff/laws.FnExactCommitAt", spec := "fnExactCommitAt", unfollowed := true, recurses := true, leaving := true, apart := false }
def FnExactCommitAtSaid : Prop := fnExactCommitAtRow.holds Try.pinned (OpenSpec.ofChange fnExactCommitAtSpec)

/-- ITS FALSE NEIGHBOUR: 'it returns false'. Refute it at one input. -/
def fnExactCommitAtWrong : ChangeSpec := { name := "fnExactCommitAt", fn := fun _ => fun
  | [d1, d2] => { results := [.lit (.bool false)], args := [d1, d2] }
  | _ => none }
def FnExactCommitAtWrongFalsely : Prop := fnExactCommitAtRow.holds Try.pinned (OpenSpec.ofChange fnExactCommitAtWrong)

/-- 'laws.FnExactCommitFits': WHATEVER THE INPUT: true; the input reads as it did. -/
def fnExactCommitFitsSpec : ChangeSpec := { name := "fnExactCommitFits", fn := fun _ => fun
  | [d1, d2, d3] => { results := [.lit (.bool true)], args := [d1, d2, d3] }
  | _ => none }
def fnExactCommitFitsRow : OpenClaim := { program := "ytpdmolphmimomaa", sum := "91f8fbd25da2f28078ace673d492a70d2f5639a6782aea03fcf43cb6af2c7dfc", func := "loop.example/wardstaff/laws.FnExactCommitFits", spec := "fnExactCommitFits", unfollowed := true, recurses := true, leaving := true, apart := false }
def FnExactCommitFitsSaid : Prop := fnExactCommitFitsRow.holds Try.pinned (OpenSpec.ofChange fnExactCommitFitsSpec)

/-- ITS FALSE NEIGHBOUR: 'it returns false'. Refute it at one input. -/
def fnExactCommitFitsWrong : ChangeSpec := { name := "fnExactCommitFits", fn := fun _ => fun
  | [d1, d2, d3] => { results := [.lit (.bool false)], args := [d1, d2, d3] }
  | _ => none }
def FnExactCommitFitsWrongFalsely : Prop := fnExactCommitFitsRow.holds Try.pinned (OpenSpec.ofChange fnExactCommitFitsWrong)

/-- 'laws.FnExactCommitSum': WHATEVER THE INPUT: true; the input reads as it did. -/
def fnExactCommitSumSpec : ChangeSpec := { name := "fnExactCommitSum", fn := fun _ => fun
  | [d1, d2] => { results := [.lit (.bool true)], args := [d1, d2] }
  | _ => none }
def fnExactCommitSumRow : OpenClaim := { program := "ytpdmolphmimomaa", sum := "91f8fbd25da2f28078ace673d492a70d2f5639a6782aea03fcf43cb6af2c7dfc", func := "loop.example/wardstaff/laws.FnExactCommitSum", spec := "fnExactCommitSum", inPlace := ["(*sync.WaitGroup).Add", "internal/race.ReleaseMerge", "internal/race.Disable", "internal/race.Enable", "internal/synctest.IsInBubble", "internal/synctest.Associate[sync.WaitGroup]", "sync.fatal", "sync/atomic.OrUint64", "sync/atomic.AddUint64", "internal/race.Read", "sync/atomic.LoadUint64", "sync/atomic.StoreUint64", "internal/synctest.Disassociate[sync.WaitGroup]", "sync.runtime_Semrelease", "(*sync.WaitGroup).Done", "(*sync.WaitGroup).Wait", "internal/race.Acquire", "internal/synctest.IsAssociated[sync.WaitGroup]", "sync/atomic.CompareAndSwapUint64", "internal/race.Write", "sync.runtime_SemacquireWaitGroup"], unfollowed := true, recurses := true, leaving := true, apart := false }
def FnExactCommitSumSaid : Prop := fnExactCommitSumRow.holds Try.pinned (OpenSpec.ofChange fnExactCommitSumSpec)

/-- ITS FALSE NEIGHBOUR: 'it returns false'. Refute it at one input. -/
def fnExactCommitSumWrong : ChangeSpec := { name := "fnExactCommitSum", fn := fun _ => fun
  | [d1, d2] => { results := [.lit (.bool false)], args := [d1, d2] }
  | _ => none }
def FnExactCommitSumWrongFalsely : Prop := fnExactCommitSumRow.holds Try.pinned (OpenSpec.ofChange fnExactCommitSumWrong)

/-- 'laws.FnPlacesForm': WHATEVER THE INPUT: true; the input reads as it did. -/
def fnPlacesFormSpec : ChangeSpec := { name := "fnPlacesForm", fn := fun _ => fun
  | [d1, d2] => { results := [.lit (.bool true)], args := [d1, d2] }
  | _ => none }
def fnPlacesFormRow : OpenClaim := { program := "ytpdmolphmimomaa", sum := "91f8fbd25da2f28078ace673d492a70d2f5639a6782aea03fcf43cb6af2c7dfc", func := "loop.example/wardstaff/laws.FnPlacesForm", spec := "fnPlacesForm", apart := false }
def FnPlacesFormSaid : Prop := fnPlacesFormRow.holds Try.pinned (OpenSpec.ofChange fnPlacesFormSpec)

/-- ITS FALSE NEIGHBOUR: 'it returns false'. Refute it at one input. -/
def fnPlacesFormWrong : ChangeSpec := { name := "fnPlacesForm", fn := fun _ => fun
  | [d1, d2] => { results := [.lit (.bool false)], args := [d1, d2] }
  | _ => none }
def FnPlacesFormWrongFalsely : Prop := fnPlacesFormRow.holds Try.pinned (OpenSpec.ofChange fnPlacesFormWrong)

/- THE SECOND FORM. 'bulk': how many values and letters a reading holds, each counted each time it is reached (what is shared counts as often as it is met; a slice's spare places count too). A statement '..UptoSaid' is the law's where the arguments, and the package variables that the reading takes, are together of bulk at most 1048576: NARROWER than '..Said'. Prove '..Said' where nothing that the law and all that it calls make is longer than what came in: it says more and counts as full. Else prove '..UptoSaid'. A law counts once. -/
mutual
def uptoBulk {H : Type} : DataW H → Nat
  | .lit (.string bytes) => bytes.length + 1
  | .lit _ => 1
  | .nil => 1
  | .ptr d => uptoBulk d + 1
  | .slice elems spare => uptoBulkAll elems + uptoBulkAll spare + 1
  | .agg parts => uptoBulkAll parts + 1
  | .iface _ d => uptoBulk d + 1
  | .map entries => uptoBulkEntries entries + 1
  | .held _ => 1
def uptoBulkAll {H : Type} : List (DataW H) → Nat
  | [] => 0
  | d :: r => uptoBulk d + uptoBulkAll r
def uptoBulkEntries {H : Type} : List (Lit × DataW H) → Nat
  | [] => 0
  | x :: r => uptoBulkEntry x + uptoBulkEntries r
def uptoBulkEntry {H : Type} : Lit × DataW H → Nat
  | (.string bytes, d) => bytes.length + uptoBulk d + 1
  | (_, d) => uptoBulk d + 1
 end
def uptoSmall : (H : Type) → List (DataW H) → Bool := fun _ ds => decide (uptoBulkAll ds ≤ 1048576)
def OpenSpec.upto (s : _root_.Go.ChangeSpec) : _root_.Go.OpenSpec := { _root_.Go.OpenSpec.ofChange s with cond := some uptoSmall }

/-- 'laws.FnCommit', WHERE WHAT IT READS IS OF BULK AT MOST 1048576: true; the input reads as it did. -/
def fnCommitUptoRow : OpenClaim := { program := "ytpdmolphmimomaa", sum := "91f8fbd25da2f28078ace673d492a70d2f5639a6782aea03fcf43cb6af2c7dfc", func := "loop.example/wardstaff/laws.FnCommit", spec := "fnCommit", inPlace := ["(*sync.WaitGroup).Add", "internal/race.ReleaseMerge", "internal/race.Disable", "internal/race.Enable", "internal/synctest.IsInBubble", "internal/synctest.Associate[sync.WaitGroup]", "sync.fatal", "sync/atomic.OrUint64", "sync/atomic.AddUint64", "internal/race.Read", "sync/atomic.LoadUint64", "sync/atomic.StoreUint64", "internal/synctest.Disassociate[sync.WaitGroup]", "sync.runtime_Semrelease", "(*sync.WaitGroup).Done", "(*sync.WaitGroup).Wait", "internal/race.Acquire", "internal/synctest.IsAssociated[sync.WaitGroup]", "sync/atomic.CompareAndSwapUint64", "internal/race.Write", "sync.runtime_SemacquireWaitGroup"], unfollowed := true, recurses := true, leaving := true, apart := false, narrowed := true }
def FnCommitUptoSaid : Prop := fnCommitUptoRow.holds Try.pinned (OpenSpec.upto fnCommitSpec)

/-- 'laws.FnCommitAt', WHERE WHAT IT READS IS OF BULK AT MOST 1048576: true; the input reads as it did. -/
def fnCommitAtUptoRow : OpenClaim := { program := "ytpdmolphmimomaa", sum := "91f8fbd25da2f28078ace673d492a70d2f5639a6782aea03fcf43cb6af2c7dfc", func := "loop.example/wardstaff/laws.FnCommitAt", spec := "fnCommitAt", inPlace := ["(*sync.WaitGroup).Add", "internal/race.ReleaseMerge", "internal/race.Disable", "internal/race.Enable", "internal/synctest.IsInBubble", "internal/synctest.Associate[sync.WaitGroup]", "sync.fatal", "sync/atomic.OrUint64", "sync/atomic.AddUint64", "internal/race.Read", "sync/atomic.LoadUint64", "sync/atomic.StoreUint64", "internal/synctest.Disassociate[sync.WaitGroup]", "sync.runtime_Semrelease", "(*sync.WaitGroup).Done", "(*sync.WaitGroup).Wait", "internal/race.Acquire", "internal/synctest.IsAssociated[sync.WaitGroup]", "sync/atomic.CompareAndSwapUint64", "internal/race.Write", "sync.runtime_SemacquireWaitGroup"], unfollowed := true, recurses := true, leaving := true, apart := false, narrowed := true }
def FnCommitAtUptoSaid : Prop := fnCommitAtUptoRow.holds Try.pinned (OpenSpec.upto fnCommitAtSpec)

/-- 'laws.FnCommitOne', WHERE WHAT IT READS IS OF BULK AT MOST 1048576: true; the input reads as it did. -/
def fnCommitOneUptoRow : OpenClaim := { program := "ytpdmolphmimomaa", sum := "91f8fbd25da2f28078ace673d492a70d2f5639a6782aea03fcf43cb6af2c7dfc", func := "loop.example/wardstaff/laws.FnCommitOne", spec := "fnCommitOne", unfollowed := true, recurses := true, leaving := true, apart := false, narrowed := true }
def FnCommitOneUptoSaid : Prop := fnCommitOneUptoRow.holds Try.pinned (OpenSpec.upto fnCommitOneSpec)

/-- 'laws.FnFits', WHERE WHAT IT READS IS OF BULK AT MOST 1048576: true; the input reads as it did. -/
def fnFitsUptoRow : OpenClaim := { program := "ytpdmolphmimomaa", sum := "91f8fbd25da2f28078ace673d492a70d2f5639a6782aea03fcf43cb6af2c7dfc", func := "loop.example/wardstaff/laws.FnFits", spec := "fnFits", unfollowed := true, recurses := true, leaving := true, apart := false, narrowed := true }
def FnFitsUptoSaid : Prop := fnFitsUptoRow.holds Try.pinned (OpenSpec.upto fnFitsSpec)

/-- 'laws.FnFitsPoly', WHERE WHAT IT READS IS OF BULK AT MOST 1048576: true; the input reads as it did. -/
def fnFitsPolyUptoRow : OpenClaim := { program := "ytpdmolphmimomaa", sum := "91f8fbd25da2f28078ace673d492a70d2f5639a6782aea03fcf43cb6af2c7dfc", func := "loop.example/wardstaff/laws.FnFitsPoly", spec := "fnFitsPoly", inPlace := ["(*sync.WaitGroup).Add", "internal/race.ReleaseMerge", "internal/race.Disable", "internal/race.Enable", "internal/synctest.IsInBubble", "internal/synctest.Associate[sync.WaitGroup]", "sync.fatal", "sync/atomic.OrUint64", "sync/atomic.AddUint64", "internal/race.Read", "sync/atomic.LoadUint64", "sync/atomic.StoreUint64", "internal/synctest.Disassociate[sync.WaitGroup]", "sync.runtime_Semrelease", "(*sync.WaitGroup).Done", "(*sync.WaitGroup).Wait", "internal/race.Acquire", "internal/synctest.IsAssociated[sync.WaitGroup]", "sync/atomic.CompareAndSwapUint64", "internal/race.Write", "sync.runtime_SemacquireWaitGroup"], unfollowed := true, recurses := true, leaving := true, apart := false, narrowed := true }
def FnFitsPolyUptoSaid : Prop := fnFitsPolyUptoRow.holds Try.pinned (OpenSpec.upto fnFitsPolySpec)

/-- 'laws.FnCommitSum', WHERE WHAT IT READS IS OF BULK AT MOST 1048576: true; the input reads as it did. -/
def fnCommitSumUptoRow : OpenClaim := { program := "ytpdmolphmimomaa", sum := "91f8fbd25da2f28078ace673d492a70d2f5639a6782aea03fcf43cb6af2c7dfc", func := "loop.example/wardstaff/laws.FnCommitSum", spec := "fnCommitSum", inPlace := ["(*sync.WaitGroup).Add", "internal/race.ReleaseMerge", "internal/race.Disable", "internal/race.Enable", "internal/synctest.IsInBubble", "internal/synctest.Associate[sync.WaitGroup]", "sync.fatal", "sync/atomic.OrUint64", "sync/atomic.AddUint64", "internal/race.Read", "sync/atomic.LoadUint64", "sync/atomic.StoreUint64", "internal/synctest.Disassociate[sync.WaitGroup]", "sync.runtime_Semrelease", "(*sync.WaitGroup).Done", "(*sync.WaitGroup).Wait", "internal/race.Acquire", "internal/synctest.IsAssociated[sync.WaitGroup]", "sync/atomic.CompareAndSwapUint64", "internal/race.Write", "sync.runtime_SemacquireWaitGroup"], unfollowed := true, recurses := true, leaving := true, apart := false, narrowed := true }
def FnCommitSumUptoSaid : Prop := fnCommitSumUptoRow.holds Try.pinned (OpenSpec.upto fnCommitSumSpec)

/-- 'laws.FnCommitForm', WHERE WHAT IT READS IS OF BULK AT MOST 1048576: true; the input reads as it did. -/
def fnCommitFormUptoRow : OpenClaim := { program := "ytpdmolphmimomaa", sum := "91f8fbd25da2f28078ace673d492a70d2f5639a6782aea03fcf43cb6af2c7dfc", func := "loop.example/wardstaff/laws.FnCommitForm", spec := "fnCommitForm", unfollowed := true, recurses := true, leaving := true, apart := false, narrowed := true }
def FnCommitFormUptoSaid : Prop := fnCommitFormUptoRow.holds Try.pinned (OpenSpec.upto fnCommitFormSpec)

/-- 'laws.FnCommitSame', WHERE WHAT IT READS IS OF BULK AT MOST 1048576: true; the input reads as it did. -/
def fnCommitSameUptoRow : OpenClaim := { program := "ytpdmolphmimomaa", sum := "91f8fbd25da2f28078ace673d492a70d2f5639a6782aea03fcf43cb6af2c7dfc", func := "loop.example/wardstaff/laws.FnCommitSame", spec := "fnCommitSame", inPlace := ["(*sync.WaitGroup).Add", "internal/race.ReleaseMerge", "internal/race.Disable", "internal/race.Enable", "internal/synctest.IsInBubble", "internal/synctest.Associate[sync.WaitGroup]", "sync.fatal", "sync/atomic.OrUint64", "sync/atomic.AddUint64", "internal/race.Read", "sync/atomic.LoadUint64", "sync/atomic.StoreUint64", "internal/synctest.Disassociate[sync.WaitGroup]", "sync.runtime_Semrelease", "(*sync.WaitGroup).Done", "(*sync.WaitGroup).Wait", "internal/race.Acquire", "internal/synctest.IsAssociated[sync.WaitGroup]", "sync/atomic.CompareAndSwapUint64", "internal/race.Write", "sync.runtime_SemacquireWaitGroup"], unfollowed := true, recurses := true, leaving := true, apart := false, narrowed := true }
def FnCommitSameUptoSaid : Prop := fnCommitSameUptoRow.holds Try.pinned (OpenSpec.upto fnCommitSameSpec)

/-- 'laws.FnCommitHide', WHERE WHAT IT READS IS OF BULK AT MOST 1048576: true; the input reads as it did. -/
def fnCommitHideUptoRow : OpenClaim := { program := "ytpdmolphmimomaa", sum := "91f8fbd25da2f28078ace673d492a70d2f5639a6782aea03fcf43cb6af2c7dfc", func := "loop.example/wardstaff/laws.FnCommitHide", spec := "fnCommitHide", inPlace := ["(*sync.WaitGroup).Add", "internal/race.ReleaseMerge", "internal/race.Disable", "internal/race.Enable", "internal/synctest.IsInBubble", "internal/synctest.Associate[sync.WaitGroup]", "sync.fatal", "sync/atomic.OrUint64", "sync/atomic.AddUint64", "internal/race.Read", "sync/atomic.LoadUint64", "sync/atomic.StoreUint64", "internal/synctest.Disassociate[sync.WaitGroup]", "sync.runtime_Semrelease", "(*sync.WaitGroup).Done", "(*sync.WaitGroup).Wait", "internal/race.Acquire", "internal/synctest.IsAssociated[sync.WaitGroup]", "sync/atomic.CompareAndSwapUint64", "internal/race.Write", "sync.runtime_SemacquireWaitGroup"], unfollowed := true, recurses := true, leaving := true, apart := false, narrowed := true }
def FnCommitHideUptoSaid : Prop := fnCommitHideUptoRow.holds Try.pinned (OpenSpec.upto fnCommitHideSpec)

/-- 'laws.FnCommitPow', WHERE WHAT IT READS IS OF BULK AT MOST 1048576: true; the input reads as it did. -/
def fnCommitPowUptoRow : OpenClaim := { program := "ytpdmolphmimomaa", sum := "91f8fbd25da2f28078ace673d492a70d2f5639a6782aea03fcf43cb6af2c7dfc", func := "loop.example/wardstaff/laws.FnCommitPow", spec := "fnCommitPow", inPlace := ["(*sync.WaitGroup).Add", "internal/race.ReleaseMerge", "internal/race.Disable", "internal/race.Enable", "internal/synctest.IsInBubble", "internal/synctest.Associate[sync.WaitGroup]", "sync.fatal", "sync/atomic.OrUint64", "sync/atomic.AddUint64", "internal/race.Read", "sync/atomic.LoadUint64", "sync/atomic.StoreUint64", "internal/synctest.Disassociate[sync.WaitGroup]", "sync.runtime_Semrelease", "(*sync.WaitGroup).Done", "(*sync.WaitGroup).Wait", "internal/race.Acquire", "internal/synctest.IsAssociated[sync.WaitGroup]", "sync/atomic.CompareAndSwapUint64", "internal/race.Write", "sync.runtime_SemacquireWaitGroup"], unfollowed := true, recurses := true, leaving := true, apart := false, narrowed := true }
def FnCommitPowUptoSaid : Prop := fnCommitPowUptoRow.holds Try.pinned (OpenSpec.upto fnCommitPowSpec)

/-- 'laws.FnExactCommitOf', WHERE WHAT IT READS IS OF BULK AT MOST 1048576: true; the input reads as it did. -/
def fnExactCommitOfUptoRow : OpenClaim := { program := "ytpdmolphmimomaa", sum := "91f8fbd25da2f28078ace673d492a70d2f5639a6782aea03fcf43cb6af2c7dfc", func := "loop.example/wardstaff/laws.FnExactCommitOf", spec := "fnExactCommitOf", inPlace := ["(*sync.WaitGroup).Add", "internal/race.ReleaseMerge", "internal/race.Disable", "internal/race.Enable", "internal/synctest.IsInBubble", "internal/synctest.Associate[sync.WaitGroup]", "sync.fatal", "sync/atomic.OrUint64", "sync/atomic.AddUint64", "internal/race.Read", "sync/atomic.LoadUint64", "sync/atomic.StoreUint64", "internal/synctest.Disassociate[sync.WaitGroup]", "sync.runtime_Semrelease", "(*sync.WaitGroup).Done", "(*sync.WaitGroup).Wait", "internal/race.Acquire", "internal/synctest.IsAssociated[sync.WaitGroup]", "sync/atomic.CompareAndSwapUint64", "internal/race.Write", "sync.runtime_SemacquireWaitGroup"], unfollowed := true, recurses := true, leaving := true, apart := false, narrowed := true }
def FnExactCommitOfUptoSaid : Prop := fnExactCommitOfUptoRow.holds Try.pinned (OpenSpec.upto fnExactCommitOfSpec)

/-- 'laws.FnExactCommitOk', WHERE WHAT IT READS IS OF BULK AT MOST 1048576: true; the input reads as it did. -/
def fnExactCommitOkUptoRow : OpenClaim := { program := "ytpdmolphmimomaa", sum := "91f8fbd25da2f28078ace673d492a70d2f5639a6782aea03fcf43cb6af2c7dfc", func := "loop.example/wardstaff/laws.FnExactCommitOk", spec := "fnExactCommitOk", unfollowed := true, recurses := true, leaving := true, apart := false, narrowed := true }
def FnExactCommitOkUptoSaid : Prop := fnExactCommitOkUptoRow.holds Try.pinned (OpenSpec.upto fnExactCommitOkSpec)

/-- 'laws.FnExactCommitAt', WHERE WHAT IT READS IS OF BULK AT MOST 1048576: true; the input reads as it did. -/
def fnExactCommitAtUptoRow : OpenClaim := { program := "ytpdmolphmimomaa", sum := "91f8fbd25da2f28078ace673d492a70d2f5639a6782aea03fcf43cb6af2c7dfc", func := "loop.example/wardstaff/laws.FnExactCommitAt", spec := "fnExactCommitAt", unfollowed := true, recurses := true, leaving := true, apart := false, narrowed := true }
def FnExactCommitAtUptoSaid : Prop := fnExactCommitAtUptoRow.holds Try.pinned (OpenSpec.upto fnExactCommitAtSpec)

/-- 'laws.FnExactCommitFits', WHERE WHAT IT READS IS OF BULK AT MOST 1048576: true; the input reads as it did. -/
def fnExactCommitFitsUptoRow : OpenClaim := { program := "ytpdmolphmimomaa", sum := "91f8fbd25da2f28078ace673d492a70d2f5639a6782aea03fcf43cb6af2c7dfc", func := "loop.example/wardstaff/laws.FnExactCommitFits", spec := "fnExactCommitFits", unfollowed := true, recurses := true, leaving := true, apart := false, narrowed := true }
def FnExactCommitFitsUptoSaid : Prop := fnExactCommitFitsUptoRow.holds Try.pinned (OpenSpec.upto fnExactCommitFitsSpec)

/-- 'laws.FnExactCommitSum', WHERE WHAT IT READS IS OF BULK AT MOST 1048576: true; the input reads as it did. -/
def fnExactCommitSumUptoRow : OpenClaim := { program := "ytpdmolphmimomaa", sum := "91f8fbd25da2f28078ace673d492a70d2f5639a6782aea03fcf43cb6af2c7dfc", func := "loop.example/wardstaff/laws.FnExactCommitSum", spec := "fnExactCommitSum", inPlace := ["(*sync.WaitGroup).Add", "internal/race.ReleaseMerge", "internal/race.Disable", "internal/race.Enable", "internal/synctest.IsInBubble", "internal/synctest.Associate[sync.WaitGroup]", "sync.fatal", "sync/atomic.OrUint64", "sync/atomic.AddUint64", "internal/race.Read", "sync/atomic.LoadUint64", "sync/atomic.StoreUint64", "internal/synctest.Disassociate[sync.WaitGroup]", "sync.runtime_Semrelease", "(*sync.WaitGroup).Done", "(*sync.WaitGroup).Wait", "internal/race.Acquire", "internal/synctest.IsAssociated[sync.WaitGroup]", "sync/atomic.CompareAndSwapUint64", "internal/race.Write", "sync.runtime_SemacquireWaitGroup"], unfollowed := true, recurses := true, leaving := true, apart := false, narrowed := true }
def FnExactCommitSumUptoSaid : Prop := fnExactCommitSumUptoRow.holds Try.pinned (OpenSpec.upto fnExactCommitSumSpec)

/-- 'laws.FnPlacesForm', WHERE WHAT IT READS IS OF BULK AT MOST 1048576: true; the input reads as it did. -/
def fnPlacesFormUptoRow : OpenClaim := { program := "ytpdmolphmimomaa", sum := "91f8fbd25da2f28078ace673d492a70d2f5639a6782aea03fcf43cb6af2c7dfc", func := "loop.example/wardstaff/laws.FnPlacesForm", spec := "fnPlacesForm", apart := false, narrowed := true }
def FnPlacesFormUptoSaid : Prop := fnPlacesFormUptoRow.holds Try.pinned (OpenSpec.upto fnPlacesFormSpec)

end Rows
end Go.Proofs.Ytpdmolphmimomaa
