/-
  No cell of these rows narrows 'for every input' (looked for: loops, veiled, ifaces, maps, wideKeys, modest, calm, conditions, laid).
  DERIVED. THE GIVEN ROWS OF THIS SEAT. 17 by the template 'for every input the law returns true; each argument reads behind the call as it read before'; 0 by the template 'total and deterministic' (their statements: YteibklnonlapoaaTotals.lean).
  GIVEN WITH THE SEED: the statements are not yours to turn. If you find one false, say at which input.
  Laid BY PROGRAM, IN A SANDBOX (cutbox-rows.mjs): the forced cells as the released guide's own fill.sh prints them over the translation 3b1e0683f7ed81f9… (all of the seat's roots in one cut). By AI agents, Wed Nov 11 2026. No macro, syntax, notation, axiom, sorry.
-/
import Derived.Test.YteibklnonlapoaaChecked
import GoSem.Claim
import GoSem.ClaimJoined
import GoSem.ClaimMapViews
import Derived.JoinedTies
import Derived.KernelRfl
namespace Go.Proofs.Yteibklnonlapoaa
/- THE CELL 'sum', in the pinned program and in every row, IS THE sha256 OF THE DUMP (.gsa) THAT YteibklnonlapoaaProg.lean LOADS. Nothing in Lean hashes anything: it is a label: what it is worth is what the hold of that sum in a sandbox is worth. -/
noncomputable def Try.pinned : Pinned := { name := "yteibklnonlapoaa", sum := "3b1e0683f7ed81f9eb8de9ca92d1316a1059f4bea1567ec371d5a85e20bfd7b7", checked := Try.checked }
namespace Rows
def none {H : Type} : Left H := { results := [], args := [] }

/-- 'laws.FnBookTake': WHATEVER THE INPUT: true; the input reads as it did. -/
def fnBookTakeSpec : ChangeSpec := { name := "fnBookTake", fn := fun _ => fun
  | [d] => { results := [.lit (.bool true)], args := [d] }
  | _ => none }
def fnBookTakeRow : OpenClaim := { program := "yteibklnonlapoaa", sum := "3b1e0683f7ed81f9eb8de9ca92d1316a1059f4bea1567ec371d5a85e20bfd7b7", func := "loop.example/wardstaff/laws.FnBookTake", spec := "fnBookTake", inPlace := ["(*internal/sync.Mutex).Lock", "internal/race.Disable", "sync/atomic.CompareAndSwapInt32", "internal/race.Enable", "internal/race.Acquire", "(*internal/sync.Mutex).lockSlow", "internal/sync.runtime_canSpin", "internal/sync.runtime_doSpin", "internal/sync.throw", "internal/sync.runtime_nanotime", "internal/sync.runtime_SemacquireMutex", "sync/atomic.AddInt32", "(*internal/sync.Mutex).Unlock", "internal/race.ReleaseMerge", "(*internal/sync.Mutex).unlockSlow", "internal/sync.fatal", "internal/sync.runtime_Semrelease"], apart := false }
def FnBookTakeSaid : Prop := fnBookTakeRow.holds Try.pinned (OpenSpec.ofChange fnBookTakeSpec)

/-- ITS FALSE NEIGHBOUR: 'it returns false'. Refute it at one input. -/
def fnBookTakeWrong : ChangeSpec := { name := "fnBookTake", fn := fun _ => fun
  | [d] => { results := [.lit (.bool false)], args := [d] }
  | _ => none }
def FnBookTakeWrongFalsely : Prop := fnBookTakeRow.holds Try.pinned (OpenSpec.ofChange fnBookTakeWrong)

/-- 'laws.FnBookKeep': WHATEVER THE INPUT: true; the input reads as it did. -/
def fnBookKeepSpec : ChangeSpec := { name := "fnBookKeep", fn := fun _ => fun
  | [d] => { results := [.lit (.bool true)], args := [d] }
  | _ => none }
def fnBookKeepRow : OpenClaim := { program := "yteibklnonlapoaa", sum := "3b1e0683f7ed81f9eb8de9ca92d1316a1059f4bea1567ec371d5a85e20bfd7b7", func := "loop.example/wardstaff/laws.FnBookKeep", spec := "fnBookKeep", inPlace := ["(*internal/sync.Mutex).Lock", "internal/race.Disable", "sync/atomic.CompareAndSwapInt32", "internal/race.Enable", "internal/race.Acquire", "(*internal/sync.Mutex).lockSlow", "internal/sync.runtime_canSpin", "internal/sync.runtime_doSpin", "internal/sync.throw", "internal/sync.runtime_nanotime", "internal/sync.runtime_SemacquireMutex", "sync/atomic.AddInt32", "(*internal/sync.Mutex).Unlock", "internal/race.ReleaseMerge", "(*internal/sync.Mutex).unlockSlow", "internal/sync.fatal", "internal/sync.runtime_Semrelease"], apart := false }
def FnBookKeepSaid : Prop := fnBookKeepRow.holds Try.pinned (OpenSpec.ofChange fnBookKeepSpec)

/-- ITS FALSE NEIGHBOUR: 'it returns false'. Refute it at one input. -/
def fnBookKeepWrong : ChangeSpec := { name := "fnBookKeep", fn := fun _ => fun
  | [d] => { results := [.lit (.bool false)], args := [d] }
  | _ => none }
def FnBookKeepWrongFalsely : Prop := fnBookKeepRow.holds Try.pinned (OpenSpec.ofChange fnBookKeepWrong)

/-- 'laws.FnBookFall': WHATEVER THE INPUT: true; the input reads as it did. -/
def fnBookFallSpec : ChangeSpec := { name := "fnBookFall", fn := fun _ => fun
  | [d] => { results := [.lit (.bool true)], args := [d] }
  | _ => none }
def fnBookFallRow : OpenClaim := { program := "yteibklnonlapoaa", sum := "3b1e0683f7ed81f9eb8de9ca92d1316a1059f4bea1567ec371d5a85e20bfd7b7", func := "loop.example/wardstaff/laws.FnBookFall", spec := "fnBookFall", inPlace := ["(*internal/sync.Mutex).Lock", "internal/race.Disable", "sync/atomic.CompareAndSwapInt32", "internal/race.Enable", "internal/race.Acquire", "(*internal/sync.Mutex).lockSlow", "internal/sync.runtime_canSpin", "internal/sync.runtime_doSpin", "internal/sync.throw", "internal/sync.runtime_nanotime", "internal/sync.runtime_SemacquireMutex", "sync/atomic.AddInt32", "(*internal/sync.Mutex).Unlock", "internal/race.ReleaseMerge", "(*internal/sync.Mutex).unlockSlow", "internal/sync.fatal", "internal/sync.runtime_Semrelease"], apart := false }
def FnBookFallSaid : Prop := fnBookFallRow.holds Try.pinned (OpenSpec.ofChange fnBookFallSpec)

/-- ITS FALSE NEIGHBOUR: 'it returns false'. Refute it at one input. -/
def fnBookFallWrong : ChangeSpec := { name := "fnBookFall", fn := fun _ => fun
  | [d] => { results := [.lit (.bool false)], args := [d] }
  | _ => none }
def FnBookFallWrongFalsely : Prop := fnBookFallRow.holds Try.pinned (OpenSpec.ofChange fnBookFallWrong)

/-- 'laws.FnBookOnce': WHATEVER THE INPUT: true; the input reads as it did. -/
def fnBookOnceSpec : ChangeSpec := { name := "fnBookOnce", fn := fun _ => fun
  | [d] => { results := [.lit (.bool true)], args := [d] }
  | _ => none }
def fnBookOnceRow : OpenClaim := { program := "yteibklnonlapoaa", sum := "3b1e0683f7ed81f9eb8de9ca92d1316a1059f4bea1567ec371d5a85e20bfd7b7", func := "loop.example/wardstaff/laws.FnBookOnce", spec := "fnBookOnce", inPlace := ["(*internal/sync.Mutex).Lock", "internal/race.Disable", "sync/atomic.CompareAndSwapInt32", "internal/race.Enable", "internal/race.Acquire", "(*internal/sync.Mutex).lockSlow", "internal/sync.runtime_canSpin", "internal/sync.runtime_doSpin", "internal/sync.throw", "internal/sync.runtime_nanotime", "internal/sync.runtime_SemacquireMutex", "sync/atomic.AddInt32", "(*internal/sync.Mutex).Unlock", "internal/race.ReleaseMerge", "(*internal/sync.Mutex).unlockSlow", "internal/sync.fatal", "internal/sync.runtime_Semrelease"], apart := false }
def FnBookOnceSaid : Prop := fnBookOnceRow.holds Try.pinned (OpenSpec.ofChange fnBookOnceSpec)

/-- ITS FALSE NEIGHBOUR: 'it returns false'. Refute it at one input. -/
def fnBookOnceWrong : ChangeSpec := { name := "fnBookOnce", fn := fun _ => fun
  | [d] => { results := [.lit (.bool false)], args := [d] }
  | _ => none }
def FnBookOnceWrongFalsely : Prop := fnBookOnceRow.holds Try.pinned (OpenSpec.ofChange fnBookOnceWrong)

/-- 'laws.FnBookCut': WHATEVER THE INPUT: true; the input reads as it did. -/
def fnBookCutSpec : ChangeSpec := { name := "fnBookCut", fn := fun _ => fun
  | [d] => { results := [.lit (.bool true)], args := [d] }
  | _ => none }
def fnBookCutRow : OpenClaim := { program := "yteibklnonlapoaa", sum := "3b1e0683f7ed81f9eb8de9ca92d1316a1059f4bea1567ec371d5a85e20bfd7b7", func := "loop.example/wardstaff/laws.FnBookCut", spec := "fnBookCut", inPlace := ["(*internal/sync.Mutex).Lock", "internal/race.Disable", "sync/atomic.CompareAndSwapInt32", "internal/race.Enable", "internal/race.Acquire", "(*internal/sync.Mutex).lockSlow", "internal/sync.runtime_canSpin", "internal/sync.runtime_doSpin", "internal/sync.throw", "internal/sync.runtime_nanotime", "internal/sync.runtime_SemacquireMutex", "sync/atomic.AddInt32", "(*internal/sync.Mutex).Unlock", "internal/race.ReleaseMerge", "(*internal/sync.Mutex).unlockSlow", "internal/sync.fatal", "internal/sync.runtime_Semrelease"], apart := false }
def FnBookCutSaid : Prop := fnBookCutRow.holds Try.pinned (OpenSpec.ofChange fnBookCutSpec)

/-- ITS FALSE NEIGHBOUR: 'it returns false'. Refute it at one input. -/
def fnBookCutWrong : ChangeSpec := { name := "fnBookCut", fn := fun _ => fun
  | [d] => { results := [.lit (.bool false)], args := [d] }
  | _ => none }
def FnBookCutWrongFalsely : Prop := fnBookCutRow.holds Try.pinned (OpenSpec.ofChange fnBookCutWrong)

/-- 'laws.FnBookForm': WHATEVER THE INPUT: true; the input reads as it did. -/
def fnBookFormSpec : ChangeSpec := { name := "fnBookForm", fn := fun _ => fun
  | [d] => { results := [.lit (.bool true)], args := [d] }
  | _ => none }
def fnBookFormRow : OpenClaim := { program := "yteibklnonlapoaa", sum := "3b1e0683f7ed81f9eb8de9ca92d1316a1059f4bea1567ec371d5a85e20bfd7b7", func := "loop.example/wardstaff/laws.FnBookForm", spec := "fnBookForm", apart := false }
def FnBookFormSaid : Prop := fnBookFormRow.holds Try.pinned (OpenSpec.ofChange fnBookFormSpec)

/-- ITS FALSE NEIGHBOUR: 'it returns false'. Refute it at one input. -/
def fnBookFormWrong : ChangeSpec := { name := "fnBookForm", fn := fun _ => fun
  | [d] => { results := [.lit (.bool false)], args := [d] }
  | _ => none }
def FnBookFormWrongFalsely : Prop := fnBookFormRow.holds Try.pinned (OpenSpec.ofChange fnBookFormWrong)

/-- 'laws.FnBookMany': WHATEVER THE INPUT: true; the input reads as it did. -/
def fnBookManySpec : ChangeSpec := { name := "fnBookMany", fn := fun _ => fun
  | [d] => { results := [.lit (.bool true)], args := [d] }
  | _ => none }
def fnBookManyRow : OpenClaim := { program := "yteibklnonlapoaa", sum := "3b1e0683f7ed81f9eb8de9ca92d1316a1059f4bea1567ec371d5a85e20bfd7b7", func := "loop.example/wardstaff/laws.FnBookMany", spec := "fnBookMany", inPlace := ["(*internal/sync.Mutex).Lock", "internal/race.Disable", "sync/atomic.CompareAndSwapInt32", "internal/race.Enable", "internal/race.Acquire", "(*internal/sync.Mutex).lockSlow", "internal/sync.runtime_canSpin", "internal/sync.runtime_doSpin", "internal/sync.throw", "internal/sync.runtime_nanotime", "internal/sync.runtime_SemacquireMutex", "sync/atomic.AddInt32", "(*internal/sync.Mutex).Unlock", "internal/race.ReleaseMerge", "(*internal/sync.Mutex).unlockSlow", "internal/sync.fatal", "internal/sync.runtime_Semrelease"], apart := false }
def FnBookManySaid : Prop := fnBookManyRow.holds Try.pinned (OpenSpec.ofChange fnBookManySpec)

/-- ITS FALSE NEIGHBOUR: 'it returns false'. Refute it at one input. -/
def fnBookManyWrong : ChangeSpec := { name := "fnBookMany", fn := fun _ => fun
  | [d] => { results := [.lit (.bool false)], args := [d] }
  | _ => none }
def FnBookManyWrongFalsely : Prop := fnBookManyRow.holds Try.pinned (OpenSpec.ofChange fnBookManyWrong)

/-- 'laws.FnBookLost': WHATEVER THE INPUT: true; the input reads as it did. -/
def fnBookLostSpec : ChangeSpec := { name := "fnBookLost", fn := fun _ => fun
  | [d] => { results := [.lit (.bool true)], args := [d] }
  | _ => none }
def fnBookLostRow : OpenClaim := { program := "yteibklnonlapoaa", sum := "3b1e0683f7ed81f9eb8de9ca92d1316a1059f4bea1567ec371d5a85e20bfd7b7", func := "loop.example/wardstaff/laws.FnBookLost", spec := "fnBookLost", inPlace := ["(*internal/sync.Mutex).Lock", "internal/race.Disable", "sync/atomic.CompareAndSwapInt32", "internal/race.Enable", "internal/race.Acquire", "(*internal/sync.Mutex).lockSlow", "internal/sync.runtime_canSpin", "internal/sync.runtime_doSpin", "internal/sync.throw", "internal/sync.runtime_nanotime", "internal/sync.runtime_SemacquireMutex", "sync/atomic.AddInt32", "(*internal/sync.Mutex).Unlock", "internal/race.ReleaseMerge", "(*internal/sync.Mutex).unlockSlow", "internal/sync.fatal", "internal/sync.runtime_Semrelease"], apart := false }
def FnBookLostSaid : Prop := fnBookLostRow.holds Try.pinned (OpenSpec.ofChange fnBookLostSpec)

/-- ITS FALSE NEIGHBOUR: 'it returns false'. Refute it at one input. -/
def fnBookLostWrong : ChangeSpec := { name := "fnBookLost", fn := fun _ => fun
  | [d] => { results := [.lit (.bool false)], args := [d] }
  | _ => none }
def FnBookLostWrongFalsely : Prop := fnBookLostRow.holds Try.pinned (OpenSpec.ofChange fnBookLostWrong)

/-- 'laws.FnBookPlayTake': WHATEVER THE INPUT: true; the input reads as it did. -/
def fnBookPlayTakeSpec : ChangeSpec := { name := "fnBookPlayTake", fn := fun _ => fun
  | [d] => { results := [.lit (.bool true)], args := [d] }
  | _ => none }
def fnBookPlayTakeRow : OpenClaim := { program := "yteibklnonlapoaa", sum := "3b1e0683f7ed81f9eb8de9ca92d1316a1059f4bea1567ec371d5a85e20bfd7b7", func := "loop.example/wardstaff/laws.FnBookPlayTake", spec := "fnBookPlayTake", inPlace := ["(*internal/sync.Mutex).Lock", "internal/race.Disable", "sync/atomic.CompareAndSwapInt32", "internal/race.Enable", "internal/race.Acquire", "(*internal/sync.Mutex).lockSlow", "internal/sync.runtime_canSpin", "internal/sync.runtime_doSpin", "internal/sync.throw", "internal/sync.runtime_nanotime", "internal/sync.runtime_SemacquireMutex", "sync/atomic.AddInt32", "(*internal/sync.Mutex).Unlock", "internal/race.ReleaseMerge", "(*internal/sync.Mutex).unlockSlow", "internal/sync.fatal", "internal/sync.runtime_Semrelease"], apart := false }
def FnBookPlayTakeSaid : Prop := fnBookPlayTakeRow.holds Try.pinned (OpenSpec.ofChange fnBookPlayTakeSpec)

/-- ITS FALSE NEIGHBOUR: 'it returns false'. Refute it at one input. -/
def fnBookPlayTakeWrong : ChangeSpec := { name := "fnBookPlayTake", fn := fun _ => fun
  | [d] => { results := [.lit (.bool false)], args := [d] }
  | _ => none }
def FnBookPlayTakeWrongFalsely : Prop := fnBookPlayTakeRow.holds Try.pinned (OpenSpec.ofChange fnBookPlayTakeWrong)

/-- 'laws.FnExactBookOk': WHATEVER THE INPUT: true; the input reads as it did. -/
def fnExactBookOkSpec : ChangeSpec := { name := "fnExactBookOk", fn := fun _ => fun
  | [d] => { results := [.lit (.bool true)], args := [d] }
  | _ => none }
def fnExactBookOkRow : OpenClaim := { program := "yteibklnonlapoaa", sum := "3b1e0683f7ed81f9eb8de9ca92d1316a1059f4bea1567ec371d5a85e20bfd7b7", func := "loop.example/wardstaff/laws.FnExactBookOk", spec := "fnExactBookOk", apart := false }
def FnExactBookOkSaid : Prop := fnExactBookOkRow.holds Try.pinned (OpenSpec.ofChange fnExactBookOkSpec)

/-- ITS FALSE NEIGHBOUR: 'it returns false'. Refute it at one input. -/
def fnExactBookOkWrong : ChangeSpec := { name := "fnExactBookOk", fn := fun _ => fun
  | [d] => { results := [.lit (.bool false)], args := [d] }
  | _ => none }
def FnExactBookOkWrongFalsely : Prop := fnExactBookOkRow.holds Try.pinned (OpenSpec.ofChange fnExactBookOkWrong)

/-- 'laws.FnExactBookKeep': WHATEVER THE INPUT: true; the input reads as it did. -/
def fnExactBookKeepSpec : ChangeSpec := { name := "fnExactBookKeep", fn := fun _ => fun
  | [d] => { results := [.lit (.bool true)], args := [d] }
  | _ => none }
def fnExactBookKeepRow : OpenClaim := { program := "yteibklnonlapoaa", sum := "3b1e0683f7ed81f9eb8de9ca92d1316a1059f4bea1567ec371d5a85e20bfd7b7", func := "loop.example/wardstaff/laws.FnExactBookKeep", spec := "fnExactBookKeep", inPlace := ["(*internal/sync.Mutex).Lock", "internal/race.Disable", "sync/atomic.CompareAndSwapInt32", "internal/race.Enable", "internal/race.Acquire", "(*internal/sync.Mutex).lockSlow", "internal/sync.runtime_canSpin", "internal/sync.runtime_doSpin", "internal/sync.throw", "internal/sync.runtime_nanotime", "internal/sync.runtime_SemacquireMutex", "sync/atomic.AddInt32", "(*internal/sync.Mutex).Unlock", "internal/race.ReleaseMerge", "(*internal/sync.Mutex).unlockSlow", "internal/sync.fatal", "internal/sync.runtime_Semrelease"], apart := false }
def FnExactBookKeepSaid : Prop := fnExactBookKeepRow.holds Try.pinned (OpenSpec.ofChange fnExactBookKeepSpec)

/-- ITS FALSE NEIGHBOUR: 'it returns false'. Refute it at one input. -/
def fnExactBookKeepWrong : ChangeSpec := { name := "fnExactBookKeep", fn := fun _ => fun
  | [d] => { results := [.lit (.bool false)], args := [d] }
  | _ => none }
def FnExactBookKeepWrongFalsely : Prop := fnExactBookKeepRow.holds Try.pinned (OpenSpec.ofChange fnExactBookKeepWrong)

/-- 'laws.FnExactBookTake': WHATEVER THE INPUT: true; the input reads as it did. -/
def fnExactBookTakeSpec : ChangeSpec := { name := "fnExactBookTake", fn := fun _ => fun
  | [d] => { results := [.lit (.bool true)], args := [d] }
  | _ => none }
def fnExactBookTakeRow : OpenClaim := { program := "yteibklnonlapoaa", sum := "3b1e0683f7ed81f9eb8de9ca92d1316a1059f4bea1567ec371d5a85e20bfd7b7", func := "loop.example/wardstaff/laws.FnExactBookTake", spec := "fnExactBookTake", inPlace := ["(*internal/sync.Mutex).Lock", "internal/race.Disable", "sync/atomic.CompareAndSwapInt32", "internal/race.Enable", "internal/race.Acquire", "(*internal/sync.Mutex).lockSlow", "internal/sync.runtime_canSpin", "internal/sync.runtime_doSpin", "internal/sync.throw", "internal/sync.runtime_nanotime", "internal/sync.runtime_SemacquireMutex", "sync/atomic.AddInt32", "(*internal/sync.Mutex).Unlock", "internal/race.ReleaseMerge", "(*internal/sync.Mutex).unlockSlow", "internal/sync.fatal", "internal/sync.runtime_Semrelease"], apart := false }
def FnExactBookTakeSaid : Prop := fnExactBookTakeRow.holds Try.pinned (OpenSpec.ofChange fnExactBookTakeSpec)

/-- ITS FALSE NEIGHBOUR: 'it returns false'. Refute it at one input. -/
def fnExactBookTakeWrong : ChangeSpec := { name := "fnExactBookTake", fn := fun _ => fun
  | [d] => { results := [.lit (.bool false)], args := [d] }
  | _ => none }
def FnExactBookTakeWrongFalsely : Prop := fnExactBookTakeRow.holds Try.pinned (OpenSpec.ofChange fnExactBookTakeWrong)

/-- 'laws.FnExactBookFall': WHATEVER THE INPUT: true; the input reads as it did. -/
def fnExactBookFallSpec : ChangeSpec := { name := "fnExactBookFall", fn := fun _ => fun
  | [d] => { results := [.lit (.bool true)], args := [d] }
  | _ => none }
def fnExactBookFallRow : OpenClaim := { program := "yteibklnonlapoaa", sum := "3b1e0683f7ed81f9eb8de9ca92d1316a1059f4bea1567ec371d5a85e20bfd7b7", func := "loop.example/wardstaff/laws.FnExactBookFall", spec := "fnExactBookFall", inPlace := ["(*internal/sync.Mutex).Lock", "internal/race.Disable", "sync/atomic.CompareAndSwapInt32", "internal/race.Enable", "internal/race.Acquire", "(*internal/sync.Mutex).lockSlow", "internal/sync.runtime_canSpin", "internal/sync.runtime_doSpin", "internal/sync.throw", "internal/sync.runtime_nanotime", "internal/sync.runtime_SemacquireMutex", "sync/atomic.AddInt32", "(*internal/sync.Mutex).Unlock", "internal/race.ReleaseMerge", "(*internal/sync.Mutex).unlockSlow", "internal/sync.fatal", "internal/sync.runtime_Semrelease"], apart := false }
def FnExactBookFallSaid : Prop := fnExactBookFallRow.holds Try.pinned (OpenSpec.ofChange fnExactBookFallSpec)

/-- ITS FALSE NEIGHBOUR: 'it returns false'. Refute it at one input. -/
def fnExactBookFallWrong : ChangeSpec := { name := "fnExactBookFall", fn := fun _ => fun
  | [d] => { results := [.lit (.bool false)], args := [d] }
  | _ => none }
def FnExactBookFallWrongFalsely : Prop := fnExactBookFallRow.holds Try.pinned (OpenSpec.ofChange fnExactBookFallWrong)

/-- 'laws.FnExactBookPlay': WHATEVER THE INPUT: true; the input reads as it did. -/
def fnExactBookPlaySpec : ChangeSpec := { name := "fnExactBookPlay", fn := fun _ => fun
  | [d] => { results := [.lit (.bool true)], args := [d] }
  | _ => none }
def fnExactBookPlayRow : OpenClaim := { program := "yteibklnonlapoaa", sum := "3b1e0683f7ed81f9eb8de9ca92d1316a1059f4bea1567ec371d5a85e20bfd7b7", func := "loop.example/wardstaff/laws.FnExactBookPlay", spec := "fnExactBookPlay", inPlace := ["(*internal/sync.Mutex).Lock", "internal/race.Disable", "sync/atomic.CompareAndSwapInt32", "internal/race.Enable", "internal/race.Acquire", "(*internal/sync.Mutex).lockSlow", "internal/sync.runtime_canSpin", "internal/sync.runtime_doSpin", "internal/sync.throw", "internal/sync.runtime_nanotime", "internal/sync.runtime_SemacquireMutex", "sync/atomic.AddInt32", "(*internal/sync.Mutex).Unlock", "internal/race.ReleaseMerge", "(*internal/sync.Mutex).unlockSlow", "internal/sync.fatal", "internal/sync.runtime_Semrelease"], apart := false }
def FnExactBookPlaySaid : Prop := fnExactBookPlayRow.holds Try.pinned (OpenSpec.ofChange fnExactBookPlaySpec)

/-- ITS FALSE NEIGHBOUR: 'it returns false'. Refute it at one input. -/
def fnExactBookPlayWrong : ChangeSpec := { name := "fnExactBookPlay", fn := fun _ => fun
  | [d] => { results := [.lit (.bool false)], args := [d] }
  | _ => none }
def FnExactBookPlayWrongFalsely : Prop := fnExactBookPlayRow.holds Try.pinned (OpenSpec.ofChange fnExactBookPlayWrong)

/-- 'laws.FnSessionForm': WHATEVER THE INPUT: true; the input reads as it did. -/
def fnSessionFormSpec : ChangeSpec := { name := "fnSessionForm", fn := fun _ => fun
  | [d] => { results := [.lit (.bool true)], args := [d] }
  | _ => none }
def fnSessionFormRow : OpenClaim := { program := "yteibklnonlapoaa", sum := "3b1e0683f7ed81f9eb8de9ca92d1316a1059f4bea1567ec371d5a85e20bfd7b7", func := "loop.example/wardstaff/laws.FnSessionForm", spec := "fnSessionForm", unfollowed := true, recurses := true, apart := false }
def FnSessionFormSaid : Prop := fnSessionFormRow.holds Try.pinned (OpenSpec.ofChange fnSessionFormSpec)

/-- ITS FALSE NEIGHBOUR: 'it returns false'. Refute it at one input. -/
def fnSessionFormWrong : ChangeSpec := { name := "fnSessionForm", fn := fun _ => fun
  | [d] => { results := [.lit (.bool false)], args := [d] }
  | _ => none }
def FnSessionFormWrongFalsely : Prop := fnSessionFormRow.holds Try.pinned (OpenSpec.ofChange fnSessionFormWrong)

/-- 'laws.FnExactSessionNew': WHATEVER THE INPUT: true; the input reads as it did. -/
def fnExactSessionNewSpec : ChangeSpec := { name := "fnExactSessionNew", fn := fun _ => fun
  | [d1, d2, d3, d4] => { results := [.lit (.bool true)], args := [d1, d2, d3, d4] }
  | _ => none }
def fnExactSessionNewRow : OpenClaim := { program := "yteibklnonlapoaa", sum := "3b1e0683f7ed81f9eb8de9ca92d1316a1059f4bea1567ec371d5a85e20bfd7b7", func := "loop.example/wardstaff/laws.FnExactSessionNew", spec := "fnExactSessionNew", unfollowed := true, recurses := true, apart := false }
def FnExactSessionNewSaid : Prop := fnExactSessionNewRow.holds Try.pinned (OpenSpec.ofChange fnExactSessionNewSpec)

/-- ITS FALSE NEIGHBOUR: 'it returns false'. Refute it at one input. -/
def fnExactSessionNewWrong : ChangeSpec := { name := "fnExactSessionNew", fn := fun _ => fun
  | [d1, d2, d3, d4] => { results := [.lit (.bool false)], args := [d1, d2, d3, d4] }
  | _ => none }
def FnExactSessionNewWrongFalsely : Prop := fnExactSessionNewRow.holds Try.pinned (OpenSpec.ofChange fnExactSessionNewWrong)

/-- 'laws.FnExactSessionPut': WHATEVER THE INPUT: true; the input reads as it did. -/
def fnExactSessionPutSpec : ChangeSpec := { name := "fnExactSessionPut", fn := fun _ => fun
  | [d1, d2, d3] => { results := [.lit (.bool true)], args := [d1, d2, d3] }
  | _ => none }
def fnExactSessionPutRow : OpenClaim := { program := "yteibklnonlapoaa", sum := "3b1e0683f7ed81f9eb8de9ca92d1316a1059f4bea1567ec371d5a85e20bfd7b7", func := "loop.example/wardstaff/laws.FnExactSessionPut", spec := "fnExactSessionPut", unfollowed := true, recurses := true, apart := false }
def FnExactSessionPutSaid : Prop := fnExactSessionPutRow.holds Try.pinned (OpenSpec.ofChange fnExactSessionPutSpec)

/-- ITS FALSE NEIGHBOUR: 'it returns false'. Refute it at one input. -/
def fnExactSessionPutWrong : ChangeSpec := { name := "fnExactSessionPut", fn := fun _ => fun
  | [d1, d2, d3] => { results := [.lit (.bool false)], args := [d1, d2, d3] }
  | _ => none }
def FnExactSessionPutWrongFalsely : Prop := fnExactSessionPutRow.holds Try.pinned (OpenSpec.ofChange fnExactSessionPutWrong)

/- THE SECOND FORM. 'bulk': how many values and letters a reading holds, each counted each time it is reached (what is shared counts as often as it is met; a slice's spare places count too). A statement '..UptoSaid' is the law's where the arguments, and the package variables that the reading takes, are together of bulk at most 1048576: NARROWER than '..Said'. Prove '..Said' where nothing that the law and all that it calls make is longer than what came in: it says more and counts as full. Else prove '..UptoSaid'. A law counts once. -/
mutual
def uptoBulk {H : Type} : DataW H → Nat
  | .lit (.string bytes) => bytes.length + 1
  | .lit _ => 1
  | .nil => 1
  | .ptr d => uptoBulk d + 1
  | .slice elems spare => uptoBulkAll elems + uptoBulkAll spare + 1
  | .agg parts => uptoBulkAll parts + 1
  | .iface _ d => uptoBulk d + 1
  | .map entries => uptoBulkEntries entries + 1
  | .held _ => 1
def uptoBulkAll {H : Type} : List (DataW H) → Nat
  | [] => 0
  | d :: r => uptoBulk d + uptoBulkAll r
def uptoBulkEntries {H : Type} : List (Lit × DataW H) → Nat
  | [] => 0
  | x :: r => uptoBulkEntry x + uptoBulkEntries r
def uptoBulkEntry {H : Type} : Lit × DataW H → Nat
  | (.string bytes, d) => bytes.length + uptoBulk d + 1
  | (_, d) => uptoBulk d + 1
 end
def uptoSmall : (H : Type) → List (DataW H) → Bool := fun _ ds => decide (uptoBulkAll ds ≤ 1048576)
def OpenSpec.upto (s : _root_.Go.ChangeSpec) : _root_.Go.OpenSpec := { _root_.Go.OpenSpec.ofChange s with cond := some uptoSmall }

/-- 'laws.FnBookTake', WHERE WHAT IT READS IS OF BULK AT MOST 1048576: true; the input reads as it did. -/
def fnBookTakeUptoRow : OpenClaim := { program := "yteibklnonlapoaa", sum := "3b1e0683f7ed81f9eb8de9ca92d1316a1059f4bea1567ec371d5a85e20bfd7b7", func := "loop.example/wardstaff/laws.FnBookTake", spec := "fnBookTake", inPlace := ["(*internal/sync.Mutex).Lock", "internal/race.Disable", "sync/atomic.CompareAndSwapInt32", "internal/race.Enable", "internal/race.Acquire", "(*internal/sync.Mutex).lockSlow", "internal/sync.runtime_canSpin", "internal/sync.runtime_doSpin", "internal/sync.throw", "internal/sync.runtime_nanotime", "internal/sync.runtime_SemacquireMutex", "sync/atomic.AddInt32", "(*internal/sync.Mutex).Unlock", "internal/race.ReleaseMerge", "(*internal/sync.Mutex).unlockSlow", "internal/sync.fatal", "internal/sync.runtime_Semrelease"], apart := false, narrowed := true }
def FnBookTakeUptoSaid : Prop := fnBookTakeUptoRow.holds Try.pinned (OpenSpec.upto fnBookTakeSpec)

/-- 'laws.FnBookKeep', WHERE WHAT IT READS IS OF BULK AT MOST 1048576: true; the input reads as it did. -/
def fnBookKeepUptoRow : OpenClaim := { program := "yteibklnonlapoaa", sum := "3b1e0683f7ed81f9eb8de9ca92d1316a1059f4bea1567ec371d5a85e20bfd7b7", func := "loop.example/wardstaff/laws.FnBookKeep", spec := "fnBookKeep", inPlace := ["(*internal/sync.Mutex).Lock", "internal/race.Disable", "sync/atomic.CompareAndSwapInt32", "internal/race.Enable", "internal/race.Acquire", "(*internal/sync.Mutex).lockSlow", "internal/sync.runtime_canSpin", "internal/sync.runtime_doSpin", "internal/sync.throw", "internal/sync.runtime_nanotime", "internal/sync.runtime_SemacquireMutex", "sync/atomic.AddInt32", "(*internal/sync.Mutex).Unlock", "internal/race.ReleaseMerge", "(*internal/sync.Mutex).unlockSlow", "internal/sync.fatal", "internal/sync.runtime_Semrelease"], apart := false, narrowed := true }
def FnBookKeepUptoSaid : Prop := fnBookKeepUptoRow.holds Try.pinned (OpenSpec.upto fnBookKeepSpec)

/-- 'laws.FnBookFall', WHERE WHAT IT READS IS OF BULK AT MOST 1048576: true; the input reads as it did. -/
def fnBookFallUptoRow : OpenClaim := { program := "yteibklnonlapoaa", sum := "3b1e0683f7ed81f9eb8de9ca92d1316a1059f4bea1567ec371d5a85e20bfd7b7", func := "loop.example/wardstaff/laws.FnBookFall", spec := "fnBookFall", inPlace := ["(*internal/sync.Mutex).Lock", "internal/race.Disable", "sync/atomic.CompareAndSwapInt32", "internal/race.Enable", "internal/race.Acquire", "(*internal/sync.Mutex).lockSlow", "internal/sync.runtime_canSpin", "internal/sync.runtime_doSpin", "internal/sync.throw", "internal/sync.runtime_nanotime", "internal/sync.runtime_SemacquireMutex", "sync/atomic.AddInt32", "(*internal/sync.Mutex).Unlock", "internal/race.ReleaseMerge", "(*internal/sync.Mutex).unlockSlow", "internal/sync.fatal", "internal/sync.runtime_Semrelease"], apart := false, narrowed := true }
def FnBookFallUptoSaid : Prop := fnBookFallUptoRow.holds Try.pinned (OpenSpec.upto fnBookFallSpec)

/-- 'laws.FnBookOnce', WHERE WHAT IT READS IS OF BULK AT MOST 1048576: true; the input reads as it did. -/
def fnBookOnceUptoRow : OpenClaim := { program := "yteibklnonlapoaa", sum := "3b1e0683f7ed81f9eb8de9ca92d1316a1059f4bea1567ec371d5a85e20bfd7b7", func := "loop.example/wardstaff/laws.FnBookOnce", spec := "fnBookOnce", inPlace := ["(*internal/sync.Mutex).Lock", "internal/race.Disable", "sync/atomic.CompareAndSwapInt32", "internal/race.Enable", "internal/race.Acquire", "(*internal/sync.Mutex).lockSlow", "internal/sync.runtime_canSpin", "internal/sync.runtime_doSpin", "internal/sync.throw", "internal/sync.runtime_nanotime", "internal/sync.runtime_SemacquireMutex", "sync/atomic.AddInt32", "(*internal/sync.Mutex).Unlock", "internal/race.ReleaseMerge", "(*internal/sync.Mutex).unlockSlow", "internal/sync.fatal", "internal/sync.runtime_Semrelease"], apart := false, narrowed := true }
def FnBookOnceUptoSaid : Prop := fnBookOnceUptoRow.holds Try.pinned (OpenSpec.upto fnBookOnceSpec)

/-- 'laws.FnBookCut', WHERE WHAT IT READS IS OF BULK AT MOST 1048576: true; the input reads as it did. -/
def fnBookCutUptoRow : OpenClaim := { program := "yteibklnonlapoaa", sum := "3b1e0683f7ed81f9eb8de9ca92d1316a1059f4bea1567ec371d5a85e20bfd7b7", func := "loop.example/wardstaff/laws.FnBookCut", spec := "fnBookCut", inPlace := ["(*internal/sync.Mutex).Lock", "internal/race.Disable", "sync/atomic.CompareAndSwapInt32", "internal/race.Enable", "internal/race.Acquire", "(*internal/sync.Mutex).lockSlow", "internal/sync.runtime_canSpin", "internal/sync.runtime_doSpin", "internal/sync.throw", "internal/sync.runtime_nanotime", "internal/sync.runtime_SemacquireMutex", "sync/atomic.AddInt32", "(*internal/sync.Mutex).Unlock", "internal/race.ReleaseMerge", "(*internal/sync.Mutex).unlockSlow", "internal/sync.fatal", "internal/sync.runtime_Semrelease"], apart := false, narrowed := true }
def FnBookCutUptoSaid : Prop := fnBookCutUptoRow.holds Try.pinned (OpenSpec.upto fnBookCutSpec)

/-- 'laws.FnBookForm', WHERE WHAT IT READS IS OF BULK AT MOST 1048576: true; the input reads as it did. -/
def fnBookFormUptoRow : OpenClaim := { program := "yteibklnonlapoaa", sum := "3b1e0683f7ed81f9eb8de9ca92d1316a1059f4bea1567ec371d5a85e20bfd7b7", func := "loop.example/wardstaff/laws.FnBookForm", spec := "fnBookForm", apart := false, narrowed := true }
def FnBookFormUptoSaid : Prop := fnBookFormUptoRow.holds Try.pinned (OpenSpec.upto fnBookFormSpec)

/-- 'laws.FnBookMany', WHERE WHAT IT READS IS OF BULK AT MOST 1048576: true; the input reads as it did. -/
def fnBookManyUptoRow : OpenClaim := { program := "yteibklnonlapoaa", sum := "3b1e0683f7ed81f9eb8de9ca92d1316a1059f4bea1567ec371d5a85e20bfd7b7", func := "loop.example/wardstaff/laws.FnBookMany", spec := "fnBookMany", inPlace := ["(*internal/sync.Mutex).Lock", "internal/race.Disable", "sync/atomic.CompareAndSwapInt32", "internal/race.Enable", "internal/race.Acquire", "(*internal/sync.Mutex).lockSlow", "internal/sync.runtime_canSpin", "internal/sync.runtime_doSpin", "internal/sync.throw", "internal/sync.runtime_nanotime", "internal/sync.runtime_SemacquireMutex", "sync/atomic.AddInt32", "(*internal/sync.Mutex).Unlock", "internal/race.ReleaseMerge", "(*internal/sync.Mutex).unlockSlow", "internal/sync.fatal", "internal/sync.runtime_Semrelease"], apart := false, narrowed := true }
def FnBookManyUptoSaid : Prop := fnBookManyUptoRow.holds Try.pinned (OpenSpec.upto fnBookManySpec)

/-- 'laws.FnBookLost', WHERE WHAT IT READS IS OF BULK AT MOST 1048576: true; the input reads as it did. -/
def fnBookLostUptoRow : OpenClaim := { program := "yteibklnonlapoaa", sum := "3b1e0683f7ed81f9eb8de9ca92d1316a1059f4bea1567ec371d5a85e20bfd7b7", func := "loop.example/wardstaff/laws.FnBookLost", spec := "fnBookLost", inPlace := ["(*internal/sync.Mutex).Lock", "internal/race.Disable", "sync/atomic.CompareAndSwapInt32", "internal/race.Enable", "internal/race.Acquire", "(*internal/sync.Mutex).lockSlow", "internal/sync.runtime_canSpin", "internal/sync.runtime_doSpin", "internal/sync.throw", "internal/sync.runtime_nanotime", "internal/sync.runtime_SemacquireMutex", "sync/atomic.AddInt32", "(*internal/sync.Mutex).Unlock", "internal/race.ReleaseMerge", "(*internal/sync.Mutex).unlockSlow", "internal/sync.fatal", "internal/sync.runtime_Semrelease"], apart := false, narrowed := true }
def FnBookLostUptoSaid : Prop := fnBookLostUptoRow.holds Try.pinned (OpenSpec.upto fnBookLostSpec)

/-- 'laws.FnBookPlayTake', WHERE WHAT IT READS IS OF BULK AT MOST 1048576: true; the input reads as it did. -/
def fnBookPlayTakeUptoRow : OpenClaim := { program := "yteibklnonlapoaa", sum := "3b1e0683f7ed81f9eb8de9ca92d1316a1059f4bea1567ec371d5a85e20bfd7b7", func := "loop.example/wardstaff/laws.FnBookPlayTake", spec := "fnBookPlayTake", inPlace := ["(*internal/sync.Mutex).Lock", "internal/race.Disable", "sync/atomic.CompareAndSwapInt32", "internal/race.Enable", "internal/race.Acquire", "(*internal/sync.Mutex).lockSlow", "internal/sync.runtime_canSpin", "internal/sync.runtime_doSpin", "internal/sync.throw", "internal/sync.runtime_nanotime", "internal/sync.runtime_SemacquireMutex", "sync/atomic.AddInt32", "(*internal/sync.Mutex).Unlock", "internal/race.ReleaseMerge", "(*internal/sync.Mutex).unlockSlow", "internal/sync.fatal", "internal/sync.runtime_Semrelease"], apart := false, narrowed := true }
def FnBookPlayTakeUptoSaid : Prop := fnBookPlayTakeUptoRow.holds Try.pinned (OpenSpec.upto fnBookPlayTakeSpec)

/-- 'laws.FnExactBookOk', WHERE WHAT IT READS IS OF BULK AT MOST 1048576: true; the input reads as it did. -/
def fnExactBookOkUptoRow : OpenClaim := { program := "yteibklnonlapoaa", sum := "3b1e0683f7ed81f9eb8de9ca92d1316a1059f4bea1567ec371d5a85e20bfd7b7", func := "loop.example/wardstaff/laws.FnExactBookOk", spec := "fnExactBookOk", apart := false, narrowed := true }
def FnExactBookOkUptoSaid : Prop := fnExactBookOkUptoRow.holds Try.pinned (OpenSpec.upto fnExactBookOkSpec)

/-- 'laws.FnExactBookKeep', WHERE WHAT IT READS IS OF BULK AT MOST 1048576: true; the input reads as it did. -/
def fnExactBookKeepUptoRow : OpenClaim := { program := "yteibklnonlapoaa", sum := "3b1e0683f7ed81f9eb8de9ca92d1316a1059f4bea1567ec371d5a85e20bfd7b7", func := "loop.example/wardstaff/laws.FnExactBookKeep", spec := "fnExactBookKeep", inPlace := ["(*internal/sync.Mutex).Lock", "internal/race.Disable", "sync/atomic.CompareAndSwapInt32", "internal/race.Enable", "internal/race.Acquire", "(*internal/sync.Mutex).lockSlow", "internal/sync.runtime_canSpin", "internal/sync.runtime_doSpin", "internal/sync.throw", "internal/sync.runtime_nanotime", "internal/sync.runtime_SemacquireMutex", "sync/atomic.AddInt32", "(*internal/sync.Mutex).Unlock", "internal/race.ReleaseMerge", "(*internal/sync.Mutex).unlockSlow", "internal/sync.fatal", "internal/sync.runtime_Semrelease"], apart := false, narrowed := true }
def FnExactBookKeepUptoSaid : Prop := fnExactBookKeepUptoRow.holds Try.pinned (OpenSpec.upto fnExactBookKeepSpec)

/-- 'laws.FnExactBookTake', WHERE WHAT IT READS IS OF BULK AT MOST 1048576: true; the input reads as it did. -/
def fnExactBookTakeUptoRow : OpenClaim := { program := "yteibklnonlapoaa", sum := "3b1e0683f7ed81f9eb8de9ca92d1316a1059f4bea1567ec371d5a85e20bfd7b7", func := "loop.example/wardstaff/laws.FnExactBookTake", spec := "fnExactBookTake", inPlace := ["(*internal/sync.Mutex).Lock", "internal/race.Disable", "sync/atomic.CompareAndSwapInt32", "internal/race.Enable", "internal/race.Acquire", "(*internal/sync.Mutex).lockSlow", "internal/sync.runtime_canSpin", "internal/sync.runtime_doSpin", "internal/sync.throw", "internal/sync.runtime_nanotime", "internal/sync.runtime_SemacquireMutex", "sync/atomic.AddInt32", "(*internal/sync.Mutex).Unlock", "internal/race.ReleaseMerge", "(*internal/sync.Mutex).unlockSlow", "internal/sync.fatal", "internal/sync.runtime_Semrelease"], apart := false, narrowed := true }
def FnExactBookTakeUptoSaid : Prop := fnExactBookTakeUptoRow.holds Try.pinned (OpenSpec.upto fnExactBookTakeSpec)

/-- 'laws.FnExactBookFall', WHERE WHAT IT READS IS OF BULK AT MOST 1048576: true; the input reads as it did. -/
def fnExactBookFallUptoRow : OpenClaim := { program := "yteibklnonlapoaa", sum := "3b1e0683f7ed81f9eb8de9ca92d1316a1059f4bea1567ec371d5a85e20bfd7b7", func := "loop.example/wardstaff/laws.FnExactBookFall", spec := "fnExactBookFall", inPlace := ["(*internal/sync.Mutex).Lock", "internal/race.Disable", "sync/atomic.CompareAndSwapInt32", "internal/race.Enable", "internal/race.Acquire", "(*internal/sync.Mutex).lockSlow", "internal/sync.runtime_canSpin", "internal/sync.runtime_doSpin", "internal/sync.throw", "internal/sync.runtime_nanotime", "internal/sync.runtime_SemacquireMutex", "sync/atomic.AddInt32", "(*internal/sync.Mutex).Unlock", "internal/race.ReleaseMerge", "(*internal/sync.Mutex).unlockSlow", "internal/sync.fatal", "internal/sync.runtime_Semrelease"], apart := false, narrowed := true }
def FnExactBookFallUptoSaid : Prop := fnExactBookFallUptoRow.holds Try.pinned (OpenSpec.upto fnExactBookFallSpec)

/-- 'laws.FnExactBookPlay', WHERE WHAT IT READS IS OF BULK AT MOST 1048576: true; the input reads as it did. -/
def fnExactBookPlayUptoRow : OpenClaim := { program := "yteibklnonlapoaa", sum := "3b1e0683f7ed81f9eb8de9ca92d1316a1059f4bea1567ec371d5a85e20bfd7b7", func := "loop.example/wardstaff/laws.FnExactBookPlay", spec := "fnExactBookPlay", inPlace := ["(*internal/sync.Mutex).Lock", "internal/race.Disable", "sync/atomic.CompareAndSwapInt32", "internal/race.Enable", "internal/race.Acquire", "(*internal/sync.Mutex).lockSlow", "internal/sync.runtime_canSpin", "internal/sync.runtime_doSpin", "internal/sync.throw", "internal/sync.runtime_nanotime", "internal/sync.runtime_SemacquireMutex", "sync/atomic.AddInt32", "(*internal/sync.Mutex).Unlock", "internal/race.ReleaseMerge", "(*internal/sync.Mutex).unlockSlow", "internal/sync.fatal", "internal/sync.runtime_Semrelease"], apart := false, narrowed := true }
def FnExactBookPlayUptoSaid : Prop := fnExactBookPlayUptoRow.holds Try.pinned (OpenSpec.upto fnExactBookPlaySpec)

/-- 'laws.FnSessionForm', WHERE WHAT IT READS IS OF BULK AT MOST 1048576: true; the input reads as it did. -/
def fnSessionFormUptoRow : OpenClaim := { program := "yteibklnonlapoaa", sum := "3b1e0683f7ed81f9eb8de9ca92d1316a1059f4bea1567ec371d5a85e20bfd7b7", func := "loop.example/wardstaff/laws.FnSessionForm", spec := "fnSessionForm", unfollowed := true, recurses := true, apart := false, narrowed := true }
def FnSessionFormUptoSaid : Prop := fnSessionFormUptoRow.holds Try.pinned (OpenSpec.upto fnSessionFormSpec)

/-- 'laws.FnExactSessionNew', WHERE WHAT IT READS IS OF BULK AT MOST 1048576: true; the input reads as it did. -/
def fnExactSessionNewUptoRow : OpenClaim := { program := "yteibklnonlapoaa", sum := "3b1e0683f7ed81f9eb8de9ca92d1316a1059f4bea1567ec371d5a85e20bfd7b7", func := "loop.example/wardstaff/laws.FnExactSessionNew", spec := "fnExactSessionNew", unfollowed := true, recurses := true, apart := false, narrowed := true }
def FnExactSessionNewUptoSaid : Prop := fnExactSessionNewUptoRow.holds Try.pinned (OpenSpec.upto fnExactSessionNewSpec)

/-- 'laws.FnExactSessionPut', WHERE WHAT IT READS IS OF BULK AT MOST 1048576: true; the input reads as it did. -/
def fnExactSessionPutUptoRow : OpenClaim := { program := "yteibklnonlapoaa", sum := "3b1e0683f7ed81f9eb8de9ca92d1316a1059f4bea1567ec371d5a85e20bfd7b7", func := "loop.example/wardstaff/laws.FnExactSessionPut", spec := "fnExactSessionPut", unfollowed := true, recurses := true, apart := false, narrowed := true }
def FnExactSessionPutUptoSaid : Prop := fnExactSessionPutUptoRow.holds Try.pinned (OpenSpec.upto fnExactSessionPutSpec)

end Rows
end Go.Proofs.Yteibklnonlapoaa
