/-
  The library's mutex as this program holds it: its contracts hold of it.
-/
import Derived.Test.YteibklnonlapoaaChecked
import Derived.Conc.MuLone
import Derived.KernelRfl
namespace Go.Proofs.Yteibklnonlapoaa
namespace Con
set_option linter.unusedVariables false
abbrev muLink : Go.Conc.Locks.MuLink := { lock := 93, unlock := 94, ilock := 115, iunlock := 116, lockSlow := 129, unlockSlow := 132, disable := 125, enable := 127, acquire := 128, relMerge := 130, cas32 := 126, add32 := 131, tMutex := 92, tIMutex := 90, tPMutex := 127, tPIMutex := 137, tPI32 := 139, tUP := 141, tNoCopy := 87, tU32 := 88 }
theorem muLib : Go.Conc.Locks.MuLib Try.prog muLink :=
  ⟨Try.func93, Try.func94, Try.func115, Try.func116, Try.func125, Try.func127, Try.func128, Try.func130, Try.func126, Try.func131,
    Try.underlying90, Try.runUnderlying90, Try.sizeOf90, Try.isAgg90, Try.zeroValue90, Try.underlying92, Try.runUnderlying92, Try.sizeOf92, Try.isAgg92, Try.zeroValue92, Try.underlying127, Try.runUnderlying127, Try.sizeOf127, Try.isAgg127, Try.zeroValue127, Try.underlying137, Try.runUnderlying137, Try.sizeOf137, Try.isAgg137, Try.zeroValue137, Try.underlying139, Try.runUnderlying139, Try.sizeOf139, Try.isAgg139, Try.zeroValue139, Try.underlying141, Try.runUnderlying141, Try.sizeOf141, Try.isAgg141, Try.zeroValue141, Try.underlying87, Try.runUnderlying87, Try.sizeOf87, Try.isAgg87, Try.zeroValue87, Try.underlying21, Try.runUnderlying21, Try.sizeOf21, Try.isAgg21, Try.zeroValue21, (by kernel_rfl)⟩
end Con
end Go.Proofs.Yteibklnonlapoaa
