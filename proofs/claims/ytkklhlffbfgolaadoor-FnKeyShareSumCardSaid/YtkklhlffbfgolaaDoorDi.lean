/-
  errors.Is by its contracts, where the target is the program's own error value: the value itself is found, no error is not.
-/
import Derived.Test.YtkklhlffbfgolaaDoorMem
import Derived.Test.YtkklhlffbfgolaaDoorChecked
import Derived.WalkKit
import Derived.LaidEql
import Derived.Stop.Asserts
import Derived.RowKitTokens
namespace Go.Proofs.YtkklhlffbfgolaaDoor
namespace Con
open Go.RowKit Go.Extern.Stop Go.Stop Go.Extern Mem
set_option linter.unusedVariables false

theorem eiTypeOf (v : Value) (w : World) : (Extern.ReflectliteType.typeOf #[.iface 116 v]).run Tryd.prog w = .ok (.iface 106 (.agg #[.pointer (some ⟨1, 116, none⟩)])) w := by kernel_rfl
theorem eiComparable (w : World) : ((Extern.ReflectliteType.method fun t => do Rtype.noPackHeld "Comparable" t; pure (.bool (← typeInfo t).comparable)) #[.agg #[.pointer (some ⟨1, 116, none⟩)]]).run Tryd.prog w = .ok (.bool true) w := by kernel_rfl
theorem eiCall (w : World) : (callFunc 98 #[.agg #[.pointer (some ⟨1, 116, none⟩)]]).run Tryd.prog w = .ok (.value (.bool true)) w := by
  rw [@run_callFunc_extern Tryd.prog 98 _ (Extern.ReflectliteType.method fun t => do Rtype.noPackHeld "Comparable" t; pure (.bool (← typeInfo t).comparable)) Tryd.func98 (by kernel_rfl) (by kernel_rfl) (by kernel_rfl) (by kernel_rfl), eiComparable]; rfl
theorem eiMethod (v : Value) (w : World) : (Go.method 255 106 v "Comparable").run Tryd.prog w = .ok (98, v) w := by kernel_rfl
theorem eiComp : (Tryd.prog.info? 116).map (·.comparable) = some true := by kernel_rfl
theorem eiSize : (Tryd.prog.info? 143).map (·.size) = some 1 := by kernel_rfl

theorem is_same (a : Addr) (w : World) :
    Calls Tryd.prog 52 #[.iface 116 (.pointer (some a)), .iface 116 (.pointer (some a))] w fun e w' => e = .returned (.bool true) ∧ w = w' := by
  obtain ⟨i, hi, hcmp⟩ := Option.map_eq_some_iff.1 eiComp
  obtain ⟨j, hj, hjs⟩ := Option.map_eq_some_iff.1 eiSize
  have h8 := @run_callFunc_extern Tryd.prog 70 _ Extern.ReflectliteType.typeOf Tryd.func70 (by kernel_rfl) (by kernel_rfl) (by kernel_rfl) (by kernel_rfl)
  have tT := eiTypeOf
  have cT := eiCall
  have mR := eiMethod
  have heq := run_eql_iface_ptr_same (P := Tryd.prog) w a Tryd.underlying82 Tryd.underlying116 hi hcmp hj
  go_enter Tryd.func52, Tryd.ntmps52
  go_wp2
  refine wp_loop_rounds 1 ?_
  rw [rounds_succ]
  go_wp2
  go_ret
  exact ⟨rfl, rfl⟩
theorem is_nil (b : Addr) (w : World) :
    Calls Tryd.prog 52 #[.nilIface, .iface 116 (.pointer (some b))] w fun e w' => e = .returned (.bool false) ∧ w = w' := by
  have hn := run_eql_iface_nil_left (P := Tryd.prog) w 116 (.pointer (some b)) Tryd.underlying82
  go_enter Tryd.func52, Tryd.ntmps52
  go_wp2
  go_ret
  exact ⟨rfl, rfl⟩
end Con
end Go.Proofs.YtkklhlffbfgolaaDoor
