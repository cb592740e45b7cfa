/-
  errors.Is by its contracts, where the target is the program's own error value: the value itself is found, no error is not.
-/
import Derived.Test.YtocecdnebkeeoaaDoorMem
import Derived.Test.YtocecdnebkeeoaaDoorChecked
import Derived.WalkKit
import Derived.LaidEql
import Derived.Stop.Asserts
import Derived.RowKitTokens
namespace Go.Proofs.YtocecdnebkeeoaaDoor
namespace Con
open Go.RowKit Go.Extern.Stop Go.Stop Go.Extern Mem
set_option linter.unusedVariables false

theorem eiTypeOf (v : Value) (w : World) : (Extern.ReflectliteType.typeOf #[.iface 142 v]).run Tryd.prog w = .ok (.iface 132 (.agg #[.pointer (some ⟨1, 142, none⟩)])) w := by kernel_rfl
theorem eiComparable (w : World) : ((Extern.ReflectliteType.method fun t => do Rtype.noPackHeld "Comparable" t; pure (.bool (← typeInfo t).comparable)) #[.agg #[.pointer (some ⟨1, 142, none⟩)]]).run Tryd.prog w = .ok (.bool true) w := by kernel_rfl
theorem eiCall (w : World) : (callFunc 124 #[.agg #[.pointer (some ⟨1, 142, none⟩)]]).run Tryd.prog w = .ok (.value (.bool true)) w := by
  rw [@run_callFunc_extern Tryd.prog 124 _ (Extern.ReflectliteType.method fun t => do Rtype.noPackHeld "Comparable" t; pure (.bool (← typeInfo t).comparable)) Tryd.func124 (by kernel_rfl) (by kernel_rfl) (by kernel_rfl) (by kernel_rfl), eiComparable]; rfl
theorem eiMethod (v : Value) (w : World) : (Go.method 281 132 v "Comparable").run Tryd.prog w = .ok (124, v) w := by kernel_rfl
theorem eiComp : (Tryd.prog.info? 142).map (·.comparable) = some true := by kernel_rfl
theorem eiSize : (Tryd.prog.info? 169).map (·.size) = some 1 := by kernel_rfl

theorem is_same (a : Addr) (w : World) :
    Calls Tryd.prog 79 #[.iface 142 (.pointer (some a)), .iface 142 (.pointer (some a))] w fun e w' => e = .returned (.bool true) ∧ w = w' := by
  obtain ⟨i, hi, hcmp⟩ := Option.map_eq_some_iff.1 eiComp
  obtain ⟨j, hj, hjs⟩ := Option.map_eq_some_iff.1 eiSize
  have h8 := @run_callFunc_extern Tryd.prog 96 _ Extern.ReflectliteType.typeOf Tryd.func96 (by kernel_rfl) (by kernel_rfl) (by kernel_rfl) (by kernel_rfl)
  have tT := eiTypeOf
  have cT := eiCall
  have mR := eiMethod
  have heq := run_eql_iface_ptr_same (P := Tryd.prog) w a Tryd.underlying110 Tryd.underlying142 hi hcmp hj
  go_enter Tryd.func79, Tryd.ntmps79
  go_wp2
  refine wp_loop_rounds 1 ?_
  rw [rounds_succ]
  go_wp2
  go_ret
  exact ⟨rfl, rfl⟩
theorem is_nil (b : Addr) (w : World) :
    Calls Tryd.prog 79 #[.nilIface, .iface 142 (.pointer (some b))] w fun e w' => e = .returned (.bool false) ∧ w = w' := by
  have hn := run_eql_iface_nil_left (P := Tryd.prog) w 142 (.pointer (some b)) Tryd.underlying110
  go_enter Tryd.func79, Tryd.ntmps79
  go_wp2
  go_ret
  exact ⟨rfl, rfl⟩
end Con
end Go.Proofs.YtocecdnebkeeoaaDoor
