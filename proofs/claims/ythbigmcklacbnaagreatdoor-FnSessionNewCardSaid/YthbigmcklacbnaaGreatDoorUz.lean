/-
  errors.As by its contracts; sessions: the program's sittings, errors of parts, SessionSig, SessionBad.
-/
import Derived.Test.YthbigmcklacbnaaGreatDoorChecked
import Derived.WalkKit
import Derived.LaidEql
import Derived.Stop.Asserts
import Derived.RowKitTokens
import Derived.Test.YthbigmcklacbnaaGreatDoorMem
import Derived.Test.YthbigmcklacbnaaGreatDoorUc
import Derived.Test.YthbigmcklacbnaaGreatDoorTd
namespace Go.Proofs.YthbigmcklacbnaaGreatDoor
namespace Con
open Go.RowKit Go.Extern.Stop Go.Stop Go.Extern
set_option linter.unusedVariables false

theorem as_nil (t : Value) (w : World) :
    Calls Tryz.prog 30 #[.nilIface, t] w fun e w' => e = .returned (.bool false) ∧ w = w' := by
  go_enter Tryz.func30, Tryz.ntmps30
  go_wp2
  go_ret
  exact ⟨rfl, rfl⟩
/-! Closed facts on the model's entries. -/
theorem ea_value (t : Addr) (w : World) : (ReflectliteValue.unpack (.iface 68 (.pointer (some t)))).run Tryz.prog w
    = .ok (.agg #[.pointer (some ⟨2, 68, none⟩), .pointer (some ⟨w.heap.size, 0, none⟩), .int .u64 150]) (w.alloc (.cells #[.pointer (some t)] 68)) := by kernel_rfl
theorem ea_type (a : Addr) (w : World) : (ReflectliteValue.methodAny (ReflectliteValue.valueError "reflectlite.Value.Type" 0) (fun t _ _ _ => ReflectliteType.toType t) #[.agg #[.pointer (some ⟨2, 68, none⟩), .pointer (some a), .int .u64 150]]).run Tryz.prog w
    = .ok (.iface 125 (.agg #[.pointer (some ⟨2, 68, none⟩)])) w := by kernel_rfl
theorem ea_mKind (h : Value) (w : World) : (Go.method 310 125 (.agg #[h]) "Kind").run Tryz.prog w = .ok (121, h) w := by kernel_rfl
theorem ea_kindP (w : World) : ((ReflectliteType.abiMethod fun t => (fun a : Nat => Value.int IntKind.u8 (a : Int)) <$> Rtype.kind t) #[.pointer (some ⟨2, 68, none⟩)]).run Tryz.prog w = .ok (.int .u8 22) w := by kernel_rfl
theorem ea_kindS (w : World) : ((ReflectliteType.abiMethod fun t => (fun a : Nat => Value.int IntKind.u8 (a : Int)) <$> Rtype.kind t) #[.pointer (some ⟨2, 66, none⟩)]).run Tryz.prog w = .ok (.int .u8 25) w := by kernel_rfl
theorem ea_rlm (z : Sem Value) (f : TypeId → Addr → Nat → Nat → Sem Value) (v : Value) :
    ReflectliteValue.method z f #[v] = (do match ← ReflectliteValue.parts v with | none => z | some (t, a, fl) => f t a fl (fl % 32)) := rfl
theorem ea_partsP (a : Addr) (w : World) : (ReflectliteValue.parts (.agg #[.pointer (some ⟨2, 68, none⟩), .pointer (some a), .int .u64 150])).run Tryz.prog w = .ok (some (68, a, 150)) w := by kernel_rfl
theorem ea_isNil (a p : Addr) (W : World) (ha : W.cell? a = some (.pointer (some p))) :
    (ReflectliteValue.method (ReflectliteValue.valueError "reflectlite.Value.IsNil" 0) ReflectliteValue.isNil #[.agg #[.pointer (some ⟨2, 68, none⟩), .pointer (some a), .int .u64 150]]).run Tryz.prog W = .ok (.bool false) W := by
  rw [ea_rlm]
  simp only [Sem.run_bind, ea_partsP, Result.andThen]
  simp [ReflectliteValue.isNil, loadVar, isAgg, underlying, Tryz.underlying68, ha, Result.andThen]
theorem ea_mElem (h : Value) (w : World) : (Go.method 310 125 (.agg #[h]) "Elem").run Tryz.prog w = .ok (140, .agg #[h]) w := by kernel_rfl
theorem ea_mImpl (h : Value) (w : World) : (Go.method 310 125 (.agg #[h]) "Implements").run Tryz.prog w = .ok (141, .agg #[h]) w := by kernel_rfl
theorem ea_mAss (h : Value) (w : World) : (Go.method 310 125 (.agg #[h]) "AssignableTo").run Tryz.prog w = .ok (138, .agg #[h]) w := by kernel_rfl
theorem ea_elem (w : World) : (ReflectliteType.method ReflectliteType.elem #[.agg #[.pointer (some ⟨2, 68, none⟩)]]).run Tryz.prog w = .ok (.iface 125 (.agg #[.pointer (some ⟨2, 66, none⟩)])) w := by kernel_rfl
theorem ea_impl (w : World) : (ReflectliteType.relation "Implements" ReflectliteType.implements_ #[.agg #[.pointer (some ⟨2, 66, none⟩)], .iface 125 (.agg #[.pointer (some ⟨2, 59, none⟩)])]).run Tryz.prog w = .ok (.bool true) w := by kernel_rfl
theorem ea_typeS (v : Value) (w : World) : (ReflectliteType.typeOf #[.iface 66 v]).run Tryz.prog w = .ok (.iface 125 (.agg #[.pointer (some ⟨2, 66, none⟩)])) w := by kernel_rfl
theorem ea_typeE (v : Value) (w : World) : (ReflectliteType.typeOf #[.iface 165 v]).run Tryz.prog w = .ok (.iface 125 (.agg #[.pointer (some ⟨2, 165, none⟩)])) w := by kernel_rfl
theorem ea_assS (w : World) : (ReflectliteType.relation "AssignableTo" ReflectliteType.assignableTo #[.agg #[.pointer (some ⟨2, 66, none⟩)], .iface 125 (.agg #[.pointer (some ⟨2, 66, none⟩)])]).run Tryz.prog w = .ok (.bool true) w := by kernel_rfl
theorem ea_assE (w : World) : (ReflectliteType.relation "AssignableTo" ReflectliteType.assignableTo #[.agg #[.pointer (some ⟨2, 165, none⟩)], .iface 125 (.agg #[.pointer (some ⟨2, 66, none⟩)])]).run Tryz.prog w = .ok (.bool false) w := by kernel_rfl
theorem ea_valueS (m : Int) (w : World) : (ReflectliteValue.unpack (.iface 66 (.agg #[.int .i64 m]))).run Tryz.prog w
    = .ok (.agg #[.pointer (some ⟨2, 66, none⟩), .pointer (some ⟨w.heap.size, 0, none⟩), .int .u64 153]) (w.alloc (.cells #[.int .i64 m] 66)) := by kernel_rfl
theorem ea_elemOf (w : World) : (Rtype.elem? 68).run Tryz.prog w = .ok (some 66) w := by kernel_rfl
theorem ea_mk (p : Addr) (w : World) : (ReflectliteValue.mk 66 p ReflectliteValue.flagAddr).run Tryz.prog w = .ok (.agg #[.pointer (some ⟨2, 66, none⟩), .pointer (some p), .int .u64 409]) w := by kernel_rfl
theorem ea_elemV (a p : Addr) (W : World) (ha : W.cell? a = some (.pointer (some p))) :
    (ReflectliteValue.method (ReflectliteValue.valueError "reflectlite.Value.Elem" 0) ReflectliteValue.elem #[.agg #[.pointer (some ⟨2, 68, none⟩), .pointer (some a), .int .u64 150]]).run Tryz.prog W
      = .ok (.agg #[.pointer (some ⟨2, 66, none⟩), .pointer (some p), .int .u64 409]) W := by
  rw [ea_rlm]
  simp only [Sem.run_bind, ea_partsP, Result.andThen]
  simp [ReflectliteValue.elem, loadVar, isAgg, underlying, Tryz.underlying68, ha, Result.andThen, ea_elemOf, ea_mk]
theorem ea_rls (v x : Value) : ReflectliteValue.set #[v, x] = (do
    let (some (dst, a, fl), some (src, b, _)) := (← ReflectliteValue.parts v, ← ReflectliteValue.parts x)
      | unsupported (.noEntry "extern/(internal/reflectlite.Value).Set.zeroValue")
    if fl / ReflectliteValue.flagAddr % 2 == 0 then unsupported (.noEntry "extern/(internal/reflectlite.Value).Set.unaddressable")
    let val ← loadVar src b
    if ← Rtype.directlyAssignable dst src then storeVar dst a val
    else if ← Rtype.implements dst src then
      if (← Rtype.kind src) == 20 then
        match val with
        | .nilIface => unsupported (.noEntry "extern/reflectlite: a nil value of one interface type handed on as a value of another")
        | _ => storeVar dst a val
      else storeVar dst a (.iface src val)
    else panicString ("reflectlite.Set: value of type " ++ (← Rtype.spelt src) ++ " is not assignable to type " ++ (← Rtype.spelt dst))
    pure (.tuple #[])) := rfl
theorem ea_parts1 (a : Addr) (w : World) : (ReflectliteValue.parts (.agg #[.pointer (some ⟨2, 66, none⟩), .pointer (some a), .int .u64 409])).run Tryz.prog w = .ok (some (66, a, 409)) w := by kernel_rfl
theorem ea_parts2 (a : Addr) (w : World) : (ReflectliteValue.parts (.agg #[.pointer (some ⟨2, 66, none⟩), .pointer (some a), .int .u64 153])).run Tryz.prog w = .ok (some (66, a, 153)) w := by kernel_rfl
theorem ea_direct (w : World) : (Rtype.directlyAssignable 66 66).run Tryz.prog w = .ok true w := by kernel_rfl
theorem ea_size (w : World) : (sizeOf 66).run Tryz.prog w = .ok 1 w := by kernel_rfl
theorem ea_size' : (Tryz.prog.info? 66).map (·.size) = some 1 := by kernel_rfl
theorem ea_set (t b : Nat) (T : TypeId) (old : Value) (m : Int) (W : World) (hb : W.heap[b]? = some (.cells #[.int .i64 m] T (0, 0))) (ht : W.cell? ⟨t, 0, none⟩ = some old) (hf : W.frozen? ⟨t, 0, none⟩ = false) :
    (ReflectliteValue.set #[.agg #[.pointer (some ⟨2, 66, none⟩), .pointer (some ⟨t, 0, none⟩), .int .u64 409], .agg #[.pointer (some ⟨2, 66, none⟩), .pointer (some ⟨b, 0, none⟩), .int .u64 153]]).run Tryz.prog W
      = .ok (.tuple #[]) (W.setCell ⟨t, 0, none⟩ (.int .i64 m)) := by
  have hl : (loadVar 66 ⟨b, 0, none⟩).run Tryz.prog W = .ok (.agg #[.int .i64 m]) W := run_loadVar_row W b T 66 #[.int .i64 m] (0, 0) _ hb Tryz.underlying66 rfl ea_size'
  rw [ea_rls]
  simp only [Sem.run_bind, ea_parts1, ea_parts2, Result.andThen]
  simp [ReflectliteValue.flagAddr, hl, Result.andThen, ea_direct, storeVar, Value.cells, storeCells, Addr.add]
  rw [run_store Tryz.prog W ⟨t, 0, none⟩ _ _ (by rfl)]
  simp [ht, hf]
/-- What package errors asks: the type 'error'. -/
def Et (w : World) : Prop := w.cell? ⟨1, 0, none⟩ = some (.iface 125 (.agg #[.pointer (some ⟨2, 59, none⟩)]))
theorem Et.lt {w : World} (h : Et w) : 1 < w.heap.size := by
  rcases Nat.lt_or_ge 1 w.heap.size with h' | h'
  · exact h'
  · unfold Et at h; simp [World.cell?, Array.getElem?_eq_none h'] at h
theorem Et.kept {w w' : World} (h : Et w) (hg : w.grownBy w' none) : Et w' := by
  have hl := h.lt
  unfold Et at *
  rw [World.cell?_of_block (w := w) (hg.block _ hl (by simp))]; exact h
theorem ea_noAs (v : Value) (xT : TypeId) (w : World) : (Instr.typeAssert (.iface 165 v) xT 130 true).run Tryz.prog w = .ok (.tuple #[.nilIface, .bool false]) w := run_typeAssert_lacksB Tryz.underlying130 (by kernel_rfl) (by kernel_rfl) v xT w
theorem ea_noUn (v : Value) (xT : TypeId) (w : World) : (Instr.typeAssert (.iface 165 v) xT 133 true).run Tryz.prog w = .ok (.tuple #[.nilIface, .bool false]) w := run_typeAssert_lacksB Tryz.underlying133 (by kernel_rfl) (by kernel_rfl) v xT w
theorem ea_noUns (v : Value) (xT : TypeId) (w : World) : (Instr.typeAssert (.iface 165 v) xT 135 true).run Tryz.prog w = .ok (.tuple #[.nilIface, .bool false]) w := run_typeAssert_lacksB Tryz.underlying135 (by kernel_rfl) (by kernel_rfl) v xT w
set_option maxHeartbeats 4000000 in
/-- An error value of errors.New's make is none of the program's own type. -/
theorem as_miss (v : Value) (t : Nat) (w : World) (hE : Et w) :
    Calls Tryz.prog 30 #[.iface 165 v, .iface 68 (.pointer (some ⟨t, 0, none⟩))] w fun e w' => e = .returned (.bool false) ∧ w.grownBy w' none := by
  have h6 := @run_callFunc_extern Tryz.prog 53 _ (fun args => ReflectliteValue.unpack (args.getD 0 (.tuple #[]))) Tryz.func53 (by kernel_rfl) (by kernel_rfl) (by kernel_rfl) (by kernel_rfl)
  have h7 := @run_callFunc_extern Tryz.prog 54 _ (ReflectliteValue.methodAny (ReflectliteValue.valueError "reflectlite.Value.Type" 0) (fun t _ _ _ => ReflectliteType.toType t)) Tryz.func54 (by kernel_rfl) (by kernel_rfl) (by kernel_rfl) (by kernel_rfl)
  have h8 := @run_callFunc_extern Tryz.prog 55 _ (ReflectliteValue.method (ReflectliteValue.valueError "reflectlite.Value.IsNil" 0) ReflectliteValue.isNil) Tryz.func55 (by kernel_rfl) (by kernel_rfl) (by kernel_rfl) (by kernel_rfl)
  have h27 := @run_callFunc_extern Tryz.prog 121 _ (ReflectliteType.abiMethod fun t => do pure (.int .u8 (← Rtype.kind t))) Tryz.func121 (by kernel_rfl) (by kernel_rfl) (by kernel_rfl) (by kernel_rfl)
  have h37 := @run_callFunc_extern Tryz.prog 140 _ (ReflectliteType.method ReflectliteType.elem) Tryz.func140 (by kernel_rfl) (by kernel_rfl) (by kernel_rfl) (by kernel_rfl)
  have h38 := @run_callFunc_extern Tryz.prog 141 _ (ReflectliteType.relation "Implements" ReflectliteType.implements_) Tryz.func141 (by kernel_rfl) (by kernel_rfl) (by kernel_rfl) (by kernel_rfl)
  have h10 := @run_callFunc_extern Tryz.prog 76 _ ReflectliteType.typeOf Tryz.func76 (by kernel_rfl) (by kernel_rfl) (by kernel_rfl) (by kernel_rfl)
  have h35 := @run_callFunc_extern Tryz.prog 138 _ (ReflectliteType.relation "AssignableTo" ReflectliteType.assignableTo) Tryz.func138 (by kernel_rfl) (by kernel_rfl) (by kernel_rfl) (by kernel_rfl)
  have h11 := @run_callFunc_extern Tryz.prog 77 _ (ReflectliteValue.method (ReflectliteValue.valueError "reflectlite.Value.Elem" 0) ReflectliteValue.elem) Tryz.func77 (by kernel_rfl) (by kernel_rfl) (by kernel_rfl) (by kernel_rfl)
  have h12 := @run_callFunc_extern Tryz.prog 78 _ ReflectliteValue.set Tryz.func78 (by kernel_rfl) (by kernel_rfl) (by kernel_rfl) (by kernel_rfl)
  have mA := ea_mAss
  have f6 := ea_value
  have f7 := ea_type
  have mK := ea_mKind
  have mE := ea_mElem
  have mI := ea_mImpl
  have kP := ea_kindP
  have kS := ea_kindS
  have eP := ea_elem
  have iS := ea_impl
  have tO := ea_typeE
  have aE := ea_assE
  have q1 := ea_noAs
  have q2 := ea_noUn
  have q3 := ea_noUns
  have n8 := ea_isNil ⟨w.heap.size, 0, none⟩ ⟨t, 0, none⟩ ((w.alloc (.cells #[.pointer (some ⟨t, 0, none⟩)] 68)).alloc (.cells #[.pointer (some ⟨2, 68, none⟩), .pointer (some ⟨w.heap.size, 0, none⟩), .int .u64 150] 93)) (by simp)
  have hlt : 1 < w.heap.size := hE.lt
  have hg2 : ((w.alloc (.cells #[.pointer (some ⟨t, 0, none⟩)] 68)).alloc (.cells #[.pointer (some ⟨2, 68, none⟩), .pointer (some ⟨w.heap.size, 0, none⟩), .int .u64 150] 93)).cell? ⟨1, 0, none⟩ = some (.iface 125 (.agg #[.pointer (some ⟨2, 59, none⟩)])) := by
    rw [World.cell?_alloc_lt _ _ ⟨1, 0, none⟩ (by simp; omega), World.cell?_alloc_lt _ _ ⟨1, 0, none⟩ hlt]; exact hE
  go_enter Tryz.func30, Tryz.ntmps30
  go_wp2
  refine wp_loop_rounds 1 ?_
  rw [rounds_succ]
  go_wp2
  go_ret
  exact ⟨rfl, Draw.grown_trans (Draw.grown_trans (Draw.grown_alloc _ _ _) (Draw.grown_alloc _ _ _)) (Draw.grown_alloc _ _ _)⟩
set_option maxHeartbeats 4000000 in
/-- An error of the program's own type is one: the variable holds it. -/
theorem as_hit (m : Int) (t : Nat) (T : TypeId) (old : Int) (w : World) (hE : Et w) (hB : w.heap[t]? = some (.cells #[.int .i64 old] T (0, 0))) :
    Calls Tryz.prog 30 #[.iface 66 (.agg #[.int .i64 m]), .iface 68 (.pointer (some ⟨t, 0, none⟩))] w fun e w' => e = .returned (.bool true) ∧ w' = ((((w.alloc (.cells #[.pointer (some ⟨t, 0, none⟩)] 68)).alloc (.cells #[.pointer (some ⟨2, 68, none⟩), .pointer (some ⟨w.heap.size, 0, none⟩), .int .u64 150] 93)).alloc (.cells #[.pointer (some ⟨2, 68, none⟩), .pointer (some ⟨w.heap.size, 0, none⟩), .int .u64 150] 93)).alloc (.cells #[.int .i64 m] 66)).setCell ⟨t, 0, none⟩ (.int .i64 m) := by
  have h6 := @run_callFunc_extern Tryz.prog 53 _ (fun args => ReflectliteValue.unpack (args.getD 0 (.tuple #[]))) Tryz.func53 (by kernel_rfl) (by kernel_rfl) (by kernel_rfl) (by kernel_rfl)
  have h7 := @run_callFunc_extern Tryz.prog 54 _ (ReflectliteValue.methodAny (ReflectliteValue.valueError "reflectlite.Value.Type" 0) (fun t _ _ _ => ReflectliteType.toType t)) Tryz.func54 (by kernel_rfl) (by kernel_rfl) (by kernel_rfl) (by kernel_rfl)
  have h8 := @run_callFunc_extern Tryz.prog 55 _ (ReflectliteValue.method (ReflectliteValue.valueError "reflectlite.Value.IsNil" 0) ReflectliteValue.isNil) Tryz.func55 (by kernel_rfl) (by kernel_rfl) (by kernel_rfl) (by kernel_rfl)
  have h27 := @run_callFunc_extern Tryz.prog 121 _ (ReflectliteType.abiMethod fun t => do pure (.int .u8 (← Rtype.kind t))) Tryz.func121 (by kernel_rfl) (by kernel_rfl) (by kernel_rfl) (by kernel_rfl)
  have h37 := @run_callFunc_extern Tryz.prog 140 _ (ReflectliteType.method ReflectliteType.elem) Tryz.func140 (by kernel_rfl) (by kernel_rfl) (by kernel_rfl) (by kernel_rfl)
  have h38 := @run_callFunc_extern Tryz.prog 141 _ (ReflectliteType.relation "Implements" ReflectliteType.implements_) Tryz.func141 (by kernel_rfl) (by kernel_rfl) (by kernel_rfl) (by kernel_rfl)
  have h10 := @run_callFunc_extern Tryz.prog 76 _ ReflectliteType.typeOf Tryz.func76 (by kernel_rfl) (by kernel_rfl) (by kernel_rfl) (by kernel_rfl)
  have h35 := @run_callFunc_extern Tryz.prog 138 _ (ReflectliteType.relation "AssignableTo" ReflectliteType.assignableTo) Tryz.func138 (by kernel_rfl) (by kernel_rfl) (by kernel_rfl) (by kernel_rfl)
  have h11 := @run_callFunc_extern Tryz.prog 77 _ (ReflectliteValue.method (ReflectliteValue.valueError "reflectlite.Value.Elem" 0) ReflectliteValue.elem) Tryz.func77 (by kernel_rfl) (by kernel_rfl) (by kernel_rfl) (by kernel_rfl)
  have h12 := @run_callFunc_extern Tryz.prog 78 _ ReflectliteValue.set Tryz.func78 (by kernel_rfl) (by kernel_rfl) (by kernel_rfl) (by kernel_rfl)
  have mA := ea_mAss
  have f6 := ea_value
  have f7 := ea_type
  have mK := ea_mKind
  have mE := ea_mElem
  have mI := ea_mImpl
  have kP := ea_kindP
  have kS := ea_kindS
  have eP := ea_elem
  have iS := ea_impl
  have tO := ea_typeS
  have aS := ea_assS
  have vS := ea_valueS
  have n8 := ea_isNil ⟨w.heap.size, 0, none⟩ ⟨t, 0, none⟩ ((w.alloc (.cells #[.pointer (some ⟨t, 0, none⟩)] 68)).alloc (.cells #[.pointer (some ⟨2, 68, none⟩), .pointer (some ⟨w.heap.size, 0, none⟩), .int .u64 150] 93)) (by simp)
  have hlt : 1 < w.heap.size := hE.lt
  have hg2 : ((w.alloc (.cells #[.pointer (some ⟨t, 0, none⟩)] 68)).alloc (.cells #[.pointer (some ⟨2, 68, none⟩), .pointer (some ⟨w.heap.size, 0, none⟩), .int .u64 150] 93)).cell? ⟨1, 0, none⟩ = some (.iface 125 (.agg #[.pointer (some ⟨2, 59, none⟩)])) := by
    rw [World.cell?_alloc_lt _ _ ⟨1, 0, none⟩ (by simp; omega), World.cell?_alloc_lt _ _ ⟨1, 0, none⟩ hlt]; exact hE
  have htl : t < w.heap.size := by
    rcases Nat.lt_or_ge t w.heap.size with h | h
    · exact h
    · rw [Array.getElem?_eq_none h] at hB; cases hB
  have ht0 : w.cell? ⟨t, 0, none⟩ = some (.int .i64 old) := by simp [World.cell?, hB]
  have hf0 : w.frozen? ⟨t, 0, none⟩ = false := by simp [World.frozen?, hB]
  have el := ea_elemV ⟨w.heap.size, 0, none⟩ ⟨t, 0, none⟩ (((w.alloc (.cells #[.pointer (some ⟨t, 0, none⟩)] 68)).alloc (.cells #[.pointer (some ⟨2, 68, none⟩), .pointer (some ⟨w.heap.size, 0, none⟩), .int .u64 150] 93)).alloc (.cells #[.pointer (some ⟨2, 68, none⟩), .pointer (some ⟨w.heap.size, 0, none⟩), .int .u64 150] 93)) (by rw [World.cell?_alloc_lt _ _ ⟨w.heap.size, 0, none⟩ (by simp; omega)]; simp)
  have hsz : (((w.alloc (.cells #[.pointer (some ⟨t, 0, none⟩)] 68)).alloc (.cells #[.pointer (some ⟨2, 68, none⟩), .pointer (some ⟨w.heap.size, 0, none⟩), .int .u64 150] 93)).alloc (.cells #[.pointer (some ⟨2, 68, none⟩), .pointer (some ⟨w.heap.size, 0, none⟩), .int .u64 150] 93)).heap.size = w.heap.size + 1 + 1 + 1 := by simp
  have st := ea_set t (w.heap.size + 1 + 1 + 1) 66 (.int .i64 old) m ((((w.alloc (.cells #[.pointer (some ⟨t, 0, none⟩)] 68)).alloc (.cells #[.pointer (some ⟨2, 68, none⟩), .pointer (some ⟨w.heap.size, 0, none⟩), .int .u64 150] 93)).alloc (.cells #[.pointer (some ⟨2, 68, none⟩), .pointer (some ⟨w.heap.size, 0, none⟩), .int .u64 150] 93)).alloc (.cells #[.int .i64 m] 66))
    (by rw [← hsz]; exact heap_alloc_new _ _)
    (by rw [World.cell?_alloc_lt _ _ ⟨t, 0, none⟩ (by simp; omega), World.cell?_alloc_lt _ _ ⟨t, 0, none⟩ (by simp; omega), World.cell?_alloc_lt _ _ ⟨t, 0, none⟩ (by simp; omega), World.cell?_alloc_lt _ _ ⟨t, 0, none⟩ htl]; exact ht0)
    (by rw [World.frozen?_alloc_old _ _ ⟨t, 0, none⟩ (by simp; omega), World.frozen?_alloc_old _ _ ⟨t, 0, none⟩ (by simp; omega), World.frozen?_alloc_old _ _ ⟨t, 0, none⟩ (by simp; omega), World.frozen?_alloc_old _ _ ⟨t, 0, none⟩ (Nat.ne_of_lt htl)]; exact hf0)
  go_enter Tryz.func30, Tryz.ntmps30
  go_wp2
  refine wp_loop_rounds 1 ?_
  rw [rounds_succ]
  go_wp2
  go_ret
  exact ⟨rfl, rfl⟩
end Con
namespace Con
open Go.RowKit Alg Mem Draw Hd
set_option linter.unusedVariables false

/-- The program's error value for a part that is not in lies where it was laid. -/
def Np (w : World) (a0 : Addr) : Prop := w.cell? ⟨0, 0, none⟩ = some (.iface 165 (.pointer (some a0)))
theorem Np.lt {w : World} {a0 : Addr} (h : Np w a0) : 0 < w.heap.size := by
  rcases Nat.lt_or_ge 0 w.heap.size with h' | h'
  · exact h'
  · unfold Np at h; simp [World.cell?, Array.getElem?_eq_none h'] at h
theorem Np.kept {w w' : World} {a0 : Addr} (h : Np w a0) (hg : w.grownBy w' none) : Np w' a0 := by
  have hl := h.lt
  unfold Np at *
  rw [World.cell?_of_block (w := w) (hg.block _ hl (by simp))]; exact h
/-- What is said of a part. -/
def peV (a0 : Addr) (on fits : Bool) (m : Int) : Value := if on then (if fits then .nilIface else .iface 66 (.agg #[.int .i64 m])) else .iface 165 (.pointer (some a0))
set_option maxRecDepth 100000 in
set_option maxHeartbeats 4000000 in
theorem iperr (w : World) (need many : Int) (ag : Option Addr) (ng cg : Nat) (zg : Nat → Int) (ac : Option Addr) (nc cc : Nat) (zc : Nat → Int) (am : Option Addr) (nm cm : Nat) (zm : Nat → Int) (msg r : Int) (s : SV) (a0 : Addr) (hG : Ints w ag ng zg) (hC : Ints w ac nc zc) (hM : Ints w am nm zm) (hl1 : ng ≤ 2000000) (hl2 : nc ≤ 2000000) (hl3 : nm ≤ 2000000) (hc : nm ≤ cm) (hm : cm ≤ maxLen) (hN : Np w a0) :
    Calls Tryz.prog 23 #[.agg #[.int .i64 need, .int .i64 many, .slice ag ng cg, .slice ac nc cc, .int .i64 msg, .slice am nm cm, .int .i64 r], .agg #[.int .i64 s.m, .int .i64 s.R, .bool s.on, .int .i64 s.Z]] w fun e w' => e = .returned (peV a0 s.on (sfF need many ng zg nc zc nm zm s.m s.R r msg s.Z) s.m) ∧ w.grownBy w' none := by
  obtain ⟨m, R, on, Z⟩ := s
  have G := Lib.hid (gtr (Draw.grown_alloc w (.cells #[.int .i64 need, .int .i64 many, .slice ag ng cg, .slice ac nc cc, .int .i64 msg, .slice am nm cm, .int .i64 r] 55) none) (Draw.grown_alloc _ (.cells #[.int .i64 m, .int .i64 R, .bool on, .int .i64 Z] 35) none))
  have T := Lib.hid ((Blk.new w #[.int .i64 need, .int .i64 many, .slice ag ng cg, .slice ac nc cc, .int .i64 msg, .slice am nm cm, .int .i64 r] 55).keptN (Draw.grown_alloc _ (.cells #[.int .i64 m, .int .i64 R, .bool on, .int .i64 Z] 35) none))
  have B := Lib.hid (blk_new2 w (.cells #[.int .i64 need, .int .i64 many, .slice ag ng cg, .slice ac nc cc, .int .i64 msg, .slice am nm cm, .int .i64 r] 55) #[.int .i64 m, .int .i64 R, .bool on, .int .i64 Z] 35)
  have HG := Lib.hid (hG.kept G.out); have HC := Lib.hid (hC.kept G.out); have HM := Lib.hid (hM.kept G.out); have HN := Lib.hid (hN.kept G.out)
  clear hG hC hM hN
  go_enter Tryz.func23, Tryz.ntmps23
  have b2 : World.cell? _ ⟨w.heap.size + 1, 2, none⟩ = some (.bool on) := B.out.cell 2
  cases on with
  | false =>
    have hn : World.cell? _ ⟨0, 0, none⟩ = some (.iface 165 (.pointer (some a0))) := HN.out
    go_wp2
    go_ret
    exact ⟨rfl, G.out⟩
  | true =>
    have t0 : World.cell? _ ⟨w.heap.size, 0, none⟩ = some (.int .i64 need) := T.out.cell 0
    have t1 : World.cell? _ ⟨w.heap.size, 1, none⟩ = some (.int .i64 many) := T.out.cell 1
    have t2 : World.cell? _ ⟨w.heap.size, 2, none⟩ = some (.slice ag ng cg) := T.out.cell 2
    have t3 : World.cell? _ ⟨w.heap.size, 3, none⟩ = some (.slice ac nc cc) := T.out.cell 3
    have t4 : World.cell? _ ⟨w.heap.size, 4, none⟩ = some (.int .i64 msg) := T.out.cell 4
    have t5 : World.cell? _ ⟨w.heap.size, 5, none⟩ = some (.slice am nm cm) := T.out.cell 5
    have t6 : World.cell? _ ⟨w.heap.size, 6, none⟩ = some (.int .i64 r) := T.out.cell 6
    have b0 : World.cell? _ ⟨w.heap.size + 1, 0, none⟩ = some (.int .i64 m) := B.out.cell 0
    have b1 : World.cell? _ ⟨w.heap.size + 1, 1, none⟩ = some (.int .i64 R) := B.out.cell 1
    have b3 : World.cell? _ ⟨w.heap.size + 1, 3, none⟩ = some (.int .i64 Z) := B.out.cell 3
    go_wp2_with fail
    refine (ifits _ need many _ ng _ zg _ nc _ zc _ nm _ zm m R r msg Z HG.out HC.out HM.out hl1 hl2 hl3 hc hm).mono ?_
    rintro e w1 ⟨rfl, hg⟩
    replace G := Lib.hid (gtr G.out hg)
    replace T := Lib.hid (T.out.keptN hg)
    replace B := Lib.hid (B.out.keptN hg)
    replace HG := Lib.hid (HG.out.kept hg)
    replace HC := Lib.hid (HC.out.kept hg)
    replace HM := Lib.hid (HM.out.kept hg)
    replace HN := Lib.hid (HN.out.kept hg)
    clear hg
    clear t0 t1 t2 t3 t4 t5 t6 b0 b1 b2 b3
    cases hf : sfF need many ng zg nc zc nm zm m R r msg Z with
    | true =>
      have HF := Lib.hid hf; clear hf
      go_wp2
      go_ret
      exact ⟨by unfold peV; rw [HF.out]; rfl, G.out⟩
    | false =>
      have HF := Lib.hid hf; clear hf
      have b0 : w1.cell? ⟨w.heap.size + 1, 0, none⟩ = some (.int .i64 m) := B.out.cell 0
      go_wp2
      go_ret
      exact ⟨by unfold peV; rw [HF.out]; rfl, G.out⟩
/-- The sitting of a session. -/
def Sit (w : World) (need many : Int) (ag : Option Addr) (ng cg : Nat) (zg : Nat → Int) (ac : Option Addr) (nc cc : Nat) (zc : Nat → Int) (msg : Int) (len : Nat) (S : Nat → SV) (e : Ending) (w' : World) : Prop :=
  if tsF need many ng zg nc zc msg len S = true then ∃ b, e = .returned (.tuple #[.agg #[.int .i64 need, .int .i64 many, .slice ag ng cg, .slice ac nc cc, .int .i64 msg, .slice (some ⟨b, 0, none⟩) len len, .int .i64 (rP S len)], .bool true]) ∧ Ints w' (some ⟨b, 0, none⟩) len (mS S) ∧ w.grownBy w' none
  else e = .returned (.tuple #[.agg #[.int .i64 0, .int .i64 0, .slice none 0 0, .slice none 0 0, .int .i64 0, .slice none 0 0, .int .i64 0], .bool false]) ∧ w.grownBy w' none
theorem size_sit : (Tryz.prog.info? 55).map (·.size) = some 7 := by kernel_rfl
theorem ret_sit {fn : Func} {p u : Tmp} (h : fn.results = #[.cell p 55, .tmp u]) (tmps : Array Value) {w : World} {b : Nat} {v0 v1 v2 v3 v4 v5 v6 : Value} {T : TypeId} (hp : tmps.getD p undef = .pointer (some ⟨b, 0, none⟩)) (hb : Blk w b #[v0, v1, v2, v3, v4, v5, v6] T) :
    (results fn tmps).run Tryz.prog w = .ok (.tuple #[.agg #[v0, v1, v2, v3, v4, v5, v6], tmps.getD u undef]) w := by
  have hp' : tmps[p]?.getD undef = .pointer (some ⟨b, 0, none⟩) := by simpa using hp
  simp [results, h, hp', asAddr, run_loadVar_row w b T 55 #[v0, v1, v2, v3, v4, v5, v6] (0, 0) _ hb Tryz.underlying55 rfl size_sit, Result.andThen]
set_option maxRecDepth 100000 in
set_option maxHeartbeats 4000000 in
theorem isit (w : World) (need many : Int) (ag : Option Addr) (ng cg : Nat) (zg : Nat → Int) (ac : Option Addr) (nc cc : Nat) (zc : Nat → Int) (msg : Int) (a : Option Addr) (len cap : Nat) (S : Nat → SV) (hG : Ints w ag ng zg) (hC : Ints w ac nc zc) (hS : ShIn w a len S) (hl1 : ng ≤ 2000000) (hl2 : nc ≤ 2000000) (hl : len ≤ 2000000) :
    Calls Tryz.prog 22 #[.agg #[.int .i64 need, .int .i64 many, .slice ag ng cg, .slice ac nc cc, .int .i64 msg, .slice a len cap]] w (Sit w need many ag ng cg zg ac nc cc zc msg len S) := by
  have G := Lib.hid (gtr (Draw.grown_alloc w (.cells #[.int .i64 need, .int .i64 many, .slice ag ng cg, .slice ac nc cc, .int .i64 msg, .slice a len cap] 30) none) (Draw.grown_alloc _ (.cells #[.int .i64 0, .int .i64 0, .slice none 0 0, .slice none 0 0, .int .i64 0, .slice none 0 0, .int .i64 0] 55) none))
  have K := Lib.hid ((Ss.of_blk (Blk.new w #[.int .i64 need, .int .i64 many, .slice ag ng cg, .slice ac nc cc, .int .i64 msg, .slice a len cap] 30)).kept (Draw.grown_alloc _ (.cells #[.int .i64 0, .int .i64 0, .slice none 0 0, .slice none 0 0, .int .i64 0, .slice none 0 0, .int .i64 0] 55) none))
  have R := Lib.hid (blk_new2 w (.cells #[.int .i64 need, .int .i64 many, .slice ag ng cg, .slice ac nc cc, .int .i64 msg, .slice a len cap] 30) #[.int .i64 0, .int .i64 0, .slice none 0 0, .slice none 0 0, .int .i64 0, .slice none 0 0, .int .i64 0] 55)
  have HG := Lib.hid (hG.kept G.out); have HC := Lib.hid (hC.kept G.out); have HA := Lib.hid (hS.kept G.out)
  clear hG hC hS
  go_enter Tryz.func22, Tryz.ntmps22
  obtain ⟨_, k0, k1, k2, k3, k4, k5⟩ := K.out
  go_wp2_with fail
  refine (i32ok _ need many _ ng _ zg _ nc _ zc msg _ len _ S HG.out HC.out HA.out hl1 hl2 hl).mono ?_
  rintro e w1 ⟨rfl, hg⟩
  clear k0 k1 k2 k3 k4 k5
  replace G := Lib.hid (gtr G.out hg)
  replace K := Lib.hid (K.out.kept hg)
  replace R := Lib.hid (R.out.keptN hg)
  replace HG := Lib.hid (HG.out.kept hg)
  replace HC := Lib.hid (HC.out.kept hg)
  replace HA := Lib.hid (HA.out.kept hg)
  clear hg
  obtain ⟨_, k0, k1, k2, k3, k4, k5⟩ := K.out
  cases h1 : tsF need many ng zg nc zc msg len S with
  | false =>
    have H1 := Lib.hid h1
    go_wp2_with (first
      | (refine wpList_store_blk rfl 55 (.tmp 2) (.tmp 7) _ _ _ 55 R.out rfl rfl rfl rfl (by kernel_rfl) (by simp [Value.oneCell']) rfl ?_; intro V hgV hRV; have HGV := Lib.hid hgV; have HRV := Lib.hid hRV; clear hgV hRV))
    (try simp only [Exit.inBlock, Exit.then])
    refine bodyPost_ret (ret_sit rfl _ rfl HRV.out) rfl ?_
    unfold Sit
    rw [if_neg (by rw [H1.out]; decide)]
    exact ⟨rfl, grown_new G.out (by omega) HGV.out⟩
  | true =>
    have H1 := Lib.hid h1; clear h1
    clear k0 k1 k2 k3 k4 k5
    go_wp2_with fail
    refine wp_region_held_drew (S := (fun w' => w'.cell? ⟨w.heap.size, 0, none⟩ = some (.int .i64 need) ∧ w'.cell? ⟨w.heap.size, 1, none⟩ = some (.int .i64 many) ∧ w'.cell? ⟨w.heap.size, 2, none⟩ = some (.slice ag ng cg) ∧ w'.cell? ⟨w.heap.size, 3, none⟩ = some (.slice ac nc cc) ∧ w'.cell? ⟨w.heap.size, 4, none⟩ = some (.int .i64 msg) ∧ w'.cell? ⟨w.heap.size, 5, none⟩ = some (.slice a len cap))) (by kernel_rfl) (⟨K.out.c0, K.out.c1, K.out.c2, K.out.c3, K.out.c4, K.out.c5⟩) (fun hHeld => ?_)
    have hg := Draw.gdrew w1
    replace G := Lib.hid (gtr G.out hg)
    replace K := Lib.hid (K.out.kept hg)
    replace R := Lib.hid (R.out.keptN hg)
    replace HG := Lib.hid (HG.out.kept hg)
    replace HC := Lib.hid (HC.out.kept hg)
    replace HA := Lib.hid (HA.out.kept hg)
    clear hg
    generalize w1.drew = W at *
    refine wpAnyH_take (i := 0) (oi := ⟨some 8, _, _, _, _, _⟩) (v := ?_) rfl (by kernel_rfl) (by kernel_rfl) (by kernel_rfl) (fun _ _ _ h => h) (Or.inl ⟨by rfl, ?_⟩) (by assumption) ?_
    rotate_left
    · intro w hSw; (try dsimp only at hSw); go_simp; try with_reducible rfl
    simp only [Act.put, List.setIfInBounds_toArray, List.set_cons_zero, List.set_cons_succ]
    refine wpAnyH_take (i := 1) (oi := ⟨some 9, _, _, _, _, _⟩) (v := ?_) rfl (by kernel_rfl) (by kernel_rfl) (by kernel_rfl) (fun _ _ _ h => h) (Or.inl ⟨by rfl, ?_⟩) (by assumption) ?_
    rotate_left
    · intro w hSw; (try dsimp only at hSw); go_simp; try with_reducible rfl
    simp only [Act.put, List.setIfInBounds_toArray, List.set_cons_zero, List.set_cons_succ]
    refine wpAnyH_take (i := 2) (oi := ⟨some 10, _, _, _, _, _⟩) (v := ?_) rfl (by kernel_rfl) (by kernel_rfl) (by kernel_rfl) (fun _ _ _ h => h) (Or.inl ⟨by rfl, ?_⟩) (by assumption) ?_
    rotate_left
    · intro w hSw; (try dsimp only at hSw); go_simp; try with_reducible rfl
    simp only [Act.put, List.setIfInBounds_toArray, List.set_cons_zero, List.set_cons_succ]
    refine wpAnyH_take (i := 3) (oi := ⟨some 11, _, _, _, _, _⟩) (v := ?_) rfl (by kernel_rfl) (by kernel_rfl) (by kernel_rfl) (fun _ _ _ h => h) (Or.inl ⟨by rfl, ?_⟩) (by assumption) ?_
    rotate_left
    · intro w hSw; (try dsimp only at hSw); go_simp; try with_reducible rfl
    simp only [Act.put, List.setIfInBounds_toArray, List.set_cons_zero, List.set_cons_succ]
    refine wpAnyH_take (i := 4) (oi := ⟨some 12, _, _, _, _, _⟩) (v := ?_) rfl (by kernel_rfl) (by kernel_rfl) (by kernel_rfl) (fun _ _ _ h => h) (Or.inl ⟨by rfl, ?_⟩) (by assumption) ?_
    rotate_left
    · intro w hSw; (try dsimp only at hSw); go_simp; try with_reducible rfl
    simp only [Act.put, List.setIfInBounds_toArray, List.set_cons_zero, List.set_cons_succ]
    refine wpAnyH_take (i := 6) (oi := ⟨some 14, _, _, _, _, _⟩) (v := ?_) rfl (by kernel_rfl) (by kernel_rfl) (by kernel_rfl) (fun _ _ _ h => h) (Or.inl ⟨by rfl, ?_⟩) (by assumption) ?_
    rotate_left
    · intro w hSw; (try dsimp only at hSw); go_simp; try with_reducible rfl
    simp only [Act.put, List.setIfInBounds_toArray, List.set_cons_zero, List.set_cons_succ]
    refine wpAnyH_ready (rs := [5]) (by kernel_rfl) (by simp) ?_
    refine AllReadyH.cons (o := ⟨some 13, _, _, _, _, _⟩) rfl (fun Kq hKq => ?_) AllReadyH.nil
    go_simp
    go_at_call 28
    refine (isgnof _ need many _ _ msg _ len _ S HA.out hl).mono ?_
    rintro e w2 ⟨bm, rfl, hrow, hg⟩
    have hR := R.out.lt
    have M := Lib.hid (IR.of_row hrow)
    have hbm := hrow.from_
    clear hrow
    replace G := Lib.hid (gtr G.out hg)
    replace K := Lib.hid (K.out.kept hg)
    replace R := Lib.hid (R.out.keptN hg)
    replace HG := Lib.hid (HG.out.kept hg)
    replace HC := Lib.hid (HC.out.kept hg)
    replace HA := Lib.hid (HA.out.kept hg)
    clear hg
    refine hKq.out _ _ (⟨K.out.c0, K.out.c1, K.out.c2, K.out.c3, K.out.c4, K.out.c5⟩) (fun hHeld => ?_)
    clear hKq Kq
    refine wpAnyH_ready (rs := [7]) (by kernel_rfl) (by simp) ?_
    refine AllReadyH.cons (o := ⟨some 15, _, _, _, _, _⟩) rfl (fun Kq hKq => ?_) AllReadyH.nil
    go_simp
    go_at_call 41
    refine (isesR _ need many _ ng _ zg _ nc _ zc msg _ len _ S HG.out HC.out HA.out hl1 hl2 hl).mono ?_
    rintro e w3 ⟨rfl, hg⟩
    rw [sr_yes H1.out]
    replace G := Lib.hid (gtr G.out hg)
    replace K := Lib.hid (K.out.kept hg)
    replace R := Lib.hid (R.out.keptN hg)
    replace HG := Lib.hid (HG.out.kept hg)
    replace HC := Lib.hid (HC.out.kept hg)
    replace HA := Lib.hid (HA.out.kept hg)
    replace M := Lib.hid (M.out.keptN hg)
    clear hg
    refine hKq.out _ _ (⟨K.out.c0, K.out.c1, K.out.c2, K.out.c3, K.out.c4, K.out.c5⟩) (fun hHeld => ?_)
    clear hKq Kq
    refine wpAnyH_take (i := 8) (oi := ⟨some 16, _, _, _, _, _⟩) (v := ?_) rfl (by kernel_rfl) (by kernel_rfl) (by kernel_rfl) (fun _ _ _ h => h) (Or.inl ⟨by rfl, ?_⟩) (by assumption) ?_
    rotate_left
    · intro w hSw; (try dsimp only at hSw); go_simp; try with_reducible rfl
    simp only [Act.put, List.setIfInBounds_toArray, List.set_cons_zero, List.set_cons_succ]
    clear HG HC HA
    refine wpAnyH_ready (rs := [9]) (by kernel_rfl) (by simp) ?_
    refine AllReadyH.cons (o := ⟨none, _, _, _, _, _⟩) rfl (fun Kq hKq => ?_) AllReadyH.nil
    rw [if_pos (by rfl)]
    refine wp_store_blk 55 (.tmp 2) (.tmp 16) _ _ _ 55 R.out rfl rfl rfl rfl (by kernel_rfl) (by simp [Value.oneCell']) rfl ?_
    intro V hg hT
    replace R := Lib.hid hT
    replace G := Lib.hid (grown_new G.out (by omega) hg)
    replace K := Lib.hid (K.out.keptB (hg.block _ K.out.lt (by intro e; have e := Option.some.inj e; omega)) hg.size)
    replace M := Lib.hid (M.out.kept hg (by omega))
    clear hg
    clear hT
    refine hKq.out _ _ (⟨K.out.c0, K.out.c1, K.out.c2, K.out.c3, K.out.c4, K.out.c5⟩) (fun hHeld => ?_)
    clear hKq Kq
    refine wpAnyH_take (i := 10) (oi := ⟨some 3, _, _, _, _, _⟩) (v := ?_) rfl (by kernel_rfl) (by kernel_rfl) (by kernel_rfl) (fun _ _ _ h => h) (Or.inl ⟨by rfl, ?_⟩) (by assumption) ?_
    rotate_left
    · intro w hSw; (try dsimp only at hSw); go_simp; try with_reducible rfl
    simp only [Act.put, List.setIfInBounds_toArray, List.set_cons_zero, List.set_cons_succ]
    refine wpAnyH_done (by kernel_rfl) ?_ _
    go_wp2
    (try simp only [Exit.inBlock, Exit.then])
    refine bodyPost_ret (ret_sit rfl _ rfl R.out) rfl ?_
    unfold Sit
    rw [if_pos H1.out]
    exact ⟨bm, rfl, M.out.i, G.out⟩
end Con
namespace Con
open Go.RowKit Alg Mem Draw Hd
set_option linter.unusedVariables false

set_option maxRecDepth 100000 in
set_option maxHeartbeats 4000000 in
theorem isesSig (w : World) (need many : Int) (ag : Option Addr) (ng cg : Nat) (zg : Nat → Int) (ac : Option Addr) (nc cc : Nat) (zc : Nat → Int) (msg : Int) (a : Option Addr) (len cap : Nat) (S : Nat → SV) (a0 : Addr) (hG : Ints w ag ng zg) (hC : Ints w ac nc zc) (hS : ShIn w a len S) (hl1 : ng ≤ 2000000) (hl2 : nc ≤ 2000000) (hl : len ≤ 2000000) (hN : Np w a0) :
    Calls Tryz.prog 8 #[.agg #[.int .i64 need, .int .i64 many, .slice ag ng cg, .slice ac nc cc, .int .i64 msg, .slice a len cap]] w fun e w' => e = .returned (ssV need many ng zg nc zc msg len S) ∧ w.grownBy w' none := by
  have G := Lib.hid (gtr (Draw.grown_alloc w (.cells #[.int .i64 need, .int .i64 many, .slice ag ng cg, .slice ac nc cc, .int .i64 msg, .slice a len cap] 30) none) (Draw.grown_alloc _ (.cells #[.int .i64 0, .int .i64 0] 37) none))
  have K := Lib.hid ((Ss.of_blk (Blk.new w #[.int .i64 need, .int .i64 many, .slice ag ng cg, .slice ac nc cc, .int .i64 msg, .slice a len cap] 30)).kept (Draw.grown_alloc _ (.cells #[.int .i64 0, .int .i64 0] 37) none))
  have R := Lib.hid (blk_new2 w (.cells #[.int .i64 need, .int .i64 many, .slice ag ng cg, .slice ac nc cc, .int .i64 msg, .slice a len cap] 30) #[.int .i64 0, .int .i64 0] 37)
  have HG := Lib.hid (hG.kept G.out); have HC := Lib.hid (hC.kept G.out); have HA := Lib.hid (hS.kept G.out); have HN := Lib.hid (hN.kept G.out)
  clear hG hC hS hN
  go_enter Tryz.func8, Tryz.ntmps8
  obtain ⟨_, k0, k1, k2, k3, k4, k5⟩ := K.out
  go_wp2_with fail
  clear k0 k1 k2 k3 k4 k5
  refine (isit _ need many _ ng _ zg _ nc _ zc msg _ len _ S HG.out HC.out HA.out hl1 hl2 hl).mono ?_
  rintro e w1 hs
  unfold Sit at hs
  cases h1 : tsF need many ng zg nc zc msg len S with
  | false =>
    rw [if_neg (by rw [h1]; decide)] at hs
    obtain ⟨rfl, hg⟩ := hs
    have HNO := Lib.hid (show ¬ (tsF need many ng zg nc zc msg len S = true ∧ (tbL need many ng zg nc zc msg len S len).length = 0 ∧ onA S len = true) by rw [h1]; simp)
    replace G := Lib.hid (gtr G.out hg)
    replace K := Lib.hid (K.out.kept hg)
    replace R := Lib.hid (R.out.keptN hg)
    replace HG := Lib.hid (HG.out.kept hg)
    replace HC := Lib.hid (HC.out.kept hg)
    replace HA := Lib.hid (HA.out.kept hg)
    replace HN := Lib.hid (HN.out.kept hg)
    clear hg
    have hg := Draw.grown_alloc w1 (.cells #[.int .i64 0, .int .i64 0, .slice none 0 0, .slice none 0 0, .int .i64 0, .slice none 0 0, .int .i64 0] 55) none
    replace G := Lib.hid (gtr G.out hg)
    replace K := Lib.hid (K.out.kept hg)
    replace R := Lib.hid (R.out.keptN hg)
    replace HG := Lib.hid (HG.out.kept hg)
    replace HC := Lib.hid (HC.out.kept hg)
    replace HA := Lib.hid (HA.out.kept hg)
    replace HN := Lib.hid (HN.out.kept hg)
    clear hg
    go_wp2_with (first
      | (refine wpList_store_blk rfl 37 (.tmp 2) (.tmp 16) _ _ _ 37 R.out rfl rfl rfl rfl (by kernel_rfl) (by simp [Value.oneCell']) rfl ?_; intro V hgV hRV; have HGV := Lib.hid hgV; have HRV := Lib.hid hRV; clear hgV hRV))
    (try simp only [Exit.inBlock, Exit.then])
    refine bodyPost_ret (ret_sb rfl _ rfl HRV.out) rfl ?_
    exact ⟨by rw [ssV_no HNO.out]; rfl, grown_new G.out (by omega) HGV.out⟩
  | true =>
    rw [if_pos h1] at hs
    obtain ⟨bm, rfl, hM, hg⟩ := hs
    have H1 := Lib.hid h1; clear h1
    replace G := Lib.hid (gtr G.out hg)
    replace K := Lib.hid (K.out.kept hg)
    replace R := Lib.hid (R.out.keptN hg)
    replace HG := Lib.hid (HG.out.kept hg)
    replace HC := Lib.hid (HC.out.kept hg)
    replace HA := Lib.hid (HA.out.kept hg)
    replace HN := Lib.hid (HN.out.kept hg)
    clear hg
    have M := Lib.hid hM; clear hM
    have hg := Draw.grown_alloc w1 (.cells #[.int .i64 need, .int .i64 many, .slice ag ng cg, .slice ac nc cc, .int .i64 msg, .slice (some ⟨bm, 0, none⟩) len len, .int .i64 (rP S len)] 55) none
    have T := Lib.hid (Blk.new w1 #[.int .i64 need, .int .i64 many, .slice ag ng cg, .slice ac nc cc, .int .i64 msg, .slice (some ⟨bm, 0, none⟩) len len, .int .i64 (rP S len)] 55)
    replace G := Lib.hid (gtr G.out hg)
    replace K := Lib.hid (K.out.kept hg)
    replace R := Lib.hid (R.out.keptN hg)
    replace HG := Lib.hid (HG.out.kept hg)
    replace HC := Lib.hid (HC.out.kept hg)
    replace HA := Lib.hid (HA.out.kept hg)
    replace HN := Lib.hid (HN.out.kept hg)
    replace M := Lib.hid (M.out.kept hg)
    clear hg
    obtain ⟨_, k0, k1, k2, k3, k4, k5⟩ := K.out
    have C0 := Lib.hid (Draw.grown_refl (w1.alloc (.cells #[.int .i64 need, .int .i64 many, .slice ag ng cg, .slice ac nc cc, .int .i64 msg, .slice (some ⟨bm, 0, none⟩) len len, .int .i64 (rP S len)] 55)) none)
    go_wp2
    go_loopw [6, 20] (fun v i W => ∃ k : Nat, k ≤ len ∧ v = .int .i64 (zP S k) ∧ i = .int .i64 k ∧ (∀ j, j < k → (S j).on = true ∧ tbE need many ng zg nc zc msg len S j = false) ∧ (w1.alloc (.cells #[.int .i64 need, .int .i64 many, .slice ag ng cg, .slice ac nc cc, .int .i64 msg, .slice (some ⟨bm, 0, none⟩) len len, .int .i64 (rP S len)] 55)).grownBy W none) (fun _ i _ => len - (intOf i).toNat)
    case atStart => exact ⟨0, by omega, rfl, rfl, fun j hj => by omega, C0.out⟩
    case round =>
      clear k0 k1 k2 k3 k4 k5 C0
      obtain ⟨k, hk, rfl, rfl, hall, hg⟩ := hrel
      obtain ⟨W1, hW⟩ : ∃ W, W = wr := ⟨_, rfl⟩; subst hW
      have HALL := Lib.hid hall
      have C := Lib.hid hg
      clear hall
      replace G := Lib.hid (gtr G.out hg)
      replace K := Lib.hid (K.out.kept hg)
      replace R := Lib.hid (R.out.keptN hg)
      replace HG := Lib.hid (HG.out.kept hg)
      replace HC := Lib.hid (HC.out.kept hg)
      replace HA := Lib.hid (HA.out.kept hg)
      replace HN := Lib.hid (HN.out.kept hg)
      replace M := Lib.hid (M.out.kept hg)
      replace T := Lib.hid (T.out.keptN hg)
      clear hg
      by_cases hlt : k < len
      · obtain ⟨b, off, rfl, hb, hcc⟩ := HA.out.ptr (by omega)
        obtain ⟨x0, x1, x2, x3⟩ := hcc k hlt
        clear hcc
        go_wp2_with (refine stop_store rfl ?_)
        refine ⟨trivial, ?_⟩
        refine wpList_store_blk rfl 35 (.tmp 8) (.tmp 23) _ #[.int .i64 (S k).m, .int .i64 (S k).R, .bool (S k).on, .int .i64 (S k).Z] _ 35 (Blk.new W1 #[.int .i64 0, .int .i64 0, .bool false, .int .i64 0] 35) rfl rfl rfl rfl (by kernel_rfl) (by simp [Value.oneCell']) rfl ?_
        intro W2 hgV hTV
        have hg : W1.grownBy W2 none := grown_new (grown_alloc W1 (.cells #[.int .i64 0, .int .i64 0, .bool false, .int .i64 0] 35) none) (Nat.le_refl _) hgV
        have B := Lib.hid hTV
        clear hgV hTV x0 x1 x2 x3
        replace G := Lib.hid (gtr G.out hg)
        replace K := Lib.hid (K.out.kept hg)
        replace R := Lib.hid (R.out.keptN hg)
        replace HG := Lib.hid (HG.out.kept hg)
        replace HC := Lib.hid (HC.out.kept hg)
        replace HA := Lib.hid (HA.out.kept hg)
        replace HN := Lib.hid (HN.out.kept hg)
        replace M := Lib.hid (M.out.kept hg)
        replace T := Lib.hid (T.out.keptN hg)
        replace C := Lib.hid (gtr C.out hg)
        clear hg
        generalize W1.heap.size = sb at *
        have t0 : W2.cell? ⟨w1.heap.size, 0, none⟩ = some (.int .i64 need) := T.out.cell 0
        have t1 : W2.cell? ⟨w1.heap.size, 1, none⟩ = some (.int .i64 many) := T.out.cell 1
        have t2 : W2.cell? ⟨w1.heap.size, 2, none⟩ = some (.slice ag ng cg) := T.out.cell 2
        have t3 : W2.cell? ⟨w1.heap.size, 3, none⟩ = some (.slice ac nc cc) := T.out.cell 3
        have t4 : W2.cell? ⟨w1.heap.size, 4, none⟩ = some (.int .i64 msg) := T.out.cell 4
        have t5 : W2.cell? ⟨w1.heap.size, 5, none⟩ = some (.slice (some ⟨bm, 0, none⟩) len len) := T.out.cell 5
        have t6 : W2.cell? ⟨w1.heap.size, 6, none⟩ = some (.int .i64 (rP S len)) := T.out.cell 6
        have b0 : W2.cell? ⟨sb, 0, none⟩ = some (.int .i64 (S k).m) := B.out.cell 0
        have b1 : W2.cell? ⟨sb, 1, none⟩ = some (.int .i64 (S k).R) := B.out.cell 1
        have b2 : W2.cell? ⟨sb, 2, none⟩ = some (.bool (S k).on) := B.out.cell 2
        have b3 : W2.cell? ⟨sb, 3, none⟩ = some (.int .i64 (S k).Z) := B.out.cell 3
        go_wp2_with fail
        clear t0 t1 t2 t3 t4 t5 t6 b0 b1 b2 b3
        refine (iperr _ need many _ ng _ zg _ nc _ zc _ len _ (mS S) msg (rP S len) (S k) a0 HG.out HC.out M.out hl1 hl2 hl (Nat.le_refl _) (by unfold maxLen; omega) HN.out).mono ?_
        rintro e W3 ⟨rfl, hg⟩
        unfold peV
        replace G := Lib.hid (gtr G.out hg)
        replace K := Lib.hid (K.out.kept hg)
        replace R := Lib.hid (R.out.keptN hg)
        replace HG := Lib.hid (HG.out.kept hg)
        replace HC := Lib.hid (HC.out.kept hg)
        replace HA := Lib.hid (HA.out.kept hg)
        replace HN := Lib.hid (HN.out.kept hg)
        replace M := Lib.hid (M.out.kept hg)
        replace T := Lib.hid (T.out.keptN hg)
        replace C := Lib.hid (gtr C.out hg)
        replace B := Lib.hid (B.out.keptN hg)
        clear hg
        have hR3 := R.out.lt
        cases ho : (S k).on with
        | false =>
          have HNO := Lib.hid (show ¬ (tsF need many ng zg nc zc msg len S = true ∧ (tbL need many ng zg nc zc msg len S len).length = 0 ∧ onA S len = true) by rw [onA_no hlt ho]; simp)
          simp only [Bool.false_eq_true, if_false]
          go_wp2_with (first
            | (refine wpList_store_blk rfl 37 (.tmp 2) (.tmp 28) _ _ _ 37 R.out rfl rfl rfl rfl (by kernel_rfl) (by simp [Value.oneCell']) rfl ?_; intro V hgV hRV; have HGV := Lib.hid hgV; have HRV := Lib.hid hRV; clear hgV hRV))
          (try simp only [Exit.inBlock, Exit.then])
          refine bodyPost_ret (ret_sb rfl _ rfl HRV.out) rfl ?_
          exact ⟨by rw [ssV_no HNO.out]; rfl, grown_new G.out (by omega) HGV.out⟩
        | true =>
          cases hf : sfF need many ng zg nc zc len (mS S) (S k).m (S k).R (rP S len) msg (S k).Z with
          | false =>
            have HE : tbE need many ng zg nc zc msg len S k = true := by unfold tbE; rw [ho, hf]; rfl
            have HNO := Lib.hid (show ¬ (tsF need many ng zg nc zc msg len S = true ∧ (tbL need many ng zg nc zc msg len S len).length = 0 ∧ onA S len = true) from fun h => by have := tbL_none.1 h.2.1 k hlt; rw [HE] at this; cases this)
            clear HE
            simp only [Bool.false_eq_true, if_false, if_true]
            go_wp2_with (first
              | (refine wpList_store_blk rfl 37 (.tmp 2) (.tmp 28) _ _ _ 37 R.out rfl rfl rfl rfl (by kernel_rfl) (by simp [Value.oneCell']) rfl ?_; intro V hgV hRV; have HGV := Lib.hid hgV; have HRV := Lib.hid hRV; clear hgV hRV))
            (try simp only [Exit.inBlock, Exit.then])
            refine bodyPost_ret (ret_sb rfl _ rfl HRV.out) rfl ?_
            exact ⟨by rw [ssV_no HNO.out]; rfl, grown_new G.out (by omega) HGV.out⟩
          | true =>
            have HE := Lib.hid (show ∀ j, j < k + 1 → (S j).on = true ∧ tbE need many ng zg nc zc msg len S j = false from fun j hj => by
              rcases (by omega : j < k ∨ j = k) with h | h
              · exact HALL.out j h
              · subst h; exact ⟨ho, by unfold tbE; rw [ho, hf]; rfl⟩)
            clear ho hf
            simp only [if_true]
            have b3 : W3.cell? ⟨sb, 3, none⟩ = some (.int .i64 (S k).Z) := B.out.cell 3
            go_wp2_with fail
            refine (isum (zP S k) (S k).Z _).mono ?_
            rintro e w' ⟨rfl, rfl⟩
            clear b3
            go_wp2
            go_roundw
            case rel => exact ⟨k + 1, by omega, rfl, by go_num, HE.out, C.out⟩
            case measure => simp [intOf]; omega
      · obtain rfl : k = len := by omega
        have HNO := Lib.hid (show tsF need many ng zg nc zc msg k S = true ∧ (tbL need many ng zg nc zc msg k S k).length = 0 ∧ onA S k = true from ⟨H1.out, tbL_none.2 fun j hj => (HALL.out j hj).2, onA_iff.2 fun j hj => (HALL.out j hj).1⟩)
        have t6 : W1.cell? ⟨w1.heap.size, 6, none⟩ = some (.int .i64 (rP S k)) := T.out.cell 6
        have hR3 := R.out.lt
        go_wp2_with (first
          | (refine wpList_store_blk rfl 37 (.tmp 2) (.tmp 37) _ _ _ 37 R.out rfl rfl rfl rfl (by kernel_rfl) (by simp [Value.oneCell']) rfl ?_; intro V hgV hRV; have HGV := Lib.hid hgV; have HRV := Lib.hid hRV; clear hgV hRV))
        (try simp only [Exit.inBlock, Exit.then])
        refine bodyPost_ret (ret_sb rfl _ rfl HRV.out) rfl ?_
        exact ⟨by rw [ssV_yes HNO.out]; rfl, grown_new G.out (by omega) HGV.out⟩
end Con
namespace Con
open Go.RowKit Alg Mem Draw Hd
set_option linter.unusedVariables false

theorem as_hitB (m : Int) (t : Nat) (T : TypeId) (old : Int) (w : World) (hE : Et w) (hB : Blk w t #[.int .i64 old] T) :
    Calls Tryz.prog 30 #[.iface 66 (.agg #[.int .i64 m]), .iface 68 (.pointer (some ⟨t, 0, none⟩))] w fun e w' => e = .returned (.bool true) ∧ w.grownBy w' (some t) ∧ Blk w' t #[.int .i64 m] T := by
  refine (as_hit m t T old w hE hB).mono ?_
  rintro e w' ⟨rfl, rfl⟩
  refine ⟨rfl, gtr' (gtr' (gtr' (gtr' (gtr' (grown_alloc _ _ _) (grown_alloc _ _ _)) (grown_alloc _ _ _)) (grown_alloc _ _ _)) (grown_refl _ _)) (Mem.grown_set _ t 0 (.int .i64 m)), ?_⟩
  exact ((((hB.keptN (grown_alloc _ _ _)).keptN (grown_alloc _ _ _)).keptN (grown_alloc _ _ _)).keptN (grown_alloc _ _ _)).set 0 (.int .i64 m)
theorem Lst.keptX {w w' : World} {lo b : Nat} {v : Value} {l : List Int} {vs : Array Value} {T : TypeId} (h : Lst w lo v l) (hb : Blk w b vs T) (hne : 3 ≠ T) (hg : w.grownBy w' (some b)) : Lst w' lo v l := by
  have o := own_ne_b h.owns hb hne
  rcases h with h | ⟨b', c, rfl, hr⟩
  · exact .inl h
  · exact .inr ⟨b', c, rfl, hr.kept hg (by first | exact o | exact fun e => o e.symm)⟩
set_option maxRecDepth 100000 in
set_option maxHeartbeats 4000000 in
theorem isesBad (w : World) (need many : Int) (ag : Option Addr) (ng cg : Nat) (zg : Nat → Int) (ac : Option Addr) (nc cc : Nat) (zc : Nat → Int) (msg : Int) (a : Option Addr) (len cap : Nat) (S : Nat → SV) (a0 : Addr) (hG : Ints w ag ng zg) (hC : Ints w ac nc zc) (hS : ShIn w a len S) (hl1 : ng ≤ 2000000) (hl2 : nc ≤ 2000000) (hl : len ≤ 2000000) (hN : Np w a0) (hE : Et w) :
    Calls Tryz.prog 10 #[.agg #[.int .i64 need, .int .i64 many, .slice ag ng cg, .slice ac nc cc, .int .i64 msg, .slice a len cap]] w fun e w' => ∃ v, e = .returned v ∧ Lst w' w.heap.size v (tbF need many ng zg nc zc msg len S) ∧ w.grownBy w' none := by
  have G := Lib.hid (Draw.grown_alloc w (.cells #[.int .i64 need, .int .i64 many, .slice ag ng cg, .slice ac nc cc, .int .i64 msg, .slice a len cap] 30) none)
  have K := Lib.hid (Ss.of_blk (Blk.new w #[.int .i64 need, .int .i64 many, .slice ag ng cg, .slice ac nc cc, .int .i64 msg, .slice a len cap] 30))
  have HG := Lib.hid (hG.kept G.out); have HC := Lib.hid (hC.kept G.out); have HA := Lib.hid (hS.kept G.out); have HN := Lib.hid (hN.kept G.out); have HT := Lib.hid (hE.kept G.out)
  clear hG hC hS hN hE
  obtain ⟨i0, hi, hz0, hz1, hz2⟩ := info_parts info_int
  go_enter Tryz.func10, Tryz.ntmps10
  obtain ⟨_, k0, k1, k2, k3, k4, k5⟩ := K.out
  go_wp2_with fail
  clear k0 k1 k2 k3 k4 k5
  refine (isit _ need many _ ng _ zg _ nc _ zc msg _ len _ S HG.out HC.out HA.out hl1 hl2 hl).mono ?_
  rintro e w1 hs
  unfold Sit at hs
  cases h1 : tsF need many ng zg nc zc msg len S with
  | false =>
    rw [if_neg (by rw [h1]; decide)] at hs
    obtain ⟨rfl, hg⟩ := hs
    have HR := Lib.hid (tbF_no h1)
    replace G := Lib.hid (gtr G.out hg)
    replace K := Lib.hid (K.out.kept hg)
    replace HG := Lib.hid (HG.out.kept hg)
    replace HC := Lib.hid (HC.out.kept hg)
    replace HA := Lib.hid (HA.out.kept hg)
    replace HN := Lib.hid (HN.out.kept hg)
    replace HT := Lib.hid (HT.out.kept hg)
    clear hg
    have hg := Draw.grown_alloc w1 (.cells #[.int .i64 0, .int .i64 0, .slice none 0 0, .slice none 0 0, .int .i64 0, .slice none 0 0, .int .i64 0] 55) none
    replace G := Lib.hid (gtr G.out hg)
    replace K := Lib.hid (K.out.kept hg)
    replace HG := Lib.hid (HG.out.kept hg)
    replace HC := Lib.hid (HC.out.kept hg)
    replace HA := Lib.hid (HA.out.kept hg)
    replace HN := Lib.hid (HN.out.kept hg)
    replace HT := Lib.hid (HT.out.kept hg)
    clear hg
    go_wp2
    go_ret
    exact ⟨_, rfl, by rw [HR.out]; exact .inl ⟨rfl, rfl⟩, G.out⟩
  | true =>
    rw [if_pos h1] at hs
    obtain ⟨bm, rfl, hM, hg⟩ := hs
    have HR := Lib.hid (tbF_yes h1)
    clear h1
    replace G := Lib.hid (gtr G.out hg)
    replace K := Lib.hid (K.out.kept hg)
    replace HG := Lib.hid (HG.out.kept hg)
    replace HC := Lib.hid (HC.out.kept hg)
    replace HA := Lib.hid (HA.out.kept hg)
    replace HN := Lib.hid (HN.out.kept hg)
    replace HT := Lib.hid (HT.out.kept hg)
    clear hg
    have M := Lib.hid hM; clear hM
    have hg := Draw.grown_alloc w1 (.cells #[.int .i64 need, .int .i64 many, .slice ag ng cg, .slice ac nc cc, .int .i64 msg, .slice (some ⟨bm, 0, none⟩) len len, .int .i64 (rP S len)] 55) none
    have T := Lib.hid (Blk.new w1 #[.int .i64 need, .int .i64 many, .slice ag ng cg, .slice ac nc cc, .int .i64 msg, .slice (some ⟨bm, 0, none⟩) len len, .int .i64 (rP S len)] 55)
    replace G := Lib.hid (gtr G.out hg)
    replace K := Lib.hid (K.out.kept hg)
    replace HG := Lib.hid (HG.out.kept hg)
    replace HC := Lib.hid (HC.out.kept hg)
    replace HA := Lib.hid (HA.out.kept hg)
    replace HN := Lib.hid (HN.out.kept hg)
    replace HT := Lib.hid (HT.out.kept hg)
    replace M := Lib.hid (M.out.kept hg)
    clear hg
    obtain ⟨_, k0, k1, k2, k3, k4, k5⟩ := K.out
    have C0 := Lib.hid (Draw.grown_refl (w1.alloc (.cells #[.int .i64 need, .int .i64 many, .slice ag ng cg, .slice ac nc cc, .int .i64 msg, .slice (some ⟨bm, 0, none⟩) len len, .int .i64 (rP S len)] 55)) none)
    have hsz0 := G.out.size
    have hszw : w.heap.size ≤ (w1.alloc (.cells #[.int .i64 need, .int .i64 many, .slice ag ng cg, .slice ac nc cc, .int .i64 msg, .slice (some ⟨bm, 0, none⟩) len len, .int .i64 (rP S len)] 55)).heap.size := hsz0
    clear hsz0
    generalize hlo : (w1.alloc (.cells #[.int .i64 need, .int .i64 many, .slice ag ng cg, .slice ac nc cc, .int .i64 msg, .slice (some ⟨bm, 0, none⟩) len len, .int .i64 (rP S len)] 55)).heap.size = lo at hszw
    have HLO := Lib.hid hlo; clear hlo
    go_wp2
    go_loopw [5, 19] (fun v i W => ∃ k : Nat, k ≤ len ∧ i = .int .i64 k ∧ Lst W lo v (tbL need many ng zg nc zc msg len S k) ∧ (w1.alloc (.cells #[.int .i64 need, .int .i64 many, .slice ag ng cg, .slice ac nc cc, .int .i64 msg, .slice (some ⟨bm, 0, none⟩) len len, .int .i64 (rP S len)] 55)).grownBy W none) (fun _ i _ => len - (intOf i).toNat)
    case atStart => exact ⟨0, by omega, rfl, .inl ⟨rfl, rfl⟩, C0.out⟩
    case round =>
      clear k0 k1 k2 k3 k4 k5 C0
      obtain ⟨k, hk, rfl, hL, hg⟩ := hrel
      obtain ⟨W1, hW⟩ : ∃ W, W = wr := ⟨_, rfl⟩; subst hW
      obtain ⟨v1, hW⟩ : ∃ W, W = u5 := ⟨_, rfl⟩; subst hW
      have L := Lib.hid hL
      have C := Lib.hid hg
      have hlen := tbL_len (need := need) (many := many) (ng := ng) (zg := zg) (nc := nc) (zc := zc) (msg := msg) (n := len) (S := S) (k := k)
      clear hL
      replace G := Lib.hid (gtr G.out hg)
      replace K := Lib.hid (K.out.kept hg)
      replace HG := Lib.hid (HG.out.kept hg)
      replace HC := Lib.hid (HC.out.kept hg)
      replace HA := Lib.hid (HA.out.kept hg)
      replace HN := Lib.hid (HN.out.kept hg)
      replace HT := Lib.hid (HT.out.kept hg)
      replace M := Lib.hid (M.out.kept hg)
      replace T := Lib.hid (T.out.keptN hg)
      clear hg
      by_cases hlt : k < len
      · obtain ⟨b, off, rfl, hb, hcc⟩ := HA.out.ptr (by omega)
        obtain ⟨x0, x1, x2, x3⟩ := hcc k hlt
        clear hcc
        go_wp2_with (refine stop_store rfl ?_)
        refine ⟨trivial, ?_⟩
        refine wpList_store_blk rfl 35 (.tmp 7) (.tmp 22) _ #[.int .i64 (S k).m, .int .i64 (S k).R, .bool (S k).on, .int .i64 (S k).Z] _ 35 (Blk.new W1 #[.int .i64 0, .int .i64 0, .bool false, .int .i64 0] 35) rfl rfl rfl rfl (by kernel_rfl) (by simp [Value.oneCell']) rfl ?_
        intro W2 hgV hTV
        have hg : W1.grownBy W2 none := grown_new (grown_alloc W1 (.cells #[.int .i64 0, .int .i64 0, .bool false, .int .i64 0] 35) none) (Nat.le_refl _) hgV
        have B := Lib.hid hTV
        clear hgV hTV x0 x1 x2 x3
        replace G := Lib.hid (gtr G.out hg)
        replace K := Lib.hid (K.out.kept hg)
        replace HG := Lib.hid (HG.out.kept hg)
        replace HC := Lib.hid (HC.out.kept hg)
        replace HA := Lib.hid (HA.out.kept hg)
        replace HN := Lib.hid (HN.out.kept hg)
        replace HT := Lib.hid (HT.out.kept hg)
        replace M := Lib.hid (M.out.kept hg)
        replace T := Lib.hid (T.out.keptN hg)
        replace C := Lib.hid (gtr C.out hg)
        replace L := Lib.hid (L.out.kept hg)
        clear hg
        have hwbC : (w1.alloc (.cells #[.int .i64 need, .int .i64 many, .slice ag ng cg, .slice ac nc cc, .int .i64 msg, .slice (some ⟨bm, 0, none⟩) len len, .int .i64 (rP S len)] 55)).heap.size ≤ W2.heap.size := C.out.size
        generalize W1.heap.size = sb at *
        have hg := Draw.grown_alloc W2 (.cells #[.int .i64 0] 66) none
        have X := Lib.hid (Blk.new W2 #[.int .i64 0] 66)
        replace G := Lib.hid (gtr G.out hg)
        replace K := Lib.hid (K.out.kept hg)
        replace HG := Lib.hid (HG.out.kept hg)
        replace HC := Lib.hid (HC.out.kept hg)
        replace HA := Lib.hid (HA.out.kept hg)
        replace HN := Lib.hid (HN.out.kept hg)
        replace HT := Lib.hid (HT.out.kept hg)
        replace M := Lib.hid (M.out.kept hg)
        replace T := Lib.hid (T.out.keptN hg)
        replace C := Lib.hid (gtr C.out hg)
        replace L := Lib.hid (L.out.kept hg)
        replace B := Lib.hid (B.out.keptN hg)
        clear hg
        have t0 : World.cell? _ ⟨w1.heap.size, 0, none⟩ = some (.int .i64 need) := T.out.cell 0
        have t1 : World.cell? _ ⟨w1.heap.size, 1, none⟩ = some (.int .i64 many) := T.out.cell 1
        have t2 : World.cell? _ ⟨w1.heap.size, 2, none⟩ = some (.slice ag ng cg) := T.out.cell 2
        have t3 : World.cell? _ ⟨w1.heap.size, 3, none⟩ = some (.slice ac nc cc) := T.out.cell 3
        have t4 : World.cell? _ ⟨w1.heap.size, 4, none⟩ = some (.int .i64 msg) := T.out.cell 4
        have t5 : World.cell? _ ⟨w1.heap.size, 5, none⟩ = some (.slice (some ⟨bm, 0, none⟩) len len) := T.out.cell 5
        have t6 : World.cell? _ ⟨w1.heap.size, 6, none⟩ = some (.int .i64 (rP S len)) := T.out.cell 6
        have b0 : World.cell? _ ⟨sb, 0, none⟩ = some (.int .i64 (S k).m) := B.out.cell 0
        have b1 : World.cell? _ ⟨sb, 1, none⟩ = some (.int .i64 (S k).R) := B.out.cell 1
        have b2 : World.cell? _ ⟨sb, 2, none⟩ = some (.bool (S k).on) := B.out.cell 2
        have b3 : World.cell? _ ⟨sb, 3, none⟩ = some (.int .i64 (S k).Z) := B.out.cell 3
        go_wp2_with fail
        clear t0 t1 t2 t3 t4 t5 t6 b0 b1 b2 b3
        refine (iperr _ need many _ ng _ zg _ nc _ zc _ len _ (mS S) msg (rP S len) (S k) a0 HG.out HC.out M.out hl1 hl2 hl (Nat.le_refl _) (by unfold maxLen; omega) HN.out).mono ?_
        rintro e W3 ⟨rfl, hg⟩
        unfold peV
        replace G := Lib.hid (gtr G.out hg)
        replace K := Lib.hid (K.out.kept hg)
        replace HG := Lib.hid (HG.out.kept hg)
        replace HC := Lib.hid (HC.out.kept hg)
        replace HA := Lib.hid (HA.out.kept hg)
        replace HN := Lib.hid (HN.out.kept hg)
        replace HT := Lib.hid (HT.out.kept hg)
        replace M := Lib.hid (M.out.kept hg)
        replace T := Lib.hid (T.out.keptN hg)
        replace C := Lib.hid (gtr C.out hg)
        replace L := Lib.hid (L.out.kept hg)
        replace B := Lib.hid (B.out.keptN hg)
        replace X := Lib.hid (X.out.keptN hg)
        clear hg
        generalize W2.heap.size = wb at *
        cases ho : (S k).on with
        | false =>
          have HE := Lib.hid (tbL_no (k := k) (show tbE need many ng zg nc zc msg len S k = false by unfold tbE; rw [ho]; rfl))
          simp only [Bool.false_eq_true, if_false]
          go_wp2_with fail
          refine (as_miss _ wb _ HT.out).mono ?_
          rintro e W4 ⟨rfl, hg⟩
          replace G := Lib.hid (gtr G.out hg)
          replace K := Lib.hid (K.out.kept hg)
          replace HG := Lib.hid (HG.out.kept hg)
          replace HC := Lib.hid (HC.out.kept hg)
          replace HA := Lib.hid (HA.out.kept hg)
          replace HN := Lib.hid (HN.out.kept hg)
          replace HT := Lib.hid (HT.out.kept hg)
          replace M := Lib.hid (M.out.kept hg)
          replace T := Lib.hid (T.out.keptN hg)
          replace C := Lib.hid (gtr C.out hg)
          replace L := Lib.hid (L.out.kept hg)
          replace B := Lib.hid (B.out.keptN hg)
          replace X := Lib.hid (X.out.keptN hg)
          clear hg
          go_wp2
          go_roundw
          case rel => exact ⟨k + 1, by omega, by go_num, by rw [HE.out]; exact L.out, C.out⟩
          case measure => simp [intOf]; omega
        | true =>
          cases hf : sfF need many ng zg nc zc len (mS S) (S k).m (S k).R (rP S len) msg (S k).Z with
          | true =>
            have HE := Lib.hid (tbL_no (k := k) (show tbE need many ng zg nc zc msg len S k = false by unfold tbE; rw [ho, hf]; rfl))
            simp only [if_true]
            go_wp2_with fail
            refine (as_nil _ _).mono ?_
            rintro e w' ⟨rfl, rfl⟩
            go_wp2
            go_roundw
            case rel => exact ⟨k + 1, by omega, by go_num, by rw [HE.out]; exact L.out, C.out⟩
            case measure => simp [intOf]; omega
          | false =>
            have HE := Lib.hid (tbL_yes (k := k) (show tbE need many ng zg nc zc msg len S k = true by unfold tbE; rw [ho, hf]; rfl))
            simp only [Bool.false_eq_true, if_false, if_true]
            go_wp2_with fail
            refine (as_hitB (S k).m wb _ 0 _ HT.out X.out).mono ?_
            rintro e W4 ⟨rfl, hg, hX⟩
            obtain ⟨av, cv, rfl, _, hvc, hvm⟩ := L.out.slice
            have L4 := Lib.hid (Lst.keptX L.out X.out (by decide) hg)
            have C4 := Lib.hid (grown_new C.out hwbC hg)
            have x0 : W4.cell? ⟨wb, 0, none⟩ = some (.int .i64 (S k).m) := hX.cell 0
            have hwz : lo ≤ W4.heap.size := by rw [← HLO.out]; exact C4.out.size
            have HZ := Lib.hid (L4.out.alloc (.cells #[.int .i64 (S k).m] 3)).owns
            clear hX hg
            go_wp2_with (at_builtin; refine wpList_append_own _ rfl _ _ 23 rfl lo 3 i0 (.int .i64 0) 1 8 und_ints hi hz0 hz1 hz2 rfl (by decide) _ _ (vals (li (tbL need many ng zg nc zc msg len S k)) (tbL need many ng zg nc zc msg len S k).length) rfl HZ.out ⟨W4.heap.size, 0, none⟩ 1 1 [.int .i64 (S k).m] rfl rfl (cell_one_new _ _ _) (by simp [Value.oneCell']) (by unfold maxLen; omega) (by omega) (by simp; omega) ?_; intro v' w6 hown' hgrow _; have L6 := Lib.hid (Lst.app hown'); have C6 := Lib.hid (own_grownW (gtr C4.out (Draw.grown_alloc _ _ _)) HZ.out (by rw [HLO.out]; exact Nat.le_refl _) hgrow); clear hown' hgrow)
            go_wp2
            go_roundw
            case rel => exact ⟨k + 1, by omega, by go_num, by rw [HE.out]; exact L6.out, C6.out⟩
            case measure => simp [intOf]; omega
      · obtain rfl : k = len := by omega
        go_wp2
        go_ret
        exact ⟨_, rfl, by rw [HR.out]; exact L.out.lower hszw, G.out⟩
end Con
end Go.Proofs.YthbigmcklacbnaaGreatDoor
