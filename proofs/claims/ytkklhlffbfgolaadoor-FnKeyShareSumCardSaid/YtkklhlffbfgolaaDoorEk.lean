/-
  The words of the exact laws that take a deal: its size, the deal anew, whether two deals read alike, and a deal marked.
-/
import Derived.Test.YtkklhlffbfgolaaDoorDm
import Derived.Test.YtkklhlffbfgolaaDoorPc
namespace Go.Proofs.YtkklhlffbfgolaaDoor
namespace Con
open Go.RowKit Alg Mem
set_option linter.unusedVariables false

/-- A deal of the call's own: two rows, one ahead of the other. -/
def DealO (w : World) (f : Int) (n1 : Nat) (z1 : Nat → Int) (n2 : Nat) (z2 : Nat → Int) (e : Ending) (w' : World) : Prop :=
  ∃ b1 b2 : Nat, e = .returned (.agg #[.int .i64 f, .slice (some ⟨b1, 0, none⟩) n1 n1, .slice (some ⟨b2, 0, none⟩) n2 n2]) ∧ b1 < b2 ∧ Row w' w.heap.size 3 b1 n1 n1 z1 ∧ Row w' w.heap.size 3 b2 n2 n2 z2 ∧ w.grownBy w' none
theorem blk_new2 (w : World) (o1 : Obj) (vs : Array Value) (T : TypeId) : Blk ((w.alloc o1).alloc (.cells vs T)) (w.heap.size + 1) vs T := by
  have h := Blk.new (w.alloc o1) vs T
  rw [show (w.alloc o1).heap.size = w.heap.size + 1 by show (w.heap.push _).size = _; simp] at h
  exact h
theorem blk_new3 (w : World) (o1 o2 : Obj) (vs : Array Value) (T : TypeId) : Blk (((w.alloc o1).alloc o2).alloc (.cells vs T)) (w.heap.size + 1 + 1) vs T := by
  have h := Blk.new ((w.alloc o1).alloc o2) vs T
  rw [show ((w.alloc o1).alloc o2).heap.size = w.heap.size + 1 + 1 by show ((w.heap.push _).push _).size = _; simp] at h
  exact h
theorem size3 (w : World) (o1 o2 o3 : Obj) : (((w.alloc o1).alloc o2).alloc o3).heap.size = w.heap.size + 1 + 1 + 1 := by show (((w.heap.push _).push _).push _).size = _; simp
end Con
end Go.Proofs.YtkklhlffbfgolaaDoor
