/-
  The words of the exact laws that take a deal: its size, the deal anew, whether two deals read alike, and a deal marked.
-/
import Derived.Test.YtocecdnebkeeoaaDm
import Derived.Test.YtocecdnebkeeoaaPc
namespace Go.Proofs.Ytocecdnebkeeoaa
namespace Con
open Go.RowKit Alg Mem
set_option linter.unusedVariables false

theorem szint_yes (w : World) (a : Option Addr) (len cap : Nat) (left : Int) (h1 : left ≤ 2000000) (h : (len : Int) ≤ left) :
    Calls Try.prog 45 #[.slice a len cap, .int .i64 left] w fun e w' => e = .returned (.int .i64 (left - (len : Int))) ∧ w = w' := by
  have hlt : ¬ left - (len : Int) < 0 := by omega
  go_enter Try.func45, Try.ntmps45
  go_wp2
  go_ret
  exact ⟨rfl, rfl⟩
theorem szint_no (w : World) (a : Option Addr) (len cap : Nat) (left : Int) (h0 : 0 ≤ left) (h1 : left ≤ 2000000) (hl : len ≤ maxLen) (h : left < (len : Int)) :
    Calls Try.prog 45 #[.slice a len cap, .int .i64 left] w fun e w' => e = .returned (.int .i64 (-1)) ∧ w = w' := by
  unfold maxLen at hl
  have hlt : left - (len : Int) < 0 := by omega
  go_enter Try.func45, Try.ntmps45
  go_wp2
  go_ret
  exact ⟨rfl, rfl⟩
/-- A deal of the call's own: two rows, one ahead of the other. -/
def DealO (w : World) (f : Int) (n1 : Nat) (z1 : Nat → Int) (n2 : Nat) (z2 : Nat → Int) (e : Ending) (w' : World) : Prop :=
  ∃ b1 b2 : Nat, e = .returned (.agg #[.int .i64 f, .slice (some ⟨b1, 0, none⟩) n1 n1, .slice (some ⟨b2, 0, none⟩) n2 n2]) ∧ b1 < b2 ∧ Row w' w.heap.size 3 b1 n1 n1 z1 ∧ Row w' w.heap.size 3 b2 n2 n2 z2 ∧ w.grownBy w' none
theorem blk_new2 (w : World) (o1 : Obj) (vs : Array Value) (T : TypeId) : Blk ((w.alloc o1).alloc (.cells vs T)) (w.heap.size + 1) vs T := by
  have h := Blk.new (w.alloc o1) vs T
  rw [show (w.alloc o1).heap.size = w.heap.size + 1 by show (w.heap.push _).size = _; simp] at h
  exact h
theorem blk_new3 (w : World) (o1 o2 : Obj) (vs : Array Value) (T : TypeId) : Blk (((w.alloc o1).alloc o2).alloc (.cells vs T)) (w.heap.size + 1 + 1) vs T := by
  have h := Blk.new ((w.alloc o1).alloc o2) vs T
  rw [show ((w.alloc o1).alloc o2).heap.size = w.heap.size + 1 + 1 by show ((w.heap.push _).push _).size = _; simp] at h
  exact h
theorem size3 (w : World) (o1 o2 o3 : Obj) : (((w.alloc o1).alloc o2).alloc o3).heap.size = w.heap.size + 1 + 1 + 1 := by show (((w.heap.push _).push _).push _).size = _; simp
end Con
end Go.Proofs.Ytocecdnebkeeoaa
