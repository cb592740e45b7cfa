/-
  How the model draws a number of the field: it lies from -1 to 23, and all that was there stays, but the reader's own place.
-/
import Derived.Test.YtbemggelljgkhaaDoorDraw
namespace Go.Proofs.YtbemggelljgkhaaDoor
namespace Draw
open Go.RowKit
set_option linter.unusedVariables false

theorem grown_trans {a b c : World} {r : Option Nat} (h : a.grownBy b r) (k : b.grownBy c r) : a.grownBy c r :=
  ⟨k.os.trans h.os, k.tape.trans h.tape, k.output.trans h.output, Nat.le_trans h.size k.size, fun i hi hne => (k.block i (Nat.lt_of_lt_of_le hi h.size) hne).trans (h.block i hi hne)⟩
theorem grown_refl (a : World) (r : Option Nat) : a.grownBy a r := ⟨rfl, rfl, rfl, Nat.le_refl _, fun _ _ _ => rfl⟩
theorem grown_some {a b : World} {r : Option Nat} (h : a.grownBy b none) : a.grownBy b r :=
  ⟨h.os, h.tape, h.output, h.size, fun i hi _ => h.block i hi (by simp)⟩
theorem grown_alloc (w : World) (o : Obj) (r : Option Nat) : w.grownBy (w.alloc o) r :=
  ⟨rfl, rfl, rfl, by simp, fun k hk _ => Below.heap_alloc _ _ _ hk⟩
theorem Rd.alloc {w : World} {base B : Nat} {a : Option Addr} {len cap p : Nat} (h : Rd w base B a len cap p) (o : Obj) : Rd (w.alloc o) base B a len cap p :=
  h.kept (fun k hk => Below.heap_alloc _ _ _ (by have := h.lt; have := h.from_; omega)) (Below.heap_alloc _ _ _ h.lt)

/-- What a draw leaves: a number from lo to hi; the reader at most k places on; all else as it was. -/
def Drawn (w : World) (base B : Nat) (a : Option Addr) (len cap p k : Nat) (lo hi : Int) (e : Ending) (w' : World) : Prop :=
  ∃ x : Int, lo ≤ x ∧ x ≤ hi ∧ e = .returned (.int .i64 x) ∧ w.grownBy w' (some B) ∧ ∃ p', p ≤ p' ∧ p' ≤ p + k ∧ Rd w' base B a len cap p'

theorem two_cells {w w' : World} {B : Nat} {x y : Value} {T : TypeId} (hg : (w.alloc (.cells #[x, y] T (0, 0))).grownBy w' (some B)) (hB : B < w.heap.size) :
    w'.cell? ⟨w.heap.size, 0, none⟩ = some x ∧ w'.cell? ⟨w.heap.size, 1, none⟩ = some y := by
  have hb : w'.heap[w.heap.size]? = (w.alloc (.cells #[x, y] T (0, 0))).heap[w.heap.size]? := hg.block _ (by simp) (by intro e; injection e with e; omega)
  have hn : (w.alloc (.cells #[x, y] T (0, 0))).heap[w.heap.size]? = some (.cells #[x, y] T (0, 0)) := by
    show (w.heap.push _)[w.heap.size]? = _
    simp
  rw [hn] at hb
  exact ⟨by simp [World.cell?, hb], by simp [World.cell?, hb]⟩

/-- What drawing from a code leaves: a new block or more; all that was there as it was. -/
def Got (w : World) (lo hi : Int) (e : Ending) (w' : World) : Prop :=
  ∃ x : Int, lo ≤ x ∧ x ≤ hi ∧ e = .returned (.int .i64 x) ∧ w.grownBy w' none
def Got2 (w : World) (lo hi : Int) (e : Ending) (w' : World) : Prop :=
  ∃ x y : Int, lo ≤ x ∧ x ≤ hi ∧ lo ≤ y ∧ y ≤ hi ∧ e = .returned (.tuple #[.int .i64 x, .int .i64 y]) ∧ w.grownBy w' none

/-- Behind the reader's block nothing that was there has turned. -/
theorem grown_old {a b c : World} (h : a.grownBy b none) (k : b.grownBy c (some a.heap.size)) : a.grownBy c none :=
  ⟨k.os.trans h.os, k.tape.trans h.tape, k.output.trans h.output, Nat.le_trans h.size k.size,
    fun i hi _ => (k.block i (Nat.lt_of_lt_of_le hi h.size) (by intro e; injection e with e; omega)).trans (h.block i hi (by simp))⟩

end Draw
end Go.Proofs.YtbemggelljgkhaaDoor
