/-
  Copies of slices, equal slices, marks in slices; the program's change of a slice's element type; the model's value of a polynomial.
-/
import Derived.Test.YtkklhlffbfgolaaDoorPa
import Derived.Test.YtkklhlffbfgolaaDoorPol
namespace Go.Proofs.YtkklhlffbfgolaaDoor
namespace Con
open Go.RowKit Alg Mem
set_option linter.unusedVariables false

theorem info_int : (Tryd.prog.info? 3).map (fun i => (i.zero, i.size, i.bytes)) = some (some (.int .i64 0), 1, 8) := by kernel_rfl
theorem info_elt : (Tryd.prog.info? 62).map (fun i => (i.zero, i.size, i.bytes)) = some (some (.int .i64 0), 1, 8) := by kernel_rfl
theorem und_ints : Tryd.prog.underlying 23 = some (.slice 3) := by kernel_rfl
/-- A new slice, whole: its row begins at a new block. -/
def NewRow (E : TypeId) (w : World) (len : Nat) (z : Nat → Int) (e : Ending) (w' : World) : Prop :=
  ∃ b, e = .returned (.slice (some ⟨b, 0, none⟩) len len) ∧ Row w' w.heap.size E b len len z ∧ w.grownBy w' none

theorem step_row {w : World} {lo : Nat} {E : TypeId} {b len cap k : Nat} {z : Nat → Int} (h : Row w lo E b len cap (fun j => if j < k then z j else 0)) :
    Row (w.setCell ⟨b, k, none⟩ (.int .i64 (z k))) lo E b len cap (fun j => if j < k + 1 then z j else 0) :=
  (h.set k (z k)).congr fun j hj => by
    by_cases e : j = k
    · subst e; simp
    · by_cases hk : j < k
      · simp [e, hk]; omega
      · have : ¬ j < k + 1 := by omega
        simp [e, hk, this]
theorem full_row {w : World} {lo : Nat} {E : TypeId} {b len cap : Nat} {z : Nat → Int} (h : Row w lo E b len cap (fun j => if j < len then z j else 0)) : Row w lo E b len cap z :=
  h.congr fun j hj => by simp [hj]
theorem zero_row {w : World} {lo : Nat} {E : TypeId} {b len cap k : Nat} {z : Nat → Int} (h : Row w lo E b len cap (fun j => if j < k then z j else 0)) (hk : k < len) : w.cell? ⟨b, k, none⟩ = some (.int .i64 0) := by
  have := h.cell hk; simpa using this
theorem first_row (w : World) (E : TypeId) (n : Nat) (hn : n ≤ maxLen) (z : Nat → Int) : Row (w.alloc (.cells (madeCells #[.int .i64 0] n) E)) w.heap.size E w.heap.size n n (fun j => if j < 0 then z j else 0) :=
  (Row.made w E n hn).congr fun j _ => by simp

end Con
end Go.Proofs.YtkklhlffbfgolaaDoor
