/-
  The program's sum of two polynomials: the longer one is cloned, and the other's numbers are put to it.
-/
import Derived.Test.YtkklhlffbfgolaaDoorPd
import Derived.Maps.AppendAt
import Derived.Lib.SliceRun
namespace Go.Proofs.YtkklhlffbfgolaaDoor
namespace Con
open Go.RowKit Alg Mem Pol
set_option linter.unusedVariables false

/-- A slice of the call's own, whatever its capacity. -/
def Own1 (E : TypeId) (w : World) (len : Nat) (z : Nat → Int) (e : Ending) (w' : World) : Prop :=
  ∃ b cap, e = .returned (.slice (some ⟨b, 0, none⟩) len cap) ∧ Row w' w.heap.size E b len cap z ∧ w.grownBy w' none
theorem one_cells (z : Nat → Int) (n : Nat) : ∀ u ∈ vals z n, u.oneCell' = true := by
  intro u hu; simp [vals] at hu; obtain ⟨j, _, rfl⟩ := hu; rfl
theorem cells_at {w : World} {b off len : Nat} {z : Nat → Int} (hc : ∀ j, j < len → w.cell? ⟨b, off + j, none⟩ = some (.int .i64 (z j))) :
    ∀ j u, (vals z len)[j]? = some u → w.cell? ((⟨b, off, none⟩ : Addr).add j) = some u := by
  intro j u hu
  have hj : j < len := by
    have := (List.getElem?_eq_some_iff.1 hu).1; rwa [vals_length] at this
  rw [vals_get z hj] at hu
  cases hu
  have h := hc j hj
  by_cases h0 : j = 0
  · subst h0; simpa [Addr.add] using h
  · simpa [Addr.add, h0] using h
theorem padd_getD (a b : List F) (j : Nat) : (padd a b).getD j 0 = a.getD j 0 + b.getD j 0 := by
  induction a generalizing b j with
  | nil => simp [padd]
  | cons x a ih => cases b with
    | nil => simp [padd]
    | cons y b => cases j with
      | zero => simp [padd]
      | succ j => simpa [padd] using ih b j
theorem fl_getD_out (z : Nat → Int) {len k : Nat} (hk : len ≤ k) : (fl z len).getD k 0 = 0 := by simp [fl, hk]
/-- The sum's numbers. -/
def zsum (la : Nat) (za : Nat → Int) (lb : Nat) (zb : Nat → Int) (j : Nat) : Int := fi ((padd (fl za la) (fl zb lb)).getD j 0)
theorem zsum_both {la lb : Nat} {za zb : Nat → Int} {j : Nat} (ha : j < la) (hb : j < lb) : zsum la za lb zb j = fi (cv (za j) + cv (zb j)) := by
  unfold zsum; rw [padd_getD, fl_getD za ha, fl_getD zb hb]
theorem zsum_left {la lb : Nat} {za zb : Nat → Int} {j : Nat} (ha : j < la) (hb : lb ≤ j) (hf : fok (za j) = true) : zsum la za lb zb j = za j := by
  unfold zsum; rw [padd_getD, fl_getD za ha, fl_getD_out zb hb]
  rw [show cv (za j) + 0 = cv (za j) from by grind, fi_cv hf]
theorem zsum_comm (la : Nat) (za : Nat → Int) (lb : Nat) (zb : Nat → Int) : zsum la za lb zb = zsum lb zb la za := by funext j; unfold zsum; rw [padd_comm]
end Con
end Go.Proofs.YtkklhlffbfgolaaDoor
