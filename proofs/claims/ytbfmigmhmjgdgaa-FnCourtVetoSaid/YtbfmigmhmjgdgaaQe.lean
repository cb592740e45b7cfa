/-
  How the model draws deals; what the model shows of two together, at whatever numbers.
-/
import Derived.Test.YtbfmigmhmjgdgaaQb
import Derived.Test.YtbfmigmhmjgdgaaKs
import Derived.Test.YtbfmigmhmjgdgaaSk
import Derived.Test.YtbfmigmhmjgdgaaKc
namespace Go.Proofs.Ytbfmigmhmjgdgaa
namespace Draw
open Go.RowKit Alg Mem Con Mp
set_option linter.unusedVariables false

/-- The cells of deals. -/
def cellsD : List DV → List Value
  | [] => []
  | x :: r => .int .i64 x.f :: .slice x.a1 x.n1 x.c1 :: .slice x.a2 x.n2 x.c2 :: cellsD r
theorem cellsD_len (L : List DV) : (cellsD L).length = L.length * 3 := by
  induction L with
  | nil => rfl
  | cons x r ih => simp [cellsD, ih]; omega
theorem cellsD_app (L : List DV) (x : DV) : cellsD (L ++ [x]) = cellsD L ++ [.int .i64 x.f, .slice x.a1 x.n1 x.c1, .slice x.a2 x.n2 x.c2] := by
  induction L with
  | nil => rfl
  | cons y r ih => simp [cellsD, ih]
def dz0 : DV := ⟨0, none, 0, 0, fun _ => 0, none, 0, 0, fun _ => 0⟩
def dAt (L : List DV) (j : Nat) : DV := L.getD j dz0
theorem dAt_mem {L : List DV} {j : Nat} (h : j < L.length) : dAt L j ∈ L := by simp [dAt, h]
theorem cellsD_get : ∀ (L : List DV) (j : Nat), j < L.length → (cellsD L)[j * 3]? = some (.int .i64 (dAt L j).f) ∧ (cellsD L)[j * 3 + 1]? = some (.slice (dAt L j).a1 (dAt L j).n1 (dAt L j).c1) ∧ (cellsD L)[j * 3 + 2]? = some (.slice (dAt L j).a2 (dAt L j).n2 (dAt L j).c2)
  | [], j, h => by simp at h
  | x :: r, 0, _ => ⟨rfl, rfl, rfl⟩
  | x :: r, j + 1, h => by
    have := cellsD_get r j (by simpa using h)
    rw [show (j + 1) * 3 = j * 3 + 3 by omega]
    simpa [cellsD, dAt] using this
/-- A deal's two rows, the call's own. -/
def RowsD (w : World) (lo : Nat) (x : DV) : Prop :=
  ∃ b1 b2 : Nat, x.a1 = some ⟨b1, 0, none⟩ ∧ x.a2 = some ⟨b2, 0, none⟩ ∧ Row w lo 3 b1 x.n1 x.c1 x.z1 ∧ Row w lo 3 b2 x.n2 x.c2 x.z2
/-- What a drawn deal's numbers are. -/
def FineD (x : DV) : Prop := x.n1 ≤ 5 ∧ x.n2 ≤ 5 ∧ (∀ i, i < x.n2 → fok (x.z2 i) = true) ∧ 1 ≤ x.f ∧ x.f ≤ 5
/-- The product of two of what is shown, at a place. -/
def msum (n1 n2 : Nat) (z1 z2 : Nat → Int) (j : Nat) : Int := if j < n1 then (if j < n2 then z1 j * z2 j % 47 else z1 j) else z2 j % 47
end Draw
end Go.Proofs.Ytbfmigmhmjgdgaa
/-
  How the model makes a key of deals, whatever they are.
-/

namespace Go.Proofs.Ytbfmigmhmjgdgaa
namespace Draw
open Go.RowKit Alg Mem Con Mp
set_option linter.unusedVariables false

theorem row_blk {w : World} {lo : Nat} {E : TypeId} {b len cap : Nat} {z : Nat → Int} {b' : Nat} {vs : Array Value} {T : TypeId} (h : Row w lo E b len cap z) (k : Blk w b' vs T) (hne : E ≠ T) : b ≠ b' := by
  rintro rfl
  obtain ⟨c, ⟨cur, hb, _, _⟩, _⟩ := h.row
  unfold Blk at k
  rw [hb] at k
  injection k with k
  injection k with _ k2 _
  exact hne k2
theorem app_row2 {w1 : World} {lo : Nat} {E : TypeId} {v' : Value} {k : Nat} {z : Nat → Int} {n : Int} (h : w1.ownsRow lo E 1 v' (k + 1) (vals z k ++ [.int .i64 n])) :
    ∃ b cap, v' = .slice (some ⟨b, 0, none⟩) (k + 1) cap ∧ Row w1 lo E b (k + 1) cap (fun j => if j < k then z j else n) := by
  have h' : w1.ownsRow lo E 1 v' (k + 1) (vals (fun j => if j < k then z j else n) k ++ [.int .i64 n]) := by
    rw [vals_congr (z := fun j => if j < k then z j else n) (y := z) (k := k) fun j hj => by simp [hj]]; exact h
  exact app_row h' (by simp)
/-- A key of the call's own, or none at all. -/
def GotK (w : World) (e : Ending) (w' : World) : Prop :=
  ∃ (need many : Nat) (ag : Option Addr) (ng cg : Nat) (zg : Nat → Int) (ac : Option Addr) (nc cc : Nat) (zc : Nat → Int) (ok : Bool), e = .returned (.tuple #[.agg #[.int .i64 need, .int .i64 many, .slice ag ng cg, .slice ac nc cc], .bool ok]) ∧ need ≤ 5 ∧ many ≤ 5 ∧ ng ≤ 6 ∧ nc ≤ 5 ∧ Ints w' ag ng zg ∧ Ints w' ac nc zc ∧ (∀ b off, ag = some ⟨b, off, none⟩ → w.heap.size ≤ b ∧ b < w'.heap.size) ∧ (∀ b off, ac = some ⟨b, off, none⟩ → w.heap.size ≤ b ∧ b < w'.heap.size) ∧ w.grownBy w' none ∧ (ok = true → 1 ≤ many ∧ 1 ≤ need ∧ need ≤ many) ∧ ((∃ b off, ac = some ⟨b, off, none⟩) ∨ ac = none ∧ nc = 0 ∧ cc = 0)
def stored4 (w : World) (R : Nat) (v0 v1 v2 v3 : Value) : World := (((w.setCell ⟨R, 0, none⟩ v0).setCell ⟨R, 1, none⟩ v1).setCell ⟨R, 2, none⟩ v2).setCell ⟨R, 3, none⟩ v3
/-- Deals that all count, each of another dealer. -/
def Hon (D : Nat → DV) (nd : Nat) (A : Nat → Ans) (na : Nat) (need many : Int) : Prop :=
  dsF D nd = true ∧ ∀ j, j < nd → gdF (D j).f (D j).n1 (D j).z1 (D j).n2 (D j).z2 A na need many = true
/-- A key of the call's own, or none at all; of deals that all count, and are as many as are needed, a key. -/
def GotKH (need many nd : Nat) (D : Nat → DV) (A : Nat → Ans) (na : Nat) (w : World) (e : Ending) (w' : World) : Prop :=
  GotK w e w' ∧ (Hon D nd A na need many → need ≤ nd → ∃ x, e = .returned (.tuple #[x, .bool true]))
end Draw
end Go.Proofs.Ytbfmigmhmjgdgaa
