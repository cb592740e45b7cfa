/-
  The walks of the exact laws on deals: whether one is well formed, who complains about it.
-/
import Derived.Test.YteibklnonlapoaaDo
import Derived.Test.YteibklnonlapoaaMem
import Derived.Deep.RegionHeld3
namespace Go.Proofs.Yteibklnonlapoaa
namespace Run
open Go.RowKit Alg Mem Con
set_option linter.unusedVariables false

/-- The six cells of two deals in memory. -/
def Six (w' : World) (B : Nat) (f : Int) (s1 s2 : Value) (X : Nat) (t1 t2 : Value) : Prop :=
  w'.cell? ⟨B, 0, none⟩ = some (.int .i64 f) ∧ w'.cell? ⟨B, 1, none⟩ = some s1 ∧ w'.cell? ⟨B, 2, none⟩ = some s2 ∧ w'.cell? ⟨X, 0, none⟩ = some (.int .i64 f) ∧ w'.cell? ⟨X, 1, none⟩ = some t1 ∧ w'.cell? ⟨X, 2, none⟩ = some t2
theorem six_of {w' : World} {B : Nat} {f : Int} {s1 s2 : Value} {X : Nat} {t1 t2 : Value} (h : Dl w' B f s1 s2) (k : Dl w' X f t1 t2) : Six w' B f s1 s2 X t1 t2 := ⟨h.c0, h.c1, h.c2, k.c0, k.c1, k.c2⟩

/-- A slice of the call's own that may be nil: marked, held against its marks. -/
def mks (l : List Int) : List Int := (List.range l.length).map fun j => ((1 + j : Nat) : Int)
theorem mks_len (l : List Int) : (mks l).length = l.length := by simp [mks]
theorem mks_at (l : List Int) (j : Nat) (h : j < l.length) : li (mks l) j = ((1 + j : Nat) : Int) := by simp [li, mks, h]
theorem mark_lst (w : World) (lo : Nat) (v : Value) (l : List Int) (h : Lst w lo v l) (hl : l.length ≤ 2000000) :
    Calls Try.prog 39 #[v, .int .i64 1] w fun e w' => e = .returned (.int .i64 ((1 + l.length : Nat) : Int)) ∧ w.grownBy w' v.ownBlock ∧ Lst w' lo v (mks l) := by
  rcases h with ⟨rfl, rfl⟩ | ⟨b, c, rfl, hr⟩
  · refine (mark_zero _ _ _ _).mono ?_
    rintro e w' ⟨rfl, rfl⟩
    exact ⟨rfl, Draw.grown_refl _ _, .inl ⟨rfl, rfl⟩⟩
  · refine (mark_row _ _ _ l.length _ (li l) 1 hr hl (by omega)).mono ?_
    rintro e w' ⟨rfl, hg, hr⟩
    exact ⟨rfl, hg, .inr ⟨b, c, by rw [mks_len], by rw [mks_len]; exact hr.congr fun j hj => (mks_at l j hj).symm⟩⟩
theorem held_lst (w : World) (lo : Nat) (v : Value) (l : List Int) (h : Lst w lo v (mks l)) (hl : l.length ≤ 2000000) :
    Calls Try.prog 40 #[v, .int .i64 1] w fun e w' => e = .returned (.int .i64 ((1 + l.length : Nat) : Int)) ∧ w = w' := by
  obtain ⟨a, c, rfl, hI, _, _⟩ := h.slice
  rw [mks_len] at hI ⊢
  exact held _ _ l.length _ 1 (hI.congr fun j hj => mks_at l j hj) hl (by omega)
theorem Lst.grown {w wr w1 : World} {lo : Nat} {v : Value} {l : List Int} (h : Lst wr lo v l) (hlo : w.heap.size ≤ lo) (hg : w.grownBy wr none) (hk : wr.grownBy w1 v.ownBlock) : w.grownBy w1 none := by
  rcases h with ⟨rfl, rfl⟩ | ⟨b, c, rfl, hr⟩
  · exact gtr hg hk
  · exact grown_new hg (Nat.le_trans hlo hr.from_) hk

end Run
end Go.Proofs.Yteibklnonlapoaa
