/-
  The program's factor of a place: the product over the other places, by the inverse of the same at the place itself.
-/
import Derived.Test.YthbigmcklacbnaaPg
namespace Go.Proofs.Ythbigmcklacbnaa
namespace Con
open Go.RowKit Go.Shelf Alg Mem Pol
set_option linter.unusedVariables false
attribute [local go_sem] Oper.semAt_some

/-- What is proved once and used on several ways: no tactic looks into it. -/
structure Later (p : Prop) : Prop where
  out : p
/-- The product when some have come. -/
def np (x : F) (pre : List F) : F := pre.foldl (fun v o => v * (x - o)) 1
theorem np_nil (x : F) : np x [] = 1 := rfl
theorem np_snoc (x : F) (pre : List F) (o : F) : np x (pre ++ [o]) = np x pre * (x - o) := by simp [np, List.foldl_append]
theorem np_prd (x : F) (l : List F) : np x l = prd l x := by
  have h : ∀ (l : List F) (c : F), l.foldl (fun v o => v * (x - o)) c = c * prd l x := by
    intro l
    induction l with
    | nil => intro c; simp only [List.foldl, prd]; grind
    | cons o l ih => intro c; simp only [List.foldl_cons, ih, prd]; grind
  rw [np, h]; grind
theorem np_step (v x o : F) : fi v * ((fi x + 23 - fi o) % 23) % 23 = fi (v * (x - o)) := by
  rw [← fi_mul, ← fi_dif, mulF_in (fi_ok _) (difF_ok _ _), difF_in (fi_ok _) (fi_ok _)]

theorem boxes7 (w : World) (v0 v1 v2 v3 v4 v5 v6 : Value) (t0 t1 t2 t3 t4 t5 t6 : TypeId) (W : World)
    (h : W = ((((((w.alloc (.cells #[v0] t0)).alloc (.cells #[v1] t1)).alloc (.cells #[v2] t2)).alloc (.cells #[v3] t3)).alloc (.cells #[v4] t4)).alloc (.cells #[v5] t5)).alloc (.cells #[v6] t6)) :
    Boxed W w.heap.size t0 v0 ∧ Boxed W (w.heap.size + 1) t1 v1 ∧ Boxed W (w.heap.size + 1 + 1) t2 v2 ∧ Boxed W (w.heap.size + 1 + 1 + 1) t3 v3 ∧ Boxed W (w.heap.size + 1 + 1 + 1 + 1) t4 v4 ∧ Boxed W (w.heap.size + 1 + 1 + 1 + 1 + 1) t5 v5 ∧ Boxed W (w.heap.size + 1 + 1 + 1 + 1 + 1 + 1) t6 v6 ∧
      W.heap.size = w.heap.size + 7 ∧ Below w.heap.size w W := by
  subst h
  refine ⟨((((((Boxed.new w t0 v0).alloc _).alloc _).alloc _).alloc _).alloc _).alloc _, ?_, ?_, ?_, ?_, ?_, ?_, by simp, ?_⟩
  · have := (((((Boxed.new (w.alloc (.cells #[v0] t0)) t1 v1).alloc (.cells #[v2] t2)).alloc (.cells #[v3] t3)).alloc (.cells #[v4] t4)).alloc (.cells #[v5] t5)).alloc (.cells #[v6] t6); simpa using this
  · have := ((((Boxed.new ((w.alloc (.cells #[v0] t0)).alloc (.cells #[v1] t1)) t2 v2).alloc (.cells #[v3] t3)).alloc (.cells #[v4] t4)).alloc (.cells #[v5] t5)).alloc (.cells #[v6] t6); simpa using this
  · have := (((Boxed.new (((w.alloc (.cells #[v0] t0)).alloc (.cells #[v1] t1)).alloc (.cells #[v2] t2)) t3 v3).alloc (.cells #[v4] t4)).alloc (.cells #[v5] t5)).alloc (.cells #[v6] t6); simpa using this
  · have := ((Boxed.new ((((w.alloc (.cells #[v0] t0)).alloc (.cells #[v1] t1)).alloc (.cells #[v2] t2)).alloc (.cells #[v3] t3)) t4 v4).alloc (.cells #[v5] t5)).alloc (.cells #[v6] t6); simpa using this
  · have := (Boxed.new (((((w.alloc (.cells #[v0] t0)).alloc (.cells #[v1] t1)).alloc (.cells #[v2] t2)).alloc (.cells #[v3] t3)).alloc (.cells #[v4] t4)) t5 v5).alloc (.cells #[v6] t6); simpa using this
  · have := Boxed.new ((((((w.alloc (.cells #[v0] t0)).alloc (.cells #[v1] t1)).alloc (.cells #[v2] t2)).alloc (.cells #[v3] t3)).alloc (.cells #[v4] t4)).alloc (.cells #[v5] t5)) t6 v6; simpa using this
  · exact (((((((Below.refl _ w).alloc (Nat.le_refl _) _).alloc (by simp) _).alloc (by simp; omega) _).alloc (by simp; omega) _).alloc (by simp; omega) _).alloc (by simp; omega) _).alloc (by simp; omega) _

/-- What two stores leave, into the two products. -/
theorem two_set (W : World) (s : Nat) (u v : Value) (hu : ∃ u', W.cell? ⟨s + 1 + 1 + 1, 0, none⟩ = some u' ∧ W.frozen? ⟨s + 1 + 1 + 1, 0, none⟩ = false) (hv : ∃ v', W.cell? ⟨s + 1 + 1 + 1 + 1, 0, none⟩ = some v' ∧ W.frozen? ⟨s + 1 + 1 + 1 + 1, 0, none⟩ = false) (W2 : World)
    (h : W2 = ((W.setCell ⟨s + 1 + 1 + 1, 0, none⟩ u).setCell ⟨s + 1 + 1 + 1 + 1, 0, none⟩ v).drew.drew) :
    KeepsOthers W W2 ∧ Kept s (s + 1 + 1 + 1 + 1 + 1) (s + 1 + 1 + 1 + 1 + 1 + 1) W W2 ∧ (W2.cell? ⟨s + 1 + 1 + 1, 0, none⟩ = some u ∧ W2.frozen? ⟨s + 1 + 1 + 1, 0, none⟩ = false) ∧ (W2.cell? ⟨s + 1 + 1 + 1 + 1, 0, none⟩ = some v ∧ W2.frozen? ⟨s + 1 + 1 + 1 + 1, 0, none⟩ = false) ∧
      (∀ k, k ≤ s + 1 + 1 → W2.cell? ⟨k, 0, none⟩ = W.cell? ⟨k, 0, none⟩) ∧ Below s W W2 := by
  subst h
  obtain ⟨u', hu, hfu⟩ := hu
  obtain ⟨v', hv, hfv⟩ := hv
  have hb : Below s W ((W.setCell ⟨s + 1 + 1 + 1, 0, none⟩ u).setCell ⟨s + 1 + 1 + 1 + 1, 0, none⟩ v).drew.drew :=
    ((((Below.refl s W).setCell (p := ⟨s + 1 + 1 + 1, 0, none⟩) (by show s ≤ s + 1 + 1 + 1; omega) u).setCell (p := ⟨s + 1 + 1 + 1 + 1, 0, none⟩) (by show s ≤ s + 1 + 1 + 1 + 1; omega) v).drew).drew
  have hh : ∀ k, k ≠ s + 1 + 1 + 1 → k ≠ s + 1 + 1 + 1 + 1 → ((W.setCell ⟨s + 1 + 1 + 1, 0, none⟩ u).setCell ⟨s + 1 + 1 + 1 + 1, 0, none⟩ v).drew.drew.heap[k]? = W.heap[k]? := fun k h1 h2 =>
    (heap_setCell_other _ _ _ _ (by show k ≠ s + 1 + 1 + 1 + 1; exact h2)).trans (heap_setCell_other W _ _ _ (by show k ≠ s + 1 + 1 + 1; exact h1))
  have e1 : (W.setCell ⟨s + 1 + 1 + 1, 0, none⟩ u).cell? ⟨s + 1 + 1 + 1 + 1, 0, none⟩ = some v' := by
    rw [World.cell?_setCell_other W _ _ u (by intro e; injection e with e1; omega)]; exact hv
  refine ⟨(((KeepsOthers.setCell _ _ _).trans (KeepsOthers.setCell _ _ _)).trans (KeepsOthers.drew _)).trans (KeepsOthers.drew _), ⟨hb, hh _ (by omega) (by omega), hh _ (by omega) (by omega)⟩, ⟨?_, ?_⟩, ⟨?_, ?_⟩, fun k hk => World.cell?_of_block (w := W) (hh k (by omega) (by omega)), hb⟩
  · show ((W.setCell ⟨s + 1 + 1 + 1, 0, none⟩ u).setCell ⟨s + 1 + 1 + 1 + 1, 0, none⟩ v).cell? _ = _
    rw [World.cell?_setCell_other _ _ _ v (by intro e; injection e with e1; omega)]
    exact World.cell?_setCell_same' _ _ _ (by rw [hu]; rfl)
  · show ((W.setCell ⟨s + 1 + 1 + 1, 0, none⟩ u).setCell ⟨s + 1 + 1 + 1 + 1, 0, none⟩ v).frozen? _ = _
    rw [World.frozen?_setCell, World.frozen?_setCell]; exact hfu
  · show ((W.setCell ⟨s + 1 + 1 + 1, 0, none⟩ u).setCell ⟨s + 1 + 1 + 1 + 1, 0, none⟩ v).cell? _ = _
    exact World.cell?_setCell_same' _ _ _ (by rw [e1]; rfl)
  · show ((W.setCell ⟨s + 1 + 1 + 1, 0, none⟩ u).setCell ⟨s + 1 + 1 + 1 + 1, 0, none⟩ v).frozen? _ = _
    rw [World.frozen?_setCell, World.frozen?_setCell]; exact hfv

end Con
end Go.Proofs.Ythbigmcklacbnaa
