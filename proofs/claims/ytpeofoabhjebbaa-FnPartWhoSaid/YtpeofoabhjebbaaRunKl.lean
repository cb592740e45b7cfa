/-
  The walk of the law on answers that are wrong.
-/
import Derived.Test.YtpeofoabhjebbaaRunKq
namespace Go.Proofs.Ytpeofoabhjebbaa
namespace Run
open Go.RowKit Alg Mem Con Mp
set_option linter.unusedVariables false

theorem shs_mem {A : Nat → Ans} {f t x : Int} {k : Nat} (h : x ∈ shs A f t k) : ∃ j, j < k ∧ (A j).t = t ∧ (A j).s = x := by
  induction k with
  | zero => simp [shs] at h
  | succ k ih =>
    by_cases e : (A k).f = f ∧ (A k).t = t
    · rw [shs_yes e] at h
      rcases List.mem_append.1 h with h | h
      · obtain ⟨j, h1, h2⟩ := ih h; exact ⟨j, by omega, h2⟩
      · simp at h; exact ⟨k, by omega, e.2, h.symm⟩
    · rw [shs_no e] at h
      obtain ⟨j, h1, h2⟩ := ih h; exact ⟨j, by omega, h2⟩
/-- Where no answer fits just the dealt shares count. -/
theorem accs_wrong {f : Int} {n1 : Nat} {z1 z2 : Nat → Int} {A : Nat → Ans} {na k : Nat} (h : ∀ j, j < na → cfz n1 z1 (A j).t (A j).s = false) : accs f n1 z1 z2 A na k = decide ((badl (bfit n1 z1 z2) k).length = 0) := by
  induction k with
  | zero => rfl
  | succ k ih =>
    have hacc : (acc (cfz n1 z1 ((k : Int) + 1)) (z2 k) (shs A f ((k : Int) + 1) na)).isSome = cfz n1 z1 ((k : Int) + 1) (z2 k) := by
      cases hc : cfz n1 z1 ((k : Int) + 1) (z2 k) with
      | true => rw [acc_dealt hc]; rfl
      | false =>
        rw [acc_ans hc, List.find?_eq_none.2]
        · rfl
        · intro x hx
          obtain ⟨j, h1, h2, h3⟩ := shs_mem hx
          have := h j h1
          rw [h2, h3] at this
          simp [this]
    have hstep : accs f n1 z1 z2 A na (k + 1) = (accs f n1 z1 z2 A na k && cfz n1 z1 ((k : Int) + 1) (z2 k)) := by rw [← hacc]; rfl
    rw [hstep, ih]
    cases hc : cfz n1 z1 ((k : Int) + 1) (z2 k) with
    | true => rw [badl_yes (g := bfit n1 z1 z2) hc]; simp
    | false => rw [badl_no (g := bfit n1 z1 z2) hc]; simp
/-- Answers of which none fits. -/
def Wrong (n1 : Nat) (z1 : Nat → Int) (L : List Ans) : Prop := ∀ x ∈ L, cfz n1 z1 x.t x.s = false
theorem Wrong.at {n1 : Nat} {z1 : Nat → Int} {L : List Ans} (h : Wrong n1 z1 L) : ∀ j, j < L.length → cfz n1 z1 (Draw.aAt L j).t (Draw.aAt L j).s = false := fun j hj => h _ (by simp [Draw.aAt, hj])
theorem Wrong.add {n1 : Nat} {z1 : Nat → Int} {L : List Ans} {x : Ans} (h : Wrong n1 z1 L) (hx : cfz n1 z1 x.t x.s = false) : Wrong n1 z1 (L ++ [x]) := fun y hy => by
  rcases List.mem_append.1 hy with hy | hy
  · exact h y hy
  · simp at hy; subst hy; exact hx
theorem own_add {W W' : World} {lo : Nat} {v v' : Value} {L : List Ans} {x : Ans} (h : Draw.OwnA W lo v L) (ho : W'.ownsRow lo 144 3 v' (L.length + 1) (Draw.cellsA L ++ [.int .i64 x.f, .int .i64 x.t, .int .i64 x.s])) (hw : wf x.f = true ∧ wf x.t = true ∧ wf x.s = true) : Draw.OwnA W' lo v' (L ++ [x]) := by
  refine ⟨by rw [Draw.cellsA_app]; simpa using ho, fun y hy => ?_⟩
  rcases List.mem_append.1 hy with hy | hy
  · exact h.2 y hy
  · simp at hy; subst hy; exact hw
theorem lpnum (w : World) (x : Nat) (hx : x ≤ 4000000) : Calls Try.prog 44 #[.int .i64 (x : Int)] w fun e w' => e = .returned (.int .i64 ((x % 23 : Nat) : Int)) ∧ w = w' := by
  have h1 : ((x : Int)).tmod 23 = ((x % 23 : Nat) : Int) := by rw [Int.tmod_eq_emod_of_nonneg (by omega)]; omega
  go_enter Try.func44, Try.ntmps44
  go_wp2
  go_ret
  exact ⟨by first | rfl | (congr 2) | exact Mem.ret_i (by first | exact h1 | omega), rfl⟩
end Run
end Go.Proofs.Ytpeofoabhjebbaa
