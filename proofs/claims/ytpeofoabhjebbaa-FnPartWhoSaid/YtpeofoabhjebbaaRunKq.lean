/-
  The walks of the laws on which deals count.
-/
import Derived.Test.YtpeofoabhjebbaaQc
import Derived.Test.YtpeofoabhjebbaaSk
import Derived.Test.YtpeofoabhjebbaaMem
import Derived.BigQuiet
namespace Go.Proofs.Ytpeofoabhjebbaa
namespace Run
open Go.RowKit Alg Mem Con Mp
set_option linter.unusedVariables false

/-- Does the dealt share, or one of the first answered ones, fit? -/
def fitk (g : Int → Bool) (s : Int) (A : Nat → Ans) (f t : Int) (q : Nat) : Bool := g s || (shs A f t q).any g
theorem fitk_yes {g : Int → Bool} {s : Int} {A : Nat → Ans} {f t : Int} {q : Nat} (h : fitk g s A f t q = true) : fitk g s A f t (q + 1) = true := by
  unfold fitk at *; rw [Bool.or_eq_true] at *
  rcases h with h | h
  · exact .inl h
  · refine .inr ?_; simp only [shs, List.any_append, h, Bool.true_or]
theorem fitk_skip {g : Int → Bool} {s : Int} {A : Nat → Ans} {f t : Int} {q : Nat} (h : ¬ ((A q).f = f ∧ (A q).t = t)) : fitk g s A f t (q + 1) = fitk g s A f t q := by unfold fitk; rw [shs_no h]
theorem fitk_try {g : Int → Bool} {s : Int} {A : Nat → Ans} {f t : Int} {q : Nat} (h : fitk g s A f t q = false) (e : (A q).f = f ∧ (A q).t = t) : fitk g s A f t (q + 1) = g (A q).s := by
  unfold fitk at *; rw [shs_yes e, List.any_append]
  rw [Bool.or_eq_false_iff] at h
  simp [h.1, h.2]
theorem find_any {g : Int → Bool} : ∀ (l : List Int), (l.find? g).isSome = l.any g
  | [] => rfl
  | x :: r => by
    rw [List.find?_cons, List.any_cons]
    cases g x with
    | true => rfl
    | false => simpa using find_any r
theorem fitk_end {g : Int → Bool} {s : Int} {A : Nat → Ans} {f t : Int} {q : Nat} : fitk g s A f t q = (acc g s (shs A f t q)).isSome := by
  unfold fitk acc
  cases g s with
  | true => rfl
  | false => simp [find_any]
theorem badl_all {g : Nat → Bool} {k : Nat} (h : (badl g k).length = 0) : ∀ j, j < k → g j = true := by
  induction k with
  | zero => intro j hj; omega
  | succ k ih =>
    cases hg : g k with
    | false => rw [badl_no hg] at h; simp at h
    | true =>
      rw [badl_yes hg] at h
      intro j hj
      rcases Nat.lt_or_ge j k with h' | h'
      · exact ih h j h'
      · obtain rfl : j = k := by omega
        exact hg
theorem accs_all {f : Int} {n1 : Nat} {z1 z2 : Nat → Int} {A : Nat → Ans} {na k : Nat} (h : ∀ j, j < k → cfz n1 z1 ((j : Int) + 1) (z2 j) = true) : accs f n1 z1 z2 A na k = true := by
  rw [accs_iff]; intro j hj; rw [acc_dealt (h j hj)]; rfl
end Run
end Go.Proofs.Ytpeofoabhjebbaa
