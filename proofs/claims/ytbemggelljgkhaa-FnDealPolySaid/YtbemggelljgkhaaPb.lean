/-
  What the functions that test places answer, the program's and the model's; whether a slice has a number; whether two slices hold the same.
-/
import Derived.Test.YtbemggelljgkhaaPa
namespace Go.Proofs.Ytbemggelljgkhaa
namespace Con
open Go.RowKit Alg Mem
set_option linter.unusedVariables false

theorem hasz_yes {z : Nat → Int} {n : Int} {k m : Nat} (hk : k < m) (h : z k = n) : hasz z n m = true := hasz_iff.2 ⟨k, hk, h⟩
theorem hasz_next {z : Nat → Int} {n : Int} {k : Nat} (h : hasz z n k = false) (hz : ¬ z k = n) : hasz z n (k + 1) = false := by
  rw [hasz_no] at h ⊢
  intro j hj
  rcases Nat.lt_or_ge j k with h' | h'
  · exact h j h'
  · obtain rfl : j = k := by omega
    exact hz
/-- Where it stands, or -1. -/
def Idx (z : Nat → Int) (n : Int) (len : Nat) (w : World) (e : Ending) (w' : World) : Prop :=
  ∃ r : Int, e = .returned (.int .i64 r) ∧ w = w' ∧ (hasz z n len = true ∧ 0 ≤ r ∨ hasz z n len = false ∧ r = -1)
end Con
end Go.Proofs.Ytbemggelljgkhaa
