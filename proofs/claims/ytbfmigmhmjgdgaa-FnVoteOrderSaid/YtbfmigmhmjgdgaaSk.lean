/-
  Which share a member accepts of a deal; whether a deal counts: the program's functions, at every deal and all answers.
-/
import Derived.Test.YtbfmigmhmjgdgaaMp
import Derived.Test.YtbfmigmhmjgdgaaDo
import Derived.Maps.OwnOps
import Derived.Deep.RegionHeld3
namespace Go.Proofs.Ytbfmigmhmjgdgaa
namespace Mp
open Go.RowKit Alg Mem Con Me
set_option linter.unusedVariables false

/-- The share that a member accepts: the dealt one, if it fits, or else the first answered one that does. -/
def acc (g : Int → Bool) (s : Int) (l : List Int) : Option Int := if g s then some s else l.find? g
theorem acc_dealt {g : Int → Bool} {s : Int} {l : List Int} (h : g s = true) : acc g s l = some s := by simp [acc, h]
theorem acc_ans {g : Int → Bool} {s : Int} {l : List Int} (h : g s = false) : acc g s l = l.find? g := by simp [acc, h]
def accV : Option Int → Value
  | some s => .tuple #[.int .i64 s, .bool true]
  | none => .tuple #[.int .i64 0, .bool false]
theorem find_at {g : Int → Bool} : ∀ {l : List Int} {k : Nat}, (∀ j, j < k → g (li l j) = false) → k < l.length → g (li l k) = true → l.find? g = some (li l k)
  | [], k, _, h, _ => by simp at h
  | x :: r, 0, _, _, hg => by
    have : g x = true := by simpa [li] using hg
    simp [this, li]
  | x :: r, k + 1, hn, hk, hg => by
    have h0 : g x = false := by simpa [li] using hn 0 (by omega)
    have := find_at (g := g) (l := r) (k := k) (fun j hj => by simpa [li] using hn (j + 1) (by omega)) (by simpa using hk) (by simpa [li] using hg)
    rw [List.find?_cons, h0]
    simpa [li] using this
theorem find_no {g : Int → Bool} {l : List Int} (h : ∀ j, j < l.length → g (li l j) = false) : l.find? g = none := by
  rw [List.find?_eq_none]
  intro x hx
  obtain ⟨j, hj, rfl⟩ := List.getElem_of_mem hx
  have := h j hj
  simp [li, hj] at this
  simp [this]
theorem own_ints {w : World} {base : Nat} {e : TypeId} {v : Value} {zs : List Int} (h : w.ownsInts base e .i64 v zs) : ∃ a c, v = .slice a zs.length c ∧ Ints w a zs.length (li zs) := by
  by_cases h0 : zs.length = 0
  · rcases h.1.2 with ⟨rfl, _⟩ | ⟨g, cap, cur, rfl, _⟩
    · exact ⟨none, 0, by rw [h0], .inl h0⟩
    · exact ⟨_, cap, rfl, .inl h0⟩
  · obtain ⟨b, cap, rfl, hr⟩ := row_of_owns (z := li zs) h.1 (by omega) (fun j hj => by simp [li, hj])
    exact ⟨_, cap, rfl, hr.ints⟩
theorem wf_small {n : Int} (h : 0 ≤ n) (h' : n ≤ 1000) : wf n = true := WalkArith.wf_i64 (by omega)

/-- Do the first k members accept a share? -/
def accs (f : Int) (n1 : Nat) (z1 : Nat → Int) (z2 : Nat → Int) (A : Nat → Ans) (na : Nat) : Nat → Bool
  | 0 => true
  | k + 1 => accs f n1 z1 z2 A na k && (acc (cfz n1 z1 ((k : Int) + 1)) (z2 k) (shs A f ((k : Int) + 1) na)).isSome
theorem accs_iff {f : Int} {n1 : Nat} {z1 z2 : Nat → Int} {A : Nat → Ans} {na k : Nat} : accs f n1 z1 z2 A na k = true ↔ ∀ j, j < k → (acc (cfz n1 z1 ((j : Int) + 1)) (z2 j) (shs A f ((j : Int) + 1) na)).isSome = true := by
  induction k with
  | zero => simp [accs]
  | succ k ih =>
    simp only [accs, Bool.and_eq_true, ih]
    exact ⟨fun h j hj => by rcases Nat.lt_or_ge j k with h' | h'; exact h.1 j h'; obtain rfl : j = k := by omega
                            exact h.2, fun h => ⟨fun j hj => h j (by omega), h k (by omega)⟩⟩
theorem accs_no {f : Int} {n1 : Nat} {z1 z2 : Nat → Int} {A : Nat → Ans} {na k m : Nat} (hk : k < m) (h : acc (cfz n1 z1 ((k : Int) + 1)) (z2 k) (shs A f ((k : Int) + 1) na) = none) : accs f n1 z1 z2 A na m = false := by
  cases h' : accs f n1 z1 z2 A na m with
  | false => rfl
  | true => have := accs_iff.1 h' k hk; rw [h] at this; cases this
theorem accs_next {f : Int} {n1 : Nat} {z1 z2 : Nat → Int} {A : Nat → Ans} {na k : Nat} {s : Int} (h : accs f n1 z1 z2 A na k = true) (hs : acc (cfz n1 z1 ((k : Int) + 1)) (z2 k) (shs A f ((k : Int) + 1) na) = some s) : accs f n1 z1 z2 A na (k + 1) = true := by simp [accs, h, hs]
/-- Does a deal count? -/
def gdF (f : Int) (n1 : Nat) (z1 : Nat → Int) (n2 : Nat) (z2 : Nat → Int) (A : Nat → Ans) (na : Nat) (need many : Int) : Bool := dlF f n1 z1 n2 z2 need many && (decide (f ≤ many) && accs f n1 z1 z2 A na n2)
section
variable {f : Int} {n1 : Nat} {z1 : Nat → Int} {n2 : Nat} {z2 : Nat → Int} {A : Nat → Ans} {na : Nat} {need many : Int}
theorem gd_iff : gdF f n1 z1 n2 z2 A na need many = true ↔ dlF f n1 z1 n2 z2 need many = true ∧ f ≤ many ∧ accs f n1 z1 z2 A na n2 = true := by simp [gdF]
theorem gd_d (h : dlF f n1 z1 n2 z2 need many = false) : gdF f n1 z1 n2 z2 A na need many = false := by simp [gdF, h]
theorem gd_f (h : ¬ f ≤ many) : gdF f n1 z1 n2 z2 A na need many = false := by simp [gdF, h]
theorem gd_a (h : accs f n1 z1 z2 A na n2 = false) : gdF f n1 z1 n2 z2 A na need many = false := by simp [gdF, h]
theorem gd_y (h : dlF f n1 z1 n2 z2 need many = true) (h2 : f ≤ many) (h3 : accs f n1 z1 z2 A na n2 = true) : gdF f n1 z1 n2 z2 A na need many = true := by simp [gdF, h, h2, h3]
end
end Mp
end Go.Proofs.Ytbfmigmhmjgdgaa
/-
  Which share a member accepts of a deal; whether a deal counts: the model's functions.
-/

namespace Go.Proofs.Ytbfmigmhmjgdgaa
namespace Mp
open Go.RowKit Alg Mem Con Me
set_option linter.unusedVariables false

theorem find_snoc_no {g : Int → Bool} {l : List Int} {s : Int} (h : l.find? g = none) (hs : g s = false) : (l ++ [s]).find? g = none := by
  rw [List.find?_append, h]; simp [hs]
theorem find_snoc_yes {g : Int → Bool} {l : List Int} {s : Int} (h : l.find? g = none) (hs : g s = true) : (l ++ [s]).find? g = some s := by
  rw [List.find?_append, h]; simp [hs]
theorem find_pre {g : Int → Bool} {A : Nat → Ans} {f t s : Int} {k n : Nat} (hk : k ≤ n) (h : (shs A f t k).find? g = some s) : (shs A f t n).find? g = some s := by
  induction n with
  | zero => obtain rfl : k = 0 := by omega
            exact h
  | succ n ih =>
    rcases Nat.lt_or_ge n k with h' | h'
    · obtain rfl : k = n + 1 := by omega
      exact h
    · simp only [shs]
      rw [List.find?_append, ih h']; rfl

end Mp
end Go.Proofs.Ytbfmigmhmjgdgaa
