/-
  What the functions that test what is shown answer, the program's and the model's: whether there are one to five numbers, all of the group.
-/
import Derived.Test.YtbfmigmhmjgdgaaPe
import Derived.Test.YtbfmigmhmjgdgaaMem
import Derived.Test.YtbfmigmhmjgdgaaPg
namespace Go.Proofs.Ytbfmigmhmjgdgaa
namespace Con
open Go.RowKit Alg Mem
set_option linter.unusedVariables false

def gkz (z : Nat → Int) : Nat → Bool
  | 0 => true
  | k + 1 => gkz z k && gok (z k)
/-- Is it what is shown of a polynomial? -/
def cokz (len : Nat) (z : Nat → Int) : Bool := decide (1 ≤ len ∧ len ≤ 5) && gkz z len

theorem gkz_iff {z : Nat → Int} {n : Nat} : gkz z n = true ↔ ∀ j, j < n → gok (z j) = true := by
  induction n with
  | zero => simp [gkz]
  | succ n ih =>
    simp only [gkz, Bool.and_eq_true, ih]
    exact ⟨fun h j hj => by rcases Nat.lt_or_ge j n with h' | h'; exact h.1 j h'; obtain rfl : j = n := by omega
                            exact h.2, fun h => ⟨fun j hj => h j (by omega), h n (by omega)⟩⟩
theorem gkz_no {z : Nat → Int} {n k : Nat} (hk : k < n) (h : gok (z k) = false) : gkz z n = false := by
  cases h' : gkz z n with
  | false => rfl
  | true => rw [gkz_iff.1 h' k hk] at h; cases h
theorem gkz_next {z : Nat → Int} {k : Nat} (h : gkz z k = true) (hf : gok (z k) = true) : gkz z (k + 1) = true := by simp [gkz, h, hf]
theorem cokz_iff {len : Nat} {z : Nat → Int} : cokz len z = true ↔ 1 ≤ len ∧ len ≤ 5 ∧ ∀ j, j < len → gok (z j) = true := by
  unfold cokz; rw [Bool.and_eq_true, gkz_iff, decide_eq_true_eq, and_assoc]
theorem cokz_out {len : Nat} {z : Nat → Int} (h : len < 1 ∨ 5 < len) : cokz len z = false := by
  unfold cokz; rw [decide_eq_false (by omega)]; rfl
theorem cokz_in {len : Nat} {z : Nat → Int} (h1 : 1 ≤ len) (h5 : len ≤ 5) : cokz len z = gkz z len := by
  unfold cokz; rw [decide_eq_true ⟨h1, h5⟩]; rfl

end Con
end Go.Proofs.Ytbfmigmhmjgdgaa
/-
  What is shown of a polynomial's value at a place, the program's and the model's: in the exponents it is the polynomial's value.
-/

namespace Go.Proofs.Ytbfmigmhmjgdgaa
namespace Con
open Go.RowKit Go.Shelf Alg Mem Pol
set_option linter.unusedVariables false
attribute [local go_sem] Oper.semAt_some

/-- The exponents. -/
def lz (z : Nat → Int) (j : Nat) : Int := lg (z j)
theorem lz_ok {z : Nat → Int} {j : Nat} (h : gok (z j) = true) : fok (lz z j) = true := (lg_ok h).1
theorem lz_of {z : Nat → Int} {j : Nat} (h : gok (z j) = true) : gofF (lz z j) = z j := (lg_ok h).2
theorem lz_fi {z : Nat → Int} {j : Nat} (h : gok (z j) = true) : gofF (fi (cv (lz z j))) = z j := by rw [fi_cv (lz_ok h)]; exact lz_of h
/-- One step of the value, in the exponents. -/
theorem gstep {v : F} {x e : Int} (hx : fok x = true) (he : fok e = true) : pw (gofF (fi v)) x.toNat * gofF e % 47 = gofF (fi (v * cv x + cv e)) := by
  have h1 : pw (gofF (fi v)) x.toNat = gofF (mulF (fi v) x) := by rw [← gpow_of (fi_ok v) hx, gpow_in (gof_ok (fi_ok v)) hx]
  rw [h1, ← gmul_in (gof_ok (mulF_ok _ _)) (gof_ok he), gmul_of (mulF_ok _ _) he, ← fi_sum, ← fi_mul, fi_cv hx, fi_cv he]
theorem gstepz {v : F} {x c : Int} (hx : fok x = true) (hc : gok c = true) : pw (gofF (fi v)) x.toNat * c % 47 = gofF (fi (v * cv x + cv (lg c))) := by
  have h := gstep (v := v) hx (lg_ok hc).1; rw [(lg_ok hc).2] at h; exact h
theorem gfi_range (v : F) : 1 ≤ gofF (fi v) ∧ gofF (fi v) ≤ 46 := gok_range (gof_ok (fi_ok v))

end Con
end Go.Proofs.Ytbfmigmhmjgdgaa
/-
  What is shown at a place, and whether a number fits what is shown: the program's and the model's functions, at every argument.
-/

namespace Go.Proofs.Ytbfmigmhmjgdgaa
namespace Con
open Go.RowKit Alg Mem Pol
set_option linter.unusedVariables false

/-- What is shown at a place. -/
def catz (len : Nat) (z : Nat → Int) (x : Int) : Int := if cokz len z = true ∧ fok x = true then gofF (fi (ev (fl (lz z) len) (cv x))) else 0
theorem catz_in {len : Nat} {z : Nat → Int} {x : Int} (hp : cokz len z = true) (hx : fok x = true) : catz len z x = gofF (fi (ev (fl (lz z) len) (cv x))) := by unfold catz; rw [if_pos ⟨hp, hx⟩]
theorem catz_out {len : Nat} {z : Nat → Int} {x : Int} (h : cokz len z = false ∨ fok x = false) : catz len z x = 0 := by
  unfold catz; rcases h with h | h <;> simp [h]
/-- Does a number fit what is shown, at a place? -/
def cfz (len : Nat) (z : Nat → Int) (x n : Int) : Bool := cokz len z && (fok x && (fok n && (gofF n == catz len z x)))
theorem cfz_in {len : Nat} {z : Nat → Int} {x n : Int} (hp : cokz len z = true) (hx : fok x = true) (hn : fok n = true) : cfz len z x n = (gofF n == catz len z x) := by simp [cfz, hp, hx, hn]
theorem cfz_out {len : Nat} {z : Nat → Int} {x n : Int} (h : cokz len z = false ∨ fok x = false ∨ fok n = false) : cfz len z x n = false := by
  unfold cfz; rcases h with h | h | h <;> simp [h]
end Con
end Go.Proofs.Ytbfmigmhmjgdgaa
/-
  Whether a number fits what is shown: the program's and the model's functions, at every argument.
-/

namespace Go.Proofs.Ytbfmigmhmjgdgaa
namespace Con
open Go.RowKit Alg Mem Pol
set_option linter.unusedVariables false

end Con
end Go.Proofs.Ytbfmigmhmjgdgaa
/-
  What the model shows of a polynomial.
-/

namespace Go.Proofs.Ytbfmigmhmjgdgaa
namespace Con
open Go.RowKit Alg Mem Pol
set_option linter.unusedVariables false

/-- What is shown, number by number. -/
def gz (z : Nat → Int) (j : Nat) : Int := gofF (z j)
end Con
end Go.Proofs.Ytbfmigmhmjgdgaa
