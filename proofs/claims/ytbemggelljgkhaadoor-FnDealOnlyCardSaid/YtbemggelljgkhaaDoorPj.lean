/-
  The model's sum of two polynomials, and its factors of places.
-/
import Derived.Test.YtbemggelljgkhaaDoorPe
import Derived.Test.YtbemggelljgkhaaDoorPg
namespace Go.Proofs.YtbemggelljgkhaaDoor
namespace Con
open Go.RowKit Alg Mem Pol
set_option linter.unusedVariables false

theorem zsum_right {la lb : Nat} {za zb : Nat → Int} {j : Nat} (ha : la ≤ j) (hb : j < lb) (hf : fok (zb j) = true) : zsum la za lb zb j = zb j := by
  rw [zsum_comm]; exact zsum_left hb ha hf
theorem sum_zero_left {b : Int} (hb : fok b = true) : sumF 0 b = b := by
  rw [sumF_in rfl hb]; have := fok_iff.1 hb; omega

/-- The model's factor, of the first k places. -/
def sp (z : Nat → Int) (x : F) (i : Nat) : Nat → F
  | 0 => 1
  | k + 1 => if k = i then sp z x i k else sp z x i k * ((x - cv (z k)) * inv (cv (z i) - cv (z k)))
theorem sp_own (z : Nat → Int) (x : F) (i : Nat) : sp z x i (i + 1) = sp z x i i := if_pos rfl
theorem sp_next (z : Nat → Int) (x : F) {i k : Nat} (h : ¬ k = i) : sp z x i (k + 1) = sp z x i k * ((x - cv (z k)) * inv (cv (z i) - cv (z k))) := if_neg h
theorem sp_oth (z : Nat → Int) (x : F) (i k : Nat) : sp z x i k = prd (oth z i k) x * inv (prd (oth z i k) (cv (z i))) := by
  induction k with
  | zero => simp only [sp, oth, prd]; rw [show inv (1 : F) = 1 from by decide +kernel]; grind
  | succ k ih =>
    by_cases e : k = i
    · subst e; rw [sp_own, oth_own, ih]
    · rw [sp_next z x e, oth_next z e, ih, prd_append, prd_append, Pol.inv_mul]
      simp only [prd]
      rw [show (cv (z i) - cv (z k)) * 1 = cv (z i) - cv (z k) from by grind]
      grind
theorem sp_lag (z : Nat → Int) (x : F) {i len : Nat} (h : i < len) : sp z x i len = lag (fl z len) i x := by
  rw [sp_oth, oth_erase z i len h]; unfold lag; rw [fl_getD z h]
/-- The factors' numbers. -/
def zline (len : Nat) (z : Nat → Int) (x : Int) (i : Nat) : Int := fi (lag (fl z len) i (cv x))
end Con
end Go.Proofs.YtbemggelljgkhaaDoor
