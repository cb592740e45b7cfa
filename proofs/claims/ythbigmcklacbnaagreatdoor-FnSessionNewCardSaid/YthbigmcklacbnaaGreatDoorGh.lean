/-
  Signatures: what a message asks, when a signature is right, and what a signer answers, as numbers.
-/
import Derived.Test.YthbigmcklacbnaaGreatDoorCe
namespace Go.Proofs.YthbigmcklacbnaaGreatDoor
namespace Con
open Go.RowKit Alg Mem
set_option linter.unusedVariables false

/-- Is it a message? -/
def mok (m : Int) : Bool := decide (0 ≤ m ∧ m ≤ 99)
theorem mok_iff {m : Int} : mok m = true ↔ 0 ≤ m ∧ m ≤ 99 := by simp [mok]
theorem mok_not {m : Int} : mok m = false ↔ ¬ (0 ≤ m ∧ m ≤ 99) := by unfold mok; exact decide_eq_false_iff_not
theorem mok_cases (m : Int) : mok m = true ∨ mok m = false := by cases mok m <;> simp
theorem gokc (a : Int) : gok a = true ∨ gok a = false := by cases gok a <;> simp
theorem fokc (a : Int) : fok a = true ∨ fok a = false := by cases fok a <;> simp
/-- What a message asks, of whatever is right. -/
def hz (r pub msg : Int) : Int := (5 * r + 7 * pub + 11 * msg + 3) % 23
theorem hz_ok (r pub msg : Int) : fok (hz r pub msg) = true := fok_mk (Int.emod_nonneg _ (by decide)) (Int.emod_lt_of_pos _ (by decide))
def hF (r pub msg : Int) : Int := if gok r = true ∧ gok pub = true ∧ mok msg = true then hz r pub msg else 0
theorem hF_in {r pub msg : Int} (h1 : gok r = true) (h2 : gok pub = true) (h3 : mok msg = true) : hF r pub msg = hz r pub msg := by simp [hF, h1, h2, h3]
theorem hF_out {r pub msg : Int} (h : gok r = false ∨ gok pub = false ∨ mok msg = false) : hF r pub msg = 0 := by
  rcases h with h | h | h <;> simp [hF, h]
theorem hF_ok (r pub msg : Int) : fok (hF r pub msg) = true := by
  unfold hF; split
  · exact hz_ok _ _ _
  · rfl
theorem one_mul {a : Int} (ha : fok a = true) : mulF 1 a = a := by rw [mul_comm]; exact mul_one ha
/-- Is it a signature? -/
def sgOk (pub msg R Z : Int) : Bool := gok pub && (mok msg && (gok R && fok Z))
theorem sgOk_iff {pub msg R Z : Int} : sgOk pub msg R Z = true ↔ gok pub = true ∧ mok msg = true ∧ gok R = true ∧ fok Z = true := by
  simp [sgOk]
def sgF (pub msg R Z : Int) : Bool := sgOk pub msg R Z && (gofF Z == gmulF R (gpowF pub (hz R pub msg)))
theorem sgF_in {pub msg R Z : Int} (h1 : gok pub = true) (h2 : mok msg = true) (h3 : gok R = true) (h4 : fok Z = true) : sgF pub msg R Z = (gofF Z == gmulF R (gpowF pub (hz R pub msg))) := by simp [sgF, sgOk, h1, h2, h3, h4]
theorem sgF_out {pub msg R Z : Int} (h : gok pub = false ∨ mok msg = false ∨ gok R = false ∨ fok Z = false) : sgF pub msg R Z = false := by
  rcases h with h | h | h | h <;> simp [sgF, sgOk, h]
/-- The one answer. -/
def sgZ (pub msg R : Int) : Int := lg (gmulF R (gpowF pub (hz R pub msg)))
theorem sgZ_ok {pub msg R : Int} (h1 : gok pub = true) (h3 : gok R = true) : fok (sgZ pub msg R) = true ∧ gofF (sgZ pub msg R) = gmulF R (gpowF pub (hz R pub msg)) :=
  lg_ok (gmul_ok h3 (gpow_ok h1 (hz_ok _ _ _)))
theorem sgF_hit {pub msg R i : Int} (h1 : gok pub = true) (h2 : mok msg = true) (h3 : gok R = true) (hi : fok i = true) : sgF pub msg R i = decide (i = sgZ pub msg R) := by
  have hs := sgZ_ok (msg := msg) h1 h3
  rw [sgF_in h1 h2 h3 hi, ← hs.2]
  apply Bool.eq_iff_iff.2
  rw [beq_iff_eq, decide_eq_true_eq]
  exact gof_same hi hs.1
/-- What one signs alone. -/
def saOk (secret msg drawn : Int) : Bool := fok secret && (fok drawn && mok msg)
theorem saOk_iff {secret msg drawn : Int} : saOk secret msg drawn = true ↔ fok secret = true ∧ fok drawn = true ∧ mok msg = true := by
  simp [saOk]
theorem saOk_not {secret msg drawn : Int} (h : ¬ (fok secret = true ∧ fok drawn = true ∧ mok msg = true)) : saOk secret msg drawn = false := by
  cases hh : saOk secret msg drawn with
  | false => rfl
  | true => exact absurd (saOk_iff.1 hh) h
def saZ (secret msg drawn : Int) : Int := sumF drawn (mulF (hz (gofF drawn) (gofF secret) msg) secret)
def saR' (secret msg drawn : Int) : Int := if saOk secret msg drawn then gofF drawn else 0
def saZ' (secret msg drawn : Int) : Int := if saOk secret msg drawn then saZ secret msg drawn else 0
theorem saR_yes {secret msg drawn : Int} (h : saOk secret msg drawn = true) : saR' secret msg drawn = gofF drawn := by simp [saR', h]
theorem saZ_yes {secret msg drawn : Int} (h : saOk secret msg drawn = true) : saZ' secret msg drawn = saZ secret msg drawn := by simp [saZ', h]
theorem saR_no {secret msg drawn : Int} (h : saOk secret msg drawn = false) : saR' secret msg drawn = 0 := by simp [saR', h]
theorem saZ_no {secret msg drawn : Int} (h : saOk secret msg drawn = false) : saZ' secret msg drawn = 0 := by simp [saZ', h]
theorem saZ_ok (secret msg drawn : Int) : fok (saZ secret msg drawn) = true := sumF_ok _ _
/-- Who knows the secret can sign. -/
theorem sa_right {secret msg drawn : Int} (h1 : fok secret = true) (h2 : fok drawn = true) (h3 : mok msg = true) : sgF (gofF secret) msg (gofF drawn) (saZ secret msg drawn) = true := by
  rw [sgF_in (gof_ok h1) h3 (gof_ok h2) (saZ_ok _ _ _), beq_iff_eq]
  unfold saZ
  rw [gof_sum h2 (mulF_ok _ _), gpow_of h1 (hz_ok _ _ _), mul_comm]
/-- Another message, with the same answer. -/
theorem sa_other {secret msg drawn other : Int} (h1 : fok secret = true) (h2 : fok drawn = true) (h3 : mok msg = true) (h4 : mok other = true) :
    sgF (gofF secret) other (gofF drawn) (saZ secret msg drawn) = (secret == 0 || hz (gofF drawn) (gofF secret) other == hz (gofF drawn) (gofF secret) msg) := by
  rw [sgF_in (gof_ok h1) h4 (gof_ok h2) (saZ_ok _ _ _)]
  apply Bool.eq_iff_iff.2
  rw [beq_iff_eq, Bool.or_eq_true, beq_iff_eq, beq_iff_eq]
  unfold saZ
  have hm := hz_ok (gofF drawn) (gofF secret) msg
  have ho := hz_ok (gofF drawn) (gofF secret) other
  rw [gof_sum h2 (mulF_ok _ _), gpow_of h1 ho, mul_comm (a := secret)]
  generalize hz (gofF drawn) (gofF secret) msg = x at *
  generalize hz (gofF drawn) (gofF secret) other = y at *
  rw [gmul_comm (a := gofF (mulF secret x)), gmul_comm (a := gofF (mulF secret y)), gmul_cancel (gof_ok (mulF_ok _ _)) (gof_ok h2) (gof_ok (mulF_ok _ _)), gof_same (mulF_ok _ _) (mulF_ok _ _), mul_comm (a := x), mul_comm (a := y)]
  by_cases hs : secret = 0
  · subst hs
    simp [mulF_in hm h1, mulF_in ho h1]
  · rw [mul_cancel ho h1 hm hs]
    exact ⟨fun h => Or.inr h.symm, fun h => (h.resolve_left hs).symm⟩
/-- Of one drawn number two signatures tell the secret. -/
theorem sa_two {s d x y : Int} (hs : fok s = true) (hd : fok d = true) (hx : fok x = true) (hy : fok y = true) (hne : difF x y ≠ 0) :
    mulF (difF (sumF d (mulF x s)) (sumF d (mulF y s))) (invF (difF x y)) = s := by
  rw [← Pol.fi_cv hs, ← Pol.fi_cv hd, ← Pol.fi_cv hx, ← Pol.fi_cv hy]
  rw [← Pol.fi_cv hx, ← Pol.fi_cv hy, Pol.fi_dif] at hne
  rw [Pol.fi_mul, Pol.fi_mul, Pol.fi_sum, Pol.fi_sum, Pol.fi_dif, Pol.fi_dif, Pol.fi_inv, Pol.fi_mul]
  congr 1
  have h0 : Pol.cv x - Pol.cv y ≠ 0 := fun e => hne (by rw [e]; rfl)
  have hi := Pol.mul_inv h0
  generalize Pol.inv (Pol.cv x - Pol.cv y) = i at hi
  generalize Pol.cv x = X at *; generalize Pol.cv y = Y at *; generalize Pol.cv s = S at *; generalize Pol.cv d = D at *
  have e : D + X * S - (D + Y * S) = (X - Y) * S := by grind
  rw [e]
  have e2 : (X - Y) * S * i = S * ((X - Y) * i) := by grind
  rw [e2, hi]; grind
end Con
end Go.Proofs.YthbigmcklacbnaaGreatDoor
