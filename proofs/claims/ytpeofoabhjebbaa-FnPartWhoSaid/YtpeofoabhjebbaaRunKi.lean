/-
  The walk of the law on a key's shares.
-/
import Derived.Test.YtpeofoabhjebbaaQk
import Derived.Test.YtpeofoabhjebbaaMem
namespace Go.Proofs.Ytpeofoabhjebbaa
namespace Run
open Go.RowKit Alg Mem Con Mp
set_option linter.unusedVariables false

/-- How many of the first k are e. -/
def cnt1 (e : Int) (k : Nat) : Int := if e < (k : Int) then 1 else 0
theorem cnt1_yes {e : Int} {k : Nat} (h : (k : Int) = e) : cnt1 e (k + 1) = cnt1 e k + 1 := by
  unfold cnt1; rw [if_pos (by omega), if_neg (by omega)]; rfl
theorem cnt1_no {e : Int} {k : Nat} (h : ¬ (k : Int) = e) : cnt1 e (k + 1) = cnt1 e k := by
  unfold cnt1
  by_cases hl : e < (k : Int)
  · rw [if_pos (by omega), if_pos hl]
  · rw [if_neg (by omega), if_neg hl]
theorem cnt1_range {e : Int} {k : Nat} : 0 ≤ cnt1 e k ∧ cnt1 e k ≤ 1 := by unfold cnt1; split <;> omega
/-- The one share that is a member's. -/
theorem kfit_one {need many : Int} {ng : Nat} {zg : Nat → Int} {nc : Nat} {zc : Nat → Int} {m : Int} (h : kyF need many ng zg nc zc = true) (hm : mbF many m = true) (h5 : many ≤ 5) : ∃ e : Int, 0 ≤ e ∧ e < 23 ∧ ∀ i : Nat, i < 23 → kfit need many ng zg nc zc m i = decide ((i : Int) = e) := by
  obtain ⟨_, _, hc, _, _⟩ := ky_iff.1 h
  obtain ⟨m1, m2⟩ := mb_iff.1 hm
  have hx : fok m = true := fok_iff.2 (by omega)
  have hf : fok (Pol.fi (Pol.ev (fl (lz zc) nc) (Pol.cv m))) = true := Pol.fi_ok _
  obtain ⟨f0, f1⟩ := fok_iff.1 hf
  refine ⟨_, f0, f1, fun i hi => ?_⟩
  have hi' : fok (i : Int) = true := fok_iff.2 (by omega)
  rw [kfit_y h hm, cfz_in hc hx hi', catz_in hc hx]
  apply Bool.eq_iff_iff.2
  simp only [beq_iff_eq, decide_eq_true_eq]
  exact gof_same hi' hf
end Run
end Go.Proofs.Ytpeofoabhjebbaa
