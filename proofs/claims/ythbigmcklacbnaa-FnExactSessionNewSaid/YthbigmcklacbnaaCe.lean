/-
  What the functions that test what is shown answer, the program's and the model's: whether there are one to five numbers, all of the group.
-/
import Derived.Test.YthbigmcklacbnaaPe
import Derived.Test.YthbigmcklacbnaaMem
import Derived.Test.YthbigmcklacbnaaPg
namespace Go.Proofs.Ythbigmcklacbnaa
namespace Con
open Go.RowKit Alg Mem
set_option linter.unusedVariables false

def gkz (z : Nat → Int) : Nat → Bool
  | 0 => true
  | k + 1 => gkz z k && gok (z k)
/-- Is it what is shown of a polynomial? -/
def cokz (len : Nat) (z : Nat → Int) : Bool := decide (1 ≤ len ∧ len ≤ 5) && gkz z len

theorem gkz_iff {z : Nat → Int} {n : Nat} : gkz z n = true ↔ ∀ j, j < n → gok (z j) = true := by
  induction n with
  | zero => simp [gkz]
  | succ n ih =>
    simp only [gkz, Bool.and_eq_true, ih]
    exact ⟨fun h j hj => by rcases Nat.lt_or_ge j n with h' | h'; exact h.1 j h'; obtain rfl : j = n := by omega
                            exact h.2, fun h => ⟨fun j hj => h j (by omega), h n (by omega)⟩⟩
theorem gkz_no {z : Nat → Int} {n k : Nat} (hk : k < n) (h : gok (z k) = false) : gkz z n = false := by
  cases h' : gkz z n with
  | false => rfl
  | true => rw [gkz_iff.1 h' k hk] at h; cases h
theorem gkz_next {z : Nat → Int} {k : Nat} (h : gkz z k = true) (hf : gok (z k) = true) : gkz z (k + 1) = true := by simp [gkz, h, hf]
theorem cokz_iff {len : Nat} {z : Nat → Int} : cokz len z = true ↔ 1 ≤ len ∧ len ≤ 5 ∧ ∀ j, j < len → gok (z j) = true := by
  unfold cokz; rw [Bool.and_eq_true, gkz_iff, decide_eq_true_eq, and_assoc]
theorem cokz_out {len : Nat} {z : Nat → Int} (h : len < 1 ∨ 5 < len) : cokz len z = false := by
  unfold cokz; rw [decide_eq_false (by omega)]; rfl
theorem cokz_in {len : Nat} {z : Nat → Int} (h1 : 1 ≤ len) (h5 : len ≤ 5) : cokz len z = gkz z len := by
  unfold cokz; rw [decide_eq_true ⟨h1, h5⟩]; rfl

theorem iall_g (w : World) (a : Option Addr) (len cap : Nat) (z : Nat → Int) (hI : Ints w a len z) (hl : len ≤ 2000000) :
    Calls Try.prog 116 #[.slice a len cap, .func (.func 121) #[] #[]] w fun e w' => e = .returned (.bool (gkz z len)) ∧ w.grownBy w' none := by
  go_enter Try.func116, Try.ntmps116
  go_wp2
  go_loopw [9] (fun i wr => ∃ k : Nat, k ≤ len ∧ i = .int .i64 k ∧ gkz z k = true ∧ w.grownBy wr none) (fun i _ => len - (intOf i).toNat)
  case atStart => exact ⟨0, by omega, rfl, rfl, Draw.grown_refl _ _⟩
  case round =>
    obtain ⟨k, hk, rfl, hz, hg⟩ := hrel
    have HZ := Lib.hid hz; clear hz
    have HI := Lib.hid (hI.kept hg)
    have HG := Lib.hid hg; clear hg hI
    by_cases hlt : k < len
    · obtain ⟨b, off, rfl, hb, hc⟩ := HI.out.ptr (by omega)
      have hcx := hc k hlt
      clear hc
      cases hf : gok (z k) with
      | false =>
        have HR := Lib.hid (gkz_no hlt hf)
        go_wp2_with (go_at_call 121; refine (igok_no _ _ (by assumption)).mono ?_; rintro e w' ⟨rfl, hg1⟩)
        go_ret
        exact ⟨ret_b HR.out.symm, gtr HG.out hg1⟩
      | true =>
        have HR := Lib.hid (gkz_next HZ.out hf)
        go_wp2_with (go_at_call 121; refine (igok_yes _ _ (by assumption)).mono ?_; rintro e w' ⟨rfl, hg1⟩)
        have HG1 := Lib.hid (gtr HG.out hg1); clear hg1
        go_roundw
        case rel => exact ⟨k + 1, by omega, by go_num, HR.out, HG1.out⟩
        case measure => simp [intOf]; omega
    · obtain rfl : k = len := by omega
      go_wp2
      go_ret
      exact ⟨ret_b HZ.out.symm, HG.out⟩
theorem icoef_g (w : World) (a : Option Addr) (len cap : Nat) (z : Nat → Int) (hI : Ints w a len z) (hl : len ≤ 2000000) :
    Calls Try.prog 122 #[.slice a len cap, .func (.func 121) #[] #[]] w fun e w' => e = .returned (.bool (cokz len z)) ∧ w.grownBy w' none := by
  have HI := Lib.hid hI; clear hI
  by_cases h1 : 1 ≤ len
  · by_cases h5 : len ≤ 5
    · have HR := Lib.hid (cokz_in (z := z) h1 h5)
      have h1' : (1 : Int) ≤ (len : Int) := by omega
      have h5' : (len : Int) ≤ 5 := by omega
      go_enter Try.func122, Try.ntmps122
      go_wp2_with (go_at_call 116; refine (iall_g _ _ _ _ _ HI.out hl).mono ?_; rintro e w' ⟨rfl, hg⟩)
      go_ret
      exact ⟨ret_b HR.out.symm, hg⟩
    · have HR := Lib.hid (cokz_out (z := z) (.inr (by omega) : len < 1 ∨ 5 < len))
      have h1' : (1 : Int) ≤ (len : Int) := by omega
      have h5' : ¬ (len : Int) ≤ 5 := by omega
      go_enter Try.func122, Try.ntmps122
      go_wp2
      go_ret
      exact ⟨ret_b HR.out.symm, Draw.grown_refl _ _⟩
  · have HR := Lib.hid (cokz_out (z := z) (.inl (by omega) : len < 1 ∨ 5 < len))
    have h1' : ¬ (1 : Int) ≤ (len : Int) := by omega
    go_enter Try.func122, Try.ntmps122
    go_wp2
    go_ret
    exact ⟨ret_b HR.out.symm, Draw.grown_refl _ _⟩
theorem icok (w : World) (a : Option Addr) (len cap : Nat) (z : Nat → Int) (hI : Ints w a len z) (hl : len ≤ 2000000) :
    Calls Try.prog 115 #[.slice a len cap] w fun e w' => e = .returned (.bool (cokz len z)) ∧ w.grownBy w' none := by
  have HI := Lib.hid hI; clear hI
  go_enter Try.func115, Try.ntmps115
  go_wp2_with (go_at_call 122; refine (icoef_g _ _ _ _ _ HI.out hl).mono ?_; rintro e w' ⟨rfl, hg⟩)
  go_ret
  exact ⟨rfl, hg⟩

theorem scok (w : World) (a : Option Addr) (len cap : Nat) (z : Nat → Int) (hI : Ints w a len z) (hl : len ≤ 2000000) :
    Calls Try.prog 113 #[.slice a len cap] w fun e w' => e = .returned (.bool (cokz len z)) ∧ w = w' := by
  go_enter Try.func113, Try.ntmps113
  go_wp2
  go_loop [3] (fun i => ∃ k : Nat, k ≤ len ∧ i = .int .i64 k ∧ gkz z k = true) (fun i => len - (intOf i).toNat)
  case atStart => exact ⟨0, by omega, rfl, rfl⟩
  case round =>
    obtain ⟨k, hk, rfl, hz⟩ := hrel
    have HZ := Lib.hid hz; clear hz
    by_cases hlt : k < len
    · rcases hI with h | ⟨b, off, rfl, hb, hc⟩
      · omega
      have hcx := hc k hlt
      clear hc
      cases hf : gok (z k) with
      | false =>
        have HR := Lib.hid (show cokz len z = false by unfold cokz; rw [gkz_no hlt hf, Bool.and_false])
        go_wp2_with (go_at_call 98; refine (sgok_no _ _ (by assumption)).mono ?_; rintro e w' ⟨rfl, rfl⟩)
        go_ret
        exact ⟨ret_b HR.out.symm, rfl⟩
      | true =>
        have HR := Lib.hid (gkz_next HZ.out hf)
        go_wp2_with (go_at_call 98; refine (sgok_yes _ _ (by assumption)).mono ?_; rintro e w' ⟨rfl, rfl⟩)
        go_round
        case rel => exact ⟨k + 1, by omega, by go_num, HR.out⟩
        case measure => simp [intOf]; omega
    · obtain rfl : k = len := by omega
      clear hI
      by_cases h1 : 1 ≤ k
      · by_cases h5 : k ≤ 5
        · have HR := Lib.hid ((cokz_in h1 h5).trans HZ.out)
          have h1' : (1 : Int) ≤ (k : Int) := by omega
          have h5' : (k : Int) ≤ 5 := by omega
          go_wp2_with go_in
          go_ret
          exact ⟨ret_b HR.out.symm, rfl⟩
        · have HR := Lib.hid (cokz_out (z := z) (.inr (by omega) : k < 1 ∨ 5 < k))
          have h1' : (1 : Int) ≤ (k : Int) := by omega
          have h5' : ¬ (k : Int) ≤ 5 := by omega
          go_wp2_with go_in
          go_ret
          exact ⟨ret_b HR.out.symm, rfl⟩
      · obtain rfl : k = 0 := by omega
        have HR := Lib.hid (cokz_out (z := z) (.inl (by omega) : 0 < 1 ∨ 5 < 0))
        go_wp2_with go_in
        go_ret
        exact ⟨ret_b HR.out.symm, rfl⟩
end Con
end Go.Proofs.Ythbigmcklacbnaa
/-
  What is shown of a polynomial's value at a place, the program's and the model's: in the exponents it is the polynomial's value.
-/

namespace Go.Proofs.Ythbigmcklacbnaa
namespace Con
open Go.RowKit Go.Shelf Alg Mem Pol
set_option linter.unusedVariables false
attribute [local go_sem] Oper.semAt_some

/-- The exponents. -/
def lz (z : Nat → Int) (j : Nat) : Int := lg (z j)
theorem lz_ok {z : Nat → Int} {j : Nat} (h : gok (z j) = true) : fok (lz z j) = true := (lg_ok h).1
theorem lz_of {z : Nat → Int} {j : Nat} (h : gok (z j) = true) : gofF (lz z j) = z j := (lg_ok h).2
theorem lz_fi {z : Nat → Int} {j : Nat} (h : gok (z j) = true) : gofF (fi (cv (lz z j))) = z j := by rw [fi_cv (lz_ok h)]; exact lz_of h
/-- One step of the value, in the exponents. -/
theorem gstep {v : F} {x e : Int} (hx : fok x = true) (he : fok e = true) : pw (gofF (fi v)) x.toNat * gofF e % 47 = gofF (fi (v * cv x + cv e)) := by
  have h1 : pw (gofF (fi v)) x.toNat = gofF (mulF (fi v) x) := by rw [← gpow_of (fi_ok v) hx, gpow_in (gof_ok (fi_ok v)) hx]
  rw [h1, ← gmul_in (gof_ok (mulF_ok _ _)) (gof_ok he), gmul_of (mulF_ok _ _) he, ← fi_sum, ← fi_mul, fi_cv hx, fi_cv he]
theorem gstepz {v : F} {x c : Int} (hx : fok x = true) (hc : gok c = true) : pw (gofF (fi v)) x.toNat * c % 47 = gofF (fi (v * cv x + cv (lg c))) := by
  have h := gstep (v := v) hx (lg_ok hc).1; rw [(lg_ok hc).2] at h; exact h
theorem gfi_range (v : F) : 1 ≤ gofF (fi v) ∧ gofF (fi v) ≤ 46 := gok_range (gof_ok (fi_ok v))

end Con
end Go.Proofs.Ythbigmcklacbnaa
/-
  What is shown at a place, and whether a number fits what is shown: the program's and the model's functions, at every argument.
-/

namespace Go.Proofs.Ythbigmcklacbnaa
namespace Con
open Go.RowKit Alg Mem Pol
set_option linter.unusedVariables false

/-- What is shown at a place. -/
def catz (len : Nat) (z : Nat → Int) (x : Int) : Int := if cokz len z = true ∧ fok x = true then gofF (fi (ev (fl (lz z) len) (cv x))) else 0
theorem catz_in {len : Nat} {z : Nat → Int} {x : Int} (hp : cokz len z = true) (hx : fok x = true) : catz len z x = gofF (fi (ev (fl (lz z) len) (cv x))) := by unfold catz; rw [if_pos ⟨hp, hx⟩]
theorem catz_out {len : Nat} {z : Nat → Int} {x : Int} (h : cokz len z = false ∨ fok x = false) : catz len z x = 0 := by
  unfold catz; rcases h with h | h <;> simp [h]
/-- Does a number fit what is shown, at a place? -/
def cfz (len : Nat) (z : Nat → Int) (x n : Int) : Bool := cokz len z && (fok x && (fok n && (gofF n == catz len z x)))
theorem cfz_in {len : Nat} {z : Nat → Int} {x n : Int} (hp : cokz len z = true) (hx : fok x = true) (hn : fok n = true) : cfz len z x n = (gofF n == catz len z x) := by simp [cfz, hp, hx, hn]
theorem cfz_out {len : Nat} {z : Nat → Int} {x n : Int} (h : cokz len z = false ∨ fok x = false ∨ fok n = false) : cfz len z x n = false := by
  unfold cfz; rcases h with h | h | h <;> simp [h]
end Con
end Go.Proofs.Ythbigmcklacbnaa
/-
  Whether a number fits what is shown: the program's and the model's functions, at every argument.
-/

namespace Go.Proofs.Ythbigmcklacbnaa
namespace Con
open Go.RowKit Alg Mem Pol
set_option linter.unusedVariables false

end Con
end Go.Proofs.Ythbigmcklacbnaa
/-
  What the model shows of a polynomial.
-/

namespace Go.Proofs.Ythbigmcklacbnaa
namespace Con
open Go.RowKit Alg Mem Pol
set_option linter.unusedVariables false

/-- What is shown, number by number. -/
def gz (z : Nat → Int) (j : Nat) : Int := gofF (z j)
end Con
end Go.Proofs.Ythbigmcklacbnaa
