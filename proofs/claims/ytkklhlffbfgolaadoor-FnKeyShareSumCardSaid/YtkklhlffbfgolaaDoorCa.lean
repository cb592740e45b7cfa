/-
  What the functions that test what is shown answer, the program's and the model's: whether there are one to five numbers, all of the group.
-/
import Derived.Test.YtkklhlffbfgolaaDoorPa
import Derived.Test.YtkklhlffbfgolaaDoorGon
namespace Go.Proofs.YtkklhlffbfgolaaDoor
namespace Con
open Go.RowKit Alg Mem
set_option linter.unusedVariables false

def gkz (z : Nat → Int) : Nat → Bool
  | 0 => true
  | k + 1 => gkz z k && gok (z k)
/-- Is it what is shown of a polynomial? -/
def cokz (len : Nat) (z : Nat → Int) : Bool := decide (1 ≤ len ∧ len ≤ 5) && gkz z len

theorem gkz_iff {z : Nat → Int} {n : Nat} : gkz z n = true ↔ ∀ j, j < n → gok (z j) = true := by
  induction n with
  | zero => simp [gkz]
  | succ n ih =>
    simp only [gkz, Bool.and_eq_true, ih]
    exact ⟨fun h j hj => by rcases Nat.lt_or_ge j n with h' | h'; exact h.1 j h'; obtain rfl : j = n := by omega
                            exact h.2, fun h => ⟨fun j hj => h j (by omega), h n (by omega)⟩⟩
theorem gkz_no {z : Nat → Int} {n k : Nat} (hk : k < n) (h : gok (z k) = false) : gkz z n = false := by
  cases h' : gkz z n with
  | false => rfl
  | true => rw [gkz_iff.1 h' k hk] at h; cases h
theorem gkz_next {z : Nat → Int} {k : Nat} (h : gkz z k = true) (hf : gok (z k) = true) : gkz z (k + 1) = true := by simp [gkz, h, hf]
theorem cokz_iff {len : Nat} {z : Nat → Int} : cokz len z = true ↔ 1 ≤ len ∧ len ≤ 5 ∧ ∀ j, j < len → gok (z j) = true := by
  unfold cokz; rw [Bool.and_eq_true, gkz_iff, decide_eq_true_eq, and_assoc]
theorem cokz_out {len : Nat} {z : Nat → Int} (h : len < 1 ∨ 5 < len) : cokz len z = false := by
  unfold cokz; rw [decide_eq_false (by omega)]; rfl
theorem cokz_in {len : Nat} {z : Nat → Int} (h1 : 1 ≤ len) (h5 : len ≤ 5) : cokz len z = gkz z len := by
  unfold cokz; rw [decide_eq_true ⟨h1, h5⟩]; rfl

theorem iall_g (w : World) (a : Option Addr) (len cap : Nat) (z : Nat → Int) (hI : Ints w a len z) (hl : len ≤ 2000000) :
    Calls Tryd.prog 48 #[.slice a len cap, .func (.func 29) #[] #[]] w fun e w' => e = .returned (.bool (gkz z len)) ∧ w.grownBy w' none := by
  go_enter Tryd.func48, Tryd.ntmps48
  go_wp2
  go_loopw [9] (fun i wr => ∃ k : Nat, k ≤ len ∧ i = .int .i64 k ∧ gkz z k = true ∧ w.grownBy wr none) (fun i _ => len - (intOf i).toNat)
  case atStart => exact ⟨0, by omega, rfl, rfl, Draw.grown_refl _ _⟩
  case round =>
    obtain ⟨k, hk, rfl, hz, hg⟩ := hrel
    have HZ := Lib.hid hz; clear hz
    have HI := Lib.hid (hI.kept hg)
    have HG := Lib.hid hg; clear hg hI
    by_cases hlt : k < len
    · obtain ⟨b, off, rfl, hb, hc⟩ := HI.out.ptr (by omega)
      have hcx := hc k hlt
      clear hc
      cases hf : gok (z k) with
      | false =>
        have HR := Lib.hid (gkz_no hlt hf)
        go_wp2_with (go_at_call 29; refine (igok_no _ _ (by assumption)).mono ?_; rintro e w' ⟨rfl, hg1⟩)
        go_ret
        exact ⟨ret_b HR.out.symm, gtr HG.out hg1⟩
      | true =>
        have HR := Lib.hid (gkz_next HZ.out hf)
        go_wp2_with (go_at_call 29; refine (igok_yes _ _ (by assumption)).mono ?_; rintro e w' ⟨rfl, hg1⟩)
        have HG1 := Lib.hid (gtr HG.out hg1); clear hg1
        go_roundw
        case rel => exact ⟨k + 1, by omega, by go_num, HR.out, HG1.out⟩
        case measure => simp [intOf]; omega
    · obtain rfl : k = len := by omega
      go_wp2
      go_ret
      exact ⟨ret_b HZ.out.symm, HG.out⟩
theorem icoef_g (w : World) (a : Option Addr) (len cap : Nat) (z : Nat → Int) (hI : Ints w a len z) (hl : len ≤ 2000000) :
    Calls Tryd.prog 57 #[.slice a len cap, .func (.func 29) #[] #[]] w fun e w' => e = .returned (.bool (cokz len z)) ∧ w.grownBy w' none := by
  have HI := Lib.hid hI; clear hI
  by_cases h1 : 1 ≤ len
  · by_cases h5 : len ≤ 5
    · have HR := Lib.hid (cokz_in (z := z) h1 h5)
      have h1' : (1 : Int) ≤ (len : Int) := by omega
      have h5' : (len : Int) ≤ 5 := by omega
      go_enter Tryd.func57, Tryd.ntmps57
      go_wp2_with (go_at_call 48; refine (iall_g _ _ _ _ _ HI.out hl).mono ?_; rintro e w' ⟨rfl, hg⟩)
      go_ret
      exact ⟨ret_b HR.out.symm, hg⟩
    · have HR := Lib.hid (cokz_out (z := z) (.inr (by omega) : len < 1 ∨ 5 < len))
      have h1' : (1 : Int) ≤ (len : Int) := by omega
      have h5' : ¬ (len : Int) ≤ 5 := by omega
      go_enter Tryd.func57, Tryd.ntmps57
      go_wp2
      go_ret
      exact ⟨ret_b HR.out.symm, Draw.grown_refl _ _⟩
  · have HR := Lib.hid (cokz_out (z := z) (.inl (by omega) : len < 1 ∨ 5 < len))
    have h1' : ¬ (1 : Int) ≤ (len : Int) := by omega
    go_enter Tryd.func57, Tryd.ntmps57
    go_wp2
    go_ret
    exact ⟨ret_b HR.out.symm, Draw.grown_refl _ _⟩
theorem icok (w : World) (a : Option Addr) (len cap : Nat) (z : Nat → Int) (hI : Ints w a len z) (hl : len ≤ 2000000) :
    Calls Tryd.prog 31 #[.slice a len cap] w fun e w' => e = .returned (.bool (cokz len z)) ∧ w.grownBy w' none := by
  have HI := Lib.hid hI; clear hI
  go_enter Tryd.func31, Tryd.ntmps31
  go_wp2_with (go_at_call 57; refine (icoef_g _ _ _ _ _ HI.out hl).mono ?_; rintro e w' ⟨rfl, hg⟩)
  go_ret
  exact ⟨rfl, hg⟩

theorem scok (w : World) (a : Option Addr) (len cap : Nat) (z : Nat → Int) (hI : Ints w a len z) (hl : len ≤ 2000000) :
    Calls Tryd.prog 43 #[.slice a len cap] w fun e w' => e = .returned (.bool (cokz len z)) ∧ w = w' := by
  go_enter Tryd.func43, Tryd.ntmps43
  go_wp2
  go_loop [3] (fun i => ∃ k : Nat, k ≤ len ∧ i = .int .i64 k ∧ gkz z k = true) (fun i => len - (intOf i).toNat)
  case atStart => exact ⟨0, by omega, rfl, rfl⟩
  case round =>
    obtain ⟨k, hk, rfl, hz⟩ := hrel
    have HZ := Lib.hid hz; clear hz
    by_cases hlt : k < len
    · rcases hI with h | ⟨b, off, rfl, hb, hc⟩
      · omega
      have hcx := hc k hlt
      clear hc
      cases hf : gok (z k) with
      | false =>
        have HR := Lib.hid (show cokz len z = false by unfold cokz; rw [gkz_no hlt hf, Bool.and_false])
        go_wp2_with (go_at_call 67; refine (sgok_no _ _ (by assumption)).mono ?_; rintro e w' ⟨rfl, rfl⟩)
        go_ret
        exact ⟨ret_b HR.out.symm, rfl⟩
      | true =>
        have HR := Lib.hid (gkz_next HZ.out hf)
        go_wp2_with (go_at_call 67; refine (sgok_yes _ _ (by assumption)).mono ?_; rintro e w' ⟨rfl, rfl⟩)
        go_round
        case rel => exact ⟨k + 1, by omega, by go_num, HR.out⟩
        case measure => simp [intOf]; omega
    · obtain rfl : k = len := by omega
      clear hI
      by_cases h1 : 1 ≤ k
      · by_cases h5 : k ≤ 5
        · have HR := Lib.hid ((cokz_in h1 h5).trans HZ.out)
          have h1' : (1 : Int) ≤ (k : Int) := by omega
          have h5' : (k : Int) ≤ 5 := by omega
          go_wp2_with go_in
          go_ret
          exact ⟨ret_b HR.out.symm, rfl⟩
        · have HR := Lib.hid (cokz_out (z := z) (.inr (by omega) : k < 1 ∨ 5 < k))
          have h1' : (1 : Int) ≤ (k : Int) := by omega
          have h5' : ¬ (k : Int) ≤ 5 := by omega
          go_wp2_with go_in
          go_ret
          exact ⟨ret_b HR.out.symm, rfl⟩
      · obtain rfl : k = 0 := by omega
        have HR := Lib.hid (cokz_out (z := z) (.inl (by omega) : 0 < 1 ∨ 5 < 0))
        go_wp2_with go_in
        go_ret
        exact ⟨ret_b HR.out.symm, rfl⟩
end Con
end Go.Proofs.YtkklhlffbfgolaaDoor
