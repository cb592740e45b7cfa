/-
  What the functions that test numbers and places answer, the program's and the model's: whether all are of the field, and each once.
-/
import Derived.Test.YtkklhlffbfgolaaDoorMem
import Derived.Test.YtkklhlffbfgolaaDoorCon
import Derived.Outline
import Derived.Deep.QuietTactic
import Derived.BigQuiet
import Derived.Handy
namespace Go.Proofs.YtkklhlffbfgolaaDoor
namespace Con
open Go.RowKit Alg Mem
set_option linter.unusedVariables false

def okz (z : Nat → Int) : Nat → Bool
  | 0 => true
  | k + 1 => okz z k && fok (z k)
/-- Is it a polynomial? -/
def pokz (len : Nat) (z : Nat → Int) : Bool := decide (1 ≤ len ∧ len ≤ 5) && okz z len
def hasz (z : Nat → Int) (n : Int) : Nat → Bool
  | 0 => false
  | k + 1 => hasz z n k || (z k == n)
def plz (z : Nat → Int) : Nat → Bool
  | 0 => true
  | k + 1 => plz z k && (fok (z k) && !hasz z (z k) k)
/-- Are they places? -/
def plok (len : Nat) (z : Nat → Int) : Bool := decide (len ≤ 5) && plz z len

theorem okz_iff {z : Nat → Int} {n : Nat} : okz z n = true ↔ ∀ j, j < n → fok (z j) = true := by
  induction n with
  | zero => simp [okz]
  | succ n ih =>
    simp only [okz, Bool.and_eq_true, ih]
    exact ⟨fun h j hj => by rcases Nat.lt_or_ge j n with h' | h'; exact h.1 j h'; obtain rfl : j = n := by omega
                            exact h.2, fun h => ⟨fun j hj => h j (by omega), h n (by omega)⟩⟩
theorem okz_no {z : Nat → Int} {n k : Nat} (hk : k < n) (h : fok (z k) = false) : okz z n = false := by
  cases h' : okz z n with
  | false => rfl
  | true => rw [okz_iff.1 h' k hk] at h; cases h
theorem okz_next {z : Nat → Int} {k : Nat} (h : okz z k = true) (hf : fok (z k) = true) : okz z (k + 1) = true := by simp [okz, h, hf]
theorem pokz_iff {len : Nat} {z : Nat → Int} : pokz len z = true ↔ 1 ≤ len ∧ len ≤ 5 ∧ ∀ j, j < len → fok (z j) = true := by
  unfold pokz; rw [Bool.and_eq_true, okz_iff, decide_eq_true_eq, and_assoc]
theorem pokz_out {len : Nat} {z : Nat → Int} (h : len < 1 ∨ 5 < len) : pokz len z = false := by
  unfold pokz; rw [decide_eq_false (by omega)]; rfl
theorem pokz_in {len : Nat} {z : Nat → Int} (h1 : 1 ≤ len) (h5 : len ≤ 5) : pokz len z = okz z len := by
  unfold pokz; rw [decide_eq_true ⟨h1, h5⟩]; rfl
theorem hasz_iff {z : Nat → Int} {n : Int} {k : Nat} : hasz z n k = true ↔ ∃ j, j < k ∧ z j = n := by
  induction k with
  | zero => simp [hasz]
  | succ k ih =>
    simp only [hasz, Bool.or_eq_true, ih, beq_iff_eq]
    constructor
    · rintro (⟨j, hj, e⟩ | e)
      · exact ⟨j, by omega, e⟩
      · exact ⟨k, by omega, e⟩
    · rintro ⟨j, hj, e⟩
      rcases Nat.lt_or_ge j k with h | h
      · exact .inl ⟨j, h, e⟩
      · obtain rfl : j = k := by omega
        exact .inr e
theorem hasz_no {z : Nat → Int} {n : Int} {k : Nat} : hasz z n k = false ↔ ∀ j, j < k → z j ≠ n := by
  rw [← Bool.not_eq_true, hasz_iff]; exact ⟨fun h j hj e => h ⟨j, hj, e⟩, fun h ⟨j, hj, e⟩ => h j hj e⟩
theorem plz_iff {z : Nat → Int} {n : Nat} : plz z n = true ↔ ∀ j, j < n → fok (z j) = true ∧ hasz z (z j) j = false := by
  induction n with
  | zero => simp [plz]
  | succ n ih =>
    simp only [plz, Bool.and_eq_true, ih, Bool.not_eq_true']
    exact ⟨fun h j hj => by rcases Nat.lt_or_ge j n with h' | h'; exact h.1 j h'; obtain rfl : j = n := by omega
                            exact h.2, fun h => ⟨fun j hj => h j (by omega), h n (by omega)⟩⟩
theorem plz_no {z : Nat → Int} {n k : Nat} (hk : k < n) (h : fok (z k) = false ∨ hasz z (z k) k = true) : plz z n = false := by
  cases h' : plz z n with
  | false => rfl
  | true => have := plz_iff.1 h' k hk; rcases h with h | h <;> simp [h] at this
theorem plz_next {z : Nat → Int} {k : Nat} (h : plz z k = true) (hf : fok (z k) = true) (hh : hasz z (z k) k = false) : plz z (k + 1) = true := by simp [plz, h, hf, hh]
theorem plok_iff {len : Nat} {z : Nat → Int} : plok len z = true ↔ len ≤ 5 ∧ ∀ j, j < len → fok (z j) = true ∧ hasz z (z j) j = false := by
  unfold plok; rw [Bool.and_eq_true, plz_iff, decide_eq_true_eq]
theorem plok_out {len : Nat} {z : Nat → Int} (h : 5 < len) : plok len z = false := by
  unfold plok; rw [decide_eq_false (by omega)]; rfl
theorem plok_in {len : Nat} {z : Nat → Int} (h5 : len ≤ 5) : plok len z = plz z len := by
  unfold plok; rw [decide_eq_true h5]; rfl

theorem iall_f (w : World) (a : Option Addr) (len cap : Nat) (z : Nat → Int) (hI : Ints w a len z) (hl : len ≤ 2000000) :
    Calls Tryd.prog 48 #[.slice a len cap, .func (.func 32) #[] #[]] w fun e w' => e = .returned (.bool (okz z len)) ∧ w = w' := by
  go_enter Tryd.func48, Tryd.ntmps48
  go_wp2
  go_loop [9] (fun i => ∃ k : Nat, k ≤ len ∧ i = .int .i64 k ∧ okz z k = true) (fun i => len - (intOf i).toNat)
  case atStart => exact ⟨0, by omega, rfl, rfl⟩
  case round =>
    obtain ⟨k, hk, rfl, hz⟩ := hrel
    have HZ := Lib.hid hz; clear hz
    by_cases hlt : k < len
    · rcases hI with h | ⟨b, off, rfl, hb, hc⟩
      · omega
      have hcx := hc k hlt
      clear hc
      cases hf : fok (z k) with
      | false =>
        have HR := Lib.hid (okz_no hlt hf)
        go_wp2_with (go_at_call 32; refine (iok_no _ _ (by assumption)).mono ?_; rintro e w' ⟨rfl, rfl⟩)
        go_ret
        exact ⟨ret_b HR.out.symm, rfl⟩
      | true =>
        have HR := Lib.hid (okz_next HZ.out hf)
        go_wp2_with (go_at_call 32; refine (iok_yes _ _ (by assumption)).mono ?_; rintro e w' ⟨rfl, rfl⟩)
        go_round
        case rel => exact ⟨k + 1, by omega, by go_num, HR.out⟩
        case measure => simp [intOf]; omega
    · obtain rfl : k = len := by omega
      clear hI
      go_wp2
      go_ret
      exact ⟨ret_b HZ.out.symm, rfl⟩
theorem icoef_f (w : World) (a : Option Addr) (len cap : Nat) (z : Nat → Int) (hI : Ints w a len z) (hl : len ≤ 2000000) :
    Calls Tryd.prog 57 #[.slice a len cap, .func (.func 32) #[] #[]] w fun e w' => e = .returned (.bool (pokz len z)) ∧ w = w' := by
  have HI := Lib.hid hI; clear hI
  by_cases h1 : 1 ≤ len
  · by_cases h5 : len ≤ 5
    · have HR := Lib.hid (pokz_in (z := z) h1 h5)
      have h1' : (1 : Int) ≤ (len : Int) := by omega
      have h5' : (len : Int) ≤ 5 := by omega
      go_enter Tryd.func57, Tryd.ntmps57
      go_wp2_with (go_at_call 48; refine (iall_f _ _ _ _ _ HI.out hl).mono ?_; rintro e w' ⟨rfl, rfl⟩)
      go_ret
      exact ⟨ret_b HR.out.symm, rfl⟩
    · have HR := Lib.hid (pokz_out (z := z) (.inr (by omega) : len < 1 ∨ 5 < len))
      have h1' : (1 : Int) ≤ (len : Int) := by omega
      have h5' : ¬ (len : Int) ≤ 5 := by omega
      go_enter Tryd.func57, Tryd.ntmps57
      go_wp2
      go_ret
      exact ⟨ret_b HR.out.symm, rfl⟩
  · have HR := Lib.hid (pokz_out (z := z) (.inl (by omega) : len < 1 ∨ 5 < len))
    have h1' : ¬ (1 : Int) ≤ (len : Int) := by omega
    go_enter Tryd.func57, Tryd.ntmps57
    go_wp2
    go_ret
    exact ⟨ret_b HR.out.symm, rfl⟩
end Con
end Go.Proofs.YtkklhlffbfgolaaDoor
