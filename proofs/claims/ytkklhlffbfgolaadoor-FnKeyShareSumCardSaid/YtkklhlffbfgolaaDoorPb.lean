/-
  What the functions that test places answer, the program's and the model's; whether a slice has a number; whether two slices hold the same.
-/
import Derived.Test.YtkklhlffbfgolaaDoorPa
namespace Go.Proofs.YtkklhlffbfgolaaDoor
namespace Con
open Go.RowKit Alg Mem
set_option linter.unusedVariables false

theorem hasz_yes {z : Nat → Int} {n : Int} {k m : Nat} (hk : k < m) (h : z k = n) : hasz z n m = true := hasz_iff.2 ⟨k, hk, h⟩
theorem hasz_next {z : Nat → Int} {n : Int} {k : Nat} (h : hasz z n k = false) (hz : ¬ z k = n) : hasz z n (k + 1) = false := by
  rw [hasz_no] at h ⊢
  intro j hj
  rcases Nat.lt_or_ge j k with h' | h'
  · exact h j h'
  · obtain rfl : j = k := by omega
    exact hz
/-- Where it stands, or -1. -/
def Idx (z : Nat → Int) (n : Int) (len : Nat) (w : World) (e : Ending) (w' : World) : Prop :=
  ∃ r : Int, e = .returned (.int .i64 r) ∧ w = w' ∧ (hasz z n len = true ∧ 0 ≤ r ∨ hasz z n len = false ∧ r = -1)
theorem index_any (w : World) (a : Option Addr) (len cap : Nat) (z : Nat → Int) (n : Int) (hI : Ints w a len z) (hl : len ≤ 2000000) :
    Calls Tryd.prog 51 #[.slice a len cap, .int .i64 n] w (Idx z n len w) := by
  go_enter Tryd.func51, Tryd.ntmps51
  go_wp2
  go_loop [8] (fun i => ∃ k : Nat, k ≤ len ∧ i = .int .i64 k ∧ hasz z n k = false) (fun i => len - (intOf i).toNat)
  case atStart => exact ⟨0, by omega, rfl, rfl⟩
  case round =>
    obtain ⟨k, hk, rfl, hz⟩ := hrel
    have HZ := Lib.hid hz; clear hz
    by_cases hlt : k < len
    · rcases hI with h | ⟨b, off, rfl, hb, hc⟩
      · omega
      have hcx := hc k hlt
      clear hc
      by_cases he : z k = n
      · have HR := Lib.hid (hasz_yes hlt he)
        have ht : (n == z k) = true := by simpa using he.symm
        clear he
        go_wp2
        go_ret
        exact ⟨_, rfl, rfl, .inl ⟨HR.out, by omega⟩⟩
      · have HR := Lib.hid (hasz_next HZ.out he)
        have ht : (n == z k) = false := by simpa using fun h => he h.symm
        clear he
        go_wp2
        go_round
        case rel => exact ⟨k + 1, by omega, by go_num, HR.out⟩
        case measure => simp [intOf]; omega
    · obtain rfl : k = len := by omega
      clear hI
      go_wp2
      go_ret
      exact ⟨_, rfl, rfl, .inr ⟨HZ.out, rfl⟩⟩
theorem contains_any (w : World) (a : Option Addr) (len cap : Nat) (z : Nat → Int) (n : Int) (hI : Ints w a len z) (hl : len ≤ 2000000) :
    Calls Tryd.prog 25 #[.slice a len cap, .int .i64 n] w fun e w' => e = .returned (.bool (hasz z n len)) ∧ w = w' := by
  go_enter Tryd.func25, Tryd.ntmps25
  go_wp2_with fail
  refine (index_any _ _ _ _ z n hI hl).mono ?_
  clear hI
  rintro e w' ⟨r, rfl, rfl, ⟨h, hr⟩ | ⟨h, rfl⟩⟩
  · have HR := Lib.hid h; clear h
    go_wp2
    go_ret
    exact ⟨ret_b HR.out.symm, rfl⟩
  · have HR := Lib.hid h; clear h
    go_wp2
    go_ret
    exact ⟨ret_b HR.out.symm, rfl⟩
theorem shas (w : World) (a : Option Addr) (len cap : Nat) (z : Nat → Int) (n : Int) (hI : Ints w a len z) (hl : len ≤ 2000000) :
    Calls Tryd.prog 17 #[.slice a len cap, .int .i64 n] w fun e w' => e = .returned (.bool (hasz z n len)) ∧ w = w' := by
  go_enter Tryd.func17, Tryd.ntmps17
  go_wp2
  go_loop [5] (fun i => ∃ k : Nat, k ≤ len ∧ i = .int .i64 k ∧ hasz z n k = false) (fun i => len - (intOf i).toNat)
  case atStart => exact ⟨0, by omega, rfl, rfl⟩
  case round =>
    obtain ⟨k, hk, rfl, hz⟩ := hrel
    have HZ := Lib.hid hz; clear hz
    by_cases hlt : k < len
    · rcases hI with h | ⟨b, off, rfl, hb, hc⟩
      · omega
      have hcx := hc k hlt
      clear hc
      by_cases he : z k = n
      · have HR := Lib.hid (hasz_yes hlt he)
        have ht : (z k == n) = true := by simpa using he
        clear he
        go_wp2
        go_ret
        exact ⟨ret_b HR.out.symm, rfl⟩
      · have HR := Lib.hid (hasz_next HZ.out he)
        have ht : (z k == n) = false := by simpa using he
        clear he
        go_wp2
        go_round
        case rel => exact ⟨k + 1, by omega, by go_num, HR.out⟩
        case measure => simp [intOf]; omega
    · obtain rfl : k = len := by omega
      clear hI
      go_wp2
      go_ret
      exact ⟨ret_b HZ.out.symm, rfl⟩
end Con
end Go.Proofs.YtkklhlffbfgolaaDoor
