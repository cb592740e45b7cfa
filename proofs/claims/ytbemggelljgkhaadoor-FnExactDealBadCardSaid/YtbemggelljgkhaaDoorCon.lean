/-
  What each function on the numbers below 23 answers, the program's and the model's, at every argument: a contract a function.
-/
import Derived.Test.YtbemggelljgkhaaDoorRows
import Derived.Test.YtbemggelljgkhaaDoorAlg
import Derived.WalkKit
import Derived.ProofKit
import Derived.Lib.Hide
namespace Go.Proofs.YtbemggelljgkhaaDoor
namespace Con
open Go.RowKit Alg
set_option linter.unusedVariables false

theorem iok_yes (n : Int) (w : World) (h : fok n = true) : Calls Tryd.prog 36 #[.int .i64 n] w fun e w' => e = .returned (.bool true) ∧ w = w' := by
  obtain ⟨h0, h1⟩ := fok_iff.1 h
  clear h
  go_enter Tryd.func36, Tryd.ntmps36
  go_wp2
  go_ret
  exact ⟨rfl, rfl⟩
theorem iok_no (n : Int) (w : World) (h : fok n = false) : Calls Tryd.prog 36 #[.int .i64 n] w fun e w' => e = .returned (.bool false) ∧ w = w' := by
  rcases fok_not.1 h with h0 | h0 <;> clear h
  · have h1 : ¬ 0 ≤ n := by omega
    go_enter Tryd.func36, Tryd.ntmps36
    go_wp2
    go_ret
    exact ⟨rfl, rfl⟩
  · have h1 : 0 ≤ n := by omega
    have h2 : ¬ n < 23 := by omega
    go_enter Tryd.func36, Tryd.ntmps36
    go_wp2
    go_ret
    exact ⟨rfl, rfl⟩
theorem sok_yes (n : Int) (w : World) (h : fok n = true) : Calls Tryd.prog 31 #[.int .i64 n] w fun e w' => e = .returned (.bool true) ∧ w = w' := by
  obtain ⟨h0, h1⟩ := fok_iff.1 h
  have h2 : n ≤ 22 := by omega
  clear h
  go_enter Tryd.func31, Tryd.ntmps31
  go_wp2
  go_ret
  exact ⟨rfl, rfl⟩
theorem sok_no (n : Int) (w : World) (h : fok n = false) : Calls Tryd.prog 31 #[.int .i64 n] w fun e w' => e = .returned (.bool false) ∧ w = w' := by
  rcases fok_not.1 h with h0 | h0 <;> clear h
  · have h1 : ¬ 0 ≤ n := by omega
    go_enter Tryd.func31, Tryd.ntmps31
    go_wp2
    go_ret
    exact ⟨rfl, rfl⟩
  · have h1 : 0 ≤ n := by omega
    have h2 : ¬ n ≤ 22 := by omega
    go_enter Tryd.func31, Tryd.ntmps31
    go_wp2
    go_ret
    exact ⟨rfl, rfl⟩
theorem isum (a b : Int) (w : World) : Calls Tryd.prog 15 #[.int .i64 a, .int .i64 b] w fun e w' => e = .returned (.int .i64 (sumF a b)) ∧ w = w' := by
  cases ha : fok a with
  | false =>
    rw [sumF_out (.inl ha)]
    go_enter Tryd.func15, Tryd.ntmps15
    go_wp2_with (go_at_call 36; refine (iok_no _ _ (by assumption)).mono ?_; rintro e w' ⟨rfl, rfl⟩)
    go_ret
    exact ⟨rfl, rfl⟩
  | true =>
    cases hb : fok b with
    | false =>
      rw [sumF_out (.inr hb)]
      go_enter Tryd.func15, Tryd.ntmps15
      go_wp2_with (first
        | (go_at_call 36; refine (iok_yes _ _ (by assumption)).mono ?_; rintro e w' ⟨rfl, rfl⟩)
        | (go_at_call 36; refine (iok_no _ _ (by assumption)).mono ?_; rintro e w' ⟨rfl, rfl⟩))
      go_ret
      exact ⟨rfl, rfl⟩
    | true =>
      rw [sumF_in ha hb]
      obtain ⟨a0, a1⟩ := fok_iff.1 ha
      obtain ⟨b0, b1⟩ := fok_iff.1 hb
      go_enter Tryd.func15, Tryd.ntmps15
      go_wp2_with (first
        | (go_at_call 36; refine (iok_yes _ _ (by assumption)).mono ?_; rintro e w' ⟨rfl, rfl⟩)
        | (go_at_call 42; go_in))
      go_ret
      exact ⟨rfl, rfl⟩
theorem imul (a b : Int) (w : World) : Calls Tryd.prog 16 #[.int .i64 a, .int .i64 b] w fun e w' => e = .returned (.int .i64 (mulF a b)) ∧ w = w' := by
  cases ha : fok a with
  | false =>
    rw [mulF_out (.inl ha)]
    go_enter Tryd.func16, Tryd.ntmps16
    go_wp2_with (go_at_call 36; refine (iok_no _ _ (by assumption)).mono ?_; rintro e w' ⟨rfl, rfl⟩)
    go_ret
    exact ⟨rfl, rfl⟩
  | true =>
    cases hb : fok b with
    | false =>
      rw [mulF_out (.inr hb)]
      go_enter Tryd.func16, Tryd.ntmps16
      go_wp2_with (first
        | (go_at_call 36; refine (iok_yes _ _ (by assumption)).mono ?_; rintro e w' ⟨rfl, rfl⟩)
        | (go_at_call 36; refine (iok_no _ _ (by assumption)).mono ?_; rintro e w' ⟨rfl, rfl⟩))
      go_ret
      exact ⟨rfl, rfl⟩
    | true =>
      rw [mulF_in ha hb]
      obtain ⟨a0, a1⟩ := fok_iff.1 ha
      obtain ⟨b0, b1⟩ := fok_iff.1 hb
      have hm0 : 0 ≤ a * b := Int.mul_nonneg a0 b0
      have hm1 : a * b ≤ 22 * 22 := Int.mul_le_mul (by omega) (by omega) b0 (by decide)
      go_enter Tryd.func16, Tryd.ntmps16
      go_wp2_with (first
        | (go_at_call 36; refine (iok_yes _ _ (by assumption)).mono ?_; rintro e w' ⟨rfl, rfl⟩)
        | (go_at_call 43; go_in))
      go_ret
      exact ⟨rfl, rfl⟩
/-! The inverse: Euclid's rounds, and the model's search. -/
theorem ret_ib {x y : Int} {b : Bool} (h : x = y) : Ending.returned (.tuple #[.int .i64 x, .bool b]) = .returned (.tuple #[.int .i64 y, .bool b]) := by rw [h]
theorem ret_i {x y : Int} (h : x = y) : Ending.returned (.int .i64 x) = .returned (.int .i64 y) := by rw [h]
theorem euclid (a : Int) (w : World) (ha : fok a = true) (h : a ≠ 0) : Calls Tryd.prog 61 #[.int .i64 a] w fun e w' => e = .returned (.tuple #[.int .i64 (invF a), .bool true]) ∧ w = w' := by
  obtain ⟨a0, a1⟩ := fok_iff.1 ha
  have hz : (a == 0) = false := by simpa using h
  have HA := Lib.hid ha; clear ha
  have HZ := Lib.hid h; clear h
  go_enter Tryd.func61, Tryd.ntmps61
  go_wp2
  go_loop [4, 5, 6, 7] (fun r n f g => ∃ k : Nat, k < 23 ∧ r = .int .i64 (euc a k).1 ∧ n = .int .i64 (euc a k).2.1 ∧ f = .int .i64 (euc a k).2.2.1 ∧ g = .int .i64 (euc a k).2.2.2) (fun _ n _ _ => (intOf n).toNat)
  case atStart => exact ⟨0, by omega, rfl, rfl, rfl, rfl⟩
  case round =>
    obtain ⟨k, hk, rfl, rfl, rfl, rfl⟩ := hrel
    obtain ⟨r0, r1, n0, n1, f0, f1, g0, g1, hend, hgo⟩ := euc_fine HA.out HZ.out hk
    have HN := Lib.hid (@euc_next a k)
    generalize euc a k = s at *
    obtain ⟨r, n, f, g⟩ := s
    simp only at *
    by_cases hn : n = 0
    · subst hn
      have HE := Lib.hid (hend rfl)
      clear hend hgo
      by_cases hf : f < 0
      · go_wp2
        go_ret2
        exact ⟨ret_ib (x := f + 23) (by rw [← HE.out, fixUp, if_pos hf]), rfl⟩
      · go_wp2
        go_ret2
        exact ⟨ret_ib (x := f) (by rw [← HE.out, fixUp, if_neg (by omega)]), rfl⟩
    · obtain ⟨k1, m1, q1, q0, u0, u1, v0, v1⟩ := hgo hn
      have hz : (n != 0) = true := by simpa using hn
      have hp : 1 ≤ n := by omega
      have HT := Lib.hid (HN.out hn)
      rw [HT.out] at m1
      simp only [eucStep] at m1
      clear hend hgo HN
      go_wp2
      go_round
      case rel => exact ⟨k + 1, by omega, by rw [HT.out]; exact ⟨rfl, rfl, rfl, rfl⟩⟩
      case measure => simp [intOf]; omega
end Con
end Go.Proofs.YtbemggelljgkhaaDoor
