/-
  What each function on the group answers, the program's and the model's, at every argument: a contract a function. The program's make memory (an array of squares): all that was there stays.
-/
import Derived.Test.YtkklhlffbfgolaaDoorRows
import Derived.Test.YtkklhlffbfgolaaDoorDrawNum
import Derived.Test.YtkklhlffbfgolaaDoorGrp
import Derived.Test.YtkklhlffbfgolaaDoorCon
import Derived.WalkKit
import Derived.ProofKit
import Derived.Lib.Hide
import Derived.Outline
import Derived.Handy
import Derived.WalkSmall
import Derived.Laws.Rows
namespace Go.Proofs.YtkklhlffbfgolaaDoor
namespace Con
open Go.RowKit Alg
set_option linter.unusedVariables false

/-- One times another, in the group's modulus; as a function that the walk does not open. -/
def tm (a b : Int) : Int := a * b % 47
theorem tm_range (a b : Int) : 0 ≤ tm a b ∧ tm a b ≤ 46 := ⟨Int.emod_nonneg _ (by decide), by have := Int.emod_lt_of_pos (a * b) (show (0 : Int) < 47 by decide); unfold tm; omega⟩
theorem gtimes (a b : Int) (w : World) (a0 : 0 ≤ a) (a1 : a ≤ 46) (b0 : 0 ≤ b) (b1 : b ≤ 46) : Calls Tryd.prog 30 #[.int .i64 a, .int .i64 b] w fun e w' => e = .returned (.int .i64 (tm a b)) ∧ w = w' := by
  have hm0 : 0 ≤ a * b := Int.mul_nonneg a0 b0
  have hm1 : a * b ≤ 46 * 46 := Int.mul_le_mul a1 b1 b0 (by decide)
  go_enter Tryd.func30, Tryd.ntmps30
  go_wp2
  go_ret
  exact ⟨rfl, rfl⟩
/-- The repeated squares. -/
def sqs (a : Int) : Nat → Int
  | 0 => a
  | k + 1 => tm (sqs a k) (sqs a k)
theorem sqs_range {a : Int} (a0 : 0 ≤ a) (a1 : a ≤ 46) (k : Nat) : 0 ≤ sqs a k ∧ sqs a k ≤ 46 := by
  cases k with
  | zero => exact ⟨a0, a1⟩
  | succ k => exact tm_range _ _
theorem squares_any (a : Int) (w : World) (h0 : 0 ≤ a) (h1 : a ≤ 46) : Calls Tryd.prog 73 #[.int .i64 a] w fun e w' => e = .returned (.agg #[.int .i64 (sqs a 0), .int .i64 (sqs a 1), .int .i64 (sqs a 2), .int .i64 (sqs a 3), .int .i64 (sqs a 4)]) ∧ w.grownBy w' none := by
  obtain ⟨p0, p1⟩ := sqs_range h0 h1 1
  obtain ⟨q0, q1⟩ := sqs_range h0 h1 2
  obtain ⟨r0, r1⟩ := sqs_range h0 h1 3
  obtain ⟨s0, s1⟩ := sqs_range h0 h1 4
  show Calls _ _ #[.int .i64 (sqs a 0)] w _
  have h0 : 0 ≤ sqs a 0 := h0
  have h1 : sqs a 0 ≤ 46 := h1
  have gt : ∀ k w, 0 ≤ sqs a k → sqs a k ≤ 46 → Calls Tryd.prog 30 #[.int .i64 (sqs a k), .int .i64 (sqs a k)] w fun e w' => e = .returned (.int .i64 (sqs a (k + 1))) ∧ w = w' := fun k w h0 h1 => gtimes _ _ w h0 h1 h0 h1
  go_enter Tryd.func73, Tryd.ntmps73
  go_wp2
  refine wp_loop_rounds 6 ?_
  iterate 6
    rw [rounds_succ]
    go_wp2_with (go_at_call 30; refine (gt _ _ (by omega) (by omega)).mono ?_; rintro e w' ⟨rfl, rfl⟩)
  exact bodyPost_ret (v := .agg #[.int .i64 (sqs a 0), .int .i64 (sqs a 1), .int .i64 (sqs a 2), .int .i64 (sqs a 3), .int .i64 (sqs a 4)]) (by simp [results, Tryd.results73, go_sem]) rfl ⟨rfl, Draw.grown_trans (Draw.grown_alloc _ _ _) (Draw.grown_alloc _ _ _)⟩
/-- n without its last k bits. -/
def half (n : Int) : Nat → Int
  | 0 => n
  | 1 => n / 2
  | 2 => n / 4
  | 3 => n / 8
  | _ => n / 16
def lastBit (n : Int) : Bool := bits .and .i64 n 1 == 1
/-- The product behind k bits. -/
def pwb (a n : Int) : Nat → Int
  | 0 => 1
  | k + 1 => if lastBit (half n k) = true then tm (pwb a n k) (sqs a k) else pwb a n k
theorem pwb_range (a n : Int) (k : Nat) : 0 ≤ pwb a n k ∧ pwb a n k ≤ 46 := by
  induction k with
  | zero => exact ⟨Int.zero_le_ofNat 1, (by decide : (1 : Int) ≤ 46)⟩
  | succ k ih => unfold pwb; split; exact tm_range _ _; exact ih
theorem pwb_pw {a n : Int} (a0 : 0 ≤ a) (a1 : a ≤ 46) (n0 : 0 ≤ n) (n1 : n ≤ 23) : pwb a n 5 = pw a n.toNat := by
  have h : ∀ n : Fin 24, ∀ a : Fin 47, pwb (a.val : Int) (n.val : Int) 5 = pw (a.val : Int) n.val := by decide +kernel
  have := h ⟨n.toNat, by omega⟩ ⟨a.toNat, by omega⟩
  simpa [Int.toNat_of_nonneg a0, Int.toNat_of_nonneg n0] using this
theorem pwb_yes {a n : Int} {k : Nat} {m : Int} (e : half n k = m) (h : (bits .and .i64 m 1 == 1) = true) : pwb a n (k + 1) = tm (pwb a n k) (sqs a k) := by
  subst e; exact if_pos h
theorem pwb_no {a n : Int} {k : Nat} {m : Int} (e : half n k = m) (h : (bits .and .i64 m 1 == 1) = false) : pwb a n (k + 1) = pwb a n k := by
  subst e; exact if_neg (by unfold lastBit; rw [h]; decide)
theorem power_any (a n : Int) (w : World) (h0 : 0 ≤ a) (h1 : a ≤ 46) (n0 : 0 ≤ n) (n1 : n ≤ 23) : Calls Tryd.prog 56 #[.int .i64 a, .int .i64 n] w fun e w' => e = .returned (.int .i64 (pw a n.toNat)) ∧ w.grownBy w' none := by
  have HP := Lib.hid (pwb_pw h0 h1 n0 n1)
  obtain ⟨p0, p1⟩ := sqs_range h0 h1 1
  obtain ⟨q0, q1⟩ := sqs_range h0 h1 2
  obtain ⟨r0, r1⟩ := sqs_range h0 h1 3
  obtain ⟨s0, s1⟩ := sqs_range h0 h1 4
  have t0 : 0 ≤ sqs a 0 := h0
  have t1 : sqs a 0 ≤ 46 := h1
  have i0 : ∀ w, (Instr.index 102 (.agg #[.int .i64 (sqs a 0), .int .i64 (sqs a 1), .int .i64 (sqs a 2), .int .i64 (sqs a 3), .int .i64 (sqs a 4)]) (.int .i64 0)).run Tryd.prog w = .ok (.int .i64 (sqs a 0)) w := fun _ => by kernel_rfl
  have i1 : ∀ w, (Instr.index 102 (.agg #[.int .i64 (sqs a 0), .int .i64 (sqs a 1), .int .i64 (sqs a 2), .int .i64 (sqs a 3), .int .i64 (sqs a 4)]) (.int .i64 1)).run Tryd.prog w = .ok (.int .i64 (sqs a 1)) w := fun _ => by kernel_rfl
  have i2 : ∀ w, (Instr.index 102 (.agg #[.int .i64 (sqs a 0), .int .i64 (sqs a 1), .int .i64 (sqs a 2), .int .i64 (sqs a 3), .int .i64 (sqs a 4)]) (.int .i64 2)).run Tryd.prog w = .ok (.int .i64 (sqs a 2)) w := fun _ => by kernel_rfl
  have i3 : ∀ w, (Instr.index 102 (.agg #[.int .i64 (sqs a 0), .int .i64 (sqs a 1), .int .i64 (sqs a 2), .int .i64 (sqs a 3), .int .i64 (sqs a 4)]) (.int .i64 3)).run Tryd.prog w = .ok (.int .i64 (sqs a 3)) w := fun _ => by kernel_rfl
  have i4 : ∀ w, (Instr.index 102 (.agg #[.int .i64 (sqs a 0), .int .i64 (sqs a 1), .int .i64 (sqs a 2), .int .i64 (sqs a 3), .int .i64 (sqs a 4)]) (.int .i64 4)).run Tryd.prog w = .ok (.int .i64 (sqs a 4)) w := fun _ => by kernel_rfl
  go_enter Tryd.func56, Tryd.ntmps56
  go_wp2_with (go_at_call 73; refine (squares_any _ _ (by omega) (by omega)).mono ?_; rintro e w' ⟨rfl, hg⟩)
  have HG := Lib.hid hg; clear hg
  go_loop [5, 10] (fun p i => ∃ k : Nat, k ≤ 5 ∧ i = .int .i64 k ∧ p = .int .i64 (pwb a n k)) (fun _ i => 5 - (intOf i).toNat)
  case atStart => exact ⟨0, by omega, rfl, rfl⟩
  case round =>
    obtain ⟨k, hk, rfl, rfl⟩ := hrel
    obtain ⟨x0, x1⟩ := pwb_range a n k
    rcases (by omega : k = 0 ∨ k = 1 ∨ k = 2 ∨ k = 3 ∨ k = 4 ∨ k = 5) with rfl | rfl | rfl | rfl | rfl | rfl
    · cases hb : (bits .and .i64 n 1 == 1) with
      | true =>
        have HY := Lib.hid (pwb_yes (a := a) (n := n) (k := 0) rfl hb)
        go_wp2_with (go_at_call 30; refine (gtimes _ _ _ (by omega) (by omega) (by omega) (by omega)).mono ?_; rintro e w' ⟨rfl, rfl⟩)
        go_round
        case rel => exact ⟨1, by omega, rfl, by rw [HY.out]⟩
        case measure => simp [intOf]
      | false =>
        have HY := Lib.hid (pwb_no (a := a) (n := n) (k := 0) rfl hb)
        go_wp2
        go_round
        case rel => exact ⟨1, by omega, rfl, by rw [HY.out]⟩
        case measure => simp [intOf]
    · cases hb : (bits .and .i64 (n / 2) 1 == 1) with
      | true =>
        have HY := Lib.hid (pwb_yes (a := a) (n := n) (k := 1) rfl hb)
        go_wp2_with (go_at_call 30; refine (gtimes _ _ _ (by omega) (by omega) (by omega) (by omega)).mono ?_; rintro e w' ⟨rfl, rfl⟩)
        go_round
        case rel => exact ⟨2, by omega, rfl, by rw [HY.out]⟩
        case measure => simp [intOf]
      | false =>
        have HY := Lib.hid (pwb_no (a := a) (n := n) (k := 1) rfl hb)
        go_wp2
        go_round
        case rel => exact ⟨2, by omega, rfl, by rw [HY.out]⟩
        case measure => simp [intOf]
    · cases hb : (bits .and .i64 (n / 4) 1 == 1) with
      | true =>
        have HY := Lib.hid (pwb_yes (a := a) (n := n) (k := 2) rfl hb)
        go_wp2_with (go_at_call 30; refine (gtimes _ _ _ (by omega) (by omega) (by omega) (by omega)).mono ?_; rintro e w' ⟨rfl, rfl⟩)
        go_round
        case rel => exact ⟨3, by omega, rfl, by rw [HY.out]⟩
        case measure => simp [intOf]
      | false =>
        have HY := Lib.hid (pwb_no (a := a) (n := n) (k := 2) rfl hb)
        go_wp2
        go_round
        case rel => exact ⟨3, by omega, rfl, by rw [HY.out]⟩
        case measure => simp [intOf]
    · cases hb : (bits .and .i64 (n / 8) 1 == 1) with
      | true =>
        have HY := Lib.hid (pwb_yes (a := a) (n := n) (k := 3) rfl hb)
        go_wp2_with (go_at_call 30; refine (gtimes _ _ _ (by omega) (by omega) (by omega) (by omega)).mono ?_; rintro e w' ⟨rfl, rfl⟩)
        go_round
        case rel => exact ⟨4, by omega, rfl, by rw [HY.out]⟩
        case measure => simp [intOf]
      | false =>
        have HY := Lib.hid (pwb_no (a := a) (n := n) (k := 3) rfl hb)
        go_wp2
        go_round
        case rel => exact ⟨4, by omega, rfl, by rw [HY.out]⟩
        case measure => simp [intOf]
    · cases hb : (bits .and .i64 (n / 16) 1 == 1) with
      | true =>
        have HY := Lib.hid (pwb_yes (a := a) (n := n) (k := 4) rfl hb)
        go_wp2_with (go_at_call 30; refine (gtimes _ _ _ (by omega) (by omega) (by omega) (by omega)).mono ?_; rintro e w' ⟨rfl, rfl⟩)
        go_round
        case rel => exact ⟨5, by omega, rfl, by rw [HY.out]⟩
        case measure => simp [intOf]
      | false =>
        have HY := Lib.hid (pwb_no (a := a) (n := n) (k := 4) rfl hb)
        go_wp2
        go_round
        case rel => exact ⟨5, by omega, rfl, by rw [HY.out]⟩
        case measure => simp [intOf]
    · go_wp2
      go_ret
      exact ⟨ret_i HP.out, HG.out⟩

/-! GroupOk: out of the range no power is taken. -/
theorem ret_b {x y : Bool} (h : x = y) : Ending.returned (.bool x) = .returned (.bool y) := by rw [h]
theorem igok (n : Int) (w : World) : Calls Tryd.prog 29 #[.int .i64 n] w fun e w' => e = .returned (.bool (gok n)) ∧ w.grownBy w' none := by
  by_cases h0 : 0 < n
  case neg =>
    have hg : gok n = false := by unfold gok; exact decide_eq_false (by omega)
    rw [hg]; clear hg
    go_enter Tryd.func29, Tryd.ntmps29
    go_wp2
    go_ret
    exact ⟨rfl, Draw.grown_refl _ _⟩
  by_cases h1 : n < 47
  case neg =>
    have hg : gok n = false := by unfold gok; exact decide_eq_false (by omega)
    rw [hg]; clear hg
    go_enter Tryd.func29, Tryd.ntmps29
    go_wp2
    go_ret
    exact ⟨rfl, Draw.grown_refl _ _⟩
  have hk := gok_pw (n := n) (by omega) (by omega)
  cases hg : gok n with
  | true =>
    have kp : (pw n 23 == 1) = true := hk ▸ hg
    have HP := Lib.hid hk; clear hk hg
    go_enter Tryd.func29, Tryd.ntmps29
    go_wp2_with (go_at_call 56; refine (power_any _ _ _ (by omega) (by omega) (by omega) (by omega)).mono ?_; rintro e w' ⟨rfl, hg⟩)
    go_ret
    exact ⟨rfl, by assumption⟩
  | false =>
    have kp : (pw n 23 == 1) = false := hk ▸ hg
    have HP := Lib.hid hk; clear hk hg
    go_enter Tryd.func29, Tryd.ntmps29
    go_wp2_with (go_at_call 56; refine (power_any _ _ _ (by omega) (by omega) (by omega) (by omega)).mono ?_; rintro e w' ⟨rfl, hg⟩)
    go_ret
    exact ⟨rfl, by assumption⟩
theorem igok_yes (n : Int) (w : World) (h : gok n = true) : Calls Tryd.prog 29 #[.int .i64 n] w fun e w' => e = .returned (.bool true) ∧ w.grownBy w' none := h ▸ igok n w
theorem igok_no (n : Int) (w : World) (h : gok n = false) : Calls Tryd.prog 29 #[.int .i64 n] w fun e w' => e = .returned (.bool false) ∧ w.grownBy w' none := h ▸ igok n w
theorem igmul (a b : Int) (w : World) : Calls Tryd.prog 8 #[.int .i64 a, .int .i64 b] w fun e w' => e = .returned (.int .i64 (gmulF a b)) ∧ w.grownBy w' none := by
  cases ha : gok a with
  | false =>
    rw [gmul_out (.inl ha)]
    go_enter Tryd.func8, Tryd.ntmps8
    go_wp2_with (go_at_call 29; refine (igok_no _ _ (by assumption)).mono ?_; rintro e w' ⟨rfl, hg⟩)
    go_ret
    exact ⟨rfl, by assumption⟩
  | true =>
    cases hb : gok b with
    | false =>
      rw [gmul_out (.inr hb)]
      go_enter Tryd.func8, Tryd.ntmps8
      go_wp2_with fail
      refine (igok_yes _ _ ha).mono ?_
      rintro e w1 ⟨rfl, hg1⟩
      have HG := Lib.hid hg1; clear hg1
      go_wp2_with fail
      refine (igok_no _ _ hb).mono ?_
      rintro e w2 ⟨rfl, hg2⟩
      have HG2 := Lib.hid hg2; clear hg2
      go_wp2_with fail
      go_ret
      exact ⟨rfl, Draw.grown_trans HG.out HG2.out⟩
    | true =>
      rw [gmul_in ha hb]
      obtain ⟨a0, a1⟩ := gok_range ha
      obtain ⟨b0, b1⟩ := gok_range hb
      go_enter Tryd.func8, Tryd.ntmps8
      go_wp2_with fail
      refine (igok_yes _ _ ha).mono ?_
      rintro e w1 ⟨rfl, hg1⟩
      have HG := Lib.hid hg1; clear hg1
      go_wp2_with fail
      refine (igok_yes _ _ hb).mono ?_
      rintro e w2 ⟨rfl, hg2⟩
      have HG2 := Lib.hid hg2; clear hg2
      go_wp2_with (go_at_call 30; refine (gtimes _ _ _ (by omega) (by omega) (by omega) (by omega)).mono ?_; rintro e w' ⟨rfl, rfl⟩)
      go_ret
      exact ⟨rfl, Draw.grown_trans HG.out HG2.out⟩
theorem igpow (a n : Int) (w : World) : Calls Tryd.prog 35 #[.int .i64 a, .int .i64 n] w fun e w' => e = .returned (.int .i64 (gpowF a n)) ∧ w.grownBy w' none := by
  cases ha : gok a with
  | false =>
    rw [gpow_out (.inl ha)]
    go_enter Tryd.func35, Tryd.ntmps35
    go_wp2_with (go_at_call 29; refine (igok_no _ _ (by assumption)).mono ?_; rintro e w' ⟨rfl, hg⟩)
    go_ret
    exact ⟨rfl, by assumption⟩
  | true =>
    cases hn : fok n with
    | false =>
      rw [gpow_out (.inr hn)]
      go_enter Tryd.func35, Tryd.ntmps35
      go_wp2_with fail
      refine (igok_yes _ _ ha).mono ?_
      rintro e w1 ⟨rfl, hg1⟩
      have HG := Lib.hid hg1; clear hg1
      go_wp2_with fail
      refine (iok_no _ _ hn).mono ?_
      rintro e w2 ⟨rfl, rfl⟩
      go_wp2_with fail
      go_ret
      exact ⟨rfl, HG.out⟩
    | true =>
      rw [gpow_in ha hn]
      obtain ⟨a0, a1⟩ := gok_range ha
      obtain ⟨n0, n1⟩ := fok_iff.1 hn
      go_enter Tryd.func35, Tryd.ntmps35
      go_wp2_with fail
      refine (igok_yes _ _ ha).mono ?_
      rintro e w1 ⟨rfl, hg1⟩
      have HG := Lib.hid hg1; clear hg1
      go_wp2_with fail
      refine (iok_yes _ _ hn).mono ?_
      rintro e w2 ⟨rfl, rfl⟩
      go_wp2_with (go_at_call 56; refine (power_any _ _ _ (by omega) (by omega) (by omega) (by omega)).mono ?_; rintro e w' ⟨rfl, hg⟩)
      have HG2 := Lib.hid hg; clear hg
      go_ret
      exact ⟨rfl, Draw.grown_trans HG.out HG2.out⟩
theorem igof (n : Int) (w : World) : Calls Tryd.prog 10 #[.int .i64 n] w fun e w' => e = .returned (.int .i64 (gofF n)) ∧ w.grownBy w' none := by
  rw [gof_pow]
  go_enter Tryd.func10, Tryd.ntmps10
  go_wp2_with (go_at_call 35; refine (igpow _ _ _).mono ?_; rintro e w' ⟨rfl, hg⟩)
  go_ret
  exact ⟨rfl, by assumption⟩
/-! The model's. -/
theorem spow (a n : Int) (w : World) (h0 : 0 ≤ a) (h1 : a ≤ 46) (n0 : 0 ≤ n) (n1 : n ≤ 100) : Calls Tryd.prog 68 #[.int .i64 a, .int .i64 n] w fun e w' => e = .returned (.int .i64 (pw a n.toNat)) ∧ w = w' := by
  go_enter Tryd.func68, Tryd.ntmps68
  go_wp2
  go_loop [5, 6] (fun p i => ∃ k : Nat, (k : Int) ≤ n ∧ i = .int .i64 k ∧ p = .int .i64 (pw a k)) (fun _ i => n.toNat - (intOf i).toNat)
  case atStart => exact ⟨0, by omega, rfl, rfl⟩
  case round =>
    obtain ⟨k, hk, rfl, rfl⟩ := hrel
    obtain ⟨x0, x1⟩ := pw_range a k
    have m0 : 0 ≤ pw a k * a := Int.mul_nonneg x0 h0
    have m1 : pw a k * a ≤ 46 * 46 := Int.mul_le_mul x1 h1 h0 (by decide)
    by_cases hlt : (k : Int) < n
    · go_wp2
      go_round
      case rel => exact ⟨k + 1, by omega, by go_num, rfl⟩
      case measure => simp [intOf]; omega
    · have HK := Lib.hid (show n.toNat = k by omega)
      go_wp2
      go_ret
      exact ⟨ret_i (by rw [HK.out]), rfl⟩
/-- Is n one of the first k powers of 2? -/
def among (n : Int) : Nat → Bool
  | 0 => false
  | k + 1 => among n k || pw 2 k == n
theorem among_step {n : Int} {k : Nat} (h : among n k = false) (h' : (pw 2 k == n) = false) : among n (k + 1) = false := by unfold among; rw [h, h']; rfl
theorem among_hit {n : Int} {k : Nat} (h' : (pw 2 k == n) = true) : among n (k + 1) = true := by unfold among; rw [h']; simp
theorem among_mono {n : Int} {k m : Nat} (hkm : k ≤ m) (h : among n k = true) : among n m = true := by
  induction m with
  | zero => obtain rfl : k = 0 := by omega
            exact h
  | succ m ih =>
    by_cases e : k = m + 1
    · subst e; exact h
    · unfold among; rw [ih (by omega)]; rfl
theorem among_gok {n : Int} : among n 23 = gok n := by
  by_cases h : 0 ≤ n ∧ n ≤ 46
  · exact one47 (P := fun n => among n 23 = gok n) (by decide +kernel) h.1 h.2
  · have hf : gok n = false := by unfold gok; exact decide_eq_false (by omega)
    rw [hf]
    have : ∀ k, among n k = false := fun k => by
      induction k with
      | zero => rfl
      | succ k ih => exact among_step ih (by obtain ⟨u, v⟩ := pw_range 2 k; simp; omega)
    exact this 23
theorem sgok (n : Int) (w : World) : Calls Tryd.prog 67 #[.int .i64 n] w fun e w' => e = .returned (.bool (gok n)) ∧ w = w' := by
  have HA := Lib.hid (@among_gok n)
  go_enter Tryd.func67, Tryd.ntmps67
  go_wp2
  go_loop [3] (fun i => ∃ k : Nat, k ≤ 23 ∧ i = .int .i64 k ∧ among n k = false) (fun i => 23 - (intOf i).toNat)
  case atStart => exact ⟨0, by omega, rfl, rfl⟩
  case round =>
    obtain ⟨k, hk, rfl, hn⟩ := hrel
    have HN := Lib.hid hn; clear hn
    by_cases hlt : (k : Int) < 23
    · cases he : (pw 2 k == n) with
      | true =>
        have HE := Lib.hid (show among n 23 = true from among_mono (k := k + 1) (by omega) (among_hit he))
        go_wp2_with (go_at_call 68; refine (spow _ _ _ (by omega) (by omega) (by omega) (by omega)).mono ?_; rintro e w' ⟨rfl, rfl⟩)
        go_ret
        exact ⟨ret_b (HE.out.symm.trans HA.out), rfl⟩
      | false =>
        have HE := Lib.hid (among_step HN.out he)
        go_wp2_with (go_at_call 68; refine (spow _ _ _ (by omega) (by omega) (by omega) (by omega)).mono ?_; rintro e w' ⟨rfl, rfl⟩)
        go_round
        case rel => exact ⟨k + 1, by omega, by go_num, HE.out⟩
        case measure => simp [intOf]; omega
    · obtain rfl : k = 23 := by omega
      go_wp2
      go_ret
      exact ⟨ret_b (HN.out.symm.trans HA.out), rfl⟩
theorem sgok_yes (n : Int) (w : World) (h : gok n = true) : Calls Tryd.prog 67 #[.int .i64 n] w fun e w' => e = .returned (.bool true) ∧ w = w' := h ▸ sgok n w
theorem sgok_no (n : Int) (w : World) (h : gok n = false) : Calls Tryd.prog 67 #[.int .i64 n] w fun e w' => e = .returned (.bool false) ∧ w = w' := h ▸ sgok n w
end Con
end Go.Proofs.YtkklhlffbfgolaaDoor
