/-
  The walks of the laws of chapter 2 (the group): each law's function returns true at every code, and all that was there stays as it was.
-/
import Derived.Test.YtpkpdococokaaaaDrawGrp
import Derived.Test.YtpkpdococokaaaaRunKit
namespace Go.Proofs.Ytpkpdococokaaaa
namespace Run
open Go.RowKit Alg
set_option linter.unusedVariables false

theorem gok_cases (a : Int) : gok a = true ∨ gok a = false := by cases gok a <;> simp
theorem igmulW {W : World} (a b : Int) (w : World) (hW : W.grownBy w none) : Calls Try.prog 22 #[.int .i64 a, .int .i64 b] w fun e w' => e = .returned (.int .i64 (gmulF a b)) ∧ W.grownBy w' none := (Con.igmul a b w).mono fun _ _ ⟨h, g⟩ => ⟨h, Draw.grown_trans hW g⟩
theorem igpowW {W : World} (a n : Int) (w : World) (hW : W.grownBy w none) : Calls Try.prog 31 #[.int .i64 a, .int .i64 n] w fun e w' => e = .returned (.int .i64 (gpowF a n)) ∧ W.grownBy w' none := (Con.igpow a n w).mono fun _ _ ⟨h, g⟩ => ⟨h, Draw.grown_trans hW g⟩
theorem igofW {W : World} (n : Int) (w : World) (hW : W.grownBy w none) : Calls Try.prog 20 #[.int .i64 n] w fun e w' => e = .returned (.int .i64 (gofF n)) ∧ W.grownBy w' none := (Con.igof n w).mono fun _ _ ⟨h, g⟩ => ⟨h, Draw.grown_trans hW g⟩
theorem iginvW {W : World} (a : Int) (w : World) (hW : W.grownBy w none) : Calls Try.prog 35 #[.int .i64 a] w fun e w' => e = .returned (.int .i64 (ginvF a)) ∧ W.grownBy w' none := (Con.iginv a w).mono fun _ _ ⟨h, g⟩ => ⟨h, Draw.grown_trans hW g⟩
theorem igokW {W : World} (n : Int) (w : World) (hW : W.grownBy w none) : Calls Try.prog 18 #[.int .i64 n] w fun e w' => e = .returned (.bool (gok n)) ∧ W.grownBy w' none := (Con.igok n w).mono fun _ _ ⟨h, g⟩ => ⟨h, Draw.grown_trans hW g⟩
theorem igokW_yes {W : World} (n : Int) (w : World) (h : gok n = true) (hW : W.grownBy w none) : Calls Try.prog 18 #[.int .i64 n] w fun e w' => e = .returned (.bool true) ∧ W.grownBy w' none := h ▸ igokW n w hW
theorem igokW_no {W : World} (n : Int) (w : World) (h : gok n = false) (hW : W.grownBy w none) : Calls Try.prog 18 #[.int .i64 n] w fun e w' => e = .returned (.bool false) ∧ W.grownBy w' none := h ▸ igokW n w hW
theorem lpg {W : World} (n : Int) (w : World) (h : 0 ≤ n) (hW : W.grownBy w none) : Calls Try.prog 24 #[.int .i64 n] w fun e w' => ∃ c : Int, gok c = true ∧ e = .returned (.int .i64 c) ∧ W.grownBy w' none := by
  go_enter Try.func24, Try.ntmps24
  go_wp2_with fail
  refine (lp _ _ h).mono ?_
  rintro e w' ⟨c, hcc, rfl, rfl⟩
  go_wp2_with fail
  refine (igofW _ _ hW).mono ?_
  rintro e w2 ⟨rfl, hg⟩
  have HG := Lib.hid hg; clear hg
  go_wp2_with fail
  go_ret
  exact ⟨_, gof_ok hcc, rfl, HG.out⟩

set_option maxHeartbeats 1000000 in
theorem FnGroupMul (a : Option Addr) (len cap : Nat) (a1 : Option Addr) (len1 cap1 : Nat) (w : World) (hB : Draw.Bytes w w.heap.size a len) (hc : len ≤ cap) (hm : cap ≤ maxLen) (hc1 : len1 ≤ cap1) (hm1 : cap1 ≤ maxLen) :
    Calls Try.prog 4 #[.slice a len cap, .slice a1 len1 cap1] w (Yes w) := by
  have HM := hm; unfold maxLen at HM
  have HM1 := hm1; unfold maxLen at HM1
  by_cases hL : (1048576 : Int) < (len : Int)
  · have HB := Lib.hid hB; clear hB
    go_enter Try.func4, Try.ntmps4
    go_wp2
    go_ret
    exact ⟨rfl, Below.refl _ _⟩
  by_cases hL1 : (1048576 : Int) < (len1 : Int)
  · have HB := Lib.hid hB; clear hB
    have hL0 : ¬ (1048576 : Int) < (len : Int) := hL
    go_enter Try.func4, Try.ntmps4
    go_wp2
    go_ret
    exact ⟨rfl, Below.refl _ _⟩
  go_enter Try.func4, Try.ntmps4
  go_wp2_with fail
  refine (Draw.drawGMul _ a len cap hB hc hm).mono ?_
  rintro e w1 ⟨x, y, x0, x1, y0, y1, rfl, hg⟩
  clear hB hc hm hc1 hm1
  rcases gok_cases x with hx | hx
  case inr =>
    go_wp2_with (first
      | (go_at_call 22; refine (igmulW _ _ _ (by assumption)).mono ?_; rintro e w' ⟨rfl, hg⟩)
      | (go_at_call 23; refine (Con.sgmul _ _ _).mono ?_; rintro e w' ⟨rfl, rfl⟩)
      | (go_at_call 19; refine (Con.sgok_yes _ _ (by assumption)).mono ?_; rintro e w' ⟨rfl, rfl⟩)
      | (go_at_call 19; refine (Con.sgok_no _ _ (by assumption)).mono ?_; rintro e w' ⟨rfl, rfl⟩)
      | (go_at_call 27; refine (Con.sok_yes _ _ (by assumption)).mono ?_; rintro e w' ⟨rfl, rfl⟩)
      | (go_at_call 27; refine (Con.sok_no _ _ (by assumption)).mono ?_; rintro e w' ⟨rfl, rfl⟩))
    go_ret
    exact ⟨rfl, Draw.below_of (by assumption)⟩
  rcases gok_cases y with hy | hy
  case inr =>
    go_wp2_with (first
      | (go_at_call 22; refine (igmulW _ _ _ (by assumption)).mono ?_; rintro e w' ⟨rfl, hg⟩)
      | (go_at_call 23; refine (Con.sgmul _ _ _).mono ?_; rintro e w' ⟨rfl, rfl⟩)
      | (go_at_call 19; refine (Con.sgok_yes _ _ (by assumption)).mono ?_; rintro e w' ⟨rfl, rfl⟩)
      | (go_at_call 19; refine (Con.sgok_no _ _ (by assumption)).mono ?_; rintro e w' ⟨rfl, rfl⟩)
      | (go_at_call 27; refine (Con.sok_yes _ _ (by assumption)).mono ?_; rintro e w' ⟨rfl, rfl⟩)
      | (go_at_call 27; refine (Con.sok_no _ _ (by assumption)).mono ?_; rintro e w' ⟨rfl, rfl⟩))
    go_ret
    exact ⟨rfl, Draw.below_of (by assumption)⟩
  go_wp2_with (first
    | (go_at_call 22; refine (igmulW _ _ _ (by assumption)).mono ?_; rintro e w' ⟨rfl, hg⟩)
    | (go_at_call 23; refine (Con.sgmul _ _ _).mono ?_; rintro e w' ⟨rfl, rfl⟩)
    | (go_at_call 19; refine (Con.sgok_yes _ _ (by assumption)).mono ?_; rintro e w' ⟨rfl, rfl⟩)
    | (go_at_call 19; refine (Con.sgok_no _ _ (by assumption)).mono ?_; rintro e w' ⟨rfl, rfl⟩)
    | (go_at_call 27; refine (Con.sok_yes _ _ (by assumption)).mono ?_; rintro e w' ⟨rfl, rfl⟩)
    | (go_at_call 27; refine (Con.sok_no _ _ (by assumption)).mono ?_; rintro e w' ⟨rfl, rfl⟩))
  refine (lpg _ _ (by omega) (by assumption)).mono ?_
  rintro e w3 ⟨c, hcc, rfl, hg3⟩
  have k1 := beq_t (@gmul_comm x y)
  have k2 := beq_t (gmul_assoc hx hy hcc)
  have k3 := beq_t (gmul_one hx)
  have k4 := gmul_ok hx hy
  go_wp2_with (first
    | (go_at_call 22; refine (igmulW _ _ _ (by assumption)).mono ?_; rintro e w' ⟨rfl, hg⟩)
    | (go_at_call 18; refine (igokW_yes _ _ (by assumption) (by assumption)).mono ?_; rintro e w' ⟨rfl, hg⟩))
  go_ret
  exact ⟨rfl, Draw.below_of (by assumption)⟩

set_option maxHeartbeats 1000000 in
theorem FnGroupOf (a : Option Addr) (len cap : Nat) (a1 : Option Addr) (len1 cap1 : Nat) (w : World) (hB : Draw.Bytes w w.heap.size a len) (hc : len ≤ cap) (hm : cap ≤ maxLen) (hc1 : len1 ≤ cap1) (hm1 : cap1 ≤ maxLen) :
    Calls Try.prog 5 #[.slice a len cap, .slice a1 len1 cap1] w (Yes w) := by
  have HM := hm; unfold maxLen at HM
  have HM1 := hm1; unfold maxLen at HM1
  by_cases hL : (1048576 : Int) < (len : Int)
  · have HB := Lib.hid hB; clear hB
    go_enter Try.func5, Try.ntmps5
    go_wp2
    go_ret
    exact ⟨rfl, Below.refl _ _⟩
  by_cases hL1 : (1048576 : Int) < (len1 : Int)
  · have HB := Lib.hid hB; clear hB
    have hL0 : ¬ (1048576 : Int) < (len : Int) := hL
    go_enter Try.func5, Try.ntmps5
    go_wp2
    go_ret
    exact ⟨rfl, Below.refl _ _⟩
  go_enter Try.func5, Try.ntmps5
  go_wp2_with fail
  refine (Draw.drawGOf _ a len cap hB hc hm).mono ?_
  rintro e w1 ⟨x, x0, x1, rfl, hg⟩
  clear hB hc hm hc1 hm1
  rcases fok_cases x with hx | hx
  case inr =>
    go_wp2_with (first
      | (go_at_call 20; refine (igofW _ _ (by assumption)).mono ?_; rintro e w' ⟨rfl, hg⟩)
      | (go_at_call 26; refine (Con.sgof _ _).mono ?_; rintro e w' ⟨rfl, rfl⟩)
      | (go_at_call 19; refine (Con.sgok_yes _ _ (by assumption)).mono ?_; rintro e w' ⟨rfl, rfl⟩)
      | (go_at_call 19; refine (Con.sgok_no _ _ (by assumption)).mono ?_; rintro e w' ⟨rfl, rfl⟩)
      | (go_at_call 27; refine (Con.sok_yes _ _ (by assumption)).mono ?_; rintro e w' ⟨rfl, rfl⟩)
      | (go_at_call 27; refine (Con.sok_no _ _ (by assumption)).mono ?_; rintro e w' ⟨rfl, rfl⟩))
    go_ret
    exact ⟨rfl, Draw.below_of (by assumption)⟩
  go_wp2_with (first
    | (go_at_call 20; refine (igofW _ _ (by assumption)).mono ?_; rintro e w' ⟨rfl, hg⟩)
    | (go_at_call 26; refine (Con.sgof _ _).mono ?_; rintro e w' ⟨rfl, rfl⟩)
    | (go_at_call 19; refine (Con.sgok_yes _ _ (by assumption)).mono ?_; rintro e w' ⟨rfl, rfl⟩)
    | (go_at_call 19; refine (Con.sgok_no _ _ (by assumption)).mono ?_; rintro e w' ⟨rfl, rfl⟩)
    | (go_at_call 27; refine (Con.sok_yes _ _ (by assumption)).mono ?_; rintro e w' ⟨rfl, rfl⟩)
    | (go_at_call 27; refine (Con.sok_no _ _ (by assumption)).mono ?_; rintro e w' ⟨rfl, rfl⟩))
  refine (lp _ _ (by omega)).mono ?_
  rintro e w3 ⟨c, hcc, rfl, rfl⟩
  have k1 := beq_t (gof_sum hx hcc)
  have e4 : gofF 0 = 1 := gof_zero
  have k4 := beq_t e4
  clear e4
  have k5 := gof_ok hx
  have kn := gof_same hcc hx
  by_cases h : c = x
  · subst h
    clear kn
    go_wp2_with (first
      | (go_at_call 20; refine (igofW _ _ (by assumption)).mono ?_; rintro e w' ⟨rfl, hg⟩)
      | (go_at_call 22; refine (igmulW _ _ _ (by assumption)).mono ?_; rintro e w' ⟨rfl, hg⟩)
      | (go_at_call 29; refine (Con.isum _ _ _).mono ?_; rintro e w' ⟨rfl, rfl⟩)
      | (go_at_call 18; refine (igokW_yes _ _ (by assumption) (by assumption)).mono ?_; rintro e w' ⟨rfl, hg⟩))
    go_ret
    exact ⟨rfl, Draw.below_of (by assumption)⟩

  · have k6 := beq_f h
    have k7 := beq_f (fun e => h (kn.1 e))
    clear kn h
    go_wp2_with (first
      | (go_at_call 20; refine (igofW _ _ (by assumption)).mono ?_; rintro e w' ⟨rfl, hg⟩)
      | (go_at_call 22; refine (igmulW _ _ _ (by assumption)).mono ?_; rintro e w' ⟨rfl, hg⟩)
      | (go_at_call 29; refine (Con.isum _ _ _).mono ?_; rintro e w' ⟨rfl, rfl⟩)
      | (go_at_call 18; refine (igokW_yes _ _ (by assumption) (by assumption)).mono ?_; rintro e w' ⟨rfl, hg⟩))
    go_ret
    exact ⟨rfl, Draw.below_of (by assumption)⟩

set_option maxHeartbeats 1000000 in
theorem FnGroupPow (a : Option Addr) (len cap : Nat) (a1 : Option Addr) (len1 cap1 : Nat) (w : World) (hB : Draw.Bytes w w.heap.size a len) (hc : len ≤ cap) (hm : cap ≤ maxLen) (hc1 : len1 ≤ cap1) (hm1 : cap1 ≤ maxLen) :
    Calls Try.prog 6 #[.slice a len cap, .slice a1 len1 cap1] w (Yes w) := by
  have HM := hm; unfold maxLen at HM
  have HM1 := hm1; unfold maxLen at HM1
  by_cases hL : (1048576 : Int) < (len : Int)
  · have HB := Lib.hid hB; clear hB
    go_enter Try.func6, Try.ntmps6
    go_wp2
    go_ret
    exact ⟨rfl, Below.refl _ _⟩
  by_cases hL1 : (1048576 : Int) < (len1 : Int)
  · have HB := Lib.hid hB; clear hB
    have hL0 : ¬ (1048576 : Int) < (len : Int) := hL
    go_enter Try.func6, Try.ntmps6
    go_wp2
    go_ret
    exact ⟨rfl, Below.refl _ _⟩
  go_enter Try.func6, Try.ntmps6
  go_wp2_with fail
  refine (Draw.drawGPow _ a len cap hB hc hm).mono ?_
  rintro e w1 ⟨x, y, x0, x1, y0, y1, rfl, hg⟩
  clear hB hc hm hc1 hm1
  rcases gok_cases x with hx | hx
  case inr =>
    go_wp2_with (first
      | (go_at_call 31; refine (igpowW _ _ _ (by assumption)).mono ?_; rintro e w' ⟨rfl, hg⟩)
      | (go_at_call 32; refine (Con.sgpow _ _ _).mono ?_; rintro e w' ⟨rfl, rfl⟩)
      | (go_at_call 19; refine (Con.sgok_yes _ _ (by assumption)).mono ?_; rintro e w' ⟨rfl, rfl⟩)
      | (go_at_call 19; refine (Con.sgok_no _ _ (by assumption)).mono ?_; rintro e w' ⟨rfl, rfl⟩)
      | (go_at_call 27; refine (Con.sok_yes _ _ (by assumption)).mono ?_; rintro e w' ⟨rfl, rfl⟩)
      | (go_at_call 27; refine (Con.sok_no _ _ (by assumption)).mono ?_; rintro e w' ⟨rfl, rfl⟩))
    go_ret
    exact ⟨rfl, Draw.below_of (by assumption)⟩
  rcases fok_cases y with hy | hy
  case inr =>
    go_wp2_with (first
      | (go_at_call 31; refine (igpowW _ _ _ (by assumption)).mono ?_; rintro e w' ⟨rfl, hg⟩)
      | (go_at_call 32; refine (Con.sgpow _ _ _).mono ?_; rintro e w' ⟨rfl, rfl⟩)
      | (go_at_call 19; refine (Con.sgok_yes _ _ (by assumption)).mono ?_; rintro e w' ⟨rfl, rfl⟩)
      | (go_at_call 19; refine (Con.sgok_no _ _ (by assumption)).mono ?_; rintro e w' ⟨rfl, rfl⟩)
      | (go_at_call 27; refine (Con.sok_yes _ _ (by assumption)).mono ?_; rintro e w' ⟨rfl, rfl⟩)
      | (go_at_call 27; refine (Con.sok_no _ _ (by assumption)).mono ?_; rintro e w' ⟨rfl, rfl⟩))
    go_ret
    exact ⟨rfl, Draw.below_of (by assumption)⟩
  go_wp2_with (first
    | (go_at_call 31; refine (igpowW _ _ _ (by assumption)).mono ?_; rintro e w' ⟨rfl, hg⟩)
    | (go_at_call 32; refine (Con.sgpow _ _ _).mono ?_; rintro e w' ⟨rfl, rfl⟩)
    | (go_at_call 19; refine (Con.sgok_yes _ _ (by assumption)).mono ?_; rintro e w' ⟨rfl, rfl⟩)
    | (go_at_call 19; refine (Con.sgok_no _ _ (by assumption)).mono ?_; rintro e w' ⟨rfl, rfl⟩)
    | (go_at_call 27; refine (Con.sok_yes _ _ (by assumption)).mono ?_; rintro e w' ⟨rfl, rfl⟩)
    | (go_at_call 27; refine (Con.sok_no _ _ (by assumption)).mono ?_; rintro e w' ⟨rfl, rfl⟩))
  refine (lp _ _ (by omega)).mono ?_
  rintro e w3 ⟨c, hcc, rfl, rfl⟩
  have k1 := beq_t (gpow_sum hx hy hcc)
  have k2 := beq_t (gpow_mul hx hy hcc)
  have k3 := beq_t (@gof_pow y).symm
  have k4 := beq_t (gpow_zero hx)
  have k5 := beq_t (gpow_one hx)
  go_wp2_with (first
    | (go_at_call 31; refine (igpowW _ _ _ (by assumption)).mono ?_; rintro e w' ⟨rfl, hg⟩)
    | (go_at_call 22; refine (igmulW _ _ _ (by assumption)).mono ?_; rintro e w' ⟨rfl, hg⟩)
    | (go_at_call 20; refine (igofW _ _ (by assumption)).mono ?_; rintro e w' ⟨rfl, hg⟩)
    | (go_at_call 29; refine (Con.isum _ _ _).mono ?_; rintro e w' ⟨rfl, rfl⟩)
    | (go_at_call 33; refine (Con.imul _ _ _).mono ?_; rintro e w' ⟨rfl, rfl⟩))
  go_ret
  exact ⟨rfl, Draw.below_of (by assumption)⟩

set_option maxHeartbeats 1000000 in
theorem FnPowMul (a : Option Addr) (len cap : Nat) (a1 : Option Addr) (len1 cap1 : Nat) (w : World) (hB : Draw.Bytes w w.heap.size a len) (hc : len ≤ cap) (hm : cap ≤ maxLen) (hc1 : len1 ≤ cap1) (hm1 : cap1 ≤ maxLen) :
    Calls Try.prog 7 #[.slice a len cap, .slice a1 len1 cap1] w (Yes w) := by
  have HM := hm; unfold maxLen at HM
  have HM1 := hm1; unfold maxLen at HM1
  by_cases hL : (1048576 : Int) < (len : Int)
  · have HB := Lib.hid hB; clear hB
    go_enter Try.func7, Try.ntmps7
    go_wp2
    go_ret
    exact ⟨rfl, Below.refl _ _⟩
  by_cases hL1 : (1048576 : Int) < (len1 : Int)
  · have HB := Lib.hid hB; clear hB
    have hL0 : ¬ (1048576 : Int) < (len : Int) := hL
    go_enter Try.func7, Try.ntmps7
    go_wp2
    go_ret
    exact ⟨rfl, Below.refl _ _⟩
  go_enter Try.func7, Try.ntmps7
  go_wp2_with fail
  refine (Draw.drawGPow _ a len cap hB hc hm).mono ?_
  rintro e w1 ⟨x, y, x0, x1, y0, y1, rfl, hg⟩
  clear hB hc hm hc1 hm1
  rcases gok_cases x with hx | hx
  case inr =>
    go_wp2_with (first
      | (go_at_call 31; refine (igpowW _ _ _ (by assumption)).mono ?_; rintro e w' ⟨rfl, hg⟩)
      | (go_at_call 32; refine (Con.sgpow _ _ _).mono ?_; rintro e w' ⟨rfl, rfl⟩)
      | (go_at_call 19; refine (Con.sgok_yes _ _ (by assumption)).mono ?_; rintro e w' ⟨rfl, rfl⟩)
      | (go_at_call 19; refine (Con.sgok_no _ _ (by assumption)).mono ?_; rintro e w' ⟨rfl, rfl⟩)
      | (go_at_call 27; refine (Con.sok_yes _ _ (by assumption)).mono ?_; rintro e w' ⟨rfl, rfl⟩)
      | (go_at_call 27; refine (Con.sok_no _ _ (by assumption)).mono ?_; rintro e w' ⟨rfl, rfl⟩))
    go_ret
    exact ⟨rfl, Draw.below_of (by assumption)⟩
  rcases fok_cases y with hy | hy
  case inr =>
    go_wp2_with (first
      | (go_at_call 31; refine (igpowW _ _ _ (by assumption)).mono ?_; rintro e w' ⟨rfl, hg⟩)
      | (go_at_call 32; refine (Con.sgpow _ _ _).mono ?_; rintro e w' ⟨rfl, rfl⟩)
      | (go_at_call 19; refine (Con.sgok_yes _ _ (by assumption)).mono ?_; rintro e w' ⟨rfl, rfl⟩)
      | (go_at_call 19; refine (Con.sgok_no _ _ (by assumption)).mono ?_; rintro e w' ⟨rfl, rfl⟩)
      | (go_at_call 27; refine (Con.sok_yes _ _ (by assumption)).mono ?_; rintro e w' ⟨rfl, rfl⟩)
      | (go_at_call 27; refine (Con.sok_no _ _ (by assumption)).mono ?_; rintro e w' ⟨rfl, rfl⟩))
    go_ret
    exact ⟨rfl, Draw.below_of (by assumption)⟩
  go_wp2_with (first
    | (go_at_call 31; refine (igpowW _ _ _ (by assumption)).mono ?_; rintro e w' ⟨rfl, hg⟩)
    | (go_at_call 32; refine (Con.sgpow _ _ _).mono ?_; rintro e w' ⟨rfl, rfl⟩)
    | (go_at_call 19; refine (Con.sgok_yes _ _ (by assumption)).mono ?_; rintro e w' ⟨rfl, rfl⟩)
    | (go_at_call 19; refine (Con.sgok_no _ _ (by assumption)).mono ?_; rintro e w' ⟨rfl, rfl⟩)
    | (go_at_call 27; refine (Con.sok_yes _ _ (by assumption)).mono ?_; rintro e w' ⟨rfl, rfl⟩)
    | (go_at_call 27; refine (Con.sok_no _ _ (by assumption)).mono ?_; rintro e w' ⟨rfl, rfl⟩))
  refine (lpg _ _ (by omega) (by assumption)).mono ?_
  rintro e w3 ⟨c, hcc, rfl, hg3⟩
  have k1 := beq_t (gpow_gmul hx hcc hy)
  go_wp2_with (first
    | (go_at_call 31; refine (igpowW _ _ _ (by assumption)).mono ?_; rintro e w' ⟨rfl, hg⟩)
    | (go_at_call 22; refine (igmulW _ _ _ (by assumption)).mono ?_; rintro e w' ⟨rfl, hg⟩))
  go_ret
  exact ⟨rfl, Draw.below_of (by assumption)⟩

set_option maxHeartbeats 1000000 in
theorem FnPowOne (a : Option Addr) (len cap : Nat) (a1 : Option Addr) (len1 cap1 : Nat) (w : World) (hB : Draw.Bytes w w.heap.size a len) (hc : len ≤ cap) (hm : cap ≤ maxLen) (hc1 : len1 ≤ cap1) (hm1 : cap1 ≤ maxLen) :
    Calls Try.prog 8 #[.slice a len cap, .slice a1 len1 cap1] w (Yes w) := by
  have HM := hm; unfold maxLen at HM
  have HM1 := hm1; unfold maxLen at HM1
  by_cases hL : (1048576 : Int) < (len : Int)
  · have HB := Lib.hid hB; clear hB
    go_enter Try.func8, Try.ntmps8
    go_wp2
    go_ret
    exact ⟨rfl, Below.refl _ _⟩
  by_cases hL1 : (1048576 : Int) < (len1 : Int)
  · have HB := Lib.hid hB; clear hB
    have hL0 : ¬ (1048576 : Int) < (len : Int) := hL
    go_enter Try.func8, Try.ntmps8
    go_wp2
    go_ret
    exact ⟨rfl, Below.refl _ _⟩
  go_enter Try.func8, Try.ntmps8
  go_wp2_with fail
  refine (Draw.drawGPow _ a len cap hB hc hm).mono ?_
  rintro e w1 ⟨x, y, x0, x1, y0, y1, rfl, hg⟩
  clear hB hc hm hc1 hm1
  rcases gok_cases x with hx | hx
  case inr =>
    go_wp2_with (first
      | (go_at_call 31; refine (igpowW _ _ _ (by assumption)).mono ?_; rintro e w' ⟨rfl, hg⟩)
      | (go_at_call 32; refine (Con.sgpow _ _ _).mono ?_; rintro e w' ⟨rfl, rfl⟩)
      | (go_at_call 19; refine (Con.sgok_yes _ _ (by assumption)).mono ?_; rintro e w' ⟨rfl, rfl⟩)
      | (go_at_call 19; refine (Con.sgok_no _ _ (by assumption)).mono ?_; rintro e w' ⟨rfl, rfl⟩)
      | (go_at_call 27; refine (Con.sok_yes _ _ (by assumption)).mono ?_; rintro e w' ⟨rfl, rfl⟩)
      | (go_at_call 27; refine (Con.sok_no _ _ (by assumption)).mono ?_; rintro e w' ⟨rfl, rfl⟩))
    go_ret
    exact ⟨rfl, Draw.below_of (by assumption)⟩
  rcases fok_cases y with hy | hy
  case inr =>
    go_wp2_with (first
      | (go_at_call 31; refine (igpowW _ _ _ (by assumption)).mono ?_; rintro e w' ⟨rfl, hg⟩)
      | (go_at_call 32; refine (Con.sgpow _ _ _).mono ?_; rintro e w' ⟨rfl, rfl⟩)
      | (go_at_call 19; refine (Con.sgok_yes _ _ (by assumption)).mono ?_; rintro e w' ⟨rfl, rfl⟩)
      | (go_at_call 19; refine (Con.sgok_no _ _ (by assumption)).mono ?_; rintro e w' ⟨rfl, rfl⟩)
      | (go_at_call 27; refine (Con.sok_yes _ _ (by assumption)).mono ?_; rintro e w' ⟨rfl, rfl⟩)
      | (go_at_call 27; refine (Con.sok_no _ _ (by assumption)).mono ?_; rintro e w' ⟨rfl, rfl⟩))
    go_ret
    exact ⟨rfl, Draw.below_of (by assumption)⟩
  by_cases h1 : x = 1
  · subst h1
    go_wp2_with (first
      | (go_at_call 31; refine (igpowW _ _ _ (by assumption)).mono ?_; rintro e w' ⟨rfl, hg⟩)
      | (go_at_call 32; refine (Con.sgpow _ _ _).mono ?_; rintro e w' ⟨rfl, rfl⟩)
      | (go_at_call 19; refine (Con.sgok_yes _ _ (by assumption)).mono ?_; rintro e w' ⟨rfl, rfl⟩)
      | (go_at_call 19; refine (Con.sgok_no _ _ (by assumption)).mono ?_; rintro e w' ⟨rfl, rfl⟩)
      | (go_at_call 27; refine (Con.sok_yes _ _ (by assumption)).mono ?_; rintro e w' ⟨rfl, rfl⟩)
      | (go_at_call 27; refine (Con.sok_no _ _ (by assumption)).mono ?_; rintro e w' ⟨rfl, rfl⟩))
    go_ret
    exact ⟨rfl, Draw.below_of (by assumption)⟩
  have k0 := beq_f h1
  go_wp2_with (first
    | (go_at_call 31; refine (igpowW _ _ _ (by assumption)).mono ?_; rintro e w' ⟨rfl, hg⟩)
    | (go_at_call 32; refine (Con.sgpow _ _ _).mono ?_; rintro e w' ⟨rfl, rfl⟩)
    | (go_at_call 19; refine (Con.sgok_yes _ _ (by assumption)).mono ?_; rintro e w' ⟨rfl, rfl⟩)
    | (go_at_call 19; refine (Con.sgok_no _ _ (by assumption)).mono ?_; rintro e w' ⟨rfl, rfl⟩)
    | (go_at_call 27; refine (Con.sok_yes _ _ (by assumption)).mono ?_; rintro e w' ⟨rfl, rfl⟩)
    | (go_at_call 27; refine (Con.sok_no _ _ (by assumption)).mono ?_; rintro e w' ⟨rfl, rfl⟩))
  refine (lp _ _ (by omega)).mono ?_
  rintro e w3 ⟨c, hcc, rfl, rfl⟩
  have kn := gpow_same hx h1 hy hcc
  by_cases h : c = y
  · subst h
    clear kn
    go_wp2_with (first
      | (go_at_call 31; refine (igpowW _ _ _ (by assumption)).mono ?_; rintro e w' ⟨rfl, hg⟩))
    go_ret
    exact ⟨rfl, Draw.below_of (by assumption)⟩
  · have k6 := beq_f h
    have k7 := beq_f (fun e => h (kn.1 e))
    clear kn h
    go_wp2_with (first
      | (go_at_call 31; refine (igpowW _ _ _ (by assumption)).mono ?_; rintro e w' ⟨rfl, hg⟩))
    go_ret
    exact ⟨rfl, Draw.below_of (by assumption)⟩

set_option maxHeartbeats 1000000 in
theorem FnGroupInv (a : Option Addr) (len cap : Nat) (a1 : Option Addr) (len1 cap1 : Nat) (w : World) (hB : Draw.Bytes w w.heap.size a len) (hc : len ≤ cap) (hm : cap ≤ maxLen) (hc1 : len1 ≤ cap1) (hm1 : cap1 ≤ maxLen) :
    Calls Try.prog 9 #[.slice a len cap, .slice a1 len1 cap1] w (Yes w) := by
  have HM := hm; unfold maxLen at HM
  have HM1 := hm1; unfold maxLen at HM1
  by_cases hL : (1048576 : Int) < (len : Int)
  · have HB := Lib.hid hB; clear hB
    go_enter Try.func9, Try.ntmps9
    go_wp2
    go_ret
    exact ⟨rfl, Below.refl _ _⟩
  by_cases hL1 : (1048576 : Int) < (len1 : Int)
  · have HB := Lib.hid hB; clear hB
    have hL0 : ¬ (1048576 : Int) < (len : Int) := hL
    go_enter Try.func9, Try.ntmps9
    go_wp2
    go_ret
    exact ⟨rfl, Below.refl _ _⟩
  go_enter Try.func9, Try.ntmps9
  go_wp2_with fail
  refine (Draw.drawGInv _ a len cap hB hc hm).mono ?_
  rintro e w1 ⟨x, x0, x1, rfl, hg⟩
  clear hB hc hm hc1 hm1
  rcases gok_cases x with hx | hx
  case inr =>
    go_wp2_with (first
      | (go_at_call 35; refine (iginvW _ _ (by assumption)).mono ?_; rintro e w' ⟨rfl, hg⟩)
      | (go_at_call 36; refine (Con.sginv _ _).mono ?_; rintro e w' ⟨rfl, rfl⟩)
      | (go_at_call 19; refine (Con.sgok_yes _ _ (by assumption)).mono ?_; rintro e w' ⟨rfl, rfl⟩)
      | (go_at_call 19; refine (Con.sgok_no _ _ (by assumption)).mono ?_; rintro e w' ⟨rfl, rfl⟩)
      | (go_at_call 27; refine (Con.sok_yes _ _ (by assumption)).mono ?_; rintro e w' ⟨rfl, rfl⟩)
      | (go_at_call 27; refine (Con.sok_no _ _ (by assumption)).mono ?_; rintro e w' ⟨rfl, rfl⟩))
    go_ret
    exact ⟨rfl, Draw.below_of (by assumption)⟩
  go_wp2_with (first
    | (go_at_call 35; refine (iginvW _ _ (by assumption)).mono ?_; rintro e w' ⟨rfl, hg⟩)
    | (go_at_call 36; refine (Con.sginv _ _).mono ?_; rintro e w' ⟨rfl, rfl⟩)
    | (go_at_call 19; refine (Con.sgok_yes _ _ (by assumption)).mono ?_; rintro e w' ⟨rfl, rfl⟩)
    | (go_at_call 19; refine (Con.sgok_no _ _ (by assumption)).mono ?_; rintro e w' ⟨rfl, rfl⟩)
    | (go_at_call 27; refine (Con.sok_yes _ _ (by assumption)).mono ?_; rintro e w' ⟨rfl, rfl⟩)
    | (go_at_call 27; refine (Con.sok_no _ _ (by assumption)).mono ?_; rintro e w' ⟨rfl, rfl⟩))
  refine (lpg _ _ (by omega) (by assumption)).mono ?_
  rintro e w3 ⟨c, hcc, rfl, hg3⟩
  have k1 := beq_t (ginv_mul hx)
  have k2 := beq_t (ginv_ginv hx)
  have k3 := beq_t (ginv_gmul hx hcc)
  go_wp2_with (first
    | (go_at_call 35; refine (iginvW _ _ (by assumption)).mono ?_; rintro e w' ⟨rfl, hg⟩)
    | (go_at_call 22; refine (igmulW _ _ _ (by assumption)).mono ?_; rintro e w' ⟨rfl, hg⟩))
  go_ret
  exact ⟨rfl, Draw.below_of (by assumption)⟩

set_option maxHeartbeats 1000000 in
theorem FnGroupTurn (a : Option Addr) (len cap : Nat) (w : World) (hB : Draw.Bytes w w.heap.size a len) (hc : len ≤ cap) (hm : cap ≤ maxLen) :
    Calls Try.prog 10 #[.slice a len cap] w (Yes w) := by
  have HM := hm; unfold maxLen at HM
  by_cases hL : (1048576 : Int) < (len : Int)
  · have HB := Lib.hid hB; clear hB
    go_enter Try.func10, Try.ntmps10
    go_wp2
    go_ret
    exact ⟨rfl, Below.refl _ _⟩
  go_enter Try.func10, Try.ntmps10
  go_wp2_with fail
  refine (Draw.drawGPow _ a len cap hB hc hm).mono ?_
  rintro e w1 ⟨x, y, x0, x1, y0, y1, rfl, hg⟩
  clear hB hc hm
  rcases gok_cases x with hx | hx
  case inr =>
    go_wp2_with (first
      | (go_at_call 31; refine (igpowW _ _ _ (by assumption)).mono ?_; rintro e w' ⟨rfl, hg⟩)
      | (go_at_call 32; refine (Con.sgpow _ _ _).mono ?_; rintro e w' ⟨rfl, rfl⟩)
      | (go_at_call 19; refine (Con.sgok_yes _ _ (by assumption)).mono ?_; rintro e w' ⟨rfl, rfl⟩)
      | (go_at_call 19; refine (Con.sgok_no _ _ (by assumption)).mono ?_; rintro e w' ⟨rfl, rfl⟩)
      | (go_at_call 27; refine (Con.sok_yes _ _ (by assumption)).mono ?_; rintro e w' ⟨rfl, rfl⟩)
      | (go_at_call 27; refine (Con.sok_no _ _ (by assumption)).mono ?_; rintro e w' ⟨rfl, rfl⟩))
    go_ret
    exact ⟨rfl, Draw.below_of (by assumption)⟩
  rcases fok_cases y with hy | hy
  case inr =>
    go_wp2_with (first
      | (go_at_call 31; refine (igpowW _ _ _ (by assumption)).mono ?_; rintro e w' ⟨rfl, hg⟩)
      | (go_at_call 32; refine (Con.sgpow _ _ _).mono ?_; rintro e w' ⟨rfl, rfl⟩)
      | (go_at_call 19; refine (Con.sgok_yes _ _ (by assumption)).mono ?_; rintro e w' ⟨rfl, rfl⟩)
      | (go_at_call 19; refine (Con.sgok_no _ _ (by assumption)).mono ?_; rintro e w' ⟨rfl, rfl⟩)
      | (go_at_call 27; refine (Con.sok_yes _ _ (by assumption)).mono ?_; rintro e w' ⟨rfl, rfl⟩)
      | (go_at_call 27; refine (Con.sok_no _ _ (by assumption)).mono ?_; rintro e w' ⟨rfl, rfl⟩))
    go_ret
    exact ⟨rfl, Draw.below_of (by assumption)⟩
  have k1 := beq_t (gturn hx)
  have k2 := beq_t (gturn_back hx hy)
  go_wp2_with (first
    | (go_at_call 31; refine (igpowW _ _ _ (by assumption)).mono ?_; rintro e w' ⟨rfl, hg⟩)
    | (go_at_call 32; refine (Con.sgpow _ _ _).mono ?_; rintro e w' ⟨rfl, rfl⟩)
    | (go_at_call 22; refine (igmulW _ _ _ (by assumption)).mono ?_; rintro e w' ⟨rfl, hg⟩)
    | (go_at_call 37; refine (Con.idif _ _ _).mono ?_; rintro e w' ⟨rfl, rfl⟩)
    | (go_at_call 19; refine (Con.sgok_yes _ _ (by assumption)).mono ?_; rintro e w' ⟨rfl, rfl⟩)
    | (go_at_call 19; refine (Con.sgok_no _ _ (by assumption)).mono ?_; rintro e w' ⟨rfl, rfl⟩)
    | (go_at_call 27; refine (Con.sok_yes _ _ (by assumption)).mono ?_; rintro e w' ⟨rfl, rfl⟩)
    | (go_at_call 27; refine (Con.sok_no _ _ (by assumption)).mono ?_; rintro e w' ⟨rfl, rfl⟩))
  go_ret
  exact ⟨rfl, Draw.below_of (by assumption)⟩

set_option maxHeartbeats 1000000 in
theorem FnGroupDif (a : Option Addr) (len cap : Nat) (a1 : Option Addr) (len1 cap1 : Nat) (w : World) (hB : Draw.Bytes w w.heap.size a len) (hc : len ≤ cap) (hm : cap ≤ maxLen) (hc1 : len1 ≤ cap1) (hm1 : cap1 ≤ maxLen) :
    Calls Try.prog 11 #[.slice a len cap, .slice a1 len1 cap1] w (Yes w) := by
  have HM := hm; unfold maxLen at HM
  have HM1 := hm1; unfold maxLen at HM1
  by_cases hL : (1048576 : Int) < (len : Int)
  · have HB := Lib.hid hB; clear hB
    go_enter Try.func11, Try.ntmps11
    go_wp2
    go_ret
    exact ⟨rfl, Below.refl _ _⟩
  by_cases hL1 : (1048576 : Int) < (len1 : Int)
  · have HB := Lib.hid hB; clear hB
    have hL0 : ¬ (1048576 : Int) < (len : Int) := hL
    go_enter Try.func11, Try.ntmps11
    go_wp2
    go_ret
    exact ⟨rfl, Below.refl _ _⟩
  go_enter Try.func11, Try.ntmps11
  go_wp2_with fail
  refine (Draw.drawGMul _ a len cap hB hc hm).mono ?_
  rintro e w1 ⟨x, y, x0, x1, y0, y1, rfl, hg⟩
  clear hB hc hm hc1 hm1
  rcases gok_cases x with hx | hx
  case inr =>
    go_wp2_with (first
      | (go_at_call 22; refine (igmulW _ _ _ (by assumption)).mono ?_; rintro e w' ⟨rfl, hg⟩)
      | (go_at_call 23; refine (Con.sgmul _ _ _).mono ?_; rintro e w' ⟨rfl, rfl⟩)
      | (go_at_call 19; refine (Con.sgok_yes _ _ (by assumption)).mono ?_; rintro e w' ⟨rfl, rfl⟩)
      | (go_at_call 19; refine (Con.sgok_no _ _ (by assumption)).mono ?_; rintro e w' ⟨rfl, rfl⟩)
      | (go_at_call 27; refine (Con.sok_yes _ _ (by assumption)).mono ?_; rintro e w' ⟨rfl, rfl⟩)
      | (go_at_call 27; refine (Con.sok_no _ _ (by assumption)).mono ?_; rintro e w' ⟨rfl, rfl⟩))
    go_ret
    exact ⟨rfl, Draw.below_of (by assumption)⟩
  rcases gok_cases y with hy | hy
  case inr =>
    go_wp2_with (first
      | (go_at_call 22; refine (igmulW _ _ _ (by assumption)).mono ?_; rintro e w' ⟨rfl, hg⟩)
      | (go_at_call 23; refine (Con.sgmul _ _ _).mono ?_; rintro e w' ⟨rfl, rfl⟩)
      | (go_at_call 19; refine (Con.sgok_yes _ _ (by assumption)).mono ?_; rintro e w' ⟨rfl, rfl⟩)
      | (go_at_call 19; refine (Con.sgok_no _ _ (by assumption)).mono ?_; rintro e w' ⟨rfl, rfl⟩)
      | (go_at_call 27; refine (Con.sok_yes _ _ (by assumption)).mono ?_; rintro e w' ⟨rfl, rfl⟩)
      | (go_at_call 27; refine (Con.sok_no _ _ (by assumption)).mono ?_; rintro e w' ⟨rfl, rfl⟩))
    go_ret
    exact ⟨rfl, Draw.below_of (by assumption)⟩
  go_wp2_with (first
    | (go_at_call 22; refine (igmulW _ _ _ (by assumption)).mono ?_; rintro e w' ⟨rfl, hg⟩)
    | (go_at_call 23; refine (Con.sgmul _ _ _).mono ?_; rintro e w' ⟨rfl, rfl⟩)
    | (go_at_call 19; refine (Con.sgok_yes _ _ (by assumption)).mono ?_; rintro e w' ⟨rfl, rfl⟩)
    | (go_at_call 19; refine (Con.sgok_no _ _ (by assumption)).mono ?_; rintro e w' ⟨rfl, rfl⟩)
    | (go_at_call 27; refine (Con.sok_yes _ _ (by assumption)).mono ?_; rintro e w' ⟨rfl, rfl⟩)
    | (go_at_call 27; refine (Con.sok_no _ _ (by assumption)).mono ?_; rintro e w' ⟨rfl, rfl⟩))
  refine (lpg _ _ (by omega) (by assumption)).mono ?_
  rintro e w3 ⟨c, hcc, rfl, hg3⟩
  have kn := gmul_cancel hx hy hcc
  by_cases h : c = x
  · subst h
    clear kn
    go_wp2_with (first
      | (go_at_call 22; refine (igmulW _ _ _ (by assumption)).mono ?_; rintro e w' ⟨rfl, hg⟩))
    go_ret
    exact ⟨rfl, Draw.below_of (by assumption)⟩
  · have k6 := beq_f h
    have k7 := beq_f (fun e => h (kn.1 e))
    clear kn h
    go_wp2_with (first
      | (go_at_call 22; refine (igmulW _ _ _ (by assumption)).mono ?_; rintro e w' ⟨rfl, hg⟩))
    go_ret
    exact ⟨rfl, Draw.below_of (by assumption)⟩

/-- How many of the group are among the k numbers from -2 on? -/
def cnt : Nat → Int
  | 0 => 0
  | k + 1 => if gok ((k : Int) - 2) = true then cnt k + 1 else cnt k
theorem cnt_range (k : Nat) : 0 ≤ cnt k ∧ cnt k ≤ k := by
  induction k with
  | zero => exact ⟨Int.le_refl 0, Int.le_refl 0⟩
  | succ k ih => unfold cnt; split <;> omega
theorem cnt_all : cnt 54 = 23 := by decide +kernel
theorem cnt_yes {k : Nat} (h : gok ((k : Int) - 2) = true) : cnt (k + 1) = cnt k + 1 := if_pos h
theorem cnt_no {k : Nat} (h : gok ((k : Int) - 2) = false) : cnt (k + 1) = cnt k := if_neg (by rw [h]; decide)
set_option maxHeartbeats 1000000 in
theorem FnGroupOk (a : Option Addr) (len cap : Nat) (w : World) (hB : Draw.Bytes w w.heap.size a len) (hc : len ≤ cap) (hm : cap ≤ maxLen) :
    Calls Try.prog 3 #[.slice a len cap] w (Yes w) := by
  have HM := hm; unfold maxLen at HM
  by_cases hL : (1048576 : Int) < (len : Int)
  · have HB := Lib.hid hB; clear hB
    go_enter Try.func3, Try.ntmps3
    go_wp2
    go_ret
    exact ⟨rfl, Below.refl _ _⟩
  go_enter Try.func3, Try.ntmps3
  go_wp2_with fail
  refine (Draw.drawGOk _ a len cap hB hc hm).mono ?_
  rintro e w1 ⟨x, x0, x1, rfl, hg⟩
  clear hB hc hm
  rcases gok_cases x with hx | hx
  · skip
    have HQ := Lib.hid (Con.among_gok (n := x)); rw [hx] at HQ
    go_wp2_with (first
      | (go_at_call 18; refine (igokW_yes _ _ (by assumption) (by assumption)).mono ?_; rintro e w' ⟨rfl, hg⟩)
      | (go_at_call 19; refine (Con.sgok_yes _ _ (by assumption)).mono ?_; rintro e w' ⟨rfl, rfl⟩))
    go_loopw [5, 7] (fun s i wr => ∃ k : Nat, k ≤ 23 ∧ i = .int .i64 k ∧ s = .bool (Con.among x k) ∧ w.grownBy wr none) (fun _ i _ => 23 - (intOf i).toNat)
    case atStart => exact ⟨0, by omega, rfl, rfl, by assumption⟩
    case round =>
      obtain ⟨k, hk, rfl, rfl, hgr⟩ := hrel
      by_cases hlt : (k : Int) < 23
      · have hkn := gof_in (fok_mk (n := (k : Int)) (by omega) hlt)
        cases hb : Con.among x k with
        | true =>
          have HE := Lib.hid (Con.among_mono (n := x) (k := k) (m := k + 1) (by omega) hb)
          have HX := Lib.hid hx; have HK := Lib.hid hkn; clear hx hkn
          go_wp2
          go_roundw
          case rel => exact ⟨k + 1, by omega, by go_num, by rw [HE.out], by assumption⟩
          case measure => simp [intOf]; omega
        | false =>
          cases he : (gofF (k : Int) == x) with
          | true =>
            have HE := Lib.hid (Con.among_hit (n := x) (k := k) (by rw [hkn] at he; exact he))
            have HX := Lib.hid hx; have HK := Lib.hid hkn; clear hx hkn
            go_wp2_with (go_at_call 20; refine (igofW _ _ (by assumption)).mono ?_; rintro e w' ⟨rfl, hg⟩)
            go_roundw
            case rel => exact ⟨k + 1, by omega, by go_num, by rw [HE.out], by assumption⟩
            case measure => simp [intOf]; omega
          | false =>
            have HE := Lib.hid (Con.among_step (n := x) (k := k) hb (by rw [hkn] at he; exact he))
            have HX := Lib.hid hx; have HK := Lib.hid hkn; clear hx hkn
            go_wp2_with (go_at_call 20; refine (igofW _ _ (by assumption)).mono ?_; rintro e w' ⟨rfl, hg⟩)
            go_roundw
            case rel => exact ⟨k + 1, by omega, by go_num, by rw [HE.out], by assumption⟩
            case measure => simp [intOf]; omega
      · obtain rfl : k = 23 := by omega
        rw [HQ.out]
        have HX := Lib.hid hx; clear hx
        go_wp2
        go_loopw [6, 8] (fun m i wr => ∃ k : Nat, k ≤ 54 ∧ i = .int .i64 ((k : Int) - 2) ∧ m = .int .i64 (cnt k) ∧ w.grownBy wr none) (fun _ i _ => (52 - intOf i).toNat)
        case atStart => exact ⟨0, by omega, rfl, rfl, by assumption⟩
        case round =>
          obtain ⟨k, hk, rfl, rfl, hgr⟩ := hrel
          obtain ⟨c0, c1⟩ := cnt_range k
          by_cases hlt : (k : Int) - 2 < 52
          · cases hb : gok ((k : Int) - 2) with
            | true =>
              have HE := Lib.hid (cnt_yes hb)
              go_wp2_with (go_at_call 18; refine (igokW_yes _ _ (by assumption) (by assumption)).mono ?_; rintro e w' ⟨rfl, hg⟩)
              go_roundw
              case rel => exact ⟨k + 1, by omega, by go_num, by rw [HE.out], by assumption⟩
              case measure => simp [intOf]; omega
            | false =>
              have HE := Lib.hid (cnt_no hb)
              go_wp2_with (go_at_call 18; refine (igokW_no _ _ (by assumption) (by assumption)).mono ?_; rintro e w' ⟨rfl, hg⟩)
              go_roundw
              case rel => exact ⟨k + 1, by omega, by go_num, by rw [HE.out], by assumption⟩
              case measure => simp [intOf]; omega
          · obtain rfl : k = 54 := by omega
            rw [cnt_all]
            go_wp2
            go_ret
            exact ⟨rfl, Draw.below_of (by assumption)⟩
  · skip
    have HQ := Lib.hid (Con.among_gok (n := x)); rw [hx] at HQ
    go_wp2_with (first
      | (go_at_call 18; refine (igokW_no _ _ (by assumption) (by assumption)).mono ?_; rintro e w' ⟨rfl, hg⟩)
      | (go_at_call 19; refine (Con.sgok_no _ _ (by assumption)).mono ?_; rintro e w' ⟨rfl, rfl⟩))
    go_loopw [5, 7] (fun s i wr => ∃ k : Nat, k ≤ 23 ∧ i = .int .i64 k ∧ s = .bool (Con.among x k) ∧ w.grownBy wr none) (fun _ i _ => 23 - (intOf i).toNat)
    case atStart => exact ⟨0, by omega, rfl, rfl, by assumption⟩
    case round =>
      obtain ⟨k, hk, rfl, rfl, hgr⟩ := hrel
      by_cases hlt : (k : Int) < 23
      · have hkn := gof_in (fok_mk (n := (k : Int)) (by omega) hlt)
        cases hb : Con.among x k with
        | true =>
          have HE := Lib.hid (Con.among_mono (n := x) (k := k) (m := k + 1) (by omega) hb)
          have HX := Lib.hid hx; have HK := Lib.hid hkn; clear hx hkn
          go_wp2
          go_roundw
          case rel => exact ⟨k + 1, by omega, by go_num, by rw [HE.out], by assumption⟩
          case measure => simp [intOf]; omega
        | false =>
          cases he : (gofF (k : Int) == x) with
          | true =>
            have HE := Lib.hid (Con.among_hit (n := x) (k := k) (by rw [hkn] at he; exact he))
            have HX := Lib.hid hx; have HK := Lib.hid hkn; clear hx hkn
            go_wp2_with (go_at_call 20; refine (igofW _ _ (by assumption)).mono ?_; rintro e w' ⟨rfl, hg⟩)
            go_roundw
            case rel => exact ⟨k + 1, by omega, by go_num, by rw [HE.out], by assumption⟩
            case measure => simp [intOf]; omega
          | false =>
            have HE := Lib.hid (Con.among_step (n := x) (k := k) hb (by rw [hkn] at he; exact he))
            have HX := Lib.hid hx; have HK := Lib.hid hkn; clear hx hkn
            go_wp2_with (go_at_call 20; refine (igofW _ _ (by assumption)).mono ?_; rintro e w' ⟨rfl, hg⟩)
            go_roundw
            case rel => exact ⟨k + 1, by omega, by go_num, by rw [HE.out], by assumption⟩
            case measure => simp [intOf]; omega
      · obtain rfl : k = 23 := by omega
        rw [HQ.out]
        have HX := Lib.hid hx; clear hx
        go_wp2
        go_loopw [6, 8] (fun m i wr => ∃ k : Nat, k ≤ 54 ∧ i = .int .i64 ((k : Int) - 2) ∧ m = .int .i64 (cnt k) ∧ w.grownBy wr none) (fun _ i _ => (52 - intOf i).toNat)
        case atStart => exact ⟨0, by omega, rfl, rfl, by assumption⟩
        case round =>
          obtain ⟨k, hk, rfl, rfl, hgr⟩ := hrel
          obtain ⟨c0, c1⟩ := cnt_range k
          by_cases hlt : (k : Int) - 2 < 52
          · cases hb : gok ((k : Int) - 2) with
            | true =>
              have HE := Lib.hid (cnt_yes hb)
              go_wp2_with (go_at_call 18; refine (igokW_yes _ _ (by assumption) (by assumption)).mono ?_; rintro e w' ⟨rfl, hg⟩)
              go_roundw
              case rel => exact ⟨k + 1, by omega, by go_num, by rw [HE.out], by assumption⟩
              case measure => simp [intOf]; omega
            | false =>
              have HE := Lib.hid (cnt_no hb)
              go_wp2_with (go_at_call 18; refine (igokW_no _ _ (by assumption) (by assumption)).mono ?_; rintro e w' ⟨rfl, hg⟩)
              go_roundw
              case rel => exact ⟨k + 1, by omega, by go_num, by rw [HE.out], by assumption⟩
              case measure => simp [intOf]; omega
          · obtain rfl : k = 54 := by omega
            rw [cnt_all]
            go_wp2
            go_ret
            exact ⟨rfl, Draw.below_of (by assumption)⟩

end Run
end Go.Proofs.Ytpkpdococokaaaa
