/-
  The walks of the laws of chapter 1 (numbers): each law's function returns true at every code, and all that was there stays as it was.
-/
import Derived.Test.YtnobfnjejffoiaaCon
import Derived.Test.YtnobfnjejffoiaaDrawNum
namespace Go.Proofs.Ytnobfnjejffoiaa
namespace Run
open Go.RowKit Alg
set_option linter.unusedVariables false

/-- The law's answer: true, and nothing that was there has turned. -/
def Yes (w : World) (e : Ending) (w' : World) : Prop := e = .returned (.bool true) ∧ Below w.heap.size w w'
theorem fok_cases (a : Int) : fok a = true ∨ fok a = false := by cases fok a <;> simp
theorem lp (n : Int) (w : World) (h : 0 ≤ n) : Calls Try.prog 24 #[.int .i64 n] w fun e w' => ∃ c : Int, fok c = true ∧ e = .returned (.int .i64 c) ∧ w = w' := by
  go_enter Try.func24, Try.ntmps24
  go_wp2
  go_ret
  exact ⟨_, fok_mk (Int.emod_nonneg _ (by omega)) (Int.emod_lt_of_pos _ (by omega)), rfl, rfl⟩
theorem beq_t {a b : Int} (h : a = b) : (a == b) = true := by simpa using h
theorem beq_f {a b : Int} (h : ¬ a = b) : (a == b) = false := by simpa using h
theorem bne_t {a b : Int} (h : ¬ a = b) : (a != b) = true := by simpa using h
theorem bne_f {a b : Int} (h : a = b) : (a != b) = false := by simpa using h

theorem FnSumDif (a : Option Addr) (len cap : Nat) (w : World) (hB : Draw.Bytes w w.heap.size a len) (hc : len ≤ cap) (hm : cap ≤ maxLen) :
    Calls Try.prog 5 #[.slice a len cap] w (Yes w) := by
  have HM := hm; unfold maxLen at HM
  by_cases hL : (1048576 : Int) < (len : Int)
  · have HB := Lib.hid hB; clear hB
    go_enter Try.func5, Try.ntmps5
    go_wp2
    go_ret
    exact ⟨rfl, Below.refl _ _⟩
  go_enter Try.func5, Try.ntmps5
  go_wp2_with fail
  refine (Draw.draw2d _ a len cap hB hc hm).mono ?_
  rintro e w1 ⟨x, y, x0, x1, y0, y1, rfl, hg⟩
  have HG := Lib.hid (Draw.below_of hg); clear hg hB hc hm
  rcases fok_cases x with hx | hx
  case inr =>
    go_wp2_with (first
        | (go_at_call 26; refine (Con.idif _ _ _).mono ?_; rintro e w' ⟨rfl, rfl⟩)
        | (go_at_call 27; refine (Con.sdif _ _ _).mono ?_; rintro e w' ⟨rfl, rfl⟩)
        | (go_at_call 20; refine (Con.sok_yes _ _ (by assumption)).mono ?_; rintro e w' ⟨rfl, rfl⟩)
        | (go_at_call 20; refine (Con.sok_no _ _ (by assumption)).mono ?_; rintro e w' ⟨rfl, rfl⟩))
    go_ret
    exact ⟨rfl, HG.out⟩
  rcases fok_cases y with hy | hy
  case inr =>
    go_wp2_with (first
        | (go_at_call 26; refine (Con.idif _ _ _).mono ?_; rintro e w' ⟨rfl, rfl⟩)
        | (go_at_call 27; refine (Con.sdif _ _ _).mono ?_; rintro e w' ⟨rfl, rfl⟩)
        | (go_at_call 20; refine (Con.sok_yes _ _ (by assumption)).mono ?_; rintro e w' ⟨rfl, rfl⟩)
        | (go_at_call 20; refine (Con.sok_no _ _ (by assumption)).mono ?_; rintro e w' ⟨rfl, rfl⟩))
    go_ret
    exact ⟨rfl, HG.out⟩
  have k1 := beq_t (dif_sum hx hy)
  have k2 := beq_t (sum_dif hx hy)
  have k3 := beq_t (dif_self hx)
  go_wp2_with (first
        | (go_at_call 26; refine (Con.idif _ _ _).mono ?_; rintro e w' ⟨rfl, rfl⟩)
        | (go_at_call 27; refine (Con.sdif _ _ _).mono ?_; rintro e w' ⟨rfl, rfl⟩)
        | (go_at_call 22; refine (Con.isum _ _ _).mono ?_; rintro e w' ⟨rfl, rfl⟩)
        | (go_at_call 20; refine (Con.sok_yes _ _ (by assumption)).mono ?_; rintro e w' ⟨rfl, rfl⟩)
        | (go_at_call 20; refine (Con.sok_no _ _ (by assumption)).mono ?_; rintro e w' ⟨rfl, rfl⟩))
  go_ret
  exact ⟨rfl, HG.out⟩

theorem FnMulNone (a : Option Addr) (len cap : Nat) (w : World) (hB : Draw.Bytes w w.heap.size a len) (hc : len ≤ cap) (hm : cap ≤ maxLen) :
    Calls Try.prog 7 #[.slice a len cap] w (Yes w) := by
  have HM := hm; unfold maxLen at HM
  by_cases hL : (1048576 : Int) < (len : Int)
  · have HB := Lib.hid hB; clear hB
    go_enter Try.func7, Try.ntmps7
    go_wp2
    go_ret
    exact ⟨rfl, Below.refl _ _⟩
  go_enter Try.func7, Try.ntmps7
  go_wp2_with fail
  refine (Draw.draw2m _ a len cap hB hc hm).mono ?_
  rintro e w1 ⟨x, y, x0, x1, y0, y1, rfl, hg⟩
  have HG := Lib.hid (Draw.below_of hg); clear hg hB hc hm
  rcases fok_cases x with hx | hx
  case inr =>
    go_wp2_with (first
        | (go_at_call 29; refine (Con.imul _ _ _).mono ?_; rintro e w' ⟨rfl, rfl⟩)
        | (go_at_call 30; refine (Con.smul _ _ _).mono ?_; rintro e w' ⟨rfl, rfl⟩)
        | (go_at_call 20; refine (Con.sok_yes _ _ (by assumption)).mono ?_; rintro e w' ⟨rfl, rfl⟩)
        | (go_at_call 20; refine (Con.sok_no _ _ (by assumption)).mono ?_; rintro e w' ⟨rfl, rfl⟩))
    go_ret
    exact ⟨rfl, HG.out⟩
  rcases fok_cases y with hy | hy
  case inr =>
    go_wp2_with (first
        | (go_at_call 29; refine (Con.imul _ _ _).mono ?_; rintro e w' ⟨rfl, rfl⟩)
        | (go_at_call 30; refine (Con.smul _ _ _).mono ?_; rintro e w' ⟨rfl, rfl⟩)
        | (go_at_call 20; refine (Con.sok_yes _ _ (by assumption)).mono ?_; rintro e w' ⟨rfl, rfl⟩)
        | (go_at_call 20; refine (Con.sok_no _ _ (by assumption)).mono ?_; rintro e w' ⟨rfl, rfl⟩))
    go_ret
    exact ⟨rfl, HG.out⟩
  have km := mulF_ok x y
  have kn := @mul_none x y hx hy
  by_cases h0 : x = 0 ∨ y = 0
  · have k1 := beq_t (kn.2 h0)
    rcases h0 with rfl | rfl
    · clear kn
      go_wp2_with (first
        | (go_at_call 29; refine (Con.imul _ _ _).mono ?_; rintro e w' ⟨rfl, rfl⟩)
        | (go_at_call 30; refine (Con.smul _ _ _).mono ?_; rintro e w' ⟨rfl, rfl⟩)
        | (go_at_call 19; refine (Con.iok_yes _ _ (by assumption)).mono ?_; rintro e w' ⟨rfl, rfl⟩)
        | (go_at_call 20; refine (Con.sok_yes _ _ (by assumption)).mono ?_; rintro e w' ⟨rfl, rfl⟩)
        | (go_at_call 20; refine (Con.sok_no _ _ (by assumption)).mono ?_; rintro e w' ⟨rfl, rfl⟩))
      go_ret
      exact ⟨rfl, HG.out⟩
    · clear kn
      by_cases hz : x = 0
      · subst hz
        go_wp2_with (first
        | (go_at_call 29; refine (Con.imul _ _ _).mono ?_; rintro e w' ⟨rfl, rfl⟩)
        | (go_at_call 30; refine (Con.smul _ _ _).mono ?_; rintro e w' ⟨rfl, rfl⟩)
        | (go_at_call 19; refine (Con.iok_yes _ _ (by assumption)).mono ?_; rintro e w' ⟨rfl, rfl⟩)
        | (go_at_call 20; refine (Con.sok_yes _ _ (by assumption)).mono ?_; rintro e w' ⟨rfl, rfl⟩)
        | (go_at_call 20; refine (Con.sok_no _ _ (by assumption)).mono ?_; rintro e w' ⟨rfl, rfl⟩))
        go_ret
        exact ⟨rfl, HG.out⟩
      · have k2 := beq_f hz
        go_wp2_with (first
        | (go_at_call 29; refine (Con.imul _ _ _).mono ?_; rintro e w' ⟨rfl, rfl⟩)
        | (go_at_call 30; refine (Con.smul _ _ _).mono ?_; rintro e w' ⟨rfl, rfl⟩)
        | (go_at_call 19; refine (Con.iok_yes _ _ (by assumption)).mono ?_; rintro e w' ⟨rfl, rfl⟩)
        | (go_at_call 20; refine (Con.sok_yes _ _ (by assumption)).mono ?_; rintro e w' ⟨rfl, rfl⟩)
        | (go_at_call 20; refine (Con.sok_no _ _ (by assumption)).mono ?_; rintro e w' ⟨rfl, rfl⟩))
        go_ret
        exact ⟨rfl, HG.out⟩
  · have k1 := beq_f (fun e => h0 (kn.1 e))
    have k2 := beq_f (fun e => h0 (.inl e))
    have k3 := beq_f (fun e => h0 (.inr e))
    clear kn h0
    go_wp2_with (first
        | (go_at_call 29; refine (Con.imul _ _ _).mono ?_; rintro e w' ⟨rfl, rfl⟩)
        | (go_at_call 30; refine (Con.smul _ _ _).mono ?_; rintro e w' ⟨rfl, rfl⟩)
        | (go_at_call 19; refine (Con.iok_yes _ _ (by assumption)).mono ?_; rintro e w' ⟨rfl, rfl⟩)
        | (go_at_call 20; refine (Con.sok_yes _ _ (by assumption)).mono ?_; rintro e w' ⟨rfl, rfl⟩)
        | (go_at_call 20; refine (Con.sok_no _ _ (by assumption)).mono ?_; rintro e w' ⟨rfl, rfl⟩))
    go_ret
    exact ⟨rfl, HG.out⟩

theorem FnDifZero (a : Option Addr) (len cap : Nat) (w : World) (hB : Draw.Bytes w w.heap.size a len) (hc : len ≤ cap) (hm : cap ≤ maxLen) :
    Calls Try.prog 11 #[.slice a len cap] w (Yes w) := by
  have HM := hm; unfold maxLen at HM
  by_cases hL : (1048576 : Int) < (len : Int)
  · have HB := Lib.hid hB; clear hB
    go_enter Try.func11, Try.ntmps11
    go_wp2
    go_ret
    exact ⟨rfl, Below.refl _ _⟩
  go_enter Try.func11, Try.ntmps11
  go_wp2_with fail
  refine (Draw.draw2d _ a len cap hB hc hm).mono ?_
  rintro e w1 ⟨x, y, x0, x1, y0, y1, rfl, hg⟩
  have HG := Lib.hid (Draw.below_of hg); clear hg hB hc hm
  rcases fok_cases x with hx | hx
  case inr =>
    go_wp2_with (first
        | (go_at_call 26; refine (Con.idif _ _ _).mono ?_; rintro e w' ⟨rfl, rfl⟩)
        | (go_at_call 27; refine (Con.sdif _ _ _).mono ?_; rintro e w' ⟨rfl, rfl⟩)
        | (go_at_call 20; refine (Con.sok_yes _ _ (by assumption)).mono ?_; rintro e w' ⟨rfl, rfl⟩)
        | (go_at_call 20; refine (Con.sok_no _ _ (by assumption)).mono ?_; rintro e w' ⟨rfl, rfl⟩))
    go_ret
    exact ⟨rfl, HG.out⟩
  rcases fok_cases y with hy | hy
  case inr =>
    go_wp2_with (first
        | (go_at_call 26; refine (Con.idif _ _ _).mono ?_; rintro e w' ⟨rfl, rfl⟩)
        | (go_at_call 27; refine (Con.sdif _ _ _).mono ?_; rintro e w' ⟨rfl, rfl⟩)
        | (go_at_call 20; refine (Con.sok_yes _ _ (by assumption)).mono ?_; rintro e w' ⟨rfl, rfl⟩)
        | (go_at_call 20; refine (Con.sok_no _ _ (by assumption)).mono ?_; rintro e w' ⟨rfl, rfl⟩))
    go_ret
    exact ⟨rfl, HG.out⟩
  have k2 := beq_t (@dif_turn x y hx hy)
  have kn := @dif_zero x y hx hy
  by_cases h0 : x = y
  · subst h0
    have k1 := beq_t (kn.2 rfl)
    clear kn
    go_wp2_with (first
        | (go_at_call 26; refine (Con.idif _ _ _).mono ?_; rintro e w' ⟨rfl, rfl⟩)
        | (go_at_call 27; refine (Con.sdif _ _ _).mono ?_; rintro e w' ⟨rfl, rfl⟩)
        | (go_at_call 20; refine (Con.sok_yes _ _ (by assumption)).mono ?_; rintro e w' ⟨rfl, rfl⟩)
        | (go_at_call 20; refine (Con.sok_no _ _ (by assumption)).mono ?_; rintro e w' ⟨rfl, rfl⟩))
    go_ret
    exact ⟨rfl, HG.out⟩
  · have k1 := beq_f (fun e => h0 (kn.1 e))
    have k3 := beq_f h0
    clear kn h0
    go_wp2_with (first
        | (go_at_call 26; refine (Con.idif _ _ _).mono ?_; rintro e w' ⟨rfl, rfl⟩)
        | (go_at_call 27; refine (Con.sdif _ _ _).mono ?_; rintro e w' ⟨rfl, rfl⟩)
        | (go_at_call 20; refine (Con.sok_yes _ _ (by assumption)).mono ?_; rintro e w' ⟨rfl, rfl⟩)
        | (go_at_call 20; refine (Con.sok_no _ _ (by assumption)).mono ?_; rintro e w' ⟨rfl, rfl⟩))
    go_ret
    exact ⟨rfl, HG.out⟩

theorem FnSumLaws (a : Option Addr) (len cap : Nat) (a1 : Option Addr) (len1 cap1 : Nat) (w : World) (hB : Draw.Bytes w w.heap.size a len) (hc : len ≤ cap) (hm : cap ≤ maxLen) (hc1 : len1 ≤ cap1) (hm1 : cap1 ≤ maxLen) :
    Calls Try.prog 4 #[.slice a len cap, .slice a1 len1 cap1] w (Yes w) := by
  have HM := hm; unfold maxLen at HM
  have HM1 := hm1; unfold maxLen at HM1
  by_cases hL : (1048576 : Int) < (len : Int)
  · have HB := Lib.hid hB; clear hB
    go_enter Try.func4, Try.ntmps4
    go_wp2
    go_ret
    exact ⟨rfl, Below.refl _ _⟩
  by_cases hL1 : (1048576 : Int) < (len1 : Int)
  · have HB := Lib.hid hB; clear hB
    have hL0 : ¬ (1048576 : Int) < (len : Int) := hL
    go_enter Try.func4, Try.ntmps4
    go_wp2
    go_ret
    exact ⟨rfl, Below.refl _ _⟩
  go_enter Try.func4, Try.ntmps4
  go_wp2_with fail
  refine (Draw.draw2 _ a len cap hB hc hm).mono ?_
  rintro e w1 ⟨x, y, x0, x1, y0, y1, rfl, hg⟩
  have HG := Lib.hid (Draw.below_of hg); clear hg hB hc hm hc1 hm1
  rcases fok_cases x with hx | hx
  case inr =>
    go_wp2_with (first
        | (go_at_call 22; refine (Con.isum _ _ _).mono ?_; rintro e w' ⟨rfl, rfl⟩)
        | (go_at_call 23; refine (Con.ssum _ _ _).mono ?_; rintro e w' ⟨rfl, rfl⟩)
        | (go_at_call 20; refine (Con.sok_yes _ _ (by assumption)).mono ?_; rintro e w' ⟨rfl, rfl⟩)
        | (go_at_call 20; refine (Con.sok_no _ _ (by assumption)).mono ?_; rintro e w' ⟨rfl, rfl⟩))
    go_ret
    exact ⟨rfl, HG.out⟩
  rcases fok_cases y with hy | hy
  case inr =>
    go_wp2_with (first
        | (go_at_call 22; refine (Con.isum _ _ _).mono ?_; rintro e w' ⟨rfl, rfl⟩)
        | (go_at_call 23; refine (Con.ssum _ _ _).mono ?_; rintro e w' ⟨rfl, rfl⟩)
        | (go_at_call 20; refine (Con.sok_yes _ _ (by assumption)).mono ?_; rintro e w' ⟨rfl, rfl⟩)
        | (go_at_call 20; refine (Con.sok_no _ _ (by assumption)).mono ?_; rintro e w' ⟨rfl, rfl⟩))
    go_ret
    exact ⟨rfl, HG.out⟩
  go_wp2_with (first
        | (go_at_call 22; refine (Con.isum _ _ _).mono ?_; rintro e w' ⟨rfl, rfl⟩)
        | (go_at_call 23; refine (Con.ssum _ _ _).mono ?_; rintro e w' ⟨rfl, rfl⟩)
        | (go_at_call 20; refine (Con.sok_yes _ _ (by assumption)).mono ?_; rintro e w' ⟨rfl, rfl⟩)
        | (go_at_call 20; refine (Con.sok_no _ _ (by assumption)).mono ?_; rintro e w' ⟨rfl, rfl⟩))
  refine (lp _ _ (by omega)).mono ?_
  rintro e w' ⟨c, hcc, rfl, rfl⟩
  have k1 := beq_t (@sum_comm x y)
  have k2 := beq_t (sum_assoc hx hy hcc)
  have k3 := beq_t (sum_zero hx)
  have k4 := sumF_ok x y
  go_wp2_with (first
        | (go_at_call 22; refine (Con.isum _ _ _).mono ?_; rintro e w' ⟨rfl, rfl⟩)
        | (go_at_call 19; refine (Con.iok_yes _ _ (by assumption)).mono ?_; rintro e w' ⟨rfl, rfl⟩))
  go_ret
  exact ⟨rfl, HG.out⟩

theorem FnMulLaws (a : Option Addr) (len cap : Nat) (a1 : Option Addr) (len1 cap1 : Nat) (w : World) (hB : Draw.Bytes w w.heap.size a len) (hc : len ≤ cap) (hm : cap ≤ maxLen) (hc1 : len1 ≤ cap1) (hm1 : cap1 ≤ maxLen) :
    Calls Try.prog 6 #[.slice a len cap, .slice a1 len1 cap1] w (Yes w) := by
  have HM := hm; unfold maxLen at HM
  have HM1 := hm1; unfold maxLen at HM1
  by_cases hL : (1048576 : Int) < (len : Int)
  · have HB := Lib.hid hB; clear hB
    go_enter Try.func6, Try.ntmps6
    go_wp2
    go_ret
    exact ⟨rfl, Below.refl _ _⟩
  by_cases hL1 : (1048576 : Int) < (len1 : Int)
  · have HB := Lib.hid hB; clear hB
    have hL0 : ¬ (1048576 : Int) < (len : Int) := hL
    go_enter Try.func6, Try.ntmps6
    go_wp2
    go_ret
    exact ⟨rfl, Below.refl _ _⟩
  go_enter Try.func6, Try.ntmps6
  go_wp2_with fail
  refine (Draw.draw2m _ a len cap hB hc hm).mono ?_
  rintro e w1 ⟨x, y, x0, x1, y0, y1, rfl, hg⟩
  have HG := Lib.hid (Draw.below_of hg); clear hg hB hc hm hc1 hm1
  rcases fok_cases x with hx | hx
  case inr =>
    go_wp2_with (first
        | (go_at_call 29; refine (Con.imul _ _ _).mono ?_; rintro e w' ⟨rfl, rfl⟩)
        | (go_at_call 30; refine (Con.smul _ _ _).mono ?_; rintro e w' ⟨rfl, rfl⟩)
        | (go_at_call 20; refine (Con.sok_yes _ _ (by assumption)).mono ?_; rintro e w' ⟨rfl, rfl⟩)
        | (go_at_call 20; refine (Con.sok_no _ _ (by assumption)).mono ?_; rintro e w' ⟨rfl, rfl⟩))
    go_ret
    exact ⟨rfl, HG.out⟩
  rcases fok_cases y with hy | hy
  case inr =>
    go_wp2_with (first
        | (go_at_call 29; refine (Con.imul _ _ _).mono ?_; rintro e w' ⟨rfl, rfl⟩)
        | (go_at_call 30; refine (Con.smul _ _ _).mono ?_; rintro e w' ⟨rfl, rfl⟩)
        | (go_at_call 20; refine (Con.sok_yes _ _ (by assumption)).mono ?_; rintro e w' ⟨rfl, rfl⟩)
        | (go_at_call 20; refine (Con.sok_no _ _ (by assumption)).mono ?_; rintro e w' ⟨rfl, rfl⟩))
    go_ret
    exact ⟨rfl, HG.out⟩
  go_wp2_with (first
        | (go_at_call 29; refine (Con.imul _ _ _).mono ?_; rintro e w' ⟨rfl, rfl⟩)
        | (go_at_call 30; refine (Con.smul _ _ _).mono ?_; rintro e w' ⟨rfl, rfl⟩)
        | (go_at_call 20; refine (Con.sok_yes _ _ (by assumption)).mono ?_; rintro e w' ⟨rfl, rfl⟩)
        | (go_at_call 20; refine (Con.sok_no _ _ (by assumption)).mono ?_; rintro e w' ⟨rfl, rfl⟩))
  refine (lp _ _ (by omega)).mono ?_
  rintro e w' ⟨c, hcc, rfl, rfl⟩
  have k1 := beq_t (@mul_comm x y)
  have k2 := beq_t (mul_assoc hx hy hcc)
  have k3 := beq_t (mul_one hx)
  have k4 := beq_t (mul_sum hx hy hcc)
  go_wp2_with (first
        | (go_at_call 22; refine (Con.isum _ _ _).mono ?_; rintro e w' ⟨rfl, rfl⟩)
        | (go_at_call 29; refine (Con.imul _ _ _).mono ?_; rintro e w' ⟨rfl, rfl⟩))
  go_ret
  exact ⟨rfl, HG.out⟩

theorem FnMulDif (a : Option Addr) (len cap : Nat) (a1 : Option Addr) (len1 cap1 : Nat) (w : World) (hB : Draw.Bytes w w.heap.size a len) (hc : len ≤ cap) (hm : cap ≤ maxLen) (hc1 : len1 ≤ cap1) (hm1 : cap1 ≤ maxLen) :
    Calls Try.prog 9 #[.slice a len cap, .slice a1 len1 cap1] w (Yes w) := by
  have HM := hm; unfold maxLen at HM
  have HM1 := hm1; unfold maxLen at HM1
  by_cases hL : (1048576 : Int) < (len : Int)
  · have HB := Lib.hid hB; clear hB
    go_enter Try.func9, Try.ntmps9
    go_wp2
    go_ret
    exact ⟨rfl, Below.refl _ _⟩
  by_cases hL1 : (1048576 : Int) < (len1 : Int)
  · have HB := Lib.hid hB; clear hB
    have hL0 : ¬ (1048576 : Int) < (len : Int) := hL
    go_enter Try.func9, Try.ntmps9
    go_wp2
    go_ret
    exact ⟨rfl, Below.refl _ _⟩
  go_enter Try.func9, Try.ntmps9
  go_wp2_with fail
  refine (Draw.draw2m _ a len cap hB hc hm).mono ?_
  rintro e w1 ⟨x, y, x0, x1, y0, y1, rfl, hg⟩
  have HG := Lib.hid (Draw.below_of hg); clear hg hB hc hm hc1 hm1
  rcases fok_cases x with hx | hx
  case inr =>
    go_wp2_with (first
        | (go_at_call 29; refine (Con.imul _ _ _).mono ?_; rintro e w' ⟨rfl, rfl⟩)
        | (go_at_call 30; refine (Con.smul _ _ _).mono ?_; rintro e w' ⟨rfl, rfl⟩)
        | (go_at_call 20; refine (Con.sok_yes _ _ (by assumption)).mono ?_; rintro e w' ⟨rfl, rfl⟩)
        | (go_at_call 20; refine (Con.sok_no _ _ (by assumption)).mono ?_; rintro e w' ⟨rfl, rfl⟩))
    go_ret
    exact ⟨rfl, HG.out⟩
  rcases fok_cases y with hy | hy
  case inr =>
    go_wp2_with (first
        | (go_at_call 29; refine (Con.imul _ _ _).mono ?_; rintro e w' ⟨rfl, rfl⟩)
        | (go_at_call 30; refine (Con.smul _ _ _).mono ?_; rintro e w' ⟨rfl, rfl⟩)
        | (go_at_call 20; refine (Con.sok_yes _ _ (by assumption)).mono ?_; rintro e w' ⟨rfl, rfl⟩)
        | (go_at_call 20; refine (Con.sok_no _ _ (by assumption)).mono ?_; rintro e w' ⟨rfl, rfl⟩))
    go_ret
    exact ⟨rfl, HG.out⟩
  go_wp2_with (first
        | (go_at_call 29; refine (Con.imul _ _ _).mono ?_; rintro e w' ⟨rfl, rfl⟩)
        | (go_at_call 30; refine (Con.smul _ _ _).mono ?_; rintro e w' ⟨rfl, rfl⟩)
        | (go_at_call 20; refine (Con.sok_yes _ _ (by assumption)).mono ?_; rintro e w' ⟨rfl, rfl⟩)
        | (go_at_call 20; refine (Con.sok_no _ _ (by assumption)).mono ?_; rintro e w' ⟨rfl, rfl⟩))
  refine (lp _ _ (by omega)).mono ?_
  rintro e w' ⟨c, hcc, rfl, rfl⟩
  by_cases hy0 : y = 0
  · subst hy0
    go_wp2_with (first
        | (go_at_call 29; refine (Con.imul _ _ _).mono ?_; rintro e w' ⟨rfl, rfl⟩))
    go_ret
    exact ⟨rfl, HG.out⟩
  · have k0 := beq_f hy0
    have kn := @mul_cancel x y c hx hy hcc hy0
    by_cases he : c = x
    · have k1 := beq_t (kn.2 he)
      have k2 := beq_t he
      clear kn he
      go_wp2_with (first
        | (go_at_call 29; refine (Con.imul _ _ _).mono ?_; rintro e w' ⟨rfl, rfl⟩))
      go_ret
      exact ⟨rfl, HG.out⟩
    · have k1 := beq_f (fun e => he (kn.1 e))
      have k2 := beq_f he
      clear kn he
      go_wp2_with (first
        | (go_at_call 29; refine (Con.imul _ _ _).mono ?_; rintro e w' ⟨rfl, rfl⟩))
      go_ret
      exact ⟨rfl, HG.out⟩

theorem FnSquares (a : Option Addr) (len cap : Nat) (w : World) (hB : Draw.Bytes w w.heap.size a len) (hc : len ≤ cap) (hm : cap ≤ maxLen) :
    Calls Try.prog 10 #[.slice a len cap] w (Yes w) := by
  have HM := hm; unfold maxLen at HM
  by_cases hL : (1048576 : Int) < (len : Int)
  · have HB := Lib.hid hB; clear hB
    go_enter Try.func10, Try.ntmps10
    go_wp2
    go_ret
    exact ⟨rfl, Below.refl _ _⟩
  go_enter Try.func10, Try.ntmps10
  go_wp2_with fail
  refine (Draw.draw2m _ a len cap hB hc hm).mono ?_
  rintro e w1 ⟨x, y, x0, x1, y0, y1, rfl, hg⟩
  have HG := Lib.hid (Draw.below_of hg); clear hg hB hc hm
  rcases fok_cases x with hx | hx
  case inr =>
    go_wp2_with (first
        | (go_at_call 29; refine (Con.imul _ _ _).mono ?_; rintro e w' ⟨rfl, rfl⟩)
        | (go_at_call 30; refine (Con.smul _ _ _).mono ?_; rintro e w' ⟨rfl, rfl⟩)
        | (go_at_call 20; refine (Con.sok_yes _ _ (by assumption)).mono ?_; rintro e w' ⟨rfl, rfl⟩)
        | (go_at_call 20; refine (Con.sok_no _ _ (by assumption)).mono ?_; rintro e w' ⟨rfl, rfl⟩))
    go_ret
    exact ⟨rfl, HG.out⟩
  rcases fok_cases y with hy | hy
  case inr =>
    go_wp2_with (first
        | (go_at_call 29; refine (Con.imul _ _ _).mono ?_; rintro e w' ⟨rfl, rfl⟩)
        | (go_at_call 30; refine (Con.smul _ _ _).mono ?_; rintro e w' ⟨rfl, rfl⟩)
        | (go_at_call 20; refine (Con.sok_yes _ _ (by assumption)).mono ?_; rintro e w' ⟨rfl, rfl⟩)
        | (go_at_call 20; refine (Con.sok_no _ _ (by assumption)).mono ?_; rintro e w' ⟨rfl, rfl⟩))
    go_ret
    exact ⟨rfl, HG.out⟩
  have kn := @squares x y hx hy
  by_cases h1 : x = y
  · subst h1
    have k1 := beq_t (kn.2 (.inl rfl))
    clear kn
    go_wp2_with (first
        | (go_at_call 29; refine (Con.imul _ _ _).mono ?_; rintro e w' ⟨rfl, rfl⟩)
        | (go_at_call 30; refine (Con.smul _ _ _).mono ?_; rintro e w' ⟨rfl, rfl⟩)
        | (go_at_call 22; refine (Con.isum _ _ _).mono ?_; rintro e w' ⟨rfl, rfl⟩)
        | (go_at_call 20; refine (Con.sok_yes _ _ (by assumption)).mono ?_; rintro e w' ⟨rfl, rfl⟩)
        | (go_at_call 20; refine (Con.sok_no _ _ (by assumption)).mono ?_; rintro e w' ⟨rfl, rfl⟩))
    go_ret
    exact ⟨rfl, HG.out⟩
  · have k2 := beq_f h1
    by_cases h2 : sumF x y = 0
    · have k1 := beq_t (kn.2 (.inr h2))
      have k3 := beq_t h2
      clear kn h1 h2
      go_wp2_with (first
        | (go_at_call 29; refine (Con.imul _ _ _).mono ?_; rintro e w' ⟨rfl, rfl⟩)
        | (go_at_call 30; refine (Con.smul _ _ _).mono ?_; rintro e w' ⟨rfl, rfl⟩)
        | (go_at_call 22; refine (Con.isum _ _ _).mono ?_; rintro e w' ⟨rfl, rfl⟩)
        | (go_at_call 20; refine (Con.sok_yes _ _ (by assumption)).mono ?_; rintro e w' ⟨rfl, rfl⟩)
        | (go_at_call 20; refine (Con.sok_no _ _ (by assumption)).mono ?_; rintro e w' ⟨rfl, rfl⟩))
      go_ret
      exact ⟨rfl, HG.out⟩
    · have k1 := beq_f (fun e => (kn.1 e).elim h1 h2)
      have k3 := beq_f h2
      clear kn h1 h2
      go_wp2_with (first
        | (go_at_call 29; refine (Con.imul _ _ _).mono ?_; rintro e w' ⟨rfl, rfl⟩)
        | (go_at_call 30; refine (Con.smul _ _ _).mono ?_; rintro e w' ⟨rfl, rfl⟩)
        | (go_at_call 22; refine (Con.isum _ _ _).mono ?_; rintro e w' ⟨rfl, rfl⟩)
        | (go_at_call 20; refine (Con.sok_yes _ _ (by assumption)).mono ?_; rintro e w' ⟨rfl, rfl⟩)
        | (go_at_call 20; refine (Con.sok_no _ _ (by assumption)).mono ?_; rintro e w' ⟨rfl, rfl⟩))
      go_ret
      exact ⟨rfl, HG.out⟩

theorem FnFieldOk (a : Option Addr) (len cap : Nat) (w : World) (hB : Draw.Bytes w w.heap.size a len) (hc : len ≤ cap) (hm : cap ≤ maxLen) :
    Calls Try.prog 3 #[.slice a len cap] w (Yes w) := by
  have HM := hm; unfold maxLen at HM
  by_cases hL : (1048576 : Int) < (len : Int)
  · have HB := Lib.hid hB; clear hB
    go_enter Try.func3, Try.ntmps3
    go_wp2
    go_ret
    exact ⟨rfl, Below.refl _ _⟩
  go_enter Try.func3, Try.ntmps3
  go_wp2_with fail
  refine (Draw.draw0 _ a len cap hB hc hm).mono ?_
  rintro e w1 ⟨x, x0, x1, rfl, hg⟩
  have HG := Lib.hid (Draw.below_of hg); clear hg hB hc hm
  rcases fok_cases x with hx | hx
  · obtain ⟨f0, f1⟩ := fok_iff.1 hx
    go_wp2_with (first
        | (go_at_call 19; refine (Con.iok_yes _ _ (by assumption)).mono ?_; rintro e w' ⟨rfl, rfl⟩)
        | (go_at_call 20; refine (Con.sok_yes _ _ (by assumption)).mono ?_; rintro e w' ⟨rfl, rfl⟩))
    go_ret
    exact ⟨rfl, HG.out⟩
  · rcases fok_not.1 hx with f0 | f0
    · have f1 : ¬ 0 ≤ x := by omega
      go_wp2_with (first
        | (go_at_call 19; refine (Con.iok_no _ _ (by assumption)).mono ?_; rintro e w' ⟨rfl, rfl⟩)
        | (go_at_call 20; refine (Con.sok_no _ _ (by assumption)).mono ?_; rintro e w' ⟨rfl, rfl⟩))
      go_ret
      exact ⟨rfl, HG.out⟩
    · have f1 : 0 ≤ x := by omega
      have f2 : ¬ x < 23 := by omega
      have f3 : decide (x < 23) = false := decide_eq_false f2
      go_wp2_with (first
        | (go_at_call 19; refine (Con.iok_no _ _ (by assumption)).mono ?_; rintro e w' ⟨rfl, rfl⟩)
        | (go_at_call 20; refine (Con.sok_no _ _ (by assumption)).mono ?_; rintro e w' ⟨rfl, rfl⟩))
      go_ret
      exact ⟨rfl, HG.out⟩

theorem FnInv (a : Option Addr) (len cap : Nat) (a1 : Option Addr) (len1 cap1 : Nat) (w : World) (hB : Draw.Bytes w w.heap.size a len) (hc : len ≤ cap) (hm : cap ≤ maxLen) (hc1 : len1 ≤ cap1) (hm1 : cap1 ≤ maxLen) :
    Calls Try.prog 8 #[.slice a len cap, .slice a1 len1 cap1] w (Yes w) := by
  have HM := hm; unfold maxLen at HM
  have HM1 := hm1; unfold maxLen at HM1
  by_cases hL : (1048576 : Int) < (len : Int)
  · have HB := Lib.hid hB; clear hB
    go_enter Try.func8, Try.ntmps8
    go_wp2
    go_ret
    exact ⟨rfl, Below.refl _ _⟩
  by_cases hL1 : (1048576 : Int) < (len1 : Int)
  · have HB := Lib.hid hB; clear hB
    have hL0 : ¬ (1048576 : Int) < (len : Int) := hL
    go_enter Try.func8, Try.ntmps8
    go_wp2
    go_ret
    exact ⟨rfl, Below.refl _ _⟩
  go_enter Try.func8, Try.ntmps8
  go_wp2_with fail
  refine (Draw.draw1 _ a len cap hB hc hm).mono ?_
  rintro e w1 ⟨x, x0, x1, rfl, hg⟩
  have HG := Lib.hid (Draw.below_of hg); clear hg hB hc hm hc1 hm1
  by_cases hn : fok x = false ∨ x = 0
  case pos =>
    by_cases hz : fok x = true
    · have hz0 : x = 0 := hn.resolve_left (by rw [hz]; decide)
      subst hz0
      clear hn
      go_wp2_with (first
        | (go_at_call 33; refine (Con.iinv_no _ _ (.inr rfl)).mono ?_; rintro e w' ⟨rfl, rfl⟩)
        | (go_at_call 32; refine (Con.sinv_no _ _ (.inr rfl)).mono ?_; rintro e w' ⟨rfl, rfl⟩)
        | (go_at_call 20; refine (Con.sok_yes _ _ (by assumption)).mono ?_; rintro e w' ⟨rfl, rfl⟩)
        | (go_at_call 20; refine (Con.sok_no _ _ (by assumption)).mono ?_; rintro e w' ⟨rfl, rfl⟩))
      go_ret
      exact ⟨rfl, HG.out⟩
    · have hz' : fok x = false := by simpa using hz
      clear hz hn
      go_wp2_with (first
        | (go_at_call 33; refine (Con.iinv_no _ _ (.inl (by assumption))).mono ?_; rintro e w' ⟨rfl, rfl⟩)
        | (go_at_call 32; refine (Con.sinv_no _ _ (.inl (by assumption))).mono ?_; rintro e w' ⟨rfl, rfl⟩)
        | (go_at_call 20; refine (Con.sok_yes _ _ (by assumption)).mono ?_; rintro e w' ⟨rfl, rfl⟩)
        | (go_at_call 20; refine (Con.sok_no _ _ (by assumption)).mono ?_; rintro e w' ⟨rfl, rfl⟩))
      go_ret
      exact ⟨rfl, HG.out⟩
  have hx : fok x = true := by rcases fok_cases x with h | h; (exact h); exact absurd (.inl h) hn
  have hx0 : x ≠ 0 := fun h => hn (.inr h)
  clear hn
  have kx := beq_f hx0
  have n0 : 0 ≤ (len1 : Int) % 22 := Int.emod_nonneg _ (by omega)
  have n1 : (len1 : Int) % 22 < 22 := Int.emod_lt_of_pos _ (by omega)
  have hb : fok (1 + (len1 : Int) % 22) = true := fok_mk (by omega) (by omega)
  have hb0 : 1 + (len1 : Int) % 22 ≠ 0 := by omega
  have hi : fok (invF x) = true := invF_ok x
  have hi0 : invF x ≠ 0 := inv_ne hx hx0
  have hm : fok (mulF x (1 + (len1 : Int) % 22)) = true := mulF_ok _ _
  have hm0 : mulF x (1 + (len1 : Int) % 22) ≠ 0 := fun e => ((mul_none hx hb).1 e).elim hx0 hb0
  have k1 := beq_t (inv_mul hx hx0)
  have k2 := beq_t (inv_inv hx)
  have k3 := beq_t (inv_of_mul hx hb)
  go_wp2_with (first
        | (go_at_call 33; refine (Con.iinv_yes _ _ (by assumption) (by assumption)).mono ?_; rintro e w' ⟨rfl, rfl⟩)
        | (go_at_call 32; refine (Con.sinv_yes _ _ (by assumption) (by assumption)).mono ?_; rintro e w' ⟨rfl, rfl⟩)
        | (go_at_call 29; refine (Con.imul _ _ _).mono ?_; rintro e w' ⟨rfl, rfl⟩)
        | (go_at_call 20; refine (Con.sok_yes _ _ (by assumption)).mono ?_; rintro e w' ⟨rfl, rfl⟩)
        | (go_at_call 20; refine (Con.sok_no _ _ (by assumption)).mono ?_; rintro e w' ⟨rfl, rfl⟩))
  go_ret
  exact ⟨rfl, HG.out⟩

theorem FnInvDif (a : Option Addr) (len cap : Nat) (a1 : Option Addr) (len1 cap1 : Nat) (w : World) (hB : Draw.Bytes w w.heap.size a len) (hc : len ≤ cap) (hm : cap ≤ maxLen) (hc1 : len1 ≤ cap1) (hm1 : cap1 ≤ maxLen) :
    Calls Try.prog 12 #[.slice a len cap, .slice a1 len1 cap1] w (Yes w) := by
  have HM := hm; unfold maxLen at HM
  have HM1 := hm1; unfold maxLen at HM1
  by_cases hL : (1048576 : Int) < (len : Int)
  · have HB := Lib.hid hB; clear hB
    go_enter Try.func12, Try.ntmps12
    go_wp2
    go_ret
    exact ⟨rfl, Below.refl _ _⟩
  by_cases hL1 : (1048576 : Int) < (len1 : Int)
  · have HB := Lib.hid hB; clear hB
    have hL0 : ¬ (1048576 : Int) < (len : Int) := hL
    go_enter Try.func12, Try.ntmps12
    go_wp2
    go_ret
    exact ⟨rfl, Below.refl _ _⟩
  go_enter Try.func12, Try.ntmps12
  go_wp2_with fail
  refine (Draw.draw1 _ a len cap hB hc hm).mono ?_
  rintro e w1 ⟨x, x0, x1, rfl, hg⟩
  have HG := Lib.hid (Draw.below_of hg); clear hg hB hc hm hc1 hm1
  by_cases hn : fok x = false ∨ x = 0
  case pos =>
    by_cases hz : fok x = true
    · have hz0 : x = 0 := hn.resolve_left (by rw [hz]; decide)
      subst hz0
      clear hn
      go_wp2_with (first
        | (go_at_call 33; refine (Con.iinv_no _ _ (.inr rfl)).mono ?_; rintro e w' ⟨rfl, rfl⟩)
        | (go_at_call 32; refine (Con.sinv_no _ _ (.inr rfl)).mono ?_; rintro e w' ⟨rfl, rfl⟩)
        | (go_at_call 20; refine (Con.sok_yes _ _ (by assumption)).mono ?_; rintro e w' ⟨rfl, rfl⟩)
        | (go_at_call 20; refine (Con.sok_no _ _ (by assumption)).mono ?_; rintro e w' ⟨rfl, rfl⟩))
      go_ret
      exact ⟨rfl, HG.out⟩
    · have hz' : fok x = false := by simpa using hz
      clear hz hn
      go_wp2_with (first
        | (go_at_call 33; refine (Con.iinv_no _ _ (.inl (by assumption))).mono ?_; rintro e w' ⟨rfl, rfl⟩)
        | (go_at_call 32; refine (Con.sinv_no _ _ (.inl (by assumption))).mono ?_; rintro e w' ⟨rfl, rfl⟩)
        | (go_at_call 20; refine (Con.sok_yes _ _ (by assumption)).mono ?_; rintro e w' ⟨rfl, rfl⟩)
        | (go_at_call 20; refine (Con.sok_no _ _ (by assumption)).mono ?_; rintro e w' ⟨rfl, rfl⟩))
      go_ret
      exact ⟨rfl, HG.out⟩
  have hx : fok x = true := by rcases fok_cases x with h | h; (exact h); exact absurd (.inl h) hn
  have hx0 : x ≠ 0 := fun h => hn (.inr h)
  clear hn
  have kx := beq_f hx0
  have n0 : 0 ≤ (len1 : Int) % 22 := Int.emod_nonneg _ (by omega)
  have n1 : (len1 : Int) % 22 < 22 := Int.emod_lt_of_pos _ (by omega)
  have hb : fok (1 + (len1 : Int) % 22) = true := fok_mk (by omega) (by omega)
  have hb0 : 1 + (len1 : Int) % 22 ≠ 0 := by omega
  have hi : fok (invF x) = true := invF_ok x
  have ho : fok 1 = true := rfl
  have ho0 : (1 : Int) ≠ 0 := by decide
  have hl : fok 22 = true := rfl
  have hl0 : (22 : Int) ≠ 0 := by decide
  have e1 : invF 1 = 1 := by decide +kernel
  have e2 : invF 22 = 22 := by decide +kernel
  have k1 := beq_t e1
  have k2 := beq_t e2
  clear e1 e2
  have kn := @inv_same (1 + (len1 : Int) % 22) x hb hx
  by_cases he : 1 + (len1 : Int) % 22 = x
  · have k3 := beq_t (kn.2 he)
    have k4 := beq_t he
    clear kn he
    go_wp2_with (first
        | (go_at_call 33; refine (Con.iinv_yes _ _ (by assumption) (by assumption)).mono ?_; rintro e w' ⟨rfl, rfl⟩)
        | (go_at_call 32; refine (Con.sinv_yes _ _ (by assumption) (by assumption)).mono ?_; rintro e w' ⟨rfl, rfl⟩))
    go_ret
    exact ⟨rfl, HG.out⟩
  · have k3 := beq_f (fun e => he (kn.1 e))
    have k4 := beq_f he
    clear kn he
    go_wp2_with (first
        | (go_at_call 33; refine (Con.iinv_yes _ _ (by assumption) (by assumption)).mono ?_; rintro e w' ⟨rfl, rfl⟩)
        | (go_at_call 32; refine (Con.sinv_yes _ _ (by assumption) (by assumption)).mono ?_; rintro e w' ⟨rfl, rfl⟩))
    go_ret
    exact ⟨rfl, HG.out⟩

end Run
end Go.Proofs.Ytnobfnjejffoiaa
