/-
  The program's value and sum of polynomials, at every argument; the model's sum.
-/
import Derived.Test.YtbemggelljgkhaaPe
import Derived.Test.YtbemggelljgkhaaPf
namespace Go.Proofs.Ytbemggelljgkhaa
namespace Con
open Go.RowKit Alg Mem Pol
set_option linter.unusedVariables false

theorem ipat (w : World) (a : Option Addr) (len cap : Nat) (z : Nat → Int) (x : Int) (hI : Ints w a len z) (hl : len ≤ 2000000) :
    Calls Try.prog 15 #[.slice a len cap, .int .i64 x] w fun e w' => e = .returned (.int .i64 (patz len z x)) ∧ w.grownBy w' none := by
  have HI := Lib.hid hI; clear hI
  cases hp : pokz len z with
  | false =>
    have HR := Lib.hid (patz_out (x := x) (.inl hp))
    go_enter Try.func15, Try.ntmps15
    go_wp2_with (go_at_call 14; refine (ipok _ _ _ _ z HI.out (by omega)).mono ?_; rintro e w' ⟨rfl, rfl⟩)
    go_ret
    exact ⟨ret_iz HR.out.symm, Draw.grown_refl _ _⟩
  | true =>
    cases hx : fok x with
    | false =>
      have HR := Lib.hid (patz_out (len := len) (z := z) (.inr hx))
      go_enter Try.func15, Try.ntmps15
      go_wp2_with (first
        | (go_at_call 14; refine (ipok _ _ _ _ z HI.out (by omega)).mono ?_; rintro e w' ⟨rfl, rfl⟩)
        | (go_at_call 23; refine (iok_no _ _ (by assumption)).mono ?_; rintro e w' ⟨rfl, rfl⟩))
      go_ret
      exact ⟨ret_iz HR.out.symm, Draw.grown_refl _ _⟩
    | true =>
      have HR := Lib.hid (patz_in hp hx)
      have HZ := Lib.hid (pokz_iff.1 hp)
      have HX := Lib.hid hx
      obtain ⟨m, rfl⟩ : ∃ m, len = m + 1 := ⟨len - 1, by have := (pokz_iff.1 hp).1; omega⟩
      go_enter Try.func15, Try.ntmps15
      go_wp2_with fail
      refine (ipok _ _ _ _ z HI.out (by omega)).mono ?_
      rintro e w' ⟨rfl, rfl⟩
      go_wp2_with fail
      refine (iok_yes _ _ HX.out).mono ?_
      rintro e w' ⟨rfl, rfl⟩
      go_wp2_with fail
      refine (over _ _ _ _ z HI.out (by omega)).mono ?_
      rintro e w1 ⟨b, rfl, hr, hg⟩
      have HW := Lib.hid hr; have HG := Lib.hid hg; clear hr hg
      go_wp2_with fail
      refine (at_in _ _ m (m + 1) z x HW.out.ints (by have := HZ.out.2.1; omega) (Nat.le_refl _) (by unfold maxLen; omega) HZ.out.2.2 HX.out).mono ?_
      rintro e w2 ⟨rfl, hg2⟩
      have HG2 := Lib.hid hg2; clear hg2
      go_wp2
      go_ret
      exact ⟨ret_iz HR.out.symm, gtr HG.out HG2.out⟩

end Con
end Go.Proofs.Ytbemggelljgkhaa
