/-
  Whether a number fits what is shown: the program's and the model's functions, at every argument.
-/
import Derived.Test.YtkklhlffbfgolaaDoorCc
namespace Go.Proofs.YtkklhlffbfgolaaDoor
namespace Con
open Go.RowKit Alg Mem Pol
set_option linter.unusedVariables false

theorem icfit (w : World) (a : Option Addr) (len cap : Nat) (z : Nat → Int) (x n : Int) (hI : Ints w a len z) (hl : len ≤ 2000000) :
    Calls Tryd.prog 54 #[.slice a len cap, .int .i64 x, .int .i64 n] w fun e w' => e = .returned (.bool (cfz len z x n)) ∧ w.grownBy w' none := by
  have HI := Lib.hid hI; clear hI
  cases hp : cokz len z with
  | false =>
    have HR := Lib.hid (cfz_out (x := x) (n := n) (.inl hp))
    go_enter Tryd.func54, Tryd.ntmps54
    go_wp2_with fail
    refine (icok _ _ _ _ z HI.out (by omega)).mono ?_
    rintro e w1 ⟨rfl, hg⟩
    rw [hp]
    go_wp2
    go_ret
    exact ⟨ret_b HR.out.symm, hg⟩
  | true =>
    cases hx : fok x with
    | false =>
      have HR := Lib.hid (cfz_out (len := len) (z := z) (n := n) (.inr (.inl hx)))
      have HX := Lib.hid hx; clear hx
      go_enter Tryd.func54, Tryd.ntmps54
      go_wp2_with fail
      refine (icok _ _ _ _ z HI.out (by omega)).mono ?_
      rintro e w1 ⟨rfl, hg⟩
      rw [hp]
      go_wp2_with (go_at_call 32; refine (iok_no _ _ HX.out).mono ?_; rintro e w' ⟨rfl, rfl⟩)
      go_ret
      exact ⟨ret_b HR.out.symm, hg⟩
    | true =>
      have HX := Lib.hid hx
      cases hn : fok n with
      | false =>
        have HR := Lib.hid (cfz_out (len := len) (z := z) (x := x) (.inr (.inr hn)))
        have HN := Lib.hid hn; clear hn hx
        go_enter Tryd.func54, Tryd.ntmps54
        go_wp2_with fail
        refine (icok _ _ _ _ z HI.out (by omega)).mono ?_
        rintro e w1 ⟨rfl, hg⟩
        rw [hp]
        go_wp2_with fail
        refine (iok_yes x _ HX.out).mono ?_
        rintro e w' ⟨rfl, rfl⟩
        go_wp2_with (go_at_call 32; refine (iok_no n _ HN.out).mono ?_; rintro e w' ⟨rfl, rfl⟩)
        go_ret
        exact ⟨ret_b HR.out.symm, hg⟩
      | true =>
        have HR := Lib.hid (cfz_in hp hx hn)
        have HN := Lib.hid hn
        clear hx hn
        go_enter Tryd.func54, Tryd.ntmps54
        go_wp2_with fail
        refine (icok _ _ _ _ z HI.out (by omega)).mono ?_
        rintro e w1 ⟨rfl, hg⟩
        rw [hp]
        have HG := Lib.hid hg; clear hg
        go_wp2_with fail
        refine (iok_yes x _ HX.out).mono ?_
        rintro e w' ⟨rfl, rfl⟩
        go_wp2_with fail
        refine (iok_yes n _ HN.out).mono ?_
        rintro e w' ⟨rfl, rfl⟩
        go_wp2_with (first
          | fail)
        refine (igof _ _).mono ?_
        rintro e w2 ⟨rfl, hg2⟩
        have HG2 := Lib.hid (gtr HG.out hg2); clear hg2
        go_wp2_with fail
        refine (icat _ _ _ _ z _ (HI.out.kept HG2.out) (by omega)).mono ?_
        rintro e w3 ⟨rfl, hg3⟩
        have HG3 := Lib.hid (gtr HG2.out hg3); clear hg3
        go_wp2
        go_ret
        exact ⟨ret_b HR.out.symm, HG3.out⟩
theorem s4fit (w : World) (a : Option Addr) (len cap : Nat) (z : Nat → Int) (x n : Int) (hI : Ints w a len z) (hl : len ≤ 2000000) (hz : ∀ j, j < len → gok (z j) = true) (hx : fok x = true) (hn : fok n = true) :
    Calls Tryd.prog 45 #[.slice a len cap, .int .i64 x, .int .i64 n] w fun e w' => e = .returned (.bool (gofF n == gofF (fi (ev (fl (lz z) len) (cv x))))) ∧ w.grownBy w' none := by
  have HI := Lib.hid hI; have HZ := Lib.hid hz; have HX := Lib.hid hx; have HN := Lib.hid hn
  have HO := Lib.hid (gof_in hn)
  obtain ⟨n0, n1⟩ := fok_iff.1 hn
  clear hI hz hx hn
  go_enter Tryd.func45, Tryd.ntmps45
  go_wp2_with (first
    | (go_at_call 68; refine (spow _ _ _ (by omega) (by omega) (by omega) (by omega)).mono ?_; rintro e w' ⟨rfl, rfl⟩)
    | (go_at_call 69; refine (s4at _ _ _ _ z x HI.out (by omega) HZ.out HX.out).mono ?_; rintro e w' ⟨rfl, hg⟩))
  go_ret
  refine ⟨ret_b ?_, hg⟩
  rw [HO.out]
end Con
end Go.Proofs.YtkklhlffbfgolaaDoor
