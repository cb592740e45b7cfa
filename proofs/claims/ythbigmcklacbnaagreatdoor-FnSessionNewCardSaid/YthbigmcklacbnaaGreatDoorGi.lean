/-
  Signatures: the program's functions on what a message asks, on a signature, and on who signs alone.
-/
import Derived.Test.YthbigmcklacbnaaGreatDoorGh
import Derived.Test.YthbigmcklacbnaaGreatDoorDa
import Derived.Handy
namespace Go.Proofs.YthbigmcklacbnaaGreatDoor
namespace Con
open Go.RowKit Alg Mem
set_option linter.unusedVariables false

theorem imsg (w : World) (m : Int) : Calls Tryz.prog 26 #[.int .i64 m] w fun e w' => e = .returned (.bool (mok m)) ∧ w = w' := by
  by_cases h1 : 0 ≤ m
  · by_cases h2 : m ≤ 99
    · have HR := Lib.hid (show mok m = true from decide_eq_true ⟨h1, h2⟩)
      go_enter Tryz.func26, Tryz.ntmps26
      go_wp2
      go_ret
      exact ⟨ret_b HR.out.symm, rfl⟩
    · have HR := Lib.hid (show mok m = false from decide_eq_false (by omega))
      go_enter Tryz.func26, Tryz.ntmps26
      go_wp2
      go_ret
      exact ⟨ret_b HR.out.symm, rfl⟩
  · have HR := Lib.hid (show mok m = false from decide_eq_false (by omega))
    go_enter Tryz.func26, Tryz.ntmps26
    go_wp2
    go_ret
    exact ⟨ret_b HR.out.symm, rfl⟩
theorem imsg_yes (w : World) (m : Int) (h : mok m = true) : Calls Tryz.prog 26 #[.int .i64 m] w fun e w' => e = .returned (.bool true) ∧ w = w' := h ▸ imsg w m
theorem imsg_no (w : World) (m : Int) (h : mok m = false) : Calls Tryz.prog 26 #[.int .i64 m] w fun e w' => e = .returned (.bool false) ∧ w = w' := h ▸ imsg w m

theorem ihash (w : World) (r pub msg : Int) :
    Calls Tryz.prog 96 #[.int .i64 r, .int .i64 pub, .int .i64 msg] w fun e w' => e = .returned (.int .i64 (hF r pub msg)) ∧ w.grownBy w' none := by
  have G := Lib.hid (Draw.grown_refl w none)
  go_enter Tryz.func96, Tryz.ntmps96
  rcases gokc r with h1 | h1
  case inr =>
    have HR := Lib.hid (hF_out (pub := pub) (msg := msg) (Or.inl h1))
    go_wp2_with fail
    refine (igok_no _ _ h1).mono ?_
    rintro e w1 ⟨rfl, hg⟩
    replace G := Lib.hid (gtr G.out hg)
    clear hg
    go_wp2
    go_ret
    exact ⟨ret_i HR.out.symm, G.out⟩
  rcases gokc pub with h2 | h2
  case inr =>
    have HR := Lib.hid (hF_out (r := r) (msg := msg) (Or.inr (Or.inl h2)))
    go_wp2_with fail
    refine (igok_yes _ _ h1).mono ?_
    rintro e w1 ⟨rfl, hg⟩
    replace G := Lib.hid (gtr G.out hg)
    clear hg
    go_wp2_with fail
    refine (igok_no _ _ h2).mono ?_
    rintro e w2 ⟨rfl, hg⟩
    replace G := Lib.hid (gtr G.out hg)
    clear hg
    go_wp2
    go_ret
    exact ⟨ret_i HR.out.symm, G.out⟩
  go_wp2_with fail
  refine (igok_yes _ _ h1).mono ?_
  rintro e w1 ⟨rfl, hg⟩
  replace G := Lib.hid (gtr G.out hg)
  clear hg
  go_wp2_with fail
  refine (igok_yes _ _ h2).mono ?_
  rintro e w2 ⟨rfl, hg⟩
  replace G := Lib.hid (gtr G.out hg)
  clear hg
  rcases mok_cases msg with h3 | h3
  case inr =>
    have HR := Lib.hid (hF_out (r := r) (pub := pub) (Or.inr (Or.inr h3)))
    go_wp2_with (go_at_call 26; refine (imsg_no _ _ h3).mono ?_; rintro e w' ⟨rfl, rfl⟩)
    go_ret
    exact ⟨ret_i HR.out.symm, G.out⟩
  have HR := Lib.hid (hF_in h1 h2 h3)
  obtain ⟨r0, r1⟩ := gok_range h1
  obtain ⟨p0, p1⟩ := gok_range h2
  obtain ⟨m0, m1⟩ := mok_iff.1 h3
  have hnn : 0 ≤ 5 * r + 7 * pub + 11 * msg + 3 := by omega
  go_wp2_with (go_at_call 26; refine (imsg_yes _ _ h3).mono ?_; rintro e w' ⟨rfl, rfl⟩)
  go_ret
  exact ⟨ret_i (by rw [HR.out]; first | rfl | exact Int.tmod_eq_emod_of_nonneg hnn), G.out⟩

theorem as_gg (v : Value) (w : World) : (Instr.typeAssert (.iface 118 v) 148 118 true).run Tryz.prog w = .ok (.tuple #[v, .bool true]) w := by kernel_rfl
end Con
end Go.Proofs.YthbigmcklacbnaaGreatDoor
