/-
  Signatures: the program's functions on what a message asks, on a signature, and on who signs alone.
-/
import Derived.Test.YteibklnonlapoaaGreatDoorGh
import Derived.Test.YteibklnonlapoaaGreatDoorDa
import Derived.Handy
namespace Go.Proofs.YteibklnonlapoaaGreatDoor
namespace Con
open Go.RowKit Alg Mem
set_option linter.unusedVariables false

theorem imsg (w : World) (m : Int) : Calls Tryz.prog 42 #[.int .i64 m] w fun e w' => e = .returned (.bool (mok m)) ∧ w = w' := by
  by_cases h1 : 0 ≤ m
  · by_cases h2 : m ≤ 99
    · have HR := Lib.hid (show mok m = true from decide_eq_true ⟨h1, h2⟩)
      go_enter Tryz.func42, Tryz.ntmps42
      go_wp2
      go_ret
      exact ⟨ret_b HR.out.symm, rfl⟩
    · have HR := Lib.hid (show mok m = false from decide_eq_false (by omega))
      go_enter Tryz.func42, Tryz.ntmps42
      go_wp2
      go_ret
      exact ⟨ret_b HR.out.symm, rfl⟩
  · have HR := Lib.hid (show mok m = false from decide_eq_false (by omega))
    go_enter Tryz.func42, Tryz.ntmps42
    go_wp2
    go_ret
    exact ⟨ret_b HR.out.symm, rfl⟩
theorem imsg_yes (w : World) (m : Int) (h : mok m = true) : Calls Tryz.prog 42 #[.int .i64 m] w fun e w' => e = .returned (.bool true) ∧ w = w' := h ▸ imsg w m
theorem imsg_no (w : World) (m : Int) (h : mok m = false) : Calls Tryz.prog 42 #[.int .i64 m] w fun e w' => e = .returned (.bool false) ∧ w = w' := h ▸ imsg w m

theorem ihash (w : World) (r pub msg : Int) :
    Calls Tryz.prog 111 #[.int .i64 r, .int .i64 pub, .int .i64 msg] w fun e w' => e = .returned (.int .i64 (hF r pub msg)) ∧ w.grownBy w' none := by
  have G := Lib.hid (Draw.grown_refl w none)
  go_enter Tryz.func111, Tryz.ntmps111
  rcases gokc r with h1 | h1
  case inr =>
    have HR := Lib.hid (hF_out (pub := pub) (msg := msg) (Or.inl h1))
    go_wp2_with fail
    refine (igok_no _ _ h1).mono ?_
    rintro e w1 ⟨rfl, hg⟩
    replace G := Lib.hid (gtr G.out hg)
    clear hg
    go_wp2
    go_ret
    exact ⟨ret_i HR.out.symm, G.out⟩
  rcases gokc pub with h2 | h2
  case inr =>
    have HR := Lib.hid (hF_out (r := r) (msg := msg) (Or.inr (Or.inl h2)))
    go_wp2_with fail
    refine (igok_yes _ _ h1).mono ?_
    rintro e w1 ⟨rfl, hg⟩
    replace G := Lib.hid (gtr G.out hg)
    clear hg
    go_wp2_with fail
    refine (igok_no _ _ h2).mono ?_
    rintro e w2 ⟨rfl, hg⟩
    replace G := Lib.hid (gtr G.out hg)
    clear hg
    go_wp2
    go_ret
    exact ⟨ret_i HR.out.symm, G.out⟩
  go_wp2_with fail
  refine (igok_yes _ _ h1).mono ?_
  rintro e w1 ⟨rfl, hg⟩
  replace G := Lib.hid (gtr G.out hg)
  clear hg
  go_wp2_with fail
  refine (igok_yes _ _ h2).mono ?_
  rintro e w2 ⟨rfl, hg⟩
  replace G := Lib.hid (gtr G.out hg)
  clear hg
  rcases mok_cases msg with h3 | h3
  case inr =>
    have HR := Lib.hid (hF_out (r := r) (pub := pub) (Or.inr (Or.inr h3)))
    go_wp2_with (go_at_call 42; refine (imsg_no _ _ h3).mono ?_; rintro e w' ⟨rfl, rfl⟩)
    go_ret
    exact ⟨ret_i HR.out.symm, G.out⟩
  have HR := Lib.hid (hF_in h1 h2 h3)
  obtain ⟨r0, r1⟩ := gok_range h1
  obtain ⟨p0, p1⟩ := gok_range h2
  obtain ⟨m0, m1⟩ := mok_iff.1 h3
  have hnn : 0 ≤ 5 * r + 7 * pub + 11 * msg + 3 := by omega
  go_wp2_with (go_at_call 42; refine (imsg_yes _ _ h3).mono ?_; rintro e w' ⟨rfl, rfl⟩)
  go_ret
  exact ⟨ret_i (by rw [HR.out]; first | rfl | exact Int.tmod_eq_emod_of_nonneg hnn), G.out⟩

/-- One who signs alone, as a signer. -/
def one1 (pub : Int) : Value := .iface 88 (.agg #[.int .i64 pub])
theorem sipub (w : World) (pub : Int) : Calls Tryz.prog 162 #[.agg #[.int .i64 pub]] w fun e w' => e = .returned (.int .i64 pub) ∧ w.grownBy w' none := by
  go_enter Tryz.func162, Tryz.ntmps162
  go_wp2
  go_ret
  exact ⟨rfl, Draw.grown_alloc _ _ _⟩
theorem sicom (w : World) (pub : Int) : Calls Tryz.prog 161 #[.agg #[.int .i64 pub]] w fun e w' => e = .returned (.int .i64 pub) ∧ w.grownBy w' none := by
  go_enter Tryz.func161, Tryz.ntmps161
  go_wp2
  go_ret
  exact ⟨rfl, Draw.grown_alloc _ _ _⟩
theorem as_sg (v : Value) (w : World) : (Instr.typeAssert (.iface 88 v) 123 81 true).run Tryz.prog w = .ok (.tuple #[.agg #[.int .i64 0, .int .i64 0, .slice none 0 0, .slice none 0 0, .slice none 0 0, .int .i64 0], .bool false]) w := by kernel_rfl
theorem as_gg (v : Value) (w : World) : (Instr.typeAssert (.iface 81 v) 123 81 true).run Tryz.prog w = .ok (.tuple #[v, .bool true]) w := by kernel_rfl
theorem sicoef (w : World) (pub : Int) : Calls Tryz.prog 110 #[one1 pub] w fun e w' => e = .returned (.int .i64 1) ∧ w = w' := by
  unfold one1
  have hA := as_sg (.agg #[.int .i64 pub])
  go_enter Tryz.func110, Tryz.ntmps110
  go_wp2
  go_ret
  exact ⟨rfl, rfl⟩
theorem siweight (w : World) (pub r msg : Int) : Calls Tryz.prog 87 #[one1 pub, .int .i64 r, .int .i64 msg] w fun e w' => e = .returned (.int .i64 (hF r pub msg)) ∧ w.grownBy w' none := by
  have HR := Lib.hid (one_mul (hF_ok r pub msg))
  have G := Lib.hid (Draw.grown_refl w none)
  go_enter Tryz.func87, Tryz.ntmps87
  go_wp2_with fail
  refine (sicoef _ pub).mono ?_
  rintro e w' ⟨rfl, rfl⟩
  unfold one1
  go_wp2_with fail
  refine (sipub _ pub).mono ?_
  rintro e w1 ⟨rfl, hg⟩
  replace G := Lib.hid (gtr G.out hg)
  clear hg
  go_wp2_with fail
  refine (ihash _ r pub msg).mono ?_
  rintro e w2 ⟨rfl, hg⟩
  replace G := Lib.hid (gtr G.out hg)
  clear hg
  go_wp2_with fail
  refine (imul 1 (hF r pub msg) _).mono ?_
  rintro e w' ⟨rfl, rfl⟩
  go_wp2
  go_ret
  exact ⟨ret_i HR.out, G.out⟩
theorem sifits (w : World) (pub sh r msg z : Int) : Calls Tryz.prog 58 #[one1 pub, .int .i64 sh, .int .i64 r, .int .i64 msg, .int .i64 z] w fun e w' => e = .returned (.bool (gofF z == gmulF sh (gpowF pub (hF r pub msg)))) ∧ w.grownBy w' none := by
  have G := Lib.hid (Draw.grown_refl w none)
  go_enter Tryz.func58, Tryz.ntmps58
  go_wp2_with fail
  refine (igof z _).mono ?_
  rintro e w1 ⟨rfl, hg⟩
  replace G := Lib.hid (gtr G.out hg)
  clear hg
  unfold one1
  go_wp2_with fail
  refine (sicom _ pub).mono ?_
  rintro e w2 ⟨rfl, hg⟩
  replace G := Lib.hid (gtr G.out hg)
  clear hg
  go_wp2_with fail
  refine (siweight _ pub r msg).mono ?_
  rintro e w3 ⟨rfl, hg⟩
  replace G := Lib.hid (gtr G.out hg)
  clear hg
  go_wp2_with fail
  refine (igpow pub (hF r pub msg) _).mono ?_
  rintro e w4 ⟨rfl, hg⟩
  replace G := Lib.hid (gtr G.out hg)
  clear hg
  go_wp2_with fail
  refine (igmul sh (gpowF pub (hF r pub msg)) _).mono ?_
  rintro e w5 ⟨rfl, hg⟩
  replace G := Lib.hid (gtr G.out hg)
  clear hg
  go_wp2
  go_ret
  exact ⟨rfl, G.out⟩
end Con
end Go.Proofs.YteibklnonlapoaaGreatDoor
