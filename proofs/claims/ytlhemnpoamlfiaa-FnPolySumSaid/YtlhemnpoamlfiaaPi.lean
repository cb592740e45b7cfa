/-
  The program's value and sum of polynomials, at every argument; the model's sum.
-/
import Derived.Test.YtlhemnpoamlfiaaPe
import Derived.Test.YtlhemnpoamlfiaaPf
namespace Go.Proofs.Ytlhemnpoamlfiaa
namespace Con
open Go.RowKit Alg Mem Pol
set_option linter.unusedVariables false

theorem ipat (w : World) (a : Option Addr) (len cap : Nat) (z : Nat → Int) (x : Int) (hI : Ints w a len z) (hl : len ≤ 2000000) :
    Calls Try.prog 18 #[.slice a len cap, .int .i64 x] w fun e w' => e = .returned (.int .i64 (patz len z x)) ∧ w.grownBy w' none := by
  have HI := Lib.hid hI; clear hI
  cases hp : pokz len z with
  | false =>
    have HR := Lib.hid (patz_out (x := x) (.inl hp))
    go_enter Try.func18, Try.ntmps18
    go_wp2_with (go_at_call 37; refine (ipok _ _ _ _ z HI.out (by omega)).mono ?_; rintro e w' ⟨rfl, rfl⟩)
    go_ret
    exact ⟨ret_iz HR.out.symm, Draw.grown_refl _ _⟩
  | true =>
    cases hx : fok x with
    | false =>
      have HR := Lib.hid (patz_out (len := len) (z := z) (.inr hx))
      go_enter Try.func18, Try.ntmps18
      go_wp2_with (first
        | (go_at_call 37; refine (ipok _ _ _ _ z HI.out (by omega)).mono ?_; rintro e w' ⟨rfl, rfl⟩)
        | (go_at_call 45; refine (iok_no _ _ (by assumption)).mono ?_; rintro e w' ⟨rfl, rfl⟩))
      go_ret
      exact ⟨ret_iz HR.out.symm, Draw.grown_refl _ _⟩
    | true =>
      have HR := Lib.hid (patz_in hp hx)
      have HZ := Lib.hid (pokz_iff.1 hp)
      have HX := Lib.hid hx
      obtain ⟨m, rfl⟩ : ∃ m, len = m + 1 := ⟨len - 1, by have := (pokz_iff.1 hp).1; omega⟩
      go_enter Try.func18, Try.ntmps18
      go_wp2_with fail
      refine (ipok _ _ _ _ z HI.out (by omega)).mono ?_
      rintro e w' ⟨rfl, rfl⟩
      go_wp2_with fail
      refine (iok_yes _ _ HX.out).mono ?_
      rintro e w' ⟨rfl, rfl⟩
      go_wp2_with fail
      refine (over _ _ _ _ z HI.out (by omega)).mono ?_
      rintro e w1 ⟨b, rfl, hr, hg⟩
      have HW := Lib.hid hr; have HG := Lib.hid hg; clear hr hg
      go_wp2_with fail
      refine (at_in _ _ m (m + 1) z x HW.out.ints (by have := HZ.out.2.1; omega) (Nat.le_refl _) (by unfold maxLen; omega) HZ.out.2.2 HX.out).mono ?_
      rintro e w2 ⟨rfl, hg2⟩
      have HG2 := Lib.hid hg2; clear hg2
      go_wp2
      go_ret
      exact ⟨ret_iz HR.out.symm, gtr HG.out HG2.out⟩

theorem sum_any (w : World) (a b : Option Addr) (la ca lb cb : Nat) (za zb : Nat → Int) (hA : Ints w a la za) (hB : Ints w b lb zb) (h1 : 1 ≤ la) (hl : la ≤ 2000000) (hl' : lb ≤ 2000000)
    (hza : ∀ j, j < la → fok (za j) = true) (hzb : ∀ j, j < lb → fok (zb j) = true) :
    Calls Try.prog 53 #[.slice a la ca, .slice b lb cb] w (Own1 46 w (max la lb) (zsum la za lb zb)) := by
  by_cases h : lb ≤ la
  · rw [Nat.max_eq_left h]; exact sum_in w a b la ca lb cb za zb hA hB h h1 hl hza hzb
  · rw [Nat.max_eq_right (by omega)]; exact sum_swap w a b la ca lb cb za zb hA hB (by omega) hl' hza hzb
theorem ipsum_no (w : World) (a b : Option Addr) (la ca lb cb : Nat) (za zb : Nat → Int) (hA : Ints w a la za) (hB : Ints w b lb zb) (hl : la ≤ 2000000) (hl' : lb ≤ 2000000) (h : pokz la za = false ∨ pokz lb zb = false) :
    Calls Try.prog 25 #[.slice a la ca, .slice b lb cb] w fun e w' => e = .returned (.slice none 0 0) ∧ w = w' := by
  have HA := Lib.hid hA; have HB := Lib.hid hB; clear hA hB
  cases hp : pokz la za with
  | false =>
    clear h
    go_enter Try.func25, Try.ntmps25
    go_wp2_with (go_at_call 37; refine (ipok _ _ _ _ za HA.out (by omega)).mono ?_; rintro e w' ⟨rfl, rfl⟩)
    go_ret
    exact ⟨rfl, rfl⟩
  | true =>
    have hq : pokz lb zb = false := by rcases h with h | h; rw [hp] at h; cases h; exact h
    clear h
    go_enter Try.func25, Try.ntmps25
    go_wp2_with fail
    refine (ipok _ _ _ _ za HA.out (by omega)).mono ?_
    rintro e w' ⟨rfl, rfl⟩
    go_wp2_with fail
    refine (ipok _ _ _ _ zb HB.out (by omega)).mono ?_
    rintro e w' ⟨rfl, rfl⟩
    go_wp2
    go_ret
    exact ⟨rfl, rfl⟩
theorem ipsum_yes (w : World) (a b : Option Addr) (la ca lb cb : Nat) (za zb : Nat → Int) (hA : Ints w a la za) (hB : Ints w b lb zb) (hp : pokz la za = true) (hq : pokz lb zb = true) :
    Calls Try.prog 25 #[.slice a la ca, .slice b lb cb] w (NewRow 3 w (max la lb) (zsum la za lb zb)) := by
  have HA := Lib.hid hA; have HB := Lib.hid hB; clear hA hB
  obtain ⟨p1, p5, pz⟩ := pokz_iff.1 hp
  obtain ⟨q1, q5, qz⟩ := pokz_iff.1 hq
  have HP := Lib.hid pz; have HQ := Lib.hid qz; clear pz qz
  go_enter Try.func25, Try.ntmps25
  go_wp2_with fail
  refine (ipok _ _ _ _ za HA.out (by omega)).mono ?_
  rintro e w' ⟨rfl, rfl⟩
  go_wp2_with fail
  refine (ipok _ _ _ _ zb HB.out (by omega)).mono ?_
  rintro e w' ⟨rfl, rfl⟩
  go_wp2_with fail
  refine (over _ _ _ _ za HA.out (by omega)).mono ?_
  rintro e w1 ⟨b1, rfl, hr, hg⟩
  have HR1 := Lib.hid hr; have HG1 := Lib.hid hg; clear hr hg
  go_wp2_with fail
  refine (over _ _ _ _ zb (HB.out.kept HG1.out) (by omega)).mono ?_
  rintro e w2 ⟨b2, rfl, hr, hg⟩
  have HR2 := Lib.hid hr; have HG2 := Lib.hid hg; clear hr hg
  go_wp2_with fail
  refine (sum_any _ _ _ _ _ _ _ za zb (HR1.out.ints.kept HG2.out) HR2.out.ints (by omega) (by omega) (by omega) HP.out HQ.out).mono ?_
  rintro e w3 ⟨b3, c3, rfl, hr, hg⟩
  have HR3 := Lib.hid hr; have HG3 := Lib.hid hg; clear hr hg
  have hmx : max la lb ≤ 5 := by omega
  generalize max la lb = m at *
  go_wp2_with fail
  refine (conv_ei _ _ _ _ (zsum la za lb zb) HR3.out.ints (by omega)).mono ?_
  rintro e w4 ⟨b4, rfl, hr, hg⟩
  have HR4 := Lib.hid hr; have HG4 := Lib.hid hg; clear hr hg
  go_wp2
  go_ret
  exact ⟨_, rfl, HR4.out.lower (gtr (gtr HG1.out HG2.out) HG3.out).size, gtr (gtr (gtr HG1.out HG2.out) HG3.out) HG4.out⟩

theorem spsum_no (w : World) (a b : Option Addr) (la ca lb cb : Nat) (za zb : Nat → Int) (hA : Ints w a la za) (hB : Ints w b lb zb) (hl : la ≤ 2000000) (hl' : lb ≤ 2000000) (h : pokz la za = false ∨ pokz lb zb = false) :
    Calls Try.prog 27 #[.slice a la ca, .slice b lb cb] w fun e w' => e = .returned (.slice (some ⟨w.heap.size, 0, none⟩) 0 0) ∧ w.grownBy w' none := by
  have HA := Lib.hid hA; have HB := Lib.hid hB; clear hA hB
  cases hp : pokz la za with
  | false =>
    clear h
    go_enter Try.func27, Try.ntmps27
    go_wp2_with (go_at_call 20; refine (spok _ _ _ _ za (HA.out.kept (Draw.grown_alloc _ _ _)) (by omega)).mono ?_; rintro e w' ⟨rfl, rfl⟩)
    go_ret
    exact ⟨rfl, Draw.grown_alloc _ _ _⟩
  | true =>
    have hq : pokz lb zb = false := by rcases h with h | h; rw [hp] at h; cases h; exact h
    clear h
    go_enter Try.func27, Try.ntmps27
    go_wp2_with fail
    refine (spok _ _ _ _ za (HA.out.kept (Draw.grown_alloc _ _ _)) (by omega)).mono ?_
    rintro e w' ⟨rfl, rfl⟩
    go_wp2_with fail
    refine (spok _ _ _ _ zb (HB.out.kept (Draw.grown_alloc _ _ _)) (by omega)).mono ?_
    rintro e w' ⟨rfl, rfl⟩
    go_wp2
    go_ret
    exact ⟨rfl, Draw.grown_alloc _ _ _⟩
end Con
end Go.Proofs.Ytlhemnpoamlfiaa
