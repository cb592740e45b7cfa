/-
  What is shown at a place, and whether a number fits what is shown: the program's and the model's functions, at every argument.
-/
import Derived.Test.YtkklhlffbfgolaaDoorCb
import Derived.Test.YtkklhlffbfgolaaDoorPc
namespace Go.Proofs.YtkklhlffbfgolaaDoor
namespace Con
open Go.RowKit Alg Mem Pol
set_option linter.unusedVariables false

theorem info_com : (Tryd.prog.info? 57).map (fun i => (i.zero, i.size, i.bytes)) = some (some (.int .i64 0), 1, 8) := by kernel_rfl
theorem und_coms : Tryd.prog.underlying 58 = some (.slice 57) := by kernel_rfl
theorem conv_ic (w : World) (a : Option Addr) (len cap : Nat) (z : Nat → Int) (hI : Ints w a len z) (hl : len ≤ 2000000) :
    Calls Tryd.prog 58 #[.slice a len cap] w (NewRow 57 w len z) := by
  have hmk := run_make_row' (P := Tryd.prog) 58 57 (.int .i64 0) 8 und_coms info_com rfl .i64 .i64 len (by omega) (by omega)
  go_enter Tryd.func58, Tryd.ntmps58
  go_wp2
  go_loopw [11] (fun i wr => ∃ k : Nat, k ≤ len ∧ i = .int .i64 k ∧ Row wr w.heap.size 57 w.heap.size len len (fun j => if j < k then z j else 0) ∧ w.grownBy wr none) (fun i _ => len - (intOf i).toNat)
  case atStart => exact ⟨0, by omega, rfl, first_row w _ _ (by unfold maxLen; omega) z, Draw.grown_alloc _ _ _⟩
  case round =>
    clear hmk
    obtain ⟨k, hk, rfl, hr, hg⟩ := hrel
    have HG := Lib.hid hg; clear hg
    by_cases hlt : k < len
    · rcases hI.kept HG.out with h | ⟨b, off, rfl, hb, hc⟩
      · omega
      have hcx := hc k hlt
      have c0 := zero_row hr hlt
      have f0 := hr.frozen k
      have HR := Lib.hid (step_row hr)
      clear hc hr hI
      go_wp2
      go_roundw
      case rel => exact ⟨k + 1, by omega, by go_num, HR.out, grown_new HG.out (Nat.le_refl _) (grown_set _ _ _ _)⟩
      case measure => simp [intOf]; omega
    · obtain rfl : k = len := by omega
      have HR := Lib.hid (full_row hr)
      clear hI hr
      go_wp2
      go_ret
      exact ⟨_, rfl, HR.out, HG.out⟩
theorem inexp (w : World) (a : Option Addr) (len cap : Nat) (z : Nat → Int) (hI : Ints w a len z) (hl : len ≤ 2000000) :
    Calls Tryd.prog 33 #[.slice a len cap] w (NewRow 57 w len z) := by
  have HI := Lib.hid hI; clear hI
  go_enter Tryd.func33, Tryd.ntmps33
  go_wp2_with fail
  refine (conv_ic _ _ _ _ z HI.out (by omega)).mono ?_
  rintro e w' ⟨b, rfl, hr, hg⟩
  have HR := Lib.hid hr; have HG := Lib.hid hg; clear hr hg
  go_wp2
  go_ret
  exact ⟨_, rfl, HR.out, HG.out⟩

/-- What is shown at a place. -/
def catz (len : Nat) (z : Nat → Int) (x : Int) : Int := if cokz len z = true ∧ fok x = true then gofF (fi (ev (fl (lz z) len) (cv x))) else 0
theorem catz_in {len : Nat} {z : Nat → Int} {x : Int} (hp : cokz len z = true) (hx : fok x = true) : catz len z x = gofF (fi (ev (fl (lz z) len) (cv x))) := by unfold catz; rw [if_pos ⟨hp, hx⟩]
theorem catz_out {len : Nat} {z : Nat → Int} {x : Int} (h : cokz len z = false ∨ fok x = false) : catz len z x = 0 := by
  unfold catz; rcases h with h | h <;> simp [h]
theorem icat (w : World) (a : Option Addr) (len cap : Nat) (z : Nat → Int) (x : Int) (hI : Ints w a len z) (hl : len ≤ 2000000) :
    Calls Tryd.prog 9 #[.slice a len cap, .int .i64 x] w fun e w' => e = .returned (.int .i64 (catz len z x)) ∧ w.grownBy w' none := by
  have HI := Lib.hid hI; clear hI
  cases hp : cokz len z with
  | false =>
    have HR := Lib.hid (catz_out (x := x) (.inl hp))
    go_enter Tryd.func9, Tryd.ntmps9
    go_wp2_with fail
    refine (icok _ _ _ _ z HI.out (by omega)).mono ?_
    rintro e w1 ⟨rfl, hg⟩
    rw [hp]
    go_wp2
    go_ret
    exact ⟨ret_iz HR.out.symm, hg⟩
  | true =>
    cases hx : fok x with
    | false =>
      have HR := Lib.hid (catz_out (len := len) (z := z) (.inr hx))
      have HX := Lib.hid hx
      go_enter Tryd.func9, Tryd.ntmps9
      go_wp2_with fail
      refine (icok _ _ _ _ z HI.out (by omega)).mono ?_
      rintro e w1 ⟨rfl, hg⟩
      rw [hp]
      go_wp2_with (go_at_call 32; refine (iok_no _ _ HX.out).mono ?_; rintro e w' ⟨rfl, rfl⟩)
      go_ret
      exact ⟨ret_iz HR.out.symm, hg⟩
    | true =>
      have HR := Lib.hid (catz_in hp hx)
      have HZ := Lib.hid (cokz_iff.1 hp)
      have HX := Lib.hid hx
      obtain ⟨m, rfl⟩ : ∃ m, len = m + 1 := ⟨len - 1, by have := (cokz_iff.1 hp).1; omega⟩
      go_enter Tryd.func9, Tryd.ntmps9
      go_wp2_with fail
      refine (icok _ _ _ _ z HI.out (by omega)).mono ?_
      rintro e w0 ⟨rfl, hg0⟩
      rw [hp]
      have HG0 := Lib.hid hg0; clear hg0
      go_wp2_with fail
      refine (iok_yes _ _ HX.out).mono ?_
      rintro e w' ⟨rfl, rfl⟩
      go_wp2_with fail
      refine (inexp _ _ _ _ z (HI.out.kept HG0.out) (by omega)).mono ?_
      rintro e w1 ⟨b, rfl, hr, hg⟩
      have HW := Lib.hid hr; have HG := Lib.hid (gtr HG0.out hg); clear hr hg
      go_wp2_with fail
      refine (cat_in _ _ m (m + 1) z x HW.out.ints (by have := HZ.out.2.1; omega) (Nat.le_refl _) (by unfold maxLen; omega) HZ.out.2.2 HX.out).mono ?_
      rintro e w2 ⟨rfl, hg2⟩
      have HG2 := Lib.hid hg2; clear hg2
      go_wp2
      go_ret
      exact ⟨ret_iz HR.out.symm, gtr HG.out HG2.out⟩
/-- Does a number fit what is shown, at a place? -/
def cfz (len : Nat) (z : Nat → Int) (x n : Int) : Bool := cokz len z && (fok x && (fok n && (gofF n == catz len z x)))
theorem cfz_in {len : Nat} {z : Nat → Int} {x n : Int} (hp : cokz len z = true) (hx : fok x = true) (hn : fok n = true) : cfz len z x n = (gofF n == catz len z x) := by simp [cfz, hp, hx, hn]
theorem cfz_out {len : Nat} {z : Nat → Int} {x n : Int} (h : cokz len z = false ∨ fok x = false ∨ fok n = false) : cfz len z x n = false := by
  unfold cfz; rcases h with h | h | h <;> simp [h]
end Con
end Go.Proofs.YtkklhlffbfgolaaDoor
