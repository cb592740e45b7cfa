/-
  The walk of the law on the factors of places: the values of a polynomial, each times its factor.
-/
import Derived.Test.YtlhemnpoamlfiaaRunPk
import Derived.Test.YtlhemnpoamlfiaaRunPa
import Derived.Test.YtlhemnpoamlfiaaRunPl
import Derived.Deep.RegionWith
namespace Go.Proofs.Ytlhemnpoamlfiaa
namespace Run
open Go.RowKit Alg Mem Con
set_option linter.unusedVariables false

theorem line_value {n : Nat} {z zp : Nat → Int} {x : Int} (hp : plok n z = true) (hn : 1 ≤ n) : psum (fun j => Pol.lag (fl z n) j (Pol.cv x) * Pol.ev (fl zp n) (Pol.cv (z j))) n = Pol.ev (fl zp n) (Pol.cv x) := by
  have h := Pol.interp (fl z n) (fl zp n) (Pol.cv x) (fl_nodup hp) (fl_ne hn) (by rw [fl_length, fl_length]; exact Nat.le_refl _)
  rw [line_range] at h
  rw [← h]
  exact (acc_psum (Pol.ev (fl zp n)) (fun i => Pol.lag (fl z n) i (Pol.cv x)) (fun j => Pol.cv (z j)) n).symm
theorem ints_drew' {w : World} {a : Option Addr} {len : Nat} {z : Nat → Int} (h : Ints w a len z) : Ints w.drew a len z := h.keptB (fun _ _ => rfl) (Nat.le_refl _)

set_option maxHeartbeats 8000000 in
theorem FnLine (a : Option Addr) (len cap : Nat) (a1 : Option Addr) (len1 cap1 : Nat) (w : World) (hB : Draw.Bytes w w.heap.size a len) (hc : len ≤ cap) (hm : cap ≤ maxLen) (hc1 : len1 ≤ cap1) (hm1 : cap1 ≤ maxLen) :
    Calls Try.prog 5 #[.slice a len cap, .slice a1 len1 cap1] w (Yes w) := by
  by_cases hbig : 1048576 < len
  · have hbig' : (1048576 : Int) < (len : Int) := by omega
    clear hB
    go_enter Try.func5, Try.ntmps5
    go_wp2
    go_ret
    exact ⟨rfl, Below.refl _ _⟩
  have hbig' : ¬ (1048576 : Int) < (len : Int) := by omega
  by_cases hbih : 1048576 < len1
  · have hbih' : (1048576 : Int) < (len1 : Int) := by omega
    clear hB
    go_enter Try.func5, Try.ntmps5
    go_wp2
    go_ret
    exact ⟨rfl, Below.refl _ _⟩
  have hbih' : ¬ (1048576 : Int) < (len1 : Int) := by omega
  go_enter Try.func5, Try.ntmps5
  go_wp2_with fail
  refine (Draw.drawLine _ a len cap hB hc hm).mono ?_
  rintro e w1 ⟨b, n, c, z, x, rfl, l5, lc, lm, hA, hg⟩
  have HA := Lib.hid hA; have G1 := Lib.hid hg; clear hA hg hB
  by_cases hyes : plok n z = true ∧ fok x = true
  case neg =>
    have HP := Lib.hid (show plok n z = false ∨ fok x = false by
      cases h1 : plok n z <;> cases h2 : fok x <;> simp_all)
    clear hyes
    go_wp2_with fail
    refine (ipline_no _ _ _ _ z x HA.out (by omega) lc lm HP.out).mono ?_
    rintro e w' ⟨rfl, rfl⟩
    go_wp2_with fail
    refine (spline_no _ _ _ _ z x HA.out (by omega) HP.out).mono ?_
    rintro e w2 ⟨⟨b2, rfl⟩, hg⟩
    have G2 := Lib.hid hg; clear hg
    go_wp2_with fail
    refine (lpints _ _ _ 0 _ _ z (.inl rfl) (.inl rfl) (by omega)).mono ?_
    rintro e w3 ⟨rfl, hg⟩
    have G3 := Lib.hid hg; clear hg
    go_wp2_with fail
    refine (spline_no _ _ _ _ z x (HA.out.kept (gtr G2.out G3.out)) (by omega) HP.out).mono ?_
    rintro e w4 ⟨⟨b4, rfl⟩, hg⟩
    have G4 := Lib.hid hg; clear hg
    go_wp2_with fail
    refine (lpints _ _ _ 0 _ _ z (.inl rfl) (.inl rfl) (by omega)).mono ?_
    rintro e w5 ⟨rfl, hg⟩
    have G5 := Lib.hid hg; clear hg
    go_wp2
    go_ret
    exact ⟨rfl, Draw.below_of (gtr G1.out (gtr (gtr (gtr G2.out G3.out) G4.out) G5.out))⟩
  have HP := Lib.hid hyes.1; have HX := Lib.hid hyes.2; clear hyes
  obtain ⟨ZL, hZL⟩ : ∃ ZL, ZL = zline n z x := ⟨_, rfl⟩
  have HZL := Lib.hid hZL; clear hZL
  go_wp2_with fail
  refine (ipline_yes _ _ _ _ z x HA.out lc lm HP.out HX.out).mono ?_
  rintro e w2 ⟨s, rfl, hr, hg⟩
  rw [← HZL.out] at hr
  have HS := Lib.hid hr; have G2 := Lib.hid hg; clear hr hg
  go_wp2_with fail
  refine (spline_yes _ _ _ _ z x (HA.out.kept G2.out) HP.out HX.out).mono ?_
  rintro e w3 ⟨t, ct, rfl, hr, hg⟩
  rw [← HZL.out] at hr
  have HT := Lib.hid hr; have G3 := Lib.hid hg; clear hr hg
  go_wp2_with fail
  refine (lpints _ _ _ n _ _ ZL (HS.out.ints.kept G3.out) HT.out.ints (by omega)).mono ?_
  rintro e w4 ⟨rfl, hg⟩
  have G4 := Lib.hid hg; clear hg
  have G14 := Lib.hid (gtr (gtr G2.out G3.out) G4.out)
  by_cases hn : n = 0
  · subst hn
    go_wp2_with fail
    refine (spline_yes _ _ _ _ z x (HA.out.kept G14.out) HP.out HX.out).mono ?_
    rintro e w5 ⟨t5, ct5, rfl, hr, hg⟩
    have G5 := Lib.hid hg; clear hr hg
    go_wp2_with fail
    refine (lpints _ _ _ 0 _ _ z (.inl rfl) (.inl rfl) (by omega)).mono ?_
    rintro e w6 ⟨rfl, hg⟩
    have G6 := Lib.hid hg; clear hg
    go_wp2
    go_ret
    exact ⟨rfl, Draw.below_of (gtr G1.out (gtr (gtr G14.out G5.out) G6.out))⟩
  have hn1 : 1 ≤ n := by omega
  have hn0 : ((n : Int) == 0) = false := by simp; omega
  clear hn
  have HA4 := Lib.hid (HA.out.kept G14.out)
  have HS4 := Lib.hid (HS.out.ints.kept (gtr G3.out G4.out))
  go_wp2_with fail
  refine (lpPoly_any len1 n _ (by omega) (by omega)).mono ?_
  rintro e w5 ⟨v, cv, zp, rfl, hzp, hr, hg⟩
  have HV := Lib.hid hr.ints; have G5 := Lib.hid hg
  have HPZ := Lib.hid (pokz_iff.2 ⟨hn1, l5, hzp⟩)
  clear hr hg hzp
  have HA5 := Lib.hid (HA4.out.kept G5.out)
  have HS5 := Lib.hid (HS4.out.kept G5.out)
  go_wp2
  go_loopw [9, 10] (fun q i wr => ∃ m : Nat, m ≤ n ∧ i = .int .i64 m ∧ q = .int .i64 (Pol.fi (psum (fun j => Pol.lag (fl z n) j (Pol.cv x) * Pol.ev (fl zp n) (Pol.cv (z j))) m)) ∧ w5.grownBy wr none) (fun _ i _ => n - (intOf i).toNat)
  case atStart => exact ⟨0, by omega, rfl, rfl, Draw.grown_refl _ _⟩
  case round =>
    obtain ⟨m, hm, rfl, rfl, hg⟩ := hrel
    have HG := Lib.hid hg; clear hg
    by_cases hlm : m < n
    · obtain ⟨b0, o0, hbo, hb0, hcs⟩ := HA5.out.ptr hn1
      cases hbo
      obtain ⟨b1, o1, hbo, hb1, hcl⟩ := HS5.out.ptr hn1
      cases hbo
      have hcx : wr.cell? ⟨b, m, none⟩ = some (.int .i64 (z m)) := by
        have := hcs m hlm; rw [Nat.zero_add] at this
        rw [World.cell?_of_block (w := w5) (HG.out.block b hb0 (by simp))]; exact this
      have hcy : wr.cell? ⟨s, m, none⟩ = some (.int .i64 (ZL m)) := by
        have := hcl m hlm; rw [Nat.zero_add] at this
        rw [World.cell?_of_block (w := w5) (HG.out.block s hb1 (by simp))]; exact this
      have hsr : s < wr.heap.size := Nat.lt_of_lt_of_le hb1 HG.out.size
      clear hcs hcl
      have HE := Lib.hid (show sumF (Pol.fi (psum (fun j => Pol.lag (fl z n) j (Pol.cv x) * Pol.ev (fl zp n) (Pol.cv (z j))) m)) (mulF (ZL m) (patz n zp (z m))) = Pol.fi (psum (fun j => Pol.lag (fl z n) j (Pol.cv x) * Pol.ev (fl zp n) (Pol.cv (z j))) (m + 1)) by
        rw [patz_in HPZ.out ((plok_iff.1 HP.out).2 m hlm).1, HZL.out]
        rw [show zline n z x m = Pol.fi (Pol.lag (fl z n) m (Pol.cv x)) from rfl, Pol.fi_mul, Pol.fi_sum]; rfl)
      generalize hS : Pol.fi (psum (fun j => Pol.lag (fl z n) j (Pol.cv x) * Pol.ev (fl zp n) (Pol.cv (z j))) m) = SM at *
      clear hS
      have HI := Lib.hid (ints_drew' (HV.out.kept HG.out))
      go_wp2_with fail
      go_region_with (first
        | (go_at_call 18; refine (ipat _ _ _ _ zp (z m) HI.out (by omega)).mono ?_; rintro e w6 ⟨rfl, hg⟩; have hc6 : w6.cell? ⟨s, m, none⟩ = some (.int .i64 (ZL m)) := (by rw [World.cell?_of_block (w := wr) (hg.block s hsr (by simp))]; exact hcy); have HG6 := Lib.hid (gtr HG.out ⟨hg.os, hg.tape, hg.output, hg.size, hg.block⟩); clear hg)
        | (go_at_call 23; refine (imul _ _ _).mono ?_; rintro e w' ⟨rfl, rfl⟩)
        | (go_at_call 22; refine (isum _ _ _).mono ?_; rintro e w' ⟨rfl, rfl⟩))
      all_goals
        go_wp2
        go_roundw
        case rel => exact ⟨m + 1, by omega, by go_num, by rw [HE.out], HG6.out⟩
        case measure => simp [intOf]; omega
    · obtain rfl : m = n := by omega
      have hs := beq_t (show Pol.fi (psum (fun j => Pol.lag (fl z m) j (Pol.cv x) * Pol.ev (fl zp m) (Pol.cv (z j))) m) = patz m zp x by rw [line_value HP.out hn1, patz_in HPZ.out HX.out])
      go_wp2_with fail
      refine (ipat _ _ _ _ zp x (HV.out.kept HG.out) (by omega)).mono ?_
      rintro e w7 ⟨rfl, hg⟩
      have G7 := Lib.hid hg; clear hg
      go_wp2
      go_ret
      exact ⟨rfl, Draw.below_of (gtr G1.out (gtr (gtr (gtr G14.out G5.out) HG.out) G7.out))⟩
end Run
end Go.Proofs.Ytlhemnpoamlfiaa
