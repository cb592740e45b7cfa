/-
  The walk of the law on a key's shares.
-/
import Derived.Test.YtkklhlffbfgolaaQk
import Derived.Test.YtkklhlffbfgolaaRunKit
namespace Go.Proofs.Ytkklhlffbfgolaa
namespace Run
open Go.RowKit Alg Mem Con Mp
set_option linter.unusedVariables false

/-- How many of the first k are e. -/
def cnt1 (e : Int) (k : Nat) : Int := if e < (k : Int) then 1 else 0
theorem cnt1_yes {e : Int} {k : Nat} (h : (k : Int) = e) : cnt1 e (k + 1) = cnt1 e k + 1 := by
  unfold cnt1; rw [if_pos (by omega), if_neg (by omega)]; rfl
theorem cnt1_no {e : Int} {k : Nat} (h : ¬ (k : Int) = e) : cnt1 e (k + 1) = cnt1 e k := by
  unfold cnt1
  by_cases hl : e < (k : Int)
  · rw [if_pos (by omega), if_pos hl]
  · rw [if_neg (by omega), if_neg hl]
theorem cnt1_range {e : Int} {k : Nat} : 0 ≤ cnt1 e k ∧ cnt1 e k ≤ 1 := by unfold cnt1; split <;> omega
/-- The one share that is a member's. -/
theorem kfit_one {need many : Int} {ng : Nat} {zg : Nat → Int} {nc : Nat} {zc : Nat → Int} {m : Int} (h : kyF need many ng zg nc zc = true) (hm : mbF many m = true) (h5 : many ≤ 5) : ∃ e : Int, 0 ≤ e ∧ e < 23 ∧ ∀ i : Nat, i < 23 → kfit need many ng zg nc zc m i = decide ((i : Int) = e) := by
  obtain ⟨_, _, hc, _, _⟩ := ky_iff.1 h
  obtain ⟨m1, m2⟩ := mb_iff.1 hm
  have hx : fok m = true := fok_iff.2 (by omega)
  have hf : fok (Pol.fi (Pol.ev (fl (lz zc) nc) (Pol.cv m))) = true := Pol.fi_ok _
  obtain ⟨f0, f1⟩ := fok_iff.1 hf
  refine ⟨_, f0, f1, fun i hi => ?_⟩
  have hi' : fok (i : Int) = true := fok_iff.2 (by omega)
  rw [kfit_y h hm, cfz_in hc hx hi', catz_in hc hx]
  apply Bool.eq_iff_iff.2
  simp only [beq_iff_eq, decide_eq_true_eq]
  exact gof_same hi' hf
set_option maxRecDepth 100000 in
set_option maxHeartbeats 1000000 in
theorem FnKeyFits (a : Option Addr) (len cap : Nat) (w : World) (hB : Draw.Bytes w w.heap.size a len) (hc : len ≤ cap) (hm : cap ≤ maxLen) :
    Calls Try.prog 3 #[.slice a len cap] w (Yes w) := by
  by_cases hbig : 1048576 < len
  · have hbig' : (1048576 : Int) < (len : Int) := by omega
    clear hB
    go_enter Try.func3, Try.ntmps3
    go_wp2
    go_ret
    exact ⟨rfl, Below.refl _ _⟩
  have hbig' : ¬ (1048576 : Int) < (len : Int) := by omega
  go_enter Try.func3, Try.ntmps3
  go_wp2_with fail
  refine (Draw.drawKF _ a len cap hB hc hm).mono ?_
  rintro e w1 ⟨need, many, ag, ng, cg, zg, ac, nc, cc, zc, m, s, rfl, hk, hg⟩
  have hng := hk.g6; have hnc := hk.c5
  have HA := Lib.hid hk.ig; have HC := Lib.hid hk.ic; have G1 := Lib.hid hg; clear hk hg hB
  have g0 := Draw.grown_alloc w1 (.cells #[.int .i64 need, .int .i64 many, .slice ag ng cg, .slice ac nc cc] 25) none
  have HA1 := Lib.hid (HA.out.kept g0); have HC1 := Lib.hid (HC.out.kept g0); have G2 := Lib.hid (gtr G1.out g0)
  have HK1 := Lib.hid (Ky.new w1 need many (.slice ag ng cg) (.slice ac nc cc) 25)
  clear g0 HA HC
  go_wp2_with fail
  refine (ikeyfits _ need many _ _ _ zg _ _ _ zc m s HA1.out HC1.out (by omega) (by omega)).mono ?_
  rintro e w2 ⟨rfl, hg⟩
  have HA2 := Lib.hid (HA1.out.kept hg); have HC2 := Lib.hid (HC1.out.kept hg); have HK2 := Lib.hid (HK1.out.kept hg); have G3 := Lib.hid (gtr G2.out hg); clear hg
  obtain ⟨_, k0, k1, k2, k3⟩ := HK2.out
  go_wp2_with fail
  refine (skeyfits _ need many _ _ _ zg _ _ _ zc m s HA2.out HC2.out (by omega) (by omega)).mono ?_
  rintro e w3 ⟨rfl, hg⟩
  have HA3 := Lib.hid (HA2.out.kept hg); have HC3 := Lib.hid (HC2.out.kept hg); have HK3 := Lib.hid (HK2.out.kept hg); have G4 := Lib.hid (gtr G3.out hg); clear hg k0 k1 k2 k3
  obtain ⟨_, k0, k1, k2, k3⟩ := HK3.out
  have hself : (kfit need many ng zg nc zc m s != kfit need many ng zg nc zc m s) = false := by simp
  have hself2 : (kfit need many ng zg nc zc m s == kfit need many ng zg nc zc m s) = true := by simp
  cases hk : kyF need many ng zg nc zc with
  | false =>
    go_wp2_with fail
    refine (skeyok _ need many _ _ _ zg _ _ _ zc HA3.out HC3.out (by omega) (by omega)).mono ?_
    rintro e w4 ⟨rfl, hg⟩
    rw [hk]
    have HA4 := Lib.hid (HA3.out.kept hg); have HC4 := Lib.hid (HC3.out.kept hg); have HK4 := Lib.hid (HK3.out.kept hg); have G5 := Lib.hid (gtr G4.out hg); clear hg k0 k1 k2 k3
    obtain ⟨_, k0, k1, k2, k3⟩ := HK4.out
    go_wp2_with fail
    refine (skeyfits _ need many _ _ _ zg _ _ _ zc m s HA4.out HC4.out (by omega) (by omega)).mono ?_
    rintro e w5 ⟨rfl, hg⟩
    have G6 := Lib.hid (gtr G5.out hg); clear hg
    go_wp2
    go_ret
    exact ⟨rfl, Draw.below_of G6.out⟩
  | true =>
    by_cases hlo : m < 1
    · go_wp2_with fail
      refine (skeyok _ need many _ _ _ zg _ _ _ zc HA3.out HC3.out (by omega) (by omega)).mono ?_
      rintro e w4 ⟨rfl, hg⟩
      rw [hk]
      have HA4 := Lib.hid (HA3.out.kept hg); have HC4 := Lib.hid (HC3.out.kept hg); have HK4 := Lib.hid (HK3.out.kept hg); have G5 := Lib.hid (gtr G4.out hg); clear hg k0 k1 k2 k3
      obtain ⟨_, k0, k1, k2, k3⟩ := HK4.out
      go_wp2_with fail
      refine (skeyfits _ need many _ _ _ zg _ _ _ zc m s HA4.out HC4.out (by omega) (by omega)).mono ?_
      rintro e w5 ⟨rfl, hg⟩
      have G6 := Lib.hid (gtr G5.out hg); clear hg
      go_wp2
      go_ret
      exact ⟨rfl, Draw.below_of G6.out⟩
    by_cases hhi : (many : Int) < m
    · go_wp2_with fail
      refine (skeyok _ need many _ _ _ zg _ _ _ zc HA3.out HC3.out (by omega) (by omega)).mono ?_
      rintro e w4 ⟨rfl, hg⟩
      rw [hk]
      have HA4 := Lib.hid (HA3.out.kept hg); have HC4 := Lib.hid (HC3.out.kept hg); have HK4 := Lib.hid (HK3.out.kept hg); have G5 := Lib.hid (gtr G4.out hg); clear hg k0 k1 k2 k3
      obtain ⟨_, k0, k1, k2, k3⟩ := HK4.out
      go_wp2_with fail
      refine (skeyfits _ need many _ _ _ zg _ _ _ zc m s HA4.out HC4.out (by omega) (by omega)).mono ?_
      rintro e w5 ⟨rfl, hg⟩
      have G6 := Lib.hid (gtr G5.out hg); clear hg
      go_wp2
      go_ret
      exact ⟨rfl, Draw.below_of G6.out⟩
    have hmb : mbF many m = true := mb_iff.2 (by omega)
    obtain ⟨⟨_, _, hm5⟩, _, _, _, _⟩ := ky_iff.1 hk
    obtain ⟨v, v0, v1, hv⟩ := kfit_one hk hmb hm5
    have HV := Lib.hid hv; have HKY := Lib.hid hk; have HMB := Lib.hid hmb
    clear hv hmb
    go_wp2_with fail
    refine (skeyok _ need many _ _ _ zg _ _ _ zc HA3.out HC3.out (by omega) (by omega)).mono ?_
    rintro e w4 ⟨rfl, hg⟩
    rw [hk]
    have HA4 := Lib.hid (HA3.out.kept hg); have HC4 := Lib.hid (HC3.out.kept hg); have HK4 := Lib.hid (HK3.out.kept hg); have G5 := Lib.hid (gtr G4.out hg); clear hg k0 k1 k2 k3 hk
    obtain ⟨_, k0, k1, k2, k3⟩ := HK4.out
    go_wp2
    clear k0 k1 k2 k3
    go_loopw [7, 8] (fun n i W => ∃ k : Nat, k ≤ 23 ∧ n = .int .i64 (cnt1 v k) ∧ i = .int .i64 k ∧ w4.grownBy W none) (fun _ i _ => 23 - (intOf i).toNat)
    case atStart => exact ⟨0, by omega, by unfold cnt1; rw [if_neg (by omega)], rfl, Draw.grown_refl _ _⟩
    case round =>
      obtain ⟨k, hk, rfl, rfl, hg⟩ := hrel
      obtain ⟨W1, hW⟩ : ∃ W, W = wr := ⟨_, rfl⟩; subst hW
      have HG := Lib.hid hg; clear hg
      obtain ⟨_, k0, k1, k2, k3⟩ := HK4.out.kept HG.out
      obtain ⟨c0, c1⟩ := cnt1_range (e := v) (k := k)
      by_cases hlt : k < 23
      · have hlt' : (k : Int) < 23 := by omega
        by_cases he : (k : Int) = v
        · have HE := Lib.hid (cnt1_yes he)
          have HF := Lib.hid (show kfit need many ng zg nc zc m k = true by rw [HV.out k hlt]; exact decide_eq_true he)
          clear he
          go_wp2_with fail
          refine (ikeyfits _ need many _ _ _ zg _ _ _ zc m k (HA4.out.kept HG.out) (HC4.out.kept HG.out) (by omega) (by omega)).mono ?_
          rintro e w5 ⟨rfl, hg⟩
          rw [HF.out]
          have HG5 := Lib.hid (gtr HG.out hg); clear hg
          go_wp2
          go_roundw
          case rel => exact ⟨k + 1, by omega, by rw [HE.out]; try go_num, by go_num, HG5.out⟩
          case measure => simp [intOf]; omega
        · have HE := Lib.hid (cnt1_no he)
          have HF := Lib.hid (show kfit need many ng zg nc zc m k = false by rw [HV.out k hlt]; exact decide_eq_false he)
          clear he
          go_wp2_with fail
          refine (ikeyfits _ need many _ _ _ zg _ _ _ zc m k (HA4.out.kept HG.out) (HC4.out.kept HG.out) (by omega) (by omega)).mono ?_
          rintro e w5 ⟨rfl, hg⟩
          rw [HF.out]
          have HG5 := Lib.hid (gtr HG.out hg); clear hg
          go_wp2
          go_roundw
          case rel => exact ⟨k + 1, by omega, by rw [HE.out], by go_num, HG5.out⟩
          case measure => simp [intOf]; omega
      · obtain rfl : k = 23 := by omega
        have h23 : ¬ ((23 : Nat) : Int) < 23 := by omega
        have hone : cnt1 v 23 = 1 := by unfold cnt1; rw [if_pos (by omega)]
        have HX := Lib.hid (kfit_y (s := s) HKY.out HMB.out)
        rw [hone]
        have heq : (kfit need many ng zg nc zc m s == cfz nc zc m s) = true := by rw [HX.out]; simp
        clear hone c0 c1 hself hself2
        go_wp2_with fail
        refine (icfit _ _ _ _ zc m s (HC4.out.kept HG.out) (by omega)).mono ?_
        rintro e w5 ⟨rfl, hg⟩
        have G6 := Lib.hid (gtr (gtr G5.out HG.out) hg); clear hg
        go_wp2
        go_ret
        exact ⟨rfl, Draw.below_of G6.out⟩
end Run
end Go.Proofs.Ytkklhlffbfgolaa
