/-
  The walks of the laws on one part alone, and on what is drawn more.
-/
import Derived.Test.YtpeofoabhjebbaaGr
import Derived.Test.YtpeofoabhjebbaaRunKi
import Derived.Test.YtpeofoabhjebbaaRunKl
namespace Go.Proofs.Ytpeofoabhjebbaa
namespace Run
open Go.RowKit Alg Mem Con Mp Draw
set_option linter.unusedVariables false

theorem ga_cat {need many : Int} {ng : Nat} {zg : Nat → Int} {nc : Nat} {zc : Nat → Int} {nm : Nat} {zm : Nat → Int} {m : Int} (h : gaF need many ng zg nc zc nm zm m = true) : fok m = true ∧ gok (catz nc zc m) = true := by
  have hf := ga_facts h
  have hmk : fok m = true := by have := mb_iff.1 hf.2.2.2.2.2.2.2.2.2.1; have := hf.2.2.1; exact fok_iff.2 (by omega)
  exact ⟨hmk, by rw [catz_in hf.2.2.2.1 hmk]; exact gof_ok (Pol.fi_ok _)⟩
/-- The one part. -/
theorem sf_hit {need many : Int} {ng : Nat} {zg : Nat → Int} {nc : Nat} {zc : Nat → Int} {nm : Nat} {zm : Nat → Int} {m : Int} {sh r msg i : Int} (h : gaF need many ng zg nc zc nm zm m = true) (h1 : gok sh = true) (h2 : gok r = true) (h3 : mok msg = true) (hi : fok i = true) :
    sfF need many ng zg nc zc nm zm m sh r msg i = decide (i = lg (gmulF sh (gpowF (catz nc zc m) (gW zc nm zm m r msg)))) := by
  have hg := (ga_cat h).2
  have hl := lg_ok (gmul_ok h1 (gpow_ok hg (gW_ok zc nm zm m r msg)))
  rw [sfF_yes ⟨h, h1, h2, h3, hi⟩]
  apply Bool.eq_iff_iff.2
  rw [beq_iff_eq, decide_eq_true_eq]
  exact ⟨fun e => (gof_same hi hl.1).1 (e.trans hl.2.symm), fun e => by rw [e]; exact hl.2⟩
/-- Whose part fits: who takes it not at all, and whose share is right. -/
theorem part_fits {need many : Int} {ng : Nat} {zg : Nat → Int} {nc : Nat} {zc : Nat → Int} {nm : Nat} {zm : Nat → Int} {m : Int} {s r msg d : Int} (h : gaF need many ng zg nc zc nm zm m = true) (hs : fok s = true) (hd : fok d = true) (hr : gok r = true) (hm : mok msg = true) :
    sfF need many ng zg nc zc nm zm m (gofF d) r msg (sumF d (mulF (gW zc nm zm m r msg) s)) = (gW zc nm zm m r msg == 0 || kfit need many ng zg nc zc m s) := by
  have hf := ga_facts h
  obtain ⟨hmk, hck⟩ := ga_cat h
  have hw := gW_ok zc nm zm m r msg
  rw [sfF_yes ⟨h, gof_ok hd, hr, hm, sumF_ok _ _⟩, kfit_y (ga_iff.1 h).1 hf.2.2.2.2.2.2.2.2.2.1, cfz_in hf.2.2.2.1 hmk hs]
  generalize gW zc nm zm m r msg = W at *
  obtain ⟨c, hc, hcc⟩ := gof_lg hck
  rw [← hcc]
  apply Bool.eq_iff_iff.2
  rw [Bool.or_eq_true, beq_iff_eq, beq_iff_eq, beq_iff_eq, gof_sum hd (mulF_ok _ _), gpow_of hc hw,
    gmul_comm (a := gofF (mulF W s)), gmul_comm (a := gofF (mulF c W)), gmul_cancel (gof_ok (mulF_ok _ _)) (gof_ok hd) (gof_ok (mulF_ok _ _)), gof_same (mulF_ok _ _) (mulF_ok _ _), gof_same hs hc, mul_comm (a := s)]
  by_cases h0 : W = 0
  · subst h0
    have e1 := mul_zero hs; have e2 := mul_zero hc
    simp [e1, e2]
  · rw [mul_cancel hc hw hs h0]
    exact ⟨fun e => Or.inr e, fun e => e.resolve_left h0⟩
theorem sum_rot {d n x : Int} (hd : fok d = true) (hn : fok n = true) (hx : fok x = true) : sumF (sumF d n) x = sumF (sumF d x) n := by
  rw [sum_assoc hd hn hx, sum_assoc hd hx hn, sum_comm (a := n)]


set_option maxRecDepth 100000 in
set_option maxHeartbeats 4000000 in
theorem FnPartOne (a : Option Addr) (len cap : Nat) (w : World) (hB : Draw.Bytes w w.heap.size a len) (hc : len ≤ cap) (hm : cap ≤ maxLen) :
    Calls Try.prog 8 #[.slice a len cap] w (Yes w) := by
  by_cases hbig : 1048576 < len
  · have hbig' : (1048576 : Int) < (len : Int) := by omega
    clear hB
    go_enter Try.func8, Try.ntmps8
    go_wp2
    go_ret
    exact ⟨rfl, Below.refl _ _⟩
  have hbig' : ¬ (1048576 : Int) < (len : Int) := by omega
  go_enter Try.func8, Try.ntmps8
  go_wp2_with fail
  refine (drawSF _ a len cap hB hc hm).mono ?_
  rintro e w1 ⟨need, many, ag, ng, cg, zg, ac, nc, cc, zc, am, nm, cm, zm, m, sh, r, msg, z, rfl, b1, b2, b3, hmc, hcm, i1, i2, i3, hg⟩
  have g1 := Draw.grown_alloc w1 (.cells #[.int .i64 need, .int .i64 many, .slice ag ng cg, .slice ac nc cc] 42) none
  have G := Lib.hid (gtr hg g1)
  have K := Lib.hid (Ky.new w1 need many (.slice ag ng cg) (.slice ac nc cc) 42)
  have I1 := Lib.hid (i1.kept g1); have I2 := Lib.hid (i2.kept g1); have I3 := Lib.hid (i3.kept g1)
  clear i1 i2 i3 g1 hg hB
  obtain ⟨_, k0, k1, k2, k3⟩ := K.out
  go_wp2_with fail
  refine (ifits _ need many _ ng _ zg _ nc _ zc _ nm _ zm m sh r msg z I1.out I2.out I3.out (by omega) (by omega) (by omega) hmc hcm).mono ?_
  rintro e w2 ⟨rfl, hg⟩
  clear k0 k1 k2 k3
  replace G := Lib.hid (gtr G.out hg)
  replace K := Lib.hid (K.out.kept hg)
  replace I1 := Lib.hid (I1.out.kept hg)
  replace I2 := Lib.hid (I2.out.kept hg)
  replace I3 := Lib.hid (I3.out.kept hg)
  clear hg
  obtain ⟨_, k0, k1, k2, k3⟩ := K.out
  go_wp2_with fail
  refine (sfits _ need many _ ng _ zg _ nc _ zc _ nm _ zm m sh r msg z I1.out I2.out I3.out (by omega) (by omega) (by omega)).mono ?_
  rintro e w3 ⟨rfl, hg⟩
  clear k0 k1 k2 k3
  replace G := Lib.hid (gtr G.out hg)
  replace K := Lib.hid (K.out.kept hg)
  replace I1 := Lib.hid (I1.out.kept hg)
  replace I2 := Lib.hid (I2.out.kept hg)
  replace I3 := Lib.hid (I3.out.kept hg)
  clear hg
  obtain ⟨_, k0, k1, k2, k3⟩ := K.out
  have hne : (sfF need many ng zg nc zc nm zm m sh r msg z != sfF need many ng zg nc zc nm zm m sh r msg z) = false := by simp
  by_cases hv : gaF need many ng zg nc zc nm zm m = true ∧ gok sh = true ∧ gok r = true ∧ mok msg = true
  · obtain ⟨h1, h2, h3, h4⟩ := hv
    obtain ⟨v0, v1⟩ := fok_iff.1 (lg_ok (gmul_ok h2 (gpow_ok (ga_cat h1).2 (gW_ok zc nm zm m r msg)))).1
    have HV := Lib.hid (show ∀ k : Nat, k < 23 → sfF need many ng zg nc zc nm zm m sh r msg k = decide ((k : Int) = lg (gmulF sh (gpowF (catz nc zc m) (gW zc nm zm m r msg)))) from fun k hk => sf_hit h1 h2 h3 h4 (fok_iff.2 (by omega)))
    clear h1 h2 h3 h4
    generalize lg (gmulF sh (gpowF (catz nc zc m) (gW zc nm zm m r msg))) = v at *
    generalize sfF need many ng zg nc zc nm zm m sh r msg z = sg at *
    go_wp2
    clear k0 k1 k2 k3
    go_loopw [11, 12] (fun n i W => ∃ k : Nat, k ≤ 23 ∧ n = .int .i64 (cnt1 v k) ∧ i = .int .i64 k ∧ w3.grownBy W none) (fun _ i _ => 23 - (intOf i).toNat)
    case atStart => exact ⟨0, by omega, by unfold cnt1; rw [if_neg (by omega)], rfl, Draw.grown_refl _ _⟩
    case round =>
      obtain ⟨k, hk, rfl, rfl, hg⟩ := hrel
      obtain ⟨W1, hW⟩ : ∃ W, W = wr := ⟨_, rfl⟩; subst hW
      have C := Lib.hid hg
      replace G := Lib.hid (gtr G.out hg)
      replace K := Lib.hid (K.out.kept hg)
      replace I1 := Lib.hid (I1.out.kept hg)
      replace I2 := Lib.hid (I2.out.kept hg)
      replace I3 := Lib.hid (I3.out.kept hg)
      clear hg
      obtain ⟨_, k0, k1, k2, k3⟩ := K.out
      obtain ⟨c0, c1⟩ := cnt1_range (e := v) (k := k)
      by_cases hlt : k < 23
      · skip
        have hlt' : (k : Int) < 23 := by omega
        go_wp2_with fail
        refine (ifits _ need many _ ng _ zg _ nc _ zc _ nm _ zm m sh r msg (k : Int) I1.out I2.out I3.out (by omega) (by omega) (by omega) hmc hcm).mono ?_
        rintro e w6 ⟨rfl, hg⟩
        clear k0 k1 k2 k3
        replace G := Lib.hid (gtr G.out hg)
        replace K := Lib.hid (K.out.kept hg)
        replace I1 := Lib.hid (I1.out.kept hg)
        replace I2 := Lib.hid (I2.out.kept hg)
        replace I3 := Lib.hid (I3.out.kept hg)
        replace C := Lib.hid (gtr C.out hg)
        clear hg
        obtain ⟨_, k0, k1, k2, k3⟩ := K.out
        by_cases he : (k : Int) = v
        · have HE := Lib.hid (cnt1_yes he)
          rw [HV.out k hlt, decide_eq_true he]
          clear he
          go_wp2
          go_roundw
          case rel => exact ⟨k + 1, by omega, by rw [HE.out]; try go_num, by go_num, C.out⟩
          case measure => simp [intOf]; omega
        · have HE := Lib.hid (cnt1_no he)
          rw [HV.out k hlt, decide_eq_false he]
          clear he
          go_wp2
          go_roundw
          case rel => exact ⟨k + 1, by omega, by rw [HE.out], by go_num, C.out⟩
          case measure => simp [intOf]; omega
      · obtain rfl : k = 23 := by omega
        have h23 : ¬ ((23 : Nat) : Int) < 23 := by omega
        have hone : cnt1 v 23 = 1 := by unfold cnt1; rw [if_pos (by omega)]
        rw [hone]
        clear hone c0 c1
        go_wp2
        go_ret
        exact ⟨rfl, Draw.below_of G.out⟩
  · have HV := Lib.hid (show ∀ i : Int, sfF need many ng zg nc zc nm zm m sh r msg i = false from fun i => sfF_no (fun h => hv ⟨h.1, h.2.1, h.2.2.1, h.2.2.2.1⟩))
    rw [HV.out] at hne ⊢
    clear hv
    go_wp2
    clear k0 k1 k2 k3
    go_loopw [11, 12] (fun n i W => ∃ k : Nat, k ≤ 23 ∧ n = .int .i64 0 ∧ i = .int .i64 k ∧ w3.grownBy W none) (fun _ i _ => 23 - (intOf i).toNat)
    case atStart => exact ⟨0, by omega, rfl, rfl, Draw.grown_refl _ _⟩
    case round =>
      obtain ⟨k, hk, rfl, rfl, hg⟩ := hrel
      obtain ⟨W1, hW⟩ : ∃ W, W = wr := ⟨_, rfl⟩; subst hW
      have C := Lib.hid hg
      replace G := Lib.hid (gtr G.out hg)
      replace K := Lib.hid (K.out.kept hg)
      replace I1 := Lib.hid (I1.out.kept hg)
      replace I2 := Lib.hid (I2.out.kept hg)
      replace I3 := Lib.hid (I3.out.kept hg)
      clear hg
      obtain ⟨_, k0, k1, k2, k3⟩ := K.out
      by_cases hlt : k < 23
      · have hlt' : (k : Int) < 23 := by omega
        go_wp2_with fail
        refine (ifits _ need many _ ng _ zg _ nc _ zc _ nm _ zm m sh r msg (k : Int) I1.out I2.out I3.out (by omega) (by omega) (by omega) hmc hcm).mono ?_
        rintro e w6 ⟨rfl, hg⟩
        clear k0 k1 k2 k3
        replace G := Lib.hid (gtr G.out hg)
        replace K := Lib.hid (K.out.kept hg)
        replace I1 := Lib.hid (I1.out.kept hg)
        replace I2 := Lib.hid (I2.out.kept hg)
        replace I3 := Lib.hid (I3.out.kept hg)
        replace C := Lib.hid (gtr C.out hg)
        clear hg
        obtain ⟨_, k0, k1, k2, k3⟩ := K.out
        rw [HV.out]
        go_wp2
        go_roundw
        case rel => exact ⟨k + 1, by omega, rfl, by go_num, C.out⟩
        case measure => simp [intOf]; omega
      · obtain rfl : k = 23 := by omega
        have h23 : ¬ ((23 : Nat) : Int) < 23 := by omega
        go_wp2
        go_ret
        exact ⟨rfl, Draw.below_of G.out⟩
end Run
end Go.Proofs.Ytpeofoabhjebbaa
