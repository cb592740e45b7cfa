/-
  The walk of the law on the public key.
-/
import Derived.Test.YtkklhlffbfgolaaQh
import Derived.Test.YtkklhlffbfgolaaKb
import Derived.Test.YtkklhlffbfgolaaRunKit
namespace Go.Proofs.Ytkklhlffbfgolaa
namespace Run
open Go.RowKit Alg Mem Con Mp
set_option linter.unusedVariables false

theorem ev_zero {z : Nat → Int} {n : Nat} (h : 1 ≤ n) (hz : fok (z 0) = true) : Pol.fi (Pol.ev (fl z n) (Pol.cv 0)) = z 0 := by
  rw [show Pol.cv 0 = 0 from rfl, Pol.ev_zero]
  obtain ⟨m, rfl⟩ : ∃ m, n = m + 1 := ⟨n - 1, by omega⟩
  rw [show (fl z (m + 1)).headD 0 = Pol.cv (z 0) by simp [fl, List.range_succ_eq_map], Pol.fi_cv hz]
theorem cat_at0 {n : Nat} {z : Nat → Int} (h : cokz n z = true) : catz n z 0 = z 0 := by
  obtain ⟨h1, h5, hz⟩ := cokz_iff.1 h
  have hl := lg_ok (hz 0 (by omega))
  rw [catz_in h (by decide), ev_zero (by omega) (lz_ok (hz 0 (by omega)))]
  exact hl.2
set_option maxRecDepth 100000 in
set_option maxHeartbeats 1000000 in
theorem FnKeyPub (a : Option Addr) (len cap : Nat) (w : World) (hB : Draw.Bytes w w.heap.size a len) (hc : len ≤ cap) (hm : cap ≤ maxLen) :
    Calls Try.prog 5 #[.slice a len cap] w (Yes w) := by
  by_cases hbig : 1048576 < len
  · have hbig' : (1048576 : Int) < (len : Int) := by omega
    clear hB
    go_enter Try.func5, Try.ntmps5
    go_wp2
    go_ret
    exact ⟨rfl, Below.refl _ _⟩
  have hbig' : ¬ (1048576 : Int) < (len : Int) := by omega
  go_enter Try.func5, Try.ntmps5
  go_wp2_with fail
  refine (Draw.drawKP _ a len cap hB hc hm).mono ?_
  rintro e w1 ⟨need, many, ag, ng, cg, zg, ac, nc, cc, zc, rfl, hk, hg⟩
  have hng := hk.g6; have hnc := hk.c5
  have HA := Lib.hid hk.ig; have HC := Lib.hid hk.ic; have G1 := Lib.hid hg; clear hk hg hB
  have g0 := Draw.grown_alloc w1 (.cells #[.int .i64 need, .int .i64 many, .slice ag ng cg, .slice ac nc cc] 25) none
  have HA1 := Lib.hid (HA.out.kept g0); have HC1 := Lib.hid (HC.out.kept g0); have G2 := Lib.hid (gtr G1.out g0)
  have HK1 := Lib.hid (Ky.new w1 need many (.slice ag ng cg) (.slice ac nc cc) 25)
  clear g0 HA HC
  go_wp2_with fail
  refine (ikeypub _ need many _ _ _ zg _ _ _ zc HA1.out HC1.out (by omega) (by omega)).mono ?_
  rintro e w2 ⟨rfl, hg⟩
  have HA2 := Lib.hid (HA1.out.kept hg); have HC2 := Lib.hid (HC1.out.kept hg); have HK2 := Lib.hid (HK1.out.kept hg); have G3 := Lib.hid (gtr G2.out hg); clear hg
  obtain ⟨_, k0, k1, k2, k3⟩ := HK2.out
  go_wp2_with fail
  refine (skeypub _ need many _ _ _ zg _ _ _ zc HA2.out HC2.out (by omega) (by omega)).mono ?_
  rintro e w3 ⟨rfl, hg⟩
  have HA3 := Lib.hid (HA2.out.kept hg); have HC3 := Lib.hid (HC2.out.kept hg); have HK3 := Lib.hid (HK2.out.kept hg); have G4 := Lib.hid (gtr G3.out hg); clear hg k0 k1 k2 k3
  obtain ⟨_, k0, k1, k2, k3⟩ := HK3.out
  have hself : (kpub need many ng zg nc zc == kpub need many ng zg nc zc) = true := by simp
  cases hk : kyF need many ng zg nc zc with
  | false =>
    have hz : (kpub need many ng zg nc zc == 0) = true := by rw [kpub_no hk]; rfl
    go_wp2_with fail
    refine (ikeyok _ need many _ _ _ zg _ _ _ zc HA3.out HC3.out (by omega) (by omega)).mono ?_
    rintro e w4 ⟨rfl, hg⟩
    rw [hk]
    have G5 := Lib.hid (gtr G4.out hg); clear hg
    go_wp2
    go_ret
    exact ⟨rfl, Draw.below_of G5.out⟩
  | true =>
    obtain ⟨_, _, hcok, _, _⟩ := ky_iff.1 hk
    have HP := Lib.hid (kpub_yes hk); have HC0 := Lib.hid (cat_at0 hcok)
    obtain ⟨c1, _, cg1⟩ := cokz_iff.1 hcok
    have hpos := (gok_range (cg1 0 (by omega))).1
    clear hcok cg1
    have heq : (kpub need many ng zg nc zc == catz nc zc 0) = true := by rw [HP.out, HC0.out]; simp
    have hgt : kpub need many ng zg nc zc > 0 := by rw [HP.out]; omega
    have hgt' : (0 : Int) < kpub need many ng zg nc zc := hgt
    go_wp2_with fail
    refine (ikeyok _ need many _ _ _ zg _ _ _ zc HA3.out HC3.out (by omega) (by omega)).mono ?_
    rintro e w4 ⟨rfl, hg⟩
    rw [hk]
    have HC4 := Lib.hid (HC3.out.kept hg); have HK4 := Lib.hid (HK3.out.kept hg); have G5 := Lib.hid (gtr G4.out hg); clear hg k0 k1 k2 k3
    obtain ⟨_, k0, k1, k2, k3⟩ := HK4.out
    go_wp2_with fail
    refine (icat _ _ _ _ zc 0 HC4.out (by omega)).mono ?_
    rintro e w5 ⟨rfl, hg⟩
    have G6 := Lib.hid (gtr G5.out hg); clear hg
    go_wp2
    go_ret
    exact ⟨rfl, Draw.below_of G6.out⟩
end Run
end Go.Proofs.Ytkklhlffbfgolaa
