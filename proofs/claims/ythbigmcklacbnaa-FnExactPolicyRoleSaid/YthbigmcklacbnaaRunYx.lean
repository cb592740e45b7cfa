/-
  The walks of the exact laws on policies.
-/
import Derived.Test.YthbigmcklacbnaaYx
import Derived.Test.YthbigmcklacbnaaWk
import Derived.Deep.RegionHeld3
namespace Go.Proofs.Ythbigmcklacbnaa
namespace Run
open Go.RowKit Alg Mem Con Mp Po
set_option linter.unusedVariables false

theorem iproleG (w : World) (a : Option Addr) (n c : Nat) (R : Nat → ByteArray) (who : Int) (hI : StrI w a n R) (hl : n ≤ 2000000) :
    Calls Try.prog 21 #[.slice a n c, .int .i64 who] w fun e w' => e = .returned (.string (prF n R who)) ∧ w.grownBy w' none :=
  (iprole w a n c R who hI hl).mono fun e w' ⟨h1, h2⟩ => ⟨h1, h2 ▸ Draw.grown_refl _ _⟩
theorem ipmanyG (w : World) (a : Option Addr) (n c : Nat) (R : Nat → ByteArray) (aw : Option Addr) (q cw : Nat) (z : Nat → Int) (role : ByteArray) (hI : StrI w a n R) (hZ : Ints w aw q z) (hl : n ≤ 2000000) (hq : q ≤ 2000000) :
    Calls Try.prog 25 #[.slice a n c, .slice aw q cw, .string role] w fun e w' => e = .returned (.int .i64 (pmF n R q z role)) ∧ w.grownBy w' none :=
  (ipmany w a n c R aw q cw z role hI hZ hl hq).mono fun e w' ⟨h1, h2⟩ => ⟨h1, h2 ▸ Draw.grown_refl _ _⟩
set_option maxRecDepth 100000 in
set_option maxHeartbeats 8000000 in
theorem FnExactPolicyOk (ra : Option Addr) (rn rc : Nat) (rR : Nat → ByteArray) (ua : Option Addr) (un uc : Nat) (uU : Nat → RV) (w : World) (rA10 : StrI w ra rn rR) (uA10 : RuI w ua un uU) (rhm1 : rn ≤ maxLen) (rhm2 : ∀ j, j < rn → (rR j).size ≤ maxLen) (uhm1 : un ≤ maxLen) (uhm2 : ∀ j, j < un → (uU j).r.size ≤ maxLen) :
    Calls Try.prog 13 #[.slice ra rn rc, .slice ua un uc] w (Yes w) := by
  have G := Lib.hid (Draw.grown_refl w none)
  replace rA10 := Lib.hid rA10
  have rA1 := Lib.hid (rA10.out.kept G.out)
  replace uA10 := Lib.hid uA10
  have uA1 := Lib.hid (uA10.out.kept G.out)
  go_enter Try.func13, Try.ntmps13
  go_wp2_with fail
  refine (szstrs _ _ rn _ rR 1048576 (by omega) (by omega) rA1.out rhm1 rhm2).mono ?_
  rintro e v1 ⟨r0, rfl, hg, hr⟩
  replace G := Lib.hid (gtr G.out hg)
  replace rA1 := Lib.hid (rA10.out.kept G.out)
  replace uA1 := Lib.hid (uA10.out.kept G.out)
  clear hg
  rcases hr with rfl | ⟨h0a, h0b, rhl0⟩
  · go_wp2
    go_ret
    exact ⟨rfl, Draw.below_of G.out⟩
  have hn0 : ¬ r0 < 0 := by omega
  go_wp2_with fail
  refine (szrules _ _ un _ uU r0 (by omega) (by omega) uA1.out uhm1 uhm2).mono ?_
  rintro e v2 ⟨r1, rfl, hg, hr⟩
  replace G := Lib.hid (gtr G.out hg)
  replace rA1 := Lib.hid (rA10.out.kept G.out)
  replace uA1 := Lib.hid (uA10.out.kept G.out)
  clear hg
  rcases hr with rfl | ⟨h1a, h1b, uhl0⟩
  · go_wp2
    go_ret
    exact ⟨rfl, Draw.below_of G.out⟩
  have hn1 : ¬ r1 < 0 := by omega
  go_wp2_with fail
  refine (tostrs _ _ rn _ rR rA1.out (by omega)).mono ?_
  rintro e v3 ⟨s0b1, rfl, s0r1, hg⟩
  replace G := Lib.hid (gtr G.out hg)
  replace rA1 := Lib.hid (rA10.out.kept G.out)
  replace uA1 := Lib.hid (uA10.out.kept G.out)
  clear hg
  have s0P1 := Lib.hid (s0r1.str)
  clear s0r1
  go_wp2_with fail
  refine (torules _ _ un _ uU uA1.out (by omega)).mono ?_
  rintro e v4 ⟨s1b1, rfl, s1r1, hg⟩
  replace G := Lib.hid (gtr G.out hg)
  replace rA1 := Lib.hid (rA10.out.kept G.out)
  replace uA1 := Lib.hid (uA10.out.kept G.out)
  replace s0P1 := Lib.hid (s0P1.out.kept hg)
  clear hg
  have s1P1 := Lib.hid (row_rul s1r1)
  clear s1r1
  go_wp2_with fail
  refine (spolok _ _ rn _ rR _ un _ uU s0P1.out s1P1.out (by omega) (by omega)).mono ?_
  rintro e v5 ⟨rfl, hg⟩
  replace G := Lib.hid (gtr G.out hg)
  replace rA1 := Lib.hid (rA10.out.kept G.out)
  replace uA1 := Lib.hid (uA10.out.kept G.out)
  replace s0P1 := Lib.hid (s0P1.out.kept hg)
  replace s1P1 := Lib.hid (s1P1.out.kept hg)
  clear hg
  clear s0P1 s1P1
  go_wp2_with fail
  refine (tostrs _ _ rn _ rR rA1.out (by omega)).mono ?_
  rintro e v6 ⟨x0b1, rfl, x0r1, hg⟩
  replace G := Lib.hid (gtr G.out hg)
  replace rA1 := Lib.hid (rA10.out.kept G.out)
  replace uA1 := Lib.hid (uA10.out.kept G.out)
  clear hg
  have Cx0 := Lib.hid (Draw.grown_refl v6 none)
  have x0P1 := Lib.hid (x0r1.str)
  have x0P10 := x0P1
  clear x0r1
  go_wp2_with fail
  refine (torules _ _ un _ uU uA1.out (by omega)).mono ?_
  rintro e v7 ⟨x1b1, rfl, x1r1, hg⟩
  replace G := Lib.hid (gtr G.out hg)
  replace rA1 := Lib.hid (rA10.out.kept G.out)
  replace uA1 := Lib.hid (uA10.out.kept G.out)
  replace Cx0 := Lib.hid (gtr Cx0.out hg)
  replace x0P1 := Lib.hid (x0P10.out.kept Cx0.out)
  clear hg
  have Cx1 := Lib.hid (Draw.grown_refl v7 none)
  have x1P1 := Lib.hid (row_rul x1r1)
  have x1P10 := x1P1
  clear x1r1
  go_wp2_with fail
  refine (ipolok _ _ rn _ rR _ un _ uU x0P1.out x1P1.out (by omega) (by omega)).mono ?_
  rintro e v8 ⟨rfl, hg⟩
  replace G := Lib.hid (gtr G.out hg)
  replace rA1 := Lib.hid (rA10.out.kept G.out)
  replace uA1 := Lib.hid (uA10.out.kept G.out)
  replace Cx0 := Lib.hid (gtr Cx0.out hg)
  replace x0P1 := Lib.hid (x0P10.out.kept Cx0.out)
  replace Cx1 := Lib.hid (gtr Cx1.out hg)
  replace x1P1 := Lib.hid (x1P10.out.kept Cx1.out)
  clear hg
  have hne0 : (plF rn rR un uU != plF rn rR un uU) = false := by simp
  go_wp2_with fail
  refine (tostrs _ _ rn _ rR rA1.out (by omega)).mono ?_
  rintro e v9 ⟨y0b1, rfl, y0r1, hg⟩
  replace G := Lib.hid (gtr G.out hg)
  replace rA1 := Lib.hid (rA10.out.kept G.out)
  replace uA1 := Lib.hid (uA10.out.kept G.out)
  replace Cx0 := Lib.hid (gtr Cx0.out hg)
  replace x0P1 := Lib.hid (x0P10.out.kept Cx0.out)
  replace Cx1 := Lib.hid (gtr Cx1.out hg)
  replace x1P1 := Lib.hid (x1P10.out.kept Cx1.out)
  clear hg
  have y0P1 := Lib.hid (y0r1.str)
  clear y0r1
  go_wp2_with fail
  refine (eqstrs _ _ _ rn _ _ rR x0P1.out y0P1.out (by omega)).mono ?_
  rintro e v10 ⟨rfl, hg⟩
  replace G := Lib.hid (gtr G.out hg)
  replace rA1 := Lib.hid (rA10.out.kept G.out)
  replace uA1 := Lib.hid (uA10.out.kept G.out)
  replace Cx0 := Lib.hid (gtr Cx0.out hg)
  replace x0P1 := Lib.hid (x0P10.out.kept Cx0.out)
  replace Cx1 := Lib.hid (gtr Cx1.out hg)
  replace x1P1 := Lib.hid (x1P10.out.kept Cx1.out)
  replace y0P1 := Lib.hid (y0P1.out.kept hg)
  clear hg
  clear y0P1
  go_wp2_with fail
  refine (torules _ _ un _ uU uA1.out (by omega)).mono ?_
  rintro e v11 ⟨y1b1, rfl, y1r1, hg⟩
  replace G := Lib.hid (gtr G.out hg)
  replace rA1 := Lib.hid (rA10.out.kept G.out)
  replace uA1 := Lib.hid (uA10.out.kept G.out)
  replace Cx0 := Lib.hid (gtr Cx0.out hg)
  replace x0P1 := Lib.hid (x0P10.out.kept Cx0.out)
  replace Cx1 := Lib.hid (gtr Cx1.out hg)
  replace x1P1 := Lib.hid (x1P10.out.kept Cx1.out)
  clear hg
  have y1P1 := Lib.hid (row_rul y1r1)
  clear y1r1
  go_wp2_with fail
  refine (eqrules _ _ _ un _ _ uU x1P1.out y1P1.out (by omega)).mono ?_
  rintro e v12 ⟨rfl, hg⟩
  replace G := Lib.hid (gtr G.out hg)
  replace rA1 := Lib.hid (rA10.out.kept G.out)
  replace uA1 := Lib.hid (uA10.out.kept G.out)
  replace Cx0 := Lib.hid (gtr Cx0.out hg)
  replace x0P1 := Lib.hid (x0P10.out.kept Cx0.out)
  replace Cx1 := Lib.hid (gtr Cx1.out hg)
  replace x1P1 := Lib.hid (x1P10.out.kept Cx1.out)
  replace y1P1 := Lib.hid (y1P1.out.kept hg)
  clear hg
  clear y1P1
  go_wp2
  go_ret
  exact ⟨rfl, Draw.below_of G.out⟩
set_option maxRecDepth 100000 in
set_option maxHeartbeats 8000000 in
theorem FnExactPolicyRole (ra : Option Addr) (rn rc : Nat) (rR : Nat → ByteArray) (who : Int) (w : World) (rA10 : StrI w ra rn rR) (rhm1 : rn ≤ maxLen) (rhm2 : ∀ j, j < rn → (rR j).size ≤ maxLen) :
    Calls Try.prog 14 #[.slice ra rn rc, .int .i64 who] w (Yes w) := by
  have G := Lib.hid (Draw.grown_refl w none)
  replace rA10 := Lib.hid rA10
  have rA1 := Lib.hid (rA10.out.kept G.out)
  go_enter Try.func14, Try.ntmps14
  go_wp2_with fail
  refine (szstrs _ _ rn _ rR 1048576 (by omega) (by omega) rA1.out rhm1 rhm2).mono ?_
  rintro e v1 ⟨r0, rfl, hg, hr⟩
  replace G := Lib.hid (gtr G.out hg)
  replace rA1 := Lib.hid (rA10.out.kept G.out)
  clear hg
  rcases hr with rfl | ⟨h0a, h0b, rhl0⟩
  · go_wp2
    go_ret
    exact ⟨rfl, Draw.below_of G.out⟩
  have hn0 : ¬ r0 < 0 := by omega
  go_wp2_with fail
  refine (tostrs _ _ rn _ rR rA1.out (by omega)).mono ?_
  rintro e v2 ⟨s0b1, rfl, s0r1, hg⟩
  replace G := Lib.hid (gtr G.out hg)
  replace rA1 := Lib.hid (rA10.out.kept G.out)
  clear hg
  have s0P1 := Lib.hid (s0r1.str)
  clear s0r1
  go_wp2_with fail
  refine (sprole _ _ rn _ rR who s0P1.out (by omega)).mono ?_
  rintro e v3 ⟨rfl, hg⟩
  replace G := Lib.hid (gtr G.out hg)
  replace rA1 := Lib.hid (rA10.out.kept G.out)
  replace s0P1 := Lib.hid (s0P1.out.kept hg)
  clear hg
  clear s0P1
  go_wp2_with fail
  refine (tostrs _ _ rn _ rR rA1.out (by omega)).mono ?_
  rintro e v4 ⟨x0b1, rfl, x0r1, hg⟩
  replace G := Lib.hid (gtr G.out hg)
  replace rA1 := Lib.hid (rA10.out.kept G.out)
  clear hg
  have Cx0 := Lib.hid (Draw.grown_refl v4 none)
  have x0P1 := Lib.hid (x0r1.str)
  have x0P10 := x0P1
  clear x0r1
  go_wp2_with fail
  refine (iproleG _ _ rn _ rR who x0P1.out (by omega)).mono ?_
  rintro e v5 ⟨rfl, hg⟩
  replace G := Lib.hid (gtr G.out hg)
  replace rA1 := Lib.hid (rA10.out.kept G.out)
  replace Cx0 := Lib.hid (gtr Cx0.out hg)
  replace x0P1 := Lib.hid (x0P10.out.kept Cx0.out)
  clear hg
  have hne0 : ((prF rn rR who).toList != (prF rn rR who).toList) = false := by simp
  go_wp2_with fail
  refine (tostrs _ _ rn _ rR rA1.out (by omega)).mono ?_
  rintro e v6 ⟨y0b1, rfl, y0r1, hg⟩
  replace G := Lib.hid (gtr G.out hg)
  replace rA1 := Lib.hid (rA10.out.kept G.out)
  replace Cx0 := Lib.hid (gtr Cx0.out hg)
  replace x0P1 := Lib.hid (x0P10.out.kept Cx0.out)
  clear hg
  have y0P1 := Lib.hid (y0r1.str)
  clear y0r1
  go_wp2_with fail
  refine (eqstrs _ _ _ rn _ _ rR x0P1.out y0P1.out (by omega)).mono ?_
  rintro e v7 ⟨rfl, hg⟩
  replace G := Lib.hid (gtr G.out hg)
  replace rA1 := Lib.hid (rA10.out.kept G.out)
  replace Cx0 := Lib.hid (gtr Cx0.out hg)
  replace x0P1 := Lib.hid (x0P10.out.kept Cx0.out)
  replace y0P1 := Lib.hid (y0P1.out.kept hg)
  clear hg
  clear y0P1
  go_wp2
  go_ret
  exact ⟨rfl, Draw.below_of G.out⟩
set_option maxRecDepth 100000 in
set_option maxHeartbeats 8000000 in
theorem FnExactPolicyMany (ra : Option Addr) (rn rc : Nat) (rR : Nat → ByteArray) (wa : Option Addr) (wn wc : Nat) (wz : Nat → Int) (ts : ByteArray) (w : World) (rA10 : StrI w ra rn rR) (wA10 : Ints w wa wn wz) (rhm1 : rn ≤ maxLen) (rhm2 : ∀ j, j < rn → (rR j).size ≤ maxLen) (whm1 : wn ≤ maxLen) :
    Calls Try.prog 15 #[.slice ra rn rc, .slice wa wn wc, .string ts] w (Yes w) := by
  have G := Lib.hid (Draw.grown_refl w none)
  replace rA10 := Lib.hid rA10
  have rA1 := Lib.hid (rA10.out.kept G.out)
  replace wA10 := Lib.hid wA10
  have wA1 := Lib.hid (wA10.out.kept G.out)
  go_enter Try.func15, Try.ntmps15
  by_cases hbwn : (1048576 : Int) < (wn : Int)
  · go_wp2
    go_ret
    exact ⟨rfl, Draw.below_of G.out⟩
  by_cases hbts_size : (1048576 : Int) < (ts.size : Int)
  · go_wp2
    go_ret
    exact ⟨rfl, Draw.below_of G.out⟩
  go_wp2_with fail
  refine (szstrs _ _ rn _ rR 1048576 (by omega) (by omega) rA1.out rhm1 rhm2).mono ?_
  rintro e v1 ⟨r0, rfl, hg, hr⟩
  replace G := Lib.hid (gtr G.out hg)
  replace rA1 := Lib.hid (rA10.out.kept G.out)
  replace wA1 := Lib.hid (wA10.out.kept G.out)
  clear hg
  rcases hr with rfl | ⟨h0a, h0b, rhl0⟩
  · go_wp2
    go_ret
    exact ⟨rfl, Draw.below_of G.out⟩
  have hn0 : ¬ r0 < 0 := by omega
  go_wp2_with fail
  refine (tostrs _ _ rn _ rR rA1.out (by omega)).mono ?_
  rintro e v2 ⟨s0b1, rfl, s0r1, hg⟩
  replace G := Lib.hid (gtr G.out hg)
  replace rA1 := Lib.hid (rA10.out.kept G.out)
  replace wA1 := Lib.hid (wA10.out.kept G.out)
  clear hg
  have s0P1 := Lib.hid (s0r1.str)
  clear s0r1
  go_wp2_with fail
  refine (toInt _ _ wn _ wz wA1.out (by omega)).mono ?_
  rintro e v3 ⟨s1b1, rfl, s1r1, hg⟩
  replace G := Lib.hid (gtr G.out hg)
  replace rA1 := Lib.hid (rA10.out.kept G.out)
  replace wA1 := Lib.hid (wA10.out.kept G.out)
  replace s0P1 := Lib.hid (s0P1.out.kept hg)
  clear hg
  have s1P1 := Lib.hid (s1r1.ints)
  clear s1r1
  go_wp2_with fail
  refine (spmany _ _ rn _ rR _ wn _ wz ts s0P1.out s1P1.out (by omega) (by omega) (Nat.le_refl _)).mono ?_
  rintro e v4 ⟨rfl, hg⟩
  replace G := Lib.hid (gtr G.out hg)
  replace rA1 := Lib.hid (rA10.out.kept G.out)
  replace wA1 := Lib.hid (wA10.out.kept G.out)
  replace s0P1 := Lib.hid (s0P1.out.kept hg)
  replace s1P1 := Lib.hid (s1P1.out.kept hg)
  clear hg
  clear s0P1 s1P1
  go_wp2_with fail
  refine (tostrs _ _ rn _ rR rA1.out (by omega)).mono ?_
  rintro e v5 ⟨x0b1, rfl, x0r1, hg⟩
  replace G := Lib.hid (gtr G.out hg)
  replace rA1 := Lib.hid (rA10.out.kept G.out)
  replace wA1 := Lib.hid (wA10.out.kept G.out)
  clear hg
  have Cx0 := Lib.hid (Draw.grown_refl v5 none)
  have x0P1 := Lib.hid (x0r1.str)
  have x0P10 := x0P1
  clear x0r1
  go_wp2_with fail
  refine (toInt _ _ wn _ wz wA1.out (by omega)).mono ?_
  rintro e v6 ⟨x1b1, rfl, x1r1, hg⟩
  replace G := Lib.hid (gtr G.out hg)
  replace rA1 := Lib.hid (rA10.out.kept G.out)
  replace wA1 := Lib.hid (wA10.out.kept G.out)
  replace Cx0 := Lib.hid (gtr Cx0.out hg)
  replace x0P1 := Lib.hid (x0P10.out.kept Cx0.out)
  clear hg
  have Cx1 := Lib.hid (Draw.grown_refl v6 none)
  have x1P1 := Lib.hid (x1r1.ints)
  have x1P10 := x1P1
  clear x1r1
  go_wp2_with fail
  refine (ipmanyG _ _ rn _ rR _ wn _ wz ts x0P1.out x1P1.out (by omega) (by omega)).mono ?_
  rintro e v7 ⟨rfl, hg⟩
  replace G := Lib.hid (gtr G.out hg)
  replace rA1 := Lib.hid (rA10.out.kept G.out)
  replace wA1 := Lib.hid (wA10.out.kept G.out)
  replace Cx0 := Lib.hid (gtr Cx0.out hg)
  replace x0P1 := Lib.hid (x0P10.out.kept Cx0.out)
  replace Cx1 := Lib.hid (gtr Cx1.out hg)
  replace x1P1 := Lib.hid (x1P10.out.kept Cx1.out)
  clear hg
  have hne0 : ((pmF rn rR wn wz ts : Int) != (pmF rn rR wn wz ts : Int)) = false := by simp
  go_wp2_with fail
  refine (tostrs _ _ rn _ rR rA1.out (by omega)).mono ?_
  rintro e v8 ⟨y0b1, rfl, y0r1, hg⟩
  replace G := Lib.hid (gtr G.out hg)
  replace rA1 := Lib.hid (rA10.out.kept G.out)
  replace wA1 := Lib.hid (wA10.out.kept G.out)
  replace Cx0 := Lib.hid (gtr Cx0.out hg)
  replace x0P1 := Lib.hid (x0P10.out.kept Cx0.out)
  replace Cx1 := Lib.hid (gtr Cx1.out hg)
  replace x1P1 := Lib.hid (x1P10.out.kept Cx1.out)
  clear hg
  have y0P1 := Lib.hid (y0r1.str)
  clear y0r1
  go_wp2_with fail
  refine (eqstrs _ _ _ rn _ _ rR x0P1.out y0P1.out (by omega)).mono ?_
  rintro e v9 ⟨rfl, hg⟩
  replace G := Lib.hid (gtr G.out hg)
  replace rA1 := Lib.hid (rA10.out.kept G.out)
  replace wA1 := Lib.hid (wA10.out.kept G.out)
  replace Cx0 := Lib.hid (gtr Cx0.out hg)
  replace x0P1 := Lib.hid (x0P10.out.kept Cx0.out)
  replace Cx1 := Lib.hid (gtr Cx1.out hg)
  replace x1P1 := Lib.hid (x1P10.out.kept Cx1.out)
  replace y0P1 := Lib.hid (y0P1.out.kept hg)
  clear hg
  clear y0P1
  go_wp2_with fail
  refine (toInt _ _ wn _ wz wA1.out (by omega)).mono ?_
  rintro e v10 ⟨y1b1, rfl, y1r1, hg⟩
  replace G := Lib.hid (gtr G.out hg)
  replace rA1 := Lib.hid (rA10.out.kept G.out)
  replace wA1 := Lib.hid (wA10.out.kept G.out)
  replace Cx0 := Lib.hid (gtr Cx0.out hg)
  replace x0P1 := Lib.hid (x0P10.out.kept Cx0.out)
  replace Cx1 := Lib.hid (gtr Cx1.out hg)
  replace x1P1 := Lib.hid (x1P10.out.kept Cx1.out)
  clear hg
  have y1P1 := Lib.hid (y1r1.ints)
  clear y1r1
  go_wp2_with fail
  refine (eqint _ _ _ wn _ _ wz x1P1.out y1P1.out (by omega)).mono ?_
  rintro e v11 ⟨rfl, hg⟩
  replace G := Lib.hid (gtr G.out hg)
  replace rA1 := Lib.hid (rA10.out.kept G.out)
  replace wA1 := Lib.hid (wA10.out.kept G.out)
  replace Cx0 := Lib.hid (gtr Cx0.out hg)
  replace x0P1 := Lib.hid (x0P10.out.kept Cx0.out)
  replace Cx1 := Lib.hid (gtr Cx1.out hg)
  replace x1P1 := Lib.hid (x1P10.out.kept Cx1.out)
  replace y1P1 := Lib.hid (y1P1.out.kept hg)
  clear hg
  clear y1P1
  go_wp2
  go_ret
  exact ⟨rfl, Draw.below_of G.out⟩
set_option maxRecDepth 100000 in
set_option maxHeartbeats 8000000 in
theorem FnExactPolicyMay (ra : Option Addr) (rn rc : Nat) (rR : Nat → ByteArray) (ua : Option Addr) (un uc : Nat) (uU : Nat → RV) (wa : Option Addr) (wn wc : Nat) (wz : Nat → Int) (amount : Int) (w : World) (rA10 : StrI w ra rn rR) (uA10 : RuI w ua un uU) (wA10 : Ints w wa wn wz) (rhm1 : rn ≤ maxLen) (rhm2 : ∀ j, j < rn → (rR j).size ≤ maxLen) (uhm1 : un ≤ maxLen) (uhm2 : ∀ j, j < un → (uU j).r.size ≤ maxLen) (whm1 : wn ≤ maxLen) :
    Calls Try.prog 16 #[.slice ra rn rc, .slice ua un uc, .slice wa wn wc, .int .i64 amount] w (Yes w) := by
  have G := Lib.hid (Draw.grown_refl w none)
  replace rA10 := Lib.hid rA10
  have rA1 := Lib.hid (rA10.out.kept G.out)
  replace uA10 := Lib.hid uA10
  have uA1 := Lib.hid (uA10.out.kept G.out)
  replace wA10 := Lib.hid wA10
  have wA1 := Lib.hid (wA10.out.kept G.out)
  go_enter Try.func16, Try.ntmps16
  by_cases hbwn : (1048576 : Int) < (wn : Int)
  · go_wp2
    go_ret
    exact ⟨rfl, Draw.below_of G.out⟩
  go_wp2_with fail
  refine (szstrs _ _ rn _ rR 1048576 (by omega) (by omega) rA1.out rhm1 rhm2).mono ?_
  rintro e v1 ⟨r0, rfl, hg, hr⟩
  replace G := Lib.hid (gtr G.out hg)
  replace rA1 := Lib.hid (rA10.out.kept G.out)
  replace uA1 := Lib.hid (uA10.out.kept G.out)
  replace wA1 := Lib.hid (wA10.out.kept G.out)
  clear hg
  rcases hr with rfl | ⟨h0a, h0b, rhl0⟩
  · go_wp2
    go_ret
    exact ⟨rfl, Draw.below_of G.out⟩
  have hn0 : ¬ r0 < 0 := by omega
  go_wp2_with fail
  refine (szrules _ _ un _ uU r0 (by omega) (by omega) uA1.out uhm1 uhm2).mono ?_
  rintro e v2 ⟨r1, rfl, hg, hr⟩
  replace G := Lib.hid (gtr G.out hg)
  replace rA1 := Lib.hid (rA10.out.kept G.out)
  replace uA1 := Lib.hid (uA10.out.kept G.out)
  replace wA1 := Lib.hid (wA10.out.kept G.out)
  clear hg
  rcases hr with rfl | ⟨h1a, h1b, uhl0⟩
  · go_wp2
    go_ret
    exact ⟨rfl, Draw.below_of G.out⟩
  have hn1 : ¬ r1 < 0 := by omega
  go_wp2_with fail
  refine (tostrs _ _ rn _ rR rA1.out (by omega)).mono ?_
  rintro e v3 ⟨s0b1, rfl, s0r1, hg⟩
  replace G := Lib.hid (gtr G.out hg)
  replace rA1 := Lib.hid (rA10.out.kept G.out)
  replace uA1 := Lib.hid (uA10.out.kept G.out)
  replace wA1 := Lib.hid (wA10.out.kept G.out)
  clear hg
  have s0P1 := Lib.hid (s0r1.str)
  clear s0r1
  go_wp2_with fail
  refine (torules _ _ un _ uU uA1.out (by omega)).mono ?_
  rintro e v4 ⟨s1b1, rfl, s1r1, hg⟩
  replace G := Lib.hid (gtr G.out hg)
  replace rA1 := Lib.hid (rA10.out.kept G.out)
  replace uA1 := Lib.hid (uA10.out.kept G.out)
  replace wA1 := Lib.hid (wA10.out.kept G.out)
  replace s0P1 := Lib.hid (s0P1.out.kept hg)
  clear hg
  have s1P1 := Lib.hid (row_rul s1r1)
  clear s1r1
  go_wp2_with fail
  refine (toInt _ _ wn _ wz wA1.out (by omega)).mono ?_
  rintro e v5 ⟨s2b1, rfl, s2r1, hg⟩
  replace G := Lib.hid (gtr G.out hg)
  replace rA1 := Lib.hid (rA10.out.kept G.out)
  replace uA1 := Lib.hid (uA10.out.kept G.out)
  replace wA1 := Lib.hid (wA10.out.kept G.out)
  replace s0P1 := Lib.hid (s0P1.out.kept hg)
  replace s1P1 := Lib.hid (s1P1.out.kept hg)
  clear hg
  have s2P1 := Lib.hid (s2r1.ints)
  clear s2r1
  go_wp2_with fail
  refine (spmay _ _ rn _ rR _ un _ uU _ wn _ wz amount s0P1.out s1P1.out s2P1.out (by omega) (by omega) (by omega) (Nat.le_refl _)).mono ?_
  rintro e v6 ⟨rfl, hg⟩
  replace G := Lib.hid (gtr G.out hg)
  replace rA1 := Lib.hid (rA10.out.kept G.out)
  replace uA1 := Lib.hid (uA10.out.kept G.out)
  replace wA1 := Lib.hid (wA10.out.kept G.out)
  replace s0P1 := Lib.hid (s0P1.out.kept hg)
  replace s1P1 := Lib.hid (s1P1.out.kept hg)
  replace s2P1 := Lib.hid (s2P1.out.kept hg)
  clear hg
  clear s0P1 s1P1 s2P1
  go_wp2_with fail
  refine (tostrs _ _ rn _ rR rA1.out (by omega)).mono ?_
  rintro e v7 ⟨x0b1, rfl, x0r1, hg⟩
  replace G := Lib.hid (gtr G.out hg)
  replace rA1 := Lib.hid (rA10.out.kept G.out)
  replace uA1 := Lib.hid (uA10.out.kept G.out)
  replace wA1 := Lib.hid (wA10.out.kept G.out)
  clear hg
  have Cx0 := Lib.hid (Draw.grown_refl v7 none)
  have x0P1 := Lib.hid (x0r1.str)
  have x0P10 := x0P1
  clear x0r1
  go_wp2_with fail
  refine (torules _ _ un _ uU uA1.out (by omega)).mono ?_
  rintro e v8 ⟨x1b1, rfl, x1r1, hg⟩
  replace G := Lib.hid (gtr G.out hg)
  replace rA1 := Lib.hid (rA10.out.kept G.out)
  replace uA1 := Lib.hid (uA10.out.kept G.out)
  replace wA1 := Lib.hid (wA10.out.kept G.out)
  replace Cx0 := Lib.hid (gtr Cx0.out hg)
  replace x0P1 := Lib.hid (x0P10.out.kept Cx0.out)
  clear hg
  have Cx1 := Lib.hid (Draw.grown_refl v8 none)
  have x1P1 := Lib.hid (row_rul x1r1)
  have x1P10 := x1P1
  clear x1r1
  go_wp2_with fail
  refine (toInt _ _ wn _ wz wA1.out (by omega)).mono ?_
  rintro e v9 ⟨x2b1, rfl, x2r1, hg⟩
  replace G := Lib.hid (gtr G.out hg)
  replace rA1 := Lib.hid (rA10.out.kept G.out)
  replace uA1 := Lib.hid (uA10.out.kept G.out)
  replace wA1 := Lib.hid (wA10.out.kept G.out)
  replace Cx0 := Lib.hid (gtr Cx0.out hg)
  replace x0P1 := Lib.hid (x0P10.out.kept Cx0.out)
  replace Cx1 := Lib.hid (gtr Cx1.out hg)
  replace x1P1 := Lib.hid (x1P10.out.kept Cx1.out)
  clear hg
  have Cx2 := Lib.hid (Draw.grown_refl v9 none)
  have x2P1 := Lib.hid (x2r1.ints)
  have x2P10 := x2P1
  clear x2r1
  go_wp2_with fail
  refine (ipmay _ _ rn _ rR _ un _ uU _ wn _ wz amount x0P1.out x1P1.out x2P1.out (by omega) (by omega) (by omega)).mono ?_
  rintro e v10 ⟨rfl, hg⟩
  replace G := Lib.hid (gtr G.out hg)
  replace rA1 := Lib.hid (rA10.out.kept G.out)
  replace uA1 := Lib.hid (uA10.out.kept G.out)
  replace wA1 := Lib.hid (wA10.out.kept G.out)
  replace Cx0 := Lib.hid (gtr Cx0.out hg)
  replace x0P1 := Lib.hid (x0P10.out.kept Cx0.out)
  replace Cx1 := Lib.hid (gtr Cx1.out hg)
  replace x1P1 := Lib.hid (x1P10.out.kept Cx1.out)
  replace Cx2 := Lib.hid (gtr Cx2.out hg)
  replace x2P1 := Lib.hid (x2P10.out.kept Cx2.out)
  clear hg
  have hne0 : (myF rn rR un uU wn wz amount != myF rn rR un uU wn wz amount) = false := by simp
  go_wp2_with fail
  refine (tostrs _ _ rn _ rR rA1.out (by omega)).mono ?_
  rintro e v11 ⟨y0b1, rfl, y0r1, hg⟩
  replace G := Lib.hid (gtr G.out hg)
  replace rA1 := Lib.hid (rA10.out.kept G.out)
  replace uA1 := Lib.hid (uA10.out.kept G.out)
  replace wA1 := Lib.hid (wA10.out.kept G.out)
  replace Cx0 := Lib.hid (gtr Cx0.out hg)
  replace x0P1 := Lib.hid (x0P10.out.kept Cx0.out)
  replace Cx1 := Lib.hid (gtr Cx1.out hg)
  replace x1P1 := Lib.hid (x1P10.out.kept Cx1.out)
  replace Cx2 := Lib.hid (gtr Cx2.out hg)
  replace x2P1 := Lib.hid (x2P10.out.kept Cx2.out)
  clear hg
  have y0P1 := Lib.hid (y0r1.str)
  clear y0r1
  go_wp2_with fail
  refine (eqstrs _ _ _ rn _ _ rR x0P1.out y0P1.out (by omega)).mono ?_
  rintro e v12 ⟨rfl, hg⟩
  replace G := Lib.hid (gtr G.out hg)
  replace rA1 := Lib.hid (rA10.out.kept G.out)
  replace uA1 := Lib.hid (uA10.out.kept G.out)
  replace wA1 := Lib.hid (wA10.out.kept G.out)
  replace Cx0 := Lib.hid (gtr Cx0.out hg)
  replace x0P1 := Lib.hid (x0P10.out.kept Cx0.out)
  replace Cx1 := Lib.hid (gtr Cx1.out hg)
  replace x1P1 := Lib.hid (x1P10.out.kept Cx1.out)
  replace Cx2 := Lib.hid (gtr Cx2.out hg)
  replace x2P1 := Lib.hid (x2P10.out.kept Cx2.out)
  replace y0P1 := Lib.hid (y0P1.out.kept hg)
  clear hg
  clear y0P1
  go_wp2_with fail
  refine (torules _ _ un _ uU uA1.out (by omega)).mono ?_
  rintro e v13 ⟨y1b1, rfl, y1r1, hg⟩
  replace G := Lib.hid (gtr G.out hg)
  replace rA1 := Lib.hid (rA10.out.kept G.out)
  replace uA1 := Lib.hid (uA10.out.kept G.out)
  replace wA1 := Lib.hid (wA10.out.kept G.out)
  replace Cx0 := Lib.hid (gtr Cx0.out hg)
  replace x0P1 := Lib.hid (x0P10.out.kept Cx0.out)
  replace Cx1 := Lib.hid (gtr Cx1.out hg)
  replace x1P1 := Lib.hid (x1P10.out.kept Cx1.out)
  replace Cx2 := Lib.hid (gtr Cx2.out hg)
  replace x2P1 := Lib.hid (x2P10.out.kept Cx2.out)
  clear hg
  have y1P1 := Lib.hid (row_rul y1r1)
  clear y1r1
  go_wp2_with fail
  refine (eqrules _ _ _ un _ _ uU x1P1.out y1P1.out (by omega)).mono ?_
  rintro e v14 ⟨rfl, hg⟩
  replace G := Lib.hid (gtr G.out hg)
  replace rA1 := Lib.hid (rA10.out.kept G.out)
  replace uA1 := Lib.hid (uA10.out.kept G.out)
  replace wA1 := Lib.hid (wA10.out.kept G.out)
  replace Cx0 := Lib.hid (gtr Cx0.out hg)
  replace x0P1 := Lib.hid (x0P10.out.kept Cx0.out)
  replace Cx1 := Lib.hid (gtr Cx1.out hg)
  replace x1P1 := Lib.hid (x1P10.out.kept Cx1.out)
  replace Cx2 := Lib.hid (gtr Cx2.out hg)
  replace x2P1 := Lib.hid (x2P10.out.kept Cx2.out)
  replace y1P1 := Lib.hid (y1P1.out.kept hg)
  clear hg
  clear y1P1
  go_wp2_with fail
  refine (toInt _ _ wn _ wz wA1.out (by omega)).mono ?_
  rintro e v15 ⟨y2b1, rfl, y2r1, hg⟩
  replace G := Lib.hid (gtr G.out hg)
  replace rA1 := Lib.hid (rA10.out.kept G.out)
  replace uA1 := Lib.hid (uA10.out.kept G.out)
  replace wA1 := Lib.hid (wA10.out.kept G.out)
  replace Cx0 := Lib.hid (gtr Cx0.out hg)
  replace x0P1 := Lib.hid (x0P10.out.kept Cx0.out)
  replace Cx1 := Lib.hid (gtr Cx1.out hg)
  replace x1P1 := Lib.hid (x1P10.out.kept Cx1.out)
  replace Cx2 := Lib.hid (gtr Cx2.out hg)
  replace x2P1 := Lib.hid (x2P10.out.kept Cx2.out)
  clear hg
  have y2P1 := Lib.hid (y2r1.ints)
  clear y2r1
  go_wp2_with fail
  refine (eqint _ _ _ wn _ _ wz x2P1.out y2P1.out (by omega)).mono ?_
  rintro e v16 ⟨rfl, hg⟩
  replace G := Lib.hid (gtr G.out hg)
  replace rA1 := Lib.hid (rA10.out.kept G.out)
  replace uA1 := Lib.hid (uA10.out.kept G.out)
  replace wA1 := Lib.hid (wA10.out.kept G.out)
  replace Cx0 := Lib.hid (gtr Cx0.out hg)
  replace x0P1 := Lib.hid (x0P10.out.kept Cx0.out)
  replace Cx1 := Lib.hid (gtr Cx1.out hg)
  replace x1P1 := Lib.hid (x1P10.out.kept Cx1.out)
  replace Cx2 := Lib.hid (gtr Cx2.out hg)
  replace x2P1 := Lib.hid (x2P10.out.kept Cx2.out)
  replace y2P1 := Lib.hid (y2P1.out.kept hg)
  clear hg
  clear y2P1
  go_wp2
  go_ret
  exact ⟨rfl, Draw.below_of G.out⟩
set_option maxRecDepth 100000 in
set_option maxHeartbeats 8000000 in
theorem FnExactPolicyMost (ra : Option Addr) (rn rc : Nat) (rR : Nat → ByteArray) (ua : Option Addr) (un uc : Nat) (uU : Nat → RV) (wa : Option Addr) (wn wc : Nat) (wz : Nat → Int) (w : World) (rA10 : StrI w ra rn rR) (uA10 : RuI w ua un uU) (wA10 : Ints w wa wn wz) (rhm1 : rn ≤ maxLen) (rhm2 : ∀ j, j < rn → (rR j).size ≤ maxLen) (uhm1 : un ≤ maxLen) (uhm2 : ∀ j, j < un → (uU j).r.size ≤ maxLen) (whm1 : wn ≤ maxLen) :
    Calls Try.prog 17 #[.slice ra rn rc, .slice ua un uc, .slice wa wn wc] w (Yes w) := by
  have G := Lib.hid (Draw.grown_refl w none)
  replace rA10 := Lib.hid rA10
  have rA1 := Lib.hid (rA10.out.kept G.out)
  replace uA10 := Lib.hid uA10
  have uA1 := Lib.hid (uA10.out.kept G.out)
  replace wA10 := Lib.hid wA10
  have wA1 := Lib.hid (wA10.out.kept G.out)
  go_enter Try.func17, Try.ntmps17
  by_cases hbwn : (1048576 : Int) < (wn : Int)
  · go_wp2
    go_ret
    exact ⟨rfl, Draw.below_of G.out⟩
  go_wp2_with fail
  refine (szstrs _ _ rn _ rR 1048576 (by omega) (by omega) rA1.out rhm1 rhm2).mono ?_
  rintro e v1 ⟨r0, rfl, hg, hr⟩
  replace G := Lib.hid (gtr G.out hg)
  replace rA1 := Lib.hid (rA10.out.kept G.out)
  replace uA1 := Lib.hid (uA10.out.kept G.out)
  replace wA1 := Lib.hid (wA10.out.kept G.out)
  clear hg
  rcases hr with rfl | ⟨h0a, h0b, rhl0⟩
  · go_wp2
    go_ret
    exact ⟨rfl, Draw.below_of G.out⟩
  have hn0 : ¬ r0 < 0 := by omega
  go_wp2_with fail
  refine (szrules _ _ un _ uU r0 (by omega) (by omega) uA1.out uhm1 uhm2).mono ?_
  rintro e v2 ⟨r1, rfl, hg, hr⟩
  replace G := Lib.hid (gtr G.out hg)
  replace rA1 := Lib.hid (rA10.out.kept G.out)
  replace uA1 := Lib.hid (uA10.out.kept G.out)
  replace wA1 := Lib.hid (wA10.out.kept G.out)
  clear hg
  rcases hr with rfl | ⟨h1a, h1b, uhl0⟩
  · go_wp2
    go_ret
    exact ⟨rfl, Draw.below_of G.out⟩
  have hn1 : ¬ r1 < 0 := by omega
  go_wp2_with fail
  refine (tostrs _ _ rn _ rR rA1.out (by omega)).mono ?_
  rintro e v3 ⟨s0b1, rfl, s0r1, hg⟩
  replace G := Lib.hid (gtr G.out hg)
  replace rA1 := Lib.hid (rA10.out.kept G.out)
  replace uA1 := Lib.hid (uA10.out.kept G.out)
  replace wA1 := Lib.hid (wA10.out.kept G.out)
  clear hg
  have s0P1 := Lib.hid (s0r1.str)
  clear s0r1
  go_wp2_with fail
  refine (torules _ _ un _ uU uA1.out (by omega)).mono ?_
  rintro e v4 ⟨s1b1, rfl, s1r1, hg⟩
  replace G := Lib.hid (gtr G.out hg)
  replace rA1 := Lib.hid (rA10.out.kept G.out)
  replace uA1 := Lib.hid (uA10.out.kept G.out)
  replace wA1 := Lib.hid (wA10.out.kept G.out)
  replace s0P1 := Lib.hid (s0P1.out.kept hg)
  clear hg
  have s1P1 := Lib.hid (row_rul s1r1)
  clear s1r1
  go_wp2_with fail
  refine (toInt _ _ wn _ wz wA1.out (by omega)).mono ?_
  rintro e v5 ⟨s2b1, rfl, s2r1, hg⟩
  replace G := Lib.hid (gtr G.out hg)
  replace rA1 := Lib.hid (rA10.out.kept G.out)
  replace uA1 := Lib.hid (uA10.out.kept G.out)
  replace wA1 := Lib.hid (wA10.out.kept G.out)
  replace s0P1 := Lib.hid (s0P1.out.kept hg)
  replace s1P1 := Lib.hid (s1P1.out.kept hg)
  clear hg
  have s2P1 := Lib.hid (s2r1.ints)
  clear s2r1
  go_wp2_with fail
  refine (spmost _ _ rn _ rR _ un _ uU _ wn _ wz s0P1.out s1P1.out s2P1.out (by omega) (by omega) (by omega) (Nat.le_refl _)).mono ?_
  rintro e v6 ⟨rfl, hg⟩
  replace G := Lib.hid (gtr G.out hg)
  replace rA1 := Lib.hid (rA10.out.kept G.out)
  replace uA1 := Lib.hid (uA10.out.kept G.out)
  replace wA1 := Lib.hid (wA10.out.kept G.out)
  replace s0P1 := Lib.hid (s0P1.out.kept hg)
  replace s1P1 := Lib.hid (s1P1.out.kept hg)
  replace s2P1 := Lib.hid (s2P1.out.kept hg)
  clear hg
  clear s0P1 s1P1 s2P1
  go_wp2_with fail
  refine (tostrs _ _ rn _ rR rA1.out (by omega)).mono ?_
  rintro e v7 ⟨x0b1, rfl, x0r1, hg⟩
  replace G := Lib.hid (gtr G.out hg)
  replace rA1 := Lib.hid (rA10.out.kept G.out)
  replace uA1 := Lib.hid (uA10.out.kept G.out)
  replace wA1 := Lib.hid (wA10.out.kept G.out)
  clear hg
  have Cx0 := Lib.hid (Draw.grown_refl v7 none)
  have x0P1 := Lib.hid (x0r1.str)
  have x0P10 := x0P1
  clear x0r1
  go_wp2_with fail
  refine (torules _ _ un _ uU uA1.out (by omega)).mono ?_
  rintro e v8 ⟨x1b1, rfl, x1r1, hg⟩
  replace G := Lib.hid (gtr G.out hg)
  replace rA1 := Lib.hid (rA10.out.kept G.out)
  replace uA1 := Lib.hid (uA10.out.kept G.out)
  replace wA1 := Lib.hid (wA10.out.kept G.out)
  replace Cx0 := Lib.hid (gtr Cx0.out hg)
  replace x0P1 := Lib.hid (x0P10.out.kept Cx0.out)
  clear hg
  have Cx1 := Lib.hid (Draw.grown_refl v8 none)
  have x1P1 := Lib.hid (row_rul x1r1)
  have x1P10 := x1P1
  clear x1r1
  go_wp2_with fail
  refine (toInt _ _ wn _ wz wA1.out (by omega)).mono ?_
  rintro e v9 ⟨x2b1, rfl, x2r1, hg⟩
  replace G := Lib.hid (gtr G.out hg)
  replace rA1 := Lib.hid (rA10.out.kept G.out)
  replace uA1 := Lib.hid (uA10.out.kept G.out)
  replace wA1 := Lib.hid (wA10.out.kept G.out)
  replace Cx0 := Lib.hid (gtr Cx0.out hg)
  replace x0P1 := Lib.hid (x0P10.out.kept Cx0.out)
  replace Cx1 := Lib.hid (gtr Cx1.out hg)
  replace x1P1 := Lib.hid (x1P10.out.kept Cx1.out)
  clear hg
  have Cx2 := Lib.hid (Draw.grown_refl v9 none)
  have x2P1 := Lib.hid (x2r1.ints)
  have x2P10 := x2P1
  clear x2r1
  go_wp2_with fail
  refine (ipmost _ _ rn _ rR _ un _ uU _ wn _ wz x0P1.out x1P1.out x2P1.out (by omega) (by omega) (by omega)).mono ?_
  rintro e v10 ⟨rfl, hg⟩
  replace G := Lib.hid (gtr G.out hg)
  replace rA1 := Lib.hid (rA10.out.kept G.out)
  replace uA1 := Lib.hid (uA10.out.kept G.out)
  replace wA1 := Lib.hid (wA10.out.kept G.out)
  replace Cx0 := Lib.hid (gtr Cx0.out hg)
  replace x0P1 := Lib.hid (x0P10.out.kept Cx0.out)
  replace Cx1 := Lib.hid (gtr Cx1.out hg)
  replace x1P1 := Lib.hid (x1P10.out.kept Cx1.out)
  replace Cx2 := Lib.hid (gtr Cx2.out hg)
  replace x2P1 := Lib.hid (x2P10.out.kept Cx2.out)
  clear hg
  have hne0 : (psF rn rR un uU wn wz != psF rn rR un uU wn wz) = false := by simp
  go_wp2_with fail
  refine (tostrs _ _ rn _ rR rA1.out (by omega)).mono ?_
  rintro e v11 ⟨y0b1, rfl, y0r1, hg⟩
  replace G := Lib.hid (gtr G.out hg)
  replace rA1 := Lib.hid (rA10.out.kept G.out)
  replace uA1 := Lib.hid (uA10.out.kept G.out)
  replace wA1 := Lib.hid (wA10.out.kept G.out)
  replace Cx0 := Lib.hid (gtr Cx0.out hg)
  replace x0P1 := Lib.hid (x0P10.out.kept Cx0.out)
  replace Cx1 := Lib.hid (gtr Cx1.out hg)
  replace x1P1 := Lib.hid (x1P10.out.kept Cx1.out)
  replace Cx2 := Lib.hid (gtr Cx2.out hg)
  replace x2P1 := Lib.hid (x2P10.out.kept Cx2.out)
  clear hg
  have y0P1 := Lib.hid (y0r1.str)
  clear y0r1
  go_wp2_with fail
  refine (eqstrs _ _ _ rn _ _ rR x0P1.out y0P1.out (by omega)).mono ?_
  rintro e v12 ⟨rfl, hg⟩
  replace G := Lib.hid (gtr G.out hg)
  replace rA1 := Lib.hid (rA10.out.kept G.out)
  replace uA1 := Lib.hid (uA10.out.kept G.out)
  replace wA1 := Lib.hid (wA10.out.kept G.out)
  replace Cx0 := Lib.hid (gtr Cx0.out hg)
  replace x0P1 := Lib.hid (x0P10.out.kept Cx0.out)
  replace Cx1 := Lib.hid (gtr Cx1.out hg)
  replace x1P1 := Lib.hid (x1P10.out.kept Cx1.out)
  replace Cx2 := Lib.hid (gtr Cx2.out hg)
  replace x2P1 := Lib.hid (x2P10.out.kept Cx2.out)
  replace y0P1 := Lib.hid (y0P1.out.kept hg)
  clear hg
  clear y0P1
  go_wp2_with fail
  refine (torules _ _ un _ uU uA1.out (by omega)).mono ?_
  rintro e v13 ⟨y1b1, rfl, y1r1, hg⟩
  replace G := Lib.hid (gtr G.out hg)
  replace rA1 := Lib.hid (rA10.out.kept G.out)
  replace uA1 := Lib.hid (uA10.out.kept G.out)
  replace wA1 := Lib.hid (wA10.out.kept G.out)
  replace Cx0 := Lib.hid (gtr Cx0.out hg)
  replace x0P1 := Lib.hid (x0P10.out.kept Cx0.out)
  replace Cx1 := Lib.hid (gtr Cx1.out hg)
  replace x1P1 := Lib.hid (x1P10.out.kept Cx1.out)
  replace Cx2 := Lib.hid (gtr Cx2.out hg)
  replace x2P1 := Lib.hid (x2P10.out.kept Cx2.out)
  clear hg
  have y1P1 := Lib.hid (row_rul y1r1)
  clear y1r1
  go_wp2_with fail
  refine (eqrules _ _ _ un _ _ uU x1P1.out y1P1.out (by omega)).mono ?_
  rintro e v14 ⟨rfl, hg⟩
  replace G := Lib.hid (gtr G.out hg)
  replace rA1 := Lib.hid (rA10.out.kept G.out)
  replace uA1 := Lib.hid (uA10.out.kept G.out)
  replace wA1 := Lib.hid (wA10.out.kept G.out)
  replace Cx0 := Lib.hid (gtr Cx0.out hg)
  replace x0P1 := Lib.hid (x0P10.out.kept Cx0.out)
  replace Cx1 := Lib.hid (gtr Cx1.out hg)
  replace x1P1 := Lib.hid (x1P10.out.kept Cx1.out)
  replace Cx2 := Lib.hid (gtr Cx2.out hg)
  replace x2P1 := Lib.hid (x2P10.out.kept Cx2.out)
  replace y1P1 := Lib.hid (y1P1.out.kept hg)
  clear hg
  clear y1P1
  go_wp2_with fail
  refine (toInt _ _ wn _ wz wA1.out (by omega)).mono ?_
  rintro e v15 ⟨y2b1, rfl, y2r1, hg⟩
  replace G := Lib.hid (gtr G.out hg)
  replace rA1 := Lib.hid (rA10.out.kept G.out)
  replace uA1 := Lib.hid (uA10.out.kept G.out)
  replace wA1 := Lib.hid (wA10.out.kept G.out)
  replace Cx0 := Lib.hid (gtr Cx0.out hg)
  replace x0P1 := Lib.hid (x0P10.out.kept Cx0.out)
  replace Cx1 := Lib.hid (gtr Cx1.out hg)
  replace x1P1 := Lib.hid (x1P10.out.kept Cx1.out)
  replace Cx2 := Lib.hid (gtr Cx2.out hg)
  replace x2P1 := Lib.hid (x2P10.out.kept Cx2.out)
  clear hg
  have y2P1 := Lib.hid (y2r1.ints)
  clear y2r1
  go_wp2_with fail
  refine (eqint _ _ _ wn _ _ wz x2P1.out y2P1.out (by omega)).mono ?_
  rintro e v16 ⟨rfl, hg⟩
  replace G := Lib.hid (gtr G.out hg)
  replace rA1 := Lib.hid (rA10.out.kept G.out)
  replace uA1 := Lib.hid (uA10.out.kept G.out)
  replace wA1 := Lib.hid (wA10.out.kept G.out)
  replace Cx0 := Lib.hid (gtr Cx0.out hg)
  replace x0P1 := Lib.hid (x0P10.out.kept Cx0.out)
  replace Cx1 := Lib.hid (gtr Cx1.out hg)
  replace x1P1 := Lib.hid (x1P10.out.kept Cx1.out)
  replace Cx2 := Lib.hid (gtr Cx2.out hg)
  replace x2P1 := Lib.hid (x2P10.out.kept Cx2.out)
  replace y2P1 := Lib.hid (y2P1.out.kept hg)
  clear hg
  clear y2P1
  go_wp2
  go_ret
  exact ⟨rfl, Draw.below_of G.out⟩
end Run
end Go.Proofs.Ythbigmcklacbnaa
