/-
  The walk of the law on which deals make shares anew.
-/
import Derived.Test.YtlaimokedhdnjaaDoorFd
namespace Go.Proofs.YtlaimokedhdnjaaDoor
namespace Run
open Go.RowKit Alg Mem Con Mp
set_option linter.unusedVariables false

set_option maxRecDepth 100000 in
set_option maxHeartbeats 4000000 in
theorem FnFreshOk (a : Option Addr) (len cap : Nat) (w : World) (hB : Draw.Bytes w w.heap.size a len) (hc : len ≤ cap) (hm : cap ≤ maxLen) (ad : Addr) (hv : Sent w ad) :
    Calls Tryd.prog 3 #[.slice a len cap] w (Yes w) := by
  by_cases hbig : 1048576 < len
  · have hbig' : (1048576 : Int) < (len : Int) := by omega
    clear hB
    go_enter Tryd.func3, Tryd.ntmps3
    go_wp2
    go_ret
    exact ⟨rfl, Below.refl _ _⟩
  have hbig' : ¬ (1048576 : Int) < (len : Int) := by omega
  have HV := Lib.hid hv; clear hv
  go_enter Tryd.func3, Tryd.ntmps3
  go_wp2_with fail
  refine (Draw.drawFO _ a len cap hB hc hm).mono ?_
  rintro e w1 ⟨need, many, ag, ng, cg, zg, ac, nc, cc, zc, f, a1, n1, c1, z1, a2, n2, c2, z2, rfl, b1, b2, b3, b4, i1, i2, i3, i4, hg⟩
  have G := Lib.hid (gtr (gtr hg (Draw.grown_alloc w1 (.cells #[.int .i64 need, .int .i64 many, .slice ag ng cg, .slice ac nc cc] 25) none)) (Draw.grown_alloc _ (.cells #[.int .i64 f, .slice a1 n1 c1, .slice a2 n2 c2] 27) none))
  have K := Lib.hid ((Ky.new w1 need many (.slice ag ng cg) (.slice ac nc cc) 25).kept (Draw.grown_alloc _ (.cells #[.int .i64 f, .slice a1 n1 c1, .slice a2 n2 c2] 27) none))
  have D := Lib.hid (blk_new2 w1 (.cells #[.int .i64 need, .int .i64 many, .slice ag ng cg, .slice ac nc cc] 25) #[.int .i64 f, .slice a1 n1 c1, .slice a2 n2 c2] 27).dl
  have g1 := gtr (Draw.grown_alloc w1 (.cells #[.int .i64 need, .int .i64 many, .slice ag ng cg, .slice ac nc cc] 25) none) (Draw.grown_alloc _ (.cells #[.int .i64 f, .slice a1 n1 c1, .slice a2 n2 c2] 27) none)
  have I1 := Lib.hid (i1.kept g1); have I2 := Lib.hid (i2.kept g1); have I3 := Lib.hid (i3.kept g1); have I4 := Lib.hid (i4.kept g1)
  replace HV := Lib.hid (HV.out.kept G.out)
  clear i1 i2 i3 i4 g1 hg hB
  obtain ⟨_, k0, k1, k2, k3⟩ := K.out
  obtain ⟨_, d0, d1, d2⟩ := D.out
  go_wp2_with fail
  refine (ifok _ need many _ ng _ zg _ nc _ zc f _ n1 _ z1 _ n2 _ z2 I1.out I2.out I3.out I4.out (by omega) (by omega) (by omega) (by omega) ad HV.out).mono ?_
  rintro e w2 ⟨rfl, hg⟩
  clear k0 k1 k2 k3
  clear d0 d1 d2
  replace G := Lib.hid (gtr G.out hg)
  replace K := Lib.hid (K.out.kept hg)
  replace D := Lib.hid (D.out.kept hg)
  replace I1 := Lib.hid (I1.out.kept hg)
  replace I2 := Lib.hid (I2.out.kept hg)
  replace I3 := Lib.hid (I3.out.kept hg)
  replace I4 := Lib.hid (I4.out.kept hg)
  replace HV := Lib.hid (HV.out.kept hg)
  clear hg
  obtain ⟨_, k0, k1, k2, k3⟩ := K.out
  obtain ⟨_, d0, d1, d2⟩ := D.out
  go_wp2_with fail
  refine (sfok _ need many _ ng _ zg _ nc _ zc f _ n1 _ z1 _ n2 _ z2 I1.out I2.out I3.out I4.out (by omega) (by omega) (by omega) (by omega)).mono ?_
  rintro e w3 ⟨rfl, hg⟩
  clear k0 k1 k2 k3
  clear d0 d1 d2
  replace G := Lib.hid (gtr G.out hg)
  replace K := Lib.hid (K.out.kept hg)
  replace D := Lib.hid (D.out.kept hg)
  replace I1 := Lib.hid (I1.out.kept hg)
  replace I2 := Lib.hid (I2.out.kept hg)
  replace I3 := Lib.hid (I3.out.kept hg)
  replace I4 := Lib.hid (I4.out.kept hg)
  replace HV := Lib.hid (HV.out.kept hg)
  clear hg
  obtain ⟨_, k0, k1, k2, k3⟩ := K.out
  obtain ⟨_, d0, d1, d2⟩ := D.out
  have hne : (frF need many ng zg nc zc f n1 z1 n2 z2 != frF need many ng zg nc zc f n1 z1 n2 z2) = false := by simp
  have heq : (frF need many ng zg nc zc f n1 z1 n2 z2 == frF need many ng zg nc zc f n1 z1 n2 z2) = true := by simp
  cases hk : kyF need many ng zg nc zc with
  | false =>
    generalize hq : frF need many ng zg nc zc f n1 z1 n2 z2 = q at hne heq ⊢
    have HQ := Lib.hid hq; clear hq
    go_wp2_with fail
    refine (skeyok _ need many _ ng _ zg _ nc _ zc I1.out I2.out (by omega) (by omega)).mono ?_
    rintro e w4 ⟨rfl, hg⟩
    clear k0 k1 k2 k3
    clear d0 d1 d2
    replace G := Lib.hid (gtr G.out hg)
    replace K := Lib.hid (K.out.kept hg)
    replace D := Lib.hid (D.out.kept hg)
    replace I1 := Lib.hid (I1.out.kept hg)
    replace I2 := Lib.hid (I2.out.kept hg)
    replace I3 := Lib.hid (I3.out.kept hg)
    replace I4 := Lib.hid (I4.out.kept hg)
    replace HV := Lib.hid (HV.out.kept hg)
    clear hg
    obtain ⟨_, k0, k1, k2, k3⟩ := K.out
    obtain ⟨_, d0, d1, d2⟩ := D.out
    rw [hk]
    go_wp2_with fail
    refine (sfok _ need many _ ng _ zg _ nc _ zc f _ n1 _ z1 _ n2 _ z2 I1.out I2.out I3.out I4.out (by omega) (by omega) (by omega) (by omega)).mono ?_
    rintro e w5 ⟨rfl, hg⟩
    clear k0 k1 k2 k3
    clear d0 d1 d2
    replace G := Lib.hid (gtr G.out hg)
    replace K := Lib.hid (K.out.kept hg)
    replace D := Lib.hid (D.out.kept hg)
    replace I1 := Lib.hid (I1.out.kept hg)
    replace I2 := Lib.hid (I2.out.kept hg)
    replace I3 := Lib.hid (I3.out.kept hg)
    replace I4 := Lib.hid (I4.out.kept hg)
    replace HV := Lib.hid (HV.out.kept hg)
    clear hg
    obtain ⟨_, k0, k1, k2, k3⟩ := K.out
    obtain ⟨_, d0, d1, d2⟩ := D.out
    rw [HQ.out]
    go_wp2
    go_ret
    exact ⟨rfl, Draw.below_of G.out⟩
  | true =>
    cases hd : dlF f n1 z1 n2 z2 need many with
    | false =>
      have HF := Lib.hid (fr_not (need := need) (many := many) (ng := ng) (zg := zg) (nc := nc) (zc := zc) (f := f) (n1 := n1) (z1 := z1) (n2 := n2) (z2 := z2) (by simp [hd]))
      rw [HF.out]
      clear hne heq
      go_wp2_with fail
      refine (skeyok _ need many _ ng _ zg _ nc _ zc I1.out I2.out (by omega) (by omega)).mono ?_
      rintro e w4 ⟨rfl, hg⟩
      clear k0 k1 k2 k3
      clear d0 d1 d2
      replace G := Lib.hid (gtr G.out hg)
      replace K := Lib.hid (K.out.kept hg)
      replace D := Lib.hid (D.out.kept hg)
      replace I1 := Lib.hid (I1.out.kept hg)
      replace I2 := Lib.hid (I2.out.kept hg)
      replace I3 := Lib.hid (I3.out.kept hg)
      replace I4 := Lib.hid (I4.out.kept hg)
      replace HV := Lib.hid (HV.out.kept hg)
      clear hg
      obtain ⟨_, k0, k1, k2, k3⟩ := K.out
      obtain ⟨_, d0, d1, d2⟩ := D.out
      rw [hk]
      go_wp2_with fail
      refine (idealok _ f _ n1 _ z1 _ n2 _ z2 need many I3.out I4.out (by omega) (by omega) ad HV.out).mono ?_
      rintro e w5 ⟨rfl, hg⟩
      clear k0 k1 k2 k3
      clear d0 d1 d2
      replace G := Lib.hid (gtr G.out hg)
      replace K := Lib.hid (K.out.kept hg)
      replace D := Lib.hid (D.out.kept hg)
      replace I1 := Lib.hid (I1.out.kept hg)
      replace I2 := Lib.hid (I2.out.kept hg)
      replace I3 := Lib.hid (I3.out.kept hg)
      replace I4 := Lib.hid (I4.out.kept hg)
      replace HV := Lib.hid (HV.out.kept hg)
      clear hg
      obtain ⟨_, k0, k1, k2, k3⟩ := K.out
      obtain ⟨_, d0, d1, d2⟩ := D.out
      rw [hd]
      go_wp2
      go_ret
      exact ⟨rfl, Draw.below_of G.out⟩
    | true =>
      have hdd := dl_iff.1 hd
      have hn1' : 0 < n1 := by omega
      have hn1 : (0 : Int) < (n1 : Int) := by omega
      obtain ⟨b1, o1, rfl⟩ : ∃ b1 o1, a1 = some ⟨b1, o1, none⟩ := by
        rcases I3.out with h | ⟨b, off, h, _⟩
        · omega
        · exact ⟨b, off, h⟩
      have hz0 : ∀ W : World, Ints W (some ⟨b1, o1, none⟩) n1 z1 → W.cell? ⟨b1, o1, none⟩ = some (.int .i64 (z1 0)) := by
        intro W hI
        rcases hI with h | ⟨b, off, h, hb, hc⟩
        · omega
        · injection h with h; injection h with h1 h2; subst h1; subst h2
          simpa using hc 0 hn1'
      have HZ0 := Lib.hid hz0; clear hz0 hdd
      by_cases hf : f ≤ many
      · by_cases hz : z1 0 = 1
        · skip
          have HF := Lib.hid (fr_last hk hd hf hz)
          rw [HF.out]
          clear hne heq
          go_wp2_with fail
          refine (skeyok _ need many _ ng _ zg _ nc _ zc I1.out I2.out (by omega) (by omega)).mono ?_
          rintro e w4 ⟨rfl, hg⟩
          clear k0 k1 k2 k3
          clear d0 d1 d2
          replace G := Lib.hid (gtr G.out hg)
          replace K := Lib.hid (K.out.kept hg)
          replace D := Lib.hid (D.out.kept hg)
          replace I1 := Lib.hid (I1.out.kept hg)
          replace I2 := Lib.hid (I2.out.kept hg)
          replace I3 := Lib.hid (I3.out.kept hg)
          replace I4 := Lib.hid (I4.out.kept hg)
          replace HV := Lib.hid (HV.out.kept hg)
          clear hg
          obtain ⟨_, k0, k1, k2, k3⟩ := K.out
          obtain ⟨_, d0, d1, d2⟩ := D.out
          rw [hk]
          go_wp2_with fail
          refine (idealok _ f _ n1 _ z1 _ n2 _ z2 need many I3.out I4.out (by omega) (by omega) ad HV.out).mono ?_
          rintro e w5 ⟨rfl, hg⟩
          clear k0 k1 k2 k3
          clear d0 d1 d2
          replace G := Lib.hid (gtr G.out hg)
          replace K := Lib.hid (K.out.kept hg)
          replace D := Lib.hid (D.out.kept hg)
          replace I1 := Lib.hid (I1.out.kept hg)
          replace I2 := Lib.hid (I2.out.kept hg)
          replace I3 := Lib.hid (I3.out.kept hg)
          replace I4 := Lib.hid (I4.out.kept hg)
          replace HV := Lib.hid (HV.out.kept hg)
          clear hg
          obtain ⟨_, k0, k1, k2, k3⟩ := K.out
          obtain ⟨_, d0, d1, d2⟩ := D.out
          rw [hd]
          have hcx := HZ0.out _ I3.out
          rw [hz] at hcx
          clear hz
          go_wp2_with fail
          refine (idealbad _ f _ n1 _ z1 _ n2 _ z2 need many I3.out I4.out (by omega) (by omega) ad HV.out).mono ?_
          rintro e w6 ⟨v, rfl, hL, hg⟩
          obtain ⟨av, cv, rfl, _, _, _⟩ := hL.slice
          clear hcx
          clear k0 k1 k2 k3
          clear d0 d1 d2
          replace G := Lib.hid (gtr G.out hg)
          replace K := Lib.hid (K.out.kept hg)
          replace D := Lib.hid (D.out.kept hg)
          replace I1 := Lib.hid (I1.out.kept hg)
          replace I2 := Lib.hid (I2.out.kept hg)
          replace I3 := Lib.hid (I3.out.kept hg)
          replace I4 := Lib.hid (I4.out.kept hg)
          replace HV := Lib.hid (HV.out.kept hg)
          clear hg
          obtain ⟨_, k0, k1, k2, k3⟩ := K.out
          obtain ⟨_, d0, d1, d2⟩ := D.out
          clear hL
          generalize (bads f n1 z1 n2 z2 need many).length = m
          go_wp2
          go_ret
          exact ⟨by simp, Draw.below_of G.out⟩
        · skip
          have ht : (z1 0 == 1) = false := by simpa using hz
          have HF := Lib.hid (fr_not (need := need) (many := many) (ng := ng) (zg := zg) (nc := nc) (zc := zc) (f := f) (n1 := n1) (z1 := z1) (n2 := n2) (z2 := z2) (by simp [hz]))
          rw [HF.out]
          clear hne heq
          go_wp2_with fail
          refine (skeyok _ need many _ ng _ zg _ nc _ zc I1.out I2.out (by omega) (by omega)).mono ?_
          rintro e w4 ⟨rfl, hg⟩
          clear k0 k1 k2 k3
          clear d0 d1 d2
          replace G := Lib.hid (gtr G.out hg)
          replace K := Lib.hid (K.out.kept hg)
          replace D := Lib.hid (D.out.kept hg)
          replace I1 := Lib.hid (I1.out.kept hg)
          replace I2 := Lib.hid (I2.out.kept hg)
          replace I3 := Lib.hid (I3.out.kept hg)
          replace I4 := Lib.hid (I4.out.kept hg)
          replace HV := Lib.hid (HV.out.kept hg)
          clear hg
          obtain ⟨_, k0, k1, k2, k3⟩ := K.out
          obtain ⟨_, d0, d1, d2⟩ := D.out
          rw [hk]
          go_wp2_with fail
          refine (idealok _ f _ n1 _ z1 _ n2 _ z2 need many I3.out I4.out (by omega) (by omega) ad HV.out).mono ?_
          rintro e w5 ⟨rfl, hg⟩
          clear k0 k1 k2 k3
          clear d0 d1 d2
          replace G := Lib.hid (gtr G.out hg)
          replace K := Lib.hid (K.out.kept hg)
          replace D := Lib.hid (D.out.kept hg)
          replace I1 := Lib.hid (I1.out.kept hg)
          replace I2 := Lib.hid (I2.out.kept hg)
          replace I3 := Lib.hid (I3.out.kept hg)
          replace I4 := Lib.hid (I4.out.kept hg)
          replace HV := Lib.hid (HV.out.kept hg)
          clear hg
          obtain ⟨_, k0, k1, k2, k3⟩ := K.out
          obtain ⟨_, d0, d1, d2⟩ := D.out
          rw [hd]
          have hcx := HZ0.out _ I3.out
          go_wp2
          go_ret
          exact ⟨rfl, Draw.below_of G.out⟩
      · skip
        have hf' : decide (f ≤ (many : Int)) = false := decide_eq_false hf
        have HF := Lib.hid (fr_not (need := need) (many := many) (ng := ng) (zg := zg) (nc := nc) (zc := zc) (f := f) (n1 := n1) (z1 := z1) (n2 := n2) (z2 := z2) (by simp [hf]))
        rw [HF.out]
        clear hne heq
        go_wp2_with fail
        refine (skeyok _ need many _ ng _ zg _ nc _ zc I1.out I2.out (by omega) (by omega)).mono ?_
        rintro e w4 ⟨rfl, hg⟩
        clear k0 k1 k2 k3
        clear d0 d1 d2
        replace G := Lib.hid (gtr G.out hg)
        replace K := Lib.hid (K.out.kept hg)
        replace D := Lib.hid (D.out.kept hg)
        replace I1 := Lib.hid (I1.out.kept hg)
        replace I2 := Lib.hid (I2.out.kept hg)
        replace I3 := Lib.hid (I3.out.kept hg)
        replace I4 := Lib.hid (I4.out.kept hg)
        replace HV := Lib.hid (HV.out.kept hg)
        clear hg
        obtain ⟨_, k0, k1, k2, k3⟩ := K.out
        obtain ⟨_, d0, d1, d2⟩ := D.out
        rw [hk]
        go_wp2_with fail
        refine (idealok _ f _ n1 _ z1 _ n2 _ z2 need many I3.out I4.out (by omega) (by omega) ad HV.out).mono ?_
        rintro e w5 ⟨rfl, hg⟩
        clear k0 k1 k2 k3
        clear d0 d1 d2
        replace G := Lib.hid (gtr G.out hg)
        replace K := Lib.hid (K.out.kept hg)
        replace D := Lib.hid (D.out.kept hg)
        replace I1 := Lib.hid (I1.out.kept hg)
        replace I2 := Lib.hid (I2.out.kept hg)
        replace I3 := Lib.hid (I3.out.kept hg)
        replace I4 := Lib.hid (I4.out.kept hg)
        replace HV := Lib.hid (HV.out.kept hg)
        clear hg
        obtain ⟨_, k0, k1, k2, k3⟩ := K.out
        obtain ⟨_, d0, d1, d2⟩ := D.out
        rw [hd]
        go_wp2
        go_ret
        exact ⟨rfl, Draw.below_of G.out⟩
end Run
end Go.Proofs.YtlaimokedhdnjaaDoor
