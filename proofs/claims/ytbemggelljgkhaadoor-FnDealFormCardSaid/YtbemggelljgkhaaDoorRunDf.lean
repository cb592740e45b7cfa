/-
  The walk of the law on how much a deal shows.
-/
import Derived.Test.YtbemggelljgkhaaDoorDq
import Derived.Test.YtbemggelljgkhaaDoorRunKit
namespace Go.Proofs.YtbemggelljgkhaaDoor
namespace Run
open Go.RowKit Alg Mem Con
set_option linter.unusedVariables false

set_option maxRecDepth 100000 in
set_option maxHeartbeats 4000000 in
theorem FnDealForm (a : Option Addr) (len cap : Nat) (w : World) (a0 : Addr) (hv : Sent w a0) (hB : Draw.Bytes w w.heap.size a len) (hc : len ≤ cap) (hm : cap ≤ maxLen) :
    Calls Tryd.prog 5 #[.slice a len cap] w (Yes w) := by
  by_cases hbig : 1048576 < len
  · have hbig' : (1048576 : Int) < (len : Int) := by omega
    clear hB
    go_enter Tryd.func5, Tryd.ntmps5
    go_wp2
    go_ret
    exact ⟨rfl, Below.refl _ _⟩
  have hbig' : ¬ (1048576 : Int) < (len : Int) := by omega
  go_enter Tryd.func5, Tryd.ntmps5
  go_wp2_with fail
  refine (Draw.drawDOk _ a len cap hB hc hm).mono ?_
  rintro e w1 ⟨f, b1, n, c1, z1, b2, m, c2, z2, need, many, rfl, hn5, hm6, hc1, hc1', hc2, hc2', q1, q2, q3, q4, hI1, hI2, hg⟩
  have HO := Lib.hid (Draw.grown_alloc w1 (.cells #[.int .i64 f, .slice (some ⟨b1, 0, none⟩) n c1, .slice (some ⟨b2, 0, none⟩) m c2] 25) none)
  have HD := Lib.hid (Dl.new w1 f (.slice (some ⟨b1, 0, none⟩) n c1) (.slice (some ⟨b2, 0, none⟩) m c2) 25)
  have HA := Lib.hid (hI1.kept HO.out); have HB := Lib.hid (hI2.kept HO.out); have G2 := Lib.hid (gtr hg HO.out); have HV := Lib.hid hv
  clear hB hI1 hI2 hg hv HO
  go_wp2_with fail
  refine (idealok _ f _ n c1 z1 _ m c2 z2 need many HA.out HB.out (by omega) (by omega) a0 (HV.out.kept G2.out)).mono ?_
  rintro e w3 ⟨rfl, hg⟩
  have HA3 := Lib.hid (HA.out.kept hg); have HB3 := Lib.hid (HB.out.kept hg); have HD3 := Lib.hid (HD.out.kept hg); have G3 := Lib.hid (gtr G2.out hg)
  clear hg HA HB HD G2
  obtain ⟨_, k0, k1, k2⟩ := HD3.out
  go_wp2_with fail
  refine (sdealok _ f _ n c1 z1 _ m c2 z2 need many HA3.out HB3.out (by omega) (by omega)).mono ?_
  rintro e w4 ⟨rfl, hg⟩
  have HA4 := Lib.hid (HA3.out.kept hg); have HB4 := Lib.hid (HB3.out.kept hg); have HD4 := Lib.hid (HD3.out.kept hg); have G4 := Lib.hid (gtr G3.out hg)
  clear hg HA3 HB3 HD3 G3 k0 k1 k2
  obtain ⟨_, k0, k1, k2⟩ := HD4.out
  cases hp : dlF f n z1 m z2 need many with
  | false =>
    go_wp2_with fail
    refine (sdealok _ f _ n c1 z1 _ m c2 z2 need many HA4.out HB4.out (by omega) (by omega)).mono ?_
    rintro e w5 ⟨rfl, hg⟩
    have G5 := Lib.hid (gtr G4.out hg); clear hg
    rw [hp]
    go_wp2
    go_ret
    exact ⟨rfl, Draw.below_of G5.out⟩
  | true =>
    obtain ⟨⟨f1, f5⟩, ⟨cr1, cr2, cr3⟩, ⟨hnn, hck⟩, hmm, hzz⟩ := dl_iff.1 hp
    have HN1 := Lib.hid (dl_n (f := f) (n1 := n) (z1 := z1) (n2 := m) (z2 := z2) (need := need + 1) (many := many) (by omega))
    have HN2 := Lib.hid (dl_s (f := f) (n1 := n) (z1 := z1) (n2 := m) (z2 := z2) (need := need) (many := many + 1) (show shF (many + 1) m z2 = false by unfold shF; rw [decide_eq_false (by omega)]; rfl))
    have HN3 := Lib.hid (dl_d (f := 0) (n1 := n) (z1 := z1) (n2 := m) (z2 := z2) (need := need) (many := many) (show deF 0 = false by decide))
    have hnb := beq_t hnn
    clear hck hzz
    have HO := Lib.hid (Draw.grown_alloc w4 (.cells #[.int .i64 0, .slice (some ⟨b1, 0, none⟩) n c1, .slice (some ⟨b2, 0, none⟩) m c2] 25) none)
    have HX := Lib.hid (Dl.new w4 0 (.slice (some ⟨b1, 0, none⟩) n c1) (.slice (some ⟨b2, 0, none⟩) m c2) 25)
    have HA5 := Lib.hid (HA4.out.kept HO.out); have HB5 := Lib.hid (HB4.out.kept HO.out); have G5 := Lib.hid (gtr G4.out HO.out); have HD5 := Lib.hid (HD4.out.kept HO.out)
    go_wp2_with fail
    refine (idealok _ f _ n c1 z1 _ m c2 z2 (need + 1) many HA5.out HB5.out (by omega) (by omega) a0 (HV.out.kept G5.out)).mono ?_
    rintro e w6 ⟨rfl, hg⟩
    have HA6 := Lib.hid (HA5.out.kept hg); have HB6 := Lib.hid (HB5.out.kept hg); have HD6 := Lib.hid (HD5.out.kept hg); have HX6 := Lib.hid (HX.out.kept hg); have G6 := Lib.hid (gtr G5.out hg)
    clear hg k0 k1 k2
    rw [HN1.out]
    obtain ⟨_, k0, k1, k2⟩ := HD6.out
    go_wp2_with fail
    refine (idealok _ f _ n c1 z1 _ m c2 z2 need (many + 1) HA6.out HB6.out (by omega) (by omega) a0 (HV.out.kept G6.out)).mono ?_
    rintro e w7 ⟨rfl, hg⟩
    have HA7 := Lib.hid (HA6.out.kept hg); have HB7 := Lib.hid (HB6.out.kept hg); have HD7 := Lib.hid (HD6.out.kept hg); have HX7 := Lib.hid (HX6.out.kept hg); have G7 := Lib.hid (gtr G6.out hg)
    clear hg k0 k1 k2
    rw [HN2.out]
    obtain ⟨_, x0, x1, x2⟩ := HX7.out
    go_wp2_with fail
    refine (idealok _ 0 _ n c1 z1 _ m c2 z2 need many HA7.out HB7.out (by omega) (by omega) a0 (HV.out.kept G7.out)).mono ?_
    rintro e w8 ⟨rfl, hg⟩
    have HD8 := Lib.hid (HD7.out.kept hg); have G8 := Lib.hid (gtr G7.out hg)
    clear hg x0 x1 x2
    rw [HN3.out]
    obtain ⟨_, k0, k1, k2⟩ := HD8.out
    go_wp2
    go_ret
    exact ⟨by first | rfl | exact ret_b hnb, Draw.below_of G8.out⟩
end Run
end Go.Proofs.YtbemggelljgkhaaDoor
