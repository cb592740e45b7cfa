/-
  The walks of the laws on committees and on a deal's polynomial.
-/
import Derived.Test.YtbemggelljgkhaaDb
import Derived.Test.YtbemggelljgkhaaPi
import Derived.Test.YtbemggelljgkhaaRunKit
namespace Go.Proofs.Ytbemggelljgkhaa
namespace Run
open Go.RowKit Alg Mem Con
set_option linter.unusedVariables false

theorem FnCrew (a : Option Addr) (len cap : Nat) (w : World) (hB : Draw.Bytes w w.heap.size a len) (hc : len ≤ cap) (hm : cap ≤ maxLen) :
    Calls Try.prog 3 #[.slice a len cap] w (Yes w) := by
  by_cases hbig : 1048576 < len
  · have hbig' : (1048576 : Int) < (len : Int) := by omega
    clear hB
    go_enter Try.func3, Try.ntmps3
    go_wp2
    go_ret
    exact ⟨rfl, Below.refl _ _⟩
  have hbig' : ¬ (1048576 : Int) < (len : Int) := by omega
  go_enter Try.func3, Try.ntmps3
  go_wp2_with fail
  refine (Draw.drawCrew _ a len cap hB hc hm).mono ?_
  rintro e w1 ⟨n, m, n0, n1, m0, m1, rfl, hg⟩
  have G1 := Lib.hid hg; clear hg hB
  go_wp2_with fail
  refine (icrew _ n m).mono ?_
  rintro e w' ⟨rfl, rfl⟩
  go_wp2_with fail
  refine (screw _ n m).mono ?_
  rintro e w' ⟨rfl, rfl⟩
  have hself : (crewF n m == crewF n m) = true := by simp
  by_cases h1 : 1 ≤ n
  · by_cases h2 : n ≤ m
    · by_cases h3 : m ≤ 5
      · have HR := Lib.hid (crew_iff.2 ⟨h1, h2, h3⟩)
        go_wp2
        go_ret
        exact ⟨ret_b (by simp [HR.out]; try omega), Draw.below_of G1.out⟩
      · have HR := Lib.hid (crew_no (n := n) (m := m) (by omega))
        go_wp2
        go_ret
        exact ⟨ret_b (by simp [HR.out]; try omega), Draw.below_of G1.out⟩
    · have HR := Lib.hid (crew_no (n := n) (m := m) (by omega))
      go_wp2
      go_ret
      exact ⟨ret_b (by simp [HR.out]; try omega), Draw.below_of G1.out⟩
  · have HR := Lib.hid (crew_no (n := n) (m := m) (by omega))
    go_wp2
    go_ret
    exact ⟨ret_b (by simp [HR.out]; try omega), Draw.below_of G1.out⟩

theorem FnDealPoly (a : Option Addr) (len cap : Nat) (w : World) (hB : Draw.Bytes w w.heap.size a len) (hc : len ≤ cap) (hm : cap ≤ maxLen) :
    Calls Try.prog 4 #[.slice a len cap] w (Yes w) := by
  by_cases hbig : 1048576 < len
  · have hbig' : (1048576 : Int) < (len : Int) := by omega
    clear hB
    go_enter Try.func4, Try.ntmps4
    go_wp2
    go_ret
    exact ⟨rfl, Below.refl _ _⟩
  have hbig' : ¬ (1048576 : Int) < (len : Int) := by omega
  go_enter Try.func4, Try.ntmps4
  go_wp2_with fail
  refine (Draw.drawDPoly _ a len cap hB hc hm).mono ?_
  rintro e w1 ⟨x, s, d, x0, x1, s0, s1, d0, d1, rfl, hg⟩
  have G1 := Lib.hid hg; clear hg hB
  cases hp : dpok x s d with
  | false =>
    go_wp2_with fail
    refine (idpoly_no _ x s d hp).mono ?_
    rintro e w' ⟨rfl, rfl⟩
    go_wp2_with fail
    refine (sdpoly_no _ x s d hp).mono ?_
    rintro e w2 ⟨rfl, rfl⟩
    have G2 := Lib.hid (gtr G1.out (Draw.grown_alloc w1 (.cells #[] 3) none))
    go_wp2_with fail
    refine (lpints _ _ _ 0 _ _ (fun _ => 0) (Ints.zero _ _ _) (Ints.zero _ _ _) (by omega)).mono ?_
    rintro e w3 ⟨rfl, hg⟩
    have G3 := Lib.hid (gtr G2.out hg); clear hg
    go_wp2_with fail
    refine (sdpoly_no _ x s d hp).mono ?_
    rintro e w4 ⟨rfl, rfl⟩
    have G4 := Lib.hid (gtr G3.out (Draw.grown_alloc w3 (.cells #[] 3) none))
    go_wp2_with fail
    refine (lpints _ _ _ 0 _ _ (fun _ => 0) (Ints.zero _ _ _) (Ints.zero _ _ _) (by omega)).mono ?_
    rintro e w5 ⟨rfl, hg⟩
    have G5 := Lib.hid (gtr G4.out hg); clear hg
    go_wp2
    go_ret
    exact ⟨rfl, Draw.below_of G5.out⟩
  | true =>
    obtain ⟨⟨n1, n5⟩, hs, hd0, hd1⟩ := dpok_iff.1 hp
    obtain ⟨n, rfl⟩ : ∃ n : Nat, x = n := ⟨x.toNat, by omega⟩
    have HS := Lib.hid hs
    have HP := Lib.hid (pokz_dz (n := n) (seed := d) (by omega) (by omega) hs)
    have H0 := Lib.hid (patz_dz0 (n := n) (seed := d) (by omega) (by omega) hs)
    clear hp hs
    go_wp2_with fail
    refine (idpoly_yes _ n s d (by omega) (by omega) HS.out (by omega) (by omega)).mono ?_
    rintro e w2 ⟨b, rfl, hr, hg⟩
    have HR := Lib.hid hr; have G2 := Lib.hid (gtr G1.out hg); clear hr hg
    go_wp2_with fail
    refine (sdpoly_yes _ n s d (by omega) (by omega) HS.out (by omega) (by omega)).mono ?_
    rintro e w3 ⟨b3, c3, rfl, hr, hg⟩
    have HR3 := Lib.hid (HR.out.keptN hg); have HQ := Lib.hid hr; have G3 := Lib.hid (gtr G2.out hg); clear hr hg
    go_wp2_with fail
    refine (lpints _ _ _ n _ _ (dz s d) HR3.out.ints HQ.out.ints (by omega)).mono ?_
    rintro e w4 ⟨rfl, hg⟩
    have HR4 := Lib.hid (HR3.out.keptN hg); have G4 := Lib.hid (gtr G3.out hg); clear hg
    have hn0 : ¬ (n : Int) = 0 := by omega
    have hne : ((n : Int) == 0) = false := by simp; omega
    have c0 := HR4.out.cell (show 0 < n by omega)
    rw [show dz s d 0 = s from rfl] at c0
    go_wp2_with fail
    refine (ipok _ _ _ _ _ HR4.out.ints (by omega)).mono ?_
    rintro e w' ⟨rfl, rfl⟩
    have hp := HP.out
    go_wp2_with fail
    refine (ipat _ _ _ _ _ 0 HR4.out.ints (by omega)).mono ?_
    rintro e w5 ⟨rfl, hg⟩
    have G5 := Lib.hid (gtr G4.out hg); clear hg
    rw [H0.out]
    go_wp2
    go_ret
    exact ⟨by first | rfl | exact ret_b (by simp), Draw.below_of G5.out⟩
end Run
end Go.Proofs.Ytbemggelljgkhaa
