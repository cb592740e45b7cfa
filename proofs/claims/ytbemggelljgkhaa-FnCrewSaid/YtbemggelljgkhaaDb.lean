/-
  The model's polynomial of a deal, at every argument; how the model draws a committee and what a deal's polynomial is of.
-/
import Derived.Test.YtbemggelljgkhaaDa
import Derived.Test.YtbemggelljgkhaaDrawPoly
namespace Go.Proofs.Ytbemggelljgkhaa
namespace Con
open Go.RowKit Alg Mem
set_option linter.unusedVariables false

theorem sdpoly_no (w : World) (need secret seed : Int) (h : dpok need secret seed = false) :
    Calls Try.prog 13 #[.int .i64 need, .int .i64 secret, .int .i64 seed] w fun e w' => e = .returned (.slice (some ⟨w.heap.size, 0, none⟩) 0 0) ∧ w' = w.alloc (.cells #[] 3) := by
  rcases dpok_no h with h | ⟨h1, h⟩ | ⟨h1, h2, h⟩ | ⟨h1, h2, h3, h⟩ | ⟨h1, h2, h3, h4, h⟩
  · go_enter Try.func13, Try.ntmps13
    go_wp2_with fail
    refine (s6in_no _ _ _ _ (by omega)).mono ?_
    rintro e w' ⟨rfl, rfl⟩
    go_wp2
    go_ret
    exact ⟨rfl, rfl⟩
  · go_enter Try.func13, Try.ntmps13
    go_wp2_with fail
    refine (s6in_no _ _ _ _ (by omega)).mono ?_
    rintro e w' ⟨rfl, rfl⟩
    go_wp2
    go_ret
    exact ⟨rfl, rfl⟩
  · have HF := Lib.hid h; clear h
    go_enter Try.func13, Try.ntmps13
    go_wp2_with fail
    refine (s6in_yes _ _ _ _ h1 h2).mono ?_
    rintro e w' ⟨rfl, rfl⟩
    go_wp2_with fail
    refine (sok_no _ _ HF.out).mono ?_
    rintro e w' ⟨rfl, rfl⟩
    go_wp2
    go_ret
    exact ⟨rfl, rfl⟩
  · have HF := Lib.hid h3; clear h3
    go_enter Try.func13, Try.ntmps13
    go_wp2_with fail
    refine (s6in_yes _ _ _ _ h1 h2).mono ?_
    rintro e w' ⟨rfl, rfl⟩
    go_wp2_with fail
    refine (sok_yes _ _ HF.out).mono ?_
    rintro e w' ⟨rfl, rfl⟩
    go_wp2_with fail
    refine (s6in_no _ _ _ _ (by omega)).mono ?_
    rintro e w' ⟨rfl, rfl⟩
    go_wp2
    go_ret
    exact ⟨rfl, rfl⟩
  · have HF := Lib.hid h3; clear h3
    go_enter Try.func13, Try.ntmps13
    go_wp2_with fail
    refine (s6in_yes _ _ _ _ h1 h2).mono ?_
    rintro e w' ⟨rfl, rfl⟩
    go_wp2_with fail
    refine (sok_yes _ _ HF.out).mono ?_
    rintro e w' ⟨rfl, rfl⟩
    go_wp2_with fail
    refine (s6in_no _ _ _ _ (by omega)).mono ?_
    rintro e w' ⟨rfl, rfl⟩
    go_wp2
    go_ret
    exact ⟨rfl, rfl⟩
theorem sdpoly_no' (w : World) (need secret seed : Int) (h : dpok need secret seed = false) :
    Calls Try.prog 13 #[.int .i64 need, .int .i64 secret, .int .i64 seed] w fun e w' => e = .returned (.slice (some ⟨w.heap.size, 0, none⟩) 0 0) ∧ w.grownBy w' none :=
  (sdpoly_no w need secret seed h).mono fun e w' h => ⟨h.1, by rw [h.2]; exact Draw.grown_alloc _ _ _⟩
theorem sdpoly_yes (w : World) (n : Nat) (secret seed : Int) (h1 : 1 ≤ n) (h5 : n ≤ 5) (hs : fok secret = true) (hd : 0 ≤ seed) (hd' : seed ≤ 999) :
    Calls Try.prog 13 #[.int .i64 n, .int .i64 secret, .int .i64 seed] w (Own1 3 w n (dz secret seed)) := by
  have HF := Lib.hid hs; clear hs
  go_enter Try.func13, Try.ntmps13
  go_wp2_with fail
  refine (s6in_yes _ _ _ _ (by omega) (by omega)).mono ?_
  rintro e w' ⟨rfl, rfl⟩
  go_wp2_with fail
  refine (sok_yes _ _ HF.out).mono ?_
  rintro e w' ⟨rfl, rfl⟩
  go_wp2_with fail
  refine (s6in_yes _ _ _ _ hd hd').mono ?_
  rintro e w' ⟨rfl, rfl⟩
  go_wp2_with fail
  refine (s11poly _ n secret seed h1 h5 hd hd').mono ?_
  rintro e w1 ⟨b, c, rfl, hr, hg⟩
  have HR := Lib.hid hr; have HG := Lib.hid hg; clear hr hg
  go_wp2
  go_ret
  exact ⟨_, _, rfl, HR.out, HG.out⟩
theorem pokz_dz {n : Nat} {secret seed : Int} (h1 : 1 ≤ n) (h5 : n ≤ 5) (hs : fok secret = true) : pokz n (dz secret seed) = true :=
  pokz_iff.2 ⟨h1, h5, fun j _ => dz_ok hs j⟩
theorem ev_at0 {z : Nat → Int} {n : Nat} (h : 1 ≤ n) (hz : fok (z 0) = true) : Pol.fi (Pol.ev (fl z n) (Pol.cv 0)) = z 0 := by
  rw [show Pol.cv 0 = 0 from rfl, Pol.ev_zero]
  obtain ⟨m, rfl⟩ : ∃ m, n = m + 1 := ⟨n - 1, by omega⟩
  rw [show (fl z (m + 1)).headD 0 = Pol.cv (z 0) by simp [fl, List.range_succ_eq_map], Pol.fi_cv hz]
theorem patz_dz0 {n : Nat} {secret seed : Int} (h1 : 1 ≤ n) (h5 : n ≤ 5) (hs : fok secret = true) : patz n (dz secret seed) 0 = secret := by
  rw [patz_in (pokz_dz h1 h5 hs) rfl, ev_at0 h1 (dz_ok hs 0)]; rfl
end Con
namespace Draw
open Go.RowKit Mem Con

theorem drawCrew (w : World) (a : Option Addr) (len cap : Nat) (hB : Bytes w w.heap.size a len) (hc : len ≤ cap) (hm : cap ≤ maxLen) :
    Calls Try.prog 7 #[.slice a len cap] w (Got2 w 0 6) := by
  go_enter Try.func7, Try.ntmps7
  go_wp2_with fail
  refine (open_any _ w.heap.size a len cap hB (by omega) hc hm).mono ?_
  rintro e w1 ⟨rfl, hg1, hs1, l1, c1, hr1⟩
  clear hs1
  go_wp2_with fail
  refine (pick_any _ _ _ a l1 c1 0 7 hr1 (by omega) (by omega)).mono ?_
  rintro e w2 ⟨x, x0, x1, rfl, hr2, hg2, hs2⟩
  clear hs2
  have HG2 := Lib.hid hg2; clear hg2
  go_wp2_with fail
  refine (pick_any _ _ _ a l1 c1 (0 + 1) 7 hr2 (by omega) (by omega)).mono ?_
  rintro e w3 ⟨y, y0, y1, rfl, hr3, hg3, hs3⟩
  clear hs3
  have HG3 := Lib.hid hg3; clear hg3
  go_wp2_with fail
  go_ret2
  exact ⟨_, _, by omega, by omega, by omega, by omega, rfl, grown_old hg1 (grown_trans HG2.out HG3.out)⟩
theorem drawDPoly (w : World) (a : Option Addr) (len cap : Nat) (hB : Bytes w w.heap.size a len) (hc : len ≤ cap) (hm : cap ≤ maxLen) :
    Calls Try.prog 10 #[.slice a len cap] w fun e w' => ∃ x y z : Int, 0 ≤ x ∧ x ≤ 6 ∧ -1 ≤ y ∧ y ≤ 23 ∧ 0 ≤ z ∧ z ≤ 1001 ∧ e = .returned (.tuple #[.int .i64 x, .int .i64 y, .int .i64 z]) ∧ w.grownBy w' none := by
  go_enter Try.func10, Try.ntmps10
  go_wp2_with fail
  refine (open_any _ w.heap.size a len cap hB (by omega) hc hm).mono ?_
  rintro e w1 ⟨rfl, hg1, hs1, l1, c1, hr1⟩
  clear hs1
  go_wp2_with fail
  refine (pick_any _ _ _ a l1 c1 0 7 hr1 (by omega) (by omega)).mono ?_
  rintro e w2 ⟨x, x0, x1, rfl, hr2, hg2, hs2⟩
  clear hs2
  have HG2 := Lib.hid hg2; clear hg2
  go_wp2_with fail
  refine (num_any _ _ _ a l1 c1 (0 + 1) hr2 (by omega)).mono ?_
  rintro e w3 ⟨y, y0, y1, rfl, hg3, p3, _, hp3, hr3⟩
  have HG3 := Lib.hid hg3; clear hg3
  go_wp2_with fail
  refine (pick_any _ _ _ a l1 c1 p3 1002 hr3 (by omega) (by omega)).mono ?_
  rintro e w4 ⟨z, z0, z1, rfl, hr4, hg4, hs4⟩
  clear hs4
  have HG4 := Lib.hid hg4; clear hg4
  go_wp2_with fail
  go_ret3
  exact ⟨_, _, _, by omega, by omega, by omega, by omega, by omega, by omega, rfl, grown_old hg1 (grown_trans HG2.out (grown_trans HG3.out HG4.out))⟩
end Draw
end Go.Proofs.Ytbemggelljgkhaa
