/-
  Sessions in the laws' own helpers: lpOf, lpKey, lpSession.
-/
import Derived.Test.YthbigmcklacbnaaGreatDoorTg
import Derived.Deep.RegionHeld3
namespace Go.Proofs.YthbigmcklacbnaaGreatDoor
namespace Con
open Go.RowKit Alg Mem Draw Hd
set_option linter.unusedVariables false

set_option maxHeartbeats 1000000 in
theorem lpkeys (w : World) (need many : Int) (a1 a2 a3 a4 : Option Addr) (ng c1 c3 : Nat) (zg : Nat → Int) (nc c2 c4 : Nat) (zc : Nat → Int) (h1 : Ints w a1 ng zg) (h2 : Ints w a2 nc zc) (h3 : Ints w a3 ng zg) (h4 : Ints w a4 nc zc) (hl1 : ng ≤ 2000000) (hl2 : nc ≤ 2000000) :
    Calls Tryz.prog 21 #[.agg #[.int .i64 need, .int .i64 many, .slice a1 ng c1, .slice a2 nc c2], .agg #[.int .i64 need, .int .i64 many, .slice a3 ng c3, .slice a4 nc c4]] w fun e w' => e = .returned (.bool true) ∧ w.grownBy w' none := by
  have G := Lib.hid (gtr (Draw.grown_alloc w (.cells #[.int .i64 need, .int .i64 many, .slice a1 ng c1, .slice a2 nc c2] 25) none) (Draw.grown_alloc _ (.cells #[.int .i64 need, .int .i64 many, .slice a3 ng c3, .slice a4 nc c4] 25) none))
  have K := Lib.hid ((Ky.new w need many (.slice a1 ng c1) (.slice a2 nc c2) 25).kept (Draw.grown_alloc _ (.cells #[.int .i64 need, .int .i64 many, .slice a3 ng c3, .slice a4 nc c4] 25) none))
  have J := Lib.hid (blk_new2 w (.cells #[.int .i64 need, .int .i64 many, .slice a1 ng c1, .slice a2 nc c2] 25) #[.int .i64 need, .int .i64 many, .slice a3 ng c3, .slice a4 nc c4] 25).ky
  have H1 := Lib.hid (h1.kept G.out); have H2 := Lib.hid (h2.kept G.out); have H3 := Lib.hid (h3.kept G.out); have H4 := Lib.hid (h4.kept G.out)
  clear h1 h2 h3 h4
  have e1 : (need == need) = true := by simp
  have e2 : (many == many) = true := by simp
  go_enter Tryz.func21, Tryz.ntmps21
  obtain ⟨_, k0, k1, k2, k3⟩ := K.out
  obtain ⟨_, j0, j1, j2, j3⟩ := J.out
  go_wp2_with fail
  refine (lpints _ a1 a3 ng c1 c3 zg H1.out H3.out hl1).mono ?_
  rintro e w1 ⟨rfl, hg⟩
  clear k0 k1 k2 k3
  clear j0 j1 j2 j3
  replace G := Lib.hid (gtr G.out hg)
  replace K := Lib.hid (K.out.kept hg)
  replace J := Lib.hid (J.out.kept hg)
  replace H2 := Lib.hid (H2.out.kept hg)
  replace H4 := Lib.hid (H4.out.kept hg)
  clear hg
  obtain ⟨_, k0, k1, k2, k3⟩ := K.out
  obtain ⟨_, j0, j1, j2, j3⟩ := J.out
  go_wp2_with fail
  refine (lpints _ a2 a4 nc c2 c4 zc H2.out H4.out hl2).mono ?_
  rintro e w2 ⟨rfl, hg⟩
  clear k0 k1 k2 k3
  clear j0 j1 j2 j3
  replace G := Lib.hid (gtr G.out hg)
  replace K := Lib.hid (K.out.kept hg)
  replace J := Lib.hid (J.out.kept hg)
  replace H2 := Lib.hid (H2.out.kept hg)
  replace H4 := Lib.hid (H4.out.kept hg)
  clear hg
  obtain ⟨_, k0, k1, k2, k3⟩ := K.out
  obtain ⟨_, j0, j1, j2, j3⟩ := J.out
  go_wp2
  go_ret
  exact ⟨rfl, G.out⟩
set_option maxRecDepth 100000 in
set_option maxHeartbeats 2000000 in
theorem lpses (w : World) (need many : Int) (a1 a2 a3 a4 : Option Addr) (ng c1 c3 : Nat) (zg : Nat → Int) (nc c2 c4 : Nat) (zc : Nat → Int) (msg : Int) (a5 a6 : Option Addr) (len c5 c6 : Nat) (S : Nat → SV) (h1 : Ints w a1 ng zg) (h2 : Ints w a2 nc zc) (h3 : Ints w a3 ng zg) (h4 : Ints w a4 nc zc) (h5 : ShIn w a5 len S) (h6 : ShIn w a6 len S) (hl1 : ng ≤ 2000000) (hl2 : nc ≤ 2000000) (hl : len ≤ 2000000) :
    Calls Tryz.prog 7 #[.agg #[.int .i64 need, .int .i64 many, .slice a1 ng c1, .slice a2 nc c2, .int .i64 msg, .slice a5 len c5], .agg #[.int .i64 need, .int .i64 many, .slice a3 ng c3, .slice a4 nc c4, .int .i64 msg, .slice a6 len c6]] w fun e w' => e = .returned (.bool true) ∧ w.grownBy w' none := by
  have G := Lib.hid (gtr (Draw.grown_alloc w (.cells #[.int .i64 need, .int .i64 many, .slice a1 ng c1, .slice a2 nc c2, .int .i64 msg, .slice a5 len c5] 30) none) (Draw.grown_alloc _ (.cells #[.int .i64 need, .int .i64 many, .slice a3 ng c3, .slice a4 nc c4, .int .i64 msg, .slice a6 len c6] 30) none))
  have K := Lib.hid ((Ss.of_blk (Blk.new w #[.int .i64 need, .int .i64 many, .slice a1 ng c1, .slice a2 nc c2, .int .i64 msg, .slice a5 len c5] 30)).kept (Draw.grown_alloc _ (.cells #[.int .i64 need, .int .i64 many, .slice a3 ng c3, .slice a4 nc c4, .int .i64 msg, .slice a6 len c6] 30) none))
  have J := Lib.hid (Ss.of_blk (blk_new2 w (.cells #[.int .i64 need, .int .i64 many, .slice a1 ng c1, .slice a2 nc c2, .int .i64 msg, .slice a5 len c5] 30) #[.int .i64 need, .int .i64 many, .slice a3 ng c3, .slice a4 nc c4, .int .i64 msg, .slice a6 len c6] 30))
  have H1 := Lib.hid (h1.kept G.out); have H2 := Lib.hid (h2.kept G.out); have H3 := Lib.hid (h3.kept G.out); have H4 := Lib.hid (h4.kept G.out); have H5 := Lib.hid (h5.kept G.out); have H6 := Lib.hid (h6.kept G.out)
  clear h1 h2 h3 h4 h5 h6
  have e1 : (msg != msg) = false := by simp
  have e2 : ((len : Int) != (len : Int)) = false := by simp
  go_enter Tryz.func7, Tryz.ntmps7
  obtain ⟨_, k0, k1, k2, k3, k4, k5⟩ := K.out
  obtain ⟨_, j0, j1, j2, j3, j4, j5⟩ := J.out
  go_wp2_with fail
  refine (lpkeys _ need many a1 a2 a3 a4 ng c1 c3 zg nc c2 c4 zc H1.out H2.out H3.out H4.out hl1 hl2).mono ?_
  rintro e w1 ⟨rfl, hg⟩
  clear k0 k1 k2 k3 k4 k5
  clear j0 j1 j2 j3 j4 j5
  replace G := Lib.hid (gtr G.out hg)
  replace K := Lib.hid (K.out.kept hg)
  replace J := Lib.hid (J.out.kept hg)
  replace H5 := Lib.hid (H5.out.kept hg)
  replace H6 := Lib.hid (H6.out.kept hg)
  clear hg
  obtain ⟨_, k0, k1, k2, k3, k4, k5⟩ := K.out
  obtain ⟨_, j0, j1, j2, j3, j4, j5⟩ := J.out
  clear k0 k1 k2 k3 k4 k5
  clear j0 j1 j2 j3 j4 j5
  obtain ⟨_, k0, k1, k2, k3, k4, k5⟩ := K.out
  obtain ⟨_, j0, j1, j2, j3, j4, j5⟩ := J.out
  go_wp2
  clear k0 k1 k2 k3 k4 k5 j0 j1 j2 j3 j4 j5
  go_loopw [5] (fun i wr => ∃ k : Nat, k ≤ len ∧ i = .int .i64 k ∧ w1.grownBy wr none) (fun i _ => len - (intOf i).toNat)
  case atStart => exact ⟨0, by omega, rfl, Draw.grown_refl _ _⟩
  case round =>
    obtain ⟨k, hk, rfl, hg⟩ := hrel
    have HGr := Lib.hid hg
    clear hg
    obtain ⟨_, k0, k1, k2, k3, k4, k5⟩ := K.out.kept HGr.out
    obtain ⟨_, j0, j1, j2, j3, j4, j5⟩ := J.out.kept HGr.out
    by_cases hlt : k < len
    · obtain ⟨b, off, rfl, hb, hcc⟩ := (H5.out.kept HGr.out).ptr (by omega)
      obtain ⟨x0, x1, x2, x3⟩ := hcc k hlt
      obtain ⟨b', off', rfl, hb', hcc'⟩ := (H6.out.kept HGr.out).ptr (by omega)
      obtain ⟨y0, y1, y2, y3⟩ := hcc' k hlt
      clear hcc hcc'
      have hj1 : (0 : Int) ≤ (k : Int) := by omega
      have hj2 : (k : Int) < (len : Int) := by omega
      go_wp2_with fail
      go_region_held3 (fun w' => w'.cell? ⟨w.heap.size, 5, none⟩ = some (.slice (some ⟨b, off, none⟩) len c5) ∧ w'.cell? ⟨w.heap.size + 1, 5, none⟩ = some (.slice (some ⟨b', off', none⟩) len c6) ∧ w'.cell? ⟨b, off + k * 4, none⟩ = some (.int .i64 (S k).m) ∧ w'.cell? ⟨b, off + k * 4 + 1, none⟩ = some (.int .i64 (S k).R) ∧ w'.cell? ⟨b, off + k * 4 + 2, none⟩ = some (.bool (S k).on) ∧ w'.cell? ⟨b, off + k * 4 + 3, none⟩ = some (.int .i64 (S k).Z) ∧ w'.cell? ⟨b', off' + k * 4, none⟩ = some (.int .i64 (S k).m) ∧ w'.cell? ⟨b', off' + k * 4 + 1, none⟩ = some (.int .i64 (S k).R) ∧ w'.cell? ⟨b', off' + k * 4 + 2, none⟩ = some (.bool (S k).on) ∧ w'.cell? ⟨b', off' + k * 4 + 3, none⟩ = some (.int .i64 (S k).Z)) (exact ⟨k5, j5, x0, x1, x2, x3, y0, y1, y2, y3⟩) (fail)
      all_goals
        go_wp2
        go_roundw
        case rel => exact ⟨k + 1, by omega, by go_num, ⟨HGr.out.os, HGr.out.tape, HGr.out.output, HGr.out.size, HGr.out.block⟩⟩
        case measure => simp [intOf]; omega
    · obtain rfl : k = len := by omega
      go_wp2
      go_ret
      exact ⟨rfl, gtr G.out HGr.out⟩
end Con
end Go.Proofs.YthbigmcklacbnaaGreatDoor
