/-
  Sessions in the laws' own helpers: lpOf, lpKey, lpSession.
-/
import Derived.Test.YtgahfifojagghaaTg
import Derived.Deep.RegionHeld3
namespace Go.Proofs.Ytgahfifojagghaa
namespace Con
open Go.RowKit Alg Mem Draw Hd
set_option linter.unusedVariables false

set_option maxRecDepth 100000 in
set_option maxHeartbeats 1000000 in
theorem lpof (w : World) (need many : Int) (s1 s2 : Value) (msg : Int) (a : Option Addr) (len cap : Nat) (S : Nat → SV) (hS : ShIn w a len S) (hl : len ≤ 2000000) :
    Calls Try.prog 22 #[.agg #[.int .i64 need, .int .i64 many, s1, s2, .int .i64 msg, .slice a len cap]] w (Own1 3 w len (mS S)) := by
  have G0 := Lib.hid (Draw.grown_alloc w (.cells #[.int .i64 need, .int .i64 many, s1, s2, .int .i64 msg, .slice a len cap] 28) none)
  have K := Lib.hid (Ss.of_blk (Blk.new w #[.int .i64 need, .int .i64 many, s1, s2, .int .i64 msg, .slice a len cap] 28))
  have HA := Lib.hid (hS.kept G0.out); clear hS
  have hs0 : (w.alloc (.cells #[.int .i64 need, .int .i64 many, s1, s2, .int .i64 msg, .slice a len cap] 28)).heap.size = w.heap.size + 1 := by show (w.heap.push _).size = _; simp
  have he := row_empty (w.alloc (.cells #[.int .i64 need, .int .i64 many, s1, s2, .int .i64 msg, .slice a len cap] 28)) 3 (mS S)
  rw [hs0] at he
  have HE := Lib.hid he; have HS0 := Lib.hid hs0; clear he hs0
  obtain ⟨i0, hi, hz0, hz1, hz2⟩ := info_parts info_int
  go_enter Try.func22, Try.ntmps22
  go_wp2
  go_loopw [3, 4] (fun v i wr => ∃ k b c : Nat, k ≤ len ∧ v = .slice (some ⟨b, 0, none⟩) k c ∧ i = .int .i64 k ∧ Row wr (w.heap.size + 1) 3 b k c (mS S) ∧ (w.alloc (.cells #[.int .i64 need, .int .i64 many, s1, s2, .int .i64 msg, .slice a len cap] 28)).grownBy wr none) (fun _ i _ => len - (intOf i).toNat)
  case atStart => exact ⟨0, w.heap.size + 1, 0, by omega, rfl, rfl, HE.out, Draw.grown_alloc _ _ _⟩
  case round =>
    obtain ⟨k, bo, co, hk, rfl, rfl, hr, hg⟩ := hrel
    have HG := Lib.hid hg; have hge := hr.from_; have HW := Lib.hid hr; clear hg hr
    have HK := Lib.hid (K.out.kept HG.out)
    obtain ⟨_, k0, k1, k2, k3, k4, k5⟩ := HK.out
    have hsz := HG.out.size
    rw [HS0.out] at hsz
    by_cases hka : k < len
    · have hlt : (k : Int) < (len : Int) := by omega
      obtain ⟨b1, o1, rfl, hb1, hc1⟩ := (HA.out.kept HG.out).ptr (by omega)
      obtain ⟨x0, x1, x2, x3⟩ := hc1 k hka
      clear hc1 x1 x2 x3
      go_wp2_with (at_builtin; refine wpList_append_own _ rfl _ _ 23 rfl (w.heap.size + 1) 3 i0 (.int .i64 0) 1 8 und_ints hi hz0 hz1 hz2 rfl (by decide) _ k (vals (mS S) k) rfl (HW.out.alloc _).owns ⟨wr.heap.size, 0, none⟩ 1 1 [.int .i64 (S k).m] rfl rfl (cell_one_new _ _ _) (by simp [Value.oneCell']) (by unfold maxLen; omega) (by omega) (by simp; omega) ?_; intro v' w1 hown' hgrow _)
      obtain ⟨b', cap', rfl, hrow⟩ := app_row hown' (show (S k).m = mS S k from rfl)
      have HR := Lib.hid hrow; have HGr := Lib.hid (app_grown HG.out (by rw [HS0.out]; exact hge) hgrow)
      clear hown' hgrow hrow
      go_wp2
      go_roundw
      case rel => exact ⟨k + 1, b', cap', by omega, rfl, by go_num, HR.out, HGr.out⟩
      case measure => simp [intOf]; omega
    · obtain rfl : k = len := by omega
      go_wp2
      go_ret
      exact ⟨_, _, rfl, HW.out.lower (by omega), gtr G0.out HG.out⟩
set_option maxHeartbeats 1000000 in
theorem lpkeys (w : World) (need many : Int) (a1 a2 a3 a4 : Option Addr) (ng c1 c3 : Nat) (zg : Nat → Int) (nc c2 c4 : Nat) (zc : Nat → Int) (h1 : Ints w a1 ng zg) (h2 : Ints w a2 nc zc) (h3 : Ints w a3 ng zg) (h4 : Ints w a4 nc zc) (hl1 : ng ≤ 2000000) (hl2 : nc ≤ 2000000) :
    Calls Try.prog 53 #[.agg #[.int .i64 need, .int .i64 many, .slice a1 ng c1, .slice a2 nc c2], .agg #[.int .i64 need, .int .i64 many, .slice a3 ng c3, .slice a4 nc c4]] w fun e w' => e = .returned (.bool true) ∧ w.grownBy w' none := by
  have G := Lib.hid (gtr (Draw.grown_alloc w (.cells #[.int .i64 need, .int .i64 many, .slice a1 ng c1, .slice a2 nc c2] 25) none) (Draw.grown_alloc _ (.cells #[.int .i64 need, .int .i64 many, .slice a3 ng c3, .slice a4 nc c4] 25) none))
  have K := Lib.hid ((Ky.new w need many (.slice a1 ng c1) (.slice a2 nc c2) 25).kept (Draw.grown_alloc _ (.cells #[.int .i64 need, .int .i64 many, .slice a3 ng c3, .slice a4 nc c4] 25) none))
  have J := Lib.hid (blk_new2 w (.cells #[.int .i64 need, .int .i64 many, .slice a1 ng c1, .slice a2 nc c2] 25) #[.int .i64 need, .int .i64 many, .slice a3 ng c3, .slice a4 nc c4] 25).ky
  have H1 := Lib.hid (h1.kept G.out); have H2 := Lib.hid (h2.kept G.out); have H3 := Lib.hid (h3.kept G.out); have H4 := Lib.hid (h4.kept G.out)
  clear h1 h2 h3 h4
  have e1 : (need == need) = true := by simp
  have e2 : (many == many) = true := by simp
  go_enter Try.func53, Try.ntmps53
  obtain ⟨_, k0, k1, k2, k3⟩ := K.out
  obtain ⟨_, j0, j1, j2, j3⟩ := J.out
  go_wp2_with fail
  refine (lpints _ a1 a3 ng c1 c3 zg H1.out H3.out hl1).mono ?_
  rintro e w1 ⟨rfl, hg⟩
  clear k0 k1 k2 k3
  clear j0 j1 j2 j3
  replace G := Lib.hid (gtr G.out hg)
  replace K := Lib.hid (K.out.kept hg)
  replace J := Lib.hid (J.out.kept hg)
  replace H2 := Lib.hid (H2.out.kept hg)
  replace H4 := Lib.hid (H4.out.kept hg)
  clear hg
  obtain ⟨_, k0, k1, k2, k3⟩ := K.out
  obtain ⟨_, j0, j1, j2, j3⟩ := J.out
  go_wp2_with fail
  refine (lpints _ a2 a4 nc c2 c4 zc H2.out H4.out hl2).mono ?_
  rintro e w2 ⟨rfl, hg⟩
  clear k0 k1 k2 k3
  clear j0 j1 j2 j3
  replace G := Lib.hid (gtr G.out hg)
  replace K := Lib.hid (K.out.kept hg)
  replace J := Lib.hid (J.out.kept hg)
  replace H2 := Lib.hid (H2.out.kept hg)
  replace H4 := Lib.hid (H4.out.kept hg)
  clear hg
  obtain ⟨_, k0, k1, k2, k3⟩ := K.out
  obtain ⟨_, j0, j1, j2, j3⟩ := J.out
  go_wp2
  go_ret
  exact ⟨rfl, G.out⟩
set_option maxRecDepth 100000 in
set_option maxHeartbeats 2000000 in
theorem lpses (w : World) (need many : Int) (a1 a2 a3 a4 : Option Addr) (ng c1 c3 : Nat) (zg : Nat → Int) (nc c2 c4 : Nat) (zc : Nat → Int) (msg : Int) (a5 a6 : Option Addr) (len c5 c6 : Nat) (S : Nat → SV) (h1 : Ints w a1 ng zg) (h2 : Ints w a2 nc zc) (h3 : Ints w a3 ng zg) (h4 : Ints w a4 nc zc) (h5 : ShIn w a5 len S) (h6 : ShIn w a6 len S) (hl1 : ng ≤ 2000000) (hl2 : nc ≤ 2000000) (hl : len ≤ 2000000) :
    Calls Try.prog 18 #[.agg #[.int .i64 need, .int .i64 many, .slice a1 ng c1, .slice a2 nc c2, .int .i64 msg, .slice a5 len c5], .agg #[.int .i64 need, .int .i64 many, .slice a3 ng c3, .slice a4 nc c4, .int .i64 msg, .slice a6 len c6]] w fun e w' => e = .returned (.bool true) ∧ w.grownBy w' none := by
  have G := Lib.hid (gtr (Draw.grown_alloc w (.cells #[.int .i64 need, .int .i64 many, .slice a1 ng c1, .slice a2 nc c2, .int .i64 msg, .slice a5 len c5] 28) none) (Draw.grown_alloc _ (.cells #[.int .i64 need, .int .i64 many, .slice a3 ng c3, .slice a4 nc c4, .int .i64 msg, .slice a6 len c6] 28) none))
  have K := Lib.hid ((Ss.of_blk (Blk.new w #[.int .i64 need, .int .i64 many, .slice a1 ng c1, .slice a2 nc c2, .int .i64 msg, .slice a5 len c5] 28)).kept (Draw.grown_alloc _ (.cells #[.int .i64 need, .int .i64 many, .slice a3 ng c3, .slice a4 nc c4, .int .i64 msg, .slice a6 len c6] 28) none))
  have J := Lib.hid (Ss.of_blk (blk_new2 w (.cells #[.int .i64 need, .int .i64 many, .slice a1 ng c1, .slice a2 nc c2, .int .i64 msg, .slice a5 len c5] 28) #[.int .i64 need, .int .i64 many, .slice a3 ng c3, .slice a4 nc c4, .int .i64 msg, .slice a6 len c6] 28))
  have H1 := Lib.hid (h1.kept G.out); have H2 := Lib.hid (h2.kept G.out); have H3 := Lib.hid (h3.kept G.out); have H4 := Lib.hid (h4.kept G.out); have H5 := Lib.hid (h5.kept G.out); have H6 := Lib.hid (h6.kept G.out)
  clear h1 h2 h3 h4 h5 h6
  have e1 : (msg != msg) = false := by simp
  have e2 : ((len : Int) != (len : Int)) = false := by simp
  go_enter Try.func18, Try.ntmps18
  obtain ⟨_, k0, k1, k2, k3, k4, k5⟩ := K.out
  obtain ⟨_, j0, j1, j2, j3, j4, j5⟩ := J.out
  go_wp2_with fail
  refine (lpkeys _ need many a1 a2 a3 a4 ng c1 c3 zg nc c2 c4 zc H1.out H2.out H3.out H4.out hl1 hl2).mono ?_
  rintro e w1 ⟨rfl, hg⟩
  clear k0 k1 k2 k3 k4 k5
  clear j0 j1 j2 j3 j4 j5
  replace G := Lib.hid (gtr G.out hg)
  replace K := Lib.hid (K.out.kept hg)
  replace J := Lib.hid (J.out.kept hg)
  replace H5 := Lib.hid (H5.out.kept hg)
  replace H6 := Lib.hid (H6.out.kept hg)
  clear hg
  obtain ⟨_, k0, k1, k2, k3, k4, k5⟩ := K.out
  obtain ⟨_, j0, j1, j2, j3, j4, j5⟩ := J.out
  clear k0 k1 k2 k3 k4 k5
  clear j0 j1 j2 j3 j4 j5
  obtain ⟨_, k0, k1, k2, k3, k4, k5⟩ := K.out
  obtain ⟨_, j0, j1, j2, j3, j4, j5⟩ := J.out
  go_wp2
  clear k0 k1 k2 k3 k4 k5 j0 j1 j2 j3 j4 j5
  go_loopw [5] (fun i wr => ∃ k : Nat, k ≤ len ∧ i = .int .i64 k ∧ w1.grownBy wr none) (fun i _ => len - (intOf i).toNat)
  case atStart => exact ⟨0, by omega, rfl, Draw.grown_refl _ _⟩
  case round =>
    obtain ⟨k, hk, rfl, hg⟩ := hrel
    have HGr := Lib.hid hg
    clear hg
    obtain ⟨_, k0, k1, k2, k3, k4, k5⟩ := K.out.kept HGr.out
    obtain ⟨_, j0, j1, j2, j3, j4, j5⟩ := J.out.kept HGr.out
    by_cases hlt : k < len
    · obtain ⟨b, off, rfl, hb, hcc⟩ := (H5.out.kept HGr.out).ptr (by omega)
      obtain ⟨x0, x1, x2, x3⟩ := hcc k hlt
      obtain ⟨b', off', rfl, hb', hcc'⟩ := (H6.out.kept HGr.out).ptr (by omega)
      obtain ⟨y0, y1, y2, y3⟩ := hcc' k hlt
      clear hcc hcc'
      have hj1 : (0 : Int) ≤ (k : Int) := by omega
      have hj2 : (k : Int) < (len : Int) := by omega
      go_wp2_with fail
      go_region_held3 (fun w' => w'.cell? ⟨w.heap.size, 5, none⟩ = some (.slice (some ⟨b, off, none⟩) len c5) ∧ w'.cell? ⟨w.heap.size + 1, 5, none⟩ = some (.slice (some ⟨b', off', none⟩) len c6) ∧ w'.cell? ⟨b, off + k * 4, none⟩ = some (.int .i64 (S k).m) ∧ w'.cell? ⟨b, off + k * 4 + 1, none⟩ = some (.int .i64 (S k).R) ∧ w'.cell? ⟨b, off + k * 4 + 2, none⟩ = some (.bool (S k).on) ∧ w'.cell? ⟨b, off + k * 4 + 3, none⟩ = some (.int .i64 (S k).Z) ∧ w'.cell? ⟨b', off' + k * 4, none⟩ = some (.int .i64 (S k).m) ∧ w'.cell? ⟨b', off' + k * 4 + 1, none⟩ = some (.int .i64 (S k).R) ∧ w'.cell? ⟨b', off' + k * 4 + 2, none⟩ = some (.bool (S k).on) ∧ w'.cell? ⟨b', off' + k * 4 + 3, none⟩ = some (.int .i64 (S k).Z)) (exact ⟨k5, j5, x0, x1, x2, x3, y0, y1, y2, y3⟩) (fail)
      all_goals
        go_wp2
        go_roundw
        case rel => exact ⟨k + 1, by omega, by go_num, ⟨HGr.out.os, HGr.out.tape, HGr.out.output, HGr.out.size, HGr.out.block⟩⟩
        case measure => simp [intOf]; omega
    · obtain rfl : k = len := by omega
      go_wp2
      go_ret
      exact ⟨rfl, gtr G.out HGr.out⟩
end Con
end Go.Proofs.Ytgahfifojagghaa
