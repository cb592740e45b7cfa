/-
  The walk of the law on the order in which parts come.
-/
import Derived.Test.YtgahfifojagghaaUg
import Derived.Test.YtgahfifojagghaaTl
import Derived.Test.YtgahfifojagghaaUs
import Derived.Deep.RegionHeld3
namespace Go.Proofs.Ytgahfifojagghaa
namespace Run
open Go.RowKit Alg Mem Con Mp Hd Draw
set_option linter.unusedVariables false

set_option maxRecDepth 100000 in
set_option maxHeartbeats 8000000 in
theorem FnSessionOrder (a : Option Addr) (len cap : Nat) (am : Option Addr) (lm cm : Nat) (w : World) (hB : Draw.Bytes w w.heap.size a len) (hc : len ≤ cap) (hm : cap ≤ maxLen) :
    Calls Try.prog 6 #[.slice a len cap, .slice am lm cm] w (Yes w) := by
  by_cases hbig : 1048576 < len
  · have hbig' : (1048576 : Int) < (len : Int) := by omega
    clear hB
    go_enter Try.func6, Try.ntmps6
    go_wp2
    go_ret
    exact ⟨rfl, Below.refl _ _⟩
  have hbig' : ¬ (1048576 : Int) < (len : Int) := by omega
  by_cases hbm : 1048576 < lm
  · have hbm' : (1048576 : Int) < (lm : Int) := by omega
    clear hB
    go_enter Try.func6, Try.ntmps6
    go_wp2
    go_ret
    exact ⟨rfl, Below.refl _ _⟩
  have hbm' : ¬ (1048576 : Int) < (lm : Int) := by omega
  go_enter Try.func6, Try.ntmps6
  go_wp2_with fail
  refine (Draw.drawSesPut _ a len cap hB hc hm).mono ?_
  rintro e w1 ⟨need, many, ag, ng, cg, zg, ac, nc, cc, zc, msg, a3, n, c3, S, m, z, rfl, hq1, hq2, hq3, ⟨hb1, hb2, hb3⟩, hg⟩
  have G := Lib.hid hg; have I1 := Lib.hid hq1.ints; have I2 := Lib.hid hq2.ints; have A3 := Lib.hid (sh_own hq3)
  have HS1 := Lib.hid (ints_sl (c := cg) hq1.ints); have HS2 := Lib.hid (ints_sl (c := cc) hq2.ints); have HS3 := Lib.hid (sh_sl (c := c3) (sh_own hq3))
  clear hg hq1 hq2 hq3 hB
  have hg := Draw.grown_alloc w1 (.cells #[.int .i64 need, .int .i64 many, .slice ag ng cg, .slice ac nc cc, .int .i64 msg, .slice a3 n c3] 28) none
  have B := Lib.hid (Ss.of_blk (Blk.new w1 #[.int .i64 need, .int .i64 many, .slice ag ng cg, .slice ac nc cc, .int .i64 msg, .slice a3 n c3] 28))
  replace G := Lib.hid (gtr G.out hg)
  replace I1 := Lib.hid (I1.out.kept hg)
  replace I2 := Lib.hid (I2.out.kept hg)
  replace A3 := Lib.hid (A3.out.kept hg)
  clear hg
  obtain ⟨_, k0, k1, k2, k3, k4, k5⟩ := B.out
  have hl1 : ng ≤ 2000000 := by omega
  have hl2 : nc ≤ 2000000 := by omega
  have hl3 : n ≤ 2000000 := by omega
  go_wp2_with fail
  refine (s32put _ need many _ ng _ zg _ nc _ zc msg _ n _ S m z I1.out I2.out A3.out HS1.out HS2.out HS3.out hl1 hl2 hl3).mono ?_
  rintro e w2 hsp
  clear k0 k1 k2 k3 k4 k5
  by_cases hok : tsF need many ng zg nc zc msg n S = true ∧ fok z = true
  · obtain ⟨hts, hfz⟩ := hok
    have HTS := Lib.hid hts; have HFZ := Lib.hid hfz
    obtain ⟨x1, d1, x2, d2, x3, d3, rfl, hi1, hi2, hO3, hg⟩ := sesP_get hts hfz hsp
    have X1 := Lib.hid hi1.ints; have X2 := Lib.hid hi2.ints; have X3 := Lib.hid (sh_own hO3)
    clear hsp hi1 hi2 hO3 hts hfz
    replace G := Lib.hid (gtr G.out hg)
    replace I1 := Lib.hid (I1.out.kept hg)
    replace I2 := Lib.hid (I2.out.kept hg)
    replace A3 := Lib.hid (A3.out.kept hg)
    replace B := Lib.hid (B.out.kept hg)
    clear hg
    have hg := Draw.grown_alloc w2 (.cells #[.int .i64 need, .int .i64 many, .slice (some ⟨x1, 0, none⟩) ng d1, .slice (some ⟨x2, 0, none⟩) nc d2, .int .i64 msg, .slice x3 n d3] 28) none
    have X := Lib.hid (Ss.of_blk (Blk.new w2 #[.int .i64 need, .int .i64 many, .slice (some ⟨x1, 0, none⟩) ng d1, .slice (some ⟨x2, 0, none⟩) nc d2, .int .i64 msg, .slice x3 n d3] 28))
    replace G := Lib.hid (gtr G.out hg)
    replace I1 := Lib.hid (I1.out.kept hg)
    replace I2 := Lib.hid (I2.out.kept hg)
    replace A3 := Lib.hid (A3.out.kept hg)
    replace B := Lib.hid (B.out.kept hg)
    replace X1 := Lib.hid (X1.out.kept hg)
    replace X2 := Lib.hid (X2.out.kept hg)
    replace X3 := Lib.hid (X3.out.kept hg)
    clear hg
    obtain ⟨_, k0, k1, k2, k3, k4, k5⟩ := B.out
    go_wp2_with fail
    refine (i32put _ need many _ ng _ zg _ nc _ zc msg _ n _ S m z I1.out I2.out A3.out HS1.out HS2.out HS3.out hl1 hl2 hl3).mono ?_
    rintro e w3 hsq
    clear k0 k1 k2 k3 k4 k5
    obtain ⟨y1, e1, y2, e2, y3, e3, rfl, hi1, hi2, hO3, hap, hg⟩ := sesPQ_get HTS.out HFZ.out hsq
    have Y1 := Lib.hid hi1.ints; have Y2 := Lib.hid hi2.ints; have Y3 := Lib.hid (sh_own hO3)
    clear hsq hi1 hi2 hO3 hap HS1 HS2 HS3
    replace G := Lib.hid (gtr G.out hg)
    replace I1 := Lib.hid (I1.out.kept hg)
    replace I2 := Lib.hid (I2.out.kept hg)
    replace A3 := Lib.hid (A3.out.kept hg)
    replace B := Lib.hid (B.out.kept hg)
    replace X1 := Lib.hid (X1.out.kept hg)
    replace X2 := Lib.hid (X2.out.kept hg)
    replace X3 := Lib.hid (X3.out.kept hg)
    replace X := Lib.hid (X.out.kept hg)
    clear hg
    have hg := Draw.grown_alloc w3 (.cells #[.int .i64 need, .int .i64 many, .slice y1 ng e1, .slice y2 nc e2, .int .i64 msg, .slice y3 n e3] 28) none
    have Y := Lib.hid (Ss.of_blk (Blk.new w3 #[.int .i64 need, .int .i64 many, .slice y1 ng e1, .slice y2 nc e2, .int .i64 msg, .slice y3 n e3] 28))
    replace G := Lib.hid (gtr G.out hg)
    replace I1 := Lib.hid (I1.out.kept hg)
    replace I2 := Lib.hid (I2.out.kept hg)
    replace A3 := Lib.hid (A3.out.kept hg)
    replace B := Lib.hid (B.out.kept hg)
    replace X1 := Lib.hid (X1.out.kept hg)
    replace X2 := Lib.hid (X2.out.kept hg)
    replace X3 := Lib.hid (X3.out.kept hg)
    replace X := Lib.hid (X.out.kept hg)
    replace Y1 := Lib.hid (Y1.out.kept hg)
    replace Y2 := Lib.hid (Y2.out.kept hg)
    replace Y3 := Lib.hid (Y3.out.kept hg)
    clear hg
    obtain ⟨_, k0, k1, k2, k3, k4, k5⟩ := B.out
    obtain ⟨_, x'0, x'1, x'2, x'3, x'4, x'5⟩ := X.out
    obtain ⟨_, y'0, y'1, y'2, y'3, y'4, y'5⟩ := Y.out
    go_wp2_with fail
    refine (lpses _ need many y1 y2 (some ⟨x1, 0, none⟩) (some ⟨x2, 0, none⟩) ng e1 d1 zg nc e2 d2 zc msg y3 x3 n e3 d3 (ptS S m n z) Y1.out Y2.out X1.out X2.out Y3.out X3.out hl1 hl2 hl3).mono ?_
    rintro e w4 ⟨rfl, hg⟩
    clear k0 k1 k2 k3 k4 k5
    clear x'0 x'1 x'2 x'3 x'4 x'5
    clear y'0 y'1 y'2 y'3 y'4 y'5
    replace G := Lib.hid (gtr G.out hg)
    replace I1 := Lib.hid (I1.out.kept hg)
    replace I2 := Lib.hid (I2.out.kept hg)
    replace A3 := Lib.hid (A3.out.kept hg)
    replace B := Lib.hid (B.out.kept hg)
    replace X1 := Lib.hid (X1.out.kept hg)
    replace X2 := Lib.hid (X2.out.kept hg)
    replace X3 := Lib.hid (X3.out.kept hg)
    replace X := Lib.hid (X.out.kept hg)
    replace Y1 := Lib.hid (Y1.out.kept hg)
    replace Y2 := Lib.hid (Y2.out.kept hg)
    replace Y3 := Lib.hid (Y3.out.kept hg)
    replace Y := Lib.hid (Y.out.kept hg)
    clear hg
    cases hh : hasz (mS S) m n with
    | false =>
      have HP := Lib.hid (ptS_no (z := z) hh)
      have HH := Lib.hid hh; clear hh
      obtain ⟨_, k0, k1, k2, k3, k4, k5⟩ := B.out
      obtain ⟨_, x'0, x'1, x'2, x'3, x'4, x'5⟩ := X.out
      obtain ⟨_, y'0, y'1, y'2, y'3, y'4, y'5⟩ := Y.out
      go_wp2_with fail
      refine (lpses _ need many y1 y2 (some ⟨x1, 0, none⟩) (some ⟨x2, 0, none⟩) ng e1 d1 zg nc e2 d2 zc msg y3 x3 n e3 d3 (ptS S m n z) Y1.out Y2.out X1.out X2.out Y3.out X3.out hl1 hl2 hl3).mono ?_
      rintro e w5 ⟨rfl, hg⟩
      have GE := Lib.hid (gtr G.out hg)
      clear hg
      go_wp2
      go_ret
      exact ⟨rfl, Draw.below_of GE.out⟩
    | true =>
      have HH := Lib.hid hh; clear hh
      have hf := ts_facts HTS.out
      have hn1 : 1 ≤ n := by omega
      clear hf
      obtain ⟨q, hq', hqn⟩ : ∃ q : Nat, lm % n = q ∧ q < n := ⟨_, rfl, Nat.mod_lt _ hn1⟩
      have hq : (lm : Int).tmod (n : Int) = (q : Int) := by rw [Int.tmod_eq_emod_of_nonneg (by omega), ← hq']; exact (Int.natCast_emod lm n).symm
      clear hq'
      have hqI : (q : Int) < (n : Int) := by omega
      have hq0 : (0 : Int) ≤ (q : Int) := by omega
      have hq1 : (0 : Int) ≤ (lm : Int) := by omega
      have hn0 : ¬ (n : Int) = 0 := by omega
      have hn0N : ¬ n = 0 := by omega
      have hn1I : (1 : Int) ≤ (n : Int) := by omega
      have T1 := Lib.hid (ts_pt (m := m) (z := z) HTS.out HFZ.out)
      have HO := Lib.hid (ts_has HTS.out hqn)
      obtain ⟨b3, o3, rfl, hb3', hcc⟩ := A3.out.ptr hn1
      have hs0 := (hcc q hqn).1
      clear hb3' hcc
      obtain ⟨_, _, _, _, _, _, k5⟩ := B.out
      go_wp2_with fail
      refine wp_region_held_drew (S := (fun w' => w'.cell? ⟨w1.heap.size, 5, none⟩ = some (.slice (some ⟨b3, o3, none⟩) n c3) ∧ w'.cell? ⟨b3, o3 + q * 4, none⟩ = some (.int .i64 (S q).m))) (by kernel_rfl) (⟨k5, hs0⟩) (fun hHeld => ?_)
      have hg := Draw.gdrew w4
      replace G := Lib.hid (gtr G.out hg)
      replace I1 := Lib.hid (I1.out.kept hg)
      replace I2 := Lib.hid (I2.out.kept hg)
      replace A3 := Lib.hid (A3.out.kept hg)
      replace B := Lib.hid (B.out.kept hg)
      replace X1 := Lib.hid (X1.out.kept hg)
      replace X2 := Lib.hid (X2.out.kept hg)
      replace X3 := Lib.hid (X3.out.kept hg)
      replace X := Lib.hid (X.out.kept hg)
      replace Y1 := Lib.hid (Y1.out.kept hg)
      replace Y2 := Lib.hid (Y2.out.kept hg)
      replace Y3 := Lib.hid (Y3.out.kept hg)
      replace Y := Lib.hid (Y.out.kept hg)
      clear hg
      generalize (w4).drew = w5 at *
      refine wpAnyH_take (i := 0) (oi := ⟨some 69, _, _, _, _, _⟩) (v := ?_) rfl (by kernel_rfl) (by kernel_rfl) (by kernel_rfl) (fun _ _ _ h => h) (Or.inl ⟨by rfl, ?_⟩) (by assumption) ?_
      rotate_left
      · intro w hSw; (try dsimp only at hSw); go_simp; try with_reducible rfl
      simp only [Act.put, List.setIfInBounds_toArray, List.set_cons_zero, List.set_cons_succ]
      refine wpAnyH_take (i := 1) (oi := ⟨some 70, _, _, _, _, _⟩) (v := ?_) rfl (by kernel_rfl) (by kernel_rfl) (by kernel_rfl) (fun _ _ _ h => h) (Or.inl ⟨by rfl, ?_⟩) (by assumption) ?_
      rotate_left
      · intro w hSw; (try dsimp only at hSw); go_simp; try with_reducible rfl
      simp only [Act.put, List.setIfInBounds_toArray, List.set_cons_zero, List.set_cons_succ]
      refine wpAnyH_take (i := 2) (oi := ⟨some 71, _, _, _, _, _⟩) (v := ?_) rfl (by kernel_rfl) (by kernel_rfl) (by kernel_rfl) (fun _ _ _ h => h) (Or.inl ⟨by rfl, ?_⟩) (by assumption) ?_
      rotate_left
      · intro w hSw; (try dsimp only at hSw); go_simp; try with_reducible rfl
      simp only [Act.put, List.setIfInBounds_toArray, List.set_cons_zero, List.set_cons_succ]
      refine wpAnyH_take (i := 3) (oi := ⟨some 72, _, _, _, _, _⟩) (v := ?_) rfl (by kernel_rfl) (by kernel_rfl) (by kernel_rfl) (fun _ _ _ h => h) (Or.inl ⟨by rfl, ?_⟩) (by assumption) ?_
      rotate_left
      · intro w hSw; (try dsimp only at hSw); go_simp; try with_reducible rfl
      simp only [Act.put, List.setIfInBounds_toArray, List.set_cons_zero, List.set_cons_succ]
      refine wpAnyH_take (i := 4) (oi := ⟨some 73, _, _, _, _, _⟩) (v := ?_) rfl (by kernel_rfl) (by kernel_rfl) (by kernel_rfl) (fun _ _ _ h => h) (Or.inl ⟨by rfl, ?_⟩) (by assumption) ?_
      rotate_left
      · intro w hSw; (try dsimp only at hSw); go_simp; try with_reducible rfl
      simp only [Act.put, List.setIfInBounds_toArray, List.set_cons_zero, List.set_cons_succ]
      refine wpAnyH_take (i := 5) (oi := ⟨some 74, _, _, _, _, _⟩) (v := ?_) rfl (by kernel_rfl) (by kernel_rfl) (by kernel_rfl) (fun _ _ _ h => h) (Or.inl ⟨by rfl, ?_⟩) (by assumption) ?_
      rotate_left
      · intro w hSw; (try dsimp only at hSw); go_simp; try with_reducible rfl
      simp only [Act.put, List.setIfInBounds_toArray, List.set_cons_zero, List.set_cons_succ]
      refine wpAnyH_take (i := 6) (oi := ⟨some 75, _, _, _, _, _⟩) (v := ?_) rfl (by kernel_rfl) (by kernel_rfl) (by kernel_rfl) (fun _ _ _ h => h) (Or.inl ⟨by rfl, ?_⟩) (by assumption) ?_
      rotate_left
      · intro w hSw; (try dsimp only at hSw); go_simp; try with_reducible rfl
      simp only [Act.put, List.setIfInBounds_toArray, List.set_cons_zero, List.set_cons_succ]
      refine wpAnyH_take (i := 7) (oi := ⟨some 76, _, _, _, _, _⟩) (v := ?_) rfl (by kernel_rfl) (by kernel_rfl) (by kernel_rfl) (fun _ _ _ h => h) (Or.inl ⟨by rfl, ?_⟩) (by assumption) ?_
      rotate_left
      · intro w hSw; (try dsimp only at hSw); go_simp; try with_reducible rfl
      simp only [Act.put, List.setIfInBounds_toArray, List.set_cons_zero, List.set_cons_succ]
      refine wpAnyH_take (i := 8) (oi := ⟨some 77, _, _, _, _, _⟩) (v := ?_) rfl (by kernel_rfl) (by kernel_rfl) (by kernel_rfl) (fun _ _ _ h => h) (Or.inl ⟨by rfl, ?_⟩) (by assumption) ?_
      rotate_left
      · intro w hSw; (try dsimp only at hSw); go_simp; try with_reducible rfl
      simp only [Act.put, List.setIfInBounds_toArray, List.set_cons_zero, List.set_cons_succ]
      refine wpAnyH_take (i := 9) (oi := ⟨some 78, _, _, _, _, _⟩) (v := ?_) rfl (by kernel_rfl) (by kernel_rfl) (by kernel_rfl) (fun _ _ _ h => h) (Or.inl ⟨by rfl, ?_⟩) (by assumption) ?_
      rotate_left
      · intro w hSw; (try dsimp only at hSw); go_simp; try with_reducible rfl
      simp only [Act.put, List.setIfInBounds_toArray, List.set_cons_zero, List.set_cons_succ]
      refine wpAnyH_take (i := 10) (oi := ⟨some 79, _, _, _, _, _⟩) (v := ?_) rfl (by kernel_rfl) (by kernel_rfl) (by kernel_rfl) (fun _ _ _ h => h) (Or.inl ⟨by rfl, ?_⟩) (by assumption) ?_
      rotate_left
      · intro w hSw; (try dsimp only at hSw); go_simp; try with_reducible rfl
      simp only [Act.put, List.setIfInBounds_toArray, List.set_cons_zero, List.set_cons_succ]
      refine wpAnyH_take (i := 11) (oi := ⟨some 12, _, _, _, _, _⟩) (v := ?_) rfl (by kernel_rfl) (by kernel_rfl) (by kernel_rfl) (fun _ _ _ h => h) (Or.inl ⟨by rfl, ?_⟩) (by assumption) ?_
      rotate_left
      · intro w hSw; (try dsimp only at hSw); go_simp; try with_reducible rfl
      simp only [Act.put, List.setIfInBounds_toArray, List.set_cons_zero, List.set_cons_succ]
      refine wpAnyH_done (by kernel_rfl) ?_ _
      clear k5 hs0 hq hqI hq0 hq1 hn0 hn0N hn1I
      go_wp2_with fail
      refine (lp (lm : Int) _ (by omega)).mono ?_
      rintro e w' ⟨c, hcf, rfl, rfl⟩
      have HC := Lib.hid hcf; clear hcf
      obtain ⟨_, k0, k1, k2, k3, k4, k5⟩ := B.out
      obtain ⟨_, y'0, y'1, y'2, y'3, y'4, y'5⟩ := Y.out
      go_wp2_with fail
      refine (i32put _ need many _ ng _ zg _ nc _ zc msg _ n _ (ptS S m n z) (S q).m c Y1.out Y2.out Y3.out (ints_sl Y1.out) (ints_sl Y2.out) (sh_sl Y3.out) hl1 hl2 hl3).mono ?_
      rintro e w6 hsq
      clear k0 k1 k2 k3 k4 k5
      clear y'0 y'1 y'2 y'3 y'4 y'5
      obtain ⟨u1, g1, u2, g2, u3, g3, rfl, hi1, hi2, hO3, hap, hg⟩ := sesPQ_get T1.out HC.out hsq
      have U1 := Lib.hid hi1.ints; have U2 := Lib.hid hi2.ints; have U3 := Lib.hid (sh_own hO3)
      clear hsq hi1 hi2 hO3 hap
      rw [mS_pt, HO.out]
      replace G := Lib.hid (gtr G.out hg)
      replace I1 := Lib.hid (I1.out.kept hg)
      replace I2 := Lib.hid (I2.out.kept hg)
      replace A3 := Lib.hid (A3.out.kept hg)
      replace B := Lib.hid (B.out.kept hg)
      replace X1 := Lib.hid (X1.out.kept hg)
      replace X2 := Lib.hid (X2.out.kept hg)
      replace X3 := Lib.hid (X3.out.kept hg)
      replace X := Lib.hid (X.out.kept hg)
      replace Y1 := Lib.hid (Y1.out.kept hg)
      replace Y2 := Lib.hid (Y2.out.kept hg)
      replace Y3 := Lib.hid (Y3.out.kept hg)
      replace Y := Lib.hid (Y.out.kept hg)
      clear hg
      have hg := Draw.grown_alloc w6 (.cells #[.int .i64 need, .int .i64 many, .slice u1 ng g1, .slice u2 nc g2, .int .i64 msg, .slice u3 n g3] 28) none
      have U := Lib.hid (Ss.of_blk (Blk.new w6 #[.int .i64 need, .int .i64 many, .slice u1 ng g1, .slice u2 nc g2, .int .i64 msg, .slice u3 n g3] 28))
      replace G := Lib.hid (gtr G.out hg)
      replace I1 := Lib.hid (I1.out.kept hg)
      replace I2 := Lib.hid (I2.out.kept hg)
      replace A3 := Lib.hid (A3.out.kept hg)
      replace B := Lib.hid (B.out.kept hg)
      replace X1 := Lib.hid (X1.out.kept hg)
      replace X2 := Lib.hid (X2.out.kept hg)
      replace X3 := Lib.hid (X3.out.kept hg)
      replace X := Lib.hid (X.out.kept hg)
      replace Y1 := Lib.hid (Y1.out.kept hg)
      replace Y2 := Lib.hid (Y2.out.kept hg)
      replace Y3 := Lib.hid (Y3.out.kept hg)
      replace Y := Lib.hid (Y.out.kept hg)
      replace U1 := Lib.hid (U1.out.kept hg)
      replace U2 := Lib.hid (U2.out.kept hg)
      replace U3 := Lib.hid (U3.out.kept hg)
      clear hg
      obtain ⟨_, k0, k1, k2, k3, k4, k5⟩ := B.out
      go_wp2_with fail
      refine (i32put _ need many _ ng _ zg _ nc _ zc msg _ n _ S (S q).m c I1.out I2.out A3.out (ints_sl I1.out) (ints_sl I2.out) (sh_sl A3.out) hl1 hl2 hl3).mono ?_
      rintro e w7 hsq
      clear k0 k1 k2 k3 k4 k5
      obtain ⟨v1, h1, v2, h2, v3, h3, rfl, hi1, hi2, hO3, hap, hg⟩ := sesPQ_get HTS.out HC.out hsq
      have V1 := Lib.hid hi1.ints; have V2 := Lib.hid hi2.ints; have V3 := Lib.hid (sh_own hO3)
      clear hsq hi1 hi2 hO3 hap
      rw [HO.out]
      replace G := Lib.hid (gtr G.out hg)
      replace I1 := Lib.hid (I1.out.kept hg)
      replace I2 := Lib.hid (I2.out.kept hg)
      replace A3 := Lib.hid (A3.out.kept hg)
      replace B := Lib.hid (B.out.kept hg)
      replace X1 := Lib.hid (X1.out.kept hg)
      replace X2 := Lib.hid (X2.out.kept hg)
      replace X3 := Lib.hid (X3.out.kept hg)
      replace X := Lib.hid (X.out.kept hg)
      replace Y1 := Lib.hid (Y1.out.kept hg)
      replace Y2 := Lib.hid (Y2.out.kept hg)
      replace Y3 := Lib.hid (Y3.out.kept hg)
      replace Y := Lib.hid (Y.out.kept hg)
      replace U1 := Lib.hid (U1.out.kept hg)
      replace U2 := Lib.hid (U2.out.kept hg)
      replace U3 := Lib.hid (U3.out.kept hg)
      replace U := Lib.hid (U.out.kept hg)
      clear hg
      have hg := Draw.grown_alloc w7 (.cells #[.int .i64 need, .int .i64 many, .slice v1 ng h1, .slice v2 nc h2, .int .i64 msg, .slice v3 n h3] 28) none
      have V := Lib.hid (Ss.of_blk (Blk.new w7 #[.int .i64 need, .int .i64 many, .slice v1 ng h1, .slice v2 nc h2, .int .i64 msg, .slice v3 n h3] 28))
      replace G := Lib.hid (gtr G.out hg)
      replace I1 := Lib.hid (I1.out.kept hg)
      replace I2 := Lib.hid (I2.out.kept hg)
      replace A3 := Lib.hid (A3.out.kept hg)
      replace B := Lib.hid (B.out.kept hg)
      replace X1 := Lib.hid (X1.out.kept hg)
      replace X2 := Lib.hid (X2.out.kept hg)
      replace X3 := Lib.hid (X3.out.kept hg)
      replace X := Lib.hid (X.out.kept hg)
      replace Y1 := Lib.hid (Y1.out.kept hg)
      replace Y2 := Lib.hid (Y2.out.kept hg)
      replace Y3 := Lib.hid (Y3.out.kept hg)
      replace Y := Lib.hid (Y.out.kept hg)
      replace U1 := Lib.hid (U1.out.kept hg)
      replace U2 := Lib.hid (U2.out.kept hg)
      replace U3 := Lib.hid (U3.out.kept hg)
      replace U := Lib.hid (U.out.kept hg)
      replace V1 := Lib.hid (V1.out.kept hg)
      replace V2 := Lib.hid (V2.out.kept hg)
      replace V3 := Lib.hid (V3.out.kept hg)
      clear hg
      obtain ⟨_, v'0, v'1, v'2, v'3, v'4, v'5⟩ := V.out
      go_wp2_with fail
      refine (i32put _ need many _ ng _ zg _ nc _ zc msg _ n _ (ptS S (S q).m n c) m z V1.out V2.out V3.out (ints_sl V1.out) (ints_sl V2.out) (sh_sl V3.out) hl1 hl2 hl3).mono ?_
      rintro e w8 hsq
      clear v'0 v'1 v'2 v'3 v'4 v'5
      obtain ⟨r1, s1, r2, s2, r3, s3, rfl, hi1, hi2, hO3, hap, hg⟩ := sesPQ_get (ts_pt HTS.out HC.out) HFZ.out hsq
      have R1 := Lib.hid hi1.ints; have R2 := Lib.hid hi2.ints; have R3 := Lib.hid (sh_own hO3)
      clear hsq hi1 hi2 hO3 hap
      rw [mS_pt, HH.out]
      replace G := Lib.hid (gtr G.out hg)
      replace I1 := Lib.hid (I1.out.kept hg)
      replace I2 := Lib.hid (I2.out.kept hg)
      replace A3 := Lib.hid (A3.out.kept hg)
      replace B := Lib.hid (B.out.kept hg)
      replace X1 := Lib.hid (X1.out.kept hg)
      replace X2 := Lib.hid (X2.out.kept hg)
      replace X3 := Lib.hid (X3.out.kept hg)
      replace X := Lib.hid (X.out.kept hg)
      replace Y1 := Lib.hid (Y1.out.kept hg)
      replace Y2 := Lib.hid (Y2.out.kept hg)
      replace Y3 := Lib.hid (Y3.out.kept hg)
      replace Y := Lib.hid (Y.out.kept hg)
      replace U1 := Lib.hid (U1.out.kept hg)
      replace U2 := Lib.hid (U2.out.kept hg)
      replace U3 := Lib.hid (U3.out.kept hg)
      replace U := Lib.hid (U.out.kept hg)
      replace V1 := Lib.hid (V1.out.kept hg)
      replace V2 := Lib.hid (V2.out.kept hg)
      replace V3 := Lib.hid (V3.out.kept hg)
      replace V := Lib.hid (V.out.kept hg)
      clear hg
      have hg := Draw.grown_alloc w8 (.cells #[.int .i64 need, .int .i64 many, .slice r1 ng s1, .slice r2 nc s2, .int .i64 msg, .slice r3 n s3] 28) none
      have R := Lib.hid (Ss.of_blk (Blk.new w8 #[.int .i64 need, .int .i64 many, .slice r1 ng s1, .slice r2 nc s2, .int .i64 msg, .slice r3 n s3] 28))
      replace G := Lib.hid (gtr G.out hg)
      replace I1 := Lib.hid (I1.out.kept hg)
      replace I2 := Lib.hid (I2.out.kept hg)
      replace A3 := Lib.hid (A3.out.kept hg)
      replace B := Lib.hid (B.out.kept hg)
      replace X1 := Lib.hid (X1.out.kept hg)
      replace X2 := Lib.hid (X2.out.kept hg)
      replace X3 := Lib.hid (X3.out.kept hg)
      replace X := Lib.hid (X.out.kept hg)
      replace Y1 := Lib.hid (Y1.out.kept hg)
      replace Y2 := Lib.hid (Y2.out.kept hg)
      replace Y3 := Lib.hid (Y3.out.kept hg)
      replace Y := Lib.hid (Y.out.kept hg)
      replace U1 := Lib.hid (U1.out.kept hg)
      replace U2 := Lib.hid (U2.out.kept hg)
      replace U3 := Lib.hid (U3.out.kept hg)
      replace U := Lib.hid (U.out.kept hg)
      replace V1 := Lib.hid (V1.out.kept hg)
      replace V2 := Lib.hid (V2.out.kept hg)
      replace V3 := Lib.hid (V3.out.kept hg)
      replace V := Lib.hid (V.out.kept hg)
      replace R1 := Lib.hid (R1.out.kept hg)
      replace R2 := Lib.hid (R2.out.kept hg)
      replace R3 := Lib.hid (R3.out.kept hg)
      clear hg
      by_cases he : (S q).m = m
      · have hem : ((S q).m == m) = true := by simpa using he
        clear he
        go_wp2
        go_ret
        exact ⟨rfl, Draw.below_of G.out⟩
      · have hem : ((S q).m == m) = false := by simpa using he
        have HPC := Lib.hid (pt_comm HTS.out HH.out HO.out he z c)
        clear he
        obtain ⟨_, u'0, u'1, u'2, u'3, u'4, u'5⟩ := U.out
        obtain ⟨_, r'0, r'1, r'2, r'3, r'4, r'5⟩ := R.out
        go_wp2_with fail
        refine (lpses _ need many u1 u2 r1 r2 ng g1 s1 zg nc g2 s2 zc msg u3 r3 n g3 s3 (ptS (ptS S m n z) (S q).m n c) U1.out U2.out R1.out R2.out U3.out (by rw [HPC.out]; exact R3.out) hl1 hl2 hl3).mono ?_
        rintro e w9 ⟨rfl, hg⟩
        have GE := Lib.hid (gtr G.out hg)
        clear hg
        go_wp2
        go_ret
        exact ⟨rfl, Draw.below_of GE.out⟩
  · obtain ⟨rfl, hg⟩ := sesP_none hok hsp
    clear hsp
    have HOK := Lib.hid hok; clear hok
    replace G := Lib.hid (gtr G.out hg)
    replace I1 := Lib.hid (I1.out.kept hg)
    replace I2 := Lib.hid (I2.out.kept hg)
    replace A3 := Lib.hid (A3.out.kept hg)
    replace B := Lib.hid (B.out.kept hg)
    clear hg
    have hg := Draw.grown_alloc w2 (.cells #[.int .i64 0, .int .i64 0, .slice none 0 0, .slice none 0 0, .int .i64 0, .slice none 0 0] 28) none
    have X := Lib.hid (Ss.of_blk (Blk.new w2 #[.int .i64 0, .int .i64 0, .slice none 0 0, .slice none 0 0, .int .i64 0, .slice none 0 0] 28))
    replace G := Lib.hid (gtr G.out hg)
    replace I1 := Lib.hid (I1.out.kept hg)
    replace I2 := Lib.hid (I2.out.kept hg)
    replace A3 := Lib.hid (A3.out.kept hg)
    replace B := Lib.hid (B.out.kept hg)
    clear hg
    obtain ⟨_, k0, k1, k2, k3, k4, k5⟩ := B.out
    go_wp2_with fail
    refine (i32put _ need many _ ng _ zg _ nc _ zc msg _ n _ S m z I1.out I2.out A3.out HS1.out HS2.out HS3.out hl1 hl2 hl3).mono ?_
    rintro e w3 hsq
    clear k0 k1 k2 k3 k4 k5
    obtain ⟨rfl, hg⟩ := sesPQ_none HOK.out hsq
    clear hsq
    replace G := Lib.hid (gtr G.out hg)
    replace I1 := Lib.hid (I1.out.kept hg)
    replace I2 := Lib.hid (I2.out.kept hg)
    replace A3 := Lib.hid (A3.out.kept hg)
    replace B := Lib.hid (B.out.kept hg)
    replace X := Lib.hid (X.out.kept hg)
    clear hg
    have hg := Draw.grown_alloc w3 (.cells #[.int .i64 0, .int .i64 0, .slice none 0 0, .slice none 0 0, .int .i64 0, .slice none 0 0] 28) none
    have Y := Lib.hid (Ss.of_blk (Blk.new w3 #[.int .i64 0, .int .i64 0, .slice none 0 0, .slice none 0 0, .int .i64 0, .slice none 0 0] 28))
    replace G := Lib.hid (gtr G.out hg)
    replace I1 := Lib.hid (I1.out.kept hg)
    replace I2 := Lib.hid (I2.out.kept hg)
    replace A3 := Lib.hid (A3.out.kept hg)
    replace B := Lib.hid (B.out.kept hg)
    replace X := Lib.hid (X.out.kept hg)
    clear hg
    obtain ⟨_, k0, k1, k2, k3, k4, k5⟩ := B.out
    obtain ⟨_, x'0, x'1, x'2, x'3, x'4, x'5⟩ := X.out
    obtain ⟨_, y'0, y'1, y'2, y'3, y'4, y'5⟩ := Y.out
    go_wp2_with fail
    clear k0 k1 k2 k3 k4 k5
    clear x'0 x'1 x'2 x'3 x'4 x'5
    clear y'0 y'1 y'2 y'3 y'4 y'5
    refine (lpses _ 0 0 none none none none 0 0 0 (fun _ => 0) 0 0 0 (fun _ => 0) 0 none none 0 0 0 S (.inl rfl) (.inl rfl) (.inl rfl) (.inl rfl) (.inl rfl) (.inl rfl) (by omega) (by omega) (by omega)).mono ?_
    rintro e V ⟨rfl, hg⟩
    replace G := Lib.hid (gtr G.out hg)
    replace I1 := Lib.hid (I1.out.kept hg)
    replace I2 := Lib.hid (I2.out.kept hg)
    replace A3 := Lib.hid (A3.out.kept hg)
    replace B := Lib.hid (B.out.kept hg)
    replace X := Lib.hid (X.out.kept hg)
    replace Y := Lib.hid (Y.out.kept hg)
    clear hg
    obtain ⟨_, x'0, x'1, x'2, x'3, x'4, x'5⟩ := X.out
    obtain ⟨_, y'0, y'1, y'2, y'3, y'4, y'5⟩ := Y.out
    go_wp2_with fail
    clear x'0 x'1 x'2 x'3 x'4 x'5
    clear y'0 y'1 y'2 y'3 y'4 y'5
    refine (lpses _ 0 0 none none none none 0 0 0 (fun _ => 0) 0 0 0 (fun _ => 0) 0 none none 0 0 0 S (.inl rfl) (.inl rfl) (.inl rfl) (.inl rfl) (.inl rfl) (.inl rfl) (by omega) (by omega) (by omega)).mono ?_
    rintro e V ⟨rfl, hg⟩
    replace G := Lib.hid (gtr G.out hg)
    replace I1 := Lib.hid (I1.out.kept hg)
    replace I2 := Lib.hid (I2.out.kept hg)
    replace A3 := Lib.hid (A3.out.kept hg)
    replace B := Lib.hid (B.out.kept hg)
    replace X := Lib.hid (X.out.kept hg)
    replace Y := Lib.hid (Y.out.kept hg)
    clear hg
    go_wp2
    go_ret
    exact ⟨rfl, Draw.below_of G.out⟩
end Run
end Go.Proofs.Ytgahfifojagghaa
