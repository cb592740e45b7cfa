/-
  The walk of the exact law on whose parts are wrong.
-/
import Derived.Test.YtgahfifojagghaaGreatDoorTg
import Derived.Test.YtgahfifojagghaaGreatDoorTk
import Derived.Test.YtgahfifojagghaaGreatDoorUz
import Derived.Test.YtgahfifojagghaaGreatDoorMk
import Derived.Test.YtgahfifojagghaaGreatDoorRunEd
import Derived.Deep.RegionHeld3
namespace Go.Proofs.YtgahfifojagghaaGreatDoor
namespace Run
open Go.RowKit Alg Mem Con Mp Hd
set_option linter.unusedVariables false

set_option maxRecDepth 100000 in
set_option maxHeartbeats 8000000 in
theorem FnExactSessionBad (need many : Int) (ag : Option Addr) (ng cg : Nat) (zg : Nat → Int) (ac : Option Addr) (nc cc : Nat) (zc : Nat → Int) (msg : Int) (a : Option Addr) (n c : Nat) (S : Nat → SV) (w : World) (sA1 : Ints w ag ng zg) (sA2 : Ints w ac nc zc) (sA3 : ShIn w a n S) (hm1 : ng ≤ maxLen) (hm2 : nc ≤ maxLen) (hm3 : n ≤ maxLen) (ad : Addr) (hv : Np w ad) (he : Et w) :
    Calls Tryz.prog 8 #[.agg #[.int .i64 need, .int .i64 many, .slice ag ng cg, .slice ac nc cc, .int .i64 msg, .slice a n c]] w (Yes w) := by
  have G := Lib.hid (Draw.grown_alloc w (.cells #[.int .i64 need, .int .i64 many, .slice ag ng cg, .slice ac nc cc, .int .i64 msg, .slice a n c] 56) none)
  have B := Lib.hid (Ss.of_blk (Blk.new w #[.int .i64 need, .int .i64 many, .slice ag ng cg, .slice ac nc cc, .int .i64 msg, .slice a n c] 56))
  replace sA1 := Lib.hid sA1; replace sA2 := Lib.hid sA2; replace sA3 := Lib.hid sA3; replace hv := Lib.hid hv; replace he := Lib.hid he
  go_enter Tryz.func8, Tryz.ntmps8
  obtain ⟨_, k0, k1, k2, k3, k4, k5⟩ := B.out
  go_wp2_with fail
  clear k0 k1 k2 k3 k4 k5
  refine (szses _ need many _ ng _ _ nc _ msg _ n _ 1048576 (by omega) (by omega) hm1 hm2 hm3).mono ?_
  rintro e v1 ⟨r0, rfl, hg, hr⟩
  replace G := Lib.hid (gtr G.out hg)
  replace B := Lib.hid (B.out.kept hg)
  clear hg
  rcases hr with rfl | ⟨h0a, h0b, hl1, hl2, hl3⟩
  · go_wp2
    go_ret
    exact ⟨rfl, Draw.below_of G.out⟩
  have hn0 : ¬ r0 < 0 := by omega
  have hll : (tbF need many ng zg nc zc msg n S).length ≤ n := by unfold tbF; split; exact tbL_len; simp
  obtain ⟨_, k0, k1, k2, k3, k4, k5⟩ := B.out
  go_wp2_with fail
  clear k0 k1 k2 k3 k4 k5
  refine (toses _ need many _ ng _ zg _ nc _ zc msg _ n _ S (sA1.out.kept G.out) (sA2.out.kept G.out) (sA3.out.kept G.out) (by omega) (by omega) (by omega)).mono ?_
  rintro e v2 ⟨p1, p2, p3, rfl, hb12, hb23, r1, r2, r3, hg⟩
  have s1 := Lib.hid r1.ints; have s2 := Lib.hid r2.ints; have s3 := Lib.hid r3.sh
  clear hb12 hb23 r1 r2 r3
  replace G := Lib.hid (gtr G.out hg)
  replace B := Lib.hid (B.out.kept hg)
  clear hg
  go_wp2_with fail
  refine (ssesBad _ need many _ ng _ zg _ nc _ zc msg _ n _ S s1.out s2.out s3.out (by omega) (by omega) (by omega)).mono ?_
  rintro e v3 ⟨vw, rfl, hL, hg⟩
  have R := Lib.hid (LstB.of hL)
  clear hL s1 s2 s3
  replace G := Lib.hid (gtr G.out hg)
  replace B := Lib.hid (B.out.kept hg)
  clear hg
  have hB3 : w.heap.size < v3.heap.size := B.out.lt
  obtain ⟨_, k0, k1, k2, k3, k4, k5⟩ := B.out
  go_wp2_with fail
  clear k0 k1 k2 k3 k4 k5
  refine (toses _ need many _ ng _ zg _ nc _ zc msg _ n _ S (sA1.out.kept G.out) (sA2.out.kept G.out) (sA3.out.kept G.out) (by omega) (by omega) (by omega)).mono ?_
  rintro e v4 ⟨b1, b2, b3, rfl, hb12, hb23, r1, r2, r3, hg⟩
  have X1 := Lib.hid r1; have X2 := Lib.hid r2; have X3 := Lib.hid r3
  have F1 : v3.heap.size ≤ b1 := r1.from_
  have F3 : b3 < v4.heap.size := r3.lt
  clear r1 r2 r3
  replace G := Lib.hid (gtr G.out hg)
  replace B := Lib.hid (B.out.kept hg)
  replace R := Lib.hid (R.out.kept hg)
  clear hg
  have hg := Draw.grown_alloc v4 (.cells #[.int .i64 need, .int .i64 many, .slice (some ⟨b1, 0, none⟩) ng ng, .slice (some ⟨b2, 0, none⟩) nc nc, .int .i64 msg, .slice (some ⟨b3, 0, none⟩) n n] 30) none
  have Y := Lib.hid (Ss.of_blk (Blk.new v4 #[.int .i64 need, .int .i64 many, .slice (some ⟨b1, 0, none⟩) ng ng, .slice (some ⟨b2, 0, none⟩) nc nc, .int .i64 msg, .slice (some ⟨b3, 0, none⟩) n n] 30))
  replace G := Lib.hid (gtr G.out hg)
  replace B := Lib.hid (B.out.kept hg)
  replace R := Lib.hid (R.out.kept hg)
  replace X1 := Lib.hid (X1.out.keptN hg)
  replace X2 := Lib.hid (X2.out.keptN hg)
  replace X3 := Lib.hid (X3.out.keptN hg)
  clear hg
  have hs4 : v4.heap.size ≤ (v4.alloc (.cells #[.int .i64 need, .int .i64 many, .slice (some ⟨b1, 0, none⟩) ng ng, .slice (some ⟨b2, 0, none⟩) nc nc, .int .i64 msg, .slice (some ⟨b3, 0, none⟩) n n] 30)).heap.size := (Draw.grown_alloc v4 (.cells #[.int .i64 need, .int .i64 many, .slice (some ⟨b1, 0, none⟩) ng ng, .slice (some ⟨b2, 0, none⟩) nc nc, .int .i64 msg, .slice (some ⟨b3, 0, none⟩) n n] 30) none).size
  obtain ⟨_, y0, y1, y2, y3, y4, y5⟩ := Y.out
  go_wp2_with fail
  clear y0 y1 y2 y3 y4 y5
  refine (isesBad _ need many _ ng _ zg _ nc _ zc msg _ n _ S ad X1.out.ints X2.out.ints X3.out.sh (by omega) (by omega) (by omega) (hv.out.kept G.out) (he.out.kept G.out)).mono ?_
  rintro e v5 ⟨v, rfl, hL, hg⟩
  have L := Lib.hid (hL.lower hs4)
  clear hL hs4
  replace G := Lib.hid (gtr G.out hg)
  replace B := Lib.hid (B.out.kept hg)
  replace R := Lib.hid (R.out.kept hg)
  replace X1 := Lib.hid (X1.out.keptN hg)
  replace X2 := Lib.hid (X2.out.keptN hg)
  replace X3 := Lib.hid (X3.out.keptN hg)
  replace Y := Lib.hid (Y.out.kept hg)
  clear hg
  obtain ⟨av, cv, hvv, hLi, _, _⟩ := L.out.slice
  obtain ⟨aw, cw, hww, hRi⟩ := R.out.slice
  have HLi := Lib.hid hLi; have HVV := Lib.hid hvv; have HRi := Lib.hid hRi; have HWW := Lib.hid hww; clear hLi hvv hRi hww
  go_wp2_with fail
  refine Calls.mono (by rw [HVV.out, HWW.out]; exact eqint _ _ _ _ _ _ (li (tbF need many ng zg nc zc msg n S)) HLi.out HRi.out (by omega)) ?_
  rintro e v6 ⟨rfl, hg⟩
  clear HLi HVV HRi HWW
  replace G := Lib.hid (gtr G.out hg)
  replace B := Lib.hid (B.out.kept hg)
  replace R := Lib.hid (R.out.kept hg)
  replace X1 := Lib.hid (X1.out.keptN hg)
  replace X2 := Lib.hid (X2.out.keptN hg)
  replace X3 := Lib.hid (X3.out.keptN hg)
  replace Y := Lib.hid (Y.out.kept hg)
  replace L := Lib.hid (L.out.kept hg)
  clear hg
  obtain ⟨_, k0, k1, k2, k3, k4, k5⟩ := B.out
  obtain ⟨_, y0, y1, y2, y3, y4, y5⟩ := Y.out
  go_wp2_with fail
  clear k0 k1 k2 k3 k4 k5
  clear y0 y1 y2 y3 y4 y5
  refine wp_region_held_drew (S := (fun w' => w'.cell? ⟨w.heap.size, 0, none⟩ = some (.int .i64 need) ∧ w'.cell? ⟨w.heap.size, 1, none⟩ = some (.int .i64 many) ∧ w'.cell? ⟨w.heap.size, 2, none⟩ = some (.slice ag ng cg) ∧ w'.cell? ⟨w.heap.size, 3, none⟩ = some (.slice ac nc cc) ∧ w'.cell? ⟨w.heap.size, 4, none⟩ = some (.int .i64 msg) ∧ w'.cell? ⟨w.heap.size, 5, none⟩ = some (.slice a n c) ∧ w'.cell? ⟨v4.heap.size, 0, none⟩ = some (.int .i64 need) ∧ w'.cell? ⟨v4.heap.size, 1, none⟩ = some (.int .i64 many) ∧ w'.cell? ⟨v4.heap.size, 2, none⟩ = some (.slice (some ⟨b1, 0, none⟩) ng ng) ∧ w'.cell? ⟨v4.heap.size, 3, none⟩ = some (.slice (some ⟨b2, 0, none⟩) nc nc) ∧ w'.cell? ⟨v4.heap.size, 4, none⟩ = some (.int .i64 msg) ∧ w'.cell? ⟨v4.heap.size, 5, none⟩ = some (.slice (some ⟨b3, 0, none⟩) n n))) (by kernel_rfl) (⟨B.out.c0, B.out.c1, B.out.c2, B.out.c3, B.out.c4, B.out.c5, Y.out.c0, Y.out.c1, Y.out.c2, Y.out.c3, Y.out.c4, Y.out.c5⟩) (fun hHeld => ?_)
  have hg := Draw.gdrew v6
  replace G := Lib.hid (gtr G.out hg)
  replace B := Lib.hid (B.out.kept hg)
  replace R := Lib.hid (R.out.kept hg)
  replace X1 := Lib.hid (X1.out.keptN hg)
  replace X2 := Lib.hid (X2.out.keptN hg)
  replace X3 := Lib.hid (X3.out.keptN hg)
  replace Y := Lib.hid (Y.out.kept hg)
  replace L := Lib.hid (L.out.kept hg)
  clear hg
  generalize (v6).drew = v7 at *
  refine wpAnyH_take (i := 0) (oi := ⟨some 27, _, _, _, _, _⟩) (v := ?_) rfl (by kernel_rfl) (by kernel_rfl) (by kernel_rfl) (fun _ _ _ h => h) (Or.inl ⟨by rfl, ?_⟩) (by assumption) ?_
  rotate_left
  · intro w hSw; (try dsimp only at hSw); go_simp; try with_reducible rfl
  simp only [Act.put, List.setIfInBounds_toArray, List.set_cons_zero, List.set_cons_succ]
  refine wpAnyH_take (i := 1) (oi := ⟨some 28, _, _, _, _, _⟩) (v := ?_) rfl (by kernel_rfl) (by kernel_rfl) (by kernel_rfl) (fun _ _ _ h => h) (Or.inl ⟨by rfl, ?_⟩) (by assumption) ?_
  rotate_left
  · intro w hSw; (try dsimp only at hSw); go_simp; try with_reducible rfl
  simp only [Act.put, List.setIfInBounds_toArray, List.set_cons_zero, List.set_cons_succ]
  refine wpAnyH_ready (rs := [2]) (by kernel_rfl) (by simp) ?_
  refine AllReadyH.cons (o := ⟨some 29, _, _, _, _, _⟩) rfl (fun Kq hKq => ?_) AllReadyH.nil
  go_simp
  go_at_call 31
  refine (toses _ need many _ ng _ zg _ nc _ zc msg _ n _ S (sA1.out.kept G.out) (sA2.out.kept G.out) (sA3.out.kept G.out) (by omega) (by omega) (by omega)).mono ?_
  rintro e v8 ⟨q1, q2, q3, rfl, qb, qb', r1, r2, r3, hg⟩
  have y1 := Lib.hid r1.ints; have y2 := Lib.hid r2.ints; have y3 := Lib.hid r3.sh
  replace G := Lib.hid (gtr G.out hg)
  replace B := Lib.hid (B.out.kept hg)
  replace R := Lib.hid (R.out.kept hg)
  replace X1 := Lib.hid (X1.out.keptN hg)
  replace X2 := Lib.hid (X2.out.keptN hg)
  replace X3 := Lib.hid (X3.out.keptN hg)
  replace Y := Lib.hid (Y.out.kept hg)
  replace L := Lib.hid (L.out.kept hg)
  clear hg
  clear qb qb' r1 r2 r3
  refine hKq.out _ _ (⟨B.out.c0, B.out.c1, B.out.c2, B.out.c3, B.out.c4, B.out.c5, Y.out.c0, Y.out.c1, Y.out.c2, Y.out.c3, Y.out.c4, Y.out.c5⟩) (fun hHeld => ?_)
  clear hKq Kq
  refine wpAnyH_ready (rs := [3]) (by kernel_rfl) (by simp) ?_
  refine AllReadyH.cons (o := ⟨some 30, _, _, _, _, _⟩) rfl (fun Kq hKq => ?_) AllReadyH.nil
  go_simp
  go_at_call 33
  refine (eqses _ need many _ _ _ _ ng _ _ zg nc _ _ zc msg _ _ n _ _ S X1.out.ints X2.out.ints y1.out y2.out X3.out.sh y3.out (by omega) (by omega) (by omega)).mono ?_
  rintro e v9 ⟨rfl, hg⟩
  replace G := Lib.hid (gtr G.out hg)
  replace B := Lib.hid (B.out.kept hg)
  replace R := Lib.hid (R.out.kept hg)
  replace X1 := Lib.hid (X1.out.keptN hg)
  replace X2 := Lib.hid (X2.out.keptN hg)
  replace X3 := Lib.hid (X3.out.keptN hg)
  replace Y := Lib.hid (Y.out.kept hg)
  replace L := Lib.hid (L.out.kept hg)
  replace y1 := Lib.hid (y1.out.kept hg)
  replace y2 := Lib.hid (y2.out.kept hg)
  replace y3 := Lib.hid (y3.out.kept hg)
  clear hg
  clear y1 y2 y3
  refine hKq.out _ _ (⟨B.out.c0, B.out.c1, B.out.c2, B.out.c3, B.out.c4, B.out.c5, Y.out.c0, Y.out.c1, Y.out.c2, Y.out.c3, Y.out.c4, Y.out.c5⟩) (fun hHeld => ?_)
  clear hKq Kq
  refine wpAnyH_take (i := 4) (oi := ⟨some 31, _, _, _, _, _⟩) (v := ?_) rfl (by kernel_rfl) (by kernel_rfl) (by kernel_rfl) (fun _ _ _ h => h) (Or.inl ⟨by rfl, ?_⟩) (by assumption) ?_
  rotate_left
  · intro w hSw; (try dsimp only at hSw); go_simp; try with_reducible rfl
  simp only [Act.put, List.setIfInBounds_toArray, List.set_cons_zero, List.set_cons_succ]
  refine wpAnyH_done (by kernel_rfl) ?_ _
  clear hHeld
  obtain ⟨_, y0, y1, y2, y3, y4, y5⟩ := Y.out
  go_wp2_with fail
  clear y0 y1 y2 y3 y4 y5
  refine (markses _ need many _ b1 b2 b3 ng nc n zg zc msg _ 1 hb12 hb23 X1.out X2.out X3.out (by omega) (by omega) (by omega) (by omega)).mono ?_
  rintro e v10 ⟨rfl, wa, wb, hma, hmb, hmc⟩
  have G' := grown_new (grown_new (grown_new G.out (by omega) hma) (by omega) hmb) (by omega) hmc
  have L' := ((L.out.keptB hma (by omega)).keptB hmb (by omega)).keptB hmc F3
  have R' := ((R.out.keptB hma F1).keptB hmb (by omega)).keptB hmc (by omega)
  have B1 := B.out.keptB (hma.block _ B.out.lt (by intro e; injection e with e; omega)) hma.size
  have B2 := B1.keptB (hmb.block _ B1.lt (by intro e; injection e with e; omega)) hmb.size
  have B' := B2.keptB (hmc.block _ B2.lt (by intro e; injection e with e; omega)) hmc.size
  clear G L R B B1 B2 X1 X2 X3 Y hma hmb hmc
  have G := Lib.hid G'; have L := Lib.hid L'; have R := Lib.hid R'; have B := Lib.hid B'
  clear G' L' R' B'
  have hkk : ¬ ((1 + ng + nc + 4 * n : Nat) : Int) < 0 := by omega
  have hkd : decide (((1 + ng + nc + 4 * n : Nat) : Int) < 0) = false := decide_eq_false hkk
  obtain ⟨av, cv, hvv, hLi, _, _⟩ := L.out.slice
  obtain ⟨aw, cw, hww, hRi⟩ := R.out.slice
  have HLi := Lib.hid hLi; have HVV := Lib.hid hvv; have HRi := Lib.hid hRi; have HWW := Lib.hid hww; clear hLi hvv hRi hww
  go_wp2_with fail
  refine Calls.mono (by rw [HVV.out, HWW.out]; exact eqint _ _ _ _ _ _ (li (tbF need many ng zg nc zc msg n S)) HLi.out HRi.out (by omega)) ?_
  rintro e v11 ⟨rfl, hg⟩
  clear HLi HVV HRi HWW
  replace G := Lib.hid (gtr G.out hg)
  replace L := Lib.hid (L.out.kept hg)
  replace R := Lib.hid (R.out.kept hg)
  replace B := Lib.hid (B.out.kept hg)
  clear hg
  clear hkk hkd
  go_wp2_with fail
  refine (mark_lst _ _ v _ L.out (by omega)).mono ?_
  rintro e v12 ⟨rfl, hg, hL⟩
  have hv34 : v3.heap.size ≤ v4.heap.size := by omega
  have G' := Run.Lst.grown L.out (by omega) G.out hg
  have R' : LstB v12 v2.heap.size v3.heap.size vw (tbF need many ng zg nc zc msg n S) := by
    cases hv : v.ownBlock with
    | none => rw [hv] at hg; exact R.out.kept hg
    | some g => rw [hv] at hg; exact R.out.keptB hg (by
        rcases L.out with ⟨rfl, _⟩ | ⟨b, c, rfl, hr⟩
        · cases hv
        · injection hv with hv; have := hr.from_; simp only at hv; omega)
  have B' := B.out.keptB (hg.block _ B.out.lt (L.out.own_ne (by omega))) hg.size
  clear G L R B hg
  have G := Lib.hid G'; have L := Lib.hid hL; have R := Lib.hid R'; have B := Lib.hid B'
  clear G' hL R' B'
  have hq0 : decide (((1 + (tbF need many ng zg nc zc msg n S).length : Nat) : Int) < 0) = false := decide_eq_false (by omega)
  have hq1 : ¬ ((1 + (tbF need many ng zg nc zc msg n S).length : Nat) : Int) < 0 := by omega
  have hqm := bne_f (rfl : ((1 + (tbF need many ng zg nc zc msg n S).length : Nat) : Int) = ((1 + (tbF need many ng zg nc zc msg n S).length : Nat) : Int))
  go_wp2_with fail
  refine (held_lst _ _ v _ L.out (by omega)).mono ?_
  rintro e w' ⟨rfl, rfl⟩
  obtain ⟨_, k0, k1, k2, k3, k4, k5⟩ := B.out
  go_wp2_with fail
  clear k0 k1 k2 k3 k4 k5
  refine (toses _ need many _ ng _ zg _ nc _ zc msg _ n _ S (sA1.out.kept G.out) (sA2.out.kept G.out) (sA3.out.kept G.out) (by omega) (by omega) (by omega)).mono ?_
  rintro e v13 ⟨p1, p2, p3, rfl, hb12', hb23', r1, r2, r3, hg⟩
  have s1 := Lib.hid r1.ints; have s2 := Lib.hid r2.ints; have s3 := Lib.hid r3.sh
  clear hb12' hb23' r1 r2 r3
  replace G := Lib.hid (gtr G.out hg)
  replace L := Lib.hid (L.out.kept hg)
  replace R := Lib.hid (R.out.kept hg)
  replace B := Lib.hid (B.out.kept hg)
  clear hg
  go_wp2_with fail
  refine (isesBad _ need many _ ng _ zg _ nc _ zc msg _ n _ S ad s1.out s2.out s3.out (by omega) (by omega) (by omega) (hv.out.kept G.out) (he.out.kept G.out)).mono ?_
  rintro e v14 ⟨v2', rfl, hL, hg⟩
  clear s1 s2 s3
  have LL := L
  replace G := Lib.hid (gtr G.out hg)
  replace L := Lib.hid (L.out.kept hg)
  replace R := Lib.hid (R.out.kept hg)
  replace B := Lib.hid (B.out.kept hg)
  clear hg
  have LK := L
  clear LL
  obtain ⟨av2, cv2, rfl, hLi2, _, _⟩ := hL.slice
  obtain ⟨aw3, cw3, hww3, hRi3⟩ := R.out.slice
  have HLi2 := Lib.hid hLi2; have HRi3 := Lib.hid hRi3; have HWW3 := Lib.hid hww3; clear hLi2 hL hRi3 hww3
  go_wp2_with fail
  refine Calls.mono (by rw [HWW3.out]; exact eqint _ _ _ _ _ _ (li (tbF need many ng zg nc zc msg n S)) HLi2.out HRi3.out (by omega)) ?_
  rintro e v15 ⟨rfl, hg⟩
  clear HLi2 HRi3 HWW3 LK
  replace G := Lib.hid (gtr G.out hg)
  replace L := Lib.hid (L.out.kept hg)
  replace R := Lib.hid (R.out.kept hg)
  replace B := Lib.hid (B.out.kept hg)
  clear hg
  go_wp2_with fail
  refine (held_lst _ _ v _ L.out (by omega)).mono ?_
  rintro e w' ⟨rfl, rfl⟩
  go_wp2
  go_ret
  exact ⟨rfl, Draw.below_of G.out⟩
end Run
end Go.Proofs.YtgahfifojagghaaGreatDoor
