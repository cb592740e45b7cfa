/-
  The walks of the laws on a part, and on what is drawn more.
-/
import Derived.Test.YtpeofoabhjebbaaRunGd
namespace Go.Proofs.Ytpeofoabhjebbaa
namespace Run
open Go.RowKit Alg Mem Con Mp Draw
set_option linter.unusedVariables false



set_option maxRecDepth 100000 in
set_option maxHeartbeats 4000000 in
theorem FnPartDrawn (a : Option Addr) (len cap : Nat) (a1 : Option Addr) (len1 cap1 : Nat) (w : World) (hB : Draw.Bytes w w.heap.size a len) (hc : len ≤ cap) (hm : cap ≤ maxLen) (hc1 : len1 ≤ cap1) (hm1 : cap1 ≤ maxLen) :
    Calls Try.prog 11 #[.slice a len cap, .slice a1 len1 cap1] w (Yes w) := by
  have HM := hm; unfold maxLen at HM
  have HM1 := hm1; unfold maxLen at HM1
  by_cases hL : (1048576 : Int) < (len : Int)
  · have HB := Lib.hid hB; clear hB
    go_enter Try.func11, Try.ntmps11
    go_wp2
    go_ret
    exact ⟨rfl, Below.refl _ _⟩
  by_cases hL1 : (1048576 : Int) < (len1 : Int)
  · have HB := Lib.hid hB; clear hB
    have hL0 : ¬ (1048576 : Int) < (len : Int) := hL
    go_enter Try.func11, Try.ntmps11
    go_wp2
    go_ret
    exact ⟨rfl, Below.refl _ _⟩
  have hL0 : ¬ (1048576 : Int) < (len : Int) := hL
  clear HM HM1
  go_enter Try.func11, Try.ntmps11
  go_wp2_with fail
  refine (drawSP _ a len cap hB hc hm).mono ?_
  rintro e w1 ⟨need, many, ag, ng, cg, zg, ac, nc, cc, zc, am, nm, cm, zm, m, s, r, msg, d, rfl, b1, b2, b3, hmc, hcm, i1, i2, i3, hg⟩
  have g1 := gtr (Draw.grown_alloc w1 (.cells #[.int .i64 need, .int .i64 many, .slice ag ng cg, .slice ac nc cc] 42) none) (Draw.grown_alloc _ (.cells #[.int .i64 m, .int .i64 s] 44) none)
  have G := Lib.hid (gtr hg g1)
  have K := Lib.hid ((Ky.new w1 need many (.slice ag ng cg) (.slice ac nc cc) 42).kept (Draw.grown_alloc _ (.cells #[.int .i64 m, .int .i64 s] 44) none))
  have H := Lib.hid (Du.of_blk (blk_new2 w1 (.cells #[.int .i64 need, .int .i64 many, .slice ag ng cg, .slice ac nc cc] 42) #[.int .i64 m, .int .i64 s] 44))
  have I1 := Lib.hid (i1.kept g1); have I2 := Lib.hid (i2.kept g1); have I3 := Lib.hid (i3.kept g1)
  clear i1 i2 i3 g1 hg hB
  obtain ⟨_, k0, k1, k2, k3⟩ := K.out
  obtain ⟨_, x0, x1⟩ := H.out
  go_wp2_with fail
  refine (spart _ need many _ ng _ zg _ nc _ zc _ nm _ zm m s r msg d I1.out I2.out I3.out (by omega) (by omega) (by omega)).mono ?_
  rintro e w2 ⟨rfl, hg⟩
  clear k0 k1 k2 k3
  clear x0 x1
  replace G := Lib.hid (gtr G.out hg)
  replace K := Lib.hid (K.out.kept hg)
  replace H := Lib.hid (H.out.kept hg)
  replace I1 := Lib.hid (I1.out.kept hg)
  replace I2 := Lib.hid (I2.out.kept hg)
  replace I3 := Lib.hid (I3.out.kept hg)
  clear hg
  obtain ⟨_, k0, k1, k2, k3⟩ := K.out
  obtain ⟨_, x0, x1⟩ := H.out
  unfold spV
  go_wp2_with fail
  refine (ipart _ need many _ ng _ zg _ nc _ zc _ nm _ zm m s r msg d I1.out I2.out I3.out (by omega) (by omega) (by omega) hmc hcm).mono ?_
  rintro e w3 ⟨rfl, hg⟩
  clear k0 k1 k2 k3
  clear x0 x1
  replace G := Lib.hid (gtr G.out hg)
  replace K := Lib.hid (K.out.kept hg)
  replace H := Lib.hid (H.out.kept hg)
  replace I1 := Lib.hid (I1.out.kept hg)
  replace I2 := Lib.hid (I2.out.kept hg)
  replace I3 := Lib.hid (I3.out.kept hg)
  clear hg
  obtain ⟨_, k0, k1, k2, k3⟩ := K.out
  obtain ⟨_, x0, x1⟩ := H.out
  unfold spV
  have hzz : (spZ need many ng zg nc zc nm zm m s r msg d != spZ need many ng zg nc zc nm zm m s r msg d) = false := by simp
  have hzq : (spZ need many ng zg nc zc nm zm m s r msg d == spZ need many ng zg nc zc nm zm m s r msg d) = true := by simp
  cases hok : spOk need many ng zg nc zc nm zm m s r msg d with
  | false =>
    go_wp2
    go_ret
    exact ⟨rfl, Draw.below_of G.out⟩
  | true =>
    obtain ⟨hga, hs, hd, hr, hms⟩ := sp_iff.1 hok
    have hz0 : spZ need many ng zg nc zc nm zm m s r msg d = sumF d (mulF (gW zc nm zm m r msg) s) := by unfold spZ; rw [if_pos hok]
    rw [hz0] at hzz hzq ⊢
    clear hz0 hok
    go_wp2_with fail
    refine (lp _ _ (by omega)).mono ?_
    rintro e w' ⟨c, hcc, rfl, rfl⟩
    have hdc := sumF_ok d c
    have HP2 := Lib.hid (sp_iff.2 ⟨hga, hs, hdc, hr, hms⟩)
    have HFA := Lib.hid (part_fits hga hs hd hr hms)
    have HFB := Lib.hid (part_fits hga hs hdc hr hms)
    have HE := Lib.hid (sum_rot hd hcc (mulF_ok (gW zc nm zm m r msg) s))
    clear hga hs hd hr hms hdc hcc hzz hzq
    clear k0 k1 k2 k3
    clear x0 x1
    go_wp2_with fail
    refine wp_region_held_drew (S := (fun w' => w'.cell? ⟨w1.heap.size, 0, none⟩ = some (.int .i64 (need : Int)) ∧ w'.cell? ⟨w1.heap.size, 1, none⟩ = some (.int .i64 (many : Int)) ∧ w'.cell? ⟨w1.heap.size, 2, none⟩ = some (.slice ag ng cg) ∧ w'.cell? ⟨w1.heap.size, 3, none⟩ = some (.slice ac nc cc) ∧ w'.cell? ⟨w1.heap.size + 1, 0, none⟩ = some (.int .i64 m) ∧ w'.cell? ⟨w1.heap.size + 1, 1, none⟩ = some (.int .i64 s))) (by kernel_rfl) (⟨K.out.c0, K.out.c1, K.out.c2, K.out.c3, H.out.c0, H.out.c1⟩) (fun hHeld => ?_)
    have hg := Draw.gdrew w3
    replace G := Lib.hid (gtr G.out hg)
    replace K := Lib.hid (K.out.kept hg)
    replace H := Lib.hid (H.out.kept hg)
    replace I1 := Lib.hid (I1.out.kept hg)
    replace I2 := Lib.hid (I2.out.kept hg)
    replace I3 := Lib.hid (I3.out.kept hg)
    clear hg
    generalize (w3).drew = V1 at *
    refine wpAnyH_take (i := 0) (oi := ⟨some 81, _, _, _, _, _⟩) (v := ?_) rfl (by kernel_rfl) (by kernel_rfl) (by kernel_rfl) (fun _ _ _ h => h) (Or.inl ⟨by rfl, ?_⟩) (by assumption) ?_
    rotate_left
    · intro w hSw; (try dsimp only at hSw); go_simp; try with_reducible rfl
    simp only [Act.put, List.setIfInBounds_toArray, List.set_cons_zero, List.set_cons_succ]
    refine wpAnyH_take (i := 1) (oi := ⟨some 82, _, _, _, _, _⟩) (v := ?_) rfl (by kernel_rfl) (by kernel_rfl) (by kernel_rfl) (fun _ _ _ h => h) (Or.inl ⟨by rfl, ?_⟩) (by assumption) ?_
    rotate_left
    · intro w hSw; (try dsimp only at hSw); go_simp; try with_reducible rfl
    simp only [Act.put, List.setIfInBounds_toArray, List.set_cons_zero, List.set_cons_succ]
    refine wpAnyH_take (i := 2) (oi := ⟨some 83, _, _, _, _, _⟩) (v := ?_) rfl (by kernel_rfl) (by kernel_rfl) (by kernel_rfl) (fun _ _ _ h => h) (Or.inl ⟨by rfl, ?_⟩) (by assumption) ?_
    rotate_left
    · intro w hSw; (try dsimp only at hSw); go_simp; try with_reducible rfl
    simp only [Act.put, List.setIfInBounds_toArray, List.set_cons_zero, List.set_cons_succ]
    refine wpAnyH_take (i := 3) (oi := ⟨some 84, _, _, _, _, _⟩) (v := ?_) rfl (by kernel_rfl) (by kernel_rfl) (by kernel_rfl) (fun _ _ _ h => h) (Or.inl ⟨by rfl, ?_⟩) (by assumption) ?_
    rotate_left
    · intro w hSw; (try dsimp only at hSw); go_simp; try with_reducible rfl
    simp only [Act.put, List.setIfInBounds_toArray, List.set_cons_zero, List.set_cons_succ]
    refine wpAnyH_take (i := 4) (oi := ⟨some 85, _, _, _, _, _⟩) (v := ?_) rfl (by kernel_rfl) (by kernel_rfl) (by kernel_rfl) (fun _ _ _ h => h) (Or.inl ⟨by rfl, ?_⟩) (by assumption) ?_
    rotate_left
    · intro w hSw; (try dsimp only at hSw); go_simp; try with_reducible rfl
    simp only [Act.put, List.setIfInBounds_toArray, List.set_cons_zero, List.set_cons_succ]
    refine wpAnyH_take (i := 5) (oi := ⟨some 86, _, _, _, _, _⟩) (v := ?_) rfl (by kernel_rfl) (by kernel_rfl) (by kernel_rfl) (fun _ _ _ h => h) (Or.inl ⟨by rfl, ?_⟩) (by assumption) ?_
    rotate_left
    · intro w hSw; (try dsimp only at hSw); go_simp; try with_reducible rfl
    simp only [Act.put, List.setIfInBounds_toArray, List.set_cons_zero, List.set_cons_succ]
    refine wpAnyH_take (i := 6) (oi := ⟨some 87, _, _, _, _, _⟩) (v := ?_) rfl (by kernel_rfl) (by kernel_rfl) (by kernel_rfl) (fun _ _ _ h => h) (Or.inl ⟨by rfl, ?_⟩) (by assumption) ?_
    rotate_left
    · intro w hSw; (try dsimp only at hSw); go_simp; try with_reducible rfl
    simp only [Act.put, List.setIfInBounds_toArray, List.set_cons_zero, List.set_cons_succ]
    refine wpAnyH_ready (rs := [7]) (by kernel_rfl) (by simp) ?_
    refine AllReadyH.cons (o := ⟨some 88, _, _, _, _, _⟩) rfl (fun Kq hKq => ?_) AllReadyH.nil
    go_simp
    go_at_call 27
    refine (isum d c _).mono ?_
    rintro e v1 ⟨rfl, rfl⟩
    refine hKq.out _ _ (⟨K.out.c0, K.out.c1, K.out.c2, K.out.c3, H.out.c0, H.out.c1⟩) (fun hHeld => ?_)
    clear hKq Kq
    refine wpAnyH_ready (rs := [8]) (by kernel_rfl) (by simp) ?_
    refine AllReadyH.cons (o := ⟨some 89, _, _, _, _, _⟩) rfl (fun Kq hKq => ?_) AllReadyH.nil
    go_simp
    go_at_call 37
    refine (ipart _ need many _ ng _ zg _ nc _ zc _ nm _ zm m s r msg (sumF d c) I1.out I2.out I3.out (by omega) (by omega) (by omega) hmc hcm).mono ?_
    rintro e v2 ⟨rfl, hg⟩
    rw [spV_yes HP2.out]
    replace G := Lib.hid (gtr G.out hg)
    replace K := Lib.hid (K.out.kept hg)
    replace H := Lib.hid (H.out.kept hg)
    replace I1 := Lib.hid (I1.out.kept hg)
    replace I2 := Lib.hid (I2.out.kept hg)
    replace I3 := Lib.hid (I3.out.kept hg)
    clear hg
    refine hKq.out _ _ (⟨K.out.c0, K.out.c1, K.out.c2, K.out.c3, H.out.c0, H.out.c1⟩) (fun hHeld => ?_)
    clear hKq Kq
    refine wpAnyH_take (i := 9) (oi := ⟨some 80, _, _, _, _, _⟩) (v := ?_) rfl (by kernel_rfl) (by kernel_rfl) (by kernel_rfl) (fun _ _ _ h => h) (Or.inl ⟨by rfl, ?_⟩) (by assumption) ?_
    rotate_left
    · intro w hSw; (try dsimp only at hSw); go_simp; try with_reducible rfl
    simp only [Act.put, List.setIfInBounds_toArray, List.set_cons_zero, List.set_cons_succ]
    refine wpAnyH_take (i := 10) (oi := ⟨some 90, _, _, _, _, _⟩) (v := ?_) rfl (by kernel_rfl) (by kernel_rfl) (by kernel_rfl) (fun _ _ _ h => h) (Or.inl ⟨by rfl, ?_⟩) (by assumption) ?_
    rotate_left
    · intro w hSw; (try dsimp only at hSw); go_simp; try with_reducible rfl
    simp only [Act.put, List.setIfInBounds_toArray, List.set_cons_zero, List.set_cons_succ]
    refine wpAnyH_take (i := 11) (oi := ⟨some 91, _, _, _, _, _⟩) (v := ?_) rfl (by kernel_rfl) (by kernel_rfl) (by kernel_rfl) (fun _ _ _ h => h) (Or.inl ⟨by rfl, ?_⟩) (by assumption) ?_
    rotate_left
    · intro w hSw; (try dsimp only at hSw); go_simp; try with_reducible rfl
    simp only [Act.put, List.setIfInBounds_toArray, List.set_cons_zero, List.set_cons_succ]
    refine wpAnyH_take (i := 12) (oi := ⟨some 16, _, _, _, _, _⟩) (v := ?_) rfl (by kernel_rfl) (by kernel_rfl) (by kernel_rfl) (fun _ _ _ h => h) (Or.inl ⟨by rfl, ?_⟩) (by assumption) ?_
    rotate_left
    · intro w hSw; (try dsimp only at hSw); go_simp; try with_reducible rfl
    simp only [Act.put, List.setIfInBounds_toArray, List.set_cons_zero, List.set_cons_succ]
    refine wpAnyH_take (i := 13) (oi := ⟨some 17, _, _, _, _, _⟩) (v := ?_) rfl (by kernel_rfl) (by kernel_rfl) (by kernel_rfl) (fun _ _ _ h => h) (Or.inl ⟨by rfl, ?_⟩) (by assumption) ?_
    rotate_left
    · intro w hSw; (try dsimp only at hSw); go_simp; try with_reducible rfl
    simp only [Act.put, List.setIfInBounds_toArray, List.set_cons_zero, List.set_cons_succ]
    refine wpAnyH_done (by kernel_rfl) ?_ _
    go_wp2_with fail
    refine wp_region_held_drew (S := (fun w' => w'.cell? ⟨w1.heap.size, 0, none⟩ = some (.int .i64 (need : Int)) ∧ w'.cell? ⟨w1.heap.size, 1, none⟩ = some (.int .i64 (many : Int)) ∧ w'.cell? ⟨w1.heap.size, 2, none⟩ = some (.slice ag ng cg) ∧ w'.cell? ⟨w1.heap.size, 3, none⟩ = some (.slice ac nc cc) ∧ w'.cell? ⟨w1.heap.size + 1, 0, none⟩ = some (.int .i64 m) ∧ w'.cell? ⟨w1.heap.size + 1, 1, none⟩ = some (.int .i64 s))) (by kernel_rfl) (⟨K.out.c0, K.out.c1, K.out.c2, K.out.c3, H.out.c0, H.out.c1⟩) (fun hHeld => ?_)
    have hg := Draw.gdrew v2
    replace G := Lib.hid (gtr G.out hg)
    replace K := Lib.hid (K.out.kept hg)
    replace H := Lib.hid (H.out.kept hg)
    replace I1 := Lib.hid (I1.out.kept hg)
    replace I2 := Lib.hid (I2.out.kept hg)
    replace I3 := Lib.hid (I3.out.kept hg)
    clear hg
    generalize (v2).drew = V2 at *
    refine wpAnyH_take (i := 0) (oi := ⟨some 92, _, _, _, _, _⟩) (v := ?_) rfl (by kernel_rfl) (by kernel_rfl) (by kernel_rfl) (fun _ _ _ h => h) (Or.inl ⟨by rfl, ?_⟩) (by assumption) ?_
    rotate_left
    · intro w hSw; (try dsimp only at hSw); go_simp; try with_reducible rfl
    simp only [Act.put, List.setIfInBounds_toArray, List.set_cons_zero, List.set_cons_succ]
    refine wpAnyH_take (i := 1) (oi := ⟨some 93, _, _, _, _, _⟩) (v := ?_) rfl (by kernel_rfl) (by kernel_rfl) (by kernel_rfl) (fun _ _ _ h => h) (Or.inl ⟨by rfl, ?_⟩) (by assumption) ?_
    rotate_left
    · intro w hSw; (try dsimp only at hSw); go_simp; try with_reducible rfl
    simp only [Act.put, List.setIfInBounds_toArray, List.set_cons_zero, List.set_cons_succ]
    refine wpAnyH_take (i := 2) (oi := ⟨some 94, _, _, _, _, _⟩) (v := ?_) rfl (by kernel_rfl) (by kernel_rfl) (by kernel_rfl) (fun _ _ _ h => h) (Or.inl ⟨by rfl, ?_⟩) (by assumption) ?_
    rotate_left
    · intro w hSw; (try dsimp only at hSw); go_simp; try with_reducible rfl
    simp only [Act.put, List.setIfInBounds_toArray, List.set_cons_zero, List.set_cons_succ]
    refine wpAnyH_take (i := 3) (oi := ⟨some 95, _, _, _, _, _⟩) (v := ?_) rfl (by kernel_rfl) (by kernel_rfl) (by kernel_rfl) (fun _ _ _ h => h) (Or.inl ⟨by rfl, ?_⟩) (by assumption) ?_
    rotate_left
    · intro w hSw; (try dsimp only at hSw); go_simp; try with_reducible rfl
    simp only [Act.put, List.setIfInBounds_toArray, List.set_cons_zero, List.set_cons_succ]
    refine wpAnyH_take (i := 4) (oi := ⟨some 96, _, _, _, _, _⟩) (v := ?_) rfl (by kernel_rfl) (by kernel_rfl) (by kernel_rfl) (fun _ _ _ h => h) (Or.inl ⟨by rfl, ?_⟩) (by assumption) ?_
    rotate_left
    · intro w hSw; (try dsimp only at hSw); go_simp; try with_reducible rfl
    simp only [Act.put, List.setIfInBounds_toArray, List.set_cons_zero, List.set_cons_succ]
    refine wpAnyH_take (i := 6) (oi := ⟨some 98, _, _, _, _, _⟩) (v := ?_) rfl (by kernel_rfl) (by kernel_rfl) (by kernel_rfl) (fun _ _ _ h => h) (Or.inl ⟨by rfl, ?_⟩) (by assumption) ?_
    rotate_left
    · intro w hSw; (try dsimp only at hSw); go_simp; try with_reducible rfl
    simp only [Act.put, List.setIfInBounds_toArray, List.set_cons_zero, List.set_cons_succ]
    refine wpAnyH_take (i := 7) (oi := ⟨some 99, _, _, _, _, _⟩) (v := ?_) rfl (by kernel_rfl) (by kernel_rfl) (by kernel_rfl) (fun _ _ _ h => h) (Or.inl ⟨by rfl, ?_⟩) (by assumption) ?_
    rotate_left
    · intro w hSw; (try dsimp only at hSw); go_simp; try with_reducible rfl
    simp only [Act.put, List.setIfInBounds_toArray, List.set_cons_zero, List.set_cons_succ]
    refine wpAnyH_take (i := 8) (oi := ⟨some 100, _, _, _, _, _⟩) (v := ?_) rfl (by kernel_rfl) (by kernel_rfl) (by kernel_rfl) (fun _ _ _ h => h) (Or.inl ⟨by rfl, ?_⟩) (by assumption) ?_
    rotate_left
    · intro w hSw; (try dsimp only at hSw); go_simp; try with_reducible rfl
    simp only [Act.put, List.setIfInBounds_toArray, List.set_cons_zero, List.set_cons_succ]
    refine wpAnyH_ready (rs := [5]) (by kernel_rfl) (by simp) ?_
    refine AllReadyH.cons (o := ⟨some 97, _, _, _, _, _⟩) rfl (fun Kq hKq => ?_) AllReadyH.nil
    go_simp
    go_at_call 26
    refine (igof d _).mono ?_
    rintro e v3 ⟨rfl, hg⟩
    replace G := Lib.hid (gtr G.out hg)
    replace K := Lib.hid (K.out.kept hg)
    replace H := Lib.hid (H.out.kept hg)
    replace I1 := Lib.hid (I1.out.kept hg)
    replace I2 := Lib.hid (I2.out.kept hg)
    replace I3 := Lib.hid (I3.out.kept hg)
    clear hg
    refine hKq.out _ _ (⟨K.out.c0, K.out.c1, K.out.c2, K.out.c3, H.out.c0, H.out.c1⟩) (fun hHeld => ?_)
    clear hKq Kq
    refine wpAnyH_ready (rs := [9]) (by kernel_rfl) (by simp) ?_
    refine AllReadyH.cons (o := ⟨some 101, _, _, _, _, _⟩) rfl (fun Kq hKq => ?_) AllReadyH.nil
    go_simp
    go_at_call 40
    refine (ifits _ need many _ ng _ zg _ nc _ zc _ nm _ zm m (gofF d) r msg (sumF d (mulF (gW zc nm zm m r msg) s)) I1.out I2.out I3.out (by omega) (by omega) (by omega) hmc hcm).mono ?_
    rintro e v4 ⟨rfl, hg⟩
    rw [HFA.out]
    replace G := Lib.hid (gtr G.out hg)
    replace K := Lib.hid (K.out.kept hg)
    replace H := Lib.hid (H.out.kept hg)
    replace I1 := Lib.hid (I1.out.kept hg)
    replace I2 := Lib.hid (I2.out.kept hg)
    replace I3 := Lib.hid (I3.out.kept hg)
    clear hg
    refine hKq.out _ _ (⟨K.out.c0, K.out.c1, K.out.c2, K.out.c3, H.out.c0, H.out.c1⟩) (fun hHeld => ?_)
    clear hKq Kq
    refine wpAnyH_take (i := 10) (oi := ⟨some 18, _, _, _, _, _⟩) (v := ?_) rfl (by kernel_rfl) (by kernel_rfl) (by kernel_rfl) (fun _ _ _ h => h) (Or.inl ⟨by rfl, ?_⟩) (by assumption) ?_
    rotate_left
    · intro w hSw; (try dsimp only at hSw); go_simp; try with_reducible rfl
    simp only [Act.put, List.setIfInBounds_toArray, List.set_cons_zero, List.set_cons_succ]
    refine wpAnyH_done (by kernel_rfl) ?_ _
    go_wp2_with fail
    refine wp_region_held_drew (S := (fun w' => w'.cell? ⟨w1.heap.size, 0, none⟩ = some (.int .i64 (need : Int)) ∧ w'.cell? ⟨w1.heap.size, 1, none⟩ = some (.int .i64 (many : Int)) ∧ w'.cell? ⟨w1.heap.size, 2, none⟩ = some (.slice ag ng cg) ∧ w'.cell? ⟨w1.heap.size, 3, none⟩ = some (.slice ac nc cc) ∧ w'.cell? ⟨w1.heap.size + 1, 0, none⟩ = some (.int .i64 m) ∧ w'.cell? ⟨w1.heap.size + 1, 1, none⟩ = some (.int .i64 s))) (by kernel_rfl) (⟨K.out.c0, K.out.c1, K.out.c2, K.out.c3, H.out.c0, H.out.c1⟩) (fun hHeld => ?_)
    have hg := Draw.gdrew v4
    replace G := Lib.hid (gtr G.out hg)
    replace K := Lib.hid (K.out.kept hg)
    replace H := Lib.hid (H.out.kept hg)
    replace I1 := Lib.hid (I1.out.kept hg)
    replace I2 := Lib.hid (I2.out.kept hg)
    replace I3 := Lib.hid (I3.out.kept hg)
    clear hg
    generalize (v4).drew = V3 at *
    refine wpAnyH_take (i := 0) (oi := ⟨some 102, _, _, _, _, _⟩) (v := ?_) rfl (by kernel_rfl) (by kernel_rfl) (by kernel_rfl) (fun _ _ _ h => h) (Or.inl ⟨by rfl, ?_⟩) (by assumption) ?_
    rotate_left
    · intro w hSw; (try dsimp only at hSw); go_simp; try with_reducible rfl
    simp only [Act.put, List.setIfInBounds_toArray, List.set_cons_zero, List.set_cons_succ]
    refine wpAnyH_take (i := 1) (oi := ⟨some 103, _, _, _, _, _⟩) (v := ?_) rfl (by kernel_rfl) (by kernel_rfl) (by kernel_rfl) (fun _ _ _ h => h) (Or.inl ⟨by rfl, ?_⟩) (by assumption) ?_
    rotate_left
    · intro w hSw; (try dsimp only at hSw); go_simp; try with_reducible rfl
    simp only [Act.put, List.setIfInBounds_toArray, List.set_cons_zero, List.set_cons_succ]
    refine wpAnyH_take (i := 2) (oi := ⟨some 104, _, _, _, _, _⟩) (v := ?_) rfl (by kernel_rfl) (by kernel_rfl) (by kernel_rfl) (fun _ _ _ h => h) (Or.inl ⟨by rfl, ?_⟩) (by assumption) ?_
    rotate_left
    · intro w hSw; (try dsimp only at hSw); go_simp; try with_reducible rfl
    simp only [Act.put, List.setIfInBounds_toArray, List.set_cons_zero, List.set_cons_succ]
    refine wpAnyH_take (i := 3) (oi := ⟨some 105, _, _, _, _, _⟩) (v := ?_) rfl (by kernel_rfl) (by kernel_rfl) (by kernel_rfl) (fun _ _ _ h => h) (Or.inl ⟨by rfl, ?_⟩) (by assumption) ?_
    rotate_left
    · intro w hSw; (try dsimp only at hSw); go_simp; try with_reducible rfl
    simp only [Act.put, List.setIfInBounds_toArray, List.set_cons_zero, List.set_cons_succ]
    refine wpAnyH_take (i := 4) (oi := ⟨some 106, _, _, _, _, _⟩) (v := ?_) rfl (by kernel_rfl) (by kernel_rfl) (by kernel_rfl) (fun _ _ _ h => h) (Or.inl ⟨by rfl, ?_⟩) (by assumption) ?_
    rotate_left
    · intro w hSw; (try dsimp only at hSw); go_simp; try with_reducible rfl
    simp only [Act.put, List.setIfInBounds_toArray, List.set_cons_zero, List.set_cons_succ]
    refine wpAnyH_take (i := 5) (oi := ⟨some 107, _, _, _, _, _⟩) (v := ?_) rfl (by kernel_rfl) (by kernel_rfl) (by kernel_rfl) (fun _ _ _ h => h) (Or.inl ⟨by rfl, ?_⟩) (by assumption) ?_
    rotate_left
    · intro w hSw; (try dsimp only at hSw); go_simp; try with_reducible rfl
    simp only [Act.put, List.setIfInBounds_toArray, List.set_cons_zero, List.set_cons_succ]
    refine wpAnyH_take (i := 8) (oi := ⟨some 110, _, _, _, _, _⟩) (v := ?_) rfl (by kernel_rfl) (by kernel_rfl) (by kernel_rfl) (fun _ _ _ h => h) (Or.inl ⟨by rfl, ?_⟩) (by assumption) ?_
    rotate_left
    · intro w hSw; (try dsimp only at hSw); go_simp; try with_reducible rfl
    simp only [Act.put, List.setIfInBounds_toArray, List.set_cons_zero, List.set_cons_succ]
    refine wpAnyH_take (i := 9) (oi := ⟨some 111, _, _, _, _, _⟩) (v := ?_) rfl (by kernel_rfl) (by kernel_rfl) (by kernel_rfl) (fun _ _ _ h => h) (Or.inl ⟨by rfl, ?_⟩) (by assumption) ?_
    rotate_left
    · intro w hSw; (try dsimp only at hSw); go_simp; try with_reducible rfl
    simp only [Act.put, List.setIfInBounds_toArray, List.set_cons_zero, List.set_cons_succ]
    refine wpAnyH_take (i := 10) (oi := ⟨some 112, _, _, _, _, _⟩) (v := ?_) rfl (by kernel_rfl) (by kernel_rfl) (by kernel_rfl) (fun _ _ _ h => h) (Or.inl ⟨by rfl, ?_⟩) (by assumption) ?_
    rotate_left
    · intro w hSw; (try dsimp only at hSw); go_simp; try with_reducible rfl
    simp only [Act.put, List.setIfInBounds_toArray, List.set_cons_zero, List.set_cons_succ]
    refine wpAnyH_ready (rs := [6]) (by kernel_rfl) (by simp) ?_
    refine AllReadyH.cons (o := ⟨some 108, _, _, _, _, _⟩) rfl (fun Kq hKq => ?_) AllReadyH.nil
    go_simp
    go_at_call 27
    refine (isum d c _).mono ?_
    rintro e v5 ⟨rfl, rfl⟩
    refine hKq.out _ _ (⟨K.out.c0, K.out.c1, K.out.c2, K.out.c3, H.out.c0, H.out.c1⟩) (fun hHeld => ?_)
    clear hKq Kq
    refine wpAnyH_ready (rs := [7]) (by kernel_rfl) (by simp) ?_
    refine AllReadyH.cons (o := ⟨some 109, _, _, _, _, _⟩) rfl (fun Kq hKq => ?_) AllReadyH.nil
    go_simp
    go_at_call 26
    refine (igof (sumF d c) _).mono ?_
    rintro e v6 ⟨rfl, hg⟩
    replace G := Lib.hid (gtr G.out hg)
    replace K := Lib.hid (K.out.kept hg)
    replace H := Lib.hid (H.out.kept hg)
    replace I1 := Lib.hid (I1.out.kept hg)
    replace I2 := Lib.hid (I2.out.kept hg)
    replace I3 := Lib.hid (I3.out.kept hg)
    clear hg
    refine hKq.out _ _ (⟨K.out.c0, K.out.c1, K.out.c2, K.out.c3, H.out.c0, H.out.c1⟩) (fun hHeld => ?_)
    clear hKq Kq
    refine wpAnyH_ready (rs := [11]) (by kernel_rfl) (by simp) ?_
    refine AllReadyH.cons (o := ⟨some 113, _, _, _, _, _⟩) rfl (fun Kq hKq => ?_) AllReadyH.nil
    go_simp
    go_at_call 40
    refine (ifits _ need many _ ng _ zg _ nc _ zc _ nm _ zm m (gofF (sumF d c)) r msg (sumF (sumF d c) (mulF (gW zc nm zm m r msg) s)) I1.out I2.out I3.out (by omega) (by omega) (by omega) hmc hcm).mono ?_
    rintro e v7 ⟨rfl, hg⟩
    rw [HFB.out]
    replace G := Lib.hid (gtr G.out hg)
    replace K := Lib.hid (K.out.kept hg)
    replace H := Lib.hid (H.out.kept hg)
    replace I1 := Lib.hid (I1.out.kept hg)
    replace I2 := Lib.hid (I2.out.kept hg)
    replace I3 := Lib.hid (I3.out.kept hg)
    clear hg
    refine hKq.out _ _ (⟨K.out.c0, K.out.c1, K.out.c2, K.out.c3, H.out.c0, H.out.c1⟩) (fun hHeld => ?_)
    clear hKq Kq
    refine wpAnyH_take (i := 12) (oi := ⟨some 19, _, _, _, _, _⟩) (v := ?_) rfl (by kernel_rfl) (by kernel_rfl) (by kernel_rfl) (fun _ _ _ h => h) (Or.inl ⟨by rfl, ?_⟩) (by assumption) ?_
    rotate_left
    · intro w hSw; (try dsimp only at hSw); go_simp; try with_reducible rfl
    simp only [Act.put, List.setIfInBounds_toArray, List.set_cons_zero, List.set_cons_succ]
    refine wpAnyH_done (by kernel_rfl) ?_ _
    rw [HE.out]
    go_wp2_with fail
    refine (isum _ c _).mono ?_
    rintro e w' ⟨rfl, rfl⟩
    generalize sumF (sumF d (mulF (gW zc nm zm m r msg) s)) c = yy
    generalize (gW zc nm zm m r msg == 0 || kfit need many ng zg nc zc m s) = qq
    go_wp2
    go_ret
    exact ⟨by first | rfl | simp, Draw.below_of G.out⟩

/-- How often, as far as the list was gone through. -/
def oft (zm : Nat → Int) (m : Int) (k : Nat) (W : Int) : Int := if hasz zm m k then W else 0
theorem oft_yes {zm : Nat → Int} {m : Int} {k : Nat} {W : Int} (h : hasz zm m k = true) : oft zm m k W = W := if_pos h
theorem oft_zero {zm : Nat → Int} {m : Int} {W : Int} : oft zm m 0 W = 0 := rfl
theorem oft_next {zm : Nat → Int} {m : Int} {k : Nat} {W : Int} (h : ¬ zm k = m) : oft zm m (k + 1) W = oft zm m k W := by
  have e : (zm k == m) = false := by simpa using h
  unfold oft; rw [hasz, e, Bool.or_false]
set_option maxRecDepth 100000 in
set_option maxHeartbeats 4000000 in
theorem FnPart (a : Option Addr) (len cap : Nat) (w : World) (hB : Draw.Bytes w w.heap.size a len) (hc : len ≤ cap) (hm : cap ≤ maxLen) :
    Calls Try.prog 7 #[.slice a len cap] w (Yes w) := by
  by_cases hbig : 1048576 < len
  · have hbig' : (1048576 : Int) < (len : Int) := by omega
    clear hB
    go_enter Try.func7, Try.ntmps7
    go_wp2
    go_ret
    exact ⟨rfl, Below.refl _ _⟩
  have hbig' : ¬ (1048576 : Int) < (len : Int) := by omega
  go_enter Try.func7, Try.ntmps7
  go_wp2_with fail
  refine (drawSP _ a len cap hB hc hm).mono ?_
  rintro e w1 ⟨need, many, ag, ng, cg, zg, ac, nc, cc, zc, am, nm, cm, zm, m, s, r, msg, d, rfl, b1, b2, b3, hmc, hcm, i1, i2, i3, hg⟩
  have g1 := gtr (Draw.grown_alloc w1 (.cells #[.int .i64 need, .int .i64 many, .slice ag ng cg, .slice ac nc cc] 42) none) (Draw.grown_alloc _ (.cells #[.int .i64 m, .int .i64 s] 44) none)
  have G := Lib.hid (gtr hg g1)
  have K := Lib.hid ((Ky.new w1 need many (.slice ag ng cg) (.slice ac nc cc) 42).kept (Draw.grown_alloc _ (.cells #[.int .i64 m, .int .i64 s] 44) none))
  have H := Lib.hid (Du.of_blk (blk_new2 w1 (.cells #[.int .i64 need, .int .i64 many, .slice ag ng cg, .slice ac nc cc] 42) #[.int .i64 m, .int .i64 s] 44))
  have I1 := Lib.hid (i1.kept g1); have I2 := Lib.hid (i2.kept g1); have I3 := Lib.hid (i3.kept g1)
  clear i1 i2 i3 g1 hg hB
  obtain ⟨_, k0, k1, k2, k3⟩ := K.out
  obtain ⟨_, x0, x1⟩ := H.out
  go_wp2_with fail
  refine (spart _ need many _ ng _ zg _ nc _ zc _ nm _ zm m s r msg d I1.out I2.out I3.out (by omega) (by omega) (by omega)).mono ?_
  rintro e w2 ⟨rfl, hg⟩
  clear k0 k1 k2 k3
  clear x0 x1
  replace G := Lib.hid (gtr G.out hg)
  replace K := Lib.hid (K.out.kept hg)
  replace H := Lib.hid (H.out.kept hg)
  replace I1 := Lib.hid (I1.out.kept hg)
  replace I2 := Lib.hid (I2.out.kept hg)
  replace I3 := Lib.hid (I3.out.kept hg)
  clear hg
  obtain ⟨_, k0, k1, k2, k3⟩ := K.out
  obtain ⟨_, x0, x1⟩ := H.out
  unfold spV
  go_wp2_with fail
  refine (ipart _ need many _ ng _ zg _ nc _ zc _ nm _ zm m s r msg d I1.out I2.out I3.out (by omega) (by omega) (by omega) hmc hcm).mono ?_
  rintro e w3 ⟨rfl, hg⟩
  clear k0 k1 k2 k3
  clear x0 x1
  replace G := Lib.hid (gtr G.out hg)
  replace K := Lib.hid (K.out.kept hg)
  replace H := Lib.hid (H.out.kept hg)
  replace I1 := Lib.hid (I1.out.kept hg)
  replace I2 := Lib.hid (I2.out.kept hg)
  replace I3 := Lib.hid (I3.out.kept hg)
  clear hg
  obtain ⟨_, k0, k1, k2, k3⟩ := K.out
  obtain ⟨_, x0, x1⟩ := H.out
  unfold spV
  have hzz : (spZ need many ng zg nc zc nm zm m s r msg d != spZ need many ng zg nc zc nm zm m s r msg d) = false := by simp
  have hzq : (spZ need many ng zg nc zc nm zm m s r msg d == spZ need many ng zg nc zc nm zm m s r msg d) = true := by simp
  cases hok : spOk need many ng zg nc zc nm zm m s r msg d with
  | false =>
    go_wp2
    go_ret
    exact ⟨rfl, Draw.below_of G.out⟩
  | true =>
    obtain ⟨hga, hs, hd, hr, hms⟩ := sp_iff.1 hok
    have hz0 : spZ need many ng zg nc zc nm zm m s r msg d = sumF d (mulF (gW zc nm zm m r msg) s) := by unfold spZ; rw [if_pos hok]
    rw [hz0] at hzz hzq ⊢
    clear hz0 hok
    have hf := ga_facts hga
    have HPL := Lib.hid hf.2.2.2.2.2.2.1
    have HHA := Lib.hid (ga_iff.1 hga).2.2
    have HPUB := Lib.hid (ga_pub hga)
    have HH := Lib.hid (hF_in hr hf.2.2.2.2.2.2.2.2.2.2.1 hms)
    have HFA := Lib.hid (part_fits hga hs hd hr hms)
    have HF0 := Lib.hid (show fok 0 = true from rfl)
    clear hf hga hs hd hr hms
    go_wp2_with fail
    refine (ipline_yes _ _ nm _ zm 0 I3.out hmc hcm HPL.out HF0.out).mono ?_
    rintro e w4 ⟨bl, rfl, hrow, hg⟩
    clear k0 k1 k2 k3
    clear x0 x1
    replace G := Lib.hid (gtr G.out hg)
    replace K := Lib.hid (K.out.kept hg)
    replace H := Lib.hid (H.out.kept hg)
    replace I1 := Lib.hid (I1.out.kept hg)
    replace I2 := Lib.hid (I2.out.kept hg)
    replace I3 := Lib.hid (I3.out.kept hg)
    clear hg
    obtain ⟨_, k0, k1, k2, k3⟩ := K.out
    obtain ⟨_, x0, x1⟩ := H.out
    clear hzz hzq
    have L := Lib.hid hrow; clear hrow
    clear k0 k1 k2 k3
    clear x0 x1
    go_wp2
    go_loopw [14, 15] (fun o i W => ∃ k : Nat, k ≤ nm ∧ o = .int .i64 (oft zm m k (gW zc nm zm m r msg)) ∧ i = .int .i64 k ∧ w4.grownBy W none) (fun _ i _ => nm - (intOf i).toNat)
    case atStart => exact ⟨0, by omega, by rw [oft_zero], rfl, Draw.grown_refl _ _⟩
    case round =>
      obtain ⟨k, hk, rfl, rfl, hg⟩ := hrel
      obtain ⟨W1, hW⟩ : ∃ W, W = wr := ⟨_, rfl⟩; subst hW
      have C := Lib.hid hg
      replace G := Lib.hid (gtr G.out hg)
      replace K := Lib.hid (K.out.kept hg)
      replace H := Lib.hid (H.out.kept hg)
      replace I1 := Lib.hid (I1.out.kept hg)
      replace I2 := Lib.hid (I2.out.kept hg)
      replace I3 := Lib.hid (I3.out.kept hg)
      replace L := Lib.hid (L.out.keptN hg)
      clear hg
      by_cases hlt : k < nm
      · skip
        have hlt' : (k : Int) < (nm : Int) := by omega
        have hk0 : (0 : Int) ≤ (k : Int) := by omega
        obtain ⟨bm, om, rfl, hbm, hmcel⟩ := I3.out.ptr (by omega)
        have hcx := hmcel k hlt
        clear hmcel
        have HCX := Lib.hid hcx; clear hcx
        have HMC : ∀ V : World, W1.grownBy V none → V.cell? ⟨bm, om + k, none⟩ = some (.int .i64 (zm k)) := fun V hg => (World.cell?_of_block (hg.block bm hbm (by simp))).trans HCX.out
        have HMC := Lib.hid HMC
        go_wp2_with fail
        refine wp_region_held_drew (S := (fun w' => w'.cell? ⟨bm, om + k, none⟩ = some (.int .i64 (zm k)) ∧ w'.cell? ⟨w1.heap.size + 1, 0, none⟩ = some (.int .i64 m))) (by kernel_rfl) (⟨HMC.out _ (Draw.gdrew _), H.out.c0⟩) (fun hHeld => ?_)
        have hg := Draw.gdrew W1
        replace G := Lib.hid (gtr G.out hg)
        replace K := Lib.hid (K.out.kept hg)
        replace H := Lib.hid (H.out.kept hg)
        replace I1 := Lib.hid (I1.out.kept hg)
        replace I2 := Lib.hid (I2.out.kept hg)
        replace I3 := Lib.hid (I3.out.kept hg)
        replace L := Lib.hid (L.out.keptN hg)
        replace C := Lib.hid (gtr C.out hg)
        clear hg
        generalize W1.drew = V1 at *
        refine wpAnyH_take (i := 0) (oi := ⟨some 77, _, _, _, _, _⟩) (v := ?_) rfl (by kernel_rfl) (by kernel_rfl) (by kernel_rfl) (fun _ _ _ h => h) (Or.inl ⟨by rfl, ?_⟩) (by assumption) ?_
        rotate_left
        · intro w hSw; (try dsimp only at hSw); go_simp; try with_reducible rfl
        simp only [Act.put, List.setIfInBounds_toArray, List.set_cons_zero, List.set_cons_succ]
        refine wpAnyH_take (i := 1) (oi := ⟨some 78, _, _, _, _, _⟩) (v := ?_) rfl (by kernel_rfl) (by kernel_rfl) (by kernel_rfl) (fun _ _ _ h => h) (Or.inl ⟨by rfl, ?_⟩) (by assumption) ?_
        rotate_left
        · intro w hSw; (try dsimp only at hSw); go_simp; try with_reducible rfl
        simp only [Act.put, List.setIfInBounds_toArray, List.set_cons_zero, List.set_cons_succ]
        refine wpAnyH_take (i := 2) (oi := ⟨some 79, _, _, _, _, _⟩) (v := ?_) rfl (by kernel_rfl) (by kernel_rfl) (by kernel_rfl) (fun _ _ _ h => h) (Or.inl ⟨by rfl, ?_⟩) (by assumption) ?_
        rotate_left
        · intro w hSw; (try dsimp only at hSw); go_simp; try with_reducible rfl
        simp only [Act.put, List.setIfInBounds_toArray, List.set_cons_zero, List.set_cons_succ]
        refine wpAnyH_take (i := 3) (oi := ⟨some 80, _, _, _, _, _⟩) (v := ?_) rfl (by kernel_rfl) (by kernel_rfl) (by kernel_rfl) (fun _ _ _ h => h) (Or.inl ⟨by rfl, ?_⟩) (by assumption) ?_
        rotate_left
        · intro w hSw; (try dsimp only at hSw); go_simp; try with_reducible rfl
        simp only [Act.put, List.setIfInBounds_toArray, List.set_cons_zero, List.set_cons_succ]
        refine wpAnyH_take (i := 4) (oi := ⟨some 81, _, _, _, _, _⟩) (v := ?_) rfl (by kernel_rfl) (by kernel_rfl) (by kernel_rfl) (fun _ _ _ h => h) (Or.inl ⟨by rfl, ?_⟩) (by assumption) ?_
        rotate_left
        · intro w hSw; (try dsimp only at hSw); go_simp; try with_reducible rfl
        simp only [Act.put, List.setIfInBounds_toArray, List.set_cons_zero, List.set_cons_succ]
        refine wpAnyH_take (i := 5) (oi := ⟨some 82, _, _, _, _, _⟩) (v := ?_) rfl (by kernel_rfl) (by kernel_rfl) (by kernel_rfl) (fun _ _ _ h => h) (Or.inl ⟨by rfl, ?_⟩) (by assumption) ?_
        rotate_left
        · intro w hSw; (try dsimp only at hSw); go_simp; try with_reducible rfl
        simp only [Act.put, List.setIfInBounds_toArray, List.set_cons_zero, List.set_cons_succ]
        refine wpAnyH_take (i := 6) (oi := ⟨some 83, _, _, _, _, _⟩) (v := ?_) rfl (by kernel_rfl) (by kernel_rfl) (by kernel_rfl) (fun _ _ _ h => h) (Or.inl ⟨by rfl, ?_⟩) (by assumption) ?_
        rotate_left
        · intro w hSw; (try dsimp only at hSw); go_simp; try with_reducible rfl
        simp only [Act.put, List.setIfInBounds_toArray, List.set_cons_zero, List.set_cons_succ]
        refine wpAnyH_done (by kernel_rfl) ?_ _
        by_cases he : zm k = m
        · have ht : (zm k == m) = true := by simpa using he
          have hnb : hasz zm m k = false := by have h := ((plok_iff.1 HPL.out).2 k hlt).2; rw [he] at h; exact h
          have HW := Lib.hid (show mulF (zline nm zm 0 k) (hz r (zc 0) msg) = gW zc nm zm m r msg by unfold gW; rw [pos_at hlt hnb he])
          have HO := Lib.hid (show oft zm m (k + 1) (gW zc nm zm m r msg) = gW zc nm zm m r msg from oft_yes (hasz_yes (by omega) he))
          clear hnb he
          have hlc : World.cell? V1 ⟨bl, k, none⟩ = some (.int .i64 (zline nm zm 0 k)) := L.out.cell hlt
          clear hlc
          go_wp2_with fail
          refine wp_region_held_drew (S := (fun w' => w'.cell? ⟨w1.heap.size, 0, none⟩ = some (.int .i64 (need : Int)) ∧ w'.cell? ⟨w1.heap.size, 1, none⟩ = some (.int .i64 (many : Int)) ∧ w'.cell? ⟨w1.heap.size, 2, none⟩ = some (.slice ag ng cg) ∧ w'.cell? ⟨w1.heap.size, 3, none⟩ = some (.slice ac nc cc) ∧ w'.cell? ⟨bl, k, none⟩ = some (.int .i64 (zline nm zm 0 k)))) (by kernel_rfl) (⟨K.out.c0, K.out.c1, K.out.c2, K.out.c3, L.out.cell hlt⟩) (fun hHeld => ?_)
          have hg := Draw.gdrew V1
          replace G := Lib.hid (gtr G.out hg)
          replace K := Lib.hid (K.out.kept hg)
          replace H := Lib.hid (H.out.kept hg)
          replace I1 := Lib.hid (I1.out.kept hg)
          replace I2 := Lib.hid (I2.out.kept hg)
          replace I3 := Lib.hid (I3.out.kept hg)
          replace L := Lib.hid (L.out.keptN hg)
          replace C := Lib.hid (gtr C.out hg)
          clear hg
          generalize V1.drew = V2 at *
          refine wpAnyH_take (i := 0) (oi := ⟨some 84, _, _, _, _, _⟩) (v := ?_) rfl (by kernel_rfl) (by kernel_rfl) (by kernel_rfl) (fun _ _ _ h => h) (Or.inl ⟨by rfl, ?_⟩) (by assumption) ?_
          rotate_left
          · intro w hSw; (try dsimp only at hSw); go_simp; try with_reducible rfl
          simp only [Act.put, List.setIfInBounds_toArray, List.set_cons_zero, List.set_cons_succ]
          refine wpAnyH_take (i := 1) (oi := ⟨some 85, _, _, _, _, _⟩) (v := ?_) rfl (by kernel_rfl) (by kernel_rfl) (by kernel_rfl) (fun _ _ _ h => h) (Or.inl ⟨by rfl, ?_⟩) (by assumption) ?_
          rotate_left
          · intro w hSw; (try dsimp only at hSw); go_simp; try with_reducible rfl
          simp only [Act.put, List.setIfInBounds_toArray, List.set_cons_zero, List.set_cons_succ]
          refine wpAnyH_take (i := 2) (oi := ⟨some 86, _, _, _, _, _⟩) (v := ?_) rfl (by kernel_rfl) (by kernel_rfl) (by kernel_rfl) (fun _ _ _ h => h) (Or.inl ⟨by rfl, ?_⟩) (by assumption) ?_
          rotate_left
          · intro w hSw; (try dsimp only at hSw); go_simp; try with_reducible rfl
          simp only [Act.put, List.setIfInBounds_toArray, List.set_cons_zero, List.set_cons_succ]
          refine wpAnyH_take (i := 3) (oi := ⟨some 87, _, _, _, _, _⟩) (v := ?_) rfl (by kernel_rfl) (by kernel_rfl) (by kernel_rfl) (fun _ _ _ h => h) (Or.inl ⟨by rfl, ?_⟩) (by assumption) ?_
          rotate_left
          · intro w hSw; (try dsimp only at hSw); go_simp; try with_reducible rfl
          simp only [Act.put, List.setIfInBounds_toArray, List.set_cons_zero, List.set_cons_succ]
          refine wpAnyH_take (i := 4) (oi := ⟨some 88, _, _, _, _, _⟩) (v := ?_) rfl (by kernel_rfl) (by kernel_rfl) (by kernel_rfl) (fun _ _ _ h => h) (Or.inl ⟨by rfl, ?_⟩) (by assumption) ?_
          rotate_left
          · intro w hSw; (try dsimp only at hSw); go_simp; try with_reducible rfl
          simp only [Act.put, List.setIfInBounds_toArray, List.set_cons_zero, List.set_cons_succ]
          refine wpAnyH_take (i := 5) (oi := ⟨some 89, _, _, _, _, _⟩) (v := ?_) rfl (by kernel_rfl) (by kernel_rfl) (by kernel_rfl) (fun _ _ _ h => h) (Or.inl ⟨by rfl, ?_⟩) (by assumption) ?_
          rotate_left
          · intro w hSw; (try dsimp only at hSw); go_simp; try with_reducible rfl
          simp only [Act.put, List.setIfInBounds_toArray, List.set_cons_zero, List.set_cons_succ]
          refine wpAnyH_take (i := 7) (oi := ⟨some 91, _, _, _, _, _⟩) (v := ?_) rfl (by kernel_rfl) (by kernel_rfl) (by kernel_rfl) (fun _ _ _ h => h) (Or.inl ⟨by rfl, ?_⟩) (by assumption) ?_
          rotate_left
          · intro w hSw; (try dsimp only at hSw); go_simp; try with_reducible rfl
          simp only [Act.put, List.setIfInBounds_toArray, List.set_cons_zero, List.set_cons_succ]
          refine wpAnyH_ready (rs := [6]) (by kernel_rfl) (by simp) ?_
          refine AllReadyH.cons (o := ⟨some 90, _, _, _, _, _⟩) rfl (fun Kq hKq => ?_) AllReadyH.nil
          go_simp
          go_at_call 39
          refine (ikeypub _ need many _ ng _ zg _ nc _ zc I1.out I2.out (by omega) (by omega)).mono ?_
          rintro e v1 ⟨rfl, hg⟩
          rw [HPUB.out]
          replace G := Lib.hid (gtr G.out hg)
          replace K := Lib.hid (K.out.kept hg)
          replace H := Lib.hid (H.out.kept hg)
          replace I1 := Lib.hid (I1.out.kept hg)
          replace I2 := Lib.hid (I2.out.kept hg)
          replace I3 := Lib.hid (I3.out.kept hg)
          replace L := Lib.hid (L.out.keptN hg)
          replace C := Lib.hid (gtr C.out hg)
          clear hg
          refine hKq.out _ _ (⟨K.out.c0, K.out.c1, K.out.c2, K.out.c3, L.out.cell hlt⟩) (fun hHeld => ?_)
          clear hKq Kq
          refine wpAnyH_ready (rs := [8]) (by kernel_rfl) (by simp) ?_
          refine AllReadyH.cons (o := ⟨some 92, _, _, _, _, _⟩) rfl (fun Kq hKq => ?_) AllReadyH.nil
          go_simp
          go_at_call 18
          refine (ihash _ r (zc 0) msg).mono ?_
          rintro e v2 ⟨rfl, hg⟩
          rw [HH.out]
          replace G := Lib.hid (gtr G.out hg)
          replace K := Lib.hid (K.out.kept hg)
          replace H := Lib.hid (H.out.kept hg)
          replace I1 := Lib.hid (I1.out.kept hg)
          replace I2 := Lib.hid (I2.out.kept hg)
          replace I3 := Lib.hid (I3.out.kept hg)
          replace L := Lib.hid (L.out.keptN hg)
          replace C := Lib.hid (gtr C.out hg)
          clear hg
          refine hKq.out _ _ (⟨K.out.c0, K.out.c1, K.out.c2, K.out.c3, L.out.cell hlt⟩) (fun hHeld => ?_)
          clear hKq Kq
          refine wpAnyH_ready (rs := [9]) (by kernel_rfl) (by simp) ?_
          refine AllReadyH.cons (o := ⟨some 93, _, _, _, _, _⟩) rfl (fun Kq hKq => ?_) AllReadyH.nil
          go_simp
          go_at_call 28
          refine (imul _ _ _).mono ?_
          rintro e v3 ⟨rfl, rfl⟩
          rw [HW.out]
          refine hKq.out _ _ (⟨K.out.c0, K.out.c1, K.out.c2, K.out.c3, L.out.cell hlt⟩) (fun hHeld => ?_)
          clear hKq Kq
          refine wpAnyH_take (i := 10) (oi := ⟨some 14, _, _, _, _, _⟩) (v := ?_) rfl (by kernel_rfl) (by kernel_rfl) (by kernel_rfl) (fun _ _ _ h => h) (Or.inl ⟨by rfl, ?_⟩) (by assumption) ?_
          rotate_left
          · intro w hSw; (try dsimp only at hSw); go_simp; try with_reducible rfl
          simp only [Act.put, List.setIfInBounds_toArray, List.set_cons_zero, List.set_cons_succ]
          refine wpAnyH_done (by kernel_rfl) ?_ _
          go_wp2
          go_roundw
          case rel => exact ⟨k + 1, by omega, by rw [HO.out], by go_num, C.out⟩
          case measure => simp [intOf]; omega
        · have ht : (zm k == m) = false := by simpa using he
          have HO := Lib.hid (show oft zm m (k + 1) (gW zc nm zm m r msg) = oft zm m k (gW zc nm zm m r msg) from oft_next he)
          clear he
          go_wp2
          go_roundw
          case rel => exact ⟨k + 1, by omega, by rw [HO.out], by go_num, C.out⟩
          case measure => simp [intOf]; omega
      · obtain rfl : k = nm := by omega
        have hlt' : ¬ (k : Int) < (k : Int) := by omega
        rw [oft_yes HHA.out]
        go_wp2_with fail
        refine wp_region_held_drew (S := (fun w' => w'.cell? ⟨w1.heap.size, 0, none⟩ = some (.int .i64 (need : Int)) ∧ w'.cell? ⟨w1.heap.size, 1, none⟩ = some (.int .i64 (many : Int)) ∧ w'.cell? ⟨w1.heap.size, 2, none⟩ = some (.slice ag ng cg) ∧ w'.cell? ⟨w1.heap.size, 3, none⟩ = some (.slice ac nc cc) ∧ w'.cell? ⟨w1.heap.size + 1, 0, none⟩ = some (.int .i64 m) ∧ w'.cell? ⟨w1.heap.size + 1, 1, none⟩ = some (.int .i64 s))) (by kernel_rfl) (⟨K.out.c0, K.out.c1, K.out.c2, K.out.c3, H.out.c0, H.out.c1⟩) (fun hHeld => ?_)
        have hg := Draw.gdrew W1
        replace G := Lib.hid (gtr G.out hg)
        replace K := Lib.hid (K.out.kept hg)
        replace H := Lib.hid (H.out.kept hg)
        replace I1 := Lib.hid (I1.out.kept hg)
        replace I2 := Lib.hid (I2.out.kept hg)
        replace I3 := Lib.hid (I3.out.kept hg)
        replace L := Lib.hid (L.out.keptN hg)
        replace C := Lib.hid (gtr C.out hg)
        clear hg
        generalize (W1).drew = V3 at *
        refine wpAnyH_take (i := 0) (oi := ⟨some 94, _, _, _, _, _⟩) (v := ?_) rfl (by kernel_rfl) (by kernel_rfl) (by kernel_rfl) (fun _ _ _ h => h) (Or.inl ⟨by rfl, ?_⟩) (by assumption) ?_
        rotate_left
        · intro w hSw; (try dsimp only at hSw); go_simp; try with_reducible rfl
        simp only [Act.put, List.setIfInBounds_toArray, List.set_cons_zero, List.set_cons_succ]
        refine wpAnyH_take (i := 1) (oi := ⟨some 95, _, _, _, _, _⟩) (v := ?_) rfl (by kernel_rfl) (by kernel_rfl) (by kernel_rfl) (fun _ _ _ h => h) (Or.inl ⟨by rfl, ?_⟩) (by assumption) ?_
        rotate_left
        · intro w hSw; (try dsimp only at hSw); go_simp; try with_reducible rfl
        simp only [Act.put, List.setIfInBounds_toArray, List.set_cons_zero, List.set_cons_succ]
        refine wpAnyH_take (i := 2) (oi := ⟨some 96, _, _, _, _, _⟩) (v := ?_) rfl (by kernel_rfl) (by kernel_rfl) (by kernel_rfl) (fun _ _ _ h => h) (Or.inl ⟨by rfl, ?_⟩) (by assumption) ?_
        rotate_left
        · intro w hSw; (try dsimp only at hSw); go_simp; try with_reducible rfl
        simp only [Act.put, List.setIfInBounds_toArray, List.set_cons_zero, List.set_cons_succ]
        refine wpAnyH_take (i := 3) (oi := ⟨some 97, _, _, _, _, _⟩) (v := ?_) rfl (by kernel_rfl) (by kernel_rfl) (by kernel_rfl) (fun _ _ _ h => h) (Or.inl ⟨by rfl, ?_⟩) (by assumption) ?_
        rotate_left
        · intro w hSw; (try dsimp only at hSw); go_simp; try with_reducible rfl
        simp only [Act.put, List.setIfInBounds_toArray, List.set_cons_zero, List.set_cons_succ]
        refine wpAnyH_take (i := 4) (oi := ⟨some 98, _, _, _, _, _⟩) (v := ?_) rfl (by kernel_rfl) (by kernel_rfl) (by kernel_rfl) (fun _ _ _ h => h) (Or.inl ⟨by rfl, ?_⟩) (by assumption) ?_
        rotate_left
        · intro w hSw; (try dsimp only at hSw); go_simp; try with_reducible rfl
        simp only [Act.put, List.setIfInBounds_toArray, List.set_cons_zero, List.set_cons_succ]
        refine wpAnyH_take (i := 6) (oi := ⟨some 100, _, _, _, _, _⟩) (v := ?_) rfl (by kernel_rfl) (by kernel_rfl) (by kernel_rfl) (fun _ _ _ h => h) (Or.inl ⟨by rfl, ?_⟩) (by assumption) ?_
        rotate_left
        · intro w hSw; (try dsimp only at hSw); go_simp; try with_reducible rfl
        simp only [Act.put, List.setIfInBounds_toArray, List.set_cons_zero, List.set_cons_succ]
        refine wpAnyH_take (i := 7) (oi := ⟨some 101, _, _, _, _, _⟩) (v := ?_) rfl (by kernel_rfl) (by kernel_rfl) (by kernel_rfl) (fun _ _ _ h => h) (Or.inl ⟨by rfl, ?_⟩) (by assumption) ?_
        rotate_left
        · intro w hSw; (try dsimp only at hSw); go_simp; try with_reducible rfl
        simp only [Act.put, List.setIfInBounds_toArray, List.set_cons_zero, List.set_cons_succ]
        refine wpAnyH_take (i := 8) (oi := ⟨some 102, _, _, _, _, _⟩) (v := ?_) rfl (by kernel_rfl) (by kernel_rfl) (by kernel_rfl) (fun _ _ _ h => h) (Or.inl ⟨by rfl, ?_⟩) (by assumption) ?_
        rotate_left
        · intro w hSw; (try dsimp only at hSw); go_simp; try with_reducible rfl
        simp only [Act.put, List.setIfInBounds_toArray, List.set_cons_zero, List.set_cons_succ]
        refine wpAnyH_ready (rs := [5]) (by kernel_rfl) (by simp) ?_
        refine AllReadyH.cons (o := ⟨some 99, _, _, _, _, _⟩) rfl (fun Kq hKq => ?_) AllReadyH.nil
        go_simp
        go_at_call 26
        refine (igof d _).mono ?_
        rintro e v5 ⟨rfl, hg⟩
        replace G := Lib.hid (gtr G.out hg)
        replace K := Lib.hid (K.out.kept hg)
        replace H := Lib.hid (H.out.kept hg)
        replace I1 := Lib.hid (I1.out.kept hg)
        replace I2 := Lib.hid (I2.out.kept hg)
        replace I3 := Lib.hid (I3.out.kept hg)
        replace L := Lib.hid (L.out.keptN hg)
        replace C := Lib.hid (gtr C.out hg)
        clear hg
        refine hKq.out _ _ (⟨K.out.c0, K.out.c1, K.out.c2, K.out.c3, H.out.c0, H.out.c1⟩) (fun hHeld => ?_)
        clear hKq Kq
        refine wpAnyH_ready (rs := [9]) (by kernel_rfl) (by simp) ?_
        refine AllReadyH.cons (o := ⟨some 103, _, _, _, _, _⟩) rfl (fun Kq hKq => ?_) AllReadyH.nil
        go_simp
        go_at_call 40
        refine (ifits _ need many _ ng _ zg _ nc _ zc _ _ _ zm m (gofF d) r msg (sumF d (mulF (gW zc k zm m r msg) s)) I1.out I2.out I3.out (by omega) (by omega) (by omega) hmc hcm).mono ?_
        rintro e v6 ⟨rfl, hg⟩
        rw [HFA.out]
        replace G := Lib.hid (gtr G.out hg)
        replace K := Lib.hid (K.out.kept hg)
        replace H := Lib.hid (H.out.kept hg)
        replace I1 := Lib.hid (I1.out.kept hg)
        replace I2 := Lib.hid (I2.out.kept hg)
        replace I3 := Lib.hid (I3.out.kept hg)
        replace L := Lib.hid (L.out.keptN hg)
        replace C := Lib.hid (gtr C.out hg)
        clear hg
        refine hKq.out _ _ (⟨K.out.c0, K.out.c1, K.out.c2, K.out.c3, H.out.c0, H.out.c1⟩) (fun hHeld => ?_)
        clear hKq Kq
        refine wpAnyH_take (i := 10) (oi := ⟨some 16, _, _, _, _, _⟩) (v := ?_) rfl (by kernel_rfl) (by kernel_rfl) (by kernel_rfl) (fun _ _ _ h => h) (Or.inl ⟨by rfl, ?_⟩) (by assumption) ?_
        rotate_left
        · intro w hSw; (try dsimp only at hSw); go_simp; try with_reducible rfl
        simp only [Act.put, List.setIfInBounds_toArray, List.set_cons_zero, List.set_cons_succ]
        refine wpAnyH_done (by kernel_rfl) ?_ _
        clear HFA HH
        generalize gW zc k zm m r msg = Wv
        obtain ⟨_, k0, k1, k2, k3⟩ := K.out
        obtain ⟨_, x0, x1⟩ := H.out
        go_wp2_with fail
        refine (imul Wv s _).mono ?_
        rintro e w' ⟨rfl, rfl⟩
        go_wp2_with fail
        refine (isum d _ _).mono ?_
        rintro e w' ⟨rfl, rfl⟩
        have hqq : (sumF d (mulF Wv s) == sumF d (mulF Wv s)) = true := by simp
        generalize sumF d (mulF Wv s) = zz at *
        by_cases h0 : Wv = 0
        · subst h0
          go_wp2
          go_ret
          exact ⟨by first | rfl | simp, Draw.below_of G.out⟩
        · have hw0 : (Wv == 0) = false := by simpa using h0
          rw [hw0]
          clear h0
          go_wp2_with fail
          refine (ikeyfits _ need many _ ng _ zg _ nc _ zc m s I1.out I2.out (by omega) (by omega)).mono ?_
          rintro e w9 ⟨rfl, hg⟩
          clear k0 k1 k2 k3
          clear x0 x1
          replace G := Lib.hid (gtr G.out hg)
          replace K := Lib.hid (K.out.kept hg)
          replace H := Lib.hid (H.out.kept hg)
          replace I1 := Lib.hid (I1.out.kept hg)
          replace I2 := Lib.hid (I2.out.kept hg)
          replace I3 := Lib.hid (I3.out.kept hg)
          replace L := Lib.hid (L.out.keptN hg)
          replace C := Lib.hid (gtr C.out hg)
          clear hg
          obtain ⟨_, k0, k1, k2, k3⟩ := K.out
          obtain ⟨_, x0, x1⟩ := H.out
          generalize kfit need many ng zg nc zc m s = kf
          go_wp2
          go_ret
          exact ⟨by first | rfl | simp, Draw.below_of G.out⟩
end Run
end Go.Proofs.Ytpeofoabhjebbaa
