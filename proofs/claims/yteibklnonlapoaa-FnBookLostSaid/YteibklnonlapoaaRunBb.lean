/-
  The walks of the laws on a book: falling, and what is lost.
-/
import Derived.Test.YteibklnonlapoaaRunBa
namespace Go.Proofs.Yteibklnonlapoaa
namespace Run
open Go.RowKit Alg Mem Con Draw Bk
set_option linter.unusedVariables false

set_option maxRecDepth 100000 in
set_option maxHeartbeats 4000000 in
theorem FnBookFall (a : Option Addr) (len cap : Nat) (w : World) (hB : Draw.Bytes w w.heap.size a len) (hc : len ≤ cap) (hm : cap ≤ maxLen) :
    Calls Try.prog 5 #[.slice a len cap] w (Yes w) := by
  by_cases hbig : 1048576 < len
  · have hbig' : (1048576 : Int) < (len : Int) := by omega
    clear hB
    go_enter Try.func5, Try.ntmps5
    go_wp2
    go_ret
    exact ⟨rfl, Below.refl _ _⟩
  have hbig' : ¬ (1048576 : Int) < (len : Int) := by omega
  go_enter Try.func5, Try.ntmps5
  go_wp2_with fail
  refine (drawBkF _ a len cap hB hc hm).mono ?_
  rintro e w1 ⟨n, s, rfl, hg⟩
  have G := Lib.hid hg
  clear hg hB
  go_wp2_with (refine stop_store rfl ?_)
  refine ⟨trivial, ?_⟩
  refine wpList_store_blk rfl 24 (.tmp 3) (.tmp 12) _ _ _ 24 (Blk.new w1 #[.int .i64 0, .int .i64 0] 24) rfl rfl rfl rfl (by kernel_rfl) (by simp [Value.oneCell']) rfl ?_
  intro w2 hgV hT
  have hg : (w1).grownBy w2 none := grown_new (Draw.grown_alloc w1 (.cells #[.int .i64 0, .int .i64 0] 24) none) (Nat.le_refl _) hgV
  have B := Lib.hid (Bv.of hT)
  clear hgV hT
  replace G := Lib.hid (gtr G.out hg)
  clear hg
  generalize (w1).heap.size = bb at *
  by_cases ho : Ok n s
  case neg =>
    have HO := Lib.hid ho; clear ho
    obtain ⟨_, k0, k1⟩ := B.out
    go_wp2_with fail
    clear k0 k1
    refine (ibfall_no _ n s HO.out).mono ?_
    rintro e w3 ⟨rfl, hg⟩
    replace G := Lib.hid (gtr G.out hg)
    replace B := Lib.hid (B.out.kept hg)
    clear hg
    go_wp2_with (refine stop_store rfl ?_)
    refine ⟨trivial, ?_⟩
    refine wpList_store_blk rfl 24 (.tmp 4) (.tmp 14) _ _ _ 24 (Blk.new w3 #[.int .i64 0, .int .i64 0] 24) rfl rfl rfl rfl (by kernel_rfl) (by simp [Value.oneCell']) rfl ?_
    intro w4 hgV hT
    have hg : (w3).grownBy w4 none := grown_new (Draw.grown_alloc w3 (.cells #[.int .i64 0, .int .i64 0] 24) none) (Nat.le_refl _) hgV
    have X := Lib.hid (Bv.of hT)
    clear hgV hT
    replace G := Lib.hid (gtr G.out hg)
    replace B := Lib.hid (B.out.kept hg)
    clear hg
    generalize (w3).heap.size = xb at *
    obtain ⟨_, k0, k1⟩ := B.out
    obtain ⟨_, x0, x1⟩ := X.out
    go_wp2_with fail
    clear k0 k1
    clear x0 x1
    refine wp_region_held_drew (S := (fun w' => w'.cell? ⟨bb, 0, none⟩ = some (.int .i64 n) ∧ w'.cell? ⟨bb, 1, none⟩ = some (.int .i64 s) ∧ w'.cell? ⟨xb, 0, none⟩ = some (.int .i64 0) ∧ w'.cell? ⟨xb, 1, none⟩ = some (.int .i64 0))) (by kernel_rfl) (⟨B.out.c0, B.out.c1, X.out.c0, X.out.c1⟩) (fun hHeld => ?_)
    have hg := Draw.gdrew w4
    replace G := Lib.hid (gtr G.out hg)
    replace B := Lib.hid (B.out.kept hg)
    replace X := Lib.hid (X.out.kept hg)
    clear hg
    generalize (w4).drew = w5 at *
    refine wpAnyH_take (i := 0) (oi := ⟨some 15, _, _, _, _, _⟩) (v := ?_) rfl (by kernel_rfl) (by kernel_rfl) (by kernel_rfl) (fun _ _ _ h => h) (Or.inl ⟨by rfl, ?_⟩) (by assumption) ?_
    rotate_left
    · intro w hSw; (try dsimp only at hSw); go_simp; try with_reducible rfl
    simp only [Act.put, List.setIfInBounds_toArray, List.set_cons_zero, List.set_cons_succ]
    refine wpAnyH_take (i := 1) (oi := ⟨some 16, _, _, _, _, _⟩) (v := ?_) rfl (by kernel_rfl) (by kernel_rfl) (by kernel_rfl) (fun _ _ _ h => h) (Or.inl ⟨by rfl, ?_⟩) (by assumption) ?_
    rotate_left
    · intro w hSw; (try dsimp only at hSw); go_simp; try with_reducible rfl
    simp only [Act.put, List.setIfInBounds_toArray, List.set_cons_zero, List.set_cons_succ]
    refine wpAnyH_ready (rs := [2]) (by kernel_rfl) (by simp) ?_
    refine AllReadyH.cons (o := ⟨some 17, _, _, _, _, _⟩) rfl (fun Kq hKq => ?_) AllReadyH.nil
    go_simp
    go_at_call 30
    refine (sbfall_no _ n s HO.out).mono ?_
    rintro e w6 ⟨rfl, hg⟩
    replace G := Lib.hid (gtr G.out hg)
    replace B := Lib.hid (B.out.kept hg)
    replace X := Lib.hid (X.out.kept hg)
    clear hg
    refine hKq.out _ _ (⟨B.out.c0, B.out.c1, X.out.c0, X.out.c1⟩) (fun hHeld => ?_)
    clear hKq Kq
    refine wpAnyH_take (i := 3) (oi := ⟨some 18, _, _, _, _, _⟩) (v := ?_) rfl (by kernel_rfl) (by kernel_rfl) (by kernel_rfl) (fun _ _ _ h => h) (Or.inl ⟨by rfl, ?_⟩) (by assumption) ?_
    rotate_left
    · intro w hSw; (try dsimp only at hSw); go_simp; try with_reducible rfl
    simp only [Act.put, List.setIfInBounds_toArray, List.set_cons_zero, List.set_cons_succ]
    refine wpAnyH_take (i := 4) (oi := ⟨some 19, _, _, _, _, _⟩) (v := ?_) rfl (by kernel_rfl) (by kernel_rfl) (by kernel_rfl) (fun _ _ _ h => h) (Or.inl ⟨by rfl, ?_⟩) (by assumption) ?_
    rotate_left
    · intro w hSw; (try dsimp only at hSw); go_simp; try with_reducible rfl
    simp only [Act.put, List.setIfInBounds_toArray, List.set_cons_zero, List.set_cons_succ]
    refine wpAnyH_take (i := 5) (oi := ⟨some 20, _, _, _, _, _⟩) (v := ?_) rfl (by kernel_rfl) (by kernel_rfl) (by kernel_rfl) (fun _ _ _ h => h) (Or.inl ⟨by rfl, ?_⟩) (by assumption) ?_
    rotate_left
    · intro w hSw; (try dsimp only at hSw); go_simp; try with_reducible rfl
    simp only [Act.put, List.setIfInBounds_toArray, List.set_cons_zero, List.set_cons_succ]
    refine wpAnyH_ready (rs := [6]) (by kernel_rfl) (by simp) ?_
    refine AllReadyH.cons (o := ⟨some 21, _, _, _, _, _⟩) rfl (fun Kq hKq => ?_) AllReadyH.nil
    go_simp
    go_at_call 23
    refine (smok _ n s).mono ?_
    rintro e w7 ⟨rfl, hg⟩
    replace G := Lib.hid (gtr G.out hg)
    replace B := Lib.hid (B.out.kept hg)
    replace X := Lib.hid (X.out.kept hg)
    clear hg
    rw [bkB_f HO.out]
    refine hKq.out _ _ (⟨B.out.c0, B.out.c1, X.out.c0, X.out.c1⟩) (fun hHeld => ?_)
    clear hKq Kq
    refine wpAnyH_take (i := 7) (oi := ⟨some 22, _, _, _, _, _⟩) (v := ?_) rfl (by kernel_rfl) (by kernel_rfl) (by kernel_rfl) (fun _ _ _ h => h) (Or.inl ⟨by rfl, ?_⟩) (by assumption) ?_
    rotate_left
    · intro w hSw; (try dsimp only at hSw); go_simp; try with_reducible rfl
    simp only [Act.put, List.setIfInBounds_toArray, List.set_cons_zero, List.set_cons_succ]
    refine wpAnyH_take (i := 8) (oi := ⟨some 23, _, _, _, _, _⟩) (v := ?_) rfl (by kernel_rfl) (by kernel_rfl) (by kernel_rfl) (fun _ _ _ h => h) (Or.inl ⟨by rfl, ?_⟩) (by assumption) ?_
    rotate_left
    · intro w hSw; (try dsimp only at hSw); go_simp; try with_reducible rfl
    simp only [Act.put, List.setIfInBounds_toArray, List.set_cons_zero, List.set_cons_succ]
    refine wpAnyH_done (by kernel_rfl) ?_ _
    obtain ⟨_, k0, k1⟩ := B.out
    obtain ⟨_, x0, x1⟩ := X.out
    go_wp2_with fail
    clear k0 k1
    clear x0 x1
    refine wp_region_held_drew (S := (fun w' => w'.cell? ⟨bb, 0, none⟩ = some (.int .i64 n) ∧ w'.cell? ⟨bb, 1, none⟩ = some (.int .i64 s) ∧ w'.cell? ⟨xb, 0, none⟩ = some (.int .i64 0) ∧ w'.cell? ⟨xb, 1, none⟩ = some (.int .i64 0))) (by kernel_rfl) (⟨B.out.c0, B.out.c1, X.out.c0, X.out.c1⟩) (fun hHeld => ?_)
    have hg := Draw.gdrew w7
    replace G := Lib.hid (gtr G.out hg)
    replace B := Lib.hid (B.out.kept hg)
    replace X := Lib.hid (X.out.kept hg)
    clear hg
    generalize (w7).drew = w8 at *
    refine wpAnyH_take (i := 0) (oi := ⟨some 24, _, _, _, _, _⟩) (v := ?_) rfl (by kernel_rfl) (by kernel_rfl) (by kernel_rfl) (fun _ _ _ h => h) (Or.inl ⟨by rfl, ?_⟩) (by assumption) ?_
    rotate_left
    · intro w hSw; (try dsimp only at hSw); go_simp; try with_reducible rfl
    simp only [Act.put, List.setIfInBounds_toArray, List.set_cons_zero, List.set_cons_succ]
    refine wpAnyH_take (i := 1) (oi := ⟨some 25, _, _, _, _, _⟩) (v := ?_) rfl (by kernel_rfl) (by kernel_rfl) (by kernel_rfl) (fun _ _ _ h => h) (Or.inl ⟨by rfl, ?_⟩) (by assumption) ?_
    rotate_left
    · intro w hSw; (try dsimp only at hSw); go_simp; try with_reducible rfl
    simp only [Act.put, List.setIfInBounds_toArray, List.set_cons_zero, List.set_cons_succ]
    refine wpAnyH_ready (rs := [2]) (by kernel_rfl) (by simp) ?_
    refine AllReadyH.cons (o := ⟨some 26, _, _, _, _, _⟩) rfl (fun Kq hKq => ?_) AllReadyH.nil
    go_simp
    go_at_call 30
    refine (sbfall_no _ n s HO.out).mono ?_
    rintro e w9 ⟨rfl, hg⟩
    replace G := Lib.hid (gtr G.out hg)
    replace B := Lib.hid (B.out.kept hg)
    replace X := Lib.hid (X.out.kept hg)
    clear hg
    refine hKq.out _ _ (⟨B.out.c0, B.out.c1, X.out.c0, X.out.c1⟩) (fun hHeld => ?_)
    clear hKq Kq
    refine wpAnyH_take (i := 3) (oi := ⟨some 27, _, _, _, _, _⟩) (v := ?_) rfl (by kernel_rfl) (by kernel_rfl) (by kernel_rfl) (fun _ _ _ h => h) (Or.inl ⟨by rfl, ?_⟩) (by assumption) ?_
    rotate_left
    · intro w hSw; (try dsimp only at hSw); go_simp; try with_reducible rfl
    simp only [Act.put, List.setIfInBounds_toArray, List.set_cons_zero, List.set_cons_succ]
    refine wpAnyH_take (i := 4) (oi := ⟨some 2, _, _, _, _, _⟩) (v := ?_) rfl (by kernel_rfl) (by kernel_rfl) (by kernel_rfl) (fun _ _ _ h => h) (Or.inl ⟨by rfl, ?_⟩) (by assumption) ?_
    rotate_left
    · intro w hSw; (try dsimp only at hSw); go_simp; try with_reducible rfl
    simp only [Act.put, List.setIfInBounds_toArray, List.set_cons_zero, List.set_cons_succ]
    refine wpAnyH_done (by kernel_rfl) ?_ _
    go_wp2
    go_ret
    exact ⟨Mem.ret_b (by simp <;> omega), Draw.below_of G.out⟩
  have HO := Lib.hid ho
  obtain ⟨o1, o2, o3⟩ := ho
  have HK := Lib.hid (show Ok s s by unfold Ok; omega)
  obtain ⟨_, k0, k1⟩ := B.out
  go_wp2_with fail
  clear k0 k1
  refine (ibfall_yes _ n s HO.out).mono ?_
  rintro e w3 ⟨rfl, hg⟩
  replace G := Lib.hid (gtr G.out hg)
  replace B := Lib.hid (B.out.kept hg)
  clear hg
  go_wp2_with (refine stop_store rfl ?_)
  refine ⟨trivial, ?_⟩
  refine wpList_store_blk rfl 24 (.tmp 4) (.tmp 14) _ _ _ 24 (Blk.new w3 #[.int .i64 0, .int .i64 0] 24) rfl rfl rfl rfl (by kernel_rfl) (by simp [Value.oneCell']) rfl ?_
  intro w4 hgV hT
  have hg : (w3).grownBy w4 none := grown_new (Draw.grown_alloc w3 (.cells #[.int .i64 0, .int .i64 0] 24) none) (Nat.le_refl _) hgV
  have X := Lib.hid (Bv.of hT)
  clear hgV hT
  replace G := Lib.hid (gtr G.out hg)
  replace B := Lib.hid (B.out.kept hg)
  clear hg
  generalize (w3).heap.size = xb at *
  obtain ⟨_, k0, k1⟩ := B.out
  obtain ⟨_, x0, x1⟩ := X.out
  go_wp2_with fail
  clear k0 k1
  clear x0 x1
  refine wp_region_held_drew (S := (fun w' => w'.cell? ⟨bb, 0, none⟩ = some (.int .i64 n) ∧ w'.cell? ⟨bb, 1, none⟩ = some (.int .i64 s) ∧ w'.cell? ⟨xb, 0, none⟩ = some (.int .i64 s) ∧ w'.cell? ⟨xb, 1, none⟩ = some (.int .i64 s))) (by kernel_rfl) (⟨B.out.c0, B.out.c1, X.out.c0, X.out.c1⟩) (fun hHeld => ?_)
  have hg := Draw.gdrew w4
  replace G := Lib.hid (gtr G.out hg)
  replace B := Lib.hid (B.out.kept hg)
  replace X := Lib.hid (X.out.kept hg)
  clear hg
  generalize (w4).drew = w5 at *
  refine wpAnyH_take (i := 0) (oi := ⟨some 15, _, _, _, _, _⟩) (v := ?_) rfl (by kernel_rfl) (by kernel_rfl) (by kernel_rfl) (fun _ _ _ h => h) (Or.inl ⟨by rfl, ?_⟩) (by assumption) ?_
  rotate_left
  · intro w hSw; (try dsimp only at hSw); go_simp; try with_reducible rfl
  simp only [Act.put, List.setIfInBounds_toArray, List.set_cons_zero, List.set_cons_succ]
  refine wpAnyH_take (i := 1) (oi := ⟨some 16, _, _, _, _, _⟩) (v := ?_) rfl (by kernel_rfl) (by kernel_rfl) (by kernel_rfl) (fun _ _ _ h => h) (Or.inl ⟨by rfl, ?_⟩) (by assumption) ?_
  rotate_left
  · intro w hSw; (try dsimp only at hSw); go_simp; try with_reducible rfl
  simp only [Act.put, List.setIfInBounds_toArray, List.set_cons_zero, List.set_cons_succ]
  refine wpAnyH_ready (rs := [2]) (by kernel_rfl) (by simp) ?_
  refine AllReadyH.cons (o := ⟨some 17, _, _, _, _, _⟩) rfl (fun Kq hKq => ?_) AllReadyH.nil
  go_simp
  go_at_call 30
  refine (sbfall_yes _ n s HO.out).mono ?_
  rintro e w6 ⟨rfl, hg⟩
  replace G := Lib.hid (gtr G.out hg)
  replace B := Lib.hid (B.out.kept hg)
  replace X := Lib.hid (X.out.kept hg)
  clear hg
  refine hKq.out _ _ (⟨B.out.c0, B.out.c1, X.out.c0, X.out.c1⟩) (fun hHeld => ?_)
  clear hKq Kq
  refine wpAnyH_take (i := 3) (oi := ⟨some 18, _, _, _, _, _⟩) (v := ?_) rfl (by kernel_rfl) (by kernel_rfl) (by kernel_rfl) (fun _ _ _ h => h) (Or.inl ⟨by rfl, ?_⟩) (by assumption) ?_
  rotate_left
  · intro w hSw; (try dsimp only at hSw); go_simp; try with_reducible rfl
  simp only [Act.put, List.setIfInBounds_toArray, List.set_cons_zero, List.set_cons_succ]
  refine wpAnyH_take (i := 4) (oi := ⟨some 19, _, _, _, _, _⟩) (v := ?_) rfl (by kernel_rfl) (by kernel_rfl) (by kernel_rfl) (fun _ _ _ h => h) (Or.inl ⟨by rfl, ?_⟩) (by assumption) ?_
  rotate_left
  · intro w hSw; (try dsimp only at hSw); go_simp; try with_reducible rfl
  simp only [Act.put, List.setIfInBounds_toArray, List.set_cons_zero, List.set_cons_succ]
  refine wpAnyH_take (i := 5) (oi := ⟨some 20, _, _, _, _, _⟩) (v := ?_) rfl (by kernel_rfl) (by kernel_rfl) (by kernel_rfl) (fun _ _ _ h => h) (Or.inl ⟨by rfl, ?_⟩) (by assumption) ?_
  rotate_left
  · intro w hSw; (try dsimp only at hSw); go_simp; try with_reducible rfl
  simp only [Act.put, List.setIfInBounds_toArray, List.set_cons_zero, List.set_cons_succ]
  refine wpAnyH_ready (rs := [6]) (by kernel_rfl) (by simp) ?_
  refine AllReadyH.cons (o := ⟨some 21, _, _, _, _, _⟩) rfl (fun Kq hKq => ?_) AllReadyH.nil
  go_simp
  go_at_call 23
  refine (smok _ n s).mono ?_
  rintro e w7 ⟨rfl, hg⟩
  replace G := Lib.hid (gtr G.out hg)
  replace B := Lib.hid (B.out.kept hg)
  replace X := Lib.hid (X.out.kept hg)
  clear hg
  rw [bkB_t HO.out]
  refine hKq.out _ _ (⟨B.out.c0, B.out.c1, X.out.c0, X.out.c1⟩) (fun hHeld => ?_)
  clear hKq Kq
  refine wpAnyH_take (i := 7) (oi := ⟨some 22, _, _, _, _, _⟩) (v := ?_) rfl (by kernel_rfl) (by kernel_rfl) (by kernel_rfl) (fun _ _ _ h => h) (Or.inl ⟨by rfl, ?_⟩) (by assumption) ?_
  rotate_left
  · intro w hSw; (try dsimp only at hSw); go_simp; try with_reducible rfl
  simp only [Act.put, List.setIfInBounds_toArray, List.set_cons_zero, List.set_cons_succ]
  refine wpAnyH_take (i := 8) (oi := ⟨some 23, _, _, _, _, _⟩) (v := ?_) rfl (by kernel_rfl) (by kernel_rfl) (by kernel_rfl) (fun _ _ _ h => h) (Or.inl ⟨by rfl, ?_⟩) (by assumption) ?_
  rotate_left
  · intro w hSw; (try dsimp only at hSw); go_simp; try with_reducible rfl
  simp only [Act.put, List.setIfInBounds_toArray, List.set_cons_zero, List.set_cons_succ]
  refine wpAnyH_done (by kernel_rfl) ?_ _
  obtain ⟨_, k0, k1⟩ := B.out
  obtain ⟨_, x0, x1⟩ := X.out
  go_wp2_with fail
  clear k0 k1
  clear x0 x1
  refine (ibtake_no _ s s HK.out rfl).mono ?_
  rintro e v1 ⟨rfl, hg⟩
  replace G := Lib.hid (gtr G.out hg)
  replace B := Lib.hid (B.out.kept hg)
  replace X := Lib.hid (X.out.kept hg)
  clear hg
  go_wp2_with (refine stop_store rfl ?_)
  refine ⟨trivial, ?_⟩
  refine wpList_store_blk rfl 24 (.tmp 6) (.tmp 32) _ _ _ 24 (Blk.new v1 #[.int .i64 0, .int .i64 0] 24) rfl rfl rfl rfl (by kernel_rfl) (by simp [Value.oneCell']) rfl ?_
  intro v2 hgV hT
  have hg : (v1).grownBy v2 none := grown_new (Draw.grown_alloc v1 (.cells #[.int .i64 0, .int .i64 0] 24) none) (Nat.le_refl _) hgV
  have Y := Lib.hid (Bv.of hT)
  clear hgV hT
  replace G := Lib.hid (gtr G.out hg)
  replace B := Lib.hid (B.out.kept hg)
  replace X := Lib.hid (X.out.kept hg)
  clear hg
  generalize (v1).heap.size = yb at *
  obtain ⟨_, k0, k1⟩ := B.out
  obtain ⟨_, x0, x1⟩ := X.out
  go_wp2_with fail
  clear k0 k1
  clear x0 x1
  have hself : (s == s) = true := by simp
  refine wp_region_held_drew (S := (fun w' => w'.cell? ⟨bb, 0, none⟩ = some (.int .i64 n) ∧ w'.cell? ⟨bb, 1, none⟩ = some (.int .i64 s) ∧ w'.cell? ⟨xb, 0, none⟩ = some (.int .i64 s) ∧ w'.cell? ⟨xb, 1, none⟩ = some (.int .i64 s))) (by kernel_rfl) (⟨B.out.c0, B.out.c1, X.out.c0, X.out.c1⟩) (fun hHeld => ?_)
  have hg := Draw.gdrew v2
  replace G := Lib.hid (gtr G.out hg)
  replace B := Lib.hid (B.out.kept hg)
  replace X := Lib.hid (X.out.kept hg)
  replace Y := Lib.hid (Y.out.kept hg)
  clear hg
  generalize (v2).drew = v3 at *
  refine wpAnyH_take (i := 0) (oi := ⟨some 34, _, _, _, _, _⟩) (v := ?_) rfl (by kernel_rfl) (by kernel_rfl) (by kernel_rfl) (fun _ _ _ h => h) (Or.inl ⟨by rfl, ?_⟩) (by assumption) ?_
  rotate_left
  · intro w hSw; (try dsimp only at hSw); go_simp; try with_reducible rfl
  simp only [Act.put, List.setIfInBounds_toArray, List.set_cons_zero, List.set_cons_succ]
  refine wpAnyH_take (i := 1) (oi := ⟨some 35, _, _, _, _, _⟩) (v := ?_) rfl (by kernel_rfl) (by kernel_rfl) (by kernel_rfl) (fun _ _ _ h => h) (Or.inl ⟨by rfl, ?_⟩) (by assumption) ?_
  rotate_left
  · intro w hSw; (try dsimp only at hSw); go_simp; try with_reducible rfl
  simp only [Act.put, List.setIfInBounds_toArray, List.set_cons_zero, List.set_cons_succ]
  refine wpAnyH_take (i := 2) (oi := ⟨some 36, _, _, _, _, _⟩) (v := ?_) rfl (by kernel_rfl) (by kernel_rfl) (by kernel_rfl) (fun _ _ _ h => h) (Or.inl ⟨by rfl, ?_⟩) (by assumption) ?_
  rotate_left
  · intro w hSw; (try dsimp only at hSw); go_simp; try with_reducible rfl
  simp only [Act.put, List.setIfInBounds_toArray, List.set_cons_zero, List.set_cons_succ]
  refine wpAnyH_take (i := 3) (oi := ⟨some 37, _, _, _, _, _⟩) (v := ?_) rfl (by kernel_rfl) (by kernel_rfl) (by kernel_rfl) (fun _ _ _ h => h) (Or.inl ⟨by rfl, ?_⟩) (by assumption) ?_
  rotate_left
  · intro w hSw; (try dsimp only at hSw); go_simp; try with_reducible rfl
  simp only [Act.put, List.setIfInBounds_toArray, List.set_cons_zero, List.set_cons_succ]
  refine wpAnyH_take (i := 4) (oi := ⟨some 38, _, _, _, _, _⟩) (v := ?_) rfl (by kernel_rfl) (by kernel_rfl) (by kernel_rfl) (fun _ _ _ h => h) (Or.inl ⟨by rfl, ?_⟩) (by assumption) ?_
  rotate_left
  · intro w hSw; (try dsimp only at hSw); go_simp; try with_reducible rfl
  simp only [Act.put, List.setIfInBounds_toArray, List.set_cons_zero, List.set_cons_succ]
  refine wpAnyH_take (i := 5) (oi := ⟨some 39, _, _, _, _, _⟩) (v := ?_) rfl (by kernel_rfl) (by kernel_rfl) (by kernel_rfl) (fun _ _ _ h => h) (Or.inl ⟨by rfl, ?_⟩) (by assumption) ?_
  rotate_left
  · intro w hSw; (try dsimp only at hSw); go_simp; try with_reducible rfl
  simp only [Act.put, List.setIfInBounds_toArray, List.set_cons_zero, List.set_cons_succ]
  refine wpAnyH_take (i := 6) (oi := ⟨some 40, _, _, _, _, _⟩) (v := ?_) rfl (by kernel_rfl) (by kernel_rfl) (by kernel_rfl) (fun _ _ _ h => h) (Or.inl ⟨by rfl, ?_⟩) (by assumption) ?_
  rotate_left
  · intro w hSw; (try dsimp only at hSw); go_simp; try with_reducible rfl
  simp only [Act.put, List.setIfInBounds_toArray, List.set_cons_zero, List.set_cons_succ]
  refine wpAnyH_take (i := 7) (oi := ⟨some 41, _, _, _, _, _⟩) (v := ?_) rfl (by kernel_rfl) (by kernel_rfl) (by kernel_rfl) (fun _ _ _ h => h) (Or.inl ⟨by rfl, ?_⟩) (by assumption) ?_
  rotate_left
  · intro w hSw; (try dsimp only at hSw); go_simp; try with_reducible rfl
  simp only [Act.put, List.setIfInBounds_toArray, List.set_cons_zero, List.set_cons_succ]
  refine wpAnyH_take (i := 8) (oi := ⟨some 42, _, _, _, _, _⟩) (v := ?_) rfl (by kernel_rfl) (by kernel_rfl) (by kernel_rfl) (fun _ _ _ h => h) (Or.inl ⟨by rfl, ?_⟩) (by assumption) ?_
  rotate_left
  · intro w hSw; (try dsimp only at hSw); go_simp; try with_reducible rfl
  simp only [Act.put, List.setIfInBounds_toArray, List.set_cons_zero, List.set_cons_succ]
  refine wpAnyH_take (i := 9) (oi := ⟨some 43, _, _, _, _, _⟩) (v := ?_) rfl (by kernel_rfl) (by kernel_rfl) (by kernel_rfl) (fun _ _ _ h => h) (Or.inl ⟨by rfl, ?_⟩) (by assumption) ?_
  rotate_left
  · intro w hSw; (try dsimp only at hSw); go_simp; try with_reducible rfl
  simp only [Act.put, List.setIfInBounds_toArray, List.set_cons_zero, List.set_cons_succ]
  refine wpAnyH_take (i := 10) (oi := ⟨some 44, _, _, _, _, _⟩) (v := ?_) rfl (by kernel_rfl) (by kernel_rfl) (by kernel_rfl) (fun _ _ _ h => h) (Or.inl ⟨by rfl, ?_⟩) (by assumption) ?_
  rotate_left
  · intro w hSw; (try dsimp only at hSw); go_simp; try with_reducible rfl
  simp only [Act.put, List.setIfInBounds_toArray, List.set_cons_zero, List.set_cons_succ]
  refine wpAnyH_take (i := 11) (oi := ⟨some 45, _, _, _, _, _⟩) (v := ?_) rfl (by kernel_rfl) (by kernel_rfl) (by kernel_rfl) (fun _ _ _ h => h) (Or.inl ⟨by rfl, ?_⟩) (by assumption) ?_
  rotate_left
  · intro w hSw; (try dsimp only at hSw); go_simp; try with_reducible rfl
  simp only [Act.put, List.setIfInBounds_toArray, List.set_cons_zero, List.set_cons_succ]
  refine wpAnyH_take (i := 12) (oi := ⟨some 46, _, _, _, _, _⟩) (v := ?_) rfl (by kernel_rfl) (by kernel_rfl) (by kernel_rfl) (fun _ _ _ h => h) (Or.inl ⟨by rfl, ?_⟩) (by assumption) ?_
  rotate_left
  · intro w hSw; (try dsimp only at hSw); go_simp; try with_reducible rfl
  simp only [Act.put, List.setIfInBounds_toArray, List.set_cons_zero, List.set_cons_succ]
  refine wpAnyH_take (i := 13) (oi := ⟨some 47, _, _, _, _, _⟩) (v := ?_) rfl (by kernel_rfl) (by kernel_rfl) (by kernel_rfl) (fun _ _ _ h => h) (Or.inl ⟨by rfl, ?_⟩) (by assumption) ?_
  rotate_left
  · intro w hSw; (try dsimp only at hSw); go_simp; try with_reducible rfl
  simp only [Act.put, List.setIfInBounds_toArray, List.set_cons_zero, List.set_cons_succ]
  refine wpAnyH_take (i := 14) (oi := ⟨some 48, _, _, _, _, _⟩) (v := ?_) rfl (by kernel_rfl) (by kernel_rfl) (by kernel_rfl) (fun _ _ _ h => h) (Or.inl ⟨by rfl, ?_⟩) (by assumption) ?_
  rotate_left
  · intro w hSw; (try dsimp only at hSw); go_simp; try with_reducible rfl
  simp only [Act.put, List.setIfInBounds_toArray, List.set_cons_zero, List.set_cons_succ]
  refine wpAnyH_take (i := 15) (oi := ⟨some 49, _, _, _, _, _⟩) (v := ?_) rfl (by kernel_rfl) (by kernel_rfl) (by kernel_rfl) (fun _ _ _ h => h) (Or.inl ⟨by rfl, ?_⟩) (by assumption) ?_
  rotate_left
  · intro w hSw; (try dsimp only at hSw); go_simp; try with_reducible rfl
  simp only [Act.put, List.setIfInBounds_toArray, List.set_cons_zero, List.set_cons_succ]
  refine wpAnyH_take (i := 16) (oi := ⟨some 50, _, _, _, _, _⟩) (v := ?_) rfl (by kernel_rfl) (by kernel_rfl) (by kernel_rfl) (fun _ _ _ h => h) (Or.inl ⟨by rfl, ?_⟩) (by assumption) ?_
  rotate_left
  · intro w hSw; (try dsimp only at hSw); go_simp; try with_reducible rfl
  simp only [Act.put, List.setIfInBounds_toArray, List.set_cons_zero, List.set_cons_succ]
  refine wpAnyH_take (i := 17) (oi := ⟨some 51, _, _, _, _, _⟩) (v := ?_) rfl (by kernel_rfl) (by kernel_rfl) (by kernel_rfl) (fun _ _ _ h => h) (Or.inl ⟨by rfl, ?_⟩) (by assumption) ?_
  rotate_left
  · intro w hSw; (try dsimp only at hSw); go_simp; try with_reducible rfl
  simp only [Act.put, List.setIfInBounds_toArray, List.set_cons_zero, List.set_cons_succ]
  refine wpAnyH_take (i := 19) (oi := ⟨some 53, _, _, _, _, _⟩) (v := ?_) rfl (by kernel_rfl) (by kernel_rfl) (by kernel_rfl) (fun _ _ _ h => h) (Or.inl ⟨by rfl, ?_⟩) (by assumption) ?_
  rotate_left
  · intro w hSw; (try dsimp only at hSw); go_simp; try with_reducible rfl
  simp only [Act.put, List.setIfInBounds_toArray, List.set_cons_zero, List.set_cons_succ]
  refine wpAnyH_ready (rs := [18]) (by kernel_rfl) (by simp) ?_
  refine AllReadyH.cons (o := ⟨some 52, _, _, _, _, _⟩) rfl (fun Kq hKq => ?_) AllReadyH.nil
  go_simp
  go_at_call 29
  refine (ibfall_yes _ s s HK.out).mono ?_
  rintro e v4 ⟨rfl, hg⟩
  replace G := Lib.hid (gtr G.out hg)
  replace B := Lib.hid (B.out.kept hg)
  replace X := Lib.hid (X.out.kept hg)
  replace Y := Lib.hid (Y.out.kept hg)
  clear hg
  refine hKq.out _ _ (⟨B.out.c0, B.out.c1, X.out.c0, X.out.c1⟩) (fun hHeld => ?_)
  clear hKq Kq
  refine wpAnyH_take (i := 20) (oi := ⟨some 54, _, _, _, _, _⟩) (v := ?_) rfl (by kernel_rfl) (by kernel_rfl) (by kernel_rfl) (fun _ _ _ h => h) (Or.inl ⟨by rfl, ?_⟩) (by assumption) ?_
  rotate_left
  · intro w hSw; (try dsimp only at hSw); go_simp; try with_reducible rfl
  simp only [Act.put, List.setIfInBounds_toArray, List.set_cons_zero, List.set_cons_succ]
  refine wpAnyH_take (i := 21) (oi := ⟨some 55, _, _, _, _, _⟩) (v := ?_) rfl (by kernel_rfl) (by kernel_rfl) (by kernel_rfl) (fun _ _ _ h => h) (Or.inl ⟨by rfl, ?_⟩) (by assumption) ?_
  rotate_left
  · intro w hSw; (try dsimp only at hSw); go_simp; try with_reducible rfl
  simp only [Act.put, List.setIfInBounds_toArray, List.set_cons_zero, List.set_cons_succ]
  refine wpAnyH_take (i := 22) (oi := ⟨some 56, _, _, _, _, _⟩) (v := ?_) rfl (by kernel_rfl) (by kernel_rfl) (by kernel_rfl) (fun _ _ _ h => h) (Or.inl ⟨by rfl, ?_⟩) (by assumption) ?_
  rotate_left
  · intro w hSw; (try dsimp only at hSw); go_simp; try with_reducible rfl
  simp only [Act.put, List.setIfInBounds_toArray, List.set_cons_zero, List.set_cons_succ]
  refine wpAnyH_take (i := 23) (oi := ⟨some 57, _, _, _, _, _⟩) (v := ?_) rfl (by kernel_rfl) (by kernel_rfl) (by kernel_rfl) (fun _ _ _ h => h) (Or.inl ⟨by rfl, ?_⟩) (by assumption) ?_
  rotate_left
  · intro w hSw; (try dsimp only at hSw); go_simp; try with_reducible rfl
  simp only [Act.put, List.setIfInBounds_toArray, List.set_cons_zero, List.set_cons_succ]
  refine wpAnyH_take (i := 24) (oi := ⟨some 58, _, _, _, _, _⟩) (v := ?_) rfl (by kernel_rfl) (by kernel_rfl) (by kernel_rfl) (fun _ _ _ h => h) (Or.inl ⟨by rfl, ?_⟩) (by assumption) ?_
  rotate_left
  · intro w hSw; (try dsimp only at hSw); go_simp; try with_reducible rfl
  simp only [Act.put, List.setIfInBounds_toArray, List.set_cons_zero, List.set_cons_succ]
  refine wpAnyH_take (i := 25) (oi := ⟨some 59, _, _, _, _, _⟩) (v := ?_) rfl (by kernel_rfl) (by kernel_rfl) (by kernel_rfl) (fun _ _ _ h => h) (Or.inl ⟨by rfl, ?_⟩) (by assumption) ?_
  rotate_left
  · intro w hSw; (try dsimp only at hSw); go_simp; try with_reducible rfl
  simp only [Act.put, List.setIfInBounds_toArray, List.set_cons_zero, List.set_cons_succ]
  refine wpAnyH_take (i := 26) (oi := ⟨some 60, _, _, _, _, _⟩) (v := ?_) rfl (by kernel_rfl) (by kernel_rfl) (by kernel_rfl) (fun _ _ _ h => h) (Or.inl ⟨by rfl, ?_⟩) (by assumption) ?_
  rotate_left
  · intro w hSw; (try dsimp only at hSw); go_simp; try with_reducible rfl
  simp only [Act.put, List.setIfInBounds_toArray, List.set_cons_zero, List.set_cons_succ]
  refine wpAnyH_take (i := 27) (oi := ⟨some 61, _, _, _, _, _⟩) (v := ?_) rfl (by kernel_rfl) (by kernel_rfl) (by kernel_rfl) (fun _ _ _ h => h) (Or.inl ⟨by rfl, ?_⟩) (by assumption) ?_
  rotate_left
  · intro w hSw; (try dsimp only at hSw); go_simp; try with_reducible rfl
  simp only [Act.put, List.setIfInBounds_toArray, List.set_cons_zero, List.set_cons_succ]
  refine wpAnyH_take (i := 28) (oi := ⟨some 62, _, _, _, _, _⟩) (v := ?_) rfl (by kernel_rfl) (by kernel_rfl) (by kernel_rfl) (fun _ _ _ h => h) (Or.inl ⟨by rfl, ?_⟩) (by assumption) ?_
  rotate_left
  · intro w hSw; (try dsimp only at hSw); go_simp; try with_reducible rfl
  simp only [Act.put, List.setIfInBounds_toArray, List.set_cons_zero, List.set_cons_succ]
  refine wpAnyH_take (i := 29) (oi := ⟨some 2, _, _, _, _, _⟩) (v := ?_) rfl (by kernel_rfl) (by kernel_rfl) (by kernel_rfl) (fun _ _ _ h => h) (Or.inl ⟨by rfl, ?_⟩) (by assumption) ?_
  rotate_left
  · intro w hSw; (try dsimp only at hSw); go_simp; try with_reducible rfl
  simp only [Act.put, List.setIfInBounds_toArray, List.set_cons_zero, List.set_cons_succ]
  refine wpAnyH_done (by kernel_rfl) ?_ _
  go_wp2
  go_ret
  exact ⟨Mem.ret_b (by simp <;> omega), Draw.below_of G.out⟩
set_option maxRecDepth 100000 in
set_option maxHeartbeats 4000000 in
theorem FnBookLost (a : Option Addr) (len cap : Nat) (w : World) (hB : Draw.Bytes w w.heap.size a len) (hc : len ≤ cap) (hm : cap ≤ maxLen) :
    Calls Try.prog 10 #[.slice a len cap] w (Yes w) := by
  by_cases hbig : 1048576 < len
  · have hbig' : (1048576 : Int) < (len : Int) := by omega
    clear hB
    go_enter Try.func10, Try.ntmps10
    go_wp2
    go_ret
    exact ⟨rfl, Below.refl _ _⟩
  have hbig' : ¬ (1048576 : Int) < (len : Int) := by omega
  go_enter Try.func10, Try.ntmps10
  go_wp2_with fail
  refine (drawBkF _ a len cap hB hc hm).mono ?_
  rintro e w1 ⟨n, s, rfl, hg⟩
  have G := Lib.hid hg
  clear hg hB
  go_wp2_with (refine stop_store rfl ?_)
  refine ⟨trivial, ?_⟩
  refine wpList_store_blk rfl 24 (.tmp 3) (.tmp 14) _ _ _ 24 (Blk.new w1 #[.int .i64 0, .int .i64 0] 24) rfl rfl rfl rfl (by kernel_rfl) (by simp [Value.oneCell']) rfl ?_
  intro w2 hgV hT
  have hg : (w1).grownBy w2 none := grown_new (Draw.grown_alloc w1 (.cells #[.int .i64 0, .int .i64 0] 24) none) (Nat.le_refl _) hgV
  have B := Lib.hid (Bv.of hT)
  clear hgV hT
  replace G := Lib.hid (gtr G.out hg)
  clear hg
  generalize (w1).heap.size = bb at *
  by_cases ho : Ok n s
  case neg =>
    have HO := Lib.hid ho; clear ho
    obtain ⟨_, k0, k1⟩ := B.out
    go_wp2_with fail
    clear k0 k1
    refine (ibfall_no _ n s HO.out).mono ?_
    rintro e w3 ⟨rfl, hg⟩
    replace G := Lib.hid (gtr G.out hg)
    replace B := Lib.hid (B.out.kept hg)
    clear hg
    go_wp2_with (refine stop_store rfl ?_)
    refine ⟨trivial, ?_⟩
    refine wpList_store_blk rfl 24 (.tmp 4) (.tmp 16) _ _ _ 24 (Blk.new w3 #[.int .i64 0, .int .i64 0] 24) rfl rfl rfl rfl (by kernel_rfl) (by simp [Value.oneCell']) rfl ?_
    intro w4 hgV hT
    have hg : (w3).grownBy w4 none := grown_new (Draw.grown_alloc w3 (.cells #[.int .i64 0, .int .i64 0] 24) none) (Nat.le_refl _) hgV
    have X := Lib.hid (Bv.of hT)
    clear hgV hT
    replace G := Lib.hid (gtr G.out hg)
    replace B := Lib.hid (B.out.kept hg)
    clear hg
    generalize (w3).heap.size = xb at *
    obtain ⟨_, k0, k1⟩ := B.out
    obtain ⟨_, x0, x1⟩ := X.out
    go_wp2_with fail
    clear k0 k1
    clear x0 x1
    refine wp_region_held_drew (S := (fun w' => w'.cell? ⟨bb, 0, none⟩ = some (.int .i64 n) ∧ w'.cell? ⟨bb, 1, none⟩ = some (.int .i64 s) ∧ w'.cell? ⟨xb, 0, none⟩ = some (.int .i64 0) ∧ w'.cell? ⟨xb, 1, none⟩ = some (.int .i64 0))) (by kernel_rfl) (⟨B.out.c0, B.out.c1, X.out.c0, X.out.c1⟩) (fun hHeld => ?_)
    have hg := Draw.gdrew w4
    replace G := Lib.hid (gtr G.out hg)
    replace B := Lib.hid (B.out.kept hg)
    replace X := Lib.hid (X.out.kept hg)
    clear hg
    generalize (w4).drew = w5 at *
    refine wpAnyH_take (i := 0) (oi := ⟨some 17, _, _, _, _, _⟩) (v := ?_) rfl (by kernel_rfl) (by kernel_rfl) (by kernel_rfl) (fun _ _ _ h => h) (Or.inl ⟨by rfl, ?_⟩) (by assumption) ?_
    rotate_left
    · intro w hSw; (try dsimp only at hSw); go_simp; try with_reducible rfl
    simp only [Act.put, List.setIfInBounds_toArray, List.set_cons_zero, List.set_cons_succ]
    refine wpAnyH_take (i := 1) (oi := ⟨some 18, _, _, _, _, _⟩) (v := ?_) rfl (by kernel_rfl) (by kernel_rfl) (by kernel_rfl) (fun _ _ _ h => h) (Or.inl ⟨by rfl, ?_⟩) (by assumption) ?_
    rotate_left
    · intro w hSw; (try dsimp only at hSw); go_simp; try with_reducible rfl
    simp only [Act.put, List.setIfInBounds_toArray, List.set_cons_zero, List.set_cons_succ]
    refine wpAnyH_ready (rs := [2]) (by kernel_rfl) (by simp) ?_
    refine AllReadyH.cons (o := ⟨some 19, _, _, _, _, _⟩) rfl (fun Kq hKq => ?_) AllReadyH.nil
    go_simp
    go_at_call 30
    refine (sbfall_no _ n s HO.out).mono ?_
    rintro e w6 ⟨rfl, hg⟩
    replace G := Lib.hid (gtr G.out hg)
    replace B := Lib.hid (B.out.kept hg)
    replace X := Lib.hid (X.out.kept hg)
    clear hg
    refine hKq.out _ _ (⟨B.out.c0, B.out.c1, X.out.c0, X.out.c1⟩) (fun hHeld => ?_)
    clear hKq Kq
    refine wpAnyH_take (i := 3) (oi := ⟨some 20, _, _, _, _, _⟩) (v := ?_) rfl (by kernel_rfl) (by kernel_rfl) (by kernel_rfl) (fun _ _ _ h => h) (Or.inl ⟨by rfl, ?_⟩) (by assumption) ?_
    rotate_left
    · intro w hSw; (try dsimp only at hSw); go_simp; try with_reducible rfl
    simp only [Act.put, List.setIfInBounds_toArray, List.set_cons_zero, List.set_cons_succ]
    refine wpAnyH_take (i := 4) (oi := ⟨some 21, _, _, _, _, _⟩) (v := ?_) rfl (by kernel_rfl) (by kernel_rfl) (by kernel_rfl) (fun _ _ _ h => h) (Or.inl ⟨by rfl, ?_⟩) (by assumption) ?_
    rotate_left
    · intro w hSw; (try dsimp only at hSw); go_simp; try with_reducible rfl
    simp only [Act.put, List.setIfInBounds_toArray, List.set_cons_zero, List.set_cons_succ]
    refine wpAnyH_take (i := 5) (oi := ⟨some 22, _, _, _, _, _⟩) (v := ?_) rfl (by kernel_rfl) (by kernel_rfl) (by kernel_rfl) (fun _ _ _ h => h) (Or.inl ⟨by rfl, ?_⟩) (by assumption) ?_
    rotate_left
    · intro w hSw; (try dsimp only at hSw); go_simp; try with_reducible rfl
    simp only [Act.put, List.setIfInBounds_toArray, List.set_cons_zero, List.set_cons_succ]
    refine wpAnyH_ready (rs := [6]) (by kernel_rfl) (by simp) ?_
    refine AllReadyH.cons (o := ⟨some 23, _, _, _, _, _⟩) rfl (fun Kq hKq => ?_) AllReadyH.nil
    go_simp
    go_at_call 23
    refine (smok _ n s).mono ?_
    rintro e w7 ⟨rfl, hg⟩
    replace G := Lib.hid (gtr G.out hg)
    replace B := Lib.hid (B.out.kept hg)
    replace X := Lib.hid (X.out.kept hg)
    clear hg
    rw [bkB_f HO.out]
    refine hKq.out _ _ (⟨B.out.c0, B.out.c1, X.out.c0, X.out.c1⟩) (fun hHeld => ?_)
    clear hKq Kq
    refine wpAnyH_take (i := 7) (oi := ⟨some 24, _, _, _, _, _⟩) (v := ?_) rfl (by kernel_rfl) (by kernel_rfl) (by kernel_rfl) (fun _ _ _ h => h) (Or.inl ⟨by rfl, ?_⟩) (by assumption) ?_
    rotate_left
    · intro w hSw; (try dsimp only at hSw); go_simp; try with_reducible rfl
    simp only [Act.put, List.setIfInBounds_toArray, List.set_cons_zero, List.set_cons_succ]
    refine wpAnyH_take (i := 8) (oi := ⟨some 25, _, _, _, _, _⟩) (v := ?_) rfl (by kernel_rfl) (by kernel_rfl) (by kernel_rfl) (fun _ _ _ h => h) (Or.inl ⟨by rfl, ?_⟩) (by assumption) ?_
    rotate_left
    · intro w hSw; (try dsimp only at hSw); go_simp; try with_reducible rfl
    simp only [Act.put, List.setIfInBounds_toArray, List.set_cons_zero, List.set_cons_succ]
    refine wpAnyH_done (by kernel_rfl) ?_ _
    obtain ⟨_, k0, k1⟩ := B.out
    obtain ⟨_, x0, x1⟩ := X.out
    go_wp2_with fail
    clear k0 k1
    clear x0 x1
    refine wp_region_held_drew (S := (fun w' => w'.cell? ⟨bb, 0, none⟩ = some (.int .i64 n) ∧ w'.cell? ⟨bb, 1, none⟩ = some (.int .i64 s) ∧ w'.cell? ⟨xb, 0, none⟩ = some (.int .i64 0) ∧ w'.cell? ⟨xb, 1, none⟩ = some (.int .i64 0))) (by kernel_rfl) (⟨B.out.c0, B.out.c1, X.out.c0, X.out.c1⟩) (fun hHeld => ?_)
    have hg := Draw.gdrew w7
    replace G := Lib.hid (gtr G.out hg)
    replace B := Lib.hid (B.out.kept hg)
    replace X := Lib.hid (X.out.kept hg)
    clear hg
    generalize (w7).drew = w8 at *
    refine wpAnyH_take (i := 0) (oi := ⟨some 26, _, _, _, _, _⟩) (v := ?_) rfl (by kernel_rfl) (by kernel_rfl) (by kernel_rfl) (fun _ _ _ h => h) (Or.inl ⟨by rfl, ?_⟩) (by assumption) ?_
    rotate_left
    · intro w hSw; (try dsimp only at hSw); go_simp; try with_reducible rfl
    simp only [Act.put, List.setIfInBounds_toArray, List.set_cons_zero, List.set_cons_succ]
    refine wpAnyH_take (i := 1) (oi := ⟨some 27, _, _, _, _, _⟩) (v := ?_) rfl (by kernel_rfl) (by kernel_rfl) (by kernel_rfl) (fun _ _ _ h => h) (Or.inl ⟨by rfl, ?_⟩) (by assumption) ?_
    rotate_left
    · intro w hSw; (try dsimp only at hSw); go_simp; try with_reducible rfl
    simp only [Act.put, List.setIfInBounds_toArray, List.set_cons_zero, List.set_cons_succ]
    refine wpAnyH_ready (rs := [2]) (by kernel_rfl) (by simp) ?_
    refine AllReadyH.cons (o := ⟨some 28, _, _, _, _, _⟩) rfl (fun Kq hKq => ?_) AllReadyH.nil
    go_simp
    go_at_call 30
    refine (sbfall_no _ n s HO.out).mono ?_
    rintro e w9 ⟨rfl, hg⟩
    replace G := Lib.hid (gtr G.out hg)
    replace B := Lib.hid (B.out.kept hg)
    replace X := Lib.hid (X.out.kept hg)
    clear hg
    refine hKq.out _ _ (⟨B.out.c0, B.out.c1, X.out.c0, X.out.c1⟩) (fun hHeld => ?_)
    clear hKq Kq
    refine wpAnyH_take (i := 3) (oi := ⟨some 29, _, _, _, _, _⟩) (v := ?_) rfl (by kernel_rfl) (by kernel_rfl) (by kernel_rfl) (fun _ _ _ h => h) (Or.inl ⟨by rfl, ?_⟩) (by assumption) ?_
    rotate_left
    · intro w hSw; (try dsimp only at hSw); go_simp; try with_reducible rfl
    simp only [Act.put, List.setIfInBounds_toArray, List.set_cons_zero, List.set_cons_succ]
    refine wpAnyH_take (i := 4) (oi := ⟨some 2, _, _, _, _, _⟩) (v := ?_) rfl (by kernel_rfl) (by kernel_rfl) (by kernel_rfl) (fun _ _ _ h => h) (Or.inl ⟨by rfl, ?_⟩) (by assumption) ?_
    rotate_left
    · intro w hSw; (try dsimp only at hSw); go_simp; try with_reducible rfl
    simp only [Act.put, List.setIfInBounds_toArray, List.set_cons_zero, List.set_cons_succ]
    refine wpAnyH_done (by kernel_rfl) ?_ _
    go_wp2
    go_ret
    exact ⟨Mem.ret_b (by simp <;> omega), Draw.below_of G.out⟩
  have HO := Lib.hid ho
  obtain ⟨o1, o2, o3⟩ := ho
  have HK := Lib.hid (show Ok s s by unfold Ok; omega)
  obtain ⟨_, k0, k1⟩ := B.out
  go_wp2_with fail
  clear k0 k1
  refine (ibfall_yes _ n s HO.out).mono ?_
  rintro e w3 ⟨rfl, hg⟩
  replace G := Lib.hid (gtr G.out hg)
  replace B := Lib.hid (B.out.kept hg)
  clear hg
  go_wp2_with (refine stop_store rfl ?_)
  refine ⟨trivial, ?_⟩
  refine wpList_store_blk rfl 24 (.tmp 4) (.tmp 16) _ _ _ 24 (Blk.new w3 #[.int .i64 0, .int .i64 0] 24) rfl rfl rfl rfl (by kernel_rfl) (by simp [Value.oneCell']) rfl ?_
  intro w4 hgV hT
  have hg : (w3).grownBy w4 none := grown_new (Draw.grown_alloc w3 (.cells #[.int .i64 0, .int .i64 0] 24) none) (Nat.le_refl _) hgV
  have X := Lib.hid (Bv.of hT)
  clear hgV hT
  replace G := Lib.hid (gtr G.out hg)
  replace B := Lib.hid (B.out.kept hg)
  clear hg
  generalize (w3).heap.size = xb at *
  obtain ⟨_, k0, k1⟩ := B.out
  obtain ⟨_, x0, x1⟩ := X.out
  go_wp2_with fail
  clear k0 k1
  clear x0 x1
  refine wp_region_held_drew (S := (fun w' => w'.cell? ⟨bb, 0, none⟩ = some (.int .i64 n) ∧ w'.cell? ⟨bb, 1, none⟩ = some (.int .i64 s) ∧ w'.cell? ⟨xb, 0, none⟩ = some (.int .i64 s) ∧ w'.cell? ⟨xb, 1, none⟩ = some (.int .i64 s))) (by kernel_rfl) (⟨B.out.c0, B.out.c1, X.out.c0, X.out.c1⟩) (fun hHeld => ?_)
  have hg := Draw.gdrew w4
  replace G := Lib.hid (gtr G.out hg)
  replace B := Lib.hid (B.out.kept hg)
  replace X := Lib.hid (X.out.kept hg)
  clear hg
  generalize (w4).drew = w5 at *
  refine wpAnyH_take (i := 0) (oi := ⟨some 17, _, _, _, _, _⟩) (v := ?_) rfl (by kernel_rfl) (by kernel_rfl) (by kernel_rfl) (fun _ _ _ h => h) (Or.inl ⟨by rfl, ?_⟩) (by assumption) ?_
  rotate_left
  · intro w hSw; (try dsimp only at hSw); go_simp; try with_reducible rfl
  simp only [Act.put, List.setIfInBounds_toArray, List.set_cons_zero, List.set_cons_succ]
  refine wpAnyH_take (i := 1) (oi := ⟨some 18, _, _, _, _, _⟩) (v := ?_) rfl (by kernel_rfl) (by kernel_rfl) (by kernel_rfl) (fun _ _ _ h => h) (Or.inl ⟨by rfl, ?_⟩) (by assumption) ?_
  rotate_left
  · intro w hSw; (try dsimp only at hSw); go_simp; try with_reducible rfl
  simp only [Act.put, List.setIfInBounds_toArray, List.set_cons_zero, List.set_cons_succ]
  refine wpAnyH_ready (rs := [2]) (by kernel_rfl) (by simp) ?_
  refine AllReadyH.cons (o := ⟨some 19, _, _, _, _, _⟩) rfl (fun Kq hKq => ?_) AllReadyH.nil
  go_simp
  go_at_call 30
  refine (sbfall_yes _ n s HO.out).mono ?_
  rintro e w6 ⟨rfl, hg⟩
  replace G := Lib.hid (gtr G.out hg)
  replace B := Lib.hid (B.out.kept hg)
  replace X := Lib.hid (X.out.kept hg)
  clear hg
  refine hKq.out _ _ (⟨B.out.c0, B.out.c1, X.out.c0, X.out.c1⟩) (fun hHeld => ?_)
  clear hKq Kq
  refine wpAnyH_take (i := 3) (oi := ⟨some 20, _, _, _, _, _⟩) (v := ?_) rfl (by kernel_rfl) (by kernel_rfl) (by kernel_rfl) (fun _ _ _ h => h) (Or.inl ⟨by rfl, ?_⟩) (by assumption) ?_
  rotate_left
  · intro w hSw; (try dsimp only at hSw); go_simp; try with_reducible rfl
  simp only [Act.put, List.setIfInBounds_toArray, List.set_cons_zero, List.set_cons_succ]
  refine wpAnyH_take (i := 4) (oi := ⟨some 21, _, _, _, _, _⟩) (v := ?_) rfl (by kernel_rfl) (by kernel_rfl) (by kernel_rfl) (fun _ _ _ h => h) (Or.inl ⟨by rfl, ?_⟩) (by assumption) ?_
  rotate_left
  · intro w hSw; (try dsimp only at hSw); go_simp; try with_reducible rfl
  simp only [Act.put, List.setIfInBounds_toArray, List.set_cons_zero, List.set_cons_succ]
  refine wpAnyH_take (i := 5) (oi := ⟨some 22, _, _, _, _, _⟩) (v := ?_) rfl (by kernel_rfl) (by kernel_rfl) (by kernel_rfl) (fun _ _ _ h => h) (Or.inl ⟨by rfl, ?_⟩) (by assumption) ?_
  rotate_left
  · intro w hSw; (try dsimp only at hSw); go_simp; try with_reducible rfl
  simp only [Act.put, List.setIfInBounds_toArray, List.set_cons_zero, List.set_cons_succ]
  refine wpAnyH_ready (rs := [6]) (by kernel_rfl) (by simp) ?_
  refine AllReadyH.cons (o := ⟨some 23, _, _, _, _, _⟩) rfl (fun Kq hKq => ?_) AllReadyH.nil
  go_simp
  go_at_call 23
  refine (smok _ n s).mono ?_
  rintro e w7 ⟨rfl, hg⟩
  replace G := Lib.hid (gtr G.out hg)
  replace B := Lib.hid (B.out.kept hg)
  replace X := Lib.hid (X.out.kept hg)
  clear hg
  rw [bkB_t HO.out]
  refine hKq.out _ _ (⟨B.out.c0, B.out.c1, X.out.c0, X.out.c1⟩) (fun hHeld => ?_)
  clear hKq Kq
  refine wpAnyH_take (i := 7) (oi := ⟨some 24, _, _, _, _, _⟩) (v := ?_) rfl (by kernel_rfl) (by kernel_rfl) (by kernel_rfl) (fun _ _ _ h => h) (Or.inl ⟨by rfl, ?_⟩) (by assumption) ?_
  rotate_left
  · intro w hSw; (try dsimp only at hSw); go_simp; try with_reducible rfl
  simp only [Act.put, List.setIfInBounds_toArray, List.set_cons_zero, List.set_cons_succ]
  refine wpAnyH_take (i := 8) (oi := ⟨some 25, _, _, _, _, _⟩) (v := ?_) rfl (by kernel_rfl) (by kernel_rfl) (by kernel_rfl) (fun _ _ _ h => h) (Or.inl ⟨by rfl, ?_⟩) (by assumption) ?_
  rotate_left
  · intro w hSw; (try dsimp only at hSw); go_simp; try with_reducible rfl
  simp only [Act.put, List.setIfInBounds_toArray, List.set_cons_zero, List.set_cons_succ]
  refine wpAnyH_done (by kernel_rfl) ?_ _
  have hwn : IntKind.i64.wrap (s - n) = s - n := IntWalk.i64_in _ (by omega)
  by_cases h60 : s = 60
  · subst h60
    obtain ⟨_, k0, k1⟩ := B.out
    obtain ⟨_, x0, x1⟩ := X.out
    go_wp2_with fail
    clear k0 k1
    clear x0 x1
    refine (ibkeep_full _ 60 60 HK.out (Or.inr (by omega))).mono ?_
    rintro e v1 ⟨rfl, hg⟩
    replace G := Lib.hid (gtr G.out hg)
    replace B := Lib.hid (B.out.kept hg)
    replace X := Lib.hid (X.out.kept hg)
    clear hg
    go_wp2_with (refine stop_store rfl ?_)
    refine ⟨trivial, ?_⟩
    refine wpList_store_blk rfl 24 (.tmp 5) (.tmp 33) _ _ _ 24 (Blk.new v1 #[.int .i64 0, .int .i64 0] 24) rfl rfl rfl rfl (by kernel_rfl) (by simp [Value.oneCell']) rfl ?_
    intro v2 hgV hT
    have hg : (v1).grownBy v2 none := grown_new (Draw.grown_alloc v1 (.cells #[.int .i64 0, .int .i64 0] 24) none) (Nat.le_refl _) hgV
    have Y := Lib.hid (Bv.of hT)
    clear hgV hT
    replace G := Lib.hid (gtr G.out hg)
    replace B := Lib.hid (B.out.kept hg)
    replace X := Lib.hid (X.out.kept hg)
    clear hg
    generalize (v1).heap.size = yb at *
    obtain ⟨_, y0, y1⟩ := Y.out
    go_wp2_with fail
    clear y0 y1
    refine (ibtake_no _ 60 60 HK.out rfl).mono ?_
    rintro e v3 ⟨rfl, hg⟩
    replace G := Lib.hid (gtr G.out hg)
    replace B := Lib.hid (B.out.kept hg)
    replace X := Lib.hid (X.out.kept hg)
    replace Y := Lib.hid (Y.out.kept hg)
    clear hg
    go_wp2_with (refine stop_store rfl ?_)
    refine ⟨trivial, ?_⟩
    refine wpList_store_blk rfl 24 (.tmp 8) (.tmp 39) _ _ _ 24 (Blk.new v3 #[.int .i64 0, .int .i64 0] 24) rfl rfl rfl rfl (by kernel_rfl) (by simp [Value.oneCell']) rfl ?_
    intro v4 hgV hT
    have hg : (v3).grownBy v4 none := grown_new (Draw.grown_alloc v3 (.cells #[.int .i64 0, .int .i64 0] 24) none) (Nat.le_refl _) hgV
    have Z := Lib.hid (Bv.of hT)
    clear hgV hT
    replace G := Lib.hid (gtr G.out hg)
    replace B := Lib.hid (B.out.kept hg)
    replace X := Lib.hid (X.out.kept hg)
    replace Y := Lib.hid (Y.out.kept hg)
    clear hg
    generalize (v3).heap.size = zb at *
    obtain ⟨_, k0, k1⟩ := B.out
    obtain ⟨_, x0, x1⟩ := X.out
    obtain ⟨_, y0, y1⟩ := Y.out
    obtain ⟨_, z0, z1⟩ := Z.out
    go_wp2
    go_ret
    exact ⟨Mem.ret_b (by simp <;> omega), Draw.below_of G.out⟩
  have h60' : s < 60 := by omega
  clear h60
  have HF := Lib.hid (show ¬ Full s s by unfold Full; omega)
  have hss : (s == s) = true := by simp
  by_cases h4 : s + 4 ≤ 60
  · have H4 := Lib.hid h4
    have HK4 := Lib.hid (show Ok s (s + 4) by unfold Ok; omega)
    obtain ⟨_, k0, k1⟩ := B.out
    obtain ⟨_, x0, x1⟩ := X.out
    go_wp2_with fail
    clear k0 k1
    clear x0 x1
    refine (ibkeep_y4 _ s s HK.out HF.out H4.out).mono ?_
    rintro e v1 ⟨rfl, hg⟩
    replace G := Lib.hid (gtr G.out hg)
    replace B := Lib.hid (B.out.kept hg)
    replace X := Lib.hid (X.out.kept hg)
    clear hg
    go_wp2_with (refine stop_store rfl ?_)
    refine ⟨trivial, ?_⟩
    refine wpList_store_blk rfl 24 (.tmp 5) (.tmp 33) _ _ _ 24 (Blk.new v1 #[.int .i64 0, .int .i64 0] 24) rfl rfl rfl rfl (by kernel_rfl) (by simp [Value.oneCell']) rfl ?_
    intro v2 hgV hT
    have hg : (v1).grownBy v2 none := grown_new (Draw.grown_alloc v1 (.cells #[.int .i64 0, .int .i64 0] 24) none) (Nat.le_refl _) hgV
    have Y := Lib.hid (Bv.of hT)
    clear hgV hT
    replace G := Lib.hid (gtr G.out hg)
    replace B := Lib.hid (B.out.kept hg)
    replace X := Lib.hid (X.out.kept hg)
    clear hg
    generalize (v1).heap.size = yb at *
    obtain ⟨_, y0, y1⟩ := Y.out
    go_wp2_with fail
    clear y0 y1
    refine (ibtake_yes _ s (s + 4) HK4.out (by omega)).mono ?_
    rintro e v3 ⟨rfl, hg⟩
    replace G := Lib.hid (gtr G.out hg)
    replace B := Lib.hid (B.out.kept hg)
    replace X := Lib.hid (X.out.kept hg)
    replace Y := Lib.hid (Y.out.kept hg)
    clear hg
    go_wp2_with (refine stop_store rfl ?_)
    refine ⟨trivial, ?_⟩
    refine wpList_store_blk rfl 24 (.tmp 8) (.tmp 39) _ _ _ 24 (Blk.new v3 #[.int .i64 0, .int .i64 0] 24) rfl rfl rfl rfl (by kernel_rfl) (by simp [Value.oneCell']) rfl ?_
    intro v4 hgV hT
    have hg : (v3).grownBy v4 none := grown_new (Draw.grown_alloc v3 (.cells #[.int .i64 0, .int .i64 0] 24) none) (Nat.le_refl _) hgV
    have Z := Lib.hid (Bv.of hT)
    clear hgV hT
    replace G := Lib.hid (gtr G.out hg)
    replace B := Lib.hid (B.out.kept hg)
    replace X := Lib.hid (X.out.kept hg)
    replace Y := Lib.hid (Y.out.kept hg)
    clear hg
    generalize (v3).heap.size = zb at *
    obtain ⟨_, k0, k1⟩ := B.out
    obtain ⟨_, x0, x1⟩ := X.out
    obtain ⟨_, y0, y1⟩ := Y.out
    obtain ⟨_, z0, z1⟩ := Z.out
    go_wp2
    go_ret
    exact ⟨Mem.ret_b (by simp <;> omega), Draw.below_of G.out⟩
  · have H4 := Lib.hid (show 60 < s + 4 by omega)
    have HK4 := Lib.hid (show Ok s 60 by unfold Ok; omega)
    obtain ⟨_, k0, k1⟩ := B.out
    obtain ⟨_, x0, x1⟩ := X.out
    go_wp2_with fail
    clear k0 k1
    clear x0 x1
    refine (ibkeep_y60 _ s s HK.out HF.out H4.out).mono ?_
    rintro e v1 ⟨rfl, hg⟩
    replace G := Lib.hid (gtr G.out hg)
    replace B := Lib.hid (B.out.kept hg)
    replace X := Lib.hid (X.out.kept hg)
    clear hg
    go_wp2_with (refine stop_store rfl ?_)
    refine ⟨trivial, ?_⟩
    refine wpList_store_blk rfl 24 (.tmp 5) (.tmp 33) _ _ _ 24 (Blk.new v1 #[.int .i64 0, .int .i64 0] 24) rfl rfl rfl rfl (by kernel_rfl) (by simp [Value.oneCell']) rfl ?_
    intro v2 hgV hT
    have hg : (v1).grownBy v2 none := grown_new (Draw.grown_alloc v1 (.cells #[.int .i64 0, .int .i64 0] 24) none) (Nat.le_refl _) hgV
    have Y := Lib.hid (Bv.of hT)
    clear hgV hT
    replace G := Lib.hid (gtr G.out hg)
    replace B := Lib.hid (B.out.kept hg)
    replace X := Lib.hid (X.out.kept hg)
    clear hg
    generalize (v1).heap.size = yb at *
    obtain ⟨_, y0, y1⟩ := Y.out
    go_wp2_with fail
    clear y0 y1
    refine (ibtake_yes _ s 60 HK4.out (by omega)).mono ?_
    rintro e v3 ⟨rfl, hg⟩
    replace G := Lib.hid (gtr G.out hg)
    replace B := Lib.hid (B.out.kept hg)
    replace X := Lib.hid (X.out.kept hg)
    replace Y := Lib.hid (Y.out.kept hg)
    clear hg
    go_wp2_with (refine stop_store rfl ?_)
    refine ⟨trivial, ?_⟩
    refine wpList_store_blk rfl 24 (.tmp 8) (.tmp 39) _ _ _ 24 (Blk.new v3 #[.int .i64 0, .int .i64 0] 24) rfl rfl rfl rfl (by kernel_rfl) (by simp [Value.oneCell']) rfl ?_
    intro v4 hgV hT
    have hg : (v3).grownBy v4 none := grown_new (Draw.grown_alloc v3 (.cells #[.int .i64 0, .int .i64 0] 24) none) (Nat.le_refl _) hgV
    have Z := Lib.hid (Bv.of hT)
    clear hgV hT
    replace G := Lib.hid (gtr G.out hg)
    replace B := Lib.hid (B.out.kept hg)
    replace X := Lib.hid (X.out.kept hg)
    replace Y := Lib.hid (Y.out.kept hg)
    clear hg
    generalize (v3).heap.size = zb at *
    obtain ⟨_, k0, k1⟩ := B.out
    obtain ⟨_, x0, x1⟩ := X.out
    obtain ⟨_, y0, y1⟩ := Y.out
    obtain ⟨_, z0, z1⟩ := Z.out
    go_wp2
    go_ret
    exact ⟨Mem.ret_b (by simp <;> omega), Draw.below_of G.out⟩
end Run
end Go.Proofs.Yteibklnonlapoaa
