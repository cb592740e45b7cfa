/-
  The walks of the laws on a book: taking, keeping, falling, its form.
-/
import Derived.Test.YteibklnonlapoaaBf
namespace Go.Proofs.Yteibklnonlapoaa
namespace Run
open Go.RowKit Alg Mem Con Draw Bk
set_option linter.unusedVariables false

/-- A book's two cells in memory. -/
structure Bv (w : World) (b : Nat) (v0 v1 : Int) : Prop where
  lt : b < w.heap.size
  c0 : w.cell? ⟨b, 0, none⟩ = some (.int .i64 v0)
  c1 : w.cell? ⟨b, 1, none⟩ = some (.int .i64 v1)
theorem Bv.of {w : World} {b : Nat} {v0 v1 : Int} {T : TypeId} (h : Blk w b #[.int .i64 v0, .int .i64 v1] T) : Bv w b v0 v1 := ⟨h.lt, h.cell 0, h.cell 1⟩
theorem Bv.keptB {w w' : World} {b : Nat} {v0 v1 : Int} (h : Bv w b v0 v1) (hb : w'.heap[b]? = w.heap[b]?) (hs : w.heap.size ≤ w'.heap.size) : Bv w' b v0 v1 :=
  ⟨Nat.lt_of_lt_of_le h.lt hs, by rw [World.cell?_of_block (w := w) hb]; exact h.c0, by rw [World.cell?_of_block (w := w) hb]; exact h.c1⟩
theorem Bv.kept {w w' : World} {b : Nat} {v0 v1 : Int} (h : Bv w b v0 v1) (hg : w.grownBy w' none) : Bv w' b v0 v1 := h.keptB (hg.block _ h.lt (by simp)) hg.size
set_option maxRecDepth 100000 in
set_option maxHeartbeats 4000000 in
theorem FnBookTake (a : Option Addr) (len cap : Nat) (w : World) (hB : Draw.Bytes w w.heap.size a len) (hc : len ≤ cap) (hm : cap ≤ maxLen) :
    Calls Try.prog 3 #[.slice a len cap] w (Yes w) := by
  by_cases hbig : 1048576 < len
  · have hbig' : (1048576 : Int) < (len : Int) := by omega
    clear hB
    go_enter Try.func3, Try.ntmps3
    go_wp2
    go_ret
    exact ⟨rfl, Below.refl _ _⟩
  have hbig' : ¬ (1048576 : Int) < (len : Int) := by omega
  go_enter Try.func3, Try.ntmps3
  go_wp2_with fail
  refine (drawBkT _ a len cap hB hc hm).mono ?_
  rintro e w1 ⟨n, s, rfl, hg⟩
  have G := Lib.hid hg
  clear hg hB
  go_wp2_with (refine stop_store rfl ?_)
  refine ⟨trivial, ?_⟩
  refine wpList_store_blk rfl 24 (.tmp 3) (.tmp 14) _ _ _ 24 (Blk.new w1 #[.int .i64 0, .int .i64 0] 24) rfl rfl rfl rfl (by kernel_rfl) (by simp [Value.oneCell']) rfl ?_
  intro w2 hgV hT
  have hg : (w1).grownBy w2 none := grown_new (Draw.grown_alloc w1 (.cells #[.int .i64 0, .int .i64 0] 24) none) (Nat.le_refl _) hgV
  have B := Lib.hid (Bv.of hT)
  clear hgV hT
  replace G := Lib.hid (gtr G.out hg)
  clear hg
  generalize (w1).heap.size = bb at *
  by_cases ho : Ok n s
  case neg =>
    have HO := Lib.hid ho; clear ho
    obtain ⟨_, k0, k1⟩ := B.out
    go_wp2_with fail
    clear k0 k1
    refine (sbtake_bad _ n s HO.out).mono ?_
    rintro e w3 ⟨rfl, hg⟩
    replace G := Lib.hid (gtr G.out hg)
    replace B := Lib.hid (B.out.kept hg)
    clear hg
    go_wp2_with (refine stop_store rfl ?_)
    refine ⟨trivial, ?_⟩
    refine wpList_store_blk rfl 24 (.tmp 5) (.tmp 19) _ _ _ 24 (Blk.new w3 #[.int .i64 0, .int .i64 0] 24) rfl rfl rfl rfl (by kernel_rfl) (by simp [Value.oneCell']) rfl ?_
    intro w4 hgV hT
    have hg : (w3).grownBy w4 none := grown_new (Draw.grown_alloc w3 (.cells #[.int .i64 0, .int .i64 0] 24) none) (Nat.le_refl _) hgV
    have M := Lib.hid (Bv.of hT)
    clear hgV hT
    replace G := Lib.hid (gtr G.out hg)
    replace B := Lib.hid (B.out.kept hg)
    clear hg
    generalize (w3).heap.size = mb at *
    obtain ⟨_, k0, k1⟩ := B.out
    go_wp2_with fail
    clear k0 k1
    refine (ibtake_bad _ n s HO.out).mono ?_
    rintro e w5 ⟨rfl, hg⟩
    replace G := Lib.hid (gtr G.out hg)
    replace B := Lib.hid (B.out.kept hg)
    replace M := Lib.hid (M.out.kept hg)
    clear hg
    go_wp2_with (refine stop_store rfl ?_)
    refine ⟨trivial, ?_⟩
    refine wpList_store_blk rfl 24 (.tmp 8) (.tmp 25) _ _ _ 24 (Blk.new w5 #[.int .i64 0, .int .i64 0] 24) rfl rfl rfl rfl (by kernel_rfl) (by simp [Value.oneCell']) rfl ?_
    intro w6 hgV hT
    have hg : (w5).grownBy w6 none := grown_new (Draw.grown_alloc w5 (.cells #[.int .i64 0, .int .i64 0] 24) none) (Nat.le_refl _) hgV
    have X := Lib.hid (Bv.of hT)
    clear hgV hT
    replace G := Lib.hid (gtr G.out hg)
    replace B := Lib.hid (B.out.kept hg)
    replace M := Lib.hid (M.out.kept hg)
    clear hg
    generalize (w5).heap.size = xb at *
    obtain ⟨_, k0, k1⟩ := B.out
    obtain ⟨_, x0, x1⟩ := X.out
    obtain ⟨_, m0, m1⟩ := M.out
    go_wp2_with fail
    clear k0 k1
    clear x0 x1
    clear m0 m1
    refine (smok _ n s).mono ?_
    rintro e w7 ⟨rfl, hg⟩
    rw [bkB_f HO.out]
    replace G := Lib.hid (gtr G.out hg)
    replace B := Lib.hid (B.out.kept hg)
    replace M := Lib.hid (M.out.kept hg)
    replace X := Lib.hid (X.out.kept hg)
    clear hg
    obtain ⟨_, k0, k1⟩ := B.out
    obtain ⟨_, x0, x1⟩ := X.out
    obtain ⟨_, m0, m1⟩ := M.out
    go_wp2
    go_ret
    exact ⟨Mem.ret_b (by simp <;> omega), Draw.below_of G.out⟩
  have HO := Lib.hid ho; clear ho
  by_cases hf : n = s
  · have HF := Lib.hid hf; clear hf
    obtain ⟨_, k0, k1⟩ := B.out
    go_wp2_with fail
    clear k0 k1
    refine (sbtake_no _ n s HO.out HF.out).mono ?_
    rintro e w3 ⟨rfl, hg⟩
    replace G := Lib.hid (gtr G.out hg)
    replace B := Lib.hid (B.out.kept hg)
    clear hg
    go_wp2_with (refine stop_store rfl ?_)
    refine ⟨trivial, ?_⟩
    refine wpList_store_blk rfl 24 (.tmp 5) (.tmp 19) _ _ _ 24 (Blk.new w3 #[.int .i64 0, .int .i64 0] 24) rfl rfl rfl rfl (by kernel_rfl) (by simp [Value.oneCell']) rfl ?_
    intro w4 hgV hT
    have hg : (w3).grownBy w4 none := grown_new (Draw.grown_alloc w3 (.cells #[.int .i64 0, .int .i64 0] 24) none) (Nat.le_refl _) hgV
    have M := Lib.hid (Bv.of hT)
    clear hgV hT
    replace G := Lib.hid (gtr G.out hg)
    replace B := Lib.hid (B.out.kept hg)
    clear hg
    generalize (w3).heap.size = mb at *
    obtain ⟨_, k0, k1⟩ := B.out
    go_wp2_with fail
    clear k0 k1
    refine (ibtake_no _ n s HO.out HF.out).mono ?_
    rintro e w5 ⟨rfl, hg⟩
    replace G := Lib.hid (gtr G.out hg)
    replace B := Lib.hid (B.out.kept hg)
    replace M := Lib.hid (M.out.kept hg)
    clear hg
    go_wp2_with (refine stop_store rfl ?_)
    refine ⟨trivial, ?_⟩
    refine wpList_store_blk rfl 24 (.tmp 8) (.tmp 25) _ _ _ 24 (Blk.new w5 #[.int .i64 0, .int .i64 0] 24) rfl rfl rfl rfl (by kernel_rfl) (by simp [Value.oneCell']) rfl ?_
    intro w6 hgV hT
    have hg : (w5).grownBy w6 none := grown_new (Draw.grown_alloc w5 (.cells #[.int .i64 0, .int .i64 0] 24) none) (Nat.le_refl _) hgV
    have X := Lib.hid (Bv.of hT)
    clear hgV hT
    replace G := Lib.hid (gtr G.out hg)
    replace B := Lib.hid (B.out.kept hg)
    replace M := Lib.hid (M.out.kept hg)
    clear hg
    generalize (w5).heap.size = xb at *
    obtain ⟨_, k0, k1⟩ := B.out
    obtain ⟨_, x0, x1⟩ := X.out
    obtain ⟨_, m0, m1⟩ := M.out
    go_wp2_with fail
    clear k0 k1
    clear x0 x1
    clear m0 m1
    refine (smok _ n s).mono ?_
    rintro e w7 ⟨rfl, hg⟩
    rw [bkB_t HO.out]
    replace G := Lib.hid (gtr G.out hg)
    replace B := Lib.hid (B.out.kept hg)
    replace M := Lib.hid (M.out.kept hg)
    replace X := Lib.hid (X.out.kept hg)
    clear hg
    obtain ⟨_, k0, k1⟩ := B.out
    obtain ⟨_, x0, x1⟩ := X.out
    obtain ⟨_, m0, m1⟩ := M.out
    have e1 : (n == s) = true := by simp [HF.out]
    go_wp2
    go_ret
    exact ⟨Mem.ret_b (by simp <;> omega), Draw.below_of G.out⟩
  · have HF := Lib.hid hf; clear hf
    obtain ⟨_, k0, k1⟩ := B.out
    go_wp2_with fail
    clear k0 k1
    refine (sbtake_yes _ n s HO.out HF.out).mono ?_
    rintro e w3 ⟨rfl, hg⟩
    replace G := Lib.hid (gtr G.out hg)
    replace B := Lib.hid (B.out.kept hg)
    clear hg
    go_wp2_with (refine stop_store rfl ?_)
    refine ⟨trivial, ?_⟩
    refine wpList_store_blk rfl 24 (.tmp 5) (.tmp 19) _ _ _ 24 (Blk.new w3 #[.int .i64 0, .int .i64 0] 24) rfl rfl rfl rfl (by kernel_rfl) (by simp [Value.oneCell']) rfl ?_
    intro w4 hgV hT
    have hg : (w3).grownBy w4 none := grown_new (Draw.grown_alloc w3 (.cells #[.int .i64 0, .int .i64 0] 24) none) (Nat.le_refl _) hgV
    have M := Lib.hid (Bv.of hT)
    clear hgV hT
    replace G := Lib.hid (gtr G.out hg)
    replace B := Lib.hid (B.out.kept hg)
    clear hg
    generalize (w3).heap.size = mb at *
    obtain ⟨_, k0, k1⟩ := B.out
    go_wp2_with fail
    clear k0 k1
    refine (ibtake_yes _ n s HO.out HF.out).mono ?_
    rintro e w5 ⟨rfl, hg⟩
    replace G := Lib.hid (gtr G.out hg)
    replace B := Lib.hid (B.out.kept hg)
    replace M := Lib.hid (M.out.kept hg)
    clear hg
    go_wp2_with (refine stop_store rfl ?_)
    refine ⟨trivial, ?_⟩
    refine wpList_store_blk rfl 24 (.tmp 8) (.tmp 25) _ _ _ 24 (Blk.new w5 #[.int .i64 0, .int .i64 0] 24) rfl rfl rfl rfl (by kernel_rfl) (by simp [Value.oneCell']) rfl ?_
    intro w6 hgV hT
    have hg : (w5).grownBy w6 none := grown_new (Draw.grown_alloc w5 (.cells #[.int .i64 0, .int .i64 0] 24) none) (Nat.le_refl _) hgV
    have X := Lib.hid (Bv.of hT)
    clear hgV hT
    replace G := Lib.hid (gtr G.out hg)
    replace B := Lib.hid (B.out.kept hg)
    replace M := Lib.hid (M.out.kept hg)
    clear hg
    generalize (w5).heap.size = xb at *
    obtain ⟨_, k0, k1⟩ := B.out
    obtain ⟨_, x0, x1⟩ := X.out
    obtain ⟨_, m0, m1⟩ := M.out
    go_wp2_with fail
    clear k0 k1
    clear x0 x1
    clear m0 m1
    refine (smok _ n s).mono ?_
    rintro e w7 ⟨rfl, hg⟩
    rw [bkB_t HO.out]
    replace G := Lib.hid (gtr G.out hg)
    replace B := Lib.hid (B.out.kept hg)
    replace M := Lib.hid (M.out.kept hg)
    replace X := Lib.hid (X.out.kept hg)
    clear hg
    obtain ⟨_, k0, k1⟩ := B.out
    obtain ⟨_, x0, x1⟩ := X.out
    obtain ⟨_, m0, m1⟩ := M.out
    have hos := HO.out
    have hfs := HF.out
    unfold Ok at hos
    have HK := Lib.hid (show Ok (n + 1) s by unfold Ok; omega)
    obtain ⟨o1, o2, o3⟩ := hos
    clear hfs
    have e1 : (n + 1 == n + 1) = true := by simp
    go_wp2_with fail
    refine (ibok _ (n + 1) s).mono ?_
    rintro e w8 ⟨rfl, hg⟩
    rw [bkB_t HK.out]
    clear k0 k1
    clear x0 x1
    clear m0 m1
    replace G := Lib.hid (gtr G.out hg)
    replace B := Lib.hid (B.out.kept hg)
    replace M := Lib.hid (M.out.kept hg)
    replace X := Lib.hid (X.out.kept hg)
    clear hg
    obtain ⟨_, k0, k1⟩ := B.out
    obtain ⟨_, x0, x1⟩ := X.out
    obtain ⟨_, m0, m1⟩ := M.out
    go_wp2
    go_ret
    exact ⟨Mem.ret_b (by simp <;> omega), Draw.below_of G.out⟩
theorem ibkeep_y4 (w : World) (n s : Int) (ho : Ok n s) (hf : ¬ Full n s) (h : n + 4 ≤ 60) : Calls Try.prog 27 #[.agg #[.int .i64 n, .int .i64 s]] w fun e w' => e = .returned (.tuple #[.agg #[.int .i64 n, .int .i64 (n + 4)], .bool true]) ∧ w.grownBy w' none := by
  have e : kS n s = n + 4 := by rw [kS_not hf, if_pos h]
  have h := ibkeep_yes w n s ho hf
  rw [e] at h; exact h
theorem ibkeep_y60 (w : World) (n s : Int) (ho : Ok n s) (hf : ¬ Full n s) (h : 60 < n + 4) : Calls Try.prog 27 #[.agg #[.int .i64 n, .int .i64 s]] w fun e w' => e = .returned (.tuple #[.agg #[.int .i64 n, .int .i64 (60)], .bool true]) ∧ w.grownBy w' none := by
  have e : kS n s = 60 := by rw [kS_not hf, if_neg (by omega)]
  have h := ibkeep_yes w n s ho hf
  rw [e] at h; exact h
theorem sbkeep_y4 (w : World) (n s : Int) (ho : Ok n s) (hf : ¬ Full n s) (h : n + 4 ≤ 60) : Calls Try.prog 26 #[.agg #[.int .i64 n, .int .i64 s]] w fun e w' => e = .returned (.tuple #[.agg #[.int .i64 n, .int .i64 (n + 4)], .bool true]) ∧ w.grownBy w' none := by
  have e : kS n s = n + 4 := by rw [kS_not hf, if_pos h]
  have h := sbkeep_yes w n s ho hf
  rw [e] at h; exact h
theorem sbkeep_y60 (w : World) (n s : Int) (ho : Ok n s) (hf : ¬ Full n s) (h : 60 < n + 4) : Calls Try.prog 26 #[.agg #[.int .i64 n, .int .i64 s]] w fun e w' => e = .returned (.tuple #[.agg #[.int .i64 n, .int .i64 (60)], .bool true]) ∧ w.grownBy w' none := by
  have e : kS n s = 60 := by rw [kS_not hf, if_neg (by omega)]
  have h := sbkeep_yes w n s ho hf
  rw [e] at h; exact h
set_option maxRecDepth 100000 in
set_option maxHeartbeats 4000000 in
theorem FnBookKeep (a : Option Addr) (len cap : Nat) (w : World) (hB : Draw.Bytes w w.heap.size a len) (hc : len ≤ cap) (hm : cap ≤ maxLen) :
    Calls Try.prog 4 #[.slice a len cap] w (Yes w) := by
  by_cases hbig : 1048576 < len
  · have hbig' : (1048576 : Int) < (len : Int) := by omega
    clear hB
    go_enter Try.func4, Try.ntmps4
    go_wp2
    go_ret
    exact ⟨rfl, Below.refl _ _⟩
  have hbig' : ¬ (1048576 : Int) < (len : Int) := by omega
  go_enter Try.func4, Try.ntmps4
  go_wp2_with fail
  refine (drawBkK _ a len cap hB hc hm).mono ?_
  rintro e w1 ⟨n, s, rfl, hg⟩
  have G := Lib.hid hg
  clear hg hB
  go_wp2_with (refine stop_store rfl ?_)
  refine ⟨trivial, ?_⟩
  refine wpList_store_blk rfl 24 (.tmp 3) (.tmp 13) _ _ _ 24 (Blk.new w1 #[.int .i64 0, .int .i64 0] 24) rfl rfl rfl rfl (by kernel_rfl) (by simp [Value.oneCell']) rfl ?_
  intro w2 hgV hT
  have hg : (w1).grownBy w2 none := grown_new (Draw.grown_alloc w1 (.cells #[.int .i64 0, .int .i64 0] 24) none) (Nat.le_refl _) hgV
  have B := Lib.hid (Bv.of hT)
  clear hgV hT
  replace G := Lib.hid (gtr G.out hg)
  clear hg
  generalize (w1).heap.size = bb at *
  by_cases ho : Ok n s
  case neg =>
    have HO := Lib.hid ho; clear ho
    obtain ⟨_, k0, k1⟩ := B.out
    go_wp2_with fail
    clear k0 k1
    refine (sbkeep_bad _ n s HO.out).mono ?_
    rintro e w3 ⟨rfl, hg⟩
    replace G := Lib.hid (gtr G.out hg)
    replace B := Lib.hid (B.out.kept hg)
    clear hg
    go_wp2_with (refine stop_store rfl ?_)
    refine ⟨trivial, ?_⟩
    refine wpList_store_blk rfl 24 (.tmp 4) (.tmp 17) _ _ _ 24 (Blk.new w3 #[.int .i64 0, .int .i64 0] 24) rfl rfl rfl rfl (by kernel_rfl) (by simp [Value.oneCell']) rfl ?_
    intro w4 hgV hT
    have hg : (w3).grownBy w4 none := grown_new (Draw.grown_alloc w3 (.cells #[.int .i64 0, .int .i64 0] 24) none) (Nat.le_refl _) hgV
    have M := Lib.hid (Bv.of hT)
    clear hgV hT
    replace G := Lib.hid (gtr G.out hg)
    replace B := Lib.hid (B.out.kept hg)
    clear hg
    generalize (w3).heap.size = mb at *
    obtain ⟨_, k0, k1⟩ := B.out
    go_wp2_with fail
    clear k0 k1
    refine (ibkeep_bad _ n s HO.out).mono ?_
    rintro e w5 ⟨rfl, hg⟩
    replace G := Lib.hid (gtr G.out hg)
    replace B := Lib.hid (B.out.kept hg)
    replace M := Lib.hid (M.out.kept hg)
    clear hg
    go_wp2_with (refine stop_store rfl ?_)
    refine ⟨trivial, ?_⟩
    refine wpList_store_blk rfl 24 (.tmp 6) (.tmp 22) _ _ _ 24 (Blk.new w5 #[.int .i64 0, .int .i64 0] 24) rfl rfl rfl rfl (by kernel_rfl) (by simp [Value.oneCell']) rfl ?_
    intro w6 hgV hT
    have hg : (w5).grownBy w6 none := grown_new (Draw.grown_alloc w5 (.cells #[.int .i64 0, .int .i64 0] 24) none) (Nat.le_refl _) hgV
    have X := Lib.hid (Bv.of hT)
    clear hgV hT
    replace G := Lib.hid (gtr G.out hg)
    replace B := Lib.hid (B.out.kept hg)
    replace M := Lib.hid (M.out.kept hg)
    clear hg
    generalize (w5).heap.size = xb at *
    obtain ⟨_, k0, k1⟩ := B.out
    obtain ⟨_, x0, x1⟩ := X.out
    obtain ⟨_, m0, m1⟩ := M.out
    go_wp2_with fail
    clear k0 k1
    clear x0 x1
    clear m0 m1
    refine (smok _ n s).mono ?_
    rintro e w7 ⟨rfl, hg⟩
    rw [bkB_f HO.out]
    replace G := Lib.hid (gtr G.out hg)
    replace B := Lib.hid (B.out.kept hg)
    replace M := Lib.hid (M.out.kept hg)
    replace X := Lib.hid (X.out.kept hg)
    clear hg
    obtain ⟨_, k0, k1⟩ := B.out
    obtain ⟨_, x0, x1⟩ := X.out
    obtain ⟨_, m0, m1⟩ := M.out
    go_wp2
    go_ret
    exact ⟨Mem.ret_b (by simp <;> omega), Draw.below_of G.out⟩
  have HO := Lib.hid ho
  by_cases hf : Full n s
  · have HF := Lib.hid hf
    obtain ⟨_, k0, k1⟩ := B.out
    go_wp2_with fail
    clear k0 k1
    refine (sbkeep_full _ n s HO.out HF.out).mono ?_
    rintro e w3 ⟨rfl, hg⟩
    replace G := Lib.hid (gtr G.out hg)
    replace B := Lib.hid (B.out.kept hg)
    clear hg
    go_wp2_with (refine stop_store rfl ?_)
    refine ⟨trivial, ?_⟩
    refine wpList_store_blk rfl 24 (.tmp 4) (.tmp 17) _ _ _ 24 (Blk.new w3 #[.int .i64 0, .int .i64 0] 24) rfl rfl rfl rfl (by kernel_rfl) (by simp [Value.oneCell']) rfl ?_
    intro w4 hgV hT
    have hg : (w3).grownBy w4 none := grown_new (Draw.grown_alloc w3 (.cells #[.int .i64 0, .int .i64 0] 24) none) (Nat.le_refl _) hgV
    have M := Lib.hid (Bv.of hT)
    clear hgV hT
    replace G := Lib.hid (gtr G.out hg)
    replace B := Lib.hid (B.out.kept hg)
    clear hg
    generalize (w3).heap.size = mb at *
    obtain ⟨_, k0, k1⟩ := B.out
    go_wp2_with fail
    clear k0 k1
    refine (ibkeep_full _ n s HO.out HF.out).mono ?_
    rintro e w5 ⟨rfl, hg⟩
    replace G := Lib.hid (gtr G.out hg)
    replace B := Lib.hid (B.out.kept hg)
    replace M := Lib.hid (M.out.kept hg)
    clear hg
    go_wp2_with (refine stop_store rfl ?_)
    refine ⟨trivial, ?_⟩
    refine wpList_store_blk rfl 24 (.tmp 6) (.tmp 22) _ _ _ 24 (Blk.new w5 #[.int .i64 0, .int .i64 0] 24) rfl rfl rfl rfl (by kernel_rfl) (by simp [Value.oneCell']) rfl ?_
    intro w6 hgV hT
    have hg : (w5).grownBy w6 none := grown_new (Draw.grown_alloc w5 (.cells #[.int .i64 0, .int .i64 0] 24) none) (Nat.le_refl _) hgV
    have X := Lib.hid (Bv.of hT)
    clear hgV hT
    replace G := Lib.hid (gtr G.out hg)
    replace B := Lib.hid (B.out.kept hg)
    replace M := Lib.hid (M.out.kept hg)
    clear hg
    generalize (w5).heap.size = xb at *
    obtain ⟨_, k0, k1⟩ := B.out
    obtain ⟨_, x0, x1⟩ := X.out
    obtain ⟨_, m0, m1⟩ := M.out
    go_wp2_with fail
    clear k0 k1
    clear x0 x1
    clear m0 m1
    refine (smok _ n s).mono ?_
    rintro e w7 ⟨rfl, hg⟩
    rw [bkB_t HO.out]
    replace G := Lib.hid (gtr G.out hg)
    replace B := Lib.hid (B.out.kept hg)
    replace M := Lib.hid (M.out.kept hg)
    replace X := Lib.hid (X.out.kept hg)
    clear hg
    obtain ⟨_, k0, k1⟩ := B.out
    obtain ⟨_, x0, x1⟩ := X.out
    obtain ⟨_, m0, m1⟩ := M.out
    unfold Ok at ho
    unfold Full at hf
    have hso : IntKind.i64.wrap (s - n) = s - n := IntWalk.i64_in _ (by omega)
    by_cases h60 : s = 60
    · subst h60
      have o1 : 0 ≤ n := by omega
      have o2 : n ≤ 60 := by omega
      clear ho hf hso
      go_wp2
      go_ret
      exact ⟨Mem.ret_b (by simp <;> omega), Draw.below_of G.out⟩
    · have e1 : (s == 60) = false := by simpa using h60
      have o1 : 0 ≤ n := by omega
      have o2 : n ≤ s := by omega
      have o3 : s ≤ 60 := by omega
      have o4 : 4 ≤ s - n := by omega
      clear ho hf h60 hso
      go_wp2
      go_ret
      exact ⟨Mem.ret_b (by simp <;> omega), Draw.below_of G.out⟩
  · have HF := Lib.hid hf
    unfold Ok at ho
    unfold Full at hf
    have o1 : 0 ≤ n := by omega
    have o2 : n ≤ s := by omega
    have o3 : s < 60 := by omega
    have o4 : s < n + 4 := by omega
    have o5 : ¬ 4 ≤ s - n := by omega
    have o6 : (s == 60) = false := by simp; omega
    have o7 : (n == n) = true := by simp
    clear ho hf
    by_cases h4 : n + 4 ≤ 60
    · have H4 := Lib.hid h4
      obtain ⟨_, k0, k1⟩ := B.out
      go_wp2_with fail
      clear k0 k1
      refine (sbkeep_y4 _ n s HO.out HF.out H4.out).mono ?_
      rintro e w3 ⟨rfl, hg⟩
      replace G := Lib.hid (gtr G.out hg)
      replace B := Lib.hid (B.out.kept hg)
      clear hg
      go_wp2_with (refine stop_store rfl ?_)
      refine ⟨trivial, ?_⟩
      refine wpList_store_blk rfl 24 (.tmp 4) (.tmp 17) _ _ _ 24 (Blk.new w3 #[.int .i64 0, .int .i64 0] 24) rfl rfl rfl rfl (by kernel_rfl) (by simp [Value.oneCell']) rfl ?_
      intro w4 hgV hT
      have hg : (w3).grownBy w4 none := grown_new (Draw.grown_alloc w3 (.cells #[.int .i64 0, .int .i64 0] 24) none) (Nat.le_refl _) hgV
      have M := Lib.hid (Bv.of hT)
      clear hgV hT
      replace G := Lib.hid (gtr G.out hg)
      replace B := Lib.hid (B.out.kept hg)
      clear hg
      generalize (w3).heap.size = mb at *
      obtain ⟨_, k0, k1⟩ := B.out
      go_wp2_with fail
      clear k0 k1
      refine (ibkeep_y4 _ n s HO.out HF.out H4.out).mono ?_
      rintro e w5 ⟨rfl, hg⟩
      replace G := Lib.hid (gtr G.out hg)
      replace B := Lib.hid (B.out.kept hg)
      replace M := Lib.hid (M.out.kept hg)
      clear hg
      go_wp2_with (refine stop_store rfl ?_)
      refine ⟨trivial, ?_⟩
      refine wpList_store_blk rfl 24 (.tmp 6) (.tmp 22) _ _ _ 24 (Blk.new w5 #[.int .i64 0, .int .i64 0] 24) rfl rfl rfl rfl (by kernel_rfl) (by simp [Value.oneCell']) rfl ?_
      intro w6 hgV hT
      have hg : (w5).grownBy w6 none := grown_new (Draw.grown_alloc w5 (.cells #[.int .i64 0, .int .i64 0] 24) none) (Nat.le_refl _) hgV
      have X := Lib.hid (Bv.of hT)
      clear hgV hT
      replace G := Lib.hid (gtr G.out hg)
      replace B := Lib.hid (B.out.kept hg)
      replace M := Lib.hid (M.out.kept hg)
      clear hg
      generalize (w5).heap.size = xb at *
      obtain ⟨_, k0, k1⟩ := B.out
      obtain ⟨_, x0, x1⟩ := X.out
      obtain ⟨_, m0, m1⟩ := M.out
      go_wp2_with fail
      clear k0 k1
      clear x0 x1
      clear m0 m1
      refine (smok _ n s).mono ?_
      rintro e w7 ⟨rfl, hg⟩
      rw [bkB_t HO.out]
      replace G := Lib.hid (gtr G.out hg)
      replace B := Lib.hid (B.out.kept hg)
      replace M := Lib.hid (M.out.kept hg)
      replace X := Lib.hid (X.out.kept hg)
      clear hg
      obtain ⟨_, k0, k1⟩ := B.out
      obtain ⟨_, x0, x1⟩ := X.out
      obtain ⟨_, m0, m1⟩ := M.out
      have HK := Lib.hid (show Ok n (n + 4) by unfold Ok; omega)
      have e1 : (n + 4 == n + 4) = true := by simp
      go_wp2_with fail
      refine (ibok _ n (n + 4)).mono ?_
      rintro e w8 ⟨rfl, hg⟩
      rw [bkB_t HK.out]
      clear k0 k1
      clear x0 x1
      clear m0 m1
      replace G := Lib.hid (gtr G.out hg)
      replace B := Lib.hid (B.out.kept hg)
      replace M := Lib.hid (M.out.kept hg)
      replace X := Lib.hid (X.out.kept hg)
      clear hg
      obtain ⟨_, k0, k1⟩ := B.out
      obtain ⟨_, x0, x1⟩ := X.out
      obtain ⟨_, m0, m1⟩ := M.out
      go_wp2
      go_ret
      exact ⟨Mem.ret_b (by simp <;> omega), Draw.below_of G.out⟩
    · have h5 : 60 < n + 4 := by omega
      have H4 := Lib.hid h5
      clear h4
      obtain ⟨_, k0, k1⟩ := B.out
      go_wp2_with fail
      clear k0 k1
      refine (sbkeep_y60 _ n s HO.out HF.out H4.out).mono ?_
      rintro e w3 ⟨rfl, hg⟩
      replace G := Lib.hid (gtr G.out hg)
      replace B := Lib.hid (B.out.kept hg)
      clear hg
      go_wp2_with (refine stop_store rfl ?_)
      refine ⟨trivial, ?_⟩
      refine wpList_store_blk rfl 24 (.tmp 4) (.tmp 17) _ _ _ 24 (Blk.new w3 #[.int .i64 0, .int .i64 0] 24) rfl rfl rfl rfl (by kernel_rfl) (by simp [Value.oneCell']) rfl ?_
      intro w4 hgV hT
      have hg : (w3).grownBy w4 none := grown_new (Draw.grown_alloc w3 (.cells #[.int .i64 0, .int .i64 0] 24) none) (Nat.le_refl _) hgV
      have M := Lib.hid (Bv.of hT)
      clear hgV hT
      replace G := Lib.hid (gtr G.out hg)
      replace B := Lib.hid (B.out.kept hg)
      clear hg
      generalize (w3).heap.size = mb at *
      obtain ⟨_, k0, k1⟩ := B.out
      go_wp2_with fail
      clear k0 k1
      refine (ibkeep_y60 _ n s HO.out HF.out H4.out).mono ?_
      rintro e w5 ⟨rfl, hg⟩
      replace G := Lib.hid (gtr G.out hg)
      replace B := Lib.hid (B.out.kept hg)
      replace M := Lib.hid (M.out.kept hg)
      clear hg
      go_wp2_with (refine stop_store rfl ?_)
      refine ⟨trivial, ?_⟩
      refine wpList_store_blk rfl 24 (.tmp 6) (.tmp 22) _ _ _ 24 (Blk.new w5 #[.int .i64 0, .int .i64 0] 24) rfl rfl rfl rfl (by kernel_rfl) (by simp [Value.oneCell']) rfl ?_
      intro w6 hgV hT
      have hg : (w5).grownBy w6 none := grown_new (Draw.grown_alloc w5 (.cells #[.int .i64 0, .int .i64 0] 24) none) (Nat.le_refl _) hgV
      have X := Lib.hid (Bv.of hT)
      clear hgV hT
      replace G := Lib.hid (gtr G.out hg)
      replace B := Lib.hid (B.out.kept hg)
      replace M := Lib.hid (M.out.kept hg)
      clear hg
      generalize (w5).heap.size = xb at *
      obtain ⟨_, k0, k1⟩ := B.out
      obtain ⟨_, x0, x1⟩ := X.out
      obtain ⟨_, m0, m1⟩ := M.out
      go_wp2_with fail
      clear k0 k1
      clear x0 x1
      clear m0 m1
      refine (smok _ n s).mono ?_
      rintro e w7 ⟨rfl, hg⟩
      rw [bkB_t HO.out]
      replace G := Lib.hid (gtr G.out hg)
      replace B := Lib.hid (B.out.kept hg)
      replace M := Lib.hid (M.out.kept hg)
      replace X := Lib.hid (X.out.kept hg)
      clear hg
      obtain ⟨_, k0, k1⟩ := B.out
      obtain ⟨_, x0, x1⟩ := X.out
      obtain ⟨_, m0, m1⟩ := M.out
      have HK := Lib.hid (show Ok n 60 by unfold Ok; omega)
      have e1 : (60 == n + 4) = false := by simp; omega
      go_wp2_with fail
      refine (ibok _ n 60).mono ?_
      rintro e w8 ⟨rfl, hg⟩
      rw [bkB_t HK.out]
      clear k0 k1
      clear x0 x1
      clear m0 m1
      replace G := Lib.hid (gtr G.out hg)
      replace B := Lib.hid (B.out.kept hg)
      replace M := Lib.hid (M.out.kept hg)
      replace X := Lib.hid (X.out.kept hg)
      clear hg
      obtain ⟨_, k0, k1⟩ := B.out
      obtain ⟨_, x0, x1⟩ := X.out
      obtain ⟨_, m0, m1⟩ := M.out
      go_wp2
      go_ret
      exact ⟨Mem.ret_b (by simp <;> omega), Draw.below_of G.out⟩
set_option maxRecDepth 100000 in
set_option maxHeartbeats 4000000 in
theorem FnBookForm (a : Option Addr) (len cap : Nat) (w : World) (hB : Draw.Bytes w w.heap.size a len) (hc : len ≤ cap) (hm : cap ≤ maxLen) :
    Calls Try.prog 8 #[.slice a len cap] w (Yes w) := by
  by_cases hbig : 1048576 < len
  · have hbig' : (1048576 : Int) < (len : Int) := by omega
    clear hB
    go_enter Try.func8, Try.ntmps8
    go_wp2
    go_ret
    exact ⟨rfl, Below.refl _ _⟩
  have hbig' : ¬ (1048576 : Int) < (len : Int) := by omega
  go_enter Try.func8, Try.ntmps8
  go_wp2_with fail
  refine (drawBkO _ a len cap hB hc hm).mono ?_
  rintro e w1 ⟨n, s, rfl, hg⟩
  have G := Lib.hid hg
  clear hg hB
  go_wp2_with (refine stop_store rfl ?_)
  refine ⟨trivial, ?_⟩
  refine wpList_store_blk rfl 24 (.tmp 3) (.tmp 9) _ _ _ 24 (Blk.new w1 #[.int .i64 0, .int .i64 0] 24) rfl rfl rfl rfl (by kernel_rfl) (by simp [Value.oneCell']) rfl ?_
  intro w2 hgV hT
  have hg : (w1).grownBy w2 none := grown_new (Draw.grown_alloc w1 (.cells #[.int .i64 0, .int .i64 0] 24) none) (Nat.le_refl _) hgV
  have B := Lib.hid (Bv.of hT)
  clear hgV hT
  replace G := Lib.hid (gtr G.out hg)
  clear hg
  generalize (w1).heap.size = bb at *
  obtain ⟨_, k0, k1⟩ := B.out
  go_wp2_with fail
  clear k0 k1
  refine (ibok _ n s).mono ?_
  rintro e w3 ⟨rfl, hg⟩
  replace G := Lib.hid (gtr G.out hg)
  replace B := Lib.hid (B.out.kept hg)
  clear hg
  obtain ⟨_, k0, k1⟩ := B.out
  go_wp2_with fail
  clear k0 k1
  refine (smok _ n s).mono ?_
  rintro e w4 ⟨rfl, hg⟩
  replace G := Lib.hid (gtr G.out hg)
  replace B := Lib.hid (B.out.kept hg)
  clear hg
  obtain ⟨_, k0, k1⟩ := B.out
  have hself : (bkB n s != bkB n s) = false := by simp
  by_cases ho : Ok n s
  · have HO := Lib.hid ho
    obtain ⟨o1, o2, o3⟩ := ho
    go_wp2
    go_ret
    exact ⟨Mem.ret_b (by rw [bkB_t HO.out]; all_goals (simp <;> omega)), Draw.below_of G.out⟩
  · have HO := Lib.hid ho
    have ho' : n < 0 ∨ (0 ≤ n ∧ s < n) ∨ (0 ≤ n ∧ n ≤ s ∧ 60 < s) := by unfold Ok at ho; omega
    clear ho
    rcases ho' with h1 | ⟨h1, h2⟩ | ⟨h1, h2, h3⟩
    all_goals
      go_wp2
      go_ret
      exact ⟨Mem.ret_b (by rw [bkB_f HO.out]; all_goals (simp <;> omega)), Draw.below_of G.out⟩
end Run
end Go.Proofs.Yteibklnonlapoaa
