/-
  Books: the model's functions.
-/
import Derived.Test.YteibklnonlapoaaBb
import Derived.Test.YteibklnonlapoaaTi
import Derived.Deep.RegionHeld3
namespace Go.Proofs.Yteibklnonlapoaa
namespace Con
open Go.RowKit Alg Mem Draw Bk
set_option linter.unusedVariables false

set_option maxHeartbeats 1000000 in
theorem smok (w : World) (n s : Int) : Calls Try.prog 23 #[.agg #[.int .i64 n, .int .i64 s]] w fun e w' => e = .returned (.bool (bkB n s)) ∧ w.grownBy w' none := by
  have B := Lib.hid (Blk.new w #[.int .i64 n, .int .i64 s] 24)
  by_cases ho : Ok n s
  · rw [bkB_t ho]
    obtain ⟨o1, o2, o3⟩ := ho
    go_enter Try.func23, Try.ntmps23
    go_wp2
    go_ret
    exact ⟨rfl, Draw.grown_alloc _ _ _⟩
  · rw [bkB_f ho]
    have ho' : n < 0 ∨ (0 ≤ n ∧ s < n) ∨ (0 ≤ n ∧ n ≤ s ∧ 60 < s) := by unfold Ok at ho; omega
    clear ho
    rcases ho' with h1 | ⟨h1, h2⟩ | ⟨h1, h2, h3⟩
    all_goals
      go_enter Try.func23, Try.ntmps23
      go_wp2
      go_ret
      first
      | exact ⟨rfl, Draw.grown_alloc _ _ _⟩
      | exact ⟨ret_b (decide_eq_false (by omega)), Draw.grown_alloc _ _ _⟩
      | fail
set_option maxHeartbeats 1000000 in
theorem skeep_full (w : World) (n s : Int) (ho : Ok n s) (hf : Full n s) : Calls Try.prog 64 #[.agg #[.int .i64 n, .int .i64 s]] w fun e w' => e = .returned (.tuple #[.agg #[.int .i64 n, .int .i64 s], .bool false]) ∧ w.grownBy w' none := by
  unfold Ok Full at *
  obtain ⟨o1, o2, o3⟩ := ho
  have G := Lib.hid (gtr (Draw.grown_alloc w (.cells #[.int .i64 n, .int .i64 s] 24) none) (Draw.grown_alloc _ (.cells #[.int .i64 0, .int .i64 0] 24) none))
  have P := Lib.hid ((Blk.new w #[.int .i64 n, .int .i64 s] 24).keptN (Draw.grown_alloc _ (.cells #[.int .i64 0, .int .i64 0] 24) none))
  have R := Lib.hid (blk_new2 w (.cells #[.int .i64 n, .int .i64 s] 24) #[.int .i64 0, .int .i64 0] 24)
  by_cases h4 : n + 4 ≤ s
  · go_enter Try.func64, Try.ntmps64
    go_wp2_with (first
      | (refine wpList_store_blk rfl 24 (.tmp 2) (.tmp 15) _ _ _ 24 R.out rfl rfl rfl rfl (by kernel_rfl) (by simp [Value.oneCell']) rfl ?_; intro V hgV hRV; have HGV := Lib.hid hgV; have HRV := Lib.hid hRV; clear hgV hRV))
    try simp only [Exit.inBlock, Exit.then]
    refine bodyPost_ret (ret_bkb rfl _ rfl HRV.out) rfl ?_
    exact ⟨rfl, grown_new G.out (by omega) HGV.out⟩
  · have h5 : 60 ≤ s := by omega
    go_enter Try.func64, Try.ntmps64
    go_wp2_with (first
      | (refine wpList_store_blk rfl 24 (.tmp 2) (.tmp 15) _ _ _ 24 R.out rfl rfl rfl rfl (by kernel_rfl) (by simp [Value.oneCell']) rfl ?_; intro V hgV hRV; have HGV := Lib.hid hgV; have HRV := Lib.hid hRV; clear hgV hRV))
    try simp only [Exit.inBlock, Exit.then]
    refine bodyPost_ret (ret_bkb rfl _ rfl HRV.out) rfl ?_
    exact ⟨rfl, grown_new G.out (by omega) HGV.out⟩
set_option maxHeartbeats 1000000 in
theorem skeep_yes (w : World) (n s : Int) (ho : Ok n s) (hf : ¬ Full n s) : Calls Try.prog 64 #[.agg #[.int .i64 n, .int .i64 s]] w fun e w' => e = .returned (.tuple #[.agg #[.int .i64 n, .int .i64 (kS n s)], .bool true]) ∧ w.grownBy w' none := by
  rw [kS_not hf]
  unfold Ok Full at *
  obtain ⟨o1, o2, o3⟩ := ho
  have hf1 : s < n + 4 := by omega
  have hf2 : s < 60 := by omega
  clear hf
  have G := Lib.hid (gtr (Draw.grown_alloc w (.cells #[.int .i64 n, .int .i64 s] 24) none) (Draw.grown_alloc _ (.cells #[.int .i64 0, .int .i64 0] 24) none))
  have P := Lib.hid ((Blk.new w #[.int .i64 n, .int .i64 s] 24).keptN (Draw.grown_alloc _ (.cells #[.int .i64 0, .int .i64 0] 24) none))
  have R := Lib.hid (blk_new2 w (.cells #[.int .i64 n, .int .i64 s] 24) #[.int .i64 0, .int .i64 0] 24)
  by_cases h4 : n + 4 ≤ 60
  · rw [if_pos h4]
    go_enter Try.func64, Try.ntmps64
    go_wp2_with (first
      | (refine wpList_store_blk rfl 24 (.tmp 2) (.tmp 22) _ _ _ 24 R.out rfl rfl rfl rfl (by kernel_rfl) (by simp [Value.oneCell']) rfl ?_; intro V hgV hRV; have HGV := Lib.hid hgV; have HRV := Lib.hid hRV; clear hgV hRV))
    try simp only [Exit.inBlock, Exit.then]
    refine bodyPost_ret (ret_bkb rfl _ rfl HRV.out) rfl ?_
    exact ⟨rfl, grown_new G.out (by omega) HGV.out⟩
  · rw [if_neg h4]
    have e3 : 60 < n + 4 := by omega
    clear h4
    go_enter Try.func64, Try.ntmps64
    go_wp2_with (first
      | (refine wpList_store_blk rfl 24 (.tmp 2) (.tmp 22) _ _ _ 24 R.out rfl rfl rfl rfl (by kernel_rfl) (by simp [Value.oneCell']) rfl ?_; intro V hgV hRV; have HGV := Lib.hid hgV; have HRV := Lib.hid hRV; clear hgV hRV))
    try simp only [Exit.inBlock, Exit.then]
    refine bodyPost_ret (ret_bkb rfl _ rfl HRV.out) rfl ?_
    exact ⟨rfl, grown_new G.out (by omega) HGV.out⟩
set_option maxHeartbeats 1000000 in
theorem sbkeep_bad (w : World) (n s : Int) (ho : ¬ Ok n s) : Calls Try.prog 26 #[.agg #[.int .i64 n, .int .i64 s]] w fun e w' => e = .returned (.tuple #[.agg #[.int .i64 0, .int .i64 0], .bool false]) ∧ w.grownBy w' none := by
  have HO := Lib.hid ho; clear ho
  have G := Lib.hid (gtr (Draw.grown_alloc w (.cells #[.int .i64 n, .int .i64 s] 24) none) (Draw.grown_alloc _ (.cells #[.int .i64 0, .int .i64 0] 24) none))
  have P := Lib.hid ((Blk.new w #[.int .i64 n, .int .i64 s] 24).keptN (Draw.grown_alloc _ (.cells #[.int .i64 0, .int .i64 0] 24) none))
  have R := Lib.hid (blk_new2 w (.cells #[.int .i64 n, .int .i64 s] 24) #[.int .i64 0, .int .i64 0] 24)
  go_enter Try.func26, Try.ntmps26
  go_wp2_with fail
  refine (smok _ n s).mono ?_
  rintro e w1 ⟨rfl, hg⟩
  replace G := Lib.hid (gtr G.out hg)
  replace R := Lib.hid (R.out.keptN hg)
  replace P := Lib.hid (P.out.keptN hg)
  clear hg
  have p0 : w1.cell? ⟨w.heap.size, 0, none⟩ = some (.int .i64 n) := P.out.cell 0
  have p1 : w1.cell? ⟨w.heap.size, 1, none⟩ = some (.int .i64 s) := P.out.cell 1
  rw [bkB_f HO.out]
  go_wp2_with (first
    | (refine wpList_store_blk rfl 24 (.tmp 2) (.tmp 7) _ _ _ 24 R.out rfl rfl rfl rfl (by kernel_rfl) (by simp [Value.oneCell']) rfl ?_; intro V hgV hRV; have HGV := Lib.hid hgV; have HRV := Lib.hid hRV; clear hgV hRV))
  try simp only [Exit.inBlock, Exit.then]
  refine bodyPost_ret (ret_bkb rfl _ rfl HRV.out) rfl ?_
  exact ⟨rfl, grown_new G.out (by omega) HGV.out⟩
set_option maxHeartbeats 1000000 in
theorem sbkeep_full (w : World) (n s : Int) (ho : Ok n s) (hf : Full n s) : Calls Try.prog 26 #[.agg #[.int .i64 n, .int .i64 s]] w fun e w' => e = .returned (.tuple #[.agg #[.int .i64 n, .int .i64 s], .bool false]) ∧ w.grownBy w' none := by
  have HO := Lib.hid ho; have HF := Lib.hid hf; clear ho hf
  have G := Lib.hid (gtr (Draw.grown_alloc w (.cells #[.int .i64 n, .int .i64 s] 24) none) (Draw.grown_alloc _ (.cells #[.int .i64 0, .int .i64 0] 24) none))
  have P := Lib.hid ((Blk.new w #[.int .i64 n, .int .i64 s] 24).keptN (Draw.grown_alloc _ (.cells #[.int .i64 0, .int .i64 0] 24) none))
  have R := Lib.hid (blk_new2 w (.cells #[.int .i64 n, .int .i64 s] 24) #[.int .i64 0, .int .i64 0] 24)
  go_enter Try.func26, Try.ntmps26
  go_wp2_with fail
  refine (smok _ n s).mono ?_
  rintro e w1 ⟨rfl, hg⟩
  replace G := Lib.hid (gtr G.out hg)
  replace R := Lib.hid (R.out.keptN hg)
  replace P := Lib.hid (P.out.keptN hg)
  clear hg
  have p0 : w1.cell? ⟨w.heap.size, 0, none⟩ = some (.int .i64 n) := P.out.cell 0
  have p1 : w1.cell? ⟨w.heap.size, 1, none⟩ = some (.int .i64 s) := P.out.cell 1
  rw [bkB_t HO.out]
  go_wp2_with fail
  refine (skeep_full _ n s HO.out HF.out).mono ?_
  rintro e w2 ⟨rfl, hg⟩
  replace G := Lib.hid (gtr G.out hg)
  replace R := Lib.hid (R.out.keptN hg)
  replace P := Lib.hid (P.out.keptN hg)
  clear hg
  go_wp2_with (first
    | (refine wpList_store_blk rfl 24 (.tmp 2) (.tmp 10) _ _ _ 24 R.out rfl rfl rfl rfl (by kernel_rfl) (by simp [Value.oneCell']) rfl ?_; intro V hgV hRV; have HGV := Lib.hid hgV; have HRV := Lib.hid hRV; clear hgV hRV))
  try simp only [Exit.inBlock, Exit.then]
  refine bodyPost_ret (ret_bkb rfl _ rfl HRV.out) rfl ?_
  exact ⟨rfl, grown_new G.out (by omega) HGV.out⟩
set_option maxHeartbeats 1000000 in
theorem sbkeep_yes (w : World) (n s : Int) (ho : Ok n s) (hf : ¬ Full n s) : Calls Try.prog 26 #[.agg #[.int .i64 n, .int .i64 s]] w fun e w' => e = .returned (.tuple #[.agg #[.int .i64 n, .int .i64 (kS n s)], .bool true]) ∧ w.grownBy w' none := by
  have HO := Lib.hid ho; have HF := Lib.hid hf; clear ho hf
  have G := Lib.hid (gtr (Draw.grown_alloc w (.cells #[.int .i64 n, .int .i64 s] 24) none) (Draw.grown_alloc _ (.cells #[.int .i64 0, .int .i64 0] 24) none))
  have P := Lib.hid ((Blk.new w #[.int .i64 n, .int .i64 s] 24).keptN (Draw.grown_alloc _ (.cells #[.int .i64 0, .int .i64 0] 24) none))
  have R := Lib.hid (blk_new2 w (.cells #[.int .i64 n, .int .i64 s] 24) #[.int .i64 0, .int .i64 0] 24)
  go_enter Try.func26, Try.ntmps26
  go_wp2_with fail
  refine (smok _ n s).mono ?_
  rintro e w1 ⟨rfl, hg⟩
  replace G := Lib.hid (gtr G.out hg)
  replace R := Lib.hid (R.out.keptN hg)
  replace P := Lib.hid (P.out.keptN hg)
  clear hg
  have p0 : w1.cell? ⟨w.heap.size, 0, none⟩ = some (.int .i64 n) := P.out.cell 0
  have p1 : w1.cell? ⟨w.heap.size, 1, none⟩ = some (.int .i64 s) := P.out.cell 1
  rw [bkB_t HO.out]
  go_wp2_with fail
  refine (skeep_yes _ n s HO.out HF.out).mono ?_
  rintro e w2 ⟨rfl, hg⟩
  replace G := Lib.hid (gtr G.out hg)
  replace R := Lib.hid (R.out.keptN hg)
  replace P := Lib.hid (P.out.keptN hg)
  clear hg
  go_wp2_with (first
    | (refine wpList_store_blk rfl 24 (.tmp 2) (.tmp 10) _ _ _ 24 R.out rfl rfl rfl rfl (by kernel_rfl) (by simp [Value.oneCell']) rfl ?_; intro V hgV hRV; have HGV := Lib.hid hgV; have HRV := Lib.hid hRV; clear hgV hRV))
  try simp only [Exit.inBlock, Exit.then]
  refine bodyPost_ret (ret_bkb rfl _ rfl HRV.out) rfl ?_
  exact ⟨rfl, grown_new G.out (by omega) HGV.out⟩
set_option maxHeartbeats 1000000 in
theorem sbfall_no (w : World) (n s : Int) (ho : ¬ Ok n s) : Calls Try.prog 30 #[.agg #[.int .i64 n, .int .i64 s]] w fun e w' => e = .returned (.agg #[.int .i64 0, .int .i64 0]) ∧ w.grownBy w' none := by
  have HO := Lib.hid ho; clear ho
  have G := Lib.hid (gtr (Draw.grown_alloc w (.cells #[.int .i64 n, .int .i64 s] 24) none) (Draw.grown_alloc _ (.cells #[.int .i64 0, .int .i64 0] 24) none))
  have P := Lib.hid ((Blk.new w #[.int .i64 n, .int .i64 s] 24).keptN (Draw.grown_alloc _ (.cells #[.int .i64 0, .int .i64 0] 24) none))
  have R := Lib.hid (blk_new2 w (.cells #[.int .i64 n, .int .i64 s] 24) #[.int .i64 0, .int .i64 0] 24)
  go_enter Try.func30, Try.ntmps30
  go_wp2_with fail
  refine (smok _ n s).mono ?_
  rintro e w1 ⟨rfl, hg⟩
  replace G := Lib.hid (gtr G.out hg)
  replace R := Lib.hid (R.out.keptN hg)
  replace P := Lib.hid (P.out.keptN hg)
  clear hg
  have p0 : w1.cell? ⟨w.heap.size, 0, none⟩ = some (.int .i64 n) := P.out.cell 0
  have p1 : w1.cell? ⟨w.heap.size, 1, none⟩ = some (.int .i64 s) := P.out.cell 1
  rw [bkB_f HO.out]
  go_wp2_with (first
    | (refine wpList_store_blk rfl 24 (.tmp 2) (.tmp 6) _ _ _ 24 R.out rfl rfl rfl rfl (by kernel_rfl) (by simp [Value.oneCell']) rfl ?_; intro V hgV hRV; have HGV := Lib.hid hgV; have HRV := Lib.hid hRV; clear hgV hRV))
  try simp only [Exit.inBlock, Exit.then]
  refine bodyPost_ret (ret_bk rfl _ rfl HRV.out) rfl ?_
  exact ⟨rfl, grown_new G.out (by omega) HGV.out⟩
set_option maxHeartbeats 1000000 in
theorem sbfall_yes (w : World) (n s : Int) (ho : Ok n s) : Calls Try.prog 30 #[.agg #[.int .i64 n, .int .i64 s]] w fun e w' => e = .returned (.agg #[.int .i64 s, .int .i64 s]) ∧ w.grownBy w' none := by
  have HO := Lib.hid ho; clear ho
  have G := Lib.hid (gtr (Draw.grown_alloc w (.cells #[.int .i64 n, .int .i64 s] 24) none) (Draw.grown_alloc _ (.cells #[.int .i64 0, .int .i64 0] 24) none))
  have P := Lib.hid ((Blk.new w #[.int .i64 n, .int .i64 s] 24).keptN (Draw.grown_alloc _ (.cells #[.int .i64 0, .int .i64 0] 24) none))
  have R := Lib.hid (blk_new2 w (.cells #[.int .i64 n, .int .i64 s] 24) #[.int .i64 0, .int .i64 0] 24)
  go_enter Try.func30, Try.ntmps30
  go_wp2_with fail
  refine (smok _ n s).mono ?_
  rintro e w1 ⟨rfl, hg⟩
  replace G := Lib.hid (gtr G.out hg)
  replace R := Lib.hid (R.out.keptN hg)
  replace P := Lib.hid (P.out.keptN hg)
  clear hg
  have p0 : w1.cell? ⟨w.heap.size, 0, none⟩ = some (.int .i64 n) := P.out.cell 0
  have p1 : w1.cell? ⟨w.heap.size, 1, none⟩ = some (.int .i64 s) := P.out.cell 1
  rw [bkB_t HO.out]
  go_wp2_with (first
    | (refine wpList_store_blk rfl 24 (.tmp 2) (.tmp 11) _ _ _ 24 R.out rfl rfl rfl rfl (by kernel_rfl) (by simp [Value.oneCell']) rfl ?_; intro V hgV hRV; have HGV := Lib.hid hgV; have HRV := Lib.hid hRV; clear hgV hRV))
  try simp only [Exit.inBlock, Exit.then]
  refine bodyPost_ret (ret_bk rfl _ rfl HRV.out) rfl ?_
  exact ⟨rfl, grown_new G.out (by omega) HGV.out⟩
set_option maxRecDepth 100000 in
set_option maxHeartbeats 1000000 in
theorem sbtake_bad (w : World) (n s : Int) (ho : ¬ Ok n s) : Calls Try.prog 21 #[.agg #[.int .i64 n, .int .i64 s]] w fun e w' => e = .returned (.tuple #[.int .i64 0, .agg #[.int .i64 0, .int .i64 0], .bool false]) ∧ w.grownBy w' none := by
  have HO := Lib.hid ho; clear ho
  have G := Lib.hid (gtr (Draw.grown_alloc w (.cells #[.int .i64 n, .int .i64 s] 24) none) (Draw.grown_alloc _ (.cells #[.int .i64 0, .int .i64 0] 24) none))
  have P := Lib.hid ((Blk.new w #[.int .i64 n, .int .i64 s] 24).keptN (Draw.grown_alloc _ (.cells #[.int .i64 0, .int .i64 0] 24) none))
  have R := Lib.hid (blk_new2 w (.cells #[.int .i64 n, .int .i64 s] 24) #[.int .i64 0, .int .i64 0] 24)
  go_enter Try.func21, Try.ntmps21
  go_wp2_with fail
  refine (smok _ n s).mono ?_
  rintro e w1 ⟨rfl, hg⟩
  replace G := Lib.hid (gtr G.out hg)
  replace R := Lib.hid (R.out.keptN hg)
  replace P := Lib.hid (P.out.keptN hg)
  clear hg
  have p0 : w1.cell? ⟨w.heap.size, 0, none⟩ = some (.int .i64 n) := P.out.cell 0
  have p1 : w1.cell? ⟨w.heap.size, 1, none⟩ = some (.int .i64 s) := P.out.cell 1
  rw [bkB_f HO.out]
  go_wp2_with (first
    | (refine wpList_store_blk rfl 24 (.tmp 3) (.tmp 8) _ _ _ 24 R.out rfl rfl rfl rfl (by kernel_rfl) (by simp [Value.oneCell']) rfl ?_; intro V hgV hRV; have HGV := Lib.hid hgV; have HRV := Lib.hid hRV; clear hgV hRV))
  try simp only [Exit.inBlock, Exit.then]
  refine bodyPost_ret (ret_nbb rfl _ rfl HRV.out) rfl ?_
  exact ⟨rfl, grown_new G.out (by omega) HGV.out⟩
set_option maxRecDepth 100000 in
set_option maxHeartbeats 1000000 in
theorem sbtake_no (w : World) (n s : Int) (ho : Ok n s) (hf : n = s) : Calls Try.prog 21 #[.agg #[.int .i64 n, .int .i64 s]] w fun e w' => e = .returned (.tuple #[.int .i64 0, .agg #[.int .i64 n, .int .i64 s], .bool false]) ∧ w.grownBy w' none := by
  have HO := Lib.hid ho; clear ho
  subst hf
  have P := Lib.hid (Blk.new w #[.int .i64 n, .int .i64 n] 24)
  clear P
  have G := Lib.hid (gtr (Draw.grown_alloc w (.cells #[.int .i64 n, .int .i64 n] 24) none) (Draw.grown_alloc _ (.cells #[.int .i64 0, .int .i64 0] 24) none))
  have P := Lib.hid ((Blk.new w #[.int .i64 n, .int .i64 n] 24).keptN (Draw.grown_alloc _ (.cells #[.int .i64 0, .int .i64 0] 24) none))
  have R := Lib.hid (blk_new2 w (.cells #[.int .i64 n, .int .i64 n] 24) #[.int .i64 0, .int .i64 0] 24)
  go_enter Try.func21, Try.ntmps21
  go_wp2_with fail
  refine (smok _ n n).mono ?_
  rintro e w1 ⟨rfl, hg⟩
  replace G := Lib.hid (gtr G.out hg)
  replace R := Lib.hid (R.out.keptN hg)
  replace P := Lib.hid (P.out.keptN hg)
  clear hg
  have p0 : w1.cell? ⟨w.heap.size, 0, none⟩ = some (.int .i64 n) := P.out.cell 0
  have p1 : w1.cell? ⟨w.heap.size, 1, none⟩ = some (.int .i64 n) := P.out.cell 1
  rw [bkB_t HO.out]
  go_wp2_with fail
  refine wp_region_held_drew (S := (fun w' => w'.cell? ⟨w.heap.size, 0, none⟩ = some (.int .i64 n) ∧ w'.cell? ⟨w.heap.size, 1, none⟩ = some (.int .i64 n))) (by kernel_rfl) (⟨P.out.cell 0, P.out.cell 1⟩) (fun hHeld => ?_)
  have hg := Draw.gdrew w1
  replace G := Lib.hid (gtr G.out hg)
  replace R := Lib.hid (R.out.keptN hg)
  replace P := Lib.hid (P.out.keptN hg)
  clear hg
  clear p0 p1
  generalize w1.drew = w2 at *
  refine wpAnyH_take (i := 0) (oi := ⟨some 14, _, _, _, _, _⟩) (v := ?_) rfl (by kernel_rfl) (by kernel_rfl) (by kernel_rfl) (fun _ _ _ h => h) (Or.inl ⟨by rfl, ?_⟩) (by assumption) ?_
  rotate_left
  · intro w hSw; (try dsimp only at hSw); go_simp; try with_reducible rfl
  simp only [Act.put, List.setIfInBounds_toArray, List.set_cons_zero, List.set_cons_succ]
  refine wpAnyH_take (i := 1) (oi := ⟨some 2, _, _, _, _, _⟩) (v := ?_) rfl (by kernel_rfl) (by kernel_rfl) (by kernel_rfl) (fun _ _ _ h => h) (Or.inl ⟨by rfl, ?_⟩) (by assumption) ?_
  rotate_left
  · intro w hSw; (try dsimp only at hSw); go_simp; try with_reducible rfl
  simp only [Act.put, List.setIfInBounds_toArray, List.set_cons_zero, List.set_cons_succ]
  refine wpAnyH_ready (rs := [2]) (by kernel_rfl) (by simp) ?_
  refine AllReadyH.cons (o := ⟨none, _, _, _, _, _⟩) rfl (fun Kq hKq => ?_) AllReadyH.nil
  skip
  refine wp_store_blk 24 (.tmp 3) (.tmp 14) _ _ _ 24 R.out rfl rfl rfl rfl (by kernel_rfl) (by simp [Value.oneCell']) rfl ?_
  intro V hg hT
  replace R := Lib.hid hT
  replace G := Lib.hid (grown_new G.out (by omega) hg)
  replace P := Lib.hid (P.out.kept hg (by intro e; have e := Option.some.inj e; omega))
  clear hg
  clear hT
  refine hKq.out _ _ (⟨P.out.cell 0, P.out.cell 1⟩) (fun hHeld => ?_)
  clear hKq Kq
  refine wpAnyH_take (i := 3) (oi := ⟨some 4, _, _, _, _, _⟩) (v := ?_) rfl (by kernel_rfl) (by kernel_rfl) (by kernel_rfl) (fun _ _ _ h => h) (Or.inl ⟨by rfl, ?_⟩) (by assumption) ?_
  rotate_left
  · intro w hSw; (try dsimp only at hSw); go_simp; try with_reducible rfl
  simp only [Act.put, List.setIfInBounds_toArray, List.set_cons_zero, List.set_cons_succ]
  refine wpAnyH_done (by kernel_rfl) ?_ _
  go_wp2
  try simp only [Exit.inBlock, Exit.then]
  refine bodyPost_ret (ret_nbb rfl _ rfl R.out) rfl ?_
  exact ⟨rfl, G.out⟩
set_option maxRecDepth 100000 in
set_option maxHeartbeats 1000000 in
theorem sbtake_yes (w : World) (n s : Int) (ho : Ok n s) (hf : n ≠ s) : Calls Try.prog 21 #[.agg #[.int .i64 n, .int .i64 s]] w fun e w' => e = .returned (.tuple #[.int .i64 n, .agg #[.int .i64 (n + 1), .int .i64 s], .bool true]) ∧ w.grownBy w' none := by
  have HO := Lib.hid ho
  unfold Ok at ho
  have hlt : n < s := by omega
  have hn : n ≤ 60 := by omega
  have hn0 : 0 ≤ n := by omega
  clear ho hf
  have G := Lib.hid (gtr (Draw.grown_alloc w (.cells #[.int .i64 n, .int .i64 s] 24) none) (Draw.grown_alloc _ (.cells #[.int .i64 0, .int .i64 0] 24) none))
  have P := Lib.hid ((Blk.new w #[.int .i64 n, .int .i64 s] 24).keptN (Draw.grown_alloc _ (.cells #[.int .i64 0, .int .i64 0] 24) none))
  have R := Lib.hid (blk_new2 w (.cells #[.int .i64 n, .int .i64 s] 24) #[.int .i64 0, .int .i64 0] 24)
  go_enter Try.func21, Try.ntmps21
  go_wp2_with fail
  refine (smok _ n s).mono ?_
  rintro e w1 ⟨rfl, hg⟩
  replace G := Lib.hid (gtr G.out hg)
  replace R := Lib.hid (R.out.keptN hg)
  replace P := Lib.hid (P.out.keptN hg)
  clear hg
  have p0 : w1.cell? ⟨w.heap.size, 0, none⟩ = some (.int .i64 n) := P.out.cell 0
  have p1 : w1.cell? ⟨w.heap.size, 1, none⟩ = some (.int .i64 s) := P.out.cell 1
  rw [bkB_t HO.out]
  have hwr : IntKind.i64.wrap (n + 1) = n + 1 := IntWalk.i64_in _ (by omega)
  go_wp2_with fail
  refine wp_region_held_drew (S := (fun w' => w'.cell? ⟨w.heap.size, 0, none⟩ = some (.int .i64 n) ∧ w'.cell? ⟨w.heap.size, 1, none⟩ = some (.int .i64 s))) (by kernel_rfl) (⟨P.out.cell 0, P.out.cell 1⟩) (fun hHeld => ?_)
  have hg := Draw.gdrew w1
  replace G := Lib.hid (gtr G.out hg)
  replace R := Lib.hid (R.out.keptN hg)
  replace P := Lib.hid (P.out.keptN hg)
  clear hg
  clear p0 p1
  generalize w1.drew = w2 at *
  refine wpAnyH_take (i := 0) (oi := ⟨some 15, _, _, _, _, _⟩) (v := ?_) rfl (by kernel_rfl) (by kernel_rfl) (by kernel_rfl) (fun _ _ _ h => h) (Or.inl ⟨by rfl, ?_⟩) (by assumption) ?_
  rotate_left
  · intro w hSw; (try dsimp only at hSw); go_simp; try with_reducible rfl
  simp only [Act.put, List.setIfInBounds_toArray, List.set_cons_zero, List.set_cons_succ]
  refine wpAnyH_take (i := 1) (oi := ⟨some 16, _, _, _, _, _⟩) (v := ?_) rfl (by kernel_rfl) (by kernel_rfl) (by kernel_rfl) (fun _ _ _ h => h) (Or.inl ⟨by rfl, ?_⟩) (by assumption) ?_
  rotate_left
  · intro w hSw; (try dsimp only at hSw); go_simp; try with_reducible rfl
  simp only [Act.put, List.setIfInBounds_toArray, List.set_cons_zero, List.set_cons_succ]
  refine wpAnyH_take (i := 2) (oi := ⟨some 17, _, _, _, _, _⟩) (v := ?_) rfl (by kernel_rfl) (by kernel_rfl) (by kernel_rfl) (fun _ _ _ h => h) (Or.inl ⟨by rfl, ?_⟩) (by assumption) ?_
  rotate_left
  · intro w hSw; (try dsimp only at hSw); go_simp; try with_reducible rfl
  simp only [Act.put, List.setIfInBounds_toArray, List.set_cons_zero, List.set_cons_succ]
  refine wpAnyH_take (i := 3) (oi := ⟨some 18, _, _, _, _, _⟩) (v := ?_) rfl (by kernel_rfl) (by kernel_rfl) (by kernel_rfl) (fun _ _ _ h => h) (Or.inl ⟨by rfl, ?_⟩) (by assumption) ?_
  rotate_left
  · intro w hSw; (try dsimp only at hSw); go_simp; try with_reducible rfl
  simp only [Act.put, List.setIfInBounds_toArray, List.set_cons_zero, List.set_cons_succ]
  refine wpAnyH_take (i := 4) (oi := ⟨some 19, _, _, _, _, _⟩) (v := ?_) rfl (by kernel_rfl) (by kernel_rfl) (by kernel_rfl) (fun _ _ _ h => h) (Or.inl ⟨by rfl, ?_⟩) (by assumption) ?_
  rotate_left
  · intro w hSw; (try dsimp only at hSw); go_simp; try with_reducible rfl
  simp only [Act.put, List.setIfInBounds_toArray, List.set_cons_zero, List.set_cons_succ]
  refine wpAnyH_take (i := 5) (oi := ⟨some 20, _, _, _, _, _⟩) (v := ?_) rfl (by kernel_rfl) (by kernel_rfl) (by kernel_rfl) (fun _ _ _ h => h) (Or.inl ⟨by rfl, ?_⟩) (by assumption) ?_
  rotate_left
  · intro w hSw; (try dsimp only at hSw); go_simp; try with_reducible rfl
  simp only [Act.put, List.setIfInBounds_toArray, List.set_cons_zero, List.set_cons_succ]
  refine wpAnyH_take (i := 6) (oi := ⟨some 21, _, _, _, _, _⟩) (v := ?_) rfl (by kernel_rfl) (by kernel_rfl) (by kernel_rfl) (fun _ _ _ h => h) (Or.inl ⟨by rfl, ?_⟩) (by assumption) ?_
  rotate_left
  · intro w hSw; (try dsimp only at hSw); go_simp; try with_reducible rfl
  simp only [Act.put, List.setIfInBounds_toArray, List.set_cons_zero, List.set_cons_succ]
  refine wpAnyH_take (i := 7) (oi := ⟨some 22, _, _, _, _, _⟩) (v := ?_) rfl (by kernel_rfl) (by kernel_rfl) (by kernel_rfl) (fun _ _ _ h => h) (Or.inl ⟨by rfl, ?_⟩) (by assumption) ?_
  rotate_left
  · intro w hSw; (try dsimp only at hSw); go_simp; try with_reducible rfl
  simp only [Act.put, List.setIfInBounds_toArray, List.set_cons_zero, List.set_cons_succ]
  refine wpAnyH_take (i := 8) (oi := ⟨some 2, _, _, _, _, _⟩) (v := ?_) rfl (by kernel_rfl) (by kernel_rfl) (by kernel_rfl) (fun _ _ _ h => h) (Or.inl ⟨by rfl, ?_⟩) (by assumption) ?_
  rotate_left
  · intro w hSw; (try dsimp only at hSw); go_simp; try with_reducible rfl
  simp only [Act.put, List.setIfInBounds_toArray, List.set_cons_zero, List.set_cons_succ]
  refine wpAnyH_ready (rs := [9]) (by kernel_rfl) (by simp) ?_
  refine AllReadyH.cons (o := ⟨none, _, _, _, _, _⟩) rfl (fun Kq hKq => ?_) AllReadyH.nil
  skip
  refine wp_store_blk 24 (.tmp 3) (.tmp 22) _ _ _ 24 R.out rfl rfl rfl rfl (by kernel_rfl) (by simp [Value.oneCell']) rfl ?_
  intro V hg hT
  replace R := Lib.hid hT
  replace G := Lib.hid (grown_new G.out (by omega) hg)
  replace P := Lib.hid (P.out.kept hg (by intro e; have e := Option.some.inj e; omega))
  clear hg
  clear hT
  refine hKq.out _ _ (⟨P.out.cell 0, P.out.cell 1⟩) (fun hHeld => ?_)
  clear hKq Kq
  refine wpAnyH_take (i := 10) (oi := ⟨some 4, _, _, _, _, _⟩) (v := ?_) rfl (by kernel_rfl) (by kernel_rfl) (by kernel_rfl) (fun _ _ _ h => h) (Or.inl ⟨by rfl, ?_⟩) (by assumption) ?_
  rotate_left
  · intro w hSw; (try dsimp only at hSw); go_simp; try with_reducible rfl
  simp only [Act.put, List.setIfInBounds_toArray, List.set_cons_zero, List.set_cons_succ]
  refine wpAnyH_done (by kernel_rfl) ?_ _
  go_wp2
  try simp only [Exit.inBlock, Exit.then]
  refine bodyPost_ret (ret_nbb rfl _ rfl R.out) rfl ?_
  exact ⟨rfl, G.out⟩
end Con
end Go.Proofs.Yteibklnonlapoaa
