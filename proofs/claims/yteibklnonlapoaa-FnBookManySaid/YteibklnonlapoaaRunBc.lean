/-
  The walks of the laws on a book: as many as are set aside; no number twice.
-/
import Derived.Test.YteibklnonlapoaaRunBa
namespace Go.Proofs.Yteibklnonlapoaa
namespace Run
open Go.RowKit Alg Mem Con Draw Bk
set_option linter.unusedVariables false

set_option maxRecDepth 100000 in
set_option maxHeartbeats 4000000 in
theorem FnBookMany (a : Option Addr) (len cap : Nat) (w : World) (hB : Draw.Bytes w w.heap.size a len) (hc : len ≤ cap) (hm : cap ≤ maxLen) :
    Calls Try.prog 9 #[.slice a len cap] w (Yes w) := by
  by_cases hbig : 1048576 < len
  · have hbig' : (1048576 : Int) < (len : Int) := by omega
    clear hB
    go_enter Try.func9, Try.ntmps9
    go_wp2
    go_ret
    exact ⟨rfl, Below.refl _ _⟩
  have hbig' : ¬ (1048576 : Int) < (len : Int) := by omega
  go_enter Try.func9, Try.ntmps9
  go_wp2_with fail
  refine (drawBkT _ a len cap hB hc hm).mono ?_
  rintro e w1 ⟨n, s, rfl, hg⟩
  have G := Lib.hid hg
  clear hg hB
  go_wp2_with (refine stop_store rfl ?_)
  refine ⟨trivial, ?_⟩
  refine wpList_store_blk rfl 24 (.tmp 3) (.tmp 22) _ _ _ 24 (Blk.new w1 #[.int .i64 0, .int .i64 0] 24) rfl rfl rfl rfl (by kernel_rfl) (by simp [Value.oneCell']) rfl ?_
  intro w2 hgV hT
  have hg : (w1).grownBy w2 none := grown_new (Draw.grown_alloc w1 (.cells #[.int .i64 0, .int .i64 0] 24) none) (Nat.le_refl _) hgV
  have B := Lib.hid (Bv.of hT)
  clear hgV hT
  replace G := Lib.hid (gtr G.out hg)
  clear hg
  generalize (w1).heap.size = bb at *
  by_cases ho : Ok n s
  case neg =>
    have HO := Lib.hid ho; clear ho
    obtain ⟨_, k0, k1⟩ := B.out
    go_wp2_with fail
    clear k0 k1
    refine (sbtake_bad _ n s HO.out).mono ?_
    rintro e w3 ⟨rfl, hg⟩
    replace G := Lib.hid (gtr G.out hg)
    replace B := Lib.hid (B.out.kept hg)
    clear hg
    go_wp2_with (refine stop_store rfl ?_)
    refine ⟨trivial, ?_⟩
    refine wpList_store_blk rfl 24 (.tmp 5) (.tmp 27) _ _ _ 24 (Blk.new w3 #[.int .i64 0, .int .i64 0] 24) rfl rfl rfl rfl (by kernel_rfl) (by simp [Value.oneCell']) rfl ?_
    intro w4 hgV hT
    have hg : (w3).grownBy w4 none := grown_new (Draw.grown_alloc w3 (.cells #[.int .i64 0, .int .i64 0] 24) none) (Nat.le_refl _) hgV
    have M := Lib.hid (Bv.of hT)
    clear hgV hT
    replace G := Lib.hid (gtr G.out hg)
    replace B := Lib.hid (B.out.kept hg)
    clear hg
    generalize (w3).heap.size = mb at *
    obtain ⟨_, k0, k1⟩ := B.out
    go_wp2_with fail
    clear k0 k1
    refine (ibtake_bad _ n s HO.out).mono ?_
    rintro e w5 ⟨rfl, hg⟩
    replace G := Lib.hid (gtr G.out hg)
    replace B := Lib.hid (B.out.kept hg)
    replace M := Lib.hid (M.out.kept hg)
    clear hg
    go_wp2_with (refine stop_store rfl ?_)
    refine ⟨trivial, ?_⟩
    refine wpList_store_blk rfl 24 (.tmp 8) (.tmp 33) _ _ _ 24 (Blk.new w5 #[.int .i64 0, .int .i64 0] 24) rfl rfl rfl rfl (by kernel_rfl) (by simp [Value.oneCell']) rfl ?_
    intro w6 hgV hT
    have hg : (w5).grownBy w6 none := grown_new (Draw.grown_alloc w5 (.cells #[.int .i64 0, .int .i64 0] 24) none) (Nat.le_refl _) hgV
    have X := Lib.hid (Bv.of hT)
    clear hgV hT
    replace G := Lib.hid (gtr G.out hg)
    replace B := Lib.hid (B.out.kept hg)
    replace M := Lib.hid (M.out.kept hg)
    clear hg
    generalize (w5).heap.size = xb at *
    obtain ⟨_, k0, k1⟩ := B.out
    obtain ⟨_, x0, x1⟩ := X.out
    obtain ⟨_, m0, m1⟩ := M.out
    go_wp2_with fail
    clear k0 k1
    clear x0 x1
    clear m0 m1
    refine (smok _ n s).mono ?_
    rintro e w7 ⟨rfl, hg⟩
    rw [bkB_f HO.out]
    replace G := Lib.hid (gtr G.out hg)
    replace B := Lib.hid (B.out.kept hg)
    replace M := Lib.hid (M.out.kept hg)
    replace X := Lib.hid (X.out.kept hg)
    clear hg
    obtain ⟨_, k0, k1⟩ := B.out
    obtain ⟨_, x0, x1⟩ := X.out
    obtain ⟨_, m0, m1⟩ := M.out
    go_wp2
    go_ret
    exact ⟨Mem.ret_b (by simp), Draw.below_of G.out⟩
  have HO := Lib.hid ho
  obtain ⟨o1, o2, o3⟩ := ho
  by_cases hf : n = s
  · have HF := Lib.hid hf; clear hf
    obtain ⟨_, k0, k1⟩ := B.out
    go_wp2_with fail
    clear k0 k1
    refine (sbtake_no _ n s HO.out HF.out).mono ?_
    rintro e w3 ⟨rfl, hg⟩
    replace G := Lib.hid (gtr G.out hg)
    replace B := Lib.hid (B.out.kept hg)
    clear hg
    go_wp2_with (refine stop_store rfl ?_)
    refine ⟨trivial, ?_⟩
    refine wpList_store_blk rfl 24 (.tmp 5) (.tmp 27) _ _ _ 24 (Blk.new w3 #[.int .i64 0, .int .i64 0] 24) rfl rfl rfl rfl (by kernel_rfl) (by simp [Value.oneCell']) rfl ?_
    intro w4 hgV hT
    have hg : (w3).grownBy w4 none := grown_new (Draw.grown_alloc w3 (.cells #[.int .i64 0, .int .i64 0] 24) none) (Nat.le_refl _) hgV
    have M := Lib.hid (Bv.of hT)
    clear hgV hT
    replace G := Lib.hid (gtr G.out hg)
    replace B := Lib.hid (B.out.kept hg)
    clear hg
    generalize (w3).heap.size = mb at *
    obtain ⟨_, k0, k1⟩ := B.out
    go_wp2_with fail
    clear k0 k1
    refine (ibtake_no _ n s HO.out HF.out).mono ?_
    rintro e w5 ⟨rfl, hg⟩
    replace G := Lib.hid (gtr G.out hg)
    replace B := Lib.hid (B.out.kept hg)
    replace M := Lib.hid (M.out.kept hg)
    clear hg
    go_wp2_with (refine stop_store rfl ?_)
    refine ⟨trivial, ?_⟩
    refine wpList_store_blk rfl 24 (.tmp 8) (.tmp 33) _ _ _ 24 (Blk.new w5 #[.int .i64 0, .int .i64 0] 24) rfl rfl rfl rfl (by kernel_rfl) (by simp [Value.oneCell']) rfl ?_
    intro w6 hgV hT
    have hg : (w5).grownBy w6 none := grown_new (Draw.grown_alloc w5 (.cells #[.int .i64 0, .int .i64 0] 24) none) (Nat.le_refl _) hgV
    have X := Lib.hid (Bv.of hT)
    clear hgV hT
    replace G := Lib.hid (gtr G.out hg)
    replace B := Lib.hid (B.out.kept hg)
    replace M := Lib.hid (M.out.kept hg)
    clear hg
    generalize (w5).heap.size = xb at *
    obtain ⟨_, k0, k1⟩ := B.out
    obtain ⟨_, x0, x1⟩ := X.out
    obtain ⟨_, m0, m1⟩ := M.out
    go_wp2_with fail
    clear k0 k1
    clear x0 x1
    clear m0 m1
    refine (smok _ n s).mono ?_
    rintro e w7 ⟨rfl, hg⟩
    rw [bkB_t HO.out]
    replace G := Lib.hid (gtr G.out hg)
    replace B := Lib.hid (B.out.kept hg)
    replace M := Lib.hid (M.out.kept hg)
    replace X := Lib.hid (X.out.kept hg)
    clear hg
    obtain ⟨_, k0, k1⟩ := B.out
    obtain ⟨_, x0, x1⟩ := X.out
    obtain ⟨_, m0, m1⟩ := M.out
    clear x0 x1
    clear m0 m1
    clear X M
    go_wp2_with (refine stop_store rfl ?_)
    refine ⟨trivial, ?_⟩
    refine wpList_store_blk rfl 24 (.tmp 10) (.tmp 66) _ _ _ 24 (Blk.new w7 #[.int .i64 0, .int .i64 0] 24) rfl rfl rfl rfl (by kernel_rfl) (by simp [Value.oneCell']) rfl ?_
    intro v1 hgV hT
    have hg : (w7).grownBy v1 none := grown_new (Draw.grown_alloc w7 (.cells #[.int .i64 0, .int .i64 0] 24) none) (Nat.le_refl _) hgV
    have hyb : w.heap.size ≤ (w7).heap.size := G.out.size
    have hbb : bb < (w7).heap.size := B.out.lt
    have Y0 := Lib.hid hT
    clear hgV hT
    clear k0 k1
    replace G := Lib.hid (gtr G.out hg)
    replace B := Lib.hid (B.out.kept hg)
    clear hg
    obtain ⟨_, k0, k1⟩ := B.out
    generalize (w7).heap.size = yb at *
    go_wp2_with fail
    go_loopw [11] (fun i wr => ∃ j : Int, i = .int .i64 j ∧ n ≤ j ∧ j ≤ s ∧ Blk wr yb #[.int .i64 j, .int .i64 s] 24 ∧ Bv wr bb n s ∧ w.grownBy wr none) (fun i _ => (s - intOf i).toNat)
    case atStart => exact ⟨n, rfl, Int.le_refl _, by omega, Y0.out, B.out, G.out⟩
    case round =>
      clear k0 k1
      clear G B Y0
      obtain ⟨j, rfl, j0, j1, hY, hB, hg⟩ := hrel
      have Y := Lib.hid hY; have B := Lib.hid hB; have G := Lib.hid hg
      clear hY hB hg
      have hY0 : wr.cell? ⟨yb, 0, none⟩ = some (.int .i64 j) := Y.out.cell 0
      have hY1 : wr.cell? ⟨yb, 1, none⟩ = some (.int .i64 s) := Y.out.cell 1
      obtain ⟨_, k0, k1⟩ := B.out
      by_cases hlt : j < s
      · skip
        go_wp2_with fail
        refine (ibtake_yes _ j s (by unfold Ok; omega) (by omega)).mono ?_
        rintro e v2 ⟨rfl, hg⟩
        clear hY0 hY1
        clear k0 k1
        replace G := Lib.hid (gtr G.out hg)
        replace B := Lib.hid (B.out.kept hg)
        replace Y := Lib.hid (Y.out.keptN hg)
        clear hg
        go_wp2_with (refine stop_store rfl ?_)
        refine ⟨trivial, ?_⟩
        refine wpList_store_blk rfl 24 (.tmp 13) (.tmp 79) _ _ _ 24 (Blk.new v2 #[.int .i64 0, .int .i64 0] 24) rfl rfl rfl rfl (by kernel_rfl) (by simp [Value.oneCell']) rfl ?_
        intro v3 hgV hT
        have hg : (v2).grownBy v3 none := grown_new (Draw.grown_alloc v2 (.cells #[.int .i64 0, .int .i64 0] 24) none) (Nat.le_refl _) hgV
        have Z := Lib.hid (Bv.of hT)
        clear hgV hT
        replace G := Lib.hid (gtr G.out hg)
        replace B := Lib.hid (B.out.kept hg)
        replace Y := Lib.hid (Y.out.keptN hg)
        clear hg
        generalize (v2).heap.size = zb at *
        obtain ⟨_, z0, z1⟩ := Z.out
        have hself : (j == j) = true := by simp
        go_wp2_with (refine stop_store rfl ?_)
        refine ⟨trivial, ?_⟩
        refine wpList_store_blk rfl 24 (.tmp 10) (.tmp 88) _ _ _ 24 Y.out rfl rfl rfl rfl (by kernel_rfl) (by simp [Value.oneCell']) rfl ?_
        intro v4 hgV hT
        have G4 := grown_new G.out (by omega) hgV
        have B4 := B.out.keptB (hgV.block _ B.out.lt (by intro e; have e := Option.some.inj e; omega)) hgV.size
        clear z0 z1
        clear hgV Y Z G B
        have G := Lib.hid G4; have B := Lib.hid B4; have Y := Lib.hid hT
        clear G4 B4 hT
        go_wp2
        go_roundw
        case rel => exact ⟨j + 1, by go_num, by omega, by omega, Y.out, B.out, G.out⟩
        case measure => simp [intOf]; omega
      · obtain rfl : j = s := by omega
        go_wp2_with fail
        refine (ibtake_no _ j j (by unfold Ok; omega) rfl).mono ?_
        rintro e v2 ⟨rfl, hg⟩
        clear hY0 hY1
        clear k0 k1
        replace G := Lib.hid (gtr G.out hg)
        replace B := Lib.hid (B.out.kept hg)
        replace Y := Lib.hid (Y.out.keptN hg)
        clear hg
        go_wp2_with (refine stop_store rfl ?_)
        refine ⟨trivial, ?_⟩
        refine wpList_store_blk rfl 24 (.tmp 16) (.tmp 93) _ _ _ 24 (Blk.new v2 #[.int .i64 0, .int .i64 0] 24) rfl rfl rfl rfl (by kernel_rfl) (by simp [Value.oneCell']) rfl ?_
        intro v3 hgV hT
        have hg : (v2).grownBy v3 none := grown_new (Draw.grown_alloc v2 (.cells #[.int .i64 0, .int .i64 0] 24) none) (Nat.le_refl _) hgV
        have Z := Lib.hid (Bv.of hT)
        clear hgV hT
        replace G := Lib.hid (gtr G.out hg)
        replace B := Lib.hid (B.out.kept hg)
        replace Y := Lib.hid (Y.out.keptN hg)
        clear hg
        generalize (v2).heap.size = zb at *
        have hY0 : v3.cell? ⟨yb, 0, none⟩ = some (.int .i64 j) := Y.out.cell 0
        obtain ⟨_, k0, k1⟩ := B.out
        go_wp2
        go_ret
        exact ⟨Mem.ret_b (by simp <;> omega), Draw.below_of G.out⟩
  · have HF := Lib.hid hf; clear hf
    obtain ⟨_, k0, k1⟩ := B.out
    go_wp2_with fail
    clear k0 k1
    refine (sbtake_yes _ n s HO.out HF.out).mono ?_
    rintro e w3 ⟨rfl, hg⟩
    replace G := Lib.hid (gtr G.out hg)
    replace B := Lib.hid (B.out.kept hg)
    clear hg
    go_wp2_with (refine stop_store rfl ?_)
    refine ⟨trivial, ?_⟩
    refine wpList_store_blk rfl 24 (.tmp 5) (.tmp 27) _ _ _ 24 (Blk.new w3 #[.int .i64 0, .int .i64 0] 24) rfl rfl rfl rfl (by kernel_rfl) (by simp [Value.oneCell']) rfl ?_
    intro w4 hgV hT
    have hg : (w3).grownBy w4 none := grown_new (Draw.grown_alloc w3 (.cells #[.int .i64 0, .int .i64 0] 24) none) (Nat.le_refl _) hgV
    have M := Lib.hid (Bv.of hT)
    clear hgV hT
    replace G := Lib.hid (gtr G.out hg)
    replace B := Lib.hid (B.out.kept hg)
    clear hg
    generalize (w3).heap.size = mb at *
    obtain ⟨_, k0, k1⟩ := B.out
    go_wp2_with fail
    clear k0 k1
    refine (ibtake_yes _ n s HO.out HF.out).mono ?_
    rintro e w5 ⟨rfl, hg⟩
    replace G := Lib.hid (gtr G.out hg)
    replace B := Lib.hid (B.out.kept hg)
    replace M := Lib.hid (M.out.kept hg)
    clear hg
    go_wp2_with (refine stop_store rfl ?_)
    refine ⟨trivial, ?_⟩
    refine wpList_store_blk rfl 24 (.tmp 8) (.tmp 33) _ _ _ 24 (Blk.new w5 #[.int .i64 0, .int .i64 0] 24) rfl rfl rfl rfl (by kernel_rfl) (by simp [Value.oneCell']) rfl ?_
    intro w6 hgV hT
    have hg : (w5).grownBy w6 none := grown_new (Draw.grown_alloc w5 (.cells #[.int .i64 0, .int .i64 0] 24) none) (Nat.le_refl _) hgV
    have X := Lib.hid (Bv.of hT)
    clear hgV hT
    replace G := Lib.hid (gtr G.out hg)
    replace B := Lib.hid (B.out.kept hg)
    replace M := Lib.hid (M.out.kept hg)
    clear hg
    generalize (w5).heap.size = xb at *
    obtain ⟨_, k0, k1⟩ := B.out
    obtain ⟨_, x0, x1⟩ := X.out
    obtain ⟨_, m0, m1⟩ := M.out
    go_wp2_with fail
    clear k0 k1
    clear x0 x1
    clear m0 m1
    refine (smok _ n s).mono ?_
    rintro e w7 ⟨rfl, hg⟩
    rw [bkB_t HO.out]
    replace G := Lib.hid (gtr G.out hg)
    replace B := Lib.hid (B.out.kept hg)
    replace M := Lib.hid (M.out.kept hg)
    replace X := Lib.hid (X.out.kept hg)
    clear hg
    obtain ⟨_, k0, k1⟩ := B.out
    obtain ⟨_, x0, x1⟩ := X.out
    obtain ⟨_, m0, m1⟩ := M.out
    clear x0 x1
    clear m0 m1
    clear X M
    go_wp2_with (refine stop_store rfl ?_)
    refine ⟨trivial, ?_⟩
    refine wpList_store_blk rfl 24 (.tmp 10) (.tmp 66) _ _ _ 24 (Blk.new w7 #[.int .i64 0, .int .i64 0] 24) rfl rfl rfl rfl (by kernel_rfl) (by simp [Value.oneCell']) rfl ?_
    intro v1 hgV hT
    have hg : (w7).grownBy v1 none := grown_new (Draw.grown_alloc w7 (.cells #[.int .i64 0, .int .i64 0] 24) none) (Nat.le_refl _) hgV
    have hyb : w.heap.size ≤ (w7).heap.size := G.out.size
    have hbb : bb < (w7).heap.size := B.out.lt
    have Y0 := Lib.hid hT
    clear hgV hT
    clear k0 k1
    replace G := Lib.hid (gtr G.out hg)
    replace B := Lib.hid (B.out.kept hg)
    clear hg
    obtain ⟨_, k0, k1⟩ := B.out
    generalize (w7).heap.size = yb at *
    go_wp2_with fail
    go_loopw [11] (fun i wr => ∃ j : Int, i = .int .i64 j ∧ n ≤ j ∧ j ≤ s ∧ Blk wr yb #[.int .i64 j, .int .i64 s] 24 ∧ Bv wr bb n s ∧ w.grownBy wr none) (fun i _ => (s - intOf i).toNat)
    case atStart => exact ⟨n, rfl, Int.le_refl _, by omega, Y0.out, B.out, G.out⟩
    case round =>
      clear k0 k1
      clear G B Y0
      obtain ⟨j, rfl, j0, j1, hY, hB, hg⟩ := hrel
      have Y := Lib.hid hY; have B := Lib.hid hB; have G := Lib.hid hg
      clear hY hB hg
      have hY0 : wr.cell? ⟨yb, 0, none⟩ = some (.int .i64 j) := Y.out.cell 0
      have hY1 : wr.cell? ⟨yb, 1, none⟩ = some (.int .i64 s) := Y.out.cell 1
      obtain ⟨_, k0, k1⟩ := B.out
      by_cases hlt : j < s
      · skip
        go_wp2_with fail
        refine (ibtake_yes _ j s (by unfold Ok; omega) (by omega)).mono ?_
        rintro e v2 ⟨rfl, hg⟩
        clear hY0 hY1
        clear k0 k1
        replace G := Lib.hid (gtr G.out hg)
        replace B := Lib.hid (B.out.kept hg)
        replace Y := Lib.hid (Y.out.keptN hg)
        clear hg
        go_wp2_with (refine stop_store rfl ?_)
        refine ⟨trivial, ?_⟩
        refine wpList_store_blk rfl 24 (.tmp 13) (.tmp 79) _ _ _ 24 (Blk.new v2 #[.int .i64 0, .int .i64 0] 24) rfl rfl rfl rfl (by kernel_rfl) (by simp [Value.oneCell']) rfl ?_
        intro v3 hgV hT
        have hg : (v2).grownBy v3 none := grown_new (Draw.grown_alloc v2 (.cells #[.int .i64 0, .int .i64 0] 24) none) (Nat.le_refl _) hgV
        have Z := Lib.hid (Bv.of hT)
        clear hgV hT
        replace G := Lib.hid (gtr G.out hg)
        replace B := Lib.hid (B.out.kept hg)
        replace Y := Lib.hid (Y.out.keptN hg)
        clear hg
        generalize (v2).heap.size = zb at *
        obtain ⟨_, z0, z1⟩ := Z.out
        have hself : (j == j) = true := by simp
        go_wp2_with (refine stop_store rfl ?_)
        refine ⟨trivial, ?_⟩
        refine wpList_store_blk rfl 24 (.tmp 10) (.tmp 88) _ _ _ 24 Y.out rfl rfl rfl rfl (by kernel_rfl) (by simp [Value.oneCell']) rfl ?_
        intro v4 hgV hT
        have G4 := grown_new G.out (by omega) hgV
        have B4 := B.out.keptB (hgV.block _ B.out.lt (by intro e; have e := Option.some.inj e; omega)) hgV.size
        clear z0 z1
        clear hgV Y Z G B
        have G := Lib.hid G4; have B := Lib.hid B4; have Y := Lib.hid hT
        clear G4 B4 hT
        go_wp2
        go_roundw
        case rel => exact ⟨j + 1, by go_num, by omega, by omega, Y.out, B.out, G.out⟩
        case measure => simp [intOf]; omega
      · obtain rfl : j = s := by omega
        go_wp2_with fail
        refine (ibtake_no _ j j (by unfold Ok; omega) rfl).mono ?_
        rintro e v2 ⟨rfl, hg⟩
        clear hY0 hY1
        clear k0 k1
        replace G := Lib.hid (gtr G.out hg)
        replace B := Lib.hid (B.out.kept hg)
        replace Y := Lib.hid (Y.out.keptN hg)
        clear hg
        go_wp2_with (refine stop_store rfl ?_)
        refine ⟨trivial, ?_⟩
        refine wpList_store_blk rfl 24 (.tmp 16) (.tmp 93) _ _ _ 24 (Blk.new v2 #[.int .i64 0, .int .i64 0] 24) rfl rfl rfl rfl (by kernel_rfl) (by simp [Value.oneCell']) rfl ?_
        intro v3 hgV hT
        have hg : (v2).grownBy v3 none := grown_new (Draw.grown_alloc v2 (.cells #[.int .i64 0, .int .i64 0] 24) none) (Nat.le_refl _) hgV
        have Z := Lib.hid (Bv.of hT)
        clear hgV hT
        replace G := Lib.hid (gtr G.out hg)
        replace B := Lib.hid (B.out.kept hg)
        replace Y := Lib.hid (Y.out.keptN hg)
        clear hg
        generalize (v2).heap.size = zb at *
        have hY0 : v3.cell? ⟨yb, 0, none⟩ = some (.int .i64 j) := Y.out.cell 0
        obtain ⟨_, k0, k1⟩ := B.out
        go_wp2
        go_ret
        exact ⟨Mem.ret_b (by simp <;> omega), Draw.below_of G.out⟩
end Run
end Go.Proofs.Yteibklnonlapoaa
