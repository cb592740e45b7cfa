/-
  The walk of the exact law on a share made anew.
-/
import Derived.Test.YtlaimokedhdnjaaGreatDoorFi
import Derived.Test.YtlaimokedhdnjaaGreatDoorXo
import Derived.Test.YtlaimokedhdnjaaGreatDoorSm
import Derived.Deep.RegionHeld3
namespace Go.Proofs.YtlaimokedhdnjaaGreatDoor
namespace Run
open Go.RowKit Alg Mem Con Mp Hd
set_option linter.unusedVariables false

set_option maxRecDepth 100000 in
set_option maxHeartbeats 8000000 in
theorem FnExactFreshShare (kneed kmany : Int) (kag : Option Addr) (kng kcg : Nat) (kzg : Nat → Int) (kac : Option Addr) (knc kcc : Nat) (kzc : Nat → Int) (dad : Option Addr) (dnd dcd : Nat) (dD : Nat → DV) (hm hs : Int) (w : World) (kA10 : Ints w kag kng kzg) (kA20 : Ints w kac knc kzc) (dA10 : DealsIn w dad dnd dD) (khm1 : kng ≤ maxLen) (khm2 : knc ≤ maxLen) (dhm1 : dnd ≤ maxLen) (dhm2 : ∀ j, j < dnd → (dD j).n1 ≤ maxLen ∧ (dD j).n2 ≤ maxLen) (ad : Addr) (hv0 : Sent w ad) :
    Calls Tryz.prog 3 #[.agg #[.int .i64 kneed, .int .i64 kmany, .slice kag kng kcg, .slice kac knc kcc], .slice dad dnd dcd, .agg #[.int .i64 hm, .int .i64 hs]] w (Yes w) := by
  have G := Lib.hid (gtr (Draw.grown_alloc w (.cells #[.int .i64 kneed, .int .i64 kmany, .slice kag kng kcg, .slice kac knc kcc] 24) none) (Draw.grown_alloc _ (.cells #[.int .i64 hm, .int .i64 hs] 27) none))
  have B0 := Lib.hid ((Blk.new w #[.int .i64 kneed, .int .i64 kmany, .slice kag kng kcg, .slice kac knc kcc] 24).keptN (Draw.grown_alloc _ (.cells #[.int .i64 hm, .int .i64 hs] 27) none))
  have B2 := Lib.hid (blk_new2 w (.cells #[.int .i64 kneed, .int .i64 kmany, .slice kag kng kcg, .slice kac knc kcc] 24) #[.int .i64 hm, .int .i64 hs] 27)
  replace kA10 := Lib.hid kA10
  have kA1 := Lib.hid (kA10.out.kept G.out)
  replace kA20 := Lib.hid kA20
  have kA2 := Lib.hid (kA20.out.kept G.out)
  replace dA10 := Lib.hid dA10
  have dA1 := Lib.hid (dA10.out.kept G.out)
  replace hv0 := Lib.hid hv0
  have hv := Lib.hid (hv0.out.kept G.out)
  go_enter Tryz.func3, Tryz.ntmps3
  have B0_0 : World.cell? _ ⟨w.heap.size, 0, none⟩ = some (.int .i64 kneed) := B0.out.cell 0
  have B0_1 : World.cell? _ ⟨w.heap.size, 1, none⟩ = some (.int .i64 kmany) := B0.out.cell 1
  have B0_2 : World.cell? _ ⟨w.heap.size, 2, none⟩ = some (.slice kag kng kcg) := B0.out.cell 2
  have B0_3 : World.cell? _ ⟨w.heap.size, 3, none⟩ = some (.slice kac knc kcc) := B0.out.cell 3
  have B0_l := B0.out.lt
  have B2_0 : World.cell? _ ⟨w.heap.size + 1, 0, none⟩ = some (.int .i64 hm) := B2.out.cell 0
  have B2_1 : World.cell? _ ⟨w.heap.size + 1, 1, none⟩ = some (.int .i64 hs) := B2.out.cell 1
  have B2_l := B2.out.lt
  go_wp2_with fail
  refine (szkey' _ kneed kmany _ kng _ _ knc _ 1048576 (by omega) (by omega) khm1 khm2).mono ?_
  rintro e v1 ⟨r0, rfl, hg, hr⟩
  clear B0_0 B0_1 B0_2 B0_3 B2_0 B2_1 B0_l B2_l
  replace G := Lib.hid (gtr G.out hg)
  replace B0 := Lib.hid (B0.out.keptN hg)
  replace B2 := Lib.hid (B2.out.keptN hg)
  replace kA1 := Lib.hid (kA10.out.kept G.out)
  replace kA2 := Lib.hid (kA20.out.kept G.out)
  replace dA1 := Lib.hid (dA10.out.kept G.out)
  replace hv := Lib.hid (hv0.out.kept G.out)
  clear hg
  rcases hr with rfl | ⟨h0a, h0b, khl1, khl2⟩
  · go_wp2
    go_ret
    exact ⟨rfl, Draw.below_of G.out⟩
  have hn0 : ¬ r0 < 0 := by omega
  have B0_0 : World.cell? _ ⟨w.heap.size, 0, none⟩ = some (.int .i64 kneed) := B0.out.cell 0
  have B0_1 : World.cell? _ ⟨w.heap.size, 1, none⟩ = some (.int .i64 kmany) := B0.out.cell 1
  have B0_2 : World.cell? _ ⟨w.heap.size, 2, none⟩ = some (.slice kag kng kcg) := B0.out.cell 2
  have B0_3 : World.cell? _ ⟨w.heap.size, 3, none⟩ = some (.slice kac knc kcc) := B0.out.cell 3
  have B0_l := B0.out.lt
  have B2_0 : World.cell? _ ⟨w.heap.size + 1, 0, none⟩ = some (.int .i64 hm) := B2.out.cell 0
  have B2_1 : World.cell? _ ⟨w.heap.size + 1, 1, none⟩ = some (.int .i64 hs) := B2.out.cell 1
  have B2_l := B2.out.lt
  go_wp2_with fail
  refine (szdeals _ _ dnd _ dD r0 (by omega) (by omega) dA1.out dhm1 dhm2).mono ?_
  rintro e v2 ⟨r1, rfl, hg, hr⟩
  clear B0_0 B0_1 B0_2 B0_3 B2_0 B2_1 B0_l B2_l
  replace G := Lib.hid (gtr G.out hg)
  replace B0 := Lib.hid (B0.out.keptN hg)
  replace B2 := Lib.hid (B2.out.keptN hg)
  replace kA1 := Lib.hid (kA10.out.kept G.out)
  replace kA2 := Lib.hid (kA20.out.kept G.out)
  replace dA1 := Lib.hid (dA10.out.kept G.out)
  replace hv := Lib.hid (hv0.out.kept G.out)
  clear hg
  rcases hr with rfl | ⟨h1a, h1b, dhl0, dhL⟩
  · go_wp2
    go_ret
    exact ⟨rfl, Draw.below_of G.out⟩
  have hn1 : ¬ r1 < 0 := by omega
  have B0_0 : World.cell? _ ⟨w.heap.size, 0, none⟩ = some (.int .i64 kneed) := B0.out.cell 0
  have B0_1 : World.cell? _ ⟨w.heap.size, 1, none⟩ = some (.int .i64 kmany) := B0.out.cell 1
  have B0_2 : World.cell? _ ⟨w.heap.size, 2, none⟩ = some (.slice kag kng kcg) := B0.out.cell 2
  have B0_3 : World.cell? _ ⟨w.heap.size, 3, none⟩ = some (.slice kac knc kcc) := B0.out.cell 3
  have B0_l := B0.out.lt
  have B2_0 : World.cell? _ ⟨w.heap.size + 1, 0, none⟩ = some (.int .i64 hm) := B2.out.cell 0
  have B2_1 : World.cell? _ ⟨w.heap.size + 1, 1, none⟩ = some (.int .i64 hs) := B2.out.cell 1
  have B2_l := B2.out.lt
  go_wp2_with fail
  clear B0_0 B0_1 B0_2 B0_3 B2_0 B2_1 B0_l B2_l
  refine' (fun (hk : Draw.Later _) => ?main) (Draw.Later.mk ?rest)
  case main =>
    refine wp_region_held_drew (S := (fun w' => w'.cell? ⟨w.heap.size, 0, none⟩ = some (.int .i64 kneed) ∧ w'.cell? ⟨w.heap.size, 1, none⟩ = some (.int .i64 kmany) ∧ w'.cell? ⟨w.heap.size, 2, none⟩ = some (.slice kag kng kcg) ∧ w'.cell? ⟨w.heap.size, 3, none⟩ = some (.slice kac knc kcc) ∧ w'.cell? ⟨w.heap.size + 1, 0, none⟩ = some (.int .i64 hm) ∧ w'.cell? ⟨w.heap.size + 1, 1, none⟩ = some (.int .i64 hs))) (by kernel_rfl) (⟨B0.out.cell 0, B0.out.cell 1, B0.out.cell 2, B0.out.cell 3, B2.out.cell 0, B2.out.cell 1⟩) (fun hHeld => ?_)
    have hg := Draw.gdrew v2
    replace G := Lib.hid (gtr G.out hg)
    replace B0 := Lib.hid (B0.out.keptN hg)
    replace B2 := Lib.hid (B2.out.keptN hg)
    replace kA1 := Lib.hid (kA10.out.kept G.out)
    replace kA2 := Lib.hid (kA20.out.kept G.out)
    replace dA1 := Lib.hid (dA10.out.kept G.out)
    replace hv := Lib.hid (hv0.out.kept G.out)
    clear hg
    generalize (v2).drew = v3 at *
    refine wpAnyH_take (i := 0) (oi := ⟨some 25, _, _, _, _, _⟩) (v := ?_) rfl (by kernel_rfl) (by kernel_rfl) (by kernel_rfl) (fun _ _ _ h => h) (Or.inl ⟨by rfl, ?_⟩) (by assumption) ?_
    rotate_left
    · intro w hSw; (try dsimp only at hSw); go_simp; try with_reducible rfl
    simp only [Act.put, List.setIfInBounds_toArray, List.set_cons_zero, List.set_cons_succ]
    refine wpAnyH_take (i := 2) (oi := ⟨some 27, _, _, _, _, _⟩) (v := ?_) rfl (by kernel_rfl) (by kernel_rfl) (by kernel_rfl) (fun _ _ _ h => h) (Or.inl ⟨by rfl, ?_⟩) (by assumption) ?_
    rotate_left
    · intro w hSw; (try dsimp only at hSw); go_simp; try with_reducible rfl
    simp only [Act.put, List.setIfInBounds_toArray, List.set_cons_zero, List.set_cons_succ]
    refine wpAnyH_take (i := 4) (oi := ⟨some 29, _, _, _, _, _⟩) (v := ?_) rfl (by kernel_rfl) (by kernel_rfl) (by kernel_rfl) (fun _ _ _ h => h) (Or.inl ⟨by rfl, ?_⟩) (by assumption) ?_
    rotate_left
    · intro w hSw; (try dsimp only at hSw); go_simp; try with_reducible rfl
    simp only [Act.put, List.setIfInBounds_toArray, List.set_cons_zero, List.set_cons_succ]
    refine wpAnyH_ready (rs := [1, 10]) (by kernel_rfl) (by simp) ?_
    refine AllReadyH.cons (o := ⟨some 26, _, _, _, _, _⟩) rfl (fun Kq hKq => ?_) (AllReadyH.cons (o := ⟨some 8, _, _, _, _, _⟩) rfl (fun Kq hKq => ?_) AllReadyH.nil)
    · go_simp
      go_at_call 7
      refine (tokey _ kneed kmany _ kng _ kzg _ knc _ kzc kA1.out kA2.out (by omega) (by omega)).mono ?_
      rintro e v4 ⟨s0b1, s0b2, rfl, s0h, s0r1, s0r2, hg⟩
      have s0P1 := Lib.hid (s0r1.ints)
      have s0P2 := Lib.hid (s0r2.ints)
      replace G := Lib.hid (gtr G.out hg)
      replace B0 := Lib.hid (B0.out.keptN hg)
      replace B2 := Lib.hid (B2.out.keptN hg)
      replace kA1 := Lib.hid (kA10.out.kept G.out)
      replace kA2 := Lib.hid (kA20.out.kept G.out)
      replace dA1 := Lib.hid (dA10.out.kept G.out)
      replace hv := Lib.hid (hv0.out.kept G.out)
      clear hg
      clear s0h s0r1 s0r2
      refine hKq.out _ _ (⟨B0.out.cell 0, B0.out.cell 1, B0.out.cell 2, B0.out.cell 3, B2.out.cell 0, B2.out.cell 1⟩) (fun hHeld => ?_)
      clear hKq Kq
      refine wpAnyH_ready (rs := [3, 10]) (by kernel_rfl) (by simp) ?_
      refine AllReadyH.cons (o := ⟨some 28, _, _, _, _, _⟩) rfl (fun Kq hKq => ?_) (AllReadyH.cons (o := ⟨some 8, _, _, _, _, _⟩) rfl (fun Kq hKq => ?_) AllReadyH.nil)
      · go_simp
        go_at_call 8
        refine (todeals _ _ dnd _ dD dA1.out (by omega) dhL).mono ?_
        rintro e v5 ⟨s1b1, s1B1, s1B2, rfl, s1r1, hg⟩
        have s1P1 := Lib.hid (s1r1)
        replace G := Lib.hid (gtr G.out hg)
        replace B0 := Lib.hid (B0.out.keptN hg)
        replace B2 := Lib.hid (B2.out.keptN hg)
        replace kA1 := Lib.hid (kA10.out.kept G.out)
        replace kA2 := Lib.hid (kA20.out.kept G.out)
        replace dA1 := Lib.hid (dA10.out.kept G.out)
        replace hv := Lib.hid (hv0.out.kept G.out)
        replace s0P1 := Lib.hid (s0P1.out.kept hg)
        replace s0P2 := Lib.hid (s0P2.out.kept hg)
        clear hg
        clear s1r1
        refine hKq.out _ _ (⟨B0.out.cell 0, B0.out.cell 1, B0.out.cell 2, B0.out.cell 3, B2.out.cell 0, B2.out.cell 1⟩) (fun hHeld => ?_)
        clear hKq Kq
        refine wpAnyH_ready (rs := [5, 10]) (by kernel_rfl) (by simp) ?_
        refine AllReadyH.cons (o := ⟨some 30, _, _, _, _, _⟩) rfl (fun Kq hKq => ?_) (AllReadyH.cons (o := ⟨some 8, _, _, _, _, _⟩) rfl (fun Kq hKq => ?_) AllReadyH.nil)
        · go_simp
          go_at_call 9
          refine (tohld _ hm hs).mono ?_
          rintro e v6 ⟨rfl, hg⟩
          replace G := Lib.hid (gtr G.out hg)
          replace B0 := Lib.hid (B0.out.keptN hg)
          replace B2 := Lib.hid (B2.out.keptN hg)
          replace kA1 := Lib.hid (kA10.out.kept G.out)
          replace kA2 := Lib.hid (kA20.out.kept G.out)
          replace dA1 := Lib.hid (dA10.out.kept G.out)
          replace hv := Lib.hid (hv0.out.kept G.out)
          replace s0P1 := Lib.hid (s0P1.out.kept hg)
          replace s0P2 := Lib.hid (s0P2.out.kept hg)
          replace s1P1 := Lib.hid (s1P1.out.kept hg)
          clear hg
          refine hKq.out _ _ (⟨B0.out.cell 0, B0.out.cell 1, B0.out.cell 2, B0.out.cell 3, B2.out.cell 0, B2.out.cell 1⟩) (fun hHeld => ?_)
          clear hKq Kq
          refine wpAnyH_ready (rs := [6, 10]) (by kernel_rfl) (by simp) ?_
          refine AllReadyH.cons (o := ⟨some 31, _, _, _, _, _⟩) rfl (fun Kq hKq => ?_) (AllReadyH.cons (o := ⟨some 8, _, _, _, _, _⟩) rfl (fun Kq hKq => ?_) AllReadyH.nil)
          · go_simp
            go_at_call 6
            refine (sfshare _ kneed kmany _ kng _ kzg _ knc _ kzc _ dnd _ (re dD s1B1 s1B2) hm hs s0P1.out s0P2.out s1P1.out (by omega) (by omega) (by omega) dhL).mono ?_
            rintro e v7 ⟨rfl, hg⟩
            rw [fsV_re]; unfold fsV
            replace G := Lib.hid (gtr G.out hg)
            replace B0 := Lib.hid (B0.out.keptN hg)
            replace B2 := Lib.hid (B2.out.keptN hg)
            replace kA1 := Lib.hid (kA10.out.kept G.out)
            replace kA2 := Lib.hid (kA20.out.kept G.out)
            replace dA1 := Lib.hid (dA10.out.kept G.out)
            replace hv := Lib.hid (hv0.out.kept G.out)
            replace s0P1 := Lib.hid (s0P1.out.kept hg)
            replace s0P2 := Lib.hid (s0P2.out.kept hg)
            replace s1P1 := Lib.hid (s1P1.out.kept hg)
            clear hg
            clear s0P1 s0P2 s1P1
            refine hKq.out _ _ (⟨B0.out.cell 0, B0.out.cell 1, B0.out.cell 2, B0.out.cell 3, B2.out.cell 0, B2.out.cell 1⟩) (fun hHeld => ?_)
            clear hKq Kq
            refine wpAnyH_take (i := 7) (oi := ⟨some 24, _, _, _, _, _⟩) (v := ?_) rfl (by kernel_rfl) (by kernel_rfl) (by kernel_rfl) (fun _ _ _ h => h) (Or.inl ⟨by rfl, ?_⟩) (by assumption) ?_
            rotate_left
            · intro w hSw; (try dsimp only at hSw); go_simp; try with_reducible rfl
            simp only [Act.put, List.setIfInBounds_toArray, List.set_cons_zero, List.set_cons_succ]
            refine wpAnyH_take (i := 8) (oi := ⟨some 32, _, _, _, _, _⟩) (v := ?_) rfl (by kernel_rfl) (by kernel_rfl) (by kernel_rfl) (fun _ _ _ h => h) (Or.inl ⟨by rfl, ?_⟩) (by assumption) ?_
            rotate_left
            · intro w hSw; (try dsimp only at hSw); go_simp; try with_reducible rfl
            simp only [Act.put, List.setIfInBounds_toArray, List.set_cons_zero, List.set_cons_succ]
            refine wpAnyH_take (i := 9) (oi := ⟨some 33, _, _, _, _, _⟩) (v := ?_) rfl (by kernel_rfl) (by kernel_rfl) (by kernel_rfl) (fun _ _ _ h => h) (Or.inl ⟨by rfl, ?_⟩) (by assumption) ?_
            rotate_left
            · intro w hSw; (try dsimp only at hSw); go_simp; try with_reducible rfl
            simp only [Act.put, List.setIfInBounds_toArray, List.set_cons_zero, List.set_cons_succ]
            refine wpAnyH_ready (rs := [10]) (by kernel_rfl) (by simp) ?_
            refine AllReadyH.cons (o := ⟨some 8, _, _, _, _, _⟩) rfl (fun Kq hKq => ?_) AllReadyH.nil
            go_simp
            refine Draw.at_alloc ?_
            intro v9 hg hT
            have hzG := G.out.size
            have hzB0 := B0.out.lt
            have hzB2 := B2.out.lt
            generalize (v7).heap.size = Zb at *
            have Z := Lib.hid hT
            replace G := Lib.hid (gtr G.out hg)
            replace B0 := Lib.hid (B0.out.keptN hg)
            replace B2 := Lib.hid (B2.out.keptN hg)
            replace kA1 := Lib.hid (kA10.out.kept G.out)
            replace kA2 := Lib.hid (kA20.out.kept G.out)
            replace dA1 := Lib.hid (dA10.out.kept G.out)
            replace hv := Lib.hid (hv0.out.kept G.out)
            clear hg
            clear hT
            refine hKq.out _ _ (⟨B0.out.cell 0, B0.out.cell 1, B0.out.cell 2, B0.out.cell 3, B2.out.cell 0, B2.out.cell 1⟩) (fun hHeld => ?_)
            clear hKq Kq
            refine wpAnyH_ready (rs := [11]) (by kernel_rfl) (by simp) ?_
            refine AllReadyH.cons (o := ⟨none, _, _, _, _, _⟩) rfl (fun Kq hKq => ?_) AllReadyH.nil
            rw [if_pos (by rfl)]
            refine Draw.wp_store_blk 30 (.tmp 8) (.tmp 32) _ _ _ 30 Z.out rfl rfl rfl rfl (by kernel_rfl) (by simp [Value.oneCell']) rfl ?_
            intro v8 hg hT
            replace Z := Lib.hid hT
            replace G := Lib.hid (grown_new G.out (by omega) hg)
            replace B0 := Lib.hid (B0.out.kept hg (by intro e; have e := Option.some.inj e; omega))
            replace B2 := Lib.hid (B2.out.kept hg (by intro e; have e := Option.some.inj e; omega))
            replace kA1 := Lib.hid (kA10.out.kept G.out)
            replace kA2 := Lib.hid (kA20.out.kept G.out)
            replace dA1 := Lib.hid (dA10.out.kept G.out)
            replace hv := Lib.hid (hv0.out.kept G.out)
            clear hg
            clear hT
            refine hKq.out _ _ (⟨B0.out.cell 0, B0.out.cell 1, B0.out.cell 2, B0.out.cell 3, B2.out.cell 0, B2.out.cell 1⟩) (fun hHeld => ?_)
            clear hKq Kq
            refine wpAnyH_take (i := 12) (oi := ⟨some 9, _, _, _, _, _⟩) (v := ?_) rfl (by kernel_rfl) (by kernel_rfl) (by kernel_rfl) (fun _ _ _ h => h) (Or.inl ⟨by rfl, ?_⟩) (by assumption) ?_
            rotate_left
            · intro w hSw; (try dsimp only at hSw); go_simp; try with_reducible rfl
            simp only [Act.put, List.setIfInBounds_toArray, List.set_cons_zero, List.set_cons_succ]
            refine wpAnyH_done (by kernel_rfl) ?_ _
            clear hHeld hzG hzB0 hzB2
            revert Z; revert hv; revert dA1; revert kA2; revert kA1; revert B2; revert B0; revert G; revert s1B2; revert s1B1; revert s1b1; revert s0b2; revert s0b1; revert Zb; revert v8
            exact hk.out
          · go_simp
            refine Draw.at_alloc ?_
            intro v9 hg hT
            have hzG := G.out.size
            have hzB0 := B0.out.lt
            have hzB2 := B2.out.lt
            generalize (v6).heap.size = Zb at *
            have Z := Lib.hid hT
            replace G := Lib.hid (gtr G.out hg)
            replace B0 := Lib.hid (B0.out.keptN hg)
            replace B2 := Lib.hid (B2.out.keptN hg)
            replace kA1 := Lib.hid (kA10.out.kept G.out)
            replace kA2 := Lib.hid (kA20.out.kept G.out)
            replace dA1 := Lib.hid (dA10.out.kept G.out)
            replace hv := Lib.hid (hv0.out.kept G.out)
            replace s0P1 := Lib.hid (s0P1.out.kept hg)
            replace s0P2 := Lib.hid (s0P2.out.kept hg)
            replace s1P1 := Lib.hid (s1P1.out.kept hg)
            clear hg
            clear hT
            refine hKq.out _ _ (⟨B0.out.cell 0, B0.out.cell 1, B0.out.cell 2, B0.out.cell 3, B2.out.cell 0, B2.out.cell 1⟩) (fun hHeld => ?_)
            clear hKq Kq
            refine wpAnyH_ready (rs := [6]) (by kernel_rfl) (by simp) ?_
            refine AllReadyH.cons (o := ⟨some 31, _, _, _, _, _⟩) rfl (fun Kq hKq => ?_) AllReadyH.nil
            go_simp
            go_at_call 6
            refine (sfshare _ kneed kmany _ kng _ kzg _ knc _ kzc _ dnd _ (re dD s1B1 s1B2) hm hs s0P1.out s0P2.out s1P1.out (by omega) (by omega) (by omega) dhL).mono ?_
            rintro e v7 ⟨rfl, hg⟩
            rw [fsV_re]; unfold fsV
            replace G := Lib.hid (gtr G.out hg)
            replace B0 := Lib.hid (B0.out.keptN hg)
            replace B2 := Lib.hid (B2.out.keptN hg)
            replace kA1 := Lib.hid (kA10.out.kept G.out)
            replace kA2 := Lib.hid (kA20.out.kept G.out)
            replace dA1 := Lib.hid (dA10.out.kept G.out)
            replace hv := Lib.hid (hv0.out.kept G.out)
            replace s0P1 := Lib.hid (s0P1.out.kept hg)
            replace s0P2 := Lib.hid (s0P2.out.kept hg)
            replace s1P1 := Lib.hid (s1P1.out.kept hg)
            replace Z := Lib.hid (Z.out.keptN hg)
            clear hg
            clear s0P1 s0P2 s1P1
            refine hKq.out _ _ (⟨B0.out.cell 0, B0.out.cell 1, B0.out.cell 2, B0.out.cell 3, B2.out.cell 0, B2.out.cell 1⟩) (fun hHeld => ?_)
            clear hKq Kq
            refine wpAnyH_take (i := 7) (oi := ⟨some 24, _, _, _, _, _⟩) (v := ?_) rfl (by kernel_rfl) (by kernel_rfl) (by kernel_rfl) (fun _ _ _ h => h) (Or.inl ⟨by rfl, ?_⟩) (by assumption) ?_
            rotate_left
            · intro w hSw; (try dsimp only at hSw); go_simp; try with_reducible rfl
            simp only [Act.put, List.setIfInBounds_toArray, List.set_cons_zero, List.set_cons_succ]
            refine wpAnyH_take (i := 8) (oi := ⟨some 32, _, _, _, _, _⟩) (v := ?_) rfl (by kernel_rfl) (by kernel_rfl) (by kernel_rfl) (fun _ _ _ h => h) (Or.inl ⟨by rfl, ?_⟩) (by assumption) ?_
            rotate_left
            · intro w hSw; (try dsimp only at hSw); go_simp; try with_reducible rfl
            simp only [Act.put, List.setIfInBounds_toArray, List.set_cons_zero, List.set_cons_succ]
            refine wpAnyH_take (i := 9) (oi := ⟨some 33, _, _, _, _, _⟩) (v := ?_) rfl (by kernel_rfl) (by kernel_rfl) (by kernel_rfl) (fun _ _ _ h => h) (Or.inl ⟨by rfl, ?_⟩) (by assumption) ?_
            rotate_left
            · intro w hSw; (try dsimp only at hSw); go_simp; try with_reducible rfl
            simp only [Act.put, List.setIfInBounds_toArray, List.set_cons_zero, List.set_cons_succ]
            refine wpAnyH_ready (rs := [11]) (by kernel_rfl) (by simp) ?_
            refine AllReadyH.cons (o := ⟨none, _, _, _, _, _⟩) rfl (fun Kq hKq => ?_) AllReadyH.nil
            rw [if_pos (by rfl)]
            refine Draw.wp_store_blk 30 (.tmp 8) (.tmp 32) _ _ _ 30 Z.out rfl rfl rfl rfl (by kernel_rfl) (by simp [Value.oneCell']) rfl ?_
            intro v8 hg hT
            replace Z := Lib.hid hT
            replace G := Lib.hid (grown_new G.out (by omega) hg)
            replace B0 := Lib.hid (B0.out.kept hg (by intro e; have e := Option.some.inj e; omega))
            replace B2 := Lib.hid (B2.out.kept hg (by intro e; have e := Option.some.inj e; omega))
            replace kA1 := Lib.hid (kA10.out.kept G.out)
            replace kA2 := Lib.hid (kA20.out.kept G.out)
            replace dA1 := Lib.hid (dA10.out.kept G.out)
            replace hv := Lib.hid (hv0.out.kept G.out)
            clear hg
            clear hT
            refine hKq.out _ _ (⟨B0.out.cell 0, B0.out.cell 1, B0.out.cell 2, B0.out.cell 3, B2.out.cell 0, B2.out.cell 1⟩) (fun hHeld => ?_)
            clear hKq Kq
            refine wpAnyH_take (i := 12) (oi := ⟨some 9, _, _, _, _, _⟩) (v := ?_) rfl (by kernel_rfl) (by kernel_rfl) (by kernel_rfl) (fun _ _ _ h => h) (Or.inl ⟨by rfl, ?_⟩) (by assumption) ?_
            rotate_left
            · intro w hSw; (try dsimp only at hSw); go_simp; try with_reducible rfl
            simp only [Act.put, List.setIfInBounds_toArray, List.set_cons_zero, List.set_cons_succ]
            refine wpAnyH_done (by kernel_rfl) ?_ _
            clear hHeld hzG hzB0 hzB2
            revert Z; revert hv; revert dA1; revert kA2; revert kA1; revert B2; revert B0; revert G; revert s1B2; revert s1B1; revert s1b1; revert s0b2; revert s0b1; revert Zb; revert v8
            exact hk.out
        · go_simp
          refine Draw.at_alloc ?_
          intro v9 hg hT
          have hzG := G.out.size
          have hzB0 := B0.out.lt
          have hzB2 := B2.out.lt
          generalize (v5).heap.size = Zb at *
          have Z := Lib.hid hT
          replace G := Lib.hid (gtr G.out hg)
          replace B0 := Lib.hid (B0.out.keptN hg)
          replace B2 := Lib.hid (B2.out.keptN hg)
          replace kA1 := Lib.hid (kA10.out.kept G.out)
          replace kA2 := Lib.hid (kA20.out.kept G.out)
          replace dA1 := Lib.hid (dA10.out.kept G.out)
          replace hv := Lib.hid (hv0.out.kept G.out)
          replace s0P1 := Lib.hid (s0P1.out.kept hg)
          replace s0P2 := Lib.hid (s0P2.out.kept hg)
          replace s1P1 := Lib.hid (s1P1.out.kept hg)
          clear hg
          clear hT
          refine hKq.out _ _ (⟨B0.out.cell 0, B0.out.cell 1, B0.out.cell 2, B0.out.cell 3, B2.out.cell 0, B2.out.cell 1⟩) (fun hHeld => ?_)
          clear hKq Kq
          refine wpAnyH_ready (rs := [5]) (by kernel_rfl) (by simp) ?_
          refine AllReadyH.cons (o := ⟨some 30, _, _, _, _, _⟩) rfl (fun Kq hKq => ?_) AllReadyH.nil
          go_simp
          go_at_call 9
          refine (tohld _ hm hs).mono ?_
          rintro e v6 ⟨rfl, hg⟩
          replace G := Lib.hid (gtr G.out hg)
          replace B0 := Lib.hid (B0.out.keptN hg)
          replace B2 := Lib.hid (B2.out.keptN hg)
          replace kA1 := Lib.hid (kA10.out.kept G.out)
          replace kA2 := Lib.hid (kA20.out.kept G.out)
          replace dA1 := Lib.hid (dA10.out.kept G.out)
          replace hv := Lib.hid (hv0.out.kept G.out)
          replace s0P1 := Lib.hid (s0P1.out.kept hg)
          replace s0P2 := Lib.hid (s0P2.out.kept hg)
          replace s1P1 := Lib.hid (s1P1.out.kept hg)
          replace Z := Lib.hid (Z.out.keptN hg)
          clear hg
          refine hKq.out _ _ (⟨B0.out.cell 0, B0.out.cell 1, B0.out.cell 2, B0.out.cell 3, B2.out.cell 0, B2.out.cell 1⟩) (fun hHeld => ?_)
          clear hKq Kq
          refine wpAnyH_ready (rs := [6]) (by kernel_rfl) (by simp) ?_
          refine AllReadyH.cons (o := ⟨some 31, _, _, _, _, _⟩) rfl (fun Kq hKq => ?_) AllReadyH.nil
          go_simp
          go_at_call 6
          refine (sfshare _ kneed kmany _ kng _ kzg _ knc _ kzc _ dnd _ (re dD s1B1 s1B2) hm hs s0P1.out s0P2.out s1P1.out (by omega) (by omega) (by omega) dhL).mono ?_
          rintro e v7 ⟨rfl, hg⟩
          rw [fsV_re]; unfold fsV
          replace G := Lib.hid (gtr G.out hg)
          replace B0 := Lib.hid (B0.out.keptN hg)
          replace B2 := Lib.hid (B2.out.keptN hg)
          replace kA1 := Lib.hid (kA10.out.kept G.out)
          replace kA2 := Lib.hid (kA20.out.kept G.out)
          replace dA1 := Lib.hid (dA10.out.kept G.out)
          replace hv := Lib.hid (hv0.out.kept G.out)
          replace s0P1 := Lib.hid (s0P1.out.kept hg)
          replace s0P2 := Lib.hid (s0P2.out.kept hg)
          replace s1P1 := Lib.hid (s1P1.out.kept hg)
          replace Z := Lib.hid (Z.out.keptN hg)
          clear hg
          clear s0P1 s0P2 s1P1
          refine hKq.out _ _ (⟨B0.out.cell 0, B0.out.cell 1, B0.out.cell 2, B0.out.cell 3, B2.out.cell 0, B2.out.cell 1⟩) (fun hHeld => ?_)
          clear hKq Kq
          refine wpAnyH_take (i := 7) (oi := ⟨some 24, _, _, _, _, _⟩) (v := ?_) rfl (by kernel_rfl) (by kernel_rfl) (by kernel_rfl) (fun _ _ _ h => h) (Or.inl ⟨by rfl, ?_⟩) (by assumption) ?_
          rotate_left
          · intro w hSw; (try dsimp only at hSw); go_simp; try with_reducible rfl
          simp only [Act.put, List.setIfInBounds_toArray, List.set_cons_zero, List.set_cons_succ]
          refine wpAnyH_take (i := 8) (oi := ⟨some 32, _, _, _, _, _⟩) (v := ?_) rfl (by kernel_rfl) (by kernel_rfl) (by kernel_rfl) (fun _ _ _ h => h) (Or.inl ⟨by rfl, ?_⟩) (by assumption) ?_
          rotate_left
          · intro w hSw; (try dsimp only at hSw); go_simp; try with_reducible rfl
          simp only [Act.put, List.setIfInBounds_toArray, List.set_cons_zero, List.set_cons_succ]
          refine wpAnyH_take (i := 9) (oi := ⟨some 33, _, _, _, _, _⟩) (v := ?_) rfl (by kernel_rfl) (by kernel_rfl) (by kernel_rfl) (fun _ _ _ h => h) (Or.inl ⟨by rfl, ?_⟩) (by assumption) ?_
          rotate_left
          · intro w hSw; (try dsimp only at hSw); go_simp; try with_reducible rfl
          simp only [Act.put, List.setIfInBounds_toArray, List.set_cons_zero, List.set_cons_succ]
          refine wpAnyH_ready (rs := [11]) (by kernel_rfl) (by simp) ?_
          refine AllReadyH.cons (o := ⟨none, _, _, _, _, _⟩) rfl (fun Kq hKq => ?_) AllReadyH.nil
          rw [if_pos (by rfl)]
          refine Draw.wp_store_blk 30 (.tmp 8) (.tmp 32) _ _ _ 30 Z.out rfl rfl rfl rfl (by kernel_rfl) (by simp [Value.oneCell']) rfl ?_
          intro v8 hg hT
          replace Z := Lib.hid hT
          replace G := Lib.hid (grown_new G.out (by omega) hg)
          replace B0 := Lib.hid (B0.out.kept hg (by intro e; have e := Option.some.inj e; omega))
          replace B2 := Lib.hid (B2.out.kept hg (by intro e; have e := Option.some.inj e; omega))
          replace kA1 := Lib.hid (kA10.out.kept G.out)
          replace kA2 := Lib.hid (kA20.out.kept G.out)
          replace dA1 := Lib.hid (dA10.out.kept G.out)
          replace hv := Lib.hid (hv0.out.kept G.out)
          clear hg
          clear hT
          refine hKq.out _ _ (⟨B0.out.cell 0, B0.out.cell 1, B0.out.cell 2, B0.out.cell 3, B2.out.cell 0, B2.out.cell 1⟩) (fun hHeld => ?_)
          clear hKq Kq
          refine wpAnyH_take (i := 12) (oi := ⟨some 9, _, _, _, _, _⟩) (v := ?_) rfl (by kernel_rfl) (by kernel_rfl) (by kernel_rfl) (fun _ _ _ h => h) (Or.inl ⟨by rfl, ?_⟩) (by assumption) ?_
          rotate_left
          · intro w hSw; (try dsimp only at hSw); go_simp; try with_reducible rfl
          simp only [Act.put, List.setIfInBounds_toArray, List.set_cons_zero, List.set_cons_succ]
          refine wpAnyH_done (by kernel_rfl) ?_ _
          clear hHeld hzG hzB0 hzB2
          revert Z; revert hv; revert dA1; revert kA2; revert kA1; revert B2; revert B0; revert G; revert s1B2; revert s1B1; revert s1b1; revert s0b2; revert s0b1; revert Zb; revert v8
          exact hk.out
      · go_simp
        refine Draw.at_alloc ?_
        intro v9 hg hT
        have hzG := G.out.size
        have hzB0 := B0.out.lt
        have hzB2 := B2.out.lt
        generalize (v4).heap.size = Zb at *
        have Z := Lib.hid hT
        replace G := Lib.hid (gtr G.out hg)
        replace B0 := Lib.hid (B0.out.keptN hg)
        replace B2 := Lib.hid (B2.out.keptN hg)
        replace kA1 := Lib.hid (kA10.out.kept G.out)
        replace kA2 := Lib.hid (kA20.out.kept G.out)
        replace dA1 := Lib.hid (dA10.out.kept G.out)
        replace hv := Lib.hid (hv0.out.kept G.out)
        replace s0P1 := Lib.hid (s0P1.out.kept hg)
        replace s0P2 := Lib.hid (s0P2.out.kept hg)
        clear hg
        clear hT
        refine hKq.out _ _ (⟨B0.out.cell 0, B0.out.cell 1, B0.out.cell 2, B0.out.cell 3, B2.out.cell 0, B2.out.cell 1⟩) (fun hHeld => ?_)
        clear hKq Kq
        refine wpAnyH_ready (rs := [3]) (by kernel_rfl) (by simp) ?_
        refine AllReadyH.cons (o := ⟨some 28, _, _, _, _, _⟩) rfl (fun Kq hKq => ?_) AllReadyH.nil
        go_simp
        go_at_call 8
        refine (todeals _ _ dnd _ dD dA1.out (by omega) dhL).mono ?_
        rintro e v5 ⟨s1b1, s1B1, s1B2, rfl, s1r1, hg⟩
        have s1P1 := Lib.hid (s1r1)
        replace G := Lib.hid (gtr G.out hg)
        replace B0 := Lib.hid (B0.out.keptN hg)
        replace B2 := Lib.hid (B2.out.keptN hg)
        replace kA1 := Lib.hid (kA10.out.kept G.out)
        replace kA2 := Lib.hid (kA20.out.kept G.out)
        replace dA1 := Lib.hid (dA10.out.kept G.out)
        replace hv := Lib.hid (hv0.out.kept G.out)
        replace s0P1 := Lib.hid (s0P1.out.kept hg)
        replace s0P2 := Lib.hid (s0P2.out.kept hg)
        replace Z := Lib.hid (Z.out.keptN hg)
        clear hg
        clear s1r1
        refine hKq.out _ _ (⟨B0.out.cell 0, B0.out.cell 1, B0.out.cell 2, B0.out.cell 3, B2.out.cell 0, B2.out.cell 1⟩) (fun hHeld => ?_)
        clear hKq Kq
        refine wpAnyH_ready (rs := [5]) (by kernel_rfl) (by simp) ?_
        refine AllReadyH.cons (o := ⟨some 30, _, _, _, _, _⟩) rfl (fun Kq hKq => ?_) AllReadyH.nil
        go_simp
        go_at_call 9
        refine (tohld _ hm hs).mono ?_
        rintro e v6 ⟨rfl, hg⟩
        replace G := Lib.hid (gtr G.out hg)
        replace B0 := Lib.hid (B0.out.keptN hg)
        replace B2 := Lib.hid (B2.out.keptN hg)
        replace kA1 := Lib.hid (kA10.out.kept G.out)
        replace kA2 := Lib.hid (kA20.out.kept G.out)
        replace dA1 := Lib.hid (dA10.out.kept G.out)
        replace hv := Lib.hid (hv0.out.kept G.out)
        replace s0P1 := Lib.hid (s0P1.out.kept hg)
        replace s0P2 := Lib.hid (s0P2.out.kept hg)
        replace Z := Lib.hid (Z.out.keptN hg)
        replace s1P1 := Lib.hid (s1P1.out.kept hg)
        clear hg
        refine hKq.out _ _ (⟨B0.out.cell 0, B0.out.cell 1, B0.out.cell 2, B0.out.cell 3, B2.out.cell 0, B2.out.cell 1⟩) (fun hHeld => ?_)
        clear hKq Kq
        refine wpAnyH_ready (rs := [6]) (by kernel_rfl) (by simp) ?_
        refine AllReadyH.cons (o := ⟨some 31, _, _, _, _, _⟩) rfl (fun Kq hKq => ?_) AllReadyH.nil
        go_simp
        go_at_call 6
        refine (sfshare _ kneed kmany _ kng _ kzg _ knc _ kzc _ dnd _ (re dD s1B1 s1B2) hm hs s0P1.out s0P2.out s1P1.out (by omega) (by omega) (by omega) dhL).mono ?_
        rintro e v7 ⟨rfl, hg⟩
        rw [fsV_re]; unfold fsV
        replace G := Lib.hid (gtr G.out hg)
        replace B0 := Lib.hid (B0.out.keptN hg)
        replace B2 := Lib.hid (B2.out.keptN hg)
        replace kA1 := Lib.hid (kA10.out.kept G.out)
        replace kA2 := Lib.hid (kA20.out.kept G.out)
        replace dA1 := Lib.hid (dA10.out.kept G.out)
        replace hv := Lib.hid (hv0.out.kept G.out)
        replace s0P1 := Lib.hid (s0P1.out.kept hg)
        replace s0P2 := Lib.hid (s0P2.out.kept hg)
        replace Z := Lib.hid (Z.out.keptN hg)
        replace s1P1 := Lib.hid (s1P1.out.kept hg)
        clear hg
        clear s0P1 s0P2 s1P1
        refine hKq.out _ _ (⟨B0.out.cell 0, B0.out.cell 1, B0.out.cell 2, B0.out.cell 3, B2.out.cell 0, B2.out.cell 1⟩) (fun hHeld => ?_)
        clear hKq Kq
        refine wpAnyH_take (i := 7) (oi := ⟨some 24, _, _, _, _, _⟩) (v := ?_) rfl (by kernel_rfl) (by kernel_rfl) (by kernel_rfl) (fun _ _ _ h => h) (Or.inl ⟨by rfl, ?_⟩) (by assumption) ?_
        rotate_left
        · intro w hSw; (try dsimp only at hSw); go_simp; try with_reducible rfl
        simp only [Act.put, List.setIfInBounds_toArray, List.set_cons_zero, List.set_cons_succ]
        refine wpAnyH_take (i := 8) (oi := ⟨some 32, _, _, _, _, _⟩) (v := ?_) rfl (by kernel_rfl) (by kernel_rfl) (by kernel_rfl) (fun _ _ _ h => h) (Or.inl ⟨by rfl, ?_⟩) (by assumption) ?_
        rotate_left
        · intro w hSw; (try dsimp only at hSw); go_simp; try with_reducible rfl
        simp only [Act.put, List.setIfInBounds_toArray, List.set_cons_zero, List.set_cons_succ]
        refine wpAnyH_take (i := 9) (oi := ⟨some 33, _, _, _, _, _⟩) (v := ?_) rfl (by kernel_rfl) (by kernel_rfl) (by kernel_rfl) (fun _ _ _ h => h) (Or.inl ⟨by rfl, ?_⟩) (by assumption) ?_
        rotate_left
        · intro w hSw; (try dsimp only at hSw); go_simp; try with_reducible rfl
        simp only [Act.put, List.setIfInBounds_toArray, List.set_cons_zero, List.set_cons_succ]
        refine wpAnyH_ready (rs := [11]) (by kernel_rfl) (by simp) ?_
        refine AllReadyH.cons (o := ⟨none, _, _, _, _, _⟩) rfl (fun Kq hKq => ?_) AllReadyH.nil
        rw [if_pos (by rfl)]
        refine Draw.wp_store_blk 30 (.tmp 8) (.tmp 32) _ _ _ 30 Z.out rfl rfl rfl rfl (by kernel_rfl) (by simp [Value.oneCell']) rfl ?_
        intro v8 hg hT
        replace Z := Lib.hid hT
        replace G := Lib.hid (grown_new G.out (by omega) hg)
        replace B0 := Lib.hid (B0.out.kept hg (by intro e; have e := Option.some.inj e; omega))
        replace B2 := Lib.hid (B2.out.kept hg (by intro e; have e := Option.some.inj e; omega))
        replace kA1 := Lib.hid (kA10.out.kept G.out)
        replace kA2 := Lib.hid (kA20.out.kept G.out)
        replace dA1 := Lib.hid (dA10.out.kept G.out)
        replace hv := Lib.hid (hv0.out.kept G.out)
        clear hg
        clear hT
        refine hKq.out _ _ (⟨B0.out.cell 0, B0.out.cell 1, B0.out.cell 2, B0.out.cell 3, B2.out.cell 0, B2.out.cell 1⟩) (fun hHeld => ?_)
        clear hKq Kq
        refine wpAnyH_take (i := 12) (oi := ⟨some 9, _, _, _, _, _⟩) (v := ?_) rfl (by kernel_rfl) (by kernel_rfl) (by kernel_rfl) (fun _ _ _ h => h) (Or.inl ⟨by rfl, ?_⟩) (by assumption) ?_
        rotate_left
        · intro w hSw; (try dsimp only at hSw); go_simp; try with_reducible rfl
        simp only [Act.put, List.setIfInBounds_toArray, List.set_cons_zero, List.set_cons_succ]
        refine wpAnyH_done (by kernel_rfl) ?_ _
        clear hHeld hzG hzB0 hzB2
        revert Z; revert hv; revert dA1; revert kA2; revert kA1; revert B2; revert B0; revert G; revert s1B2; revert s1B1; revert s1b1; revert s0b2; revert s0b1; revert Zb; revert v8
        exact hk.out
    · go_simp
      refine Draw.at_alloc ?_
      intro v9 hg hT
      have hzG := G.out.size
      have hzB0 := B0.out.lt
      have hzB2 := B2.out.lt
      generalize (v3).heap.size = Zb at *
      have Z := Lib.hid hT
      replace G := Lib.hid (gtr G.out hg)
      replace B0 := Lib.hid (B0.out.keptN hg)
      replace B2 := Lib.hid (B2.out.keptN hg)
      replace kA1 := Lib.hid (kA10.out.kept G.out)
      replace kA2 := Lib.hid (kA20.out.kept G.out)
      replace dA1 := Lib.hid (dA10.out.kept G.out)
      replace hv := Lib.hid (hv0.out.kept G.out)
      clear hg
      clear hT
      refine hKq.out _ _ (⟨B0.out.cell 0, B0.out.cell 1, B0.out.cell 2, B0.out.cell 3, B2.out.cell 0, B2.out.cell 1⟩) (fun hHeld => ?_)
      clear hKq Kq
      refine wpAnyH_ready (rs := [1]) (by kernel_rfl) (by simp) ?_
      refine AllReadyH.cons (o := ⟨some 26, _, _, _, _, _⟩) rfl (fun Kq hKq => ?_) AllReadyH.nil
      go_simp
      go_at_call 7
      refine (tokey _ kneed kmany _ kng _ kzg _ knc _ kzc kA1.out kA2.out (by omega) (by omega)).mono ?_
      rintro e v4 ⟨s0b1, s0b2, rfl, s0h, s0r1, s0r2, hg⟩
      have s0P1 := Lib.hid (s0r1.ints)
      have s0P2 := Lib.hid (s0r2.ints)
      replace G := Lib.hid (gtr G.out hg)
      replace B0 := Lib.hid (B0.out.keptN hg)
      replace B2 := Lib.hid (B2.out.keptN hg)
      replace kA1 := Lib.hid (kA10.out.kept G.out)
      replace kA2 := Lib.hid (kA20.out.kept G.out)
      replace dA1 := Lib.hid (dA10.out.kept G.out)
      replace hv := Lib.hid (hv0.out.kept G.out)
      replace Z := Lib.hid (Z.out.keptN hg)
      clear hg
      clear s0h s0r1 s0r2
      refine hKq.out _ _ (⟨B0.out.cell 0, B0.out.cell 1, B0.out.cell 2, B0.out.cell 3, B2.out.cell 0, B2.out.cell 1⟩) (fun hHeld => ?_)
      clear hKq Kq
      refine wpAnyH_ready (rs := [3]) (by kernel_rfl) (by simp) ?_
      refine AllReadyH.cons (o := ⟨some 28, _, _, _, _, _⟩) rfl (fun Kq hKq => ?_) AllReadyH.nil
      go_simp
      go_at_call 8
      refine (todeals _ _ dnd _ dD dA1.out (by omega) dhL).mono ?_
      rintro e v5 ⟨s1b1, s1B1, s1B2, rfl, s1r1, hg⟩
      have s1P1 := Lib.hid (s1r1)
      replace G := Lib.hid (gtr G.out hg)
      replace B0 := Lib.hid (B0.out.keptN hg)
      replace B2 := Lib.hid (B2.out.keptN hg)
      replace kA1 := Lib.hid (kA10.out.kept G.out)
      replace kA2 := Lib.hid (kA20.out.kept G.out)
      replace dA1 := Lib.hid (dA10.out.kept G.out)
      replace hv := Lib.hid (hv0.out.kept G.out)
      replace Z := Lib.hid (Z.out.keptN hg)
      replace s0P1 := Lib.hid (s0P1.out.kept hg)
      replace s0P2 := Lib.hid (s0P2.out.kept hg)
      clear hg
      clear s1r1
      refine hKq.out _ _ (⟨B0.out.cell 0, B0.out.cell 1, B0.out.cell 2, B0.out.cell 3, B2.out.cell 0, B2.out.cell 1⟩) (fun hHeld => ?_)
      clear hKq Kq
      refine wpAnyH_ready (rs := [5]) (by kernel_rfl) (by simp) ?_
      refine AllReadyH.cons (o := ⟨some 30, _, _, _, _, _⟩) rfl (fun Kq hKq => ?_) AllReadyH.nil
      go_simp
      go_at_call 9
      refine (tohld _ hm hs).mono ?_
      rintro e v6 ⟨rfl, hg⟩
      replace G := Lib.hid (gtr G.out hg)
      replace B0 := Lib.hid (B0.out.keptN hg)
      replace B2 := Lib.hid (B2.out.keptN hg)
      replace kA1 := Lib.hid (kA10.out.kept G.out)
      replace kA2 := Lib.hid (kA20.out.kept G.out)
      replace dA1 := Lib.hid (dA10.out.kept G.out)
      replace hv := Lib.hid (hv0.out.kept G.out)
      replace Z := Lib.hid (Z.out.keptN hg)
      replace s0P1 := Lib.hid (s0P1.out.kept hg)
      replace s0P2 := Lib.hid (s0P2.out.kept hg)
      replace s1P1 := Lib.hid (s1P1.out.kept hg)
      clear hg
      refine hKq.out _ _ (⟨B0.out.cell 0, B0.out.cell 1, B0.out.cell 2, B0.out.cell 3, B2.out.cell 0, B2.out.cell 1⟩) (fun hHeld => ?_)
      clear hKq Kq
      refine wpAnyH_ready (rs := [6]) (by kernel_rfl) (by simp) ?_
      refine AllReadyH.cons (o := ⟨some 31, _, _, _, _, _⟩) rfl (fun Kq hKq => ?_) AllReadyH.nil
      go_simp
      go_at_call 6
      refine (sfshare _ kneed kmany _ kng _ kzg _ knc _ kzc _ dnd _ (re dD s1B1 s1B2) hm hs s0P1.out s0P2.out s1P1.out (by omega) (by omega) (by omega) dhL).mono ?_
      rintro e v7 ⟨rfl, hg⟩
      rw [fsV_re]; unfold fsV
      replace G := Lib.hid (gtr G.out hg)
      replace B0 := Lib.hid (B0.out.keptN hg)
      replace B2 := Lib.hid (B2.out.keptN hg)
      replace kA1 := Lib.hid (kA10.out.kept G.out)
      replace kA2 := Lib.hid (kA20.out.kept G.out)
      replace dA1 := Lib.hid (dA10.out.kept G.out)
      replace hv := Lib.hid (hv0.out.kept G.out)
      replace Z := Lib.hid (Z.out.keptN hg)
      replace s0P1 := Lib.hid (s0P1.out.kept hg)
      replace s0P2 := Lib.hid (s0P2.out.kept hg)
      replace s1P1 := Lib.hid (s1P1.out.kept hg)
      clear hg
      clear s0P1 s0P2 s1P1
      refine hKq.out _ _ (⟨B0.out.cell 0, B0.out.cell 1, B0.out.cell 2, B0.out.cell 3, B2.out.cell 0, B2.out.cell 1⟩) (fun hHeld => ?_)
      clear hKq Kq
      refine wpAnyH_take (i := 7) (oi := ⟨some 24, _, _, _, _, _⟩) (v := ?_) rfl (by kernel_rfl) (by kernel_rfl) (by kernel_rfl) (fun _ _ _ h => h) (Or.inl ⟨by rfl, ?_⟩) (by assumption) ?_
      rotate_left
      · intro w hSw; (try dsimp only at hSw); go_simp; try with_reducible rfl
      simp only [Act.put, List.setIfInBounds_toArray, List.set_cons_zero, List.set_cons_succ]
      refine wpAnyH_take (i := 8) (oi := ⟨some 32, _, _, _, _, _⟩) (v := ?_) rfl (by kernel_rfl) (by kernel_rfl) (by kernel_rfl) (fun _ _ _ h => h) (Or.inl ⟨by rfl, ?_⟩) (by assumption) ?_
      rotate_left
      · intro w hSw; (try dsimp only at hSw); go_simp; try with_reducible rfl
      simp only [Act.put, List.setIfInBounds_toArray, List.set_cons_zero, List.set_cons_succ]
      refine wpAnyH_take (i := 9) (oi := ⟨some 33, _, _, _, _, _⟩) (v := ?_) rfl (by kernel_rfl) (by kernel_rfl) (by kernel_rfl) (fun _ _ _ h => h) (Or.inl ⟨by rfl, ?_⟩) (by assumption) ?_
      rotate_left
      · intro w hSw; (try dsimp only at hSw); go_simp; try with_reducible rfl
      simp only [Act.put, List.setIfInBounds_toArray, List.set_cons_zero, List.set_cons_succ]
      refine wpAnyH_ready (rs := [11]) (by kernel_rfl) (by simp) ?_
      refine AllReadyH.cons (o := ⟨none, _, _, _, _, _⟩) rfl (fun Kq hKq => ?_) AllReadyH.nil
      rw [if_pos (by rfl)]
      refine Draw.wp_store_blk 30 (.tmp 8) (.tmp 32) _ _ _ 30 Z.out rfl rfl rfl rfl (by kernel_rfl) (by simp [Value.oneCell']) rfl ?_
      intro v8 hg hT
      replace Z := Lib.hid hT
      replace G := Lib.hid (grown_new G.out (by omega) hg)
      replace B0 := Lib.hid (B0.out.kept hg (by intro e; have e := Option.some.inj e; omega))
      replace B2 := Lib.hid (B2.out.kept hg (by intro e; have e := Option.some.inj e; omega))
      replace kA1 := Lib.hid (kA10.out.kept G.out)
      replace kA2 := Lib.hid (kA20.out.kept G.out)
      replace dA1 := Lib.hid (dA10.out.kept G.out)
      replace hv := Lib.hid (hv0.out.kept G.out)
      clear hg
      clear hT
      refine hKq.out _ _ (⟨B0.out.cell 0, B0.out.cell 1, B0.out.cell 2, B0.out.cell 3, B2.out.cell 0, B2.out.cell 1⟩) (fun hHeld => ?_)
      clear hKq Kq
      refine wpAnyH_take (i := 12) (oi := ⟨some 9, _, _, _, _, _⟩) (v := ?_) rfl (by kernel_rfl) (by kernel_rfl) (by kernel_rfl) (fun _ _ _ h => h) (Or.inl ⟨by rfl, ?_⟩) (by assumption) ?_
      rotate_left
      · intro w hSw; (try dsimp only at hSw); go_simp; try with_reducible rfl
      simp only [Act.put, List.setIfInBounds_toArray, List.set_cons_zero, List.set_cons_succ]
      refine wpAnyH_done (by kernel_rfl) ?_ _
      clear hHeld hzG hzB0 hzB2
      revert Z; revert hv; revert dA1; revert kA2; revert kA1; revert B2; revert B0; revert G; revert s1B2; revert s1B1; revert s1b1; revert s0b2; revert s0b1; revert Zb; revert v8
      exact hk.out
  case rest =>
    clear G B0 B2 kA1 kA2 dA1 hv
    intro v10 Zb s0b1 s0b2 s1b1 s1B1 s1B2 G B0 B2 kA1 kA2 dA1 hv Z
    have B0_0 : World.cell? _ ⟨w.heap.size, 0, none⟩ = some (.int .i64 kneed) := B0.out.cell 0
    have B0_1 : World.cell? _ ⟨w.heap.size, 1, none⟩ = some (.int .i64 kmany) := B0.out.cell 1
    have B0_2 : World.cell? _ ⟨w.heap.size, 2, none⟩ = some (.slice kag kng kcg) := B0.out.cell 2
    have B0_3 : World.cell? _ ⟨w.heap.size, 3, none⟩ = some (.slice kac knc kcc) := B0.out.cell 3
    have B0_l := B0.out.lt
    have B2_0 : World.cell? _ ⟨w.heap.size + 1, 0, none⟩ = some (.int .i64 hm) := B2.out.cell 0
    have B2_1 : World.cell? _ ⟨w.heap.size + 1, 1, none⟩ = some (.int .i64 hs) := B2.out.cell 1
    have B2_l := B2.out.lt
    have Z_0 : World.cell? _ ⟨Zb, 0, none⟩ = some (.int .i64 (fsM kneed kmany kng kzg knc kzc dD dnd hm hs)) := Z.out.cell 0
    have Z_1 : World.cell? _ ⟨Zb, 1, none⟩ = some (.int .i64 (fsS kneed kmany kng kzg knc kzc dD dnd hm hs)) := Z.out.cell 1
    have Z_l := Z.out.lt
    go_wp2_with fail
    refine (tokey _ kneed kmany _ kng _ kzg _ knc _ kzc kA1.out kA2.out (by omega) (by omega)).mono ?_
    rintro e v11 ⟨x0b1, x0b2, rfl, x0h, x0r1, x0r2, hg⟩
    clear B0_0 B0_1 B0_2 B0_3 B2_0 B2_1 Z_0 Z_1 B0_l B2_l Z_l
    replace G := Lib.hid (gtr G.out hg)
    replace B0 := Lib.hid (B0.out.keptN hg)
    replace B2 := Lib.hid (B2.out.keptN hg)
    replace kA1 := Lib.hid (kA10.out.kept G.out)
    replace kA2 := Lib.hid (kA20.out.kept G.out)
    replace dA1 := Lib.hid (dA10.out.kept G.out)
    replace hv := Lib.hid (hv0.out.kept G.out)
    replace Z := Lib.hid (Z.out.keptN hg)
    clear hg
    have Cx0 := Lib.hid (Draw.grown_refl v11 none)
    have x0P1 := Lib.hid (x0r1.ints)
    have x0P10 := x0P1
    have x0P2 := Lib.hid (x0r2.ints)
    have x0P20 := x0P2
    clear x0h x0r1 x0r2
    have hg := Draw.grown_alloc v11 (.cells #[.int .i64 kneed, .int .i64 kmany, .slice (some ⟨x0b1, 0, none⟩) kng kng, .slice (some ⟨x0b2, 0, none⟩) knc knc] 33) none
    have Y0 := Lib.hid (Blk.new v11 #[.int .i64 kneed, .int .i64 kmany, .slice (some ⟨x0b1, 0, none⟩) kng kng, .slice (some ⟨x0b2, 0, none⟩) knc knc] 33)
    replace G := Lib.hid (gtr G.out hg)
    replace B0 := Lib.hid (B0.out.keptN hg)
    replace B2 := Lib.hid (B2.out.keptN hg)
    replace kA1 := Lib.hid (kA10.out.kept G.out)
    replace kA2 := Lib.hid (kA20.out.kept G.out)
    replace dA1 := Lib.hid (dA10.out.kept G.out)
    replace hv := Lib.hid (hv0.out.kept G.out)
    replace Z := Lib.hid (Z.out.keptN hg)
    replace Cx0 := Lib.hid (gtr Cx0.out hg)
    replace x0P1 := Lib.hid (x0P10.out.kept Cx0.out)
    replace x0P2 := Lib.hid (x0P20.out.kept Cx0.out)
    clear hg
    have B0_0 : World.cell? _ ⟨w.heap.size, 0, none⟩ = some (.int .i64 kneed) := B0.out.cell 0
    have B0_1 : World.cell? _ ⟨w.heap.size, 1, none⟩ = some (.int .i64 kmany) := B0.out.cell 1
    have B0_2 : World.cell? _ ⟨w.heap.size, 2, none⟩ = some (.slice kag kng kcg) := B0.out.cell 2
    have B0_3 : World.cell? _ ⟨w.heap.size, 3, none⟩ = some (.slice kac knc kcc) := B0.out.cell 3
    have B0_l := B0.out.lt
    have B2_0 : World.cell? _ ⟨w.heap.size + 1, 0, none⟩ = some (.int .i64 hm) := B2.out.cell 0
    have B2_1 : World.cell? _ ⟨w.heap.size + 1, 1, none⟩ = some (.int .i64 hs) := B2.out.cell 1
    have B2_l := B2.out.lt
    have Z_0 : World.cell? _ ⟨Zb, 0, none⟩ = some (.int .i64 (fsM kneed kmany kng kzg knc kzc dD dnd hm hs)) := Z.out.cell 0
    have Z_1 : World.cell? _ ⟨Zb, 1, none⟩ = some (.int .i64 (fsS kneed kmany kng kzg knc kzc dD dnd hm hs)) := Z.out.cell 1
    have Z_l := Z.out.lt
    have Y0_0 : World.cell? _ ⟨v11.heap.size, 0, none⟩ = some (.int .i64 kneed) := Y0.out.cell 0
    have Y0_1 : World.cell? _ ⟨v11.heap.size, 1, none⟩ = some (.int .i64 kmany) := Y0.out.cell 1
    have Y0_2 : World.cell? _ ⟨v11.heap.size, 2, none⟩ = some (.slice (some ⟨x0b1, 0, none⟩) kng kng) := Y0.out.cell 2
    have Y0_3 : World.cell? _ ⟨v11.heap.size, 3, none⟩ = some (.slice (some ⟨x0b2, 0, none⟩) knc knc) := Y0.out.cell 3
    have Y0_l := Y0.out.lt
    go_wp2_with fail
    refine (todeals _ _ dnd _ dD dA1.out (by omega) dhL).mono ?_
    rintro e v12 ⟨x1b1, x1B1, x1B2, rfl, x1r1, hg⟩
    clear B0_0 B0_1 B0_2 B0_3 B2_0 B2_1 Z_0 Z_1 Y0_0 Y0_1 Y0_2 Y0_3 B0_l B2_l Z_l Y0_l
    replace G := Lib.hid (gtr G.out hg)
    replace B0 := Lib.hid (B0.out.keptN hg)
    replace B2 := Lib.hid (B2.out.keptN hg)
    replace kA1 := Lib.hid (kA10.out.kept G.out)
    replace kA2 := Lib.hid (kA20.out.kept G.out)
    replace dA1 := Lib.hid (dA10.out.kept G.out)
    replace hv := Lib.hid (hv0.out.kept G.out)
    replace Z := Lib.hid (Z.out.keptN hg)
    replace Cx0 := Lib.hid (gtr Cx0.out hg)
    replace x0P1 := Lib.hid (x0P10.out.kept Cx0.out)
    replace x0P2 := Lib.hid (x0P20.out.kept Cx0.out)
    replace Y0 := Lib.hid (Y0.out.keptN hg)
    clear hg
    have Cx1 := Lib.hid (Draw.grown_refl v12 none)
    have x1P1 := Lib.hid (x1r1)
    have x1P10 := x1P1
    clear x1r1
    have B0_0 : World.cell? _ ⟨w.heap.size, 0, none⟩ = some (.int .i64 kneed) := B0.out.cell 0
    have B0_1 : World.cell? _ ⟨w.heap.size, 1, none⟩ = some (.int .i64 kmany) := B0.out.cell 1
    have B0_2 : World.cell? _ ⟨w.heap.size, 2, none⟩ = some (.slice kag kng kcg) := B0.out.cell 2
    have B0_3 : World.cell? _ ⟨w.heap.size, 3, none⟩ = some (.slice kac knc kcc) := B0.out.cell 3
    have B0_l := B0.out.lt
    have B2_0 : World.cell? _ ⟨w.heap.size + 1, 0, none⟩ = some (.int .i64 hm) := B2.out.cell 0
    have B2_1 : World.cell? _ ⟨w.heap.size + 1, 1, none⟩ = some (.int .i64 hs) := B2.out.cell 1
    have B2_l := B2.out.lt
    have Z_0 : World.cell? _ ⟨Zb, 0, none⟩ = some (.int .i64 (fsM kneed kmany kng kzg knc kzc dD dnd hm hs)) := Z.out.cell 0
    have Z_1 : World.cell? _ ⟨Zb, 1, none⟩ = some (.int .i64 (fsS kneed kmany kng kzg knc kzc dD dnd hm hs)) := Z.out.cell 1
    have Z_l := Z.out.lt
    have Y0_0 : World.cell? _ ⟨v11.heap.size, 0, none⟩ = some (.int .i64 kneed) := Y0.out.cell 0
    have Y0_1 : World.cell? _ ⟨v11.heap.size, 1, none⟩ = some (.int .i64 kmany) := Y0.out.cell 1
    have Y0_2 : World.cell? _ ⟨v11.heap.size, 2, none⟩ = some (.slice (some ⟨x0b1, 0, none⟩) kng kng) := Y0.out.cell 2
    have Y0_3 : World.cell? _ ⟨v11.heap.size, 3, none⟩ = some (.slice (some ⟨x0b2, 0, none⟩) knc knc) := Y0.out.cell 3
    have Y0_l := Y0.out.lt
    go_wp2_with fail
    clear B0_0 B0_1 B0_2 B0_3 B2_0 B2_1 Z_0 Z_1 Y0_0 Y0_1 Y0_2 Y0_3 B0_l B2_l Z_l Y0_l
    refine' (fun (hk : Draw.Later _) => ?main) (Draw.Later.mk ?rest)
    case main =>
      refine wp_region_held_drew (S := (fun w' => w'.cell? ⟨w.heap.size, 0, none⟩ = some (.int .i64 kneed) ∧ w'.cell? ⟨w.heap.size, 1, none⟩ = some (.int .i64 kmany) ∧ w'.cell? ⟨w.heap.size, 2, none⟩ = some (.slice kag kng kcg) ∧ w'.cell? ⟨w.heap.size, 3, none⟩ = some (.slice kac knc kcc) ∧ w'.cell? ⟨w.heap.size + 1, 0, none⟩ = some (.int .i64 hm) ∧ w'.cell? ⟨w.heap.size + 1, 1, none⟩ = some (.int .i64 hs) ∧ w'.cell? ⟨Zb, 0, none⟩ = some (.int .i64 (fsM kneed kmany kng kzg knc kzc dD dnd hm hs)) ∧ w'.cell? ⟨Zb, 1, none⟩ = some (.int .i64 (fsS kneed kmany kng kzg knc kzc dD dnd hm hs)) ∧ w'.cell? ⟨v11.heap.size, 0, none⟩ = some (.int .i64 kneed) ∧ w'.cell? ⟨v11.heap.size, 1, none⟩ = some (.int .i64 kmany) ∧ w'.cell? ⟨v11.heap.size, 2, none⟩ = some (.slice (some ⟨x0b1, 0, none⟩) kng kng) ∧ w'.cell? ⟨v11.heap.size, 3, none⟩ = some (.slice (some ⟨x0b2, 0, none⟩) knc knc))) (by kernel_rfl) (⟨B0.out.cell 0, B0.out.cell 1, B0.out.cell 2, B0.out.cell 3, B2.out.cell 0, B2.out.cell 1, Z.out.cell 0, Z.out.cell 1, Y0.out.cell 0, Y0.out.cell 1, Y0.out.cell 2, Y0.out.cell 3⟩) (fun hHeld => ?_)
      have hg := Draw.gdrew v12
      replace G := Lib.hid (gtr G.out hg)
      replace B0 := Lib.hid (B0.out.keptN hg)
      replace B2 := Lib.hid (B2.out.keptN hg)
      replace kA1 := Lib.hid (kA10.out.kept G.out)
      replace kA2 := Lib.hid (kA20.out.kept G.out)
      replace dA1 := Lib.hid (dA10.out.kept G.out)
      replace hv := Lib.hid (hv0.out.kept G.out)
      replace Z := Lib.hid (Z.out.keptN hg)
      replace Cx0 := Lib.hid (gtr Cx0.out hg)
      replace x0P1 := Lib.hid (x0P10.out.kept Cx0.out)
      replace x0P2 := Lib.hid (x0P20.out.kept Cx0.out)
      replace Y0 := Lib.hid (Y0.out.keptN hg)
      replace Cx1 := Lib.hid (gtr Cx1.out hg)
      replace x1P1 := Lib.hid (x1P10.out.kept Cx1.out)
      clear hg
      generalize (v12).drew = v13 at *
      refine wpAnyH_take (i := 0) (oi := ⟨some 39, _, _, _, _, _⟩) (v := ?_) rfl (by kernel_rfl) (by kernel_rfl) (by kernel_rfl) (fun _ _ _ h => h) (Or.inl ⟨by rfl, ?_⟩) (by assumption) ?_
      rotate_left
      · intro w hSw; (try dsimp only at hSw); go_simp; try with_reducible rfl
      simp only [Act.put, List.setIfInBounds_toArray, List.set_cons_zero, List.set_cons_succ]
      refine wpAnyH_take (i := 1) (oi := ⟨some 40, _, _, _, _, _⟩) (v := ?_) rfl (by kernel_rfl) (by kernel_rfl) (by kernel_rfl) (fun _ _ _ h => h) (Or.inl ⟨by rfl, ?_⟩) (by assumption) ?_
      rotate_left
      · intro w hSw; (try dsimp only at hSw); go_simp; try with_reducible rfl
      simp only [Act.put, List.setIfInBounds_toArray, List.set_cons_zero, List.set_cons_succ]
      refine wpAnyH_take (i := 2) (oi := ⟨some 41, _, _, _, _, _⟩) (v := ?_) rfl (by kernel_rfl) (by kernel_rfl) (by kernel_rfl) (fun _ _ _ h => h) (Or.inl ⟨by rfl, ?_⟩) (by assumption) ?_
      rotate_left
      · intro w hSw; (try dsimp only at hSw); go_simp; try with_reducible rfl
      simp only [Act.put, List.setIfInBounds_toArray, List.set_cons_zero, List.set_cons_succ]
      refine wpAnyH_ready (rs := [3, 8]) (by kernel_rfl) (by simp) ?_
      refine AllReadyH.cons (o := ⟨some 42, _, _, _, _, _⟩) rfl (fun Kq hKq => ?_) (AllReadyH.cons (o := ⟨some 12, _, _, _, _, _⟩) rfl (fun Kq hKq => ?_) AllReadyH.nil)
      · go_simp
        go_at_call 9
        refine (tohld _ hm hs).mono ?_
        rintro e v14 ⟨rfl, hg⟩
        replace G := Lib.hid (gtr G.out hg)
        replace B0 := Lib.hid (B0.out.keptN hg)
        replace B2 := Lib.hid (B2.out.keptN hg)
        replace kA1 := Lib.hid (kA10.out.kept G.out)
        replace kA2 := Lib.hid (kA20.out.kept G.out)
        replace dA1 := Lib.hid (dA10.out.kept G.out)
        replace hv := Lib.hid (hv0.out.kept G.out)
        replace Z := Lib.hid (Z.out.keptN hg)
        replace Cx0 := Lib.hid (gtr Cx0.out hg)
        replace x0P1 := Lib.hid (x0P10.out.kept Cx0.out)
        replace x0P2 := Lib.hid (x0P20.out.kept Cx0.out)
        replace Y0 := Lib.hid (Y0.out.keptN hg)
        replace Cx1 := Lib.hid (gtr Cx1.out hg)
        replace x1P1 := Lib.hid (x1P10.out.kept Cx1.out)
        clear hg
        refine hKq.out _ _ (⟨B0.out.cell 0, B0.out.cell 1, B0.out.cell 2, B0.out.cell 3, B2.out.cell 0, B2.out.cell 1, Z.out.cell 0, Z.out.cell 1, Y0.out.cell 0, Y0.out.cell 1, Y0.out.cell 2, Y0.out.cell 3⟩) (fun hHeld => ?_)
        clear hKq Kq
        refine wpAnyH_ready (rs := [4, 8]) (by kernel_rfl) (by simp) ?_
        refine AllReadyH.cons (o := ⟨some 43, _, _, _, _, _⟩) rfl (fun Kq hKq => ?_) (AllReadyH.cons (o := ⟨some 12, _, _, _, _, _⟩) rfl (fun Kq hKq => ?_) AllReadyH.nil)
        · go_simp
          go_at_call 10
          refine (ifshare _ kneed kmany _ kng _ kzg _ knc _ kzc _ dnd _ (re dD x1B1 x1B2) hm hs x0P1.out x0P2.out x1P1.out (by omega) (by omega) (by omega) dhL ad hv.out).mono ?_
          rintro e v15 ⟨rfl, hg⟩
          rw [fsV_re]; unfold fsV
          replace G := Lib.hid (gtr G.out hg)
          replace B0 := Lib.hid (B0.out.keptN hg)
          replace B2 := Lib.hid (B2.out.keptN hg)
          replace kA1 := Lib.hid (kA10.out.kept G.out)
          replace kA2 := Lib.hid (kA20.out.kept G.out)
          replace dA1 := Lib.hid (dA10.out.kept G.out)
          replace hv := Lib.hid (hv0.out.kept G.out)
          replace Z := Lib.hid (Z.out.keptN hg)
          replace Cx0 := Lib.hid (gtr Cx0.out hg)
          replace x0P1 := Lib.hid (x0P10.out.kept Cx0.out)
          replace x0P2 := Lib.hid (x0P20.out.kept Cx0.out)
          replace Y0 := Lib.hid (Y0.out.keptN hg)
          replace Cx1 := Lib.hid (gtr Cx1.out hg)
          replace x1P1 := Lib.hid (x1P10.out.kept Cx1.out)
          clear hg
          refine hKq.out _ _ (⟨B0.out.cell 0, B0.out.cell 1, B0.out.cell 2, B0.out.cell 3, B2.out.cell 0, B2.out.cell 1, Z.out.cell 0, Z.out.cell 1, Y0.out.cell 0, Y0.out.cell 1, Y0.out.cell 2, Y0.out.cell 3⟩) (fun hHeld => ?_)
          clear hKq Kq
          refine wpAnyH_take (i := 5) (oi := ⟨some 38, _, _, _, _, _⟩) (v := ?_) rfl (by kernel_rfl) (by kernel_rfl) (by kernel_rfl) (fun _ _ _ h => h) (Or.inl ⟨by rfl, ?_⟩) (by assumption) ?_
          rotate_left
          · intro w hSw; (try dsimp only at hSw); go_simp; try with_reducible rfl
          simp only [Act.put, List.setIfInBounds_toArray, List.set_cons_zero, List.set_cons_succ]
          refine wpAnyH_take (i := 6) (oi := ⟨some 44, _, _, _, _, _⟩) (v := ?_) rfl (by kernel_rfl) (by kernel_rfl) (by kernel_rfl) (fun _ _ _ h => h) (Or.inl ⟨by rfl, ?_⟩) (by assumption) ?_
          rotate_left
          · intro w hSw; (try dsimp only at hSw); go_simp; try with_reducible rfl
          simp only [Act.put, List.setIfInBounds_toArray, List.set_cons_zero, List.set_cons_succ]
          refine wpAnyH_take (i := 7) (oi := ⟨some 45, _, _, _, _, _⟩) (v := ?_) rfl (by kernel_rfl) (by kernel_rfl) (by kernel_rfl) (fun _ _ _ h => h) (Or.inl ⟨by rfl, ?_⟩) (by assumption) ?_
          rotate_left
          · intro w hSw; (try dsimp only at hSw); go_simp; try with_reducible rfl
          simp only [Act.put, List.setIfInBounds_toArray, List.set_cons_zero, List.set_cons_succ]
          refine wpAnyH_ready (rs := [8]) (by kernel_rfl) (by simp) ?_
          refine AllReadyH.cons (o := ⟨some 12, _, _, _, _, _⟩) rfl (fun Kq hKq => ?_) AllReadyH.nil
          go_simp
          refine Draw.at_alloc ?_
          intro v17 hg hT
          have hzG := G.out.size
          have hzCx0 := Cx0.out.size
          have hzCx1 := Cx1.out.size
          have hzB0 := B0.out.lt
          have hzB2 := B2.out.lt
          have hzZ := Z.out.lt
          have hzY0 := Y0.out.lt
          generalize (v15).heap.size = Qb at *
          have Q := Lib.hid hT
          replace G := Lib.hid (gtr G.out hg)
          replace B0 := Lib.hid (B0.out.keptN hg)
          replace B2 := Lib.hid (B2.out.keptN hg)
          replace kA1 := Lib.hid (kA10.out.kept G.out)
          replace kA2 := Lib.hid (kA20.out.kept G.out)
          replace dA1 := Lib.hid (dA10.out.kept G.out)
          replace hv := Lib.hid (hv0.out.kept G.out)
          replace Z := Lib.hid (Z.out.keptN hg)
          replace Cx0 := Lib.hid (gtr Cx0.out hg)
          replace x0P1 := Lib.hid (x0P10.out.kept Cx0.out)
          replace x0P2 := Lib.hid (x0P20.out.kept Cx0.out)
          replace Y0 := Lib.hid (Y0.out.keptN hg)
          replace Cx1 := Lib.hid (gtr Cx1.out hg)
          replace x1P1 := Lib.hid (x1P10.out.kept Cx1.out)
          clear hg
          clear hT
          refine hKq.out _ _ (⟨B0.out.cell 0, B0.out.cell 1, B0.out.cell 2, B0.out.cell 3, B2.out.cell 0, B2.out.cell 1, Z.out.cell 0, Z.out.cell 1, Y0.out.cell 0, Y0.out.cell 1, Y0.out.cell 2, Y0.out.cell 3⟩) (fun hHeld => ?_)
          clear hKq Kq
          refine wpAnyH_ready (rs := [9]) (by kernel_rfl) (by simp) ?_
          refine AllReadyH.cons (o := ⟨none, _, _, _, _, _⟩) rfl (fun Kq hKq => ?_) AllReadyH.nil
          rw [if_pos (by rfl)]
          refine Draw.wp_store_blk 30 (.tmp 12) (.tmp 44) _ _ _ 30 Q.out rfl rfl rfl rfl (by kernel_rfl) (by simp [Value.oneCell']) rfl ?_
          intro v16 hg hT
          replace Q := Lib.hid hT
          replace G := Lib.hid (grown_new G.out (by omega) hg)
          replace B0 := Lib.hid (B0.out.kept hg (by intro e; have e := Option.some.inj e; omega))
          replace B2 := Lib.hid (B2.out.kept hg (by intro e; have e := Option.some.inj e; omega))
          replace kA1 := Lib.hid (kA10.out.kept G.out)
          replace kA2 := Lib.hid (kA20.out.kept G.out)
          replace dA1 := Lib.hid (dA10.out.kept G.out)
          replace hv := Lib.hid (hv0.out.kept G.out)
          replace Z := Lib.hid (Z.out.kept hg (by intro e; have e := Option.some.inj e; omega))
          replace Cx0 := Lib.hid (grown_new Cx0.out (by omega) hg)
          replace x0P1 := Lib.hid (x0P10.out.kept Cx0.out)
          replace x0P2 := Lib.hid (x0P20.out.kept Cx0.out)
          replace Y0 := Lib.hid (Y0.out.kept hg (by intro e; have e := Option.some.inj e; omega))
          replace Cx1 := Lib.hid (grown_new Cx1.out (by omega) hg)
          replace x1P1 := Lib.hid (x1P10.out.kept Cx1.out)
          clear hg
          clear hT
          refine hKq.out _ _ (⟨B0.out.cell 0, B0.out.cell 1, B0.out.cell 2, B0.out.cell 3, B2.out.cell 0, B2.out.cell 1, Z.out.cell 0, Z.out.cell 1, Y0.out.cell 0, Y0.out.cell 1, Y0.out.cell 2, Y0.out.cell 3⟩) (fun hHeld => ?_)
          clear hKq Kq
          refine wpAnyH_take (i := 10) (oi := ⟨some 13, _, _, _, _, _⟩) (v := ?_) rfl (by kernel_rfl) (by kernel_rfl) (by kernel_rfl) (fun _ _ _ h => h) (Or.inl ⟨by rfl, ?_⟩) (by assumption) ?_
          rotate_left
          · intro w hSw; (try dsimp only at hSw); go_simp; try with_reducible rfl
          simp only [Act.put, List.setIfInBounds_toArray, List.set_cons_zero, List.set_cons_succ]
          refine wpAnyH_done (by kernel_rfl) ?_ _
          clear hHeld hzG hzCx0 hzCx1 hzB0 hzB2 hzZ hzY0
          revert Q; revert x1P1; revert Cx1; revert Y0; revert x0P2; revert x0P1; revert Cx0; revert Z; revert hv; revert dA1; revert kA2; revert kA1; revert B2; revert B0; revert G; revert Qb; revert v16
          exact hk.out
        · go_simp
          refine Draw.at_alloc ?_
          intro v17 hg hT
          have hzG := G.out.size
          have hzCx0 := Cx0.out.size
          have hzCx1 := Cx1.out.size
          have hzB0 := B0.out.lt
          have hzB2 := B2.out.lt
          have hzZ := Z.out.lt
          have hzY0 := Y0.out.lt
          generalize (v14).heap.size = Qb at *
          have Q := Lib.hid hT
          replace G := Lib.hid (gtr G.out hg)
          replace B0 := Lib.hid (B0.out.keptN hg)
          replace B2 := Lib.hid (B2.out.keptN hg)
          replace kA1 := Lib.hid (kA10.out.kept G.out)
          replace kA2 := Lib.hid (kA20.out.kept G.out)
          replace dA1 := Lib.hid (dA10.out.kept G.out)
          replace hv := Lib.hid (hv0.out.kept G.out)
          replace Z := Lib.hid (Z.out.keptN hg)
          replace Cx0 := Lib.hid (gtr Cx0.out hg)
          replace x0P1 := Lib.hid (x0P10.out.kept Cx0.out)
          replace x0P2 := Lib.hid (x0P20.out.kept Cx0.out)
          replace Y0 := Lib.hid (Y0.out.keptN hg)
          replace Cx1 := Lib.hid (gtr Cx1.out hg)
          replace x1P1 := Lib.hid (x1P10.out.kept Cx1.out)
          clear hg
          clear hT
          refine hKq.out _ _ (⟨B0.out.cell 0, B0.out.cell 1, B0.out.cell 2, B0.out.cell 3, B2.out.cell 0, B2.out.cell 1, Z.out.cell 0, Z.out.cell 1, Y0.out.cell 0, Y0.out.cell 1, Y0.out.cell 2, Y0.out.cell 3⟩) (fun hHeld => ?_)
          clear hKq Kq
          refine wpAnyH_ready (rs := [4]) (by kernel_rfl) (by simp) ?_
          refine AllReadyH.cons (o := ⟨some 43, _, _, _, _, _⟩) rfl (fun Kq hKq => ?_) AllReadyH.nil
          go_simp
          go_at_call 10
          refine (ifshare _ kneed kmany _ kng _ kzg _ knc _ kzc _ dnd _ (re dD x1B1 x1B2) hm hs x0P1.out x0P2.out x1P1.out (by omega) (by omega) (by omega) dhL ad hv.out).mono ?_
          rintro e v15 ⟨rfl, hg⟩
          rw [fsV_re]; unfold fsV
          replace G := Lib.hid (gtr G.out hg)
          replace B0 := Lib.hid (B0.out.keptN hg)
          replace B2 := Lib.hid (B2.out.keptN hg)
          replace kA1 := Lib.hid (kA10.out.kept G.out)
          replace kA2 := Lib.hid (kA20.out.kept G.out)
          replace dA1 := Lib.hid (dA10.out.kept G.out)
          replace hv := Lib.hid (hv0.out.kept G.out)
          replace Z := Lib.hid (Z.out.keptN hg)
          replace Cx0 := Lib.hid (gtr Cx0.out hg)
          replace x0P1 := Lib.hid (x0P10.out.kept Cx0.out)
          replace x0P2 := Lib.hid (x0P20.out.kept Cx0.out)
          replace Y0 := Lib.hid (Y0.out.keptN hg)
          replace Cx1 := Lib.hid (gtr Cx1.out hg)
          replace x1P1 := Lib.hid (x1P10.out.kept Cx1.out)
          replace Q := Lib.hid (Q.out.keptN hg)
          clear hg
          refine hKq.out _ _ (⟨B0.out.cell 0, B0.out.cell 1, B0.out.cell 2, B0.out.cell 3, B2.out.cell 0, B2.out.cell 1, Z.out.cell 0, Z.out.cell 1, Y0.out.cell 0, Y0.out.cell 1, Y0.out.cell 2, Y0.out.cell 3⟩) (fun hHeld => ?_)
          clear hKq Kq
          refine wpAnyH_take (i := 5) (oi := ⟨some 38, _, _, _, _, _⟩) (v := ?_) rfl (by kernel_rfl) (by kernel_rfl) (by kernel_rfl) (fun _ _ _ h => h) (Or.inl ⟨by rfl, ?_⟩) (by assumption) ?_
          rotate_left
          · intro w hSw; (try dsimp only at hSw); go_simp; try with_reducible rfl
          simp only [Act.put, List.setIfInBounds_toArray, List.set_cons_zero, List.set_cons_succ]
          refine wpAnyH_take (i := 6) (oi := ⟨some 44, _, _, _, _, _⟩) (v := ?_) rfl (by kernel_rfl) (by kernel_rfl) (by kernel_rfl) (fun _ _ _ h => h) (Or.inl ⟨by rfl, ?_⟩) (by assumption) ?_
          rotate_left
          · intro w hSw; (try dsimp only at hSw); go_simp; try with_reducible rfl
          simp only [Act.put, List.setIfInBounds_toArray, List.set_cons_zero, List.set_cons_succ]
          refine wpAnyH_take (i := 7) (oi := ⟨some 45, _, _, _, _, _⟩) (v := ?_) rfl (by kernel_rfl) (by kernel_rfl) (by kernel_rfl) (fun _ _ _ h => h) (Or.inl ⟨by rfl, ?_⟩) (by assumption) ?_
          rotate_left
          · intro w hSw; (try dsimp only at hSw); go_simp; try with_reducible rfl
          simp only [Act.put, List.setIfInBounds_toArray, List.set_cons_zero, List.set_cons_succ]
          refine wpAnyH_ready (rs := [9]) (by kernel_rfl) (by simp) ?_
          refine AllReadyH.cons (o := ⟨none, _, _, _, _, _⟩) rfl (fun Kq hKq => ?_) AllReadyH.nil
          rw [if_pos (by rfl)]
          refine Draw.wp_store_blk 30 (.tmp 12) (.tmp 44) _ _ _ 30 Q.out rfl rfl rfl rfl (by kernel_rfl) (by simp [Value.oneCell']) rfl ?_
          intro v16 hg hT
          replace Q := Lib.hid hT
          replace G := Lib.hid (grown_new G.out (by omega) hg)
          replace B0 := Lib.hid (B0.out.kept hg (by intro e; have e := Option.some.inj e; omega))
          replace B2 := Lib.hid (B2.out.kept hg (by intro e; have e := Option.some.inj e; omega))
          replace kA1 := Lib.hid (kA10.out.kept G.out)
          replace kA2 := Lib.hid (kA20.out.kept G.out)
          replace dA1 := Lib.hid (dA10.out.kept G.out)
          replace hv := Lib.hid (hv0.out.kept G.out)
          replace Z := Lib.hid (Z.out.kept hg (by intro e; have e := Option.some.inj e; omega))
          replace Cx0 := Lib.hid (grown_new Cx0.out (by omega) hg)
          replace x0P1 := Lib.hid (x0P10.out.kept Cx0.out)
          replace x0P2 := Lib.hid (x0P20.out.kept Cx0.out)
          replace Y0 := Lib.hid (Y0.out.kept hg (by intro e; have e := Option.some.inj e; omega))
          replace Cx1 := Lib.hid (grown_new Cx1.out (by omega) hg)
          replace x1P1 := Lib.hid (x1P10.out.kept Cx1.out)
          clear hg
          clear hT
          refine hKq.out _ _ (⟨B0.out.cell 0, B0.out.cell 1, B0.out.cell 2, B0.out.cell 3, B2.out.cell 0, B2.out.cell 1, Z.out.cell 0, Z.out.cell 1, Y0.out.cell 0, Y0.out.cell 1, Y0.out.cell 2, Y0.out.cell 3⟩) (fun hHeld => ?_)
          clear hKq Kq
          refine wpAnyH_take (i := 10) (oi := ⟨some 13, _, _, _, _, _⟩) (v := ?_) rfl (by kernel_rfl) (by kernel_rfl) (by kernel_rfl) (fun _ _ _ h => h) (Or.inl ⟨by rfl, ?_⟩) (by assumption) ?_
          rotate_left
          · intro w hSw; (try dsimp only at hSw); go_simp; try with_reducible rfl
          simp only [Act.put, List.setIfInBounds_toArray, List.set_cons_zero, List.set_cons_succ]
          refine wpAnyH_done (by kernel_rfl) ?_ _
          clear hHeld hzG hzCx0 hzCx1 hzB0 hzB2 hzZ hzY0
          revert Q; revert x1P1; revert Cx1; revert Y0; revert x0P2; revert x0P1; revert Cx0; revert Z; revert hv; revert dA1; revert kA2; revert kA1; revert B2; revert B0; revert G; revert Qb; revert v16
          exact hk.out
      · go_simp
        refine Draw.at_alloc ?_
        intro v17 hg hT
        have hzG := G.out.size
        have hzCx0 := Cx0.out.size
        have hzCx1 := Cx1.out.size
        have hzB0 := B0.out.lt
        have hzB2 := B2.out.lt
        have hzZ := Z.out.lt
        have hzY0 := Y0.out.lt
        generalize (v13).heap.size = Qb at *
        have Q := Lib.hid hT
        replace G := Lib.hid (gtr G.out hg)
        replace B0 := Lib.hid (B0.out.keptN hg)
        replace B2 := Lib.hid (B2.out.keptN hg)
        replace kA1 := Lib.hid (kA10.out.kept G.out)
        replace kA2 := Lib.hid (kA20.out.kept G.out)
        replace dA1 := Lib.hid (dA10.out.kept G.out)
        replace hv := Lib.hid (hv0.out.kept G.out)
        replace Z := Lib.hid (Z.out.keptN hg)
        replace Cx0 := Lib.hid (gtr Cx0.out hg)
        replace x0P1 := Lib.hid (x0P10.out.kept Cx0.out)
        replace x0P2 := Lib.hid (x0P20.out.kept Cx0.out)
        replace Y0 := Lib.hid (Y0.out.keptN hg)
        replace Cx1 := Lib.hid (gtr Cx1.out hg)
        replace x1P1 := Lib.hid (x1P10.out.kept Cx1.out)
        clear hg
        clear hT
        refine hKq.out _ _ (⟨B0.out.cell 0, B0.out.cell 1, B0.out.cell 2, B0.out.cell 3, B2.out.cell 0, B2.out.cell 1, Z.out.cell 0, Z.out.cell 1, Y0.out.cell 0, Y0.out.cell 1, Y0.out.cell 2, Y0.out.cell 3⟩) (fun hHeld => ?_)
        clear hKq Kq
        refine wpAnyH_ready (rs := [3]) (by kernel_rfl) (by simp) ?_
        refine AllReadyH.cons (o := ⟨some 42, _, _, _, _, _⟩) rfl (fun Kq hKq => ?_) AllReadyH.nil
        go_simp
        go_at_call 9
        refine (tohld _ hm hs).mono ?_
        rintro e v14 ⟨rfl, hg⟩
        replace G := Lib.hid (gtr G.out hg)
        replace B0 := Lib.hid (B0.out.keptN hg)
        replace B2 := Lib.hid (B2.out.keptN hg)
        replace kA1 := Lib.hid (kA10.out.kept G.out)
        replace kA2 := Lib.hid (kA20.out.kept G.out)
        replace dA1 := Lib.hid (dA10.out.kept G.out)
        replace hv := Lib.hid (hv0.out.kept G.out)
        replace Z := Lib.hid (Z.out.keptN hg)
        replace Cx0 := Lib.hid (gtr Cx0.out hg)
        replace x0P1 := Lib.hid (x0P10.out.kept Cx0.out)
        replace x0P2 := Lib.hid (x0P20.out.kept Cx0.out)
        replace Y0 := Lib.hid (Y0.out.keptN hg)
        replace Cx1 := Lib.hid (gtr Cx1.out hg)
        replace x1P1 := Lib.hid (x1P10.out.kept Cx1.out)
        replace Q := Lib.hid (Q.out.keptN hg)
        clear hg
        refine hKq.out _ _ (⟨B0.out.cell 0, B0.out.cell 1, B0.out.cell 2, B0.out.cell 3, B2.out.cell 0, B2.out.cell 1, Z.out.cell 0, Z.out.cell 1, Y0.out.cell 0, Y0.out.cell 1, Y0.out.cell 2, Y0.out.cell 3⟩) (fun hHeld => ?_)
        clear hKq Kq
        refine wpAnyH_ready (rs := [4]) (by kernel_rfl) (by simp) ?_
        refine AllReadyH.cons (o := ⟨some 43, _, _, _, _, _⟩) rfl (fun Kq hKq => ?_) AllReadyH.nil
        go_simp
        go_at_call 10
        refine (ifshare _ kneed kmany _ kng _ kzg _ knc _ kzc _ dnd _ (re dD x1B1 x1B2) hm hs x0P1.out x0P2.out x1P1.out (by omega) (by omega) (by omega) dhL ad hv.out).mono ?_
        rintro e v15 ⟨rfl, hg⟩
        rw [fsV_re]; unfold fsV
        replace G := Lib.hid (gtr G.out hg)
        replace B0 := Lib.hid (B0.out.keptN hg)
        replace B2 := Lib.hid (B2.out.keptN hg)
        replace kA1 := Lib.hid (kA10.out.kept G.out)
        replace kA2 := Lib.hid (kA20.out.kept G.out)
        replace dA1 := Lib.hid (dA10.out.kept G.out)
        replace hv := Lib.hid (hv0.out.kept G.out)
        replace Z := Lib.hid (Z.out.keptN hg)
        replace Cx0 := Lib.hid (gtr Cx0.out hg)
        replace x0P1 := Lib.hid (x0P10.out.kept Cx0.out)
        replace x0P2 := Lib.hid (x0P20.out.kept Cx0.out)
        replace Y0 := Lib.hid (Y0.out.keptN hg)
        replace Cx1 := Lib.hid (gtr Cx1.out hg)
        replace x1P1 := Lib.hid (x1P10.out.kept Cx1.out)
        replace Q := Lib.hid (Q.out.keptN hg)
        clear hg
        refine hKq.out _ _ (⟨B0.out.cell 0, B0.out.cell 1, B0.out.cell 2, B0.out.cell 3, B2.out.cell 0, B2.out.cell 1, Z.out.cell 0, Z.out.cell 1, Y0.out.cell 0, Y0.out.cell 1, Y0.out.cell 2, Y0.out.cell 3⟩) (fun hHeld => ?_)
        clear hKq Kq
        refine wpAnyH_take (i := 5) (oi := ⟨some 38, _, _, _, _, _⟩) (v := ?_) rfl (by kernel_rfl) (by kernel_rfl) (by kernel_rfl) (fun _ _ _ h => h) (Or.inl ⟨by rfl, ?_⟩) (by assumption) ?_
        rotate_left
        · intro w hSw; (try dsimp only at hSw); go_simp; try with_reducible rfl
        simp only [Act.put, List.setIfInBounds_toArray, List.set_cons_zero, List.set_cons_succ]
        refine wpAnyH_take (i := 6) (oi := ⟨some 44, _, _, _, _, _⟩) (v := ?_) rfl (by kernel_rfl) (by kernel_rfl) (by kernel_rfl) (fun _ _ _ h => h) (Or.inl ⟨by rfl, ?_⟩) (by assumption) ?_
        rotate_left
        · intro w hSw; (try dsimp only at hSw); go_simp; try with_reducible rfl
        simp only [Act.put, List.setIfInBounds_toArray, List.set_cons_zero, List.set_cons_succ]
        refine wpAnyH_take (i := 7) (oi := ⟨some 45, _, _, _, _, _⟩) (v := ?_) rfl (by kernel_rfl) (by kernel_rfl) (by kernel_rfl) (fun _ _ _ h => h) (Or.inl ⟨by rfl, ?_⟩) (by assumption) ?_
        rotate_left
        · intro w hSw; (try dsimp only at hSw); go_simp; try with_reducible rfl
        simp only [Act.put, List.setIfInBounds_toArray, List.set_cons_zero, List.set_cons_succ]
        refine wpAnyH_ready (rs := [9]) (by kernel_rfl) (by simp) ?_
        refine AllReadyH.cons (o := ⟨none, _, _, _, _, _⟩) rfl (fun Kq hKq => ?_) AllReadyH.nil
        rw [if_pos (by rfl)]
        refine Draw.wp_store_blk 30 (.tmp 12) (.tmp 44) _ _ _ 30 Q.out rfl rfl rfl rfl (by kernel_rfl) (by simp [Value.oneCell']) rfl ?_
        intro v16 hg hT
        replace Q := Lib.hid hT
        replace G := Lib.hid (grown_new G.out (by omega) hg)
        replace B0 := Lib.hid (B0.out.kept hg (by intro e; have e := Option.some.inj e; omega))
        replace B2 := Lib.hid (B2.out.kept hg (by intro e; have e := Option.some.inj e; omega))
        replace kA1 := Lib.hid (kA10.out.kept G.out)
        replace kA2 := Lib.hid (kA20.out.kept G.out)
        replace dA1 := Lib.hid (dA10.out.kept G.out)
        replace hv := Lib.hid (hv0.out.kept G.out)
        replace Z := Lib.hid (Z.out.kept hg (by intro e; have e := Option.some.inj e; omega))
        replace Cx0 := Lib.hid (grown_new Cx0.out (by omega) hg)
        replace x0P1 := Lib.hid (x0P10.out.kept Cx0.out)
        replace x0P2 := Lib.hid (x0P20.out.kept Cx0.out)
        replace Y0 := Lib.hid (Y0.out.kept hg (by intro e; have e := Option.some.inj e; omega))
        replace Cx1 := Lib.hid (grown_new Cx1.out (by omega) hg)
        replace x1P1 := Lib.hid (x1P10.out.kept Cx1.out)
        clear hg
        clear hT
        refine hKq.out _ _ (⟨B0.out.cell 0, B0.out.cell 1, B0.out.cell 2, B0.out.cell 3, B2.out.cell 0, B2.out.cell 1, Z.out.cell 0, Z.out.cell 1, Y0.out.cell 0, Y0.out.cell 1, Y0.out.cell 2, Y0.out.cell 3⟩) (fun hHeld => ?_)
        clear hKq Kq
        refine wpAnyH_take (i := 10) (oi := ⟨some 13, _, _, _, _, _⟩) (v := ?_) rfl (by kernel_rfl) (by kernel_rfl) (by kernel_rfl) (fun _ _ _ h => h) (Or.inl ⟨by rfl, ?_⟩) (by assumption) ?_
        rotate_left
        · intro w hSw; (try dsimp only at hSw); go_simp; try with_reducible rfl
        simp only [Act.put, List.setIfInBounds_toArray, List.set_cons_zero, List.set_cons_succ]
        refine wpAnyH_done (by kernel_rfl) ?_ _
        clear hHeld hzG hzCx0 hzCx1 hzB0 hzB2 hzZ hzY0
        revert Q; revert x1P1; revert Cx1; revert Y0; revert x0P2; revert x0P1; revert Cx0; revert Z; revert hv; revert dA1; revert kA2; revert kA1; revert B2; revert B0; revert G; revert Qb; revert v16
        exact hk.out
    case rest =>
      clear G B0 B2 kA1 kA2 dA1 hv Z Cx0 x0P1 x0P2 Y0 Cx1 x1P1
      intro v18 Qb G B0 B2 kA1 kA2 dA1 hv Z Cx0 x0P1 x0P2 Y0 Cx1 x1P1 Q
      have B0_0 : World.cell? _ ⟨w.heap.size, 0, none⟩ = some (.int .i64 kneed) := B0.out.cell 0
      have B0_1 : World.cell? _ ⟨w.heap.size, 1, none⟩ = some (.int .i64 kmany) := B0.out.cell 1
      have B0_2 : World.cell? _ ⟨w.heap.size, 2, none⟩ = some (.slice kag kng kcg) := B0.out.cell 2
      have B0_3 : World.cell? _ ⟨w.heap.size, 3, none⟩ = some (.slice kac knc kcc) := B0.out.cell 3
      have B0_l := B0.out.lt
      have B2_0 : World.cell? _ ⟨w.heap.size + 1, 0, none⟩ = some (.int .i64 hm) := B2.out.cell 0
      have B2_1 : World.cell? _ ⟨w.heap.size + 1, 1, none⟩ = some (.int .i64 hs) := B2.out.cell 1
      have B2_l := B2.out.lt
      have Z_0 : World.cell? _ ⟨Zb, 0, none⟩ = some (.int .i64 (fsM kneed kmany kng kzg knc kzc dD dnd hm hs)) := Z.out.cell 0
      have Z_1 : World.cell? _ ⟨Zb, 1, none⟩ = some (.int .i64 (fsS kneed kmany kng kzg knc kzc dD dnd hm hs)) := Z.out.cell 1
      have Z_l := Z.out.lt
      have Y0_0 : World.cell? _ ⟨v11.heap.size, 0, none⟩ = some (.int .i64 kneed) := Y0.out.cell 0
      have Y0_1 : World.cell? _ ⟨v11.heap.size, 1, none⟩ = some (.int .i64 kmany) := Y0.out.cell 1
      have Y0_2 : World.cell? _ ⟨v11.heap.size, 2, none⟩ = some (.slice (some ⟨x0b1, 0, none⟩) kng kng) := Y0.out.cell 2
      have Y0_3 : World.cell? _ ⟨v11.heap.size, 3, none⟩ = some (.slice (some ⟨x0b2, 0, none⟩) knc knc) := Y0.out.cell 3
      have Y0_l := Y0.out.lt
      have Q_0 : World.cell? _ ⟨Qb, 0, none⟩ = some (.int .i64 (fsM kneed kmany kng kzg knc kzc dD dnd hm hs)) := Q.out.cell 0
      have Q_1 : World.cell? _ ⟨Qb, 1, none⟩ = some (.int .i64 (fsS kneed kmany kng kzg knc kzc dD dnd hm hs)) := Q.out.cell 1
      have Q_l := Q.out.lt
      go_wp2_with fail
      refine (eqhld _ (fsM kneed kmany kng kzg knc kzc dD dnd hm hs) (fsS kneed kmany kng kzg knc kzc dD dnd hm hs)).mono ?_
      rintro e v19 ⟨rfl, hg⟩
      clear B0_0 B0_1 B0_2 B0_3 B2_0 B2_1 Z_0 Z_1 Y0_0 Y0_1 Y0_2 Y0_3 Q_0 Q_1 B0_l B2_l Z_l Y0_l Q_l
      replace G := Lib.hid (gtr G.out hg)
      replace B0 := Lib.hid (B0.out.keptN hg)
      replace B2 := Lib.hid (B2.out.keptN hg)
      replace kA1 := Lib.hid (kA10.out.kept G.out)
      replace kA2 := Lib.hid (kA20.out.kept G.out)
      replace dA1 := Lib.hid (dA10.out.kept G.out)
      replace hv := Lib.hid (hv0.out.kept G.out)
      replace Z := Lib.hid (Z.out.keptN hg)
      replace Cx0 := Lib.hid (gtr Cx0.out hg)
      replace x0P1 := Lib.hid (x0P10.out.kept Cx0.out)
      replace x0P2 := Lib.hid (x0P20.out.kept Cx0.out)
      replace Y0 := Lib.hid (Y0.out.keptN hg)
      replace Cx1 := Lib.hid (gtr Cx1.out hg)
      replace x1P1 := Lib.hid (x1P10.out.kept Cx1.out)
      replace Q := Lib.hid (Q.out.keptN hg)
      clear hg
      have hne : (fsB kneed kmany kng kzg knc kzc dD dnd hm hs != fsB kneed kmany kng kzg knc kzc dD dnd hm hs) = false := by simp
      generalize fsB kneed kmany kng kzg knc kzc dD dnd hm hs = gq at hne ⊢
      have B0_0 : World.cell? _ ⟨w.heap.size, 0, none⟩ = some (.int .i64 kneed) := B0.out.cell 0
      have B0_1 : World.cell? _ ⟨w.heap.size, 1, none⟩ = some (.int .i64 kmany) := B0.out.cell 1
      have B0_2 : World.cell? _ ⟨w.heap.size, 2, none⟩ = some (.slice kag kng kcg) := B0.out.cell 2
      have B0_3 : World.cell? _ ⟨w.heap.size, 3, none⟩ = some (.slice kac knc kcc) := B0.out.cell 3
      have B0_l := B0.out.lt
      have B2_0 : World.cell? _ ⟨w.heap.size + 1, 0, none⟩ = some (.int .i64 hm) := B2.out.cell 0
      have B2_1 : World.cell? _ ⟨w.heap.size + 1, 1, none⟩ = some (.int .i64 hs) := B2.out.cell 1
      have B2_l := B2.out.lt
      have Z_0 : World.cell? _ ⟨Zb, 0, none⟩ = some (.int .i64 (fsM kneed kmany kng kzg knc kzc dD dnd hm hs)) := Z.out.cell 0
      have Z_1 : World.cell? _ ⟨Zb, 1, none⟩ = some (.int .i64 (fsS kneed kmany kng kzg knc kzc dD dnd hm hs)) := Z.out.cell 1
      have Z_l := Z.out.lt
      have Y0_0 : World.cell? _ ⟨v11.heap.size, 0, none⟩ = some (.int .i64 kneed) := Y0.out.cell 0
      have Y0_1 : World.cell? _ ⟨v11.heap.size, 1, none⟩ = some (.int .i64 kmany) := Y0.out.cell 1
      have Y0_2 : World.cell? _ ⟨v11.heap.size, 2, none⟩ = some (.slice (some ⟨x0b1, 0, none⟩) kng kng) := Y0.out.cell 2
      have Y0_3 : World.cell? _ ⟨v11.heap.size, 3, none⟩ = some (.slice (some ⟨x0b2, 0, none⟩) knc knc) := Y0.out.cell 3
      have Y0_l := Y0.out.lt
      have Q_0 : World.cell? _ ⟨Qb, 0, none⟩ = some (.int .i64 (fsM kneed kmany kng kzg knc kzc dD dnd hm hs)) := Q.out.cell 0
      have Q_1 : World.cell? _ ⟨Qb, 1, none⟩ = some (.int .i64 (fsS kneed kmany kng kzg knc kzc dD dnd hm hs)) := Q.out.cell 1
      have Q_l := Q.out.lt
      go_wp2_with fail
      clear B0_0 B0_1 B0_2 B0_3 B2_0 B2_1 Z_0 Z_1 Y0_0 Y0_1 Y0_2 Y0_3 Q_0 Q_1 B0_l B2_l Z_l Y0_l Q_l
      refine wp_region_held_drew (S := (fun w' => w'.cell? ⟨w.heap.size, 0, none⟩ = some (.int .i64 kneed) ∧ w'.cell? ⟨w.heap.size, 1, none⟩ = some (.int .i64 kmany) ∧ w'.cell? ⟨w.heap.size, 2, none⟩ = some (.slice kag kng kcg) ∧ w'.cell? ⟨w.heap.size, 3, none⟩ = some (.slice kac knc kcc) ∧ w'.cell? ⟨w.heap.size + 1, 0, none⟩ = some (.int .i64 hm) ∧ w'.cell? ⟨w.heap.size + 1, 1, none⟩ = some (.int .i64 hs) ∧ w'.cell? ⟨Zb, 0, none⟩ = some (.int .i64 (fsM kneed kmany kng kzg knc kzc dD dnd hm hs)) ∧ w'.cell? ⟨Zb, 1, none⟩ = some (.int .i64 (fsS kneed kmany kng kzg knc kzc dD dnd hm hs)) ∧ w'.cell? ⟨v11.heap.size, 0, none⟩ = some (.int .i64 kneed) ∧ w'.cell? ⟨v11.heap.size, 1, none⟩ = some (.int .i64 kmany) ∧ w'.cell? ⟨v11.heap.size, 2, none⟩ = some (.slice (some ⟨x0b1, 0, none⟩) kng kng) ∧ w'.cell? ⟨v11.heap.size, 3, none⟩ = some (.slice (some ⟨x0b2, 0, none⟩) knc knc) ∧ w'.cell? ⟨Qb, 0, none⟩ = some (.int .i64 (fsM kneed kmany kng kzg knc kzc dD dnd hm hs)) ∧ w'.cell? ⟨Qb, 1, none⟩ = some (.int .i64 (fsS kneed kmany kng kzg knc kzc dD dnd hm hs)))) (by kernel_rfl) (⟨B0.out.cell 0, B0.out.cell 1, B0.out.cell 2, B0.out.cell 3, B2.out.cell 0, B2.out.cell 1, Z.out.cell 0, Z.out.cell 1, Y0.out.cell 0, Y0.out.cell 1, Y0.out.cell 2, Y0.out.cell 3, Q.out.cell 0, Q.out.cell 1⟩) (fun hHeld => ?_)
      have hg := Draw.gdrew v19
      replace G := Lib.hid (gtr G.out hg)
      replace B0 := Lib.hid (B0.out.keptN hg)
      replace B2 := Lib.hid (B2.out.keptN hg)
      replace kA1 := Lib.hid (kA10.out.kept G.out)
      replace kA2 := Lib.hid (kA20.out.kept G.out)
      replace dA1 := Lib.hid (dA10.out.kept G.out)
      replace hv := Lib.hid (hv0.out.kept G.out)
      replace Z := Lib.hid (Z.out.keptN hg)
      replace Cx0 := Lib.hid (gtr Cx0.out hg)
      replace x0P1 := Lib.hid (x0P10.out.kept Cx0.out)
      replace x0P2 := Lib.hid (x0P20.out.kept Cx0.out)
      replace Y0 := Lib.hid (Y0.out.keptN hg)
      replace Cx1 := Lib.hid (gtr Cx1.out hg)
      replace x1P1 := Lib.hid (x1P10.out.kept Cx1.out)
      replace Q := Lib.hid (Q.out.keptN hg)
      clear hg
      generalize (v19).drew = v20 at *
      refine wpAnyH_take (i := 0) (oi := ⟨some 55, _, _, _, _, _⟩) (v := ?_) rfl (by kernel_rfl) (by kernel_rfl) (by kernel_rfl) (fun _ _ _ h => h) (Or.inl ⟨by rfl, ?_⟩) (by assumption) ?_
      rotate_left
      · intro w hSw; (try dsimp only at hSw); go_simp; try with_reducible rfl
      simp only [Act.put, List.setIfInBounds_toArray, List.set_cons_zero, List.set_cons_succ]
      refine wpAnyH_take (i := 1) (oi := ⟨some 56, _, _, _, _, _⟩) (v := ?_) rfl (by kernel_rfl) (by kernel_rfl) (by kernel_rfl) (fun _ _ _ h => h) (Or.inl ⟨by rfl, ?_⟩) (by assumption) ?_
      rotate_left
      · intro w hSw; (try dsimp only at hSw); go_simp; try with_reducible rfl
      simp only [Act.put, List.setIfInBounds_toArray, List.set_cons_zero, List.set_cons_succ]
      refine wpAnyH_ready (rs := [2]) (by kernel_rfl) (by simp) ?_
      refine AllReadyH.cons (o := ⟨some 57, _, _, _, _, _⟩) rfl (fun Kq hKq => ?_) AllReadyH.nil
      go_simp
      go_at_call 7
      refine (tokey _ kneed kmany _ kng _ kzg _ knc _ kzc kA1.out kA2.out (by omega) (by omega)).mono ?_
      rintro e v21 ⟨y0b1, y0b2, rfl, y0h, y0r1, y0r2, hg⟩
      have y0P1 := Lib.hid (y0r1.ints)
      have y0P2 := Lib.hid (y0r2.ints)
      replace G := Lib.hid (gtr G.out hg)
      replace B0 := Lib.hid (B0.out.keptN hg)
      replace B2 := Lib.hid (B2.out.keptN hg)
      replace kA1 := Lib.hid (kA10.out.kept G.out)
      replace kA2 := Lib.hid (kA20.out.kept G.out)
      replace dA1 := Lib.hid (dA10.out.kept G.out)
      replace hv := Lib.hid (hv0.out.kept G.out)
      replace Z := Lib.hid (Z.out.keptN hg)
      replace Cx0 := Lib.hid (gtr Cx0.out hg)
      replace x0P1 := Lib.hid (x0P10.out.kept Cx0.out)
      replace x0P2 := Lib.hid (x0P20.out.kept Cx0.out)
      replace Y0 := Lib.hid (Y0.out.keptN hg)
      replace Cx1 := Lib.hid (gtr Cx1.out hg)
      replace x1P1 := Lib.hid (x1P10.out.kept Cx1.out)
      replace Q := Lib.hid (Q.out.keptN hg)
      clear hg
      clear y0h y0r1 y0r2
      refine hKq.out _ _ (⟨B0.out.cell 0, B0.out.cell 1, B0.out.cell 2, B0.out.cell 3, B2.out.cell 0, B2.out.cell 1, Z.out.cell 0, Z.out.cell 1, Y0.out.cell 0, Y0.out.cell 1, Y0.out.cell 2, Y0.out.cell 3, Q.out.cell 0, Q.out.cell 1⟩) (fun hHeld => ?_)
      clear hKq Kq
      refine wpAnyH_ready (rs := [3]) (by kernel_rfl) (by simp) ?_
      refine AllReadyH.cons (o := ⟨some 58, _, _, _, _, _⟩) rfl (fun Kq hKq => ?_) AllReadyH.nil
      go_simp
      go_at_call 12
      refine (eqkey _ kneed kmany _ _ _ _ kng _ _ kzg knc _ _ kzc x0P1.out x0P2.out y0P1.out y0P2.out (by omega) (by omega)).mono ?_
      rintro e v22 ⟨rfl, hg⟩
      replace G := Lib.hid (gtr G.out hg)
      replace B0 := Lib.hid (B0.out.keptN hg)
      replace B2 := Lib.hid (B2.out.keptN hg)
      replace kA1 := Lib.hid (kA10.out.kept G.out)
      replace kA2 := Lib.hid (kA20.out.kept G.out)
      replace dA1 := Lib.hid (dA10.out.kept G.out)
      replace hv := Lib.hid (hv0.out.kept G.out)
      replace Z := Lib.hid (Z.out.keptN hg)
      replace Cx0 := Lib.hid (gtr Cx0.out hg)
      replace x0P1 := Lib.hid (x0P10.out.kept Cx0.out)
      replace x0P2 := Lib.hid (x0P20.out.kept Cx0.out)
      replace Y0 := Lib.hid (Y0.out.keptN hg)
      replace Cx1 := Lib.hid (gtr Cx1.out hg)
      replace x1P1 := Lib.hid (x1P10.out.kept Cx1.out)
      replace Q := Lib.hid (Q.out.keptN hg)
      replace y0P1 := Lib.hid (y0P1.out.kept hg)
      replace y0P2 := Lib.hid (y0P2.out.kept hg)
      clear hg
      clear y0P1 y0P2
      refine hKq.out _ _ (⟨B0.out.cell 0, B0.out.cell 1, B0.out.cell 2, B0.out.cell 3, B2.out.cell 0, B2.out.cell 1, Z.out.cell 0, Z.out.cell 1, Y0.out.cell 0, Y0.out.cell 1, Y0.out.cell 2, Y0.out.cell 3, Q.out.cell 0, Q.out.cell 1⟩) (fun hHeld => ?_)
      clear hKq Kq
      refine wpAnyH_take (i := 4) (oi := ⟨some 59, _, _, _, _, _⟩) (v := ?_) rfl (by kernel_rfl) (by kernel_rfl) (by kernel_rfl) (fun _ _ _ h => h) (Or.inl ⟨by rfl, ?_⟩) (by assumption) ?_
      rotate_left
      · intro w hSw; (try dsimp only at hSw); go_simp; try with_reducible rfl
      simp only [Act.put, List.setIfInBounds_toArray, List.set_cons_zero, List.set_cons_succ]
      refine wpAnyH_done (by kernel_rfl) ?_ _
      have B0_0 : World.cell? _ ⟨w.heap.size, 0, none⟩ = some (.int .i64 kneed) := B0.out.cell 0
      have B0_1 : World.cell? _ ⟨w.heap.size, 1, none⟩ = some (.int .i64 kmany) := B0.out.cell 1
      have B0_2 : World.cell? _ ⟨w.heap.size, 2, none⟩ = some (.slice kag kng kcg) := B0.out.cell 2
      have B0_3 : World.cell? _ ⟨w.heap.size, 3, none⟩ = some (.slice kac knc kcc) := B0.out.cell 3
      have B0_l := B0.out.lt
      have B2_0 : World.cell? _ ⟨w.heap.size + 1, 0, none⟩ = some (.int .i64 hm) := B2.out.cell 0
      have B2_1 : World.cell? _ ⟨w.heap.size + 1, 1, none⟩ = some (.int .i64 hs) := B2.out.cell 1
      have B2_l := B2.out.lt
      have Z_0 : World.cell? _ ⟨Zb, 0, none⟩ = some (.int .i64 (fsM kneed kmany kng kzg knc kzc dD dnd hm hs)) := Z.out.cell 0
      have Z_1 : World.cell? _ ⟨Zb, 1, none⟩ = some (.int .i64 (fsS kneed kmany kng kzg knc kzc dD dnd hm hs)) := Z.out.cell 1
      have Z_l := Z.out.lt
      have Y0_0 : World.cell? _ ⟨v11.heap.size, 0, none⟩ = some (.int .i64 kneed) := Y0.out.cell 0
      have Y0_1 : World.cell? _ ⟨v11.heap.size, 1, none⟩ = some (.int .i64 kmany) := Y0.out.cell 1
      have Y0_2 : World.cell? _ ⟨v11.heap.size, 2, none⟩ = some (.slice (some ⟨x0b1, 0, none⟩) kng kng) := Y0.out.cell 2
      have Y0_3 : World.cell? _ ⟨v11.heap.size, 3, none⟩ = some (.slice (some ⟨x0b2, 0, none⟩) knc knc) := Y0.out.cell 3
      have Y0_l := Y0.out.lt
      have Q_0 : World.cell? _ ⟨Qb, 0, none⟩ = some (.int .i64 (fsM kneed kmany kng kzg knc kzc dD dnd hm hs)) := Q.out.cell 0
      have Q_1 : World.cell? _ ⟨Qb, 1, none⟩ = some (.int .i64 (fsS kneed kmany kng kzg knc kzc dD dnd hm hs)) := Q.out.cell 1
      have Q_l := Q.out.lt
      go_wp2_with fail
      refine (todeals _ _ dnd _ dD dA1.out (by omega) dhL).mono ?_
      rintro e v23 ⟨y1b1, y1B1, y1B2, rfl, y1r1, hg⟩
      clear B0_0 B0_1 B0_2 B0_3 B2_0 B2_1 Z_0 Z_1 Y0_0 Y0_1 Y0_2 Y0_3 Q_0 Q_1 B0_l B2_l Z_l Y0_l Q_l
      replace G := Lib.hid (gtr G.out hg)
      replace B0 := Lib.hid (B0.out.keptN hg)
      replace B2 := Lib.hid (B2.out.keptN hg)
      replace kA1 := Lib.hid (kA10.out.kept G.out)
      replace kA2 := Lib.hid (kA20.out.kept G.out)
      replace dA1 := Lib.hid (dA10.out.kept G.out)
      replace hv := Lib.hid (hv0.out.kept G.out)
      replace Z := Lib.hid (Z.out.keptN hg)
      replace Cx0 := Lib.hid (gtr Cx0.out hg)
      replace x0P1 := Lib.hid (x0P10.out.kept Cx0.out)
      replace x0P2 := Lib.hid (x0P20.out.kept Cx0.out)
      replace Y0 := Lib.hid (Y0.out.keptN hg)
      replace Cx1 := Lib.hid (gtr Cx1.out hg)
      replace x1P1 := Lib.hid (x1P10.out.kept Cx1.out)
      replace Q := Lib.hid (Q.out.keptN hg)
      clear hg
      have y1P1 := Lib.hid (y1r1)
      clear y1r1
      have B0_0 : World.cell? _ ⟨w.heap.size, 0, none⟩ = some (.int .i64 kneed) := B0.out.cell 0
      have B0_1 : World.cell? _ ⟨w.heap.size, 1, none⟩ = some (.int .i64 kmany) := B0.out.cell 1
      have B0_2 : World.cell? _ ⟨w.heap.size, 2, none⟩ = some (.slice kag kng kcg) := B0.out.cell 2
      have B0_3 : World.cell? _ ⟨w.heap.size, 3, none⟩ = some (.slice kac knc kcc) := B0.out.cell 3
      have B0_l := B0.out.lt
      have B2_0 : World.cell? _ ⟨w.heap.size + 1, 0, none⟩ = some (.int .i64 hm) := B2.out.cell 0
      have B2_1 : World.cell? _ ⟨w.heap.size + 1, 1, none⟩ = some (.int .i64 hs) := B2.out.cell 1
      have B2_l := B2.out.lt
      have Z_0 : World.cell? _ ⟨Zb, 0, none⟩ = some (.int .i64 (fsM kneed kmany kng kzg knc kzc dD dnd hm hs)) := Z.out.cell 0
      have Z_1 : World.cell? _ ⟨Zb, 1, none⟩ = some (.int .i64 (fsS kneed kmany kng kzg knc kzc dD dnd hm hs)) := Z.out.cell 1
      have Z_l := Z.out.lt
      have Y0_0 : World.cell? _ ⟨v11.heap.size, 0, none⟩ = some (.int .i64 kneed) := Y0.out.cell 0
      have Y0_1 : World.cell? _ ⟨v11.heap.size, 1, none⟩ = some (.int .i64 kmany) := Y0.out.cell 1
      have Y0_2 : World.cell? _ ⟨v11.heap.size, 2, none⟩ = some (.slice (some ⟨x0b1, 0, none⟩) kng kng) := Y0.out.cell 2
      have Y0_3 : World.cell? _ ⟨v11.heap.size, 3, none⟩ = some (.slice (some ⟨x0b2, 0, none⟩) knc knc) := Y0.out.cell 3
      have Y0_l := Y0.out.lt
      have Q_0 : World.cell? _ ⟨Qb, 0, none⟩ = some (.int .i64 (fsM kneed kmany kng kzg knc kzc dD dnd hm hs)) := Q.out.cell 0
      have Q_1 : World.cell? _ ⟨Qb, 1, none⟩ = some (.int .i64 (fsS kneed kmany kng kzg knc kzc dD dnd hm hs)) := Q.out.cell 1
      have Q_l := Q.out.lt
      go_wp2_with fail
      refine (eqdeals _ _ _ dnd _ _ dD x1B1 x1B2 y1B1 y1B2 x1P1.out y1P1.out (by omega) dhL).mono ?_
      rintro e v24 ⟨rfl, hg⟩
      clear B0_0 B0_1 B0_2 B0_3 B2_0 B2_1 Z_0 Z_1 Y0_0 Y0_1 Y0_2 Y0_3 Q_0 Q_1 B0_l B2_l Z_l Y0_l Q_l
      replace G := Lib.hid (gtr G.out hg)
      replace B0 := Lib.hid (B0.out.keptN hg)
      replace B2 := Lib.hid (B2.out.keptN hg)
      replace kA1 := Lib.hid (kA10.out.kept G.out)
      replace kA2 := Lib.hid (kA20.out.kept G.out)
      replace dA1 := Lib.hid (dA10.out.kept G.out)
      replace hv := Lib.hid (hv0.out.kept G.out)
      replace Z := Lib.hid (Z.out.keptN hg)
      replace Cx0 := Lib.hid (gtr Cx0.out hg)
      replace x0P1 := Lib.hid (x0P10.out.kept Cx0.out)
      replace x0P2 := Lib.hid (x0P20.out.kept Cx0.out)
      replace Y0 := Lib.hid (Y0.out.keptN hg)
      replace Cx1 := Lib.hid (gtr Cx1.out hg)
      replace x1P1 := Lib.hid (x1P10.out.kept Cx1.out)
      replace Q := Lib.hid (Q.out.keptN hg)
      replace y1P1 := Lib.hid (y1P1.out.kept hg)
      clear hg
      clear y1P1
      have B0_0 : World.cell? _ ⟨w.heap.size, 0, none⟩ = some (.int .i64 kneed) := B0.out.cell 0
      have B0_1 : World.cell? _ ⟨w.heap.size, 1, none⟩ = some (.int .i64 kmany) := B0.out.cell 1
      have B0_2 : World.cell? _ ⟨w.heap.size, 2, none⟩ = some (.slice kag kng kcg) := B0.out.cell 2
      have B0_3 : World.cell? _ ⟨w.heap.size, 3, none⟩ = some (.slice kac knc kcc) := B0.out.cell 3
      have B0_l := B0.out.lt
      have B2_0 : World.cell? _ ⟨w.heap.size + 1, 0, none⟩ = some (.int .i64 hm) := B2.out.cell 0
      have B2_1 : World.cell? _ ⟨w.heap.size + 1, 1, none⟩ = some (.int .i64 hs) := B2.out.cell 1
      have B2_l := B2.out.lt
      have Z_0 : World.cell? _ ⟨Zb, 0, none⟩ = some (.int .i64 (fsM kneed kmany kng kzg knc kzc dD dnd hm hs)) := Z.out.cell 0
      have Z_1 : World.cell? _ ⟨Zb, 1, none⟩ = some (.int .i64 (fsS kneed kmany kng kzg knc kzc dD dnd hm hs)) := Z.out.cell 1
      have Z_l := Z.out.lt
      have Y0_0 : World.cell? _ ⟨v11.heap.size, 0, none⟩ = some (.int .i64 kneed) := Y0.out.cell 0
      have Y0_1 : World.cell? _ ⟨v11.heap.size, 1, none⟩ = some (.int .i64 kmany) := Y0.out.cell 1
      have Y0_2 : World.cell? _ ⟨v11.heap.size, 2, none⟩ = some (.slice (some ⟨x0b1, 0, none⟩) kng kng) := Y0.out.cell 2
      have Y0_3 : World.cell? _ ⟨v11.heap.size, 3, none⟩ = some (.slice (some ⟨x0b2, 0, none⟩) knc knc) := Y0.out.cell 3
      have Y0_l := Y0.out.lt
      have Q_0 : World.cell? _ ⟨Qb, 0, none⟩ = some (.int .i64 (fsM kneed kmany kng kzg knc kzc dD dnd hm hs)) := Q.out.cell 0
      have Q_1 : World.cell? _ ⟨Qb, 1, none⟩ = some (.int .i64 (fsS kneed kmany kng kzg knc kzc dD dnd hm hs)) := Q.out.cell 1
      have Q_l := Q.out.lt
      go_wp2
      go_ret
      exact ⟨rfl, Draw.below_of G.out⟩
end Run
end Go.Proofs.YtlaimokedhdnjaaGreatDoor
