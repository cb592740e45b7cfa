/-
  The walk of the exact law on which deals hand a share on.
-/
import Derived.Test.YtonhdkideianiaaDoorWk
import Derived.Test.YtonhdkideianiaaDoorXo
import Derived.Test.YtonhdkideianiaaDoorHo
import Derived.Deep.RegionHeld3
namespace Go.Proofs.YtonhdkideianiaaDoor
namespace Run
open Go.RowKit Alg Mem Con Mp
set_option linter.unusedVariables false

set_option maxRecDepth 100000 in
set_option maxHeartbeats 8000000 in
theorem FnExactHandOk (kneed kmany : Int) (kag : Option Addr) (kng kcg : Nat) (kzg : Nat → Int) (kac : Option Addr) (knc kcc : Nat) (kzc : Nat → Int) (df : Int) (da1 : Option Addr) (dn1 dc1 : Nat) (dz1 : Nat → Int) (da2 : Option Addr) (dn2 dc2 : Nat) (dz2 : Nat → Int) (xn : Int) (xm : Int) (w : World) (kA1 : Ints w kag kng kzg) (kA2 : Ints w kac knc kzc) (dA1 : Ints w da1 dn1 dz1) (dA2 : Ints w da2 dn2 dz2) (khm1 : kng ≤ maxLen) (khm2 : knc ≤ maxLen) (dhm1 : dn1 ≤ maxLen) (dhm2 : dn2 ≤ maxLen) (ad : Addr) (hv : Sent w ad) :
    Calls Tryd.prog 4 #[.agg #[.int .i64 kneed, .int .i64 kmany, .slice kag kng kcg, .slice kac knc kcc], .agg #[.int .i64 df, .slice da1 dn1 dc1, .slice da2 dn2 dc2], .int .i64 xn, .int .i64 xm] w (Yes w) := by
  have G := Lib.hid (gtr (Draw.grown_alloc w (.cells #[.int .i64 kneed, .int .i64 kmany, .slice kag kng kcg, .slice kac knc kcc] 36) none) (Draw.grown_alloc _ (.cells #[.int .i64 df, .slice da1 dn1 dc1, .slice da2 dn2 dc2] 37) none))
  have B0 := Lib.hid ((Blk.new w #[.int .i64 kneed, .int .i64 kmany, .slice kag kng kcg, .slice kac knc kcc] 36).keptN (Draw.grown_alloc _ (.cells #[.int .i64 df, .slice da1 dn1 dc1, .slice da2 dn2 dc2] 37) none))
  have B1 := Lib.hid (blk_new2 w (.cells #[.int .i64 kneed, .int .i64 kmany, .slice kag kng kcg, .slice kac knc kcc] 36) #[.int .i64 df, .slice da1 dn1 dc1, .slice da2 dn2 dc2] 37)
  replace kA1 := Lib.hid (kA1.kept G.out)
  replace kA2 := Lib.hid (kA2.kept G.out)
  replace dA1 := Lib.hid (dA1.kept G.out)
  replace dA2 := Lib.hid (dA2.kept G.out)
  replace hv := Lib.hid (hv.kept G.out)
  go_enter Tryd.func4, Tryd.ntmps4
  have B0_0 : World.cell? _ ⟨w.heap.size, 0, none⟩ = some (.int .i64 kneed) := B0.out.cell 0
  have B0_1 : World.cell? _ ⟨w.heap.size, 1, none⟩ = some (.int .i64 kmany) := B0.out.cell 1
  have B0_2 : World.cell? _ ⟨w.heap.size, 2, none⟩ = some (.slice kag kng kcg) := B0.out.cell 2
  have B0_3 : World.cell? _ ⟨w.heap.size, 3, none⟩ = some (.slice kac knc kcc) := B0.out.cell 3
  have B0_l := B0.out.lt
  have B1_0 : World.cell? _ ⟨w.heap.size + 1, 0, none⟩ = some (.int .i64 df) := B1.out.cell 0
  have B1_1 : World.cell? _ ⟨w.heap.size + 1, 1, none⟩ = some (.slice da1 dn1 dc1) := B1.out.cell 1
  have B1_2 : World.cell? _ ⟨w.heap.size + 1, 2, none⟩ = some (.slice da2 dn2 dc2) := B1.out.cell 2
  have B1_l := B1.out.lt
  go_wp2_with fail
  refine (szkey' _ kneed kmany _ kng _ _ knc _ 1048576 (by omega) (by omega) khm1 khm2).mono ?_
  rintro e v1 ⟨r0, rfl, hg, hr⟩
  clear B0_0 B0_1 B0_2 B0_3 B1_0 B1_1 B1_2 B0_l B1_l
  replace G := Lib.hid (gtr G.out hg)
  replace B0 := Lib.hid (B0.out.keptN hg)
  replace B1 := Lib.hid (B1.out.keptN hg)
  replace kA1 := Lib.hid (kA1.out.kept hg)
  replace kA2 := Lib.hid (kA2.out.kept hg)
  replace dA1 := Lib.hid (dA1.out.kept hg)
  replace dA2 := Lib.hid (dA2.out.kept hg)
  replace hv := Lib.hid (hv.out.kept hg)
  clear hg
  rcases hr with rfl | ⟨h0a, h0b, khl1, khl2⟩
  · go_wp2
    go_ret
    exact ⟨rfl, Draw.below_of G.out⟩
  have hn0 : ¬ r0 < 0 := by omega
  have B0_0 : World.cell? _ ⟨w.heap.size, 0, none⟩ = some (.int .i64 kneed) := B0.out.cell 0
  have B0_1 : World.cell? _ ⟨w.heap.size, 1, none⟩ = some (.int .i64 kmany) := B0.out.cell 1
  have B0_2 : World.cell? _ ⟨w.heap.size, 2, none⟩ = some (.slice kag kng kcg) := B0.out.cell 2
  have B0_3 : World.cell? _ ⟨w.heap.size, 3, none⟩ = some (.slice kac knc kcc) := B0.out.cell 3
  have B0_l := B0.out.lt
  have B1_0 : World.cell? _ ⟨w.heap.size + 1, 0, none⟩ = some (.int .i64 df) := B1.out.cell 0
  have B1_1 : World.cell? _ ⟨w.heap.size + 1, 1, none⟩ = some (.slice da1 dn1 dc1) := B1.out.cell 1
  have B1_2 : World.cell? _ ⟨w.heap.size + 1, 2, none⟩ = some (.slice da2 dn2 dc2) := B1.out.cell 2
  have B1_l := B1.out.lt
  go_wp2_with fail
  refine (szdeal' _ df _ dn1 _ _ dn2 _ r0 (by omega) (by omega) dhm1 dhm2).mono ?_
  rintro e v2 ⟨r1, rfl, hg, hr⟩
  clear B0_0 B0_1 B0_2 B0_3 B1_0 B1_1 B1_2 B0_l B1_l
  replace G := Lib.hid (gtr G.out hg)
  replace B0 := Lib.hid (B0.out.keptN hg)
  replace B1 := Lib.hid (B1.out.keptN hg)
  replace kA1 := Lib.hid (kA1.out.kept hg)
  replace kA2 := Lib.hid (kA2.out.kept hg)
  replace dA1 := Lib.hid (dA1.out.kept hg)
  replace dA2 := Lib.hid (dA2.out.kept hg)
  replace hv := Lib.hid (hv.out.kept hg)
  clear hg
  rcases hr with rfl | ⟨h1a, h1b, dhl1, dhl2⟩
  · go_wp2
    go_ret
    exact ⟨rfl, Draw.below_of G.out⟩
  have hn1 : ¬ r1 < 0 := by omega
  have B0_0 : World.cell? _ ⟨w.heap.size, 0, none⟩ = some (.int .i64 kneed) := B0.out.cell 0
  have B0_1 : World.cell? _ ⟨w.heap.size, 1, none⟩ = some (.int .i64 kmany) := B0.out.cell 1
  have B0_2 : World.cell? _ ⟨w.heap.size, 2, none⟩ = some (.slice kag kng kcg) := B0.out.cell 2
  have B0_3 : World.cell? _ ⟨w.heap.size, 3, none⟩ = some (.slice kac knc kcc) := B0.out.cell 3
  have B0_l := B0.out.lt
  have B1_0 : World.cell? _ ⟨w.heap.size + 1, 0, none⟩ = some (.int .i64 df) := B1.out.cell 0
  have B1_1 : World.cell? _ ⟨w.heap.size + 1, 1, none⟩ = some (.slice da1 dn1 dc1) := B1.out.cell 1
  have B1_2 : World.cell? _ ⟨w.heap.size + 1, 2, none⟩ = some (.slice da2 dn2 dc2) := B1.out.cell 2
  have B1_l := B1.out.lt
  go_wp2_with fail
  clear B0_0 B0_1 B0_2 B0_3 B1_0 B1_1 B1_2 B0_l B1_l
  refine wp_region_held_drew (S := (fun w' => w'.cell? ⟨w.heap.size, 0, none⟩ = some (.int .i64 kneed) ∧ w'.cell? ⟨w.heap.size, 1, none⟩ = some (.int .i64 kmany) ∧ w'.cell? ⟨w.heap.size, 2, none⟩ = some (.slice kag kng kcg) ∧ w'.cell? ⟨w.heap.size, 3, none⟩ = some (.slice kac knc kcc) ∧ w'.cell? ⟨w.heap.size + 1, 0, none⟩ = some (.int .i64 df) ∧ w'.cell? ⟨w.heap.size + 1, 1, none⟩ = some (.slice da1 dn1 dc1) ∧ w'.cell? ⟨w.heap.size + 1, 2, none⟩ = some (.slice da2 dn2 dc2))) (by kernel_rfl) (⟨B0.out.cell 0, B0.out.cell 1, B0.out.cell 2, B0.out.cell 3, B1.out.cell 0, B1.out.cell 1, B1.out.cell 2⟩) (fun hHeld => ?_)
  have hg := Draw.gdrew v2
  replace G := Lib.hid (gtr G.out hg)
  replace B0 := Lib.hid (B0.out.keptN hg)
  replace B1 := Lib.hid (B1.out.keptN hg)
  replace kA1 := Lib.hid (kA1.out.kept hg)
  replace kA2 := Lib.hid (kA2.out.kept hg)
  replace dA1 := Lib.hid (dA1.out.kept hg)
  replace dA2 := Lib.hid (dA2.out.kept hg)
  replace hv := Lib.hid (hv.out.kept hg)
  clear hg
  generalize (v2).drew = v6 at *
  refine wpAnyH_take (i := 0) (oi := ⟨some 24, _, _, _, _, _⟩) (v := ?_) rfl (by kernel_rfl) (by kernel_rfl) (by kernel_rfl) (fun _ _ _ h => h) (Or.inl ⟨by rfl, ?_⟩) (by assumption) ?_
  rotate_left
  · intro w hSw; (try dsimp only at hSw); go_simp; try with_reducible rfl
  simp only [Act.put, List.setIfInBounds_toArray, List.set_cons_zero, List.set_cons_succ]
  refine wpAnyH_take (i := 2) (oi := ⟨some 26, _, _, _, _, _⟩) (v := ?_) rfl (by kernel_rfl) (by kernel_rfl) (by kernel_rfl) (fun _ _ _ h => h) (Or.inl ⟨by rfl, ?_⟩) (by assumption) ?_
  rotate_left
  · intro w hSw; (try dsimp only at hSw); go_simp; try with_reducible rfl
  simp only [Act.put, List.setIfInBounds_toArray, List.set_cons_zero, List.set_cons_succ]
  refine wpAnyH_take (i := 4) (oi := ⟨some 28, _, _, _, _, _⟩) (v := ?_) rfl (by kernel_rfl) (by kernel_rfl) (by kernel_rfl) (fun _ _ _ h => h) (Or.inl ⟨by rfl, ?_⟩) (by assumption) ?_
  rotate_left
  · intro w hSw; (try dsimp only at hSw); go_simp; try with_reducible rfl
  simp only [Act.put, List.setIfInBounds_toArray, List.set_cons_zero, List.set_cons_succ]
  refine wpAnyH_take (i := 5) (oi := ⟨some 29, _, _, _, _, _⟩) (v := ?_) rfl (by kernel_rfl) (by kernel_rfl) (by kernel_rfl) (fun _ _ _ h => h) (Or.inl ⟨by rfl, ?_⟩) (by assumption) ?_
  rotate_left
  · intro w hSw; (try dsimp only at hSw); go_simp; try with_reducible rfl
  simp only [Act.put, List.setIfInBounds_toArray, List.set_cons_zero, List.set_cons_succ]
  refine wpAnyH_ready (rs := [1]) (by kernel_rfl) (by simp) ?_
  refine AllReadyH.cons (o := ⟨some 25, _, _, _, _, _⟩) rfl (fun Kq hKq => ?_) AllReadyH.nil
  go_simp
  go_at_call 15
  refine (tokey _ kneed kmany _ kng _ kzg _ knc _ kzc kA1.out kA2.out (by omega) (by omega)).mono ?_
  rintro e v3 ⟨s0b1, s0b2, rfl, _, s0r1, s0r2, hg⟩
  have s0P1 := Lib.hid (s0r1.ints)
  have s0P2 := Lib.hid (s0r2.ints)
  replace G := Lib.hid (gtr G.out hg)
  replace B0 := Lib.hid (B0.out.keptN hg)
  replace B1 := Lib.hid (B1.out.keptN hg)
  replace kA1 := Lib.hid (kA1.out.kept hg)
  replace kA2 := Lib.hid (kA2.out.kept hg)
  replace dA1 := Lib.hid (dA1.out.kept hg)
  replace dA2 := Lib.hid (dA2.out.kept hg)
  replace hv := Lib.hid (hv.out.kept hg)
  clear hg
  clear s0r1 s0r2
  refine hKq.out _ _ (⟨B0.out.cell 0, B0.out.cell 1, B0.out.cell 2, B0.out.cell 3, B1.out.cell 0, B1.out.cell 1, B1.out.cell 2⟩) (fun hHeld => ?_)
  clear hKq Kq
  refine wpAnyH_ready (rs := [3]) (by kernel_rfl) (by simp) ?_
  refine AllReadyH.cons (o := ⟨some 27, _, _, _, _, _⟩) rfl (fun Kq hKq => ?_) AllReadyH.nil
  go_simp
  go_at_call 16
  refine (todeal _ df _ dn1 _ dz1 _ dn2 _ dz2 dA1.out dA2.out (by omega) (by omega)).mono ?_
  rintro e v4 ⟨s1b1, s1b2, rfl, _, s1r1, s1r2, hg⟩
  have s1P1 := Lib.hid (s1r1.ints)
  have s1P2 := Lib.hid (s1r2.ints)
  replace G := Lib.hid (gtr G.out hg)
  replace B0 := Lib.hid (B0.out.keptN hg)
  replace B1 := Lib.hid (B1.out.keptN hg)
  replace kA1 := Lib.hid (kA1.out.kept hg)
  replace kA2 := Lib.hid (kA2.out.kept hg)
  replace dA1 := Lib.hid (dA1.out.kept hg)
  replace dA2 := Lib.hid (dA2.out.kept hg)
  replace hv := Lib.hid (hv.out.kept hg)
  replace s0P1 := Lib.hid (s0P1.out.kept hg)
  replace s0P2 := Lib.hid (s0P2.out.kept hg)
  clear hg
  clear s1r1 s1r2
  refine hKq.out _ _ (⟨B0.out.cell 0, B0.out.cell 1, B0.out.cell 2, B0.out.cell 3, B1.out.cell 0, B1.out.cell 1, B1.out.cell 2⟩) (fun hHeld => ?_)
  clear hKq Kq
  refine wpAnyH_ready (rs := [6]) (by kernel_rfl) (by simp) ?_
  refine AllReadyH.cons (o := ⟨some 30, _, _, _, _, _⟩) rfl (fun Kq hKq => ?_) AllReadyH.nil
  go_simp
  go_at_call 8
  refine (shand _ kneed kmany _ kng _ kzg _ knc _ kzc df _ dn1 _ dz1 _ dn2 _ dz2 xn xm s0P1.out s0P2.out s1P1.out s1P2.out (by omega) (by omega) (by omega) (by omega)).mono ?_
  rintro e v5 ⟨rfl, hg⟩
  replace G := Lib.hid (gtr G.out hg)
  replace B0 := Lib.hid (B0.out.keptN hg)
  replace B1 := Lib.hid (B1.out.keptN hg)
  replace kA1 := Lib.hid (kA1.out.kept hg)
  replace kA2 := Lib.hid (kA2.out.kept hg)
  replace dA1 := Lib.hid (dA1.out.kept hg)
  replace dA2 := Lib.hid (dA2.out.kept hg)
  replace hv := Lib.hid (hv.out.kept hg)
  replace s0P1 := Lib.hid (s0P1.out.kept hg)
  replace s0P2 := Lib.hid (s0P2.out.kept hg)
  replace s1P1 := Lib.hid (s1P1.out.kept hg)
  replace s1P2 := Lib.hid (s1P2.out.kept hg)
  clear hg
  refine hKq.out _ _ (⟨B0.out.cell 0, B0.out.cell 1, B0.out.cell 2, B0.out.cell 3, B1.out.cell 0, B1.out.cell 1, B1.out.cell 2⟩) (fun hHeld => ?_)
  clear hKq Kq
  refine wpAnyH_take (i := 7) (oi := ⟨some 10, _, _, _, _, _⟩) (v := ?_) rfl (by kernel_rfl) (by kernel_rfl) (by kernel_rfl) (fun _ _ _ h => h) (Or.inl ⟨by rfl, ?_⟩) (by assumption) ?_
  rotate_left
  · intro w hSw; (try dsimp only at hSw); go_simp; try with_reducible rfl
  simp only [Act.put, List.setIfInBounds_toArray, List.set_cons_zero, List.set_cons_succ]
  refine wpAnyH_done (by kernel_rfl) ?_ _
  clear s0P1 s0P2 s1P1 s1P2
  have B0_0 : World.cell? _ ⟨w.heap.size, 0, none⟩ = some (.int .i64 kneed) := B0.out.cell 0
  have B0_1 : World.cell? _ ⟨w.heap.size, 1, none⟩ = some (.int .i64 kmany) := B0.out.cell 1
  have B0_2 : World.cell? _ ⟨w.heap.size, 2, none⟩ = some (.slice kag kng kcg) := B0.out.cell 2
  have B0_3 : World.cell? _ ⟨w.heap.size, 3, none⟩ = some (.slice kac knc kcc) := B0.out.cell 3
  have B0_l := B0.out.lt
  have B1_0 : World.cell? _ ⟨w.heap.size + 1, 0, none⟩ = some (.int .i64 df) := B1.out.cell 0
  have B1_1 : World.cell? _ ⟨w.heap.size + 1, 1, none⟩ = some (.slice da1 dn1 dc1) := B1.out.cell 1
  have B1_2 : World.cell? _ ⟨w.heap.size + 1, 2, none⟩ = some (.slice da2 dn2 dc2) := B1.out.cell 2
  have B1_l := B1.out.lt
  go_wp2_with fail
  refine (tokey _ kneed kmany _ kng _ kzg _ knc _ kzc kA1.out kA2.out (by omega) (by omega)).mono ?_
  rintro e v7 ⟨x0b1, x0b2, rfl, _, x0r1, x0r2, hg⟩
  clear B0_0 B0_1 B0_2 B0_3 B1_0 B1_1 B1_2 B0_l B1_l
  replace G := Lib.hid (gtr G.out hg)
  replace B0 := Lib.hid (B0.out.keptN hg)
  replace B1 := Lib.hid (B1.out.keptN hg)
  replace kA1 := Lib.hid (kA1.out.kept hg)
  replace kA2 := Lib.hid (kA2.out.kept hg)
  replace dA1 := Lib.hid (dA1.out.kept hg)
  replace dA2 := Lib.hid (dA2.out.kept hg)
  replace hv := Lib.hid (hv.out.kept hg)
  clear hg
  have x0P1 := Lib.hid (x0r1.ints)
  have x0P2 := Lib.hid (x0r2.ints)
  clear x0r1 x0r2
  have hg := Draw.grown_alloc v7 (.cells #[.int .i64 kneed, .int .i64 kmany, .slice (some ⟨x0b1, 0, none⟩) kng kng, .slice (some ⟨x0b2, 0, none⟩) knc knc] 25) none
  have Y0 := Lib.hid (Blk.new v7 #[.int .i64 kneed, .int .i64 kmany, .slice (some ⟨x0b1, 0, none⟩) kng kng, .slice (some ⟨x0b2, 0, none⟩) knc knc] 25)
  replace G := Lib.hid (gtr G.out hg)
  replace B0 := Lib.hid (B0.out.keptN hg)
  replace B1 := Lib.hid (B1.out.keptN hg)
  replace kA1 := Lib.hid (kA1.out.kept hg)
  replace kA2 := Lib.hid (kA2.out.kept hg)
  replace dA1 := Lib.hid (dA1.out.kept hg)
  replace dA2 := Lib.hid (dA2.out.kept hg)
  replace hv := Lib.hid (hv.out.kept hg)
  replace x0P1 := Lib.hid (x0P1.out.kept hg)
  replace x0P2 := Lib.hid (x0P2.out.kept hg)
  clear hg
  have B0_0 : World.cell? _ ⟨w.heap.size, 0, none⟩ = some (.int .i64 kneed) := B0.out.cell 0
  have B0_1 : World.cell? _ ⟨w.heap.size, 1, none⟩ = some (.int .i64 kmany) := B0.out.cell 1
  have B0_2 : World.cell? _ ⟨w.heap.size, 2, none⟩ = some (.slice kag kng kcg) := B0.out.cell 2
  have B0_3 : World.cell? _ ⟨w.heap.size, 3, none⟩ = some (.slice kac knc kcc) := B0.out.cell 3
  have B0_l := B0.out.lt
  have B1_0 : World.cell? _ ⟨w.heap.size + 1, 0, none⟩ = some (.int .i64 df) := B1.out.cell 0
  have B1_1 : World.cell? _ ⟨w.heap.size + 1, 1, none⟩ = some (.slice da1 dn1 dc1) := B1.out.cell 1
  have B1_2 : World.cell? _ ⟨w.heap.size + 1, 2, none⟩ = some (.slice da2 dn2 dc2) := B1.out.cell 2
  have B1_l := B1.out.lt
  have Y0_0 : World.cell? _ ⟨v7.heap.size, 0, none⟩ = some (.int .i64 kneed) := Y0.out.cell 0
  have Y0_1 : World.cell? _ ⟨v7.heap.size, 1, none⟩ = some (.int .i64 kmany) := Y0.out.cell 1
  have Y0_2 : World.cell? _ ⟨v7.heap.size, 2, none⟩ = some (.slice (some ⟨x0b1, 0, none⟩) kng kng) := Y0.out.cell 2
  have Y0_3 : World.cell? _ ⟨v7.heap.size, 3, none⟩ = some (.slice (some ⟨x0b2, 0, none⟩) knc knc) := Y0.out.cell 3
  have Y0_l := Y0.out.lt
  go_wp2_with fail
  refine (todeal _ df _ dn1 _ dz1 _ dn2 _ dz2 dA1.out dA2.out (by omega) (by omega)).mono ?_
  rintro e v8 ⟨x1b1, x1b2, rfl, _, x1r1, x1r2, hg⟩
  clear B0_0 B0_1 B0_2 B0_3 B1_0 B1_1 B1_2 Y0_0 Y0_1 Y0_2 Y0_3 B0_l B1_l Y0_l
  replace G := Lib.hid (gtr G.out hg)
  replace B0 := Lib.hid (B0.out.keptN hg)
  replace B1 := Lib.hid (B1.out.keptN hg)
  replace kA1 := Lib.hid (kA1.out.kept hg)
  replace kA2 := Lib.hid (kA2.out.kept hg)
  replace dA1 := Lib.hid (dA1.out.kept hg)
  replace dA2 := Lib.hid (dA2.out.kept hg)
  replace hv := Lib.hid (hv.out.kept hg)
  replace x0P1 := Lib.hid (x0P1.out.kept hg)
  replace x0P2 := Lib.hid (x0P2.out.kept hg)
  replace Y0 := Lib.hid (Y0.out.keptN hg)
  clear hg
  have x1P1 := Lib.hid (x1r1.ints)
  have x1P2 := Lib.hid (x1r2.ints)
  clear x1r1 x1r2
  have hg := Draw.grown_alloc v8 (.cells #[.int .i64 df, .slice (some ⟨x1b1, 0, none⟩) dn1 dn1, .slice (some ⟨x1b2, 0, none⟩) dn2 dn2] 27) none
  have Y1 := Lib.hid (Blk.new v8 #[.int .i64 df, .slice (some ⟨x1b1, 0, none⟩) dn1 dn1, .slice (some ⟨x1b2, 0, none⟩) dn2 dn2] 27)
  replace G := Lib.hid (gtr G.out hg)
  replace B0 := Lib.hid (B0.out.keptN hg)
  replace B1 := Lib.hid (B1.out.keptN hg)
  replace kA1 := Lib.hid (kA1.out.kept hg)
  replace kA2 := Lib.hid (kA2.out.kept hg)
  replace dA1 := Lib.hid (dA1.out.kept hg)
  replace dA2 := Lib.hid (dA2.out.kept hg)
  replace hv := Lib.hid (hv.out.kept hg)
  replace x0P1 := Lib.hid (x0P1.out.kept hg)
  replace x0P2 := Lib.hid (x0P2.out.kept hg)
  replace Y0 := Lib.hid (Y0.out.keptN hg)
  replace x1P1 := Lib.hid (x1P1.out.kept hg)
  replace x1P2 := Lib.hid (x1P2.out.kept hg)
  clear hg
  have B0_0 : World.cell? _ ⟨w.heap.size, 0, none⟩ = some (.int .i64 kneed) := B0.out.cell 0
  have B0_1 : World.cell? _ ⟨w.heap.size, 1, none⟩ = some (.int .i64 kmany) := B0.out.cell 1
  have B0_2 : World.cell? _ ⟨w.heap.size, 2, none⟩ = some (.slice kag kng kcg) := B0.out.cell 2
  have B0_3 : World.cell? _ ⟨w.heap.size, 3, none⟩ = some (.slice kac knc kcc) := B0.out.cell 3
  have B0_l := B0.out.lt
  have B1_0 : World.cell? _ ⟨w.heap.size + 1, 0, none⟩ = some (.int .i64 df) := B1.out.cell 0
  have B1_1 : World.cell? _ ⟨w.heap.size + 1, 1, none⟩ = some (.slice da1 dn1 dc1) := B1.out.cell 1
  have B1_2 : World.cell? _ ⟨w.heap.size + 1, 2, none⟩ = some (.slice da2 dn2 dc2) := B1.out.cell 2
  have B1_l := B1.out.lt
  have Y0_0 : World.cell? _ ⟨v7.heap.size, 0, none⟩ = some (.int .i64 kneed) := Y0.out.cell 0
  have Y0_1 : World.cell? _ ⟨v7.heap.size, 1, none⟩ = some (.int .i64 kmany) := Y0.out.cell 1
  have Y0_2 : World.cell? _ ⟨v7.heap.size, 2, none⟩ = some (.slice (some ⟨x0b1, 0, none⟩) kng kng) := Y0.out.cell 2
  have Y0_3 : World.cell? _ ⟨v7.heap.size, 3, none⟩ = some (.slice (some ⟨x0b2, 0, none⟩) knc knc) := Y0.out.cell 3
  have Y0_l := Y0.out.lt
  have Y1_0 : World.cell? _ ⟨v8.heap.size, 0, none⟩ = some (.int .i64 df) := Y1.out.cell 0
  have Y1_1 : World.cell? _ ⟨v8.heap.size, 1, none⟩ = some (.slice (some ⟨x1b1, 0, none⟩) dn1 dn1) := Y1.out.cell 1
  have Y1_2 : World.cell? _ ⟨v8.heap.size, 2, none⟩ = some (.slice (some ⟨x1b2, 0, none⟩) dn2 dn2) := Y1.out.cell 2
  have Y1_l := Y1.out.lt
  go_wp2_with fail
  refine (ihand _ kneed kmany _ kng _ kzg _ knc _ kzc df _ dn1 _ dz1 _ dn2 _ dz2 xn xm x0P1.out x0P2.out x1P1.out x1P2.out (by omega) (by omega) (by omega) (by omega) ad hv.out).mono ?_
  rintro e v9 ⟨rfl, hg⟩
  clear B0_0 B0_1 B0_2 B0_3 B1_0 B1_1 B1_2 Y0_0 Y0_1 Y0_2 Y0_3 Y1_0 Y1_1 Y1_2 B0_l B1_l Y0_l Y1_l
  replace G := Lib.hid (gtr G.out hg)
  replace B0 := Lib.hid (B0.out.keptN hg)
  replace B1 := Lib.hid (B1.out.keptN hg)
  replace kA1 := Lib.hid (kA1.out.kept hg)
  replace kA2 := Lib.hid (kA2.out.kept hg)
  replace dA1 := Lib.hid (dA1.out.kept hg)
  replace dA2 := Lib.hid (dA2.out.kept hg)
  replace hv := Lib.hid (hv.out.kept hg)
  replace x0P1 := Lib.hid (x0P1.out.kept hg)
  replace x0P2 := Lib.hid (x0P2.out.kept hg)
  replace Y0 := Lib.hid (Y0.out.keptN hg)
  replace x1P1 := Lib.hid (x1P1.out.kept hg)
  replace x1P2 := Lib.hid (x1P2.out.kept hg)
  replace Y1 := Lib.hid (Y1.out.keptN hg)
  clear hg
  have hne : (hoF kneed kmany kng kzg knc kzc df dn1 dz1 dn2 dz2 xn xm != hoF kneed kmany kng kzg knc kzc df dn1 dz1 dn2 dz2 xn xm) = false := by simp
  generalize hoF kneed kmany kng kzg knc kzc df dn1 dz1 dn2 dz2 xn xm = gq at hne ⊢
  have B0_0 : World.cell? _ ⟨w.heap.size, 0, none⟩ = some (.int .i64 kneed) := B0.out.cell 0
  have B0_1 : World.cell? _ ⟨w.heap.size, 1, none⟩ = some (.int .i64 kmany) := B0.out.cell 1
  have B0_2 : World.cell? _ ⟨w.heap.size, 2, none⟩ = some (.slice kag kng kcg) := B0.out.cell 2
  have B0_3 : World.cell? _ ⟨w.heap.size, 3, none⟩ = some (.slice kac knc kcc) := B0.out.cell 3
  have B0_l := B0.out.lt
  have B1_0 : World.cell? _ ⟨w.heap.size + 1, 0, none⟩ = some (.int .i64 df) := B1.out.cell 0
  have B1_1 : World.cell? _ ⟨w.heap.size + 1, 1, none⟩ = some (.slice da1 dn1 dc1) := B1.out.cell 1
  have B1_2 : World.cell? _ ⟨w.heap.size + 1, 2, none⟩ = some (.slice da2 dn2 dc2) := B1.out.cell 2
  have B1_l := B1.out.lt
  have Y0_0 : World.cell? _ ⟨v7.heap.size, 0, none⟩ = some (.int .i64 kneed) := Y0.out.cell 0
  have Y0_1 : World.cell? _ ⟨v7.heap.size, 1, none⟩ = some (.int .i64 kmany) := Y0.out.cell 1
  have Y0_2 : World.cell? _ ⟨v7.heap.size, 2, none⟩ = some (.slice (some ⟨x0b1, 0, none⟩) kng kng) := Y0.out.cell 2
  have Y0_3 : World.cell? _ ⟨v7.heap.size, 3, none⟩ = some (.slice (some ⟨x0b2, 0, none⟩) knc knc) := Y0.out.cell 3
  have Y0_l := Y0.out.lt
  have Y1_0 : World.cell? _ ⟨v8.heap.size, 0, none⟩ = some (.int .i64 df) := Y1.out.cell 0
  have Y1_1 : World.cell? _ ⟨v8.heap.size, 1, none⟩ = some (.slice (some ⟨x1b1, 0, none⟩) dn1 dn1) := Y1.out.cell 1
  have Y1_2 : World.cell? _ ⟨v8.heap.size, 2, none⟩ = some (.slice (some ⟨x1b2, 0, none⟩) dn2 dn2) := Y1.out.cell 2
  have Y1_l := Y1.out.lt
  go_wp2_with fail
  clear B0_0 B0_1 B0_2 B0_3 B1_0 B1_1 B1_2 Y0_0 Y0_1 Y0_2 Y0_3 Y1_0 Y1_1 Y1_2 B0_l B1_l Y0_l Y1_l
  refine wp_region_held_drew (S := (fun w' => w'.cell? ⟨w.heap.size, 0, none⟩ = some (.int .i64 kneed) ∧ w'.cell? ⟨w.heap.size, 1, none⟩ = some (.int .i64 kmany) ∧ w'.cell? ⟨w.heap.size, 2, none⟩ = some (.slice kag kng kcg) ∧ w'.cell? ⟨w.heap.size, 3, none⟩ = some (.slice kac knc kcc) ∧ w'.cell? ⟨w.heap.size + 1, 0, none⟩ = some (.int .i64 df) ∧ w'.cell? ⟨w.heap.size + 1, 1, none⟩ = some (.slice da1 dn1 dc1) ∧ w'.cell? ⟨w.heap.size + 1, 2, none⟩ = some (.slice da2 dn2 dc2) ∧ w'.cell? ⟨v7.heap.size, 0, none⟩ = some (.int .i64 kneed) ∧ w'.cell? ⟨v7.heap.size, 1, none⟩ = some (.int .i64 kmany) ∧ w'.cell? ⟨v7.heap.size, 2, none⟩ = some (.slice (some ⟨x0b1, 0, none⟩) kng kng) ∧ w'.cell? ⟨v7.heap.size, 3, none⟩ = some (.slice (some ⟨x0b2, 0, none⟩) knc knc) ∧ w'.cell? ⟨v8.heap.size, 0, none⟩ = some (.int .i64 df) ∧ w'.cell? ⟨v8.heap.size, 1, none⟩ = some (.slice (some ⟨x1b1, 0, none⟩) dn1 dn1) ∧ w'.cell? ⟨v8.heap.size, 2, none⟩ = some (.slice (some ⟨x1b2, 0, none⟩) dn2 dn2))) (by kernel_rfl) (⟨B0.out.cell 0, B0.out.cell 1, B0.out.cell 2, B0.out.cell 3, B1.out.cell 0, B1.out.cell 1, B1.out.cell 2, Y0.out.cell 0, Y0.out.cell 1, Y0.out.cell 2, Y0.out.cell 3, Y1.out.cell 0, Y1.out.cell 1, Y1.out.cell 2⟩) (fun hHeld => ?_)
  have hg := Draw.gdrew v9
  replace G := Lib.hid (gtr G.out hg)
  replace B0 := Lib.hid (B0.out.keptN hg)
  replace B1 := Lib.hid (B1.out.keptN hg)
  replace kA1 := Lib.hid (kA1.out.kept hg)
  replace kA2 := Lib.hid (kA2.out.kept hg)
  replace dA1 := Lib.hid (dA1.out.kept hg)
  replace dA2 := Lib.hid (dA2.out.kept hg)
  replace hv := Lib.hid (hv.out.kept hg)
  replace x0P1 := Lib.hid (x0P1.out.kept hg)
  replace x0P2 := Lib.hid (x0P2.out.kept hg)
  replace Y0 := Lib.hid (Y0.out.keptN hg)
  replace x1P1 := Lib.hid (x1P1.out.kept hg)
  replace x1P2 := Lib.hid (x1P2.out.kept hg)
  replace Y1 := Lib.hid (Y1.out.keptN hg)
  clear hg
  generalize (v9).drew = v12 at *
  refine wpAnyH_take (i := 0) (oi := ⟨some 43, _, _, _, _, _⟩) (v := ?_) rfl (by kernel_rfl) (by kernel_rfl) (by kernel_rfl) (fun _ _ _ h => h) (Or.inl ⟨by rfl, ?_⟩) (by assumption) ?_
  rotate_left
  · intro w hSw; (try dsimp only at hSw); go_simp; try with_reducible rfl
  simp only [Act.put, List.setIfInBounds_toArray, List.set_cons_zero, List.set_cons_succ]
  refine wpAnyH_take (i := 1) (oi := ⟨some 44, _, _, _, _, _⟩) (v := ?_) rfl (by kernel_rfl) (by kernel_rfl) (by kernel_rfl) (fun _ _ _ h => h) (Or.inl ⟨by rfl, ?_⟩) (by assumption) ?_
  rotate_left
  · intro w hSw; (try dsimp only at hSw); go_simp; try with_reducible rfl
  simp only [Act.put, List.setIfInBounds_toArray, List.set_cons_zero, List.set_cons_succ]
  refine wpAnyH_ready (rs := [2]) (by kernel_rfl) (by simp) ?_
  refine AllReadyH.cons (o := ⟨some 45, _, _, _, _, _⟩) rfl (fun Kq hKq => ?_) AllReadyH.nil
  go_simp
  go_at_call 15
  refine (tokey _ kneed kmany _ kng _ kzg _ knc _ kzc kA1.out kA2.out (by omega) (by omega)).mono ?_
  rintro e v10 ⟨y0b1, y0b2, rfl, _, y0r1, y0r2, hg⟩
  have y0P1 := Lib.hid (y0r1.ints)
  have y0P2 := Lib.hid (y0r2.ints)
  replace G := Lib.hid (gtr G.out hg)
  replace B0 := Lib.hid (B0.out.keptN hg)
  replace B1 := Lib.hid (B1.out.keptN hg)
  replace kA1 := Lib.hid (kA1.out.kept hg)
  replace kA2 := Lib.hid (kA2.out.kept hg)
  replace dA1 := Lib.hid (dA1.out.kept hg)
  replace dA2 := Lib.hid (dA2.out.kept hg)
  replace hv := Lib.hid (hv.out.kept hg)
  replace x0P1 := Lib.hid (x0P1.out.kept hg)
  replace x0P2 := Lib.hid (x0P2.out.kept hg)
  replace Y0 := Lib.hid (Y0.out.keptN hg)
  replace x1P1 := Lib.hid (x1P1.out.kept hg)
  replace x1P2 := Lib.hid (x1P2.out.kept hg)
  replace Y1 := Lib.hid (Y1.out.keptN hg)
  clear hg
  clear y0r1 y0r2
  refine hKq.out _ _ (⟨B0.out.cell 0, B0.out.cell 1, B0.out.cell 2, B0.out.cell 3, B1.out.cell 0, B1.out.cell 1, B1.out.cell 2, Y0.out.cell 0, Y0.out.cell 1, Y0.out.cell 2, Y0.out.cell 3, Y1.out.cell 0, Y1.out.cell 1, Y1.out.cell 2⟩) (fun hHeld => ?_)
  clear hKq Kq
  refine wpAnyH_ready (rs := [3]) (by kernel_rfl) (by simp) ?_
  refine AllReadyH.cons (o := ⟨some 46, _, _, _, _, _⟩) rfl (fun Kq hKq => ?_) AllReadyH.nil
  go_simp
  go_at_call 17
  refine (eqkey _ kneed kmany _ _ _ _ kng _ _ kzg knc _ _ kzc x0P1.out x0P2.out y0P1.out y0P2.out (by omega) (by omega)).mono ?_
  rintro e v11 ⟨rfl, hg⟩
  replace G := Lib.hid (gtr G.out hg)
  replace B0 := Lib.hid (B0.out.keptN hg)
  replace B1 := Lib.hid (B1.out.keptN hg)
  replace kA1 := Lib.hid (kA1.out.kept hg)
  replace kA2 := Lib.hid (kA2.out.kept hg)
  replace dA1 := Lib.hid (dA1.out.kept hg)
  replace dA2 := Lib.hid (dA2.out.kept hg)
  replace hv := Lib.hid (hv.out.kept hg)
  replace x0P1 := Lib.hid (x0P1.out.kept hg)
  replace x0P2 := Lib.hid (x0P2.out.kept hg)
  replace Y0 := Lib.hid (Y0.out.keptN hg)
  replace x1P1 := Lib.hid (x1P1.out.kept hg)
  replace x1P2 := Lib.hid (x1P2.out.kept hg)
  replace Y1 := Lib.hid (Y1.out.keptN hg)
  replace y0P1 := Lib.hid (y0P1.out.kept hg)
  replace y0P2 := Lib.hid (y0P2.out.kept hg)
  clear hg
  refine hKq.out _ _ (⟨B0.out.cell 0, B0.out.cell 1, B0.out.cell 2, B0.out.cell 3, B1.out.cell 0, B1.out.cell 1, B1.out.cell 2, Y0.out.cell 0, Y0.out.cell 1, Y0.out.cell 2, Y0.out.cell 3, Y1.out.cell 0, Y1.out.cell 1, Y1.out.cell 2⟩) (fun hHeld => ?_)
  clear hKq Kq
  refine wpAnyH_take (i := 4) (oi := ⟨some 47, _, _, _, _, _⟩) (v := ?_) rfl (by kernel_rfl) (by kernel_rfl) (by kernel_rfl) (fun _ _ _ h => h) (Or.inl ⟨by rfl, ?_⟩) (by assumption) ?_
  rotate_left
  · intro w hSw; (try dsimp only at hSw); go_simp; try with_reducible rfl
  simp only [Act.put, List.setIfInBounds_toArray, List.set_cons_zero, List.set_cons_succ]
  refine wpAnyH_done (by kernel_rfl) ?_ _
  clear y0P1 y0P2
  have B0_0 : World.cell? _ ⟨w.heap.size, 0, none⟩ = some (.int .i64 kneed) := B0.out.cell 0
  have B0_1 : World.cell? _ ⟨w.heap.size, 1, none⟩ = some (.int .i64 kmany) := B0.out.cell 1
  have B0_2 : World.cell? _ ⟨w.heap.size, 2, none⟩ = some (.slice kag kng kcg) := B0.out.cell 2
  have B0_3 : World.cell? _ ⟨w.heap.size, 3, none⟩ = some (.slice kac knc kcc) := B0.out.cell 3
  have B0_l := B0.out.lt
  have B1_0 : World.cell? _ ⟨w.heap.size + 1, 0, none⟩ = some (.int .i64 df) := B1.out.cell 0
  have B1_1 : World.cell? _ ⟨w.heap.size + 1, 1, none⟩ = some (.slice da1 dn1 dc1) := B1.out.cell 1
  have B1_2 : World.cell? _ ⟨w.heap.size + 1, 2, none⟩ = some (.slice da2 dn2 dc2) := B1.out.cell 2
  have B1_l := B1.out.lt
  have Y0_0 : World.cell? _ ⟨v7.heap.size, 0, none⟩ = some (.int .i64 kneed) := Y0.out.cell 0
  have Y0_1 : World.cell? _ ⟨v7.heap.size, 1, none⟩ = some (.int .i64 kmany) := Y0.out.cell 1
  have Y0_2 : World.cell? _ ⟨v7.heap.size, 2, none⟩ = some (.slice (some ⟨x0b1, 0, none⟩) kng kng) := Y0.out.cell 2
  have Y0_3 : World.cell? _ ⟨v7.heap.size, 3, none⟩ = some (.slice (some ⟨x0b2, 0, none⟩) knc knc) := Y0.out.cell 3
  have Y0_l := Y0.out.lt
  have Y1_0 : World.cell? _ ⟨v8.heap.size, 0, none⟩ = some (.int .i64 df) := Y1.out.cell 0
  have Y1_1 : World.cell? _ ⟨v8.heap.size, 1, none⟩ = some (.slice (some ⟨x1b1, 0, none⟩) dn1 dn1) := Y1.out.cell 1
  have Y1_2 : World.cell? _ ⟨v8.heap.size, 2, none⟩ = some (.slice (some ⟨x1b2, 0, none⟩) dn2 dn2) := Y1.out.cell 2
  have Y1_l := Y1.out.lt
  go_wp2_with fail
  clear B0_0 B0_1 B0_2 B0_3 B1_0 B1_1 B1_2 Y0_0 Y0_1 Y0_2 Y0_3 Y1_0 Y1_1 Y1_2 B0_l B1_l Y0_l Y1_l
  refine wp_region_held_drew (S := (fun w' => w'.cell? ⟨w.heap.size, 0, none⟩ = some (.int .i64 kneed) ∧ w'.cell? ⟨w.heap.size, 1, none⟩ = some (.int .i64 kmany) ∧ w'.cell? ⟨w.heap.size, 2, none⟩ = some (.slice kag kng kcg) ∧ w'.cell? ⟨w.heap.size, 3, none⟩ = some (.slice kac knc kcc) ∧ w'.cell? ⟨w.heap.size + 1, 0, none⟩ = some (.int .i64 df) ∧ w'.cell? ⟨w.heap.size + 1, 1, none⟩ = some (.slice da1 dn1 dc1) ∧ w'.cell? ⟨w.heap.size + 1, 2, none⟩ = some (.slice da2 dn2 dc2) ∧ w'.cell? ⟨v7.heap.size, 0, none⟩ = some (.int .i64 kneed) ∧ w'.cell? ⟨v7.heap.size, 1, none⟩ = some (.int .i64 kmany) ∧ w'.cell? ⟨v7.heap.size, 2, none⟩ = some (.slice (some ⟨x0b1, 0, none⟩) kng kng) ∧ w'.cell? ⟨v7.heap.size, 3, none⟩ = some (.slice (some ⟨x0b2, 0, none⟩) knc knc) ∧ w'.cell? ⟨v8.heap.size, 0, none⟩ = some (.int .i64 df) ∧ w'.cell? ⟨v8.heap.size, 1, none⟩ = some (.slice (some ⟨x1b1, 0, none⟩) dn1 dn1) ∧ w'.cell? ⟨v8.heap.size, 2, none⟩ = some (.slice (some ⟨x1b2, 0, none⟩) dn2 dn2))) (by kernel_rfl) (⟨B0.out.cell 0, B0.out.cell 1, B0.out.cell 2, B0.out.cell 3, B1.out.cell 0, B1.out.cell 1, B1.out.cell 2, Y0.out.cell 0, Y0.out.cell 1, Y0.out.cell 2, Y0.out.cell 3, Y1.out.cell 0, Y1.out.cell 1, Y1.out.cell 2⟩) (fun hHeld => ?_)
  have hg := Draw.gdrew v11
  replace G := Lib.hid (gtr G.out hg)
  replace B0 := Lib.hid (B0.out.keptN hg)
  replace B1 := Lib.hid (B1.out.keptN hg)
  replace kA1 := Lib.hid (kA1.out.kept hg)
  replace kA2 := Lib.hid (kA2.out.kept hg)
  replace dA1 := Lib.hid (dA1.out.kept hg)
  replace dA2 := Lib.hid (dA2.out.kept hg)
  replace hv := Lib.hid (hv.out.kept hg)
  replace x0P1 := Lib.hid (x0P1.out.kept hg)
  replace x0P2 := Lib.hid (x0P2.out.kept hg)
  replace Y0 := Lib.hid (Y0.out.keptN hg)
  replace x1P1 := Lib.hid (x1P1.out.kept hg)
  replace x1P2 := Lib.hid (x1P2.out.kept hg)
  replace Y1 := Lib.hid (Y1.out.keptN hg)
  clear hg
  generalize (v11).drew = v15 at *
  refine wpAnyH_take (i := 0) (oi := ⟨some 48, _, _, _, _, _⟩) (v := ?_) rfl (by kernel_rfl) (by kernel_rfl) (by kernel_rfl) (fun _ _ _ h => h) (Or.inl ⟨by rfl, ?_⟩) (by assumption) ?_
  rotate_left
  · intro w hSw; (try dsimp only at hSw); go_simp; try with_reducible rfl
  simp only [Act.put, List.setIfInBounds_toArray, List.set_cons_zero, List.set_cons_succ]
  refine wpAnyH_take (i := 1) (oi := ⟨some 49, _, _, _, _, _⟩) (v := ?_) rfl (by kernel_rfl) (by kernel_rfl) (by kernel_rfl) (fun _ _ _ h => h) (Or.inl ⟨by rfl, ?_⟩) (by assumption) ?_
  rotate_left
  · intro w hSw; (try dsimp only at hSw); go_simp; try with_reducible rfl
  simp only [Act.put, List.setIfInBounds_toArray, List.set_cons_zero, List.set_cons_succ]
  refine wpAnyH_ready (rs := [2]) (by kernel_rfl) (by simp) ?_
  refine AllReadyH.cons (o := ⟨some 50, _, _, _, _, _⟩) rfl (fun Kq hKq => ?_) AllReadyH.nil
  go_simp
  go_at_call 16
  refine (todeal _ df _ dn1 _ dz1 _ dn2 _ dz2 dA1.out dA2.out (by omega) (by omega)).mono ?_
  rintro e v13 ⟨y1b1, y1b2, rfl, _, y1r1, y1r2, hg⟩
  have y1P1 := Lib.hid (y1r1.ints)
  have y1P2 := Lib.hid (y1r2.ints)
  replace G := Lib.hid (gtr G.out hg)
  replace B0 := Lib.hid (B0.out.keptN hg)
  replace B1 := Lib.hid (B1.out.keptN hg)
  replace kA1 := Lib.hid (kA1.out.kept hg)
  replace kA2 := Lib.hid (kA2.out.kept hg)
  replace dA1 := Lib.hid (dA1.out.kept hg)
  replace dA2 := Lib.hid (dA2.out.kept hg)
  replace hv := Lib.hid (hv.out.kept hg)
  replace x0P1 := Lib.hid (x0P1.out.kept hg)
  replace x0P2 := Lib.hid (x0P2.out.kept hg)
  replace Y0 := Lib.hid (Y0.out.keptN hg)
  replace x1P1 := Lib.hid (x1P1.out.kept hg)
  replace x1P2 := Lib.hid (x1P2.out.kept hg)
  replace Y1 := Lib.hid (Y1.out.keptN hg)
  clear hg
  clear y1r1 y1r2
  refine hKq.out _ _ (⟨B0.out.cell 0, B0.out.cell 1, B0.out.cell 2, B0.out.cell 3, B1.out.cell 0, B1.out.cell 1, B1.out.cell 2, Y0.out.cell 0, Y0.out.cell 1, Y0.out.cell 2, Y0.out.cell 3, Y1.out.cell 0, Y1.out.cell 1, Y1.out.cell 2⟩) (fun hHeld => ?_)
  clear hKq Kq
  refine wpAnyH_ready (rs := [3]) (by kernel_rfl) (by simp) ?_
  refine AllReadyH.cons (o := ⟨some 51, _, _, _, _, _⟩) rfl (fun Kq hKq => ?_) AllReadyH.nil
  go_simp
  go_at_call 18
  refine (eqdeal _ df _ _ _ _ dn1 _ _ dz1 dn2 _ _ dz2 x1P1.out x1P2.out y1P1.out y1P2.out (by omega) (by omega)).mono ?_
  rintro e v14 ⟨rfl, hg⟩
  replace G := Lib.hid (gtr G.out hg)
  replace B0 := Lib.hid (B0.out.keptN hg)
  replace B1 := Lib.hid (B1.out.keptN hg)
  replace kA1 := Lib.hid (kA1.out.kept hg)
  replace kA2 := Lib.hid (kA2.out.kept hg)
  replace dA1 := Lib.hid (dA1.out.kept hg)
  replace dA2 := Lib.hid (dA2.out.kept hg)
  replace hv := Lib.hid (hv.out.kept hg)
  replace x0P1 := Lib.hid (x0P1.out.kept hg)
  replace x0P2 := Lib.hid (x0P2.out.kept hg)
  replace Y0 := Lib.hid (Y0.out.keptN hg)
  replace x1P1 := Lib.hid (x1P1.out.kept hg)
  replace x1P2 := Lib.hid (x1P2.out.kept hg)
  replace Y1 := Lib.hid (Y1.out.keptN hg)
  replace y1P1 := Lib.hid (y1P1.out.kept hg)
  replace y1P2 := Lib.hid (y1P2.out.kept hg)
  clear hg
  refine hKq.out _ _ (⟨B0.out.cell 0, B0.out.cell 1, B0.out.cell 2, B0.out.cell 3, B1.out.cell 0, B1.out.cell 1, B1.out.cell 2, Y0.out.cell 0, Y0.out.cell 1, Y0.out.cell 2, Y0.out.cell 3, Y1.out.cell 0, Y1.out.cell 1, Y1.out.cell 2⟩) (fun hHeld => ?_)
  clear hKq Kq
  refine wpAnyH_take (i := 4) (oi := ⟨some 52, _, _, _, _, _⟩) (v := ?_) rfl (by kernel_rfl) (by kernel_rfl) (by kernel_rfl) (fun _ _ _ h => h) (Or.inl ⟨by rfl, ?_⟩) (by assumption) ?_
  rotate_left
  · intro w hSw; (try dsimp only at hSw); go_simp; try with_reducible rfl
  simp only [Act.put, List.setIfInBounds_toArray, List.set_cons_zero, List.set_cons_succ]
  refine wpAnyH_done (by kernel_rfl) ?_ _
  clear y1P1 y1P2
  have B0_0 : World.cell? _ ⟨w.heap.size, 0, none⟩ = some (.int .i64 kneed) := B0.out.cell 0
  have B0_1 : World.cell? _ ⟨w.heap.size, 1, none⟩ = some (.int .i64 kmany) := B0.out.cell 1
  have B0_2 : World.cell? _ ⟨w.heap.size, 2, none⟩ = some (.slice kag kng kcg) := B0.out.cell 2
  have B0_3 : World.cell? _ ⟨w.heap.size, 3, none⟩ = some (.slice kac knc kcc) := B0.out.cell 3
  have B0_l := B0.out.lt
  have B1_0 : World.cell? _ ⟨w.heap.size + 1, 0, none⟩ = some (.int .i64 df) := B1.out.cell 0
  have B1_1 : World.cell? _ ⟨w.heap.size + 1, 1, none⟩ = some (.slice da1 dn1 dc1) := B1.out.cell 1
  have B1_2 : World.cell? _ ⟨w.heap.size + 1, 2, none⟩ = some (.slice da2 dn2 dc2) := B1.out.cell 2
  have B1_l := B1.out.lt
  have Y0_0 : World.cell? _ ⟨v7.heap.size, 0, none⟩ = some (.int .i64 kneed) := Y0.out.cell 0
  have Y0_1 : World.cell? _ ⟨v7.heap.size, 1, none⟩ = some (.int .i64 kmany) := Y0.out.cell 1
  have Y0_2 : World.cell? _ ⟨v7.heap.size, 2, none⟩ = some (.slice (some ⟨x0b1, 0, none⟩) kng kng) := Y0.out.cell 2
  have Y0_3 : World.cell? _ ⟨v7.heap.size, 3, none⟩ = some (.slice (some ⟨x0b2, 0, none⟩) knc knc) := Y0.out.cell 3
  have Y0_l := Y0.out.lt
  have Y1_0 : World.cell? _ ⟨v8.heap.size, 0, none⟩ = some (.int .i64 df) := Y1.out.cell 0
  have Y1_1 : World.cell? _ ⟨v8.heap.size, 1, none⟩ = some (.slice (some ⟨x1b1, 0, none⟩) dn1 dn1) := Y1.out.cell 1
  have Y1_2 : World.cell? _ ⟨v8.heap.size, 2, none⟩ = some (.slice (some ⟨x1b2, 0, none⟩) dn2 dn2) := Y1.out.cell 2
  have Y1_l := Y1.out.lt
  go_wp2
  go_ret
  exact ⟨rfl, Draw.below_of G.out⟩
end Run
end Go.Proofs.YtonhdkideianiaaDoor
