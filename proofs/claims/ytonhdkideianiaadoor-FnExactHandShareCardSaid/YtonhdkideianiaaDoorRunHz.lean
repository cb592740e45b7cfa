/-
  The walk of the exact law on a share handed on.
-/
import Derived.Test.YtonhdkideianiaaDoorHt
import Derived.Test.YtonhdkideianiaaDoorHu
import Derived.Test.YtonhdkideianiaaDoorXo
import Derived.Test.YtonhdkideianiaaDoorSm
import Derived.Deep.RegionHeld3
namespace Go.Proofs.YtonhdkideianiaaDoor
namespace Run
open Go.RowKit Alg Mem Con Mp Hd
set_option linter.unusedVariables false

set_option maxRecDepth 100000 in
set_option maxHeartbeats 8000000 in
theorem FnExactHandShare (kneed kmany : Int) (kag : Option Addr) (kng kcg : Nat) (kzg : Nat → Int) (kac : Option Addr) (knc kcc : Nat) (kzc : Nat → Int) (dad : Option Addr) (dnd dcd : Nat) (dD : Nat → DV) (xn : Int) (xm : Int) (xe : Int) (w : World) (kA10 : Ints w kag kng kzg) (kA20 : Ints w kac knc kzc) (dA10 : DealsIn w dad dnd dD) (khm1 : kng ≤ maxLen) (khm2 : knc ≤ maxLen) (dhm1 : dnd ≤ maxLen) (dhm2 : ∀ j, j < dnd → (dD j).n1 ≤ maxLen ∧ (dD j).n2 ≤ maxLen) (ad : Addr) (hv0 : Sent w ad) :
    Calls Tryd.prog 5 #[.agg #[.int .i64 kneed, .int .i64 kmany, .slice kag kng kcg, .slice kac knc kcc], .slice dad dnd dcd, .int .i64 xn, .int .i64 xm, .int .i64 xe] w (Yes w) := by
  have G := Lib.hid (Draw.grown_alloc w (.cells #[.int .i64 kneed, .int .i64 kmany, .slice kag kng kcg, .slice kac knc kcc] 36) none)
  have B0 := Lib.hid (Blk.new w #[.int .i64 kneed, .int .i64 kmany, .slice kag kng kcg, .slice kac knc kcc] 36)
  replace kA10 := Lib.hid kA10
  have kA1 := Lib.hid (kA10.out.kept G.out)
  replace kA20 := Lib.hid kA20
  have kA2 := Lib.hid (kA20.out.kept G.out)
  replace dA10 := Lib.hid dA10
  have dA1 := Lib.hid (dA10.out.kept G.out)
  replace hv0 := Lib.hid hv0
  have hv := Lib.hid (hv0.out.kept G.out)
  go_enter Tryd.func5, Tryd.ntmps5
  have B0_0 : World.cell? _ ⟨w.heap.size, 0, none⟩ = some (.int .i64 kneed) := B0.out.cell 0
  have B0_1 : World.cell? _ ⟨w.heap.size, 1, none⟩ = some (.int .i64 kmany) := B0.out.cell 1
  have B0_2 : World.cell? _ ⟨w.heap.size, 2, none⟩ = some (.slice kag kng kcg) := B0.out.cell 2
  have B0_3 : World.cell? _ ⟨w.heap.size, 3, none⟩ = some (.slice kac knc kcc) := B0.out.cell 3
  have B0_l := B0.out.lt
  go_wp2_with fail
  refine (szkey' _ kneed kmany _ kng _ _ knc _ 1048576 (by omega) (by omega) khm1 khm2).mono ?_
  rintro e v1 ⟨r0, rfl, hg, hr⟩
  clear B0_0 B0_1 B0_2 B0_3 B0_l
  replace G := Lib.hid (gtr G.out hg)
  replace B0 := Lib.hid (B0.out.keptN hg)
  replace kA1 := Lib.hid (kA10.out.kept G.out)
  replace kA2 := Lib.hid (kA20.out.kept G.out)
  replace dA1 := Lib.hid (dA10.out.kept G.out)
  replace hv := Lib.hid (hv0.out.kept G.out)
  clear hg
  rcases hr with rfl | ⟨h0a, h0b, khl1, khl2⟩
  · go_wp2
    go_ret
    exact ⟨rfl, Draw.below_of G.out⟩
  have hn0 : ¬ r0 < 0 := by omega
  have B0_0 : World.cell? _ ⟨w.heap.size, 0, none⟩ = some (.int .i64 kneed) := B0.out.cell 0
  have B0_1 : World.cell? _ ⟨w.heap.size, 1, none⟩ = some (.int .i64 kmany) := B0.out.cell 1
  have B0_2 : World.cell? _ ⟨w.heap.size, 2, none⟩ = some (.slice kag kng kcg) := B0.out.cell 2
  have B0_3 : World.cell? _ ⟨w.heap.size, 3, none⟩ = some (.slice kac knc kcc) := B0.out.cell 3
  have B0_l := B0.out.lt
  go_wp2_with fail
  refine (szdeals _ _ dnd _ dD r0 (by omega) (by omega) dA1.out dhm1 dhm2).mono ?_
  rintro e v2 ⟨r1, rfl, hg, hr⟩
  clear B0_0 B0_1 B0_2 B0_3 B0_l
  replace G := Lib.hid (gtr G.out hg)
  replace B0 := Lib.hid (B0.out.keptN hg)
  replace kA1 := Lib.hid (kA10.out.kept G.out)
  replace kA2 := Lib.hid (kA20.out.kept G.out)
  replace dA1 := Lib.hid (dA10.out.kept G.out)
  replace hv := Lib.hid (hv0.out.kept G.out)
  clear hg
  rcases hr with rfl | ⟨h1a, h1b, dhl0, dhL⟩
  · go_wp2
    go_ret
    exact ⟨rfl, Draw.below_of G.out⟩
  have hn1 : ¬ r1 < 0 := by omega
  have B0_0 : World.cell? _ ⟨w.heap.size, 0, none⟩ = some (.int .i64 kneed) := B0.out.cell 0
  have B0_1 : World.cell? _ ⟨w.heap.size, 1, none⟩ = some (.int .i64 kmany) := B0.out.cell 1
  have B0_2 : World.cell? _ ⟨w.heap.size, 2, none⟩ = some (.slice kag kng kcg) := B0.out.cell 2
  have B0_3 : World.cell? _ ⟨w.heap.size, 3, none⟩ = some (.slice kac knc kcc) := B0.out.cell 3
  have B0_l := B0.out.lt
  go_wp2_with fail
  refine (tokey _ kneed kmany _ kng _ kzg _ knc _ kzc kA1.out kA2.out (by omega) (by omega)).mono ?_
  rintro e v3 ⟨s0b1, s0b2, rfl, s0h, s0r1, s0r2, hg⟩
  clear B0_0 B0_1 B0_2 B0_3 B0_l
  replace G := Lib.hid (gtr G.out hg)
  replace B0 := Lib.hid (B0.out.keptN hg)
  replace kA1 := Lib.hid (kA10.out.kept G.out)
  replace kA2 := Lib.hid (kA20.out.kept G.out)
  replace dA1 := Lib.hid (dA10.out.kept G.out)
  replace hv := Lib.hid (hv0.out.kept G.out)
  clear hg
  have s0P1 := Lib.hid (s0r1.ints)
  have s0P2 := Lib.hid (s0r2.ints)
  clear s0h s0r1 s0r2
  have B0_0 : World.cell? _ ⟨w.heap.size, 0, none⟩ = some (.int .i64 kneed) := B0.out.cell 0
  have B0_1 : World.cell? _ ⟨w.heap.size, 1, none⟩ = some (.int .i64 kmany) := B0.out.cell 1
  have B0_2 : World.cell? _ ⟨w.heap.size, 2, none⟩ = some (.slice kag kng kcg) := B0.out.cell 2
  have B0_3 : World.cell? _ ⟨w.heap.size, 3, none⟩ = some (.slice kac knc kcc) := B0.out.cell 3
  have B0_l := B0.out.lt
  go_wp2_with fail
  refine (todeals _ _ dnd _ dD dA1.out (by omega) dhL).mono ?_
  rintro e v4 ⟨s1b1, s1B1, s1B2, rfl, s1r1, hg⟩
  clear B0_0 B0_1 B0_2 B0_3 B0_l
  replace G := Lib.hid (gtr G.out hg)
  replace B0 := Lib.hid (B0.out.keptN hg)
  replace kA1 := Lib.hid (kA10.out.kept G.out)
  replace kA2 := Lib.hid (kA20.out.kept G.out)
  replace dA1 := Lib.hid (dA10.out.kept G.out)
  replace hv := Lib.hid (hv0.out.kept G.out)
  replace s0P1 := Lib.hid (s0P1.out.kept hg)
  replace s0P2 := Lib.hid (s0P2.out.kept hg)
  clear hg
  have s1P1 := Lib.hid (s1r1)
  clear s1r1
  have B0_0 : World.cell? _ ⟨w.heap.size, 0, none⟩ = some (.int .i64 kneed) := B0.out.cell 0
  have B0_1 : World.cell? _ ⟨w.heap.size, 1, none⟩ = some (.int .i64 kmany) := B0.out.cell 1
  have B0_2 : World.cell? _ ⟨w.heap.size, 2, none⟩ = some (.slice kag kng kcg) := B0.out.cell 2
  have B0_3 : World.cell? _ ⟨w.heap.size, 3, none⟩ = some (.slice kac knc kcc) := B0.out.cell 3
  have B0_l := B0.out.lt
  go_wp2_with fail
  refine (shandshare _ kneed kmany _ kng _ kzg _ knc _ kzc _ dnd _ (re dD s1B1 s1B2) xn xm xe s0P1.out s0P2.out s1P1.out (by omega) (by omega) (by omega) dhL).mono ?_
  rintro e v5 ⟨rfl, hg⟩
  rw [hsV_re, hsV_eq]
  clear B0_0 B0_1 B0_2 B0_3 B0_l
  replace G := Lib.hid (gtr G.out hg)
  replace B0 := Lib.hid (B0.out.keptN hg)
  replace kA1 := Lib.hid (kA10.out.kept G.out)
  replace kA2 := Lib.hid (kA20.out.kept G.out)
  replace dA1 := Lib.hid (dA10.out.kept G.out)
  replace hv := Lib.hid (hv0.out.kept G.out)
  replace s0P1 := Lib.hid (s0P1.out.kept hg)
  replace s0P2 := Lib.hid (s0P2.out.kept hg)
  replace s1P1 := Lib.hid (s1P1.out.kept hg)
  clear hg
  clear s0P1 s0P2 s1P1
  have hg := Draw.grown_alloc v5 (.cells #[.int .i64 (hfM kneed kmany kng kzg knc kzc dD xn xm dnd xe), .int .i64 (hfS kneed kmany kng kzg knc kzc dD xn xm dnd xe)] 48) none
  have Z := Lib.hid (Blk.new v5 #[.int .i64 (hfM kneed kmany kng kzg knc kzc dD xn xm dnd xe), .int .i64 (hfS kneed kmany kng kzg knc kzc dD xn xm dnd xe)] 48)
  replace G := Lib.hid (gtr G.out hg)
  replace B0 := Lib.hid (B0.out.keptN hg)
  replace kA1 := Lib.hid (kA10.out.kept G.out)
  replace kA2 := Lib.hid (kA20.out.kept G.out)
  replace dA1 := Lib.hid (dA10.out.kept G.out)
  replace hv := Lib.hid (hv0.out.kept G.out)
  clear hg
  have B0_0 : World.cell? _ ⟨w.heap.size, 0, none⟩ = some (.int .i64 kneed) := B0.out.cell 0
  have B0_1 : World.cell? _ ⟨w.heap.size, 1, none⟩ = some (.int .i64 kmany) := B0.out.cell 1
  have B0_2 : World.cell? _ ⟨w.heap.size, 2, none⟩ = some (.slice kag kng kcg) := B0.out.cell 2
  have B0_3 : World.cell? _ ⟨w.heap.size, 3, none⟩ = some (.slice kac knc kcc) := B0.out.cell 3
  have B0_l := B0.out.lt
  have Z_0 : World.cell? _ ⟨v5.heap.size, 0, none⟩ = some (.int .i64 (hfM kneed kmany kng kzg knc kzc dD xn xm dnd xe)) := Z.out.cell 0
  have Z_1 : World.cell? _ ⟨v5.heap.size, 1, none⟩ = some (.int .i64 (hfS kneed kmany kng kzg knc kzc dD xn xm dnd xe)) := Z.out.cell 1
  have Z_l := Z.out.lt
  go_wp2_with fail
  refine (tokey _ kneed kmany _ kng _ kzg _ knc _ kzc kA1.out kA2.out (by omega) (by omega)).mono ?_
  rintro e v6 ⟨x0b1, x0b2, rfl, x0h, x0r1, x0r2, hg⟩
  clear B0_0 B0_1 B0_2 B0_3 Z_0 Z_1 B0_l Z_l
  replace G := Lib.hid (gtr G.out hg)
  replace B0 := Lib.hid (B0.out.keptN hg)
  replace kA1 := Lib.hid (kA10.out.kept G.out)
  replace kA2 := Lib.hid (kA20.out.kept G.out)
  replace dA1 := Lib.hid (dA10.out.kept G.out)
  replace hv := Lib.hid (hv0.out.kept G.out)
  replace Z := Lib.hid (Z.out.keptN hg)
  clear hg
  have Cx0 := Lib.hid (Draw.grown_refl v6 none)
  have x0P1 := Lib.hid (x0r1.ints)
  have x0P10 := x0P1
  have x0P2 := Lib.hid (x0r2.ints)
  have x0P20 := x0P2
  clear x0h x0r1 x0r2
  have hg := Draw.grown_alloc v6 (.cells #[.int .i64 kneed, .int .i64 kmany, .slice (some ⟨x0b1, 0, none⟩) kng kng, .slice (some ⟨x0b2, 0, none⟩) knc knc] 25) none
  have Y0 := Lib.hid (Blk.new v6 #[.int .i64 kneed, .int .i64 kmany, .slice (some ⟨x0b1, 0, none⟩) kng kng, .slice (some ⟨x0b2, 0, none⟩) knc knc] 25)
  replace G := Lib.hid (gtr G.out hg)
  replace B0 := Lib.hid (B0.out.keptN hg)
  replace kA1 := Lib.hid (kA10.out.kept G.out)
  replace kA2 := Lib.hid (kA20.out.kept G.out)
  replace dA1 := Lib.hid (dA10.out.kept G.out)
  replace hv := Lib.hid (hv0.out.kept G.out)
  replace Z := Lib.hid (Z.out.keptN hg)
  replace Cx0 := Lib.hid (gtr Cx0.out hg)
  replace x0P1 := Lib.hid (x0P10.out.kept Cx0.out)
  replace x0P2 := Lib.hid (x0P20.out.kept Cx0.out)
  clear hg
  have B0_0 : World.cell? _ ⟨w.heap.size, 0, none⟩ = some (.int .i64 kneed) := B0.out.cell 0
  have B0_1 : World.cell? _ ⟨w.heap.size, 1, none⟩ = some (.int .i64 kmany) := B0.out.cell 1
  have B0_2 : World.cell? _ ⟨w.heap.size, 2, none⟩ = some (.slice kag kng kcg) := B0.out.cell 2
  have B0_3 : World.cell? _ ⟨w.heap.size, 3, none⟩ = some (.slice kac knc kcc) := B0.out.cell 3
  have B0_l := B0.out.lt
  have Z_0 : World.cell? _ ⟨v5.heap.size, 0, none⟩ = some (.int .i64 (hfM kneed kmany kng kzg knc kzc dD xn xm dnd xe)) := Z.out.cell 0
  have Z_1 : World.cell? _ ⟨v5.heap.size, 1, none⟩ = some (.int .i64 (hfS kneed kmany kng kzg knc kzc dD xn xm dnd xe)) := Z.out.cell 1
  have Z_l := Z.out.lt
  have Y0_0 : World.cell? _ ⟨v6.heap.size, 0, none⟩ = some (.int .i64 kneed) := Y0.out.cell 0
  have Y0_1 : World.cell? _ ⟨v6.heap.size, 1, none⟩ = some (.int .i64 kmany) := Y0.out.cell 1
  have Y0_2 : World.cell? _ ⟨v6.heap.size, 2, none⟩ = some (.slice (some ⟨x0b1, 0, none⟩) kng kng) := Y0.out.cell 2
  have Y0_3 : World.cell? _ ⟨v6.heap.size, 3, none⟩ = some (.slice (some ⟨x0b2, 0, none⟩) knc knc) := Y0.out.cell 3
  have Y0_l := Y0.out.lt
  go_wp2_with fail
  refine (todeals _ _ dnd _ dD dA1.out (by omega) dhL).mono ?_
  rintro e v7 ⟨x1b1, x1B1, x1B2, rfl, x1r1, hg⟩
  clear B0_0 B0_1 B0_2 B0_3 Z_0 Z_1 Y0_0 Y0_1 Y0_2 Y0_3 B0_l Z_l Y0_l
  replace G := Lib.hid (gtr G.out hg)
  replace B0 := Lib.hid (B0.out.keptN hg)
  replace kA1 := Lib.hid (kA10.out.kept G.out)
  replace kA2 := Lib.hid (kA20.out.kept G.out)
  replace dA1 := Lib.hid (dA10.out.kept G.out)
  replace hv := Lib.hid (hv0.out.kept G.out)
  replace Z := Lib.hid (Z.out.keptN hg)
  replace Cx0 := Lib.hid (gtr Cx0.out hg)
  replace x0P1 := Lib.hid (x0P10.out.kept Cx0.out)
  replace x0P2 := Lib.hid (x0P20.out.kept Cx0.out)
  replace Y0 := Lib.hid (Y0.out.keptN hg)
  clear hg
  have Cx1 := Lib.hid (Draw.grown_refl v7 none)
  have x1P1 := Lib.hid (x1r1)
  have x1P10 := x1P1
  clear x1r1
  have B0_0 : World.cell? _ ⟨w.heap.size, 0, none⟩ = some (.int .i64 kneed) := B0.out.cell 0
  have B0_1 : World.cell? _ ⟨w.heap.size, 1, none⟩ = some (.int .i64 kmany) := B0.out.cell 1
  have B0_2 : World.cell? _ ⟨w.heap.size, 2, none⟩ = some (.slice kag kng kcg) := B0.out.cell 2
  have B0_3 : World.cell? _ ⟨w.heap.size, 3, none⟩ = some (.slice kac knc kcc) := B0.out.cell 3
  have B0_l := B0.out.lt
  have Z_0 : World.cell? _ ⟨v5.heap.size, 0, none⟩ = some (.int .i64 (hfM kneed kmany kng kzg knc kzc dD xn xm dnd xe)) := Z.out.cell 0
  have Z_1 : World.cell? _ ⟨v5.heap.size, 1, none⟩ = some (.int .i64 (hfS kneed kmany kng kzg knc kzc dD xn xm dnd xe)) := Z.out.cell 1
  have Z_l := Z.out.lt
  have Y0_0 : World.cell? _ ⟨v6.heap.size, 0, none⟩ = some (.int .i64 kneed) := Y0.out.cell 0
  have Y0_1 : World.cell? _ ⟨v6.heap.size, 1, none⟩ = some (.int .i64 kmany) := Y0.out.cell 1
  have Y0_2 : World.cell? _ ⟨v6.heap.size, 2, none⟩ = some (.slice (some ⟨x0b1, 0, none⟩) kng kng) := Y0.out.cell 2
  have Y0_3 : World.cell? _ ⟨v6.heap.size, 3, none⟩ = some (.slice (some ⟨x0b2, 0, none⟩) knc knc) := Y0.out.cell 3
  have Y0_l := Y0.out.lt
  go_wp2_with fail
  refine (ihandshare _ kneed kmany _ kng _ kzg _ knc _ kzc _ dnd _ (re dD x1B1 x1B2) xn xm xe x0P1.out x0P2.out x1P1.out (by omega) (by omega) (by omega) dhL ad hv.out).mono ?_
  rintro e v8 ⟨rfl, hg⟩
  rw [hsV_re, hsV_eq]
  clear B0_0 B0_1 B0_2 B0_3 Z_0 Z_1 Y0_0 Y0_1 Y0_2 Y0_3 B0_l Z_l Y0_l
  replace G := Lib.hid (gtr G.out hg)
  replace B0 := Lib.hid (B0.out.keptN hg)
  replace kA1 := Lib.hid (kA10.out.kept G.out)
  replace kA2 := Lib.hid (kA20.out.kept G.out)
  replace dA1 := Lib.hid (dA10.out.kept G.out)
  replace hv := Lib.hid (hv0.out.kept G.out)
  replace Z := Lib.hid (Z.out.keptN hg)
  replace Cx0 := Lib.hid (gtr Cx0.out hg)
  replace x0P1 := Lib.hid (x0P10.out.kept Cx0.out)
  replace x0P2 := Lib.hid (x0P20.out.kept Cx0.out)
  replace Y0 := Lib.hid (Y0.out.keptN hg)
  replace Cx1 := Lib.hid (gtr Cx1.out hg)
  replace x1P1 := Lib.hid (x1P10.out.kept Cx1.out)
  clear hg
  have hg := Draw.grown_alloc v8 (.cells #[.int .i64 (hfM kneed kmany kng kzg knc kzc dD xn xm dnd xe), .int .i64 (hfS kneed kmany kng kzg knc kzc dD xn xm dnd xe)] 48) none
  have Q := Lib.hid (Blk.new v8 #[.int .i64 (hfM kneed kmany kng kzg knc kzc dD xn xm dnd xe), .int .i64 (hfS kneed kmany kng kzg knc kzc dD xn xm dnd xe)] 48)
  replace G := Lib.hid (gtr G.out hg)
  replace B0 := Lib.hid (B0.out.keptN hg)
  replace kA1 := Lib.hid (kA10.out.kept G.out)
  replace kA2 := Lib.hid (kA20.out.kept G.out)
  replace dA1 := Lib.hid (dA10.out.kept G.out)
  replace hv := Lib.hid (hv0.out.kept G.out)
  replace Z := Lib.hid (Z.out.keptN hg)
  replace Cx0 := Lib.hid (gtr Cx0.out hg)
  replace x0P1 := Lib.hid (x0P10.out.kept Cx0.out)
  replace x0P2 := Lib.hid (x0P20.out.kept Cx0.out)
  replace Y0 := Lib.hid (Y0.out.keptN hg)
  replace Cx1 := Lib.hid (gtr Cx1.out hg)
  replace x1P1 := Lib.hid (x1P10.out.kept Cx1.out)
  clear hg
  have B0_0 : World.cell? _ ⟨w.heap.size, 0, none⟩ = some (.int .i64 kneed) := B0.out.cell 0
  have B0_1 : World.cell? _ ⟨w.heap.size, 1, none⟩ = some (.int .i64 kmany) := B0.out.cell 1
  have B0_2 : World.cell? _ ⟨w.heap.size, 2, none⟩ = some (.slice kag kng kcg) := B0.out.cell 2
  have B0_3 : World.cell? _ ⟨w.heap.size, 3, none⟩ = some (.slice kac knc kcc) := B0.out.cell 3
  have B0_l := B0.out.lt
  have Z_0 : World.cell? _ ⟨v5.heap.size, 0, none⟩ = some (.int .i64 (hfM kneed kmany kng kzg knc kzc dD xn xm dnd xe)) := Z.out.cell 0
  have Z_1 : World.cell? _ ⟨v5.heap.size, 1, none⟩ = some (.int .i64 (hfS kneed kmany kng kzg knc kzc dD xn xm dnd xe)) := Z.out.cell 1
  have Z_l := Z.out.lt
  have Y0_0 : World.cell? _ ⟨v6.heap.size, 0, none⟩ = some (.int .i64 kneed) := Y0.out.cell 0
  have Y0_1 : World.cell? _ ⟨v6.heap.size, 1, none⟩ = some (.int .i64 kmany) := Y0.out.cell 1
  have Y0_2 : World.cell? _ ⟨v6.heap.size, 2, none⟩ = some (.slice (some ⟨x0b1, 0, none⟩) kng kng) := Y0.out.cell 2
  have Y0_3 : World.cell? _ ⟨v6.heap.size, 3, none⟩ = some (.slice (some ⟨x0b2, 0, none⟩) knc knc) := Y0.out.cell 3
  have Y0_l := Y0.out.lt
  have Q_0 : World.cell? _ ⟨v8.heap.size, 0, none⟩ = some (.int .i64 (hfM kneed kmany kng kzg knc kzc dD xn xm dnd xe)) := Q.out.cell 0
  have Q_1 : World.cell? _ ⟨v8.heap.size, 1, none⟩ = some (.int .i64 (hfS kneed kmany kng kzg knc kzc dD xn xm dnd xe)) := Q.out.cell 1
  have Q_l := Q.out.lt
  go_wp2_with fail
  refine (eqhld _ (hfM kneed kmany kng kzg knc kzc dD xn xm dnd xe) (hfS kneed kmany kng kzg knc kzc dD xn xm dnd xe)).mono ?_
  rintro e v9 ⟨rfl, hg⟩
  clear B0_0 B0_1 B0_2 B0_3 Z_0 Z_1 Y0_0 Y0_1 Y0_2 Y0_3 Q_0 Q_1 B0_l Z_l Y0_l Q_l
  replace G := Lib.hid (gtr G.out hg)
  replace B0 := Lib.hid (B0.out.keptN hg)
  replace kA1 := Lib.hid (kA10.out.kept G.out)
  replace kA2 := Lib.hid (kA20.out.kept G.out)
  replace dA1 := Lib.hid (dA10.out.kept G.out)
  replace hv := Lib.hid (hv0.out.kept G.out)
  replace Z := Lib.hid (Z.out.keptN hg)
  replace Cx0 := Lib.hid (gtr Cx0.out hg)
  replace x0P1 := Lib.hid (x0P10.out.kept Cx0.out)
  replace x0P2 := Lib.hid (x0P20.out.kept Cx0.out)
  replace Y0 := Lib.hid (Y0.out.keptN hg)
  replace Cx1 := Lib.hid (gtr Cx1.out hg)
  replace x1P1 := Lib.hid (x1P10.out.kept Cx1.out)
  replace Q := Lib.hid (Q.out.keptN hg)
  clear hg
  have hne : (hfB kneed kmany kng kzg knc kzc dD xn xm dnd xe != hfB kneed kmany kng kzg knc kzc dD xn xm dnd xe) = false := by simp
  generalize hfB kneed kmany kng kzg knc kzc dD xn xm dnd xe = gq at hne ⊢
  have B0_0 : World.cell? _ ⟨w.heap.size, 0, none⟩ = some (.int .i64 kneed) := B0.out.cell 0
  have B0_1 : World.cell? _ ⟨w.heap.size, 1, none⟩ = some (.int .i64 kmany) := B0.out.cell 1
  have B0_2 : World.cell? _ ⟨w.heap.size, 2, none⟩ = some (.slice kag kng kcg) := B0.out.cell 2
  have B0_3 : World.cell? _ ⟨w.heap.size, 3, none⟩ = some (.slice kac knc kcc) := B0.out.cell 3
  have B0_l := B0.out.lt
  have Z_0 : World.cell? _ ⟨v5.heap.size, 0, none⟩ = some (.int .i64 (hfM kneed kmany kng kzg knc kzc dD xn xm dnd xe)) := Z.out.cell 0
  have Z_1 : World.cell? _ ⟨v5.heap.size, 1, none⟩ = some (.int .i64 (hfS kneed kmany kng kzg knc kzc dD xn xm dnd xe)) := Z.out.cell 1
  have Z_l := Z.out.lt
  have Y0_0 : World.cell? _ ⟨v6.heap.size, 0, none⟩ = some (.int .i64 kneed) := Y0.out.cell 0
  have Y0_1 : World.cell? _ ⟨v6.heap.size, 1, none⟩ = some (.int .i64 kmany) := Y0.out.cell 1
  have Y0_2 : World.cell? _ ⟨v6.heap.size, 2, none⟩ = some (.slice (some ⟨x0b1, 0, none⟩) kng kng) := Y0.out.cell 2
  have Y0_3 : World.cell? _ ⟨v6.heap.size, 3, none⟩ = some (.slice (some ⟨x0b2, 0, none⟩) knc knc) := Y0.out.cell 3
  have Y0_l := Y0.out.lt
  have Q_0 : World.cell? _ ⟨v8.heap.size, 0, none⟩ = some (.int .i64 (hfM kneed kmany kng kzg knc kzc dD xn xm dnd xe)) := Q.out.cell 0
  have Q_1 : World.cell? _ ⟨v8.heap.size, 1, none⟩ = some (.int .i64 (hfS kneed kmany kng kzg knc kzc dD xn xm dnd xe)) := Q.out.cell 1
  have Q_l := Q.out.lt
  go_wp2_with fail
  clear B0_0 B0_1 B0_2 B0_3 Z_0 Z_1 Y0_0 Y0_1 Y0_2 Y0_3 Q_0 Q_1 B0_l Z_l Y0_l Q_l
  refine wp_region_held_drew (S := (fun w' => w'.cell? ⟨w.heap.size, 0, none⟩ = some (.int .i64 kneed) ∧ w'.cell? ⟨w.heap.size, 1, none⟩ = some (.int .i64 kmany) ∧ w'.cell? ⟨w.heap.size, 2, none⟩ = some (.slice kag kng kcg) ∧ w'.cell? ⟨w.heap.size, 3, none⟩ = some (.slice kac knc kcc) ∧ w'.cell? ⟨v5.heap.size, 0, none⟩ = some (.int .i64 (hfM kneed kmany kng kzg knc kzc dD xn xm dnd xe)) ∧ w'.cell? ⟨v5.heap.size, 1, none⟩ = some (.int .i64 (hfS kneed kmany kng kzg knc kzc dD xn xm dnd xe)) ∧ w'.cell? ⟨v6.heap.size, 0, none⟩ = some (.int .i64 kneed) ∧ w'.cell? ⟨v6.heap.size, 1, none⟩ = some (.int .i64 kmany) ∧ w'.cell? ⟨v6.heap.size, 2, none⟩ = some (.slice (some ⟨x0b1, 0, none⟩) kng kng) ∧ w'.cell? ⟨v6.heap.size, 3, none⟩ = some (.slice (some ⟨x0b2, 0, none⟩) knc knc) ∧ w'.cell? ⟨v8.heap.size, 0, none⟩ = some (.int .i64 (hfM kneed kmany kng kzg knc kzc dD xn xm dnd xe)) ∧ w'.cell? ⟨v8.heap.size, 1, none⟩ = some (.int .i64 (hfS kneed kmany kng kzg knc kzc dD xn xm dnd xe)))) (by kernel_rfl) (⟨B0.out.cell 0, B0.out.cell 1, B0.out.cell 2, B0.out.cell 3, Z.out.cell 0, Z.out.cell 1, Y0.out.cell 0, Y0.out.cell 1, Y0.out.cell 2, Y0.out.cell 3, Q.out.cell 0, Q.out.cell 1⟩) (fun hHeld => ?_)
  have hg := Draw.gdrew v9
  replace G := Lib.hid (gtr G.out hg)
  replace B0 := Lib.hid (B0.out.keptN hg)
  replace kA1 := Lib.hid (kA10.out.kept G.out)
  replace kA2 := Lib.hid (kA20.out.kept G.out)
  replace dA1 := Lib.hid (dA10.out.kept G.out)
  replace hv := Lib.hid (hv0.out.kept G.out)
  replace Z := Lib.hid (Z.out.keptN hg)
  replace Cx0 := Lib.hid (gtr Cx0.out hg)
  replace x0P1 := Lib.hid (x0P10.out.kept Cx0.out)
  replace x0P2 := Lib.hid (x0P20.out.kept Cx0.out)
  replace Y0 := Lib.hid (Y0.out.keptN hg)
  replace Cx1 := Lib.hid (gtr Cx1.out hg)
  replace x1P1 := Lib.hid (x1P10.out.kept Cx1.out)
  replace Q := Lib.hid (Q.out.keptN hg)
  clear hg
  generalize (v9).drew = v10 at *
  refine wpAnyH_take (i := 0) (oi := ⟨some 61, _, _, _, _, _⟩) (v := ?_) rfl (by kernel_rfl) (by kernel_rfl) (by kernel_rfl) (fun _ _ _ h => h) (Or.inl ⟨by rfl, ?_⟩) (by assumption) ?_
  rotate_left
  · intro w hSw; (try dsimp only at hSw); go_simp; try with_reducible rfl
  simp only [Act.put, List.setIfInBounds_toArray, List.set_cons_zero, List.set_cons_succ]
  refine wpAnyH_take (i := 1) (oi := ⟨some 62, _, _, _, _, _⟩) (v := ?_) rfl (by kernel_rfl) (by kernel_rfl) (by kernel_rfl) (fun _ _ _ h => h) (Or.inl ⟨by rfl, ?_⟩) (by assumption) ?_
  rotate_left
  · intro w hSw; (try dsimp only at hSw); go_simp; try with_reducible rfl
  simp only [Act.put, List.setIfInBounds_toArray, List.set_cons_zero, List.set_cons_succ]
  refine wpAnyH_ready (rs := [2]) (by kernel_rfl) (by simp) ?_
  refine AllReadyH.cons (o := ⟨some 63, _, _, _, _, _⟩) rfl (fun Kq hKq => ?_) AllReadyH.nil
  go_simp
  go_at_call 15
  refine (tokey _ kneed kmany _ kng _ kzg _ knc _ kzc kA1.out kA2.out (by omega) (by omega)).mono ?_
  rintro e v11 ⟨y0b1, y0b2, rfl, y0h, y0r1, y0r2, hg⟩
  have y0P1 := Lib.hid (y0r1.ints)
  have y0P2 := Lib.hid (y0r2.ints)
  replace G := Lib.hid (gtr G.out hg)
  replace B0 := Lib.hid (B0.out.keptN hg)
  replace kA1 := Lib.hid (kA10.out.kept G.out)
  replace kA2 := Lib.hid (kA20.out.kept G.out)
  replace dA1 := Lib.hid (dA10.out.kept G.out)
  replace hv := Lib.hid (hv0.out.kept G.out)
  replace Z := Lib.hid (Z.out.keptN hg)
  replace Cx0 := Lib.hid (gtr Cx0.out hg)
  replace x0P1 := Lib.hid (x0P10.out.kept Cx0.out)
  replace x0P2 := Lib.hid (x0P20.out.kept Cx0.out)
  replace Y0 := Lib.hid (Y0.out.keptN hg)
  replace Cx1 := Lib.hid (gtr Cx1.out hg)
  replace x1P1 := Lib.hid (x1P10.out.kept Cx1.out)
  replace Q := Lib.hid (Q.out.keptN hg)
  clear hg
  clear y0h y0r1 y0r2
  refine hKq.out _ _ (⟨B0.out.cell 0, B0.out.cell 1, B0.out.cell 2, B0.out.cell 3, Z.out.cell 0, Z.out.cell 1, Y0.out.cell 0, Y0.out.cell 1, Y0.out.cell 2, Y0.out.cell 3, Q.out.cell 0, Q.out.cell 1⟩) (fun hHeld => ?_)
  clear hKq Kq
  refine wpAnyH_ready (rs := [3]) (by kernel_rfl) (by simp) ?_
  refine AllReadyH.cons (o := ⟨some 64, _, _, _, _, _⟩) rfl (fun Kq hKq => ?_) AllReadyH.nil
  go_simp
  go_at_call 17
  refine (eqkey _ kneed kmany _ _ _ _ kng _ _ kzg knc _ _ kzc x0P1.out x0P2.out y0P1.out y0P2.out (by omega) (by omega)).mono ?_
  rintro e v12 ⟨rfl, hg⟩
  replace G := Lib.hid (gtr G.out hg)
  replace B0 := Lib.hid (B0.out.keptN hg)
  replace kA1 := Lib.hid (kA10.out.kept G.out)
  replace kA2 := Lib.hid (kA20.out.kept G.out)
  replace dA1 := Lib.hid (dA10.out.kept G.out)
  replace hv := Lib.hid (hv0.out.kept G.out)
  replace Z := Lib.hid (Z.out.keptN hg)
  replace Cx0 := Lib.hid (gtr Cx0.out hg)
  replace x0P1 := Lib.hid (x0P10.out.kept Cx0.out)
  replace x0P2 := Lib.hid (x0P20.out.kept Cx0.out)
  replace Y0 := Lib.hid (Y0.out.keptN hg)
  replace Cx1 := Lib.hid (gtr Cx1.out hg)
  replace x1P1 := Lib.hid (x1P10.out.kept Cx1.out)
  replace Q := Lib.hid (Q.out.keptN hg)
  replace y0P1 := Lib.hid (y0P1.out.kept hg)
  replace y0P2 := Lib.hid (y0P2.out.kept hg)
  clear hg
  clear y0P1 y0P2
  refine hKq.out _ _ (⟨B0.out.cell 0, B0.out.cell 1, B0.out.cell 2, B0.out.cell 3, Z.out.cell 0, Z.out.cell 1, Y0.out.cell 0, Y0.out.cell 1, Y0.out.cell 2, Y0.out.cell 3, Q.out.cell 0, Q.out.cell 1⟩) (fun hHeld => ?_)
  clear hKq Kq
  refine wpAnyH_take (i := 4) (oi := ⟨some 65, _, _, _, _, _⟩) (v := ?_) rfl (by kernel_rfl) (by kernel_rfl) (by kernel_rfl) (fun _ _ _ h => h) (Or.inl ⟨by rfl, ?_⟩) (by assumption) ?_
  rotate_left
  · intro w hSw; (try dsimp only at hSw); go_simp; try with_reducible rfl
  simp only [Act.put, List.setIfInBounds_toArray, List.set_cons_zero, List.set_cons_succ]
  refine wpAnyH_done (by kernel_rfl) ?_ _
  have B0_0 : World.cell? _ ⟨w.heap.size, 0, none⟩ = some (.int .i64 kneed) := B0.out.cell 0
  have B0_1 : World.cell? _ ⟨w.heap.size, 1, none⟩ = some (.int .i64 kmany) := B0.out.cell 1
  have B0_2 : World.cell? _ ⟨w.heap.size, 2, none⟩ = some (.slice kag kng kcg) := B0.out.cell 2
  have B0_3 : World.cell? _ ⟨w.heap.size, 3, none⟩ = some (.slice kac knc kcc) := B0.out.cell 3
  have B0_l := B0.out.lt
  have Z_0 : World.cell? _ ⟨v5.heap.size, 0, none⟩ = some (.int .i64 (hfM kneed kmany kng kzg knc kzc dD xn xm dnd xe)) := Z.out.cell 0
  have Z_1 : World.cell? _ ⟨v5.heap.size, 1, none⟩ = some (.int .i64 (hfS kneed kmany kng kzg knc kzc dD xn xm dnd xe)) := Z.out.cell 1
  have Z_l := Z.out.lt
  have Y0_0 : World.cell? _ ⟨v6.heap.size, 0, none⟩ = some (.int .i64 kneed) := Y0.out.cell 0
  have Y0_1 : World.cell? _ ⟨v6.heap.size, 1, none⟩ = some (.int .i64 kmany) := Y0.out.cell 1
  have Y0_2 : World.cell? _ ⟨v6.heap.size, 2, none⟩ = some (.slice (some ⟨x0b1, 0, none⟩) kng kng) := Y0.out.cell 2
  have Y0_3 : World.cell? _ ⟨v6.heap.size, 3, none⟩ = some (.slice (some ⟨x0b2, 0, none⟩) knc knc) := Y0.out.cell 3
  have Y0_l := Y0.out.lt
  have Q_0 : World.cell? _ ⟨v8.heap.size, 0, none⟩ = some (.int .i64 (hfM kneed kmany kng kzg knc kzc dD xn xm dnd xe)) := Q.out.cell 0
  have Q_1 : World.cell? _ ⟨v8.heap.size, 1, none⟩ = some (.int .i64 (hfS kneed kmany kng kzg knc kzc dD xn xm dnd xe)) := Q.out.cell 1
  have Q_l := Q.out.lt
  go_wp2_with fail
  refine (todeals _ _ dnd _ dD dA1.out (by omega) dhL).mono ?_
  rintro e v13 ⟨y1b1, y1B1, y1B2, rfl, y1r1, hg⟩
  clear B0_0 B0_1 B0_2 B0_3 Z_0 Z_1 Y0_0 Y0_1 Y0_2 Y0_3 Q_0 Q_1 B0_l Z_l Y0_l Q_l
  replace G := Lib.hid (gtr G.out hg)
  replace B0 := Lib.hid (B0.out.keptN hg)
  replace kA1 := Lib.hid (kA10.out.kept G.out)
  replace kA2 := Lib.hid (kA20.out.kept G.out)
  replace dA1 := Lib.hid (dA10.out.kept G.out)
  replace hv := Lib.hid (hv0.out.kept G.out)
  replace Z := Lib.hid (Z.out.keptN hg)
  replace Cx0 := Lib.hid (gtr Cx0.out hg)
  replace x0P1 := Lib.hid (x0P10.out.kept Cx0.out)
  replace x0P2 := Lib.hid (x0P20.out.kept Cx0.out)
  replace Y0 := Lib.hid (Y0.out.keptN hg)
  replace Cx1 := Lib.hid (gtr Cx1.out hg)
  replace x1P1 := Lib.hid (x1P10.out.kept Cx1.out)
  replace Q := Lib.hid (Q.out.keptN hg)
  clear hg
  have y1P1 := Lib.hid (y1r1)
  clear y1r1
  have B0_0 : World.cell? _ ⟨w.heap.size, 0, none⟩ = some (.int .i64 kneed) := B0.out.cell 0
  have B0_1 : World.cell? _ ⟨w.heap.size, 1, none⟩ = some (.int .i64 kmany) := B0.out.cell 1
  have B0_2 : World.cell? _ ⟨w.heap.size, 2, none⟩ = some (.slice kag kng kcg) := B0.out.cell 2
  have B0_3 : World.cell? _ ⟨w.heap.size, 3, none⟩ = some (.slice kac knc kcc) := B0.out.cell 3
  have B0_l := B0.out.lt
  have Z_0 : World.cell? _ ⟨v5.heap.size, 0, none⟩ = some (.int .i64 (hfM kneed kmany kng kzg knc kzc dD xn xm dnd xe)) := Z.out.cell 0
  have Z_1 : World.cell? _ ⟨v5.heap.size, 1, none⟩ = some (.int .i64 (hfS kneed kmany kng kzg knc kzc dD xn xm dnd xe)) := Z.out.cell 1
  have Z_l := Z.out.lt
  have Y0_0 : World.cell? _ ⟨v6.heap.size, 0, none⟩ = some (.int .i64 kneed) := Y0.out.cell 0
  have Y0_1 : World.cell? _ ⟨v6.heap.size, 1, none⟩ = some (.int .i64 kmany) := Y0.out.cell 1
  have Y0_2 : World.cell? _ ⟨v6.heap.size, 2, none⟩ = some (.slice (some ⟨x0b1, 0, none⟩) kng kng) := Y0.out.cell 2
  have Y0_3 : World.cell? _ ⟨v6.heap.size, 3, none⟩ = some (.slice (some ⟨x0b2, 0, none⟩) knc knc) := Y0.out.cell 3
  have Y0_l := Y0.out.lt
  have Q_0 : World.cell? _ ⟨v8.heap.size, 0, none⟩ = some (.int .i64 (hfM kneed kmany kng kzg knc kzc dD xn xm dnd xe)) := Q.out.cell 0
  have Q_1 : World.cell? _ ⟨v8.heap.size, 1, none⟩ = some (.int .i64 (hfS kneed kmany kng kzg knc kzc dD xn xm dnd xe)) := Q.out.cell 1
  have Q_l := Q.out.lt
  go_wp2_with fail
  refine (eqdeals _ _ _ dnd _ _ dD x1B1 x1B2 y1B1 y1B2 x1P1.out y1P1.out (by omega) dhL).mono ?_
  rintro e v14 ⟨rfl, hg⟩
  clear B0_0 B0_1 B0_2 B0_3 Z_0 Z_1 Y0_0 Y0_1 Y0_2 Y0_3 Q_0 Q_1 B0_l Z_l Y0_l Q_l
  replace G := Lib.hid (gtr G.out hg)
  replace B0 := Lib.hid (B0.out.keptN hg)
  replace kA1 := Lib.hid (kA10.out.kept G.out)
  replace kA2 := Lib.hid (kA20.out.kept G.out)
  replace dA1 := Lib.hid (dA10.out.kept G.out)
  replace hv := Lib.hid (hv0.out.kept G.out)
  replace Z := Lib.hid (Z.out.keptN hg)
  replace Cx0 := Lib.hid (gtr Cx0.out hg)
  replace x0P1 := Lib.hid (x0P10.out.kept Cx0.out)
  replace x0P2 := Lib.hid (x0P20.out.kept Cx0.out)
  replace Y0 := Lib.hid (Y0.out.keptN hg)
  replace Cx1 := Lib.hid (gtr Cx1.out hg)
  replace x1P1 := Lib.hid (x1P10.out.kept Cx1.out)
  replace Q := Lib.hid (Q.out.keptN hg)
  replace y1P1 := Lib.hid (y1P1.out.kept hg)
  clear hg
  clear y1P1
  have B0_0 : World.cell? _ ⟨w.heap.size, 0, none⟩ = some (.int .i64 kneed) := B0.out.cell 0
  have B0_1 : World.cell? _ ⟨w.heap.size, 1, none⟩ = some (.int .i64 kmany) := B0.out.cell 1
  have B0_2 : World.cell? _ ⟨w.heap.size, 2, none⟩ = some (.slice kag kng kcg) := B0.out.cell 2
  have B0_3 : World.cell? _ ⟨w.heap.size, 3, none⟩ = some (.slice kac knc kcc) := B0.out.cell 3
  have B0_l := B0.out.lt
  have Z_0 : World.cell? _ ⟨v5.heap.size, 0, none⟩ = some (.int .i64 (hfM kneed kmany kng kzg knc kzc dD xn xm dnd xe)) := Z.out.cell 0
  have Z_1 : World.cell? _ ⟨v5.heap.size, 1, none⟩ = some (.int .i64 (hfS kneed kmany kng kzg knc kzc dD xn xm dnd xe)) := Z.out.cell 1
  have Z_l := Z.out.lt
  have Y0_0 : World.cell? _ ⟨v6.heap.size, 0, none⟩ = some (.int .i64 kneed) := Y0.out.cell 0
  have Y0_1 : World.cell? _ ⟨v6.heap.size, 1, none⟩ = some (.int .i64 kmany) := Y0.out.cell 1
  have Y0_2 : World.cell? _ ⟨v6.heap.size, 2, none⟩ = some (.slice (some ⟨x0b1, 0, none⟩) kng kng) := Y0.out.cell 2
  have Y0_3 : World.cell? _ ⟨v6.heap.size, 3, none⟩ = some (.slice (some ⟨x0b2, 0, none⟩) knc knc) := Y0.out.cell 3
  have Y0_l := Y0.out.lt
  have Q_0 : World.cell? _ ⟨v8.heap.size, 0, none⟩ = some (.int .i64 (hfM kneed kmany kng kzg knc kzc dD xn xm dnd xe)) := Q.out.cell 0
  have Q_1 : World.cell? _ ⟨v8.heap.size, 1, none⟩ = some (.int .i64 (hfS kneed kmany kng kzg knc kzc dD xn xm dnd xe)) := Q.out.cell 1
  have Q_l := Q.out.lt
  go_wp2
  go_ret
  exact ⟨rfl, Draw.below_of G.out⟩
end Run
end Go.Proofs.YtonhdkideianiaaDoor
