/-
  The walks of the exact laws on signatures.
-/
import Derived.Test.YtpeofoabhjebbaaGq
import Derived.Test.YtpeofoabhjebbaaGs
import Derived.Test.YtpeofoabhjebbaaWk
import Derived.Test.YtpeofoabhjebbaaXo
import Derived.Test.YtpeofoabhjebbaaSm
import Derived.Deep.RegionHeld3
namespace Go.Proofs.Ytpeofoabhjebbaa
namespace Run
open Go.RowKit Alg Mem Con Mp Hd
set_option linter.unusedVariables false

set_option maxRecDepth 100000 in
set_option maxHeartbeats 8000000 in
theorem FnExactHashOf (r : Int) (pub : Int) (msg : Int) (w : World)   :
    Calls Try.prog 12 #[.int .i64 r, .int .i64 pub, .int .i64 msg] w (Yes w) := by
  have G := Lib.hid (Draw.grown_refl w none)
  go_enter Try.func12, Try.ntmps12
  go_wp2_with fail
  refine (shashG _ r pub msg).mono ?_
  rintro e v1 ⟨rfl, hg⟩
  replace G := Lib.hid (gtr G.out hg)
  clear hg
  go_wp2_with fail
  refine (ihash _ r pub msg).mono ?_
  rintro e v2 ⟨rfl, hg⟩
  replace G := Lib.hid (gtr G.out hg)
  clear hg
  have hne0 : (hF r pub msg != hF r pub msg) = false := by simp
  go_wp2
  go_ret
  exact ⟨rfl, Draw.below_of G.out⟩
set_option maxRecDepth 100000 in
set_option maxHeartbeats 8000000 in
theorem FnExactSigOk (pub : Int) (msg : Int) (sR sZ : Int) (w : World)   :
    Calls Try.prog 13 #[.int .i64 pub, .int .i64 msg, .agg #[.int .i64 sR, .int .i64 sZ]] w (Yes w) := by
  have G := Lib.hid (Draw.grown_alloc w (.cells #[.int .i64 sR, .int .i64 sZ] 55) none)
  have B2 := Lib.hid (Blk.new w #[.int .i64 sR, .int .i64 sZ] 55)
  go_enter Try.func13, Try.ntmps13
  have B2_0 : World.cell? _ ⟨w.heap.size, 0, none⟩ = some (.int .i64 sR) := B2.out.cell 0
  have B2_1 : World.cell? _ ⟨w.heap.size, 1, none⟩ = some (.int .i64 sZ) := B2.out.cell 1
  have B2_l := B2.out.lt
  go_wp2_with fail
  refine (tosig _ sR sZ).mono ?_
  rintro e v1 ⟨rfl, hg⟩
  clear B2_0 B2_1 B2_l
  replace G := Lib.hid (gtr G.out hg)
  replace B2 := Lib.hid (B2.out.keptN hg)
  clear hg
  have B2_0 : World.cell? _ ⟨w.heap.size, 0, none⟩ = some (.int .i64 sR) := B2.out.cell 0
  have B2_1 : World.cell? _ ⟨w.heap.size, 1, none⟩ = some (.int .i64 sZ) := B2.out.cell 1
  have B2_l := B2.out.lt
  go_wp2_with fail
  refine (ssigok _ pub msg sR sZ).mono ?_
  rintro e v2 ⟨rfl, hg⟩
  clear B2_0 B2_1 B2_l
  replace G := Lib.hid (gtr G.out hg)
  replace B2 := Lib.hid (B2.out.keptN hg)
  clear hg
  have B2_0 : World.cell? _ ⟨w.heap.size, 0, none⟩ = some (.int .i64 sR) := B2.out.cell 0
  have B2_1 : World.cell? _ ⟨w.heap.size, 1, none⟩ = some (.int .i64 sZ) := B2.out.cell 1
  have B2_l := B2.out.lt
  go_wp2_with fail
  refine (tosig _ sR sZ).mono ?_
  rintro e v3 ⟨rfl, hg⟩
  clear B2_0 B2_1 B2_l
  replace G := Lib.hid (gtr G.out hg)
  replace B2 := Lib.hid (B2.out.keptN hg)
  clear hg
  have B2_0 : World.cell? _ ⟨w.heap.size, 0, none⟩ = some (.int .i64 sR) := B2.out.cell 0
  have B2_1 : World.cell? _ ⟨w.heap.size, 1, none⟩ = some (.int .i64 sZ) := B2.out.cell 1
  have B2_l := B2.out.lt
  go_wp2_with fail
  refine (isigok _ pub msg sR sZ).mono ?_
  rintro e v4 ⟨rfl, hg⟩
  clear B2_0 B2_1 B2_l
  replace G := Lib.hid (gtr G.out hg)
  replace B2 := Lib.hid (B2.out.keptN hg)
  clear hg
  have hne0 : (sgF pub msg sR sZ != sgF pub msg sR sZ) = false := by simp
  have B2_0 : World.cell? _ ⟨w.heap.size, 0, none⟩ = some (.int .i64 sR) := B2.out.cell 0
  have B2_1 : World.cell? _ ⟨w.heap.size, 1, none⟩ = some (.int .i64 sZ) := B2.out.cell 1
  have B2_l := B2.out.lt
  go_wp2
  go_ret
  exact ⟨rfl, Draw.below_of G.out⟩
set_option maxRecDepth 100000 in
set_option maxHeartbeats 8000000 in
theorem FnExactSignAlone (secret : Int) (msg : Int) (drawn : Int) (w : World)   :
    Calls Try.prog 14 #[.int .i64 secret, .int .i64 msg, .int .i64 drawn] w (Yes w) := by
  have G := Lib.hid (Draw.grown_refl w none)
  go_enter Try.func14, Try.ntmps14
  go_wp2_with fail
  refine (ssalone _ secret msg drawn).mono ?_
  rintro e v1 ⟨rfl, hg⟩
  unfold saV
  replace G := Lib.hid (gtr G.out hg)
  clear hg
  have hg := Draw.grown_alloc v1 (.cells #[.int .i64 (saR' secret msg drawn), .int .i64 (saZ' secret msg drawn)] 29) none
  have Z := Lib.hid (Blk.new v1 #[.int .i64 (saR' secret msg drawn), .int .i64 (saZ' secret msg drawn)] 29)
  replace G := Lib.hid (gtr G.out hg)
  clear hg
  have Z_0 : World.cell? _ ⟨v1.heap.size, 0, none⟩ = some (.int .i64 (saR' secret msg drawn)) := Z.out.cell 0
  have Z_1 : World.cell? _ ⟨v1.heap.size, 1, none⟩ = some (.int .i64 (saZ' secret msg drawn)) := Z.out.cell 1
  have Z_l := Z.out.lt
  go_wp2_with fail
  refine (isalone _ secret msg drawn).mono ?_
  rintro e v2 ⟨rfl, hg⟩
  unfold saV
  clear Z_0 Z_1 Z_l
  replace G := Lib.hid (gtr G.out hg)
  replace Z := Lib.hid (Z.out.keptN hg)
  clear hg
  have hg := Draw.grown_alloc v2 (.cells #[.int .i64 (saR' secret msg drawn), .int .i64 (saZ' secret msg drawn)] 29) none
  have Q := Lib.hid (Blk.new v2 #[.int .i64 (saR' secret msg drawn), .int .i64 (saZ' secret msg drawn)] 29)
  replace G := Lib.hid (gtr G.out hg)
  replace Z := Lib.hid (Z.out.keptN hg)
  clear hg
  have Z_0 : World.cell? _ ⟨v1.heap.size, 0, none⟩ = some (.int .i64 (saR' secret msg drawn)) := Z.out.cell 0
  have Z_1 : World.cell? _ ⟨v1.heap.size, 1, none⟩ = some (.int .i64 (saZ' secret msg drawn)) := Z.out.cell 1
  have Z_l := Z.out.lt
  have Q_0 : World.cell? _ ⟨v2.heap.size, 0, none⟩ = some (.int .i64 (saR' secret msg drawn)) := Q.out.cell 0
  have Q_1 : World.cell? _ ⟨v2.heap.size, 1, none⟩ = some (.int .i64 (saZ' secret msg drawn)) := Q.out.cell 1
  have Q_l := Q.out.lt
  go_wp2_with fail
  refine (eqsig _ (saR' secret msg drawn) (saZ' secret msg drawn)).mono ?_
  rintro e v3 ⟨rfl, hg⟩
  clear Z_0 Z_1 Q_0 Q_1 Z_l Q_l
  replace G := Lib.hid (gtr G.out hg)
  replace Z := Lib.hid (Z.out.keptN hg)
  replace Q := Lib.hid (Q.out.keptN hg)
  clear hg
  have hne0 : (saOk secret msg drawn != saOk secret msg drawn) = false := by simp
  have Z_0 : World.cell? _ ⟨v1.heap.size, 0, none⟩ = some (.int .i64 (saR' secret msg drawn)) := Z.out.cell 0
  have Z_1 : World.cell? _ ⟨v1.heap.size, 1, none⟩ = some (.int .i64 (saZ' secret msg drawn)) := Z.out.cell 1
  have Z_l := Z.out.lt
  have Q_0 : World.cell? _ ⟨v2.heap.size, 0, none⟩ = some (.int .i64 (saR' secret msg drawn)) := Q.out.cell 0
  have Q_1 : World.cell? _ ⟨v2.heap.size, 1, none⟩ = some (.int .i64 (saZ' secret msg drawn)) := Q.out.cell 1
  have Q_l := Q.out.lt
  go_wp2
  go_ret
  exact ⟨rfl, Draw.below_of G.out⟩
set_option maxRecDepth 100000 in
set_option maxHeartbeats 8000000 in
theorem FnExactSignPart (kneed kmany : Int) (kag : Option Addr) (kng kcg : Nat) (kzg : Nat → Int) (kac : Option Addr) (knc kcc : Nat) (kzc : Nat → Int) (ma : Option Addr) (mn mc : Nat) (mz : Nat → Int) (hm hs : Int) (r : Int) (msg : Int) (d : Int) (w : World) (kA10 : Ints w kag kng kzg) (kA20 : Ints w kac knc kzc) (mA10 : Ints w ma mn mz) (khm1 : kng ≤ maxLen) (khm2 : knc ≤ maxLen) (mhm1 : mn ≤ maxLen) :
    Calls Try.prog 15 #[.agg #[.int .i64 kneed, .int .i64 kmany, .slice kag kng kcg, .slice kac knc kcc], .slice ma mn mc, .agg #[.int .i64 hm, .int .i64 hs], .int .i64 r, .int .i64 msg, .int .i64 d] w (Yes w) := by
  have G := Lib.hid (gtr (Draw.grown_alloc w (.cells #[.int .i64 kneed, .int .i64 kmany, .slice kag kng kcg, .slice kac knc kcc] 59) none) (Draw.grown_alloc _ (.cells #[.int .i64 hm, .int .i64 hs] 60) none))
  have B0 := Lib.hid ((Blk.new w #[.int .i64 kneed, .int .i64 kmany, .slice kag kng kcg, .slice kac knc kcc] 59).keptN (Draw.grown_alloc _ (.cells #[.int .i64 hm, .int .i64 hs] 60) none))
  have B2 := Lib.hid (blk_new2 w (.cells #[.int .i64 kneed, .int .i64 kmany, .slice kag kng kcg, .slice kac knc kcc] 59) #[.int .i64 hm, .int .i64 hs] 60)
  replace kA10 := Lib.hid kA10
  have kA1 := Lib.hid (kA10.out.kept G.out)
  replace kA20 := Lib.hid kA20
  have kA2 := Lib.hid (kA20.out.kept G.out)
  replace mA10 := Lib.hid mA10
  have mA1 := Lib.hid (mA10.out.kept G.out)
  go_enter Try.func15, Try.ntmps15
  by_cases hbmn : (1048576 : Int) < (mn : Int)
  · go_wp2
    go_ret
    exact ⟨rfl, Draw.below_of G.out⟩
  have B0_0 : World.cell? _ ⟨w.heap.size, 0, none⟩ = some (.int .i64 kneed) := B0.out.cell 0
  have B0_1 : World.cell? _ ⟨w.heap.size, 1, none⟩ = some (.int .i64 kmany) := B0.out.cell 1
  have B0_2 : World.cell? _ ⟨w.heap.size, 2, none⟩ = some (.slice kag kng kcg) := B0.out.cell 2
  have B0_3 : World.cell? _ ⟨w.heap.size, 3, none⟩ = some (.slice kac knc kcc) := B0.out.cell 3
  have B0_l := B0.out.lt
  have B2_0 : World.cell? _ ⟨w.heap.size + 1, 0, none⟩ = some (.int .i64 hm) := B2.out.cell 0
  have B2_1 : World.cell? _ ⟨w.heap.size + 1, 1, none⟩ = some (.int .i64 hs) := B2.out.cell 1
  have B2_l := B2.out.lt
  go_wp2_with fail
  refine (szkey' _ kneed kmany _ kng _ _ knc _ 1048576 (by omega) (by omega) khm1 khm2).mono ?_
  rintro e v1 ⟨r0, rfl, hg, hr⟩
  clear B0_0 B0_1 B0_2 B0_3 B2_0 B2_1 B0_l B2_l
  replace G := Lib.hid (gtr G.out hg)
  replace B0 := Lib.hid (B0.out.keptN hg)
  replace B2 := Lib.hid (B2.out.keptN hg)
  replace kA1 := Lib.hid (kA10.out.kept G.out)
  replace kA2 := Lib.hid (kA20.out.kept G.out)
  replace mA1 := Lib.hid (mA10.out.kept G.out)
  clear hg
  rcases hr with rfl | ⟨h0a, h0b, khl1, khl2⟩
  · go_wp2
    go_ret
    exact ⟨rfl, Draw.below_of G.out⟩
  have hn0 : ¬ r0 < 0 := by omega
  have B0_0 : World.cell? _ ⟨w.heap.size, 0, none⟩ = some (.int .i64 kneed) := B0.out.cell 0
  have B0_1 : World.cell? _ ⟨w.heap.size, 1, none⟩ = some (.int .i64 kmany) := B0.out.cell 1
  have B0_2 : World.cell? _ ⟨w.heap.size, 2, none⟩ = some (.slice kag kng kcg) := B0.out.cell 2
  have B0_3 : World.cell? _ ⟨w.heap.size, 3, none⟩ = some (.slice kac knc kcc) := B0.out.cell 3
  have B0_l := B0.out.lt
  have B2_0 : World.cell? _ ⟨w.heap.size + 1, 0, none⟩ = some (.int .i64 hm) := B2.out.cell 0
  have B2_1 : World.cell? _ ⟨w.heap.size + 1, 1, none⟩ = some (.int .i64 hs) := B2.out.cell 1
  have B2_l := B2.out.lt
  go_wp2_with fail
  clear B0_0 B0_1 B0_2 B0_3 B2_0 B2_1 B0_l B2_l
  refine wp_region_held_drew (S := (fun w' => w'.cell? ⟨w.heap.size, 0, none⟩ = some (.int .i64 kneed) ∧ w'.cell? ⟨w.heap.size, 1, none⟩ = some (.int .i64 kmany) ∧ w'.cell? ⟨w.heap.size, 2, none⟩ = some (.slice kag kng kcg) ∧ w'.cell? ⟨w.heap.size, 3, none⟩ = some (.slice kac knc kcc) ∧ w'.cell? ⟨w.heap.size + 1, 0, none⟩ = some (.int .i64 hm) ∧ w'.cell? ⟨w.heap.size + 1, 1, none⟩ = some (.int .i64 hs))) (by kernel_rfl) (⟨B0.out.cell 0, B0.out.cell 1, B0.out.cell 2, B0.out.cell 3, B2.out.cell 0, B2.out.cell 1⟩) (fun hHeld => ?_)
  have hg := Draw.gdrew v1
  replace G := Lib.hid (gtr G.out hg)
  replace B0 := Lib.hid (B0.out.keptN hg)
  replace B2 := Lib.hid (B2.out.keptN hg)
  replace kA1 := Lib.hid (kA10.out.kept G.out)
  replace kA2 := Lib.hid (kA20.out.kept G.out)
  replace mA1 := Lib.hid (mA10.out.kept G.out)
  clear hg
  generalize (v1).drew = v2 at *
  refine wpAnyH_take (i := 0) (oi := ⟨some 29, _, _, _, _, _⟩) (v := ?_) rfl (by kernel_rfl) (by kernel_rfl) (by kernel_rfl) (fun _ _ _ h => h) (Or.inl ⟨by rfl, ?_⟩) (by assumption) ?_
  rotate_left
  · intro w hSw; (try dsimp only at hSw); go_simp; try with_reducible rfl
  simp only [Act.put, List.setIfInBounds_toArray, List.set_cons_zero, List.set_cons_succ]
  refine wpAnyH_take (i := 2) (oi := ⟨some 31, _, _, _, _, _⟩) (v := ?_) rfl (by kernel_rfl) (by kernel_rfl) (by kernel_rfl) (fun _ _ _ h => h) (Or.inl ⟨by rfl, ?_⟩) (by assumption) ?_
  rotate_left
  · intro w hSw; (try dsimp only at hSw); go_simp; try with_reducible rfl
  simp only [Act.put, List.setIfInBounds_toArray, List.set_cons_zero, List.set_cons_succ]
  refine wpAnyH_take (i := 4) (oi := ⟨some 33, _, _, _, _, _⟩) (v := ?_) rfl (by kernel_rfl) (by kernel_rfl) (by kernel_rfl) (fun _ _ _ h => h) (Or.inl ⟨by rfl, ?_⟩) (by assumption) ?_
  rotate_left
  · intro w hSw; (try dsimp only at hSw); go_simp; try with_reducible rfl
  simp only [Act.put, List.setIfInBounds_toArray, List.set_cons_zero, List.set_cons_succ]
  refine wpAnyH_take (i := 6) (oi := ⟨some 35, _, _, _, _, _⟩) (v := ?_) rfl (by kernel_rfl) (by kernel_rfl) (by kernel_rfl) (fun _ _ _ h => h) (Or.inl ⟨by rfl, ?_⟩) (by assumption) ?_
  rotate_left
  · intro w hSw; (try dsimp only at hSw); go_simp; try with_reducible rfl
  simp only [Act.put, List.setIfInBounds_toArray, List.set_cons_zero, List.set_cons_succ]
  refine wpAnyH_take (i := 7) (oi := ⟨some 36, _, _, _, _, _⟩) (v := ?_) rfl (by kernel_rfl) (by kernel_rfl) (by kernel_rfl) (fun _ _ _ h => h) (Or.inl ⟨by rfl, ?_⟩) (by assumption) ?_
  rotate_left
  · intro w hSw; (try dsimp only at hSw); go_simp; try with_reducible rfl
  simp only [Act.put, List.setIfInBounds_toArray, List.set_cons_zero, List.set_cons_succ]
  refine wpAnyH_take (i := 8) (oi := ⟨some 37, _, _, _, _, _⟩) (v := ?_) rfl (by kernel_rfl) (by kernel_rfl) (by kernel_rfl) (fun _ _ _ h => h) (Or.inl ⟨by rfl, ?_⟩) (by assumption) ?_
  rotate_left
  · intro w hSw; (try dsimp only at hSw); go_simp; try with_reducible rfl
  simp only [Act.put, List.setIfInBounds_toArray, List.set_cons_zero, List.set_cons_succ]
  refine wpAnyH_ready (rs := [1]) (by kernel_rfl) (by simp) ?_
  refine AllReadyH.cons (o := ⟨some 30, _, _, _, _, _⟩) rfl (fun Kq hKq => ?_) AllReadyH.nil
  go_simp
  go_at_call 48
  refine (tokey _ kneed kmany _ kng _ kzg _ knc _ kzc kA1.out kA2.out (by omega) (by omega)).mono ?_
  rintro e v3 ⟨s0b1, s0b2, rfl, s0h, s0r1, s0r2, hg⟩
  have s0P1 := Lib.hid (s0r1.ints)
  have s0P2 := Lib.hid (s0r2.ints)
  replace G := Lib.hid (gtr G.out hg)
  replace B0 := Lib.hid (B0.out.keptN hg)
  replace B2 := Lib.hid (B2.out.keptN hg)
  replace kA1 := Lib.hid (kA10.out.kept G.out)
  replace kA2 := Lib.hid (kA20.out.kept G.out)
  replace mA1 := Lib.hid (mA10.out.kept G.out)
  clear hg
  clear s0h s0r1 s0r2
  refine hKq.out _ _ (⟨B0.out.cell 0, B0.out.cell 1, B0.out.cell 2, B0.out.cell 3, B2.out.cell 0, B2.out.cell 1⟩) (fun hHeld => ?_)
  clear hKq Kq
  refine wpAnyH_ready (rs := [3]) (by kernel_rfl) (by simp) ?_
  refine AllReadyH.cons (o := ⟨some 32, _, _, _, _, _⟩) rfl (fun Kq hKq => ?_) AllReadyH.nil
  go_simp
  go_at_call 49
  refine (toInt _ _ mn _ mz mA1.out (by omega)).mono ?_
  rintro e v4 ⟨s1b1, rfl, s1r1, hg⟩
  have s1P1 := Lib.hid (s1r1.ints)
  replace G := Lib.hid (gtr G.out hg)
  replace B0 := Lib.hid (B0.out.keptN hg)
  replace B2 := Lib.hid (B2.out.keptN hg)
  replace kA1 := Lib.hid (kA10.out.kept G.out)
  replace kA2 := Lib.hid (kA20.out.kept G.out)
  replace mA1 := Lib.hid (mA10.out.kept G.out)
  replace s0P1 := Lib.hid (s0P1.out.kept hg)
  replace s0P2 := Lib.hid (s0P2.out.kept hg)
  clear hg
  clear s1r1
  refine hKq.out _ _ (⟨B0.out.cell 0, B0.out.cell 1, B0.out.cell 2, B0.out.cell 3, B2.out.cell 0, B2.out.cell 1⟩) (fun hHeld => ?_)
  clear hKq Kq
  refine wpAnyH_ready (rs := [5]) (by kernel_rfl) (by simp) ?_
  refine AllReadyH.cons (o := ⟨some 34, _, _, _, _, _⟩) rfl (fun Kq hKq => ?_) AllReadyH.nil
  go_simp
  go_at_call 50
  refine (tohld _ hm hs).mono ?_
  rintro e v5 ⟨rfl, hg⟩
  replace G := Lib.hid (gtr G.out hg)
  replace B0 := Lib.hid (B0.out.keptN hg)
  replace B2 := Lib.hid (B2.out.keptN hg)
  replace kA1 := Lib.hid (kA10.out.kept G.out)
  replace kA2 := Lib.hid (kA20.out.kept G.out)
  replace mA1 := Lib.hid (mA10.out.kept G.out)
  replace s0P1 := Lib.hid (s0P1.out.kept hg)
  replace s0P2 := Lib.hid (s0P2.out.kept hg)
  replace s1P1 := Lib.hid (s1P1.out.kept hg)
  clear hg
  refine hKq.out _ _ (⟨B0.out.cell 0, B0.out.cell 1, B0.out.cell 2, B0.out.cell 3, B2.out.cell 0, B2.out.cell 1⟩) (fun hHeld => ?_)
  clear hKq Kq
  refine wpAnyH_ready (rs := [9]) (by kernel_rfl) (by simp) ?_
  refine AllReadyH.cons (o := ⟨some 38, _, _, _, _, _⟩) rfl (fun Kq hKq => ?_) AllReadyH.nil
  go_simp
  go_at_call 36
  refine (spart _ kneed kmany _ kng _ kzg _ knc _ kzc _ mn _ mz hm hs r msg d s0P1.out s0P2.out s1P1.out (by omega) (by omega) (by omega)).mono ?_
  rintro e v6 ⟨rfl, hg⟩
  unfold spV
  replace G := Lib.hid (gtr G.out hg)
  replace B0 := Lib.hid (B0.out.keptN hg)
  replace B2 := Lib.hid (B2.out.keptN hg)
  replace kA1 := Lib.hid (kA10.out.kept G.out)
  replace kA2 := Lib.hid (kA20.out.kept G.out)
  replace mA1 := Lib.hid (mA10.out.kept G.out)
  replace s0P1 := Lib.hid (s0P1.out.kept hg)
  replace s0P2 := Lib.hid (s0P2.out.kept hg)
  replace s1P1 := Lib.hid (s1P1.out.kept hg)
  clear hg
  clear s0P1 s0P2 s1P1
  refine hKq.out _ _ (⟨B0.out.cell 0, B0.out.cell 1, B0.out.cell 2, B0.out.cell 3, B2.out.cell 0, B2.out.cell 1⟩) (fun hHeld => ?_)
  clear hKq Kq
  refine wpAnyH_take (i := 10) (oi := ⟨some 28, _, _, _, _, _⟩) (v := ?_) rfl (by kernel_rfl) (by kernel_rfl) (by kernel_rfl) (fun _ _ _ h => h) (Or.inl ⟨by rfl, ?_⟩) (by assumption) ?_
  rotate_left
  · intro w hSw; (try dsimp only at hSw); go_simp; try with_reducible rfl
  simp only [Act.put, List.setIfInBounds_toArray, List.set_cons_zero, List.set_cons_succ]
  refine wpAnyH_take (i := 11) (oi := ⟨some 39, _, _, _, _, _⟩) (v := ?_) rfl (by kernel_rfl) (by kernel_rfl) (by kernel_rfl) (fun _ _ _ h => h) (Or.inl ⟨by rfl, ?_⟩) (by assumption) ?_
  rotate_left
  · intro w hSw; (try dsimp only at hSw); go_simp; try with_reducible rfl
  simp only [Act.put, List.setIfInBounds_toArray, List.set_cons_zero, List.set_cons_succ]
  refine wpAnyH_take (i := 12) (oi := ⟨some 40, _, _, _, _, _⟩) (v := ?_) rfl (by kernel_rfl) (by kernel_rfl) (by kernel_rfl) (fun _ _ _ h => h) (Or.inl ⟨by rfl, ?_⟩) (by assumption) ?_
  rotate_left
  · intro w hSw; (try dsimp only at hSw); go_simp; try with_reducible rfl
  simp only [Act.put, List.setIfInBounds_toArray, List.set_cons_zero, List.set_cons_succ]
  refine wpAnyH_take (i := 13) (oi := ⟨some 14, _, _, _, _, _⟩) (v := ?_) rfl (by kernel_rfl) (by kernel_rfl) (by kernel_rfl) (fun _ _ _ h => h) (Or.inl ⟨by rfl, ?_⟩) (by assumption) ?_
  rotate_left
  · intro w hSw; (try dsimp only at hSw); go_simp; try with_reducible rfl
  simp only [Act.put, List.setIfInBounds_toArray, List.set_cons_zero, List.set_cons_succ]
  refine wpAnyH_take (i := 14) (oi := ⟨some 15, _, _, _, _, _⟩) (v := ?_) rfl (by kernel_rfl) (by kernel_rfl) (by kernel_rfl) (fun _ _ _ h => h) (Or.inl ⟨by rfl, ?_⟩) (by assumption) ?_
  rotate_left
  · intro w hSw; (try dsimp only at hSw); go_simp; try with_reducible rfl
  simp only [Act.put, List.setIfInBounds_toArray, List.set_cons_zero, List.set_cons_succ]
  refine wpAnyH_done (by kernel_rfl) ?_ _
  have B0_0 : World.cell? _ ⟨w.heap.size, 0, none⟩ = some (.int .i64 kneed) := B0.out.cell 0
  have B0_1 : World.cell? _ ⟨w.heap.size, 1, none⟩ = some (.int .i64 kmany) := B0.out.cell 1
  have B0_2 : World.cell? _ ⟨w.heap.size, 2, none⟩ = some (.slice kag kng kcg) := B0.out.cell 2
  have B0_3 : World.cell? _ ⟨w.heap.size, 3, none⟩ = some (.slice kac knc kcc) := B0.out.cell 3
  have B0_l := B0.out.lt
  have B2_0 : World.cell? _ ⟨w.heap.size + 1, 0, none⟩ = some (.int .i64 hm) := B2.out.cell 0
  have B2_1 : World.cell? _ ⟨w.heap.size + 1, 1, none⟩ = some (.int .i64 hs) := B2.out.cell 1
  have B2_l := B2.out.lt
  go_wp2_with fail
  refine (tokey _ kneed kmany _ kng _ kzg _ knc _ kzc kA1.out kA2.out (by omega) (by omega)).mono ?_
  rintro e v7 ⟨x0b1, x0b2, rfl, x0h, x0r1, x0r2, hg⟩
  clear B0_0 B0_1 B0_2 B0_3 B2_0 B2_1 B0_l B2_l
  replace G := Lib.hid (gtr G.out hg)
  replace B0 := Lib.hid (B0.out.keptN hg)
  replace B2 := Lib.hid (B2.out.keptN hg)
  replace kA1 := Lib.hid (kA10.out.kept G.out)
  replace kA2 := Lib.hid (kA20.out.kept G.out)
  replace mA1 := Lib.hid (mA10.out.kept G.out)
  clear hg
  have Cx0 := Lib.hid (Draw.grown_refl v7 none)
  have x0P1 := Lib.hid (x0r1.ints)
  have x0P10 := x0P1
  have x0P2 := Lib.hid (x0r2.ints)
  have x0P20 := x0P2
  clear x0h x0r1 x0r2
  have hg := Draw.grown_alloc v7 (.cells #[.int .i64 kneed, .int .i64 kmany, .slice (some ⟨x0b1, 0, none⟩) kng kng, .slice (some ⟨x0b2, 0, none⟩) knc knc] 42) none
  have Y0 := Lib.hid (Blk.new v7 #[.int .i64 kneed, .int .i64 kmany, .slice (some ⟨x0b1, 0, none⟩) kng kng, .slice (some ⟨x0b2, 0, none⟩) knc knc] 42)
  replace G := Lib.hid (gtr G.out hg)
  replace B0 := Lib.hid (B0.out.keptN hg)
  replace B2 := Lib.hid (B2.out.keptN hg)
  replace kA1 := Lib.hid (kA10.out.kept G.out)
  replace kA2 := Lib.hid (kA20.out.kept G.out)
  replace mA1 := Lib.hid (mA10.out.kept G.out)
  replace Cx0 := Lib.hid (gtr Cx0.out hg)
  replace x0P1 := Lib.hid (x0P10.out.kept Cx0.out)
  replace x0P2 := Lib.hid (x0P20.out.kept Cx0.out)
  clear hg
  have B0_0 : World.cell? _ ⟨w.heap.size, 0, none⟩ = some (.int .i64 kneed) := B0.out.cell 0
  have B0_1 : World.cell? _ ⟨w.heap.size, 1, none⟩ = some (.int .i64 kmany) := B0.out.cell 1
  have B0_2 : World.cell? _ ⟨w.heap.size, 2, none⟩ = some (.slice kag kng kcg) := B0.out.cell 2
  have B0_3 : World.cell? _ ⟨w.heap.size, 3, none⟩ = some (.slice kac knc kcc) := B0.out.cell 3
  have B0_l := B0.out.lt
  have B2_0 : World.cell? _ ⟨w.heap.size + 1, 0, none⟩ = some (.int .i64 hm) := B2.out.cell 0
  have B2_1 : World.cell? _ ⟨w.heap.size + 1, 1, none⟩ = some (.int .i64 hs) := B2.out.cell 1
  have B2_l := B2.out.lt
  have Y0_0 : World.cell? _ ⟨v7.heap.size, 0, none⟩ = some (.int .i64 kneed) := Y0.out.cell 0
  have Y0_1 : World.cell? _ ⟨v7.heap.size, 1, none⟩ = some (.int .i64 kmany) := Y0.out.cell 1
  have Y0_2 : World.cell? _ ⟨v7.heap.size, 2, none⟩ = some (.slice (some ⟨x0b1, 0, none⟩) kng kng) := Y0.out.cell 2
  have Y0_3 : World.cell? _ ⟨v7.heap.size, 3, none⟩ = some (.slice (some ⟨x0b2, 0, none⟩) knc knc) := Y0.out.cell 3
  have Y0_l := Y0.out.lt
  go_wp2_with fail
  refine (toInt _ _ mn _ mz mA1.out (by omega)).mono ?_
  rintro e v8 ⟨x1b1, rfl, x1r1, hg⟩
  clear B0_0 B0_1 B0_2 B0_3 B2_0 B2_1 Y0_0 Y0_1 Y0_2 Y0_3 B0_l B2_l Y0_l
  replace G := Lib.hid (gtr G.out hg)
  replace B0 := Lib.hid (B0.out.keptN hg)
  replace B2 := Lib.hid (B2.out.keptN hg)
  replace kA1 := Lib.hid (kA10.out.kept G.out)
  replace kA2 := Lib.hid (kA20.out.kept G.out)
  replace mA1 := Lib.hid (mA10.out.kept G.out)
  replace Cx0 := Lib.hid (gtr Cx0.out hg)
  replace x0P1 := Lib.hid (x0P10.out.kept Cx0.out)
  replace x0P2 := Lib.hid (x0P20.out.kept Cx0.out)
  replace Y0 := Lib.hid (Y0.out.keptN hg)
  clear hg
  have Cx1 := Lib.hid (Draw.grown_refl v8 none)
  have x1P1 := Lib.hid (x1r1.ints)
  have x1P10 := x1P1
  clear x1r1
  have B0_0 : World.cell? _ ⟨w.heap.size, 0, none⟩ = some (.int .i64 kneed) := B0.out.cell 0
  have B0_1 : World.cell? _ ⟨w.heap.size, 1, none⟩ = some (.int .i64 kmany) := B0.out.cell 1
  have B0_2 : World.cell? _ ⟨w.heap.size, 2, none⟩ = some (.slice kag kng kcg) := B0.out.cell 2
  have B0_3 : World.cell? _ ⟨w.heap.size, 3, none⟩ = some (.slice kac knc kcc) := B0.out.cell 3
  have B0_l := B0.out.lt
  have B2_0 : World.cell? _ ⟨w.heap.size + 1, 0, none⟩ = some (.int .i64 hm) := B2.out.cell 0
  have B2_1 : World.cell? _ ⟨w.heap.size + 1, 1, none⟩ = some (.int .i64 hs) := B2.out.cell 1
  have B2_l := B2.out.lt
  have Y0_0 : World.cell? _ ⟨v7.heap.size, 0, none⟩ = some (.int .i64 kneed) := Y0.out.cell 0
  have Y0_1 : World.cell? _ ⟨v7.heap.size, 1, none⟩ = some (.int .i64 kmany) := Y0.out.cell 1
  have Y0_2 : World.cell? _ ⟨v7.heap.size, 2, none⟩ = some (.slice (some ⟨x0b1, 0, none⟩) kng kng) := Y0.out.cell 2
  have Y0_3 : World.cell? _ ⟨v7.heap.size, 3, none⟩ = some (.slice (some ⟨x0b2, 0, none⟩) knc knc) := Y0.out.cell 3
  have Y0_l := Y0.out.lt
  go_wp2_with fail
  clear B0_0 B0_1 B0_2 B0_3 B2_0 B2_1 Y0_0 Y0_1 Y0_2 Y0_3 B0_l B2_l Y0_l
  refine wp_region_held_drew (S := (fun w' => w'.cell? ⟨w.heap.size, 0, none⟩ = some (.int .i64 kneed) ∧ w'.cell? ⟨w.heap.size, 1, none⟩ = some (.int .i64 kmany) ∧ w'.cell? ⟨w.heap.size, 2, none⟩ = some (.slice kag kng kcg) ∧ w'.cell? ⟨w.heap.size, 3, none⟩ = some (.slice kac knc kcc) ∧ w'.cell? ⟨w.heap.size + 1, 0, none⟩ = some (.int .i64 hm) ∧ w'.cell? ⟨w.heap.size + 1, 1, none⟩ = some (.int .i64 hs) ∧ w'.cell? ⟨v7.heap.size, 0, none⟩ = some (.int .i64 kneed) ∧ w'.cell? ⟨v7.heap.size, 1, none⟩ = some (.int .i64 kmany) ∧ w'.cell? ⟨v7.heap.size, 2, none⟩ = some (.slice (some ⟨x0b1, 0, none⟩) kng kng) ∧ w'.cell? ⟨v7.heap.size, 3, none⟩ = some (.slice (some ⟨x0b2, 0, none⟩) knc knc))) (by kernel_rfl) (⟨B0.out.cell 0, B0.out.cell 1, B0.out.cell 2, B0.out.cell 3, B2.out.cell 0, B2.out.cell 1, Y0.out.cell 0, Y0.out.cell 1, Y0.out.cell 2, Y0.out.cell 3⟩) (fun hHeld => ?_)
  have hg := Draw.gdrew v8
  replace G := Lib.hid (gtr G.out hg)
  replace B0 := Lib.hid (B0.out.keptN hg)
  replace B2 := Lib.hid (B2.out.keptN hg)
  replace kA1 := Lib.hid (kA10.out.kept G.out)
  replace kA2 := Lib.hid (kA20.out.kept G.out)
  replace mA1 := Lib.hid (mA10.out.kept G.out)
  replace Cx0 := Lib.hid (gtr Cx0.out hg)
  replace x0P1 := Lib.hid (x0P10.out.kept Cx0.out)
  replace x0P2 := Lib.hid (x0P20.out.kept Cx0.out)
  replace Y0 := Lib.hid (Y0.out.keptN hg)
  replace Cx1 := Lib.hid (gtr Cx1.out hg)
  replace x1P1 := Lib.hid (x1P10.out.kept Cx1.out)
  clear hg
  generalize (v8).drew = v9 at *
  refine wpAnyH_take (i := 0) (oi := ⟨some 46, _, _, _, _, _⟩) (v := ?_) rfl (by kernel_rfl) (by kernel_rfl) (by kernel_rfl) (fun _ _ _ h => h) (Or.inl ⟨by rfl, ?_⟩) (by assumption) ?_
  rotate_left
  · intro w hSw; (try dsimp only at hSw); go_simp; try with_reducible rfl
  simp only [Act.put, List.setIfInBounds_toArray, List.set_cons_zero, List.set_cons_succ]
  refine wpAnyH_take (i := 1) (oi := ⟨some 47, _, _, _, _, _⟩) (v := ?_) rfl (by kernel_rfl) (by kernel_rfl) (by kernel_rfl) (fun _ _ _ h => h) (Or.inl ⟨by rfl, ?_⟩) (by assumption) ?_
  rotate_left
  · intro w hSw; (try dsimp only at hSw); go_simp; try with_reducible rfl
  simp only [Act.put, List.setIfInBounds_toArray, List.set_cons_zero, List.set_cons_succ]
  refine wpAnyH_take (i := 2) (oi := ⟨some 48, _, _, _, _, _⟩) (v := ?_) rfl (by kernel_rfl) (by kernel_rfl) (by kernel_rfl) (fun _ _ _ h => h) (Or.inl ⟨by rfl, ?_⟩) (by assumption) ?_
  rotate_left
  · intro w hSw; (try dsimp only at hSw); go_simp; try with_reducible rfl
  simp only [Act.put, List.setIfInBounds_toArray, List.set_cons_zero, List.set_cons_succ]
  refine wpAnyH_take (i := 4) (oi := ⟨some 50, _, _, _, _, _⟩) (v := ?_) rfl (by kernel_rfl) (by kernel_rfl) (by kernel_rfl) (fun _ _ _ h => h) (Or.inl ⟨by rfl, ?_⟩) (by assumption) ?_
  rotate_left
  · intro w hSw; (try dsimp only at hSw); go_simp; try with_reducible rfl
  simp only [Act.put, List.setIfInBounds_toArray, List.set_cons_zero, List.set_cons_succ]
  refine wpAnyH_take (i := 5) (oi := ⟨some 51, _, _, _, _, _⟩) (v := ?_) rfl (by kernel_rfl) (by kernel_rfl) (by kernel_rfl) (fun _ _ _ h => h) (Or.inl ⟨by rfl, ?_⟩) (by assumption) ?_
  rotate_left
  · intro w hSw; (try dsimp only at hSw); go_simp; try with_reducible rfl
  simp only [Act.put, List.setIfInBounds_toArray, List.set_cons_zero, List.set_cons_succ]
  refine wpAnyH_take (i := 6) (oi := ⟨some 52, _, _, _, _, _⟩) (v := ?_) rfl (by kernel_rfl) (by kernel_rfl) (by kernel_rfl) (fun _ _ _ h => h) (Or.inl ⟨by rfl, ?_⟩) (by assumption) ?_
  rotate_left
  · intro w hSw; (try dsimp only at hSw); go_simp; try with_reducible rfl
  simp only [Act.put, List.setIfInBounds_toArray, List.set_cons_zero, List.set_cons_succ]
  refine wpAnyH_ready (rs := [3]) (by kernel_rfl) (by simp) ?_
  refine AllReadyH.cons (o := ⟨some 49, _, _, _, _, _⟩) rfl (fun Kq hKq => ?_) AllReadyH.nil
  go_simp
  go_at_call 50
  refine (tohld _ hm hs).mono ?_
  rintro e v10 ⟨rfl, hg⟩
  replace G := Lib.hid (gtr G.out hg)
  replace B0 := Lib.hid (B0.out.keptN hg)
  replace B2 := Lib.hid (B2.out.keptN hg)
  replace kA1 := Lib.hid (kA10.out.kept G.out)
  replace kA2 := Lib.hid (kA20.out.kept G.out)
  replace mA1 := Lib.hid (mA10.out.kept G.out)
  replace Cx0 := Lib.hid (gtr Cx0.out hg)
  replace x0P1 := Lib.hid (x0P10.out.kept Cx0.out)
  replace x0P2 := Lib.hid (x0P20.out.kept Cx0.out)
  replace Y0 := Lib.hid (Y0.out.keptN hg)
  replace Cx1 := Lib.hid (gtr Cx1.out hg)
  replace x1P1 := Lib.hid (x1P10.out.kept Cx1.out)
  clear hg
  refine hKq.out _ _ (⟨B0.out.cell 0, B0.out.cell 1, B0.out.cell 2, B0.out.cell 3, B2.out.cell 0, B2.out.cell 1, Y0.out.cell 0, Y0.out.cell 1, Y0.out.cell 2, Y0.out.cell 3⟩) (fun hHeld => ?_)
  clear hKq Kq
  refine wpAnyH_ready (rs := [7]) (by kernel_rfl) (by simp) ?_
  refine AllReadyH.cons (o := ⟨some 53, _, _, _, _, _⟩) rfl (fun Kq hKq => ?_) AllReadyH.nil
  go_simp
  go_at_call 37
  refine (ipart _ kneed kmany _ kng _ kzg _ knc _ kzc _ mn _ mz hm hs r msg d x0P1.out x0P2.out x1P1.out (by omega) (by omega) (by omega) (Nat.le_refl _) (by unfold maxLen; omega)).mono ?_
  rintro e v11 ⟨rfl, hg⟩
  unfold spV
  replace G := Lib.hid (gtr G.out hg)
  replace B0 := Lib.hid (B0.out.keptN hg)
  replace B2 := Lib.hid (B2.out.keptN hg)
  replace kA1 := Lib.hid (kA10.out.kept G.out)
  replace kA2 := Lib.hid (kA20.out.kept G.out)
  replace mA1 := Lib.hid (mA10.out.kept G.out)
  replace Cx0 := Lib.hid (gtr Cx0.out hg)
  replace x0P1 := Lib.hid (x0P10.out.kept Cx0.out)
  replace x0P2 := Lib.hid (x0P20.out.kept Cx0.out)
  replace Y0 := Lib.hid (Y0.out.keptN hg)
  replace Cx1 := Lib.hid (gtr Cx1.out hg)
  replace x1P1 := Lib.hid (x1P10.out.kept Cx1.out)
  clear hg
  refine hKq.out _ _ (⟨B0.out.cell 0, B0.out.cell 1, B0.out.cell 2, B0.out.cell 3, B2.out.cell 0, B2.out.cell 1, Y0.out.cell 0, Y0.out.cell 1, Y0.out.cell 2, Y0.out.cell 3⟩) (fun hHeld => ?_)
  clear hKq Kq
  refine wpAnyH_take (i := 8) (oi := ⟨some 45, _, _, _, _, _⟩) (v := ?_) rfl (by kernel_rfl) (by kernel_rfl) (by kernel_rfl) (fun _ _ _ h => h) (Or.inl ⟨by rfl, ?_⟩) (by assumption) ?_
  rotate_left
  · intro w hSw; (try dsimp only at hSw); go_simp; try with_reducible rfl
  simp only [Act.put, List.setIfInBounds_toArray, List.set_cons_zero, List.set_cons_succ]
  refine wpAnyH_take (i := 9) (oi := ⟨some 54, _, _, _, _, _⟩) (v := ?_) rfl (by kernel_rfl) (by kernel_rfl) (by kernel_rfl) (fun _ _ _ h => h) (Or.inl ⟨by rfl, ?_⟩) (by assumption) ?_
  rotate_left
  · intro w hSw; (try dsimp only at hSw); go_simp; try with_reducible rfl
  simp only [Act.put, List.setIfInBounds_toArray, List.set_cons_zero, List.set_cons_succ]
  refine wpAnyH_take (i := 10) (oi := ⟨some 55, _, _, _, _, _⟩) (v := ?_) rfl (by kernel_rfl) (by kernel_rfl) (by kernel_rfl) (fun _ _ _ h => h) (Or.inl ⟨by rfl, ?_⟩) (by assumption) ?_
  rotate_left
  · intro w hSw; (try dsimp only at hSw); go_simp; try with_reducible rfl
  simp only [Act.put, List.setIfInBounds_toArray, List.set_cons_zero, List.set_cons_succ]
  refine wpAnyH_take (i := 11) (oi := ⟨some 18, _, _, _, _, _⟩) (v := ?_) rfl (by kernel_rfl) (by kernel_rfl) (by kernel_rfl) (fun _ _ _ h => h) (Or.inl ⟨by rfl, ?_⟩) (by assumption) ?_
  rotate_left
  · intro w hSw; (try dsimp only at hSw); go_simp; try with_reducible rfl
  simp only [Act.put, List.setIfInBounds_toArray, List.set_cons_zero, List.set_cons_succ]
  refine wpAnyH_take (i := 12) (oi := ⟨some 19, _, _, _, _, _⟩) (v := ?_) rfl (by kernel_rfl) (by kernel_rfl) (by kernel_rfl) (fun _ _ _ h => h) (Or.inl ⟨by rfl, ?_⟩) (by assumption) ?_
  rotate_left
  · intro w hSw; (try dsimp only at hSw); go_simp; try with_reducible rfl
  simp only [Act.put, List.setIfInBounds_toArray, List.set_cons_zero, List.set_cons_succ]
  refine wpAnyH_done (by kernel_rfl) ?_ _
  have hne0 : (spZ kneed kmany kng kzg knc kzc mn mz hm hs r msg d != spZ kneed kmany kng kzg knc kzc mn mz hm hs r msg d) = false := by simp
  have hne1 : (spOk kneed kmany kng kzg knc kzc mn mz hm hs r msg d != spOk kneed kmany kng kzg knc kzc mn mz hm hs r msg d) = false := by simp
  have B0_0 : World.cell? _ ⟨w.heap.size, 0, none⟩ = some (.int .i64 kneed) := B0.out.cell 0
  have B0_1 : World.cell? _ ⟨w.heap.size, 1, none⟩ = some (.int .i64 kmany) := B0.out.cell 1
  have B0_2 : World.cell? _ ⟨w.heap.size, 2, none⟩ = some (.slice kag kng kcg) := B0.out.cell 2
  have B0_3 : World.cell? _ ⟨w.heap.size, 3, none⟩ = some (.slice kac knc kcc) := B0.out.cell 3
  have B0_l := B0.out.lt
  have B2_0 : World.cell? _ ⟨w.heap.size + 1, 0, none⟩ = some (.int .i64 hm) := B2.out.cell 0
  have B2_1 : World.cell? _ ⟨w.heap.size + 1, 1, none⟩ = some (.int .i64 hs) := B2.out.cell 1
  have B2_l := B2.out.lt
  have Y0_0 : World.cell? _ ⟨v7.heap.size, 0, none⟩ = some (.int .i64 kneed) := Y0.out.cell 0
  have Y0_1 : World.cell? _ ⟨v7.heap.size, 1, none⟩ = some (.int .i64 kmany) := Y0.out.cell 1
  have Y0_2 : World.cell? _ ⟨v7.heap.size, 2, none⟩ = some (.slice (some ⟨x0b1, 0, none⟩) kng kng) := Y0.out.cell 2
  have Y0_3 : World.cell? _ ⟨v7.heap.size, 3, none⟩ = some (.slice (some ⟨x0b2, 0, none⟩) knc knc) := Y0.out.cell 3
  have Y0_l := Y0.out.lt
  go_wp2_with fail
  clear B0_0 B0_1 B0_2 B0_3 B2_0 B2_1 Y0_0 Y0_1 Y0_2 Y0_3 B0_l B2_l Y0_l
  refine wp_region_held_drew (S := (fun w' => w'.cell? ⟨w.heap.size, 0, none⟩ = some (.int .i64 kneed) ∧ w'.cell? ⟨w.heap.size, 1, none⟩ = some (.int .i64 kmany) ∧ w'.cell? ⟨w.heap.size, 2, none⟩ = some (.slice kag kng kcg) ∧ w'.cell? ⟨w.heap.size, 3, none⟩ = some (.slice kac knc kcc) ∧ w'.cell? ⟨w.heap.size + 1, 0, none⟩ = some (.int .i64 hm) ∧ w'.cell? ⟨w.heap.size + 1, 1, none⟩ = some (.int .i64 hs) ∧ w'.cell? ⟨v7.heap.size, 0, none⟩ = some (.int .i64 kneed) ∧ w'.cell? ⟨v7.heap.size, 1, none⟩ = some (.int .i64 kmany) ∧ w'.cell? ⟨v7.heap.size, 2, none⟩ = some (.slice (some ⟨x0b1, 0, none⟩) kng kng) ∧ w'.cell? ⟨v7.heap.size, 3, none⟩ = some (.slice (some ⟨x0b2, 0, none⟩) knc knc))) (by kernel_rfl) (⟨B0.out.cell 0, B0.out.cell 1, B0.out.cell 2, B0.out.cell 3, B2.out.cell 0, B2.out.cell 1, Y0.out.cell 0, Y0.out.cell 1, Y0.out.cell 2, Y0.out.cell 3⟩) (fun hHeld => ?_)
  have hg := Draw.gdrew v11
  replace G := Lib.hid (gtr G.out hg)
  replace B0 := Lib.hid (B0.out.keptN hg)
  replace B2 := Lib.hid (B2.out.keptN hg)
  replace kA1 := Lib.hid (kA10.out.kept G.out)
  replace kA2 := Lib.hid (kA20.out.kept G.out)
  replace mA1 := Lib.hid (mA10.out.kept G.out)
  replace Cx0 := Lib.hid (gtr Cx0.out hg)
  replace x0P1 := Lib.hid (x0P10.out.kept Cx0.out)
  replace x0P2 := Lib.hid (x0P20.out.kept Cx0.out)
  replace Y0 := Lib.hid (Y0.out.keptN hg)
  replace Cx1 := Lib.hid (gtr Cx1.out hg)
  replace x1P1 := Lib.hid (x1P10.out.kept Cx1.out)
  clear hg
  generalize (v11).drew = v12 at *
  refine wpAnyH_take (i := 0) (oi := ⟨some 64, _, _, _, _, _⟩) (v := ?_) rfl (by kernel_rfl) (by kernel_rfl) (by kernel_rfl) (fun _ _ _ h => h) (Or.inl ⟨by rfl, ?_⟩) (by assumption) ?_
  rotate_left
  · intro w hSw; (try dsimp only at hSw); go_simp; try with_reducible rfl
  simp only [Act.put, List.setIfInBounds_toArray, List.set_cons_zero, List.set_cons_succ]
  refine wpAnyH_take (i := 1) (oi := ⟨some 65, _, _, _, _, _⟩) (v := ?_) rfl (by kernel_rfl) (by kernel_rfl) (by kernel_rfl) (fun _ _ _ h => h) (Or.inl ⟨by rfl, ?_⟩) (by assumption) ?_
  rotate_left
  · intro w hSw; (try dsimp only at hSw); go_simp; try with_reducible rfl
  simp only [Act.put, List.setIfInBounds_toArray, List.set_cons_zero, List.set_cons_succ]
  refine wpAnyH_ready (rs := [2]) (by kernel_rfl) (by simp) ?_
  refine AllReadyH.cons (o := ⟨some 66, _, _, _, _, _⟩) rfl (fun Kq hKq => ?_) AllReadyH.nil
  go_simp
  go_at_call 48
  refine (tokey _ kneed kmany _ kng _ kzg _ knc _ kzc kA1.out kA2.out (by omega) (by omega)).mono ?_
  rintro e v13 ⟨y0b1, y0b2, rfl, y0h, y0r1, y0r2, hg⟩
  have y0P1 := Lib.hid (y0r1.ints)
  have y0P2 := Lib.hid (y0r2.ints)
  replace G := Lib.hid (gtr G.out hg)
  replace B0 := Lib.hid (B0.out.keptN hg)
  replace B2 := Lib.hid (B2.out.keptN hg)
  replace kA1 := Lib.hid (kA10.out.kept G.out)
  replace kA2 := Lib.hid (kA20.out.kept G.out)
  replace mA1 := Lib.hid (mA10.out.kept G.out)
  replace Cx0 := Lib.hid (gtr Cx0.out hg)
  replace x0P1 := Lib.hid (x0P10.out.kept Cx0.out)
  replace x0P2 := Lib.hid (x0P20.out.kept Cx0.out)
  replace Y0 := Lib.hid (Y0.out.keptN hg)
  replace Cx1 := Lib.hid (gtr Cx1.out hg)
  replace x1P1 := Lib.hid (x1P10.out.kept Cx1.out)
  clear hg
  clear y0h y0r1 y0r2
  refine hKq.out _ _ (⟨B0.out.cell 0, B0.out.cell 1, B0.out.cell 2, B0.out.cell 3, B2.out.cell 0, B2.out.cell 1, Y0.out.cell 0, Y0.out.cell 1, Y0.out.cell 2, Y0.out.cell 3⟩) (fun hHeld => ?_)
  clear hKq Kq
  refine wpAnyH_ready (rs := [3]) (by kernel_rfl) (by simp) ?_
  refine AllReadyH.cons (o := ⟨some 67, _, _, _, _, _⟩) rfl (fun Kq hKq => ?_) AllReadyH.nil
  go_simp
  go_at_call 51
  refine (eqkey _ kneed kmany _ _ _ _ kng _ _ kzg knc _ _ kzc x0P1.out x0P2.out y0P1.out y0P2.out (by omega) (by omega)).mono ?_
  rintro e v14 ⟨rfl, hg⟩
  replace G := Lib.hid (gtr G.out hg)
  replace B0 := Lib.hid (B0.out.keptN hg)
  replace B2 := Lib.hid (B2.out.keptN hg)
  replace kA1 := Lib.hid (kA10.out.kept G.out)
  replace kA2 := Lib.hid (kA20.out.kept G.out)
  replace mA1 := Lib.hid (mA10.out.kept G.out)
  replace Cx0 := Lib.hid (gtr Cx0.out hg)
  replace x0P1 := Lib.hid (x0P10.out.kept Cx0.out)
  replace x0P2 := Lib.hid (x0P20.out.kept Cx0.out)
  replace Y0 := Lib.hid (Y0.out.keptN hg)
  replace Cx1 := Lib.hid (gtr Cx1.out hg)
  replace x1P1 := Lib.hid (x1P10.out.kept Cx1.out)
  replace y0P1 := Lib.hid (y0P1.out.kept hg)
  replace y0P2 := Lib.hid (y0P2.out.kept hg)
  clear hg
  clear y0P1 y0P2
  refine hKq.out _ _ (⟨B0.out.cell 0, B0.out.cell 1, B0.out.cell 2, B0.out.cell 3, B2.out.cell 0, B2.out.cell 1, Y0.out.cell 0, Y0.out.cell 1, Y0.out.cell 2, Y0.out.cell 3⟩) (fun hHeld => ?_)
  clear hKq Kq
  refine wpAnyH_take (i := 4) (oi := ⟨some 68, _, _, _, _, _⟩) (v := ?_) rfl (by kernel_rfl) (by kernel_rfl) (by kernel_rfl) (fun _ _ _ h => h) (Or.inl ⟨by rfl, ?_⟩) (by assumption) ?_
  rotate_left
  · intro w hSw; (try dsimp only at hSw); go_simp; try with_reducible rfl
  simp only [Act.put, List.setIfInBounds_toArray, List.set_cons_zero, List.set_cons_succ]
  refine wpAnyH_done (by kernel_rfl) ?_ _
  have B0_0 : World.cell? _ ⟨w.heap.size, 0, none⟩ = some (.int .i64 kneed) := B0.out.cell 0
  have B0_1 : World.cell? _ ⟨w.heap.size, 1, none⟩ = some (.int .i64 kmany) := B0.out.cell 1
  have B0_2 : World.cell? _ ⟨w.heap.size, 2, none⟩ = some (.slice kag kng kcg) := B0.out.cell 2
  have B0_3 : World.cell? _ ⟨w.heap.size, 3, none⟩ = some (.slice kac knc kcc) := B0.out.cell 3
  have B0_l := B0.out.lt
  have B2_0 : World.cell? _ ⟨w.heap.size + 1, 0, none⟩ = some (.int .i64 hm) := B2.out.cell 0
  have B2_1 : World.cell? _ ⟨w.heap.size + 1, 1, none⟩ = some (.int .i64 hs) := B2.out.cell 1
  have B2_l := B2.out.lt
  have Y0_0 : World.cell? _ ⟨v7.heap.size, 0, none⟩ = some (.int .i64 kneed) := Y0.out.cell 0
  have Y0_1 : World.cell? _ ⟨v7.heap.size, 1, none⟩ = some (.int .i64 kmany) := Y0.out.cell 1
  have Y0_2 : World.cell? _ ⟨v7.heap.size, 2, none⟩ = some (.slice (some ⟨x0b1, 0, none⟩) kng kng) := Y0.out.cell 2
  have Y0_3 : World.cell? _ ⟨v7.heap.size, 3, none⟩ = some (.slice (some ⟨x0b2, 0, none⟩) knc knc) := Y0.out.cell 3
  have Y0_l := Y0.out.lt
  go_wp2_with fail
  refine (toInt _ _ mn _ mz mA1.out (by omega)).mono ?_
  rintro e v15 ⟨y1b1, rfl, y1r1, hg⟩
  clear B0_0 B0_1 B0_2 B0_3 B2_0 B2_1 Y0_0 Y0_1 Y0_2 Y0_3 B0_l B2_l Y0_l
  replace G := Lib.hid (gtr G.out hg)
  replace B0 := Lib.hid (B0.out.keptN hg)
  replace B2 := Lib.hid (B2.out.keptN hg)
  replace kA1 := Lib.hid (kA10.out.kept G.out)
  replace kA2 := Lib.hid (kA20.out.kept G.out)
  replace mA1 := Lib.hid (mA10.out.kept G.out)
  replace Cx0 := Lib.hid (gtr Cx0.out hg)
  replace x0P1 := Lib.hid (x0P10.out.kept Cx0.out)
  replace x0P2 := Lib.hid (x0P20.out.kept Cx0.out)
  replace Y0 := Lib.hid (Y0.out.keptN hg)
  replace Cx1 := Lib.hid (gtr Cx1.out hg)
  replace x1P1 := Lib.hid (x1P10.out.kept Cx1.out)
  clear hg
  have y1P1 := Lib.hid (y1r1.ints)
  clear y1r1
  have B0_0 : World.cell? _ ⟨w.heap.size, 0, none⟩ = some (.int .i64 kneed) := B0.out.cell 0
  have B0_1 : World.cell? _ ⟨w.heap.size, 1, none⟩ = some (.int .i64 kmany) := B0.out.cell 1
  have B0_2 : World.cell? _ ⟨w.heap.size, 2, none⟩ = some (.slice kag kng kcg) := B0.out.cell 2
  have B0_3 : World.cell? _ ⟨w.heap.size, 3, none⟩ = some (.slice kac knc kcc) := B0.out.cell 3
  have B0_l := B0.out.lt
  have B2_0 : World.cell? _ ⟨w.heap.size + 1, 0, none⟩ = some (.int .i64 hm) := B2.out.cell 0
  have B2_1 : World.cell? _ ⟨w.heap.size + 1, 1, none⟩ = some (.int .i64 hs) := B2.out.cell 1
  have B2_l := B2.out.lt
  have Y0_0 : World.cell? _ ⟨v7.heap.size, 0, none⟩ = some (.int .i64 kneed) := Y0.out.cell 0
  have Y0_1 : World.cell? _ ⟨v7.heap.size, 1, none⟩ = some (.int .i64 kmany) := Y0.out.cell 1
  have Y0_2 : World.cell? _ ⟨v7.heap.size, 2, none⟩ = some (.slice (some ⟨x0b1, 0, none⟩) kng kng) := Y0.out.cell 2
  have Y0_3 : World.cell? _ ⟨v7.heap.size, 3, none⟩ = some (.slice (some ⟨x0b2, 0, none⟩) knc knc) := Y0.out.cell 3
  have Y0_l := Y0.out.lt
  go_wp2_with fail
  refine (eqint _ _ _ mn _ _ mz x1P1.out y1P1.out (by omega)).mono ?_
  rintro e v16 ⟨rfl, hg⟩
  clear B0_0 B0_1 B0_2 B0_3 B2_0 B2_1 Y0_0 Y0_1 Y0_2 Y0_3 B0_l B2_l Y0_l
  replace G := Lib.hid (gtr G.out hg)
  replace B0 := Lib.hid (B0.out.keptN hg)
  replace B2 := Lib.hid (B2.out.keptN hg)
  replace kA1 := Lib.hid (kA10.out.kept G.out)
  replace kA2 := Lib.hid (kA20.out.kept G.out)
  replace mA1 := Lib.hid (mA10.out.kept G.out)
  replace Cx0 := Lib.hid (gtr Cx0.out hg)
  replace x0P1 := Lib.hid (x0P10.out.kept Cx0.out)
  replace x0P2 := Lib.hid (x0P20.out.kept Cx0.out)
  replace Y0 := Lib.hid (Y0.out.keptN hg)
  replace Cx1 := Lib.hid (gtr Cx1.out hg)
  replace x1P1 := Lib.hid (x1P10.out.kept Cx1.out)
  replace y1P1 := Lib.hid (y1P1.out.kept hg)
  clear hg
  clear y1P1
  have B0_0 : World.cell? _ ⟨w.heap.size, 0, none⟩ = some (.int .i64 kneed) := B0.out.cell 0
  have B0_1 : World.cell? _ ⟨w.heap.size, 1, none⟩ = some (.int .i64 kmany) := B0.out.cell 1
  have B0_2 : World.cell? _ ⟨w.heap.size, 2, none⟩ = some (.slice kag kng kcg) := B0.out.cell 2
  have B0_3 : World.cell? _ ⟨w.heap.size, 3, none⟩ = some (.slice kac knc kcc) := B0.out.cell 3
  have B0_l := B0.out.lt
  have B2_0 : World.cell? _ ⟨w.heap.size + 1, 0, none⟩ = some (.int .i64 hm) := B2.out.cell 0
  have B2_1 : World.cell? _ ⟨w.heap.size + 1, 1, none⟩ = some (.int .i64 hs) := B2.out.cell 1
  have B2_l := B2.out.lt
  have Y0_0 : World.cell? _ ⟨v7.heap.size, 0, none⟩ = some (.int .i64 kneed) := Y0.out.cell 0
  have Y0_1 : World.cell? _ ⟨v7.heap.size, 1, none⟩ = some (.int .i64 kmany) := Y0.out.cell 1
  have Y0_2 : World.cell? _ ⟨v7.heap.size, 2, none⟩ = some (.slice (some ⟨x0b1, 0, none⟩) kng kng) := Y0.out.cell 2
  have Y0_3 : World.cell? _ ⟨v7.heap.size, 3, none⟩ = some (.slice (some ⟨x0b2, 0, none⟩) knc knc) := Y0.out.cell 3
  have Y0_l := Y0.out.lt
  go_wp2
  go_ret
  exact ⟨rfl, Draw.below_of G.out⟩
set_option maxRecDepth 100000 in
set_option maxHeartbeats 8000000 in
theorem FnExactSignFits (kneed kmany : Int) (kag : Option Addr) (kng kcg : Nat) (kzg : Nat → Int) (kac : Option Addr) (knc kcc : Nat) (kzc : Nat → Int) (ma : Option Addr) (mn mc : Nat) (mz : Nat → Int) (xm : Int) (sh : Int) (r : Int) (msg : Int) (z : Int) (w : World) (kA10 : Ints w kag kng kzg) (kA20 : Ints w kac knc kzc) (mA10 : Ints w ma mn mz) (khm1 : kng ≤ maxLen) (khm2 : knc ≤ maxLen) (mhm1 : mn ≤ maxLen) :
    Calls Try.prog 16 #[.agg #[.int .i64 kneed, .int .i64 kmany, .slice kag kng kcg, .slice kac knc kcc], .slice ma mn mc, .int .i64 xm, .int .i64 sh, .int .i64 r, .int .i64 msg, .int .i64 z] w (Yes w) := by
  have G := Lib.hid (Draw.grown_alloc w (.cells #[.int .i64 kneed, .int .i64 kmany, .slice kag kng kcg, .slice kac knc kcc] 59) none)
  have B0 := Lib.hid (Blk.new w #[.int .i64 kneed, .int .i64 kmany, .slice kag kng kcg, .slice kac knc kcc] 59)
  replace kA10 := Lib.hid kA10
  have kA1 := Lib.hid (kA10.out.kept G.out)
  replace kA20 := Lib.hid kA20
  have kA2 := Lib.hid (kA20.out.kept G.out)
  replace mA10 := Lib.hid mA10
  have mA1 := Lib.hid (mA10.out.kept G.out)
  go_enter Try.func16, Try.ntmps16
  by_cases hbmn : (1048576 : Int) < (mn : Int)
  · go_wp2
    go_ret
    exact ⟨rfl, Draw.below_of G.out⟩
  have B0_0 : World.cell? _ ⟨w.heap.size, 0, none⟩ = some (.int .i64 kneed) := B0.out.cell 0
  have B0_1 : World.cell? _ ⟨w.heap.size, 1, none⟩ = some (.int .i64 kmany) := B0.out.cell 1
  have B0_2 : World.cell? _ ⟨w.heap.size, 2, none⟩ = some (.slice kag kng kcg) := B0.out.cell 2
  have B0_3 : World.cell? _ ⟨w.heap.size, 3, none⟩ = some (.slice kac knc kcc) := B0.out.cell 3
  have B0_l := B0.out.lt
  go_wp2_with fail
  refine (szkey' _ kneed kmany _ kng _ _ knc _ 1048576 (by omega) (by omega) khm1 khm2).mono ?_
  rintro e v1 ⟨r0, rfl, hg, hr⟩
  clear B0_0 B0_1 B0_2 B0_3 B0_l
  replace G := Lib.hid (gtr G.out hg)
  replace B0 := Lib.hid (B0.out.keptN hg)
  replace kA1 := Lib.hid (kA10.out.kept G.out)
  replace kA2 := Lib.hid (kA20.out.kept G.out)
  replace mA1 := Lib.hid (mA10.out.kept G.out)
  clear hg
  rcases hr with rfl | ⟨h0a, h0b, khl1, khl2⟩
  · go_wp2
    go_ret
    exact ⟨rfl, Draw.below_of G.out⟩
  have hn0 : ¬ r0 < 0 := by omega
  have B0_0 : World.cell? _ ⟨w.heap.size, 0, none⟩ = some (.int .i64 kneed) := B0.out.cell 0
  have B0_1 : World.cell? _ ⟨w.heap.size, 1, none⟩ = some (.int .i64 kmany) := B0.out.cell 1
  have B0_2 : World.cell? _ ⟨w.heap.size, 2, none⟩ = some (.slice kag kng kcg) := B0.out.cell 2
  have B0_3 : World.cell? _ ⟨w.heap.size, 3, none⟩ = some (.slice kac knc kcc) := B0.out.cell 3
  have B0_l := B0.out.lt
  go_wp2_with fail
  refine (tokey _ kneed kmany _ kng _ kzg _ knc _ kzc kA1.out kA2.out (by omega) (by omega)).mono ?_
  rintro e v2 ⟨s0b1, s0b2, rfl, s0h, s0r1, s0r2, hg⟩
  clear B0_0 B0_1 B0_2 B0_3 B0_l
  replace G := Lib.hid (gtr G.out hg)
  replace B0 := Lib.hid (B0.out.keptN hg)
  replace kA1 := Lib.hid (kA10.out.kept G.out)
  replace kA2 := Lib.hid (kA20.out.kept G.out)
  replace mA1 := Lib.hid (mA10.out.kept G.out)
  clear hg
  have s0P1 := Lib.hid (s0r1.ints)
  have s0P2 := Lib.hid (s0r2.ints)
  clear s0h s0r1 s0r2
  have B0_0 : World.cell? _ ⟨w.heap.size, 0, none⟩ = some (.int .i64 kneed) := B0.out.cell 0
  have B0_1 : World.cell? _ ⟨w.heap.size, 1, none⟩ = some (.int .i64 kmany) := B0.out.cell 1
  have B0_2 : World.cell? _ ⟨w.heap.size, 2, none⟩ = some (.slice kag kng kcg) := B0.out.cell 2
  have B0_3 : World.cell? _ ⟨w.heap.size, 3, none⟩ = some (.slice kac knc kcc) := B0.out.cell 3
  have B0_l := B0.out.lt
  go_wp2_with fail
  refine (toInt _ _ mn _ mz mA1.out (by omega)).mono ?_
  rintro e v3 ⟨s1b1, rfl, s1r1, hg⟩
  clear B0_0 B0_1 B0_2 B0_3 B0_l
  replace G := Lib.hid (gtr G.out hg)
  replace B0 := Lib.hid (B0.out.keptN hg)
  replace kA1 := Lib.hid (kA10.out.kept G.out)
  replace kA2 := Lib.hid (kA20.out.kept G.out)
  replace mA1 := Lib.hid (mA10.out.kept G.out)
  replace s0P1 := Lib.hid (s0P1.out.kept hg)
  replace s0P2 := Lib.hid (s0P2.out.kept hg)
  clear hg
  have s1P1 := Lib.hid (s1r1.ints)
  clear s1r1
  have B0_0 : World.cell? _ ⟨w.heap.size, 0, none⟩ = some (.int .i64 kneed) := B0.out.cell 0
  have B0_1 : World.cell? _ ⟨w.heap.size, 1, none⟩ = some (.int .i64 kmany) := B0.out.cell 1
  have B0_2 : World.cell? _ ⟨w.heap.size, 2, none⟩ = some (.slice kag kng kcg) := B0.out.cell 2
  have B0_3 : World.cell? _ ⟨w.heap.size, 3, none⟩ = some (.slice kac knc kcc) := B0.out.cell 3
  have B0_l := B0.out.lt
  go_wp2_with fail
  refine (sfits _ kneed kmany _ kng _ kzg _ knc _ kzc _ mn _ mz xm sh r msg z s0P1.out s0P2.out s1P1.out (by omega) (by omega) (by omega)).mono ?_
  rintro e v4 ⟨rfl, hg⟩
  clear B0_0 B0_1 B0_2 B0_3 B0_l
  replace G := Lib.hid (gtr G.out hg)
  replace B0 := Lib.hid (B0.out.keptN hg)
  replace kA1 := Lib.hid (kA10.out.kept G.out)
  replace kA2 := Lib.hid (kA20.out.kept G.out)
  replace mA1 := Lib.hid (mA10.out.kept G.out)
  replace s0P1 := Lib.hid (s0P1.out.kept hg)
  replace s0P2 := Lib.hid (s0P2.out.kept hg)
  replace s1P1 := Lib.hid (s1P1.out.kept hg)
  clear hg
  clear s0P1 s0P2 s1P1
  have B0_0 : World.cell? _ ⟨w.heap.size, 0, none⟩ = some (.int .i64 kneed) := B0.out.cell 0
  have B0_1 : World.cell? _ ⟨w.heap.size, 1, none⟩ = some (.int .i64 kmany) := B0.out.cell 1
  have B0_2 : World.cell? _ ⟨w.heap.size, 2, none⟩ = some (.slice kag kng kcg) := B0.out.cell 2
  have B0_3 : World.cell? _ ⟨w.heap.size, 3, none⟩ = some (.slice kac knc kcc) := B0.out.cell 3
  have B0_l := B0.out.lt
  go_wp2_with fail
  refine (tokey _ kneed kmany _ kng _ kzg _ knc _ kzc kA1.out kA2.out (by omega) (by omega)).mono ?_
  rintro e v5 ⟨x0b1, x0b2, rfl, x0h, x0r1, x0r2, hg⟩
  clear B0_0 B0_1 B0_2 B0_3 B0_l
  replace G := Lib.hid (gtr G.out hg)
  replace B0 := Lib.hid (B0.out.keptN hg)
  replace kA1 := Lib.hid (kA10.out.kept G.out)
  replace kA2 := Lib.hid (kA20.out.kept G.out)
  replace mA1 := Lib.hid (mA10.out.kept G.out)
  clear hg
  have Cx0 := Lib.hid (Draw.grown_refl v5 none)
  have x0P1 := Lib.hid (x0r1.ints)
  have x0P10 := x0P1
  have x0P2 := Lib.hid (x0r2.ints)
  have x0P20 := x0P2
  clear x0h x0r1 x0r2
  have hg := Draw.grown_alloc v5 (.cells #[.int .i64 kneed, .int .i64 kmany, .slice (some ⟨x0b1, 0, none⟩) kng kng, .slice (some ⟨x0b2, 0, none⟩) knc knc] 42) none
  have Y0 := Lib.hid (Blk.new v5 #[.int .i64 kneed, .int .i64 kmany, .slice (some ⟨x0b1, 0, none⟩) kng kng, .slice (some ⟨x0b2, 0, none⟩) knc knc] 42)
  replace G := Lib.hid (gtr G.out hg)
  replace B0 := Lib.hid (B0.out.keptN hg)
  replace kA1 := Lib.hid (kA10.out.kept G.out)
  replace kA2 := Lib.hid (kA20.out.kept G.out)
  replace mA1 := Lib.hid (mA10.out.kept G.out)
  replace Cx0 := Lib.hid (gtr Cx0.out hg)
  replace x0P1 := Lib.hid (x0P10.out.kept Cx0.out)
  replace x0P2 := Lib.hid (x0P20.out.kept Cx0.out)
  clear hg
  have B0_0 : World.cell? _ ⟨w.heap.size, 0, none⟩ = some (.int .i64 kneed) := B0.out.cell 0
  have B0_1 : World.cell? _ ⟨w.heap.size, 1, none⟩ = some (.int .i64 kmany) := B0.out.cell 1
  have B0_2 : World.cell? _ ⟨w.heap.size, 2, none⟩ = some (.slice kag kng kcg) := B0.out.cell 2
  have B0_3 : World.cell? _ ⟨w.heap.size, 3, none⟩ = some (.slice kac knc kcc) := B0.out.cell 3
  have B0_l := B0.out.lt
  have Y0_0 : World.cell? _ ⟨v5.heap.size, 0, none⟩ = some (.int .i64 kneed) := Y0.out.cell 0
  have Y0_1 : World.cell? _ ⟨v5.heap.size, 1, none⟩ = some (.int .i64 kmany) := Y0.out.cell 1
  have Y0_2 : World.cell? _ ⟨v5.heap.size, 2, none⟩ = some (.slice (some ⟨x0b1, 0, none⟩) kng kng) := Y0.out.cell 2
  have Y0_3 : World.cell? _ ⟨v5.heap.size, 3, none⟩ = some (.slice (some ⟨x0b2, 0, none⟩) knc knc) := Y0.out.cell 3
  have Y0_l := Y0.out.lt
  go_wp2_with fail
  refine (toInt _ _ mn _ mz mA1.out (by omega)).mono ?_
  rintro e v6 ⟨x1b1, rfl, x1r1, hg⟩
  clear B0_0 B0_1 B0_2 B0_3 Y0_0 Y0_1 Y0_2 Y0_3 B0_l Y0_l
  replace G := Lib.hid (gtr G.out hg)
  replace B0 := Lib.hid (B0.out.keptN hg)
  replace kA1 := Lib.hid (kA10.out.kept G.out)
  replace kA2 := Lib.hid (kA20.out.kept G.out)
  replace mA1 := Lib.hid (mA10.out.kept G.out)
  replace Cx0 := Lib.hid (gtr Cx0.out hg)
  replace x0P1 := Lib.hid (x0P10.out.kept Cx0.out)
  replace x0P2 := Lib.hid (x0P20.out.kept Cx0.out)
  replace Y0 := Lib.hid (Y0.out.keptN hg)
  clear hg
  have Cx1 := Lib.hid (Draw.grown_refl v6 none)
  have x1P1 := Lib.hid (x1r1.ints)
  have x1P10 := x1P1
  clear x1r1
  have B0_0 : World.cell? _ ⟨w.heap.size, 0, none⟩ = some (.int .i64 kneed) := B0.out.cell 0
  have B0_1 : World.cell? _ ⟨w.heap.size, 1, none⟩ = some (.int .i64 kmany) := B0.out.cell 1
  have B0_2 : World.cell? _ ⟨w.heap.size, 2, none⟩ = some (.slice kag kng kcg) := B0.out.cell 2
  have B0_3 : World.cell? _ ⟨w.heap.size, 3, none⟩ = some (.slice kac knc kcc) := B0.out.cell 3
  have B0_l := B0.out.lt
  have Y0_0 : World.cell? _ ⟨v5.heap.size, 0, none⟩ = some (.int .i64 kneed) := Y0.out.cell 0
  have Y0_1 : World.cell? _ ⟨v5.heap.size, 1, none⟩ = some (.int .i64 kmany) := Y0.out.cell 1
  have Y0_2 : World.cell? _ ⟨v5.heap.size, 2, none⟩ = some (.slice (some ⟨x0b1, 0, none⟩) kng kng) := Y0.out.cell 2
  have Y0_3 : World.cell? _ ⟨v5.heap.size, 3, none⟩ = some (.slice (some ⟨x0b2, 0, none⟩) knc knc) := Y0.out.cell 3
  have Y0_l := Y0.out.lt
  go_wp2_with fail
  refine (ifits _ kneed kmany _ kng _ kzg _ knc _ kzc _ mn _ mz xm sh r msg z x0P1.out x0P2.out x1P1.out (by omega) (by omega) (by omega) (Nat.le_refl _) (by unfold maxLen; omega)).mono ?_
  rintro e v7 ⟨rfl, hg⟩
  clear B0_0 B0_1 B0_2 B0_3 Y0_0 Y0_1 Y0_2 Y0_3 B0_l Y0_l
  replace G := Lib.hid (gtr G.out hg)
  replace B0 := Lib.hid (B0.out.keptN hg)
  replace kA1 := Lib.hid (kA10.out.kept G.out)
  replace kA2 := Lib.hid (kA20.out.kept G.out)
  replace mA1 := Lib.hid (mA10.out.kept G.out)
  replace Cx0 := Lib.hid (gtr Cx0.out hg)
  replace x0P1 := Lib.hid (x0P10.out.kept Cx0.out)
  replace x0P2 := Lib.hid (x0P20.out.kept Cx0.out)
  replace Y0 := Lib.hid (Y0.out.keptN hg)
  replace Cx1 := Lib.hid (gtr Cx1.out hg)
  replace x1P1 := Lib.hid (x1P10.out.kept Cx1.out)
  clear hg
  have hne0 : (sfF kneed kmany kng kzg knc kzc mn mz xm sh r msg z != sfF kneed kmany kng kzg knc kzc mn mz xm sh r msg z) = false := by simp
  have B0_0 : World.cell? _ ⟨w.heap.size, 0, none⟩ = some (.int .i64 kneed) := B0.out.cell 0
  have B0_1 : World.cell? _ ⟨w.heap.size, 1, none⟩ = some (.int .i64 kmany) := B0.out.cell 1
  have B0_2 : World.cell? _ ⟨w.heap.size, 2, none⟩ = some (.slice kag kng kcg) := B0.out.cell 2
  have B0_3 : World.cell? _ ⟨w.heap.size, 3, none⟩ = some (.slice kac knc kcc) := B0.out.cell 3
  have B0_l := B0.out.lt
  have Y0_0 : World.cell? _ ⟨v5.heap.size, 0, none⟩ = some (.int .i64 kneed) := Y0.out.cell 0
  have Y0_1 : World.cell? _ ⟨v5.heap.size, 1, none⟩ = some (.int .i64 kmany) := Y0.out.cell 1
  have Y0_2 : World.cell? _ ⟨v5.heap.size, 2, none⟩ = some (.slice (some ⟨x0b1, 0, none⟩) kng kng) := Y0.out.cell 2
  have Y0_3 : World.cell? _ ⟨v5.heap.size, 3, none⟩ = some (.slice (some ⟨x0b2, 0, none⟩) knc knc) := Y0.out.cell 3
  have Y0_l := Y0.out.lt
  go_wp2_with fail
  clear B0_0 B0_1 B0_2 B0_3 Y0_0 Y0_1 Y0_2 Y0_3 B0_l Y0_l
  refine wp_region_held_drew (S := (fun w' => w'.cell? ⟨w.heap.size, 0, none⟩ = some (.int .i64 kneed) ∧ w'.cell? ⟨w.heap.size, 1, none⟩ = some (.int .i64 kmany) ∧ w'.cell? ⟨w.heap.size, 2, none⟩ = some (.slice kag kng kcg) ∧ w'.cell? ⟨w.heap.size, 3, none⟩ = some (.slice kac knc kcc) ∧ w'.cell? ⟨v5.heap.size, 0, none⟩ = some (.int .i64 kneed) ∧ w'.cell? ⟨v5.heap.size, 1, none⟩ = some (.int .i64 kmany) ∧ w'.cell? ⟨v5.heap.size, 2, none⟩ = some (.slice (some ⟨x0b1, 0, none⟩) kng kng) ∧ w'.cell? ⟨v5.heap.size, 3, none⟩ = some (.slice (some ⟨x0b2, 0, none⟩) knc knc))) (by kernel_rfl) (⟨B0.out.cell 0, B0.out.cell 1, B0.out.cell 2, B0.out.cell 3, Y0.out.cell 0, Y0.out.cell 1, Y0.out.cell 2, Y0.out.cell 3⟩) (fun hHeld => ?_)
  have hg := Draw.gdrew v7
  replace G := Lib.hid (gtr G.out hg)
  replace B0 := Lib.hid (B0.out.keptN hg)
  replace kA1 := Lib.hid (kA10.out.kept G.out)
  replace kA2 := Lib.hid (kA20.out.kept G.out)
  replace mA1 := Lib.hid (mA10.out.kept G.out)
  replace Cx0 := Lib.hid (gtr Cx0.out hg)
  replace x0P1 := Lib.hid (x0P10.out.kept Cx0.out)
  replace x0P2 := Lib.hid (x0P20.out.kept Cx0.out)
  replace Y0 := Lib.hid (Y0.out.keptN hg)
  replace Cx1 := Lib.hid (gtr Cx1.out hg)
  replace x1P1 := Lib.hid (x1P10.out.kept Cx1.out)
  clear hg
  generalize (v7).drew = v8 at *
  refine wpAnyH_take (i := 0) (oi := ⟨some 53, _, _, _, _, _⟩) (v := ?_) rfl (by kernel_rfl) (by kernel_rfl) (by kernel_rfl) (fun _ _ _ h => h) (Or.inl ⟨by rfl, ?_⟩) (by assumption) ?_
  rotate_left
  · intro w hSw; (try dsimp only at hSw); go_simp; try with_reducible rfl
  simp only [Act.put, List.setIfInBounds_toArray, List.set_cons_zero, List.set_cons_succ]
  refine wpAnyH_take (i := 1) (oi := ⟨some 54, _, _, _, _, _⟩) (v := ?_) rfl (by kernel_rfl) (by kernel_rfl) (by kernel_rfl) (fun _ _ _ h => h) (Or.inl ⟨by rfl, ?_⟩) (by assumption) ?_
  rotate_left
  · intro w hSw; (try dsimp only at hSw); go_simp; try with_reducible rfl
  simp only [Act.put, List.setIfInBounds_toArray, List.set_cons_zero, List.set_cons_succ]
  refine wpAnyH_ready (rs := [2]) (by kernel_rfl) (by simp) ?_
  refine AllReadyH.cons (o := ⟨some 55, _, _, _, _, _⟩) rfl (fun Kq hKq => ?_) AllReadyH.nil
  go_simp
  go_at_call 48
  refine (tokey _ kneed kmany _ kng _ kzg _ knc _ kzc kA1.out kA2.out (by omega) (by omega)).mono ?_
  rintro e v9 ⟨y0b1, y0b2, rfl, y0h, y0r1, y0r2, hg⟩
  have y0P1 := Lib.hid (y0r1.ints)
  have y0P2 := Lib.hid (y0r2.ints)
  replace G := Lib.hid (gtr G.out hg)
  replace B0 := Lib.hid (B0.out.keptN hg)
  replace kA1 := Lib.hid (kA10.out.kept G.out)
  replace kA2 := Lib.hid (kA20.out.kept G.out)
  replace mA1 := Lib.hid (mA10.out.kept G.out)
  replace Cx0 := Lib.hid (gtr Cx0.out hg)
  replace x0P1 := Lib.hid (x0P10.out.kept Cx0.out)
  replace x0P2 := Lib.hid (x0P20.out.kept Cx0.out)
  replace Y0 := Lib.hid (Y0.out.keptN hg)
  replace Cx1 := Lib.hid (gtr Cx1.out hg)
  replace x1P1 := Lib.hid (x1P10.out.kept Cx1.out)
  clear hg
  clear y0h y0r1 y0r2
  refine hKq.out _ _ (⟨B0.out.cell 0, B0.out.cell 1, B0.out.cell 2, B0.out.cell 3, Y0.out.cell 0, Y0.out.cell 1, Y0.out.cell 2, Y0.out.cell 3⟩) (fun hHeld => ?_)
  clear hKq Kq
  refine wpAnyH_ready (rs := [3]) (by kernel_rfl) (by simp) ?_
  refine AllReadyH.cons (o := ⟨some 56, _, _, _, _, _⟩) rfl (fun Kq hKq => ?_) AllReadyH.nil
  go_simp
  go_at_call 51
  refine (eqkey _ kneed kmany _ _ _ _ kng _ _ kzg knc _ _ kzc x0P1.out x0P2.out y0P1.out y0P2.out (by omega) (by omega)).mono ?_
  rintro e v10 ⟨rfl, hg⟩
  replace G := Lib.hid (gtr G.out hg)
  replace B0 := Lib.hid (B0.out.keptN hg)
  replace kA1 := Lib.hid (kA10.out.kept G.out)
  replace kA2 := Lib.hid (kA20.out.kept G.out)
  replace mA1 := Lib.hid (mA10.out.kept G.out)
  replace Cx0 := Lib.hid (gtr Cx0.out hg)
  replace x0P1 := Lib.hid (x0P10.out.kept Cx0.out)
  replace x0P2 := Lib.hid (x0P20.out.kept Cx0.out)
  replace Y0 := Lib.hid (Y0.out.keptN hg)
  replace Cx1 := Lib.hid (gtr Cx1.out hg)
  replace x1P1 := Lib.hid (x1P10.out.kept Cx1.out)
  replace y0P1 := Lib.hid (y0P1.out.kept hg)
  replace y0P2 := Lib.hid (y0P2.out.kept hg)
  clear hg
  clear y0P1 y0P2
  refine hKq.out _ _ (⟨B0.out.cell 0, B0.out.cell 1, B0.out.cell 2, B0.out.cell 3, Y0.out.cell 0, Y0.out.cell 1, Y0.out.cell 2, Y0.out.cell 3⟩) (fun hHeld => ?_)
  clear hKq Kq
  refine wpAnyH_take (i := 4) (oi := ⟨some 57, _, _, _, _, _⟩) (v := ?_) rfl (by kernel_rfl) (by kernel_rfl) (by kernel_rfl) (fun _ _ _ h => h) (Or.inl ⟨by rfl, ?_⟩) (by assumption) ?_
  rotate_left
  · intro w hSw; (try dsimp only at hSw); go_simp; try with_reducible rfl
  simp only [Act.put, List.setIfInBounds_toArray, List.set_cons_zero, List.set_cons_succ]
  refine wpAnyH_done (by kernel_rfl) ?_ _
  have B0_0 : World.cell? _ ⟨w.heap.size, 0, none⟩ = some (.int .i64 kneed) := B0.out.cell 0
  have B0_1 : World.cell? _ ⟨w.heap.size, 1, none⟩ = some (.int .i64 kmany) := B0.out.cell 1
  have B0_2 : World.cell? _ ⟨w.heap.size, 2, none⟩ = some (.slice kag kng kcg) := B0.out.cell 2
  have B0_3 : World.cell? _ ⟨w.heap.size, 3, none⟩ = some (.slice kac knc kcc) := B0.out.cell 3
  have B0_l := B0.out.lt
  have Y0_0 : World.cell? _ ⟨v5.heap.size, 0, none⟩ = some (.int .i64 kneed) := Y0.out.cell 0
  have Y0_1 : World.cell? _ ⟨v5.heap.size, 1, none⟩ = some (.int .i64 kmany) := Y0.out.cell 1
  have Y0_2 : World.cell? _ ⟨v5.heap.size, 2, none⟩ = some (.slice (some ⟨x0b1, 0, none⟩) kng kng) := Y0.out.cell 2
  have Y0_3 : World.cell? _ ⟨v5.heap.size, 3, none⟩ = some (.slice (some ⟨x0b2, 0, none⟩) knc knc) := Y0.out.cell 3
  have Y0_l := Y0.out.lt
  go_wp2_with fail
  refine (toInt _ _ mn _ mz mA1.out (by omega)).mono ?_
  rintro e v11 ⟨y1b1, rfl, y1r1, hg⟩
  clear B0_0 B0_1 B0_2 B0_3 Y0_0 Y0_1 Y0_2 Y0_3 B0_l Y0_l
  replace G := Lib.hid (gtr G.out hg)
  replace B0 := Lib.hid (B0.out.keptN hg)
  replace kA1 := Lib.hid (kA10.out.kept G.out)
  replace kA2 := Lib.hid (kA20.out.kept G.out)
  replace mA1 := Lib.hid (mA10.out.kept G.out)
  replace Cx0 := Lib.hid (gtr Cx0.out hg)
  replace x0P1 := Lib.hid (x0P10.out.kept Cx0.out)
  replace x0P2 := Lib.hid (x0P20.out.kept Cx0.out)
  replace Y0 := Lib.hid (Y0.out.keptN hg)
  replace Cx1 := Lib.hid (gtr Cx1.out hg)
  replace x1P1 := Lib.hid (x1P10.out.kept Cx1.out)
  clear hg
  have y1P1 := Lib.hid (y1r1.ints)
  clear y1r1
  have B0_0 : World.cell? _ ⟨w.heap.size, 0, none⟩ = some (.int .i64 kneed) := B0.out.cell 0
  have B0_1 : World.cell? _ ⟨w.heap.size, 1, none⟩ = some (.int .i64 kmany) := B0.out.cell 1
  have B0_2 : World.cell? _ ⟨w.heap.size, 2, none⟩ = some (.slice kag kng kcg) := B0.out.cell 2
  have B0_3 : World.cell? _ ⟨w.heap.size, 3, none⟩ = some (.slice kac knc kcc) := B0.out.cell 3
  have B0_l := B0.out.lt
  have Y0_0 : World.cell? _ ⟨v5.heap.size, 0, none⟩ = some (.int .i64 kneed) := Y0.out.cell 0
  have Y0_1 : World.cell? _ ⟨v5.heap.size, 1, none⟩ = some (.int .i64 kmany) := Y0.out.cell 1
  have Y0_2 : World.cell? _ ⟨v5.heap.size, 2, none⟩ = some (.slice (some ⟨x0b1, 0, none⟩) kng kng) := Y0.out.cell 2
  have Y0_3 : World.cell? _ ⟨v5.heap.size, 3, none⟩ = some (.slice (some ⟨x0b2, 0, none⟩) knc knc) := Y0.out.cell 3
  have Y0_l := Y0.out.lt
  go_wp2_with fail
  refine (eqint _ _ _ mn _ _ mz x1P1.out y1P1.out (by omega)).mono ?_
  rintro e v12 ⟨rfl, hg⟩
  clear B0_0 B0_1 B0_2 B0_3 Y0_0 Y0_1 Y0_2 Y0_3 B0_l Y0_l
  replace G := Lib.hid (gtr G.out hg)
  replace B0 := Lib.hid (B0.out.keptN hg)
  replace kA1 := Lib.hid (kA10.out.kept G.out)
  replace kA2 := Lib.hid (kA20.out.kept G.out)
  replace mA1 := Lib.hid (mA10.out.kept G.out)
  replace Cx0 := Lib.hid (gtr Cx0.out hg)
  replace x0P1 := Lib.hid (x0P10.out.kept Cx0.out)
  replace x0P2 := Lib.hid (x0P20.out.kept Cx0.out)
  replace Y0 := Lib.hid (Y0.out.keptN hg)
  replace Cx1 := Lib.hid (gtr Cx1.out hg)
  replace x1P1 := Lib.hid (x1P10.out.kept Cx1.out)
  replace y1P1 := Lib.hid (y1P1.out.kept hg)
  clear hg
  clear y1P1
  have B0_0 : World.cell? _ ⟨w.heap.size, 0, none⟩ = some (.int .i64 kneed) := B0.out.cell 0
  have B0_1 : World.cell? _ ⟨w.heap.size, 1, none⟩ = some (.int .i64 kmany) := B0.out.cell 1
  have B0_2 : World.cell? _ ⟨w.heap.size, 2, none⟩ = some (.slice kag kng kcg) := B0.out.cell 2
  have B0_3 : World.cell? _ ⟨w.heap.size, 3, none⟩ = some (.slice kac knc kcc) := B0.out.cell 3
  have B0_l := B0.out.lt
  have Y0_0 : World.cell? _ ⟨v5.heap.size, 0, none⟩ = some (.int .i64 kneed) := Y0.out.cell 0
  have Y0_1 : World.cell? _ ⟨v5.heap.size, 1, none⟩ = some (.int .i64 kmany) := Y0.out.cell 1
  have Y0_2 : World.cell? _ ⟨v5.heap.size, 2, none⟩ = some (.slice (some ⟨x0b1, 0, none⟩) kng kng) := Y0.out.cell 2
  have Y0_3 : World.cell? _ ⟨v5.heap.size, 3, none⟩ = some (.slice (some ⟨x0b2, 0, none⟩) knc knc) := Y0.out.cell 3
  have Y0_l := Y0.out.lt
  go_wp2
  go_ret
  exact ⟨rfl, Draw.below_of G.out⟩
end Run
end Go.Proofs.Ytpeofoabhjebbaa
