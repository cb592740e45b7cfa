/-
  The walk of the law on all that is shown in a session.
-/
import Derived.Test.YtgahfifojagghaaUg
namespace Go.Proofs.Ytgahfifojagghaa
namespace Run
open Go.RowKit Alg Mem Con Mp Hd Draw
set_option linter.unusedVariables false

set_option maxRecDepth 100000 in
set_option maxHeartbeats 8000000 in
theorem FnSessionR (a : Option Addr) (len cap : Nat) (w : World) (hB : Draw.Bytes w w.heap.size a len) (hc : len ≤ cap) (hm : cap ≤ maxLen) :
    Calls Try.prog 3 #[.slice a len cap] w (Yes w) := by
  by_cases hbig : 1048576 < len
  · have hbig' : (1048576 : Int) < (len : Int) := by omega
    clear hB
    go_enter Try.func3, Try.ntmps3
    go_wp2
    go_ret
    exact ⟨rfl, Below.refl _ _⟩
  have hbig' : ¬ (1048576 : Int) < (len : Int) := by omega
  go_enter Try.func3, Try.ntmps3
  go_wp2_with fail
  refine (Draw.drawSesR _ a len cap hB hc hm).mono ?_
  rintro e w1 ⟨need, many, ag, ng, cg, zg, ac, nc, cc, zc, msg, a3, n, c3, S, rfl, hq1, hq2, hq3, ⟨hb1, hb2, hb3⟩, hg⟩
  have G := Lib.hid hg; have I1 := Lib.hid hq1.ints; have I2 := Lib.hid hq2.ints; have A3 := Lib.hid (sh_own hq3)
  clear hg hq1 hq2 hq3 hB
  have hg := Draw.grown_alloc w1 (.cells #[.int .i64 need, .int .i64 many, .slice ag ng cg, .slice ac nc cc, .int .i64 msg, .slice a3 n c3] 28) none
  have B := Lib.hid (Ss.of_blk (Blk.new w1 #[.int .i64 need, .int .i64 many, .slice ag ng cg, .slice ac nc cc, .int .i64 msg, .slice a3 n c3] 28))
  replace G := Lib.hid (gtr G.out hg)
  replace I1 := Lib.hid (I1.out.kept hg)
  replace I2 := Lib.hid (I2.out.kept hg)
  replace A3 := Lib.hid (A3.out.kept hg)
  clear hg
  obtain ⟨_, k0, k1, k2, k3, k4, k5⟩ := B.out
  have hl1 : ng ≤ 2000000 := by omega
  have hl2 : nc ≤ 2000000 := by omega
  have hl3 : n ≤ 2000000 := by omega
  go_wp2_with fail
  refine (isesR _ need many _ ng _ zg _ nc _ zc msg _ n _ S I1.out I2.out A3.out hl1 hl2 hl3).mono ?_
  rintro e w2 ⟨rfl, hg⟩
  clear k0 k1 k2 k3 k4 k5
  replace G := Lib.hid (gtr G.out hg)
  replace I1 := Lib.hid (I1.out.kept hg)
  replace I2 := Lib.hid (I2.out.kept hg)
  replace A3 := Lib.hid (A3.out.kept hg)
  replace B := Lib.hid (B.out.kept hg)
  clear hg
  obtain ⟨_, k0, k1, k2, k3, k4, k5⟩ := B.out
  go_wp2_with fail
  refine (ssesR _ need many _ ng _ zg _ nc _ zc msg _ n _ S I1.out I2.out A3.out hl1 hl2 hl3).mono ?_
  rintro e w3 ⟨rfl, hg⟩
  clear k0 k1 k2 k3 k4 k5
  replace G := Lib.hid (gtr G.out hg)
  replace I1 := Lib.hid (I1.out.kept hg)
  replace I2 := Lib.hid (I2.out.kept hg)
  replace A3 := Lib.hid (A3.out.kept hg)
  replace B := Lib.hid (B.out.kept hg)
  clear hg
  obtain ⟨_, k0, k1, k2, k3, k4, k5⟩ := B.out
  cases h1 : tsF need many ng zg nc zc msg n S with
  | false =>
    rw [sr_no h1]
    go_wp2_with fail
    refine (ssesR _ need many _ ng _ zg _ nc _ zc msg _ n _ S I1.out I2.out A3.out hl1 hl2 hl3).mono ?_
    rintro e w4 ⟨rfl, hg⟩
    clear k0 k1 k2 k3 k4 k5
    replace G := Lib.hid (gtr G.out hg)
    replace I1 := Lib.hid (I1.out.kept hg)
    replace I2 := Lib.hid (I2.out.kept hg)
    replace A3 := Lib.hid (A3.out.kept hg)
    replace B := Lib.hid (B.out.kept hg)
    clear hg
    obtain ⟨_, k0, k1, k2, k3, k4, k5⟩ := B.out
    rw [sr_no h1]
    go_wp2
    go_ret
    exact ⟨rfl, Draw.below_of G.out⟩
  | true =>
    rw [sr_yes h1]
    have HTS := Lib.hid h1
    have hf := ts_facts h1
    have hn1 : 1 ≤ n := by omega
    have hr := ts_r h1
    have hrr := gok_range hr
    have e0 : (rP S n == 0) = false := by simp; omega
    have e1 : (rP S n != rP S n) = false := by simp
    have e2 : (rP S n == rP S n) = true := by simp
    clear hf hr hrr h1
    obtain ⟨b3, o3, rfl, hb3', hcc⟩ := A3.out.ptr hn1
    clear hb3' hcc
    go_wp2
    go_loopw [5, 6] (fun v i W => ∃ k : Nat, k ≤ n ∧ v = .int .i64 (rP S k) ∧ i = .int .i64 k ∧ w3.grownBy W none) (fun _ i _ => n - (intOf i).toNat)
    case atStart => exact ⟨0, by omega, rfl, rfl, Draw.grown_refl _ _⟩
    case round =>
      clear k0 k1 k2 k3 k4 k5
      obtain ⟨k, hk, rfl, rfl, hg⟩ := hrel
      obtain ⟨W1, hW⟩ : ∃ W, W = wr := ⟨_, rfl⟩; subst hW

      have C := Lib.hid hg
      replace G := Lib.hid (gtr G.out hg); replace B := Lib.hid (B.out.kept hg); replace I1 := Lib.hid (I1.out.kept hg); replace I2 := Lib.hid (I2.out.kept hg); replace A3 := Lib.hid (A3.out.kept hg)
      clear hg
      obtain ⟨_, k0, k1, k2, k3, k4, k5⟩ := B.out
      by_cases hlt : k < n
      · obtain ⟨b, off, e3, hb, hcc⟩ := A3.out.ptr (by omega)
        injection e3 with e3; injection e3 with e3 e4; subst e3; subst e4
        have x1 := (hcc k hlt).2.1
        clear hcc
        have hkI : (k : Int) < (n : Int) := by omega
        go_wp2_with fail
        clear x1
        refine (igmul (rP S k) (S k).R _).mono ?_
        rintro e W3 ⟨rfl, hg⟩
        clear k0 k1 k2 k3 k4 k5
        replace C := Lib.hid (gtr C.out hg)
        replace G := Lib.hid (gtr G.out hg)
        replace B := Lib.hid (B.out.kept hg)
        replace I1 := Lib.hid (I1.out.kept hg)
        replace I2 := Lib.hid (I2.out.kept hg)
        replace A3 := Lib.hid (A3.out.kept hg)
        clear hg
        obtain ⟨_, k0, k1, k2, k3, k4, k5⟩ := B.out
        go_wp2
        go_roundw
        case rel => exact ⟨k + 1, by omega, rfl, by go_num, C.out⟩
        case measure => simp [intOf]; omega
      · obtain rfl : k = n := by omega
        obtain ⟨b, off, e3, hb, hcc⟩ := A3.out.ptr (by omega)
        injection e3 with e3; injection e3 with e3 e4; subst e3; subst e4
        have HO := Lib.hid (show ∀ V, W1.grownBy V none → V.cell? ⟨b3, o3, none⟩ = some (.int .i64 (S 0).m) from fun V hg => (World.cell?_of_block (hg.block b3 hb (by simp))).trans (by have := (hcc 0 (by omega)).1; rwa [Nat.zero_mul, Nat.add_zero] at this))
        clear hcc
        have hk0 : 0 < k := by omega
        go_wp2_with fail
        clear k0 k1 k2 k3 k4 k5
        have Z := Lib.hid (Draw.grown_refl W1 none)
        have HOK := Lib.hid (ts_has HTS.out hk0)
        have HT3 := Lib.hid (ts_pt (m := (S 0).m) (z := 3) HTS.out rfl)
        have HR3 := Lib.hid (show rP (ptS S (S 0).m k 3) k = rP S k by rw [ptS_yes HOK.out]; exact rP_put _ _ _ _)
        have hgs := G.out.size
        clear hgs
        refine wp_region_held_drew (S := (fun w' => (w'.cell? ⟨w1.heap.size, 0, none⟩ = some (.int .i64 need) ∧ w'.cell? ⟨w1.heap.size, 1, none⟩ = some (.int .i64 many) ∧ w'.cell? ⟨w1.heap.size, 2, none⟩ = some (.slice ag ng cg) ∧ w'.cell? ⟨w1.heap.size, 3, none⟩ = some (.slice ac nc cc) ∧ w'.cell? ⟨w1.heap.size, 4, none⟩ = some (.int .i64 msg) ∧ w'.cell? ⟨w1.heap.size, 5, none⟩ = some (.slice (some ⟨b3, o3, none⟩) k c3)) ∧ w'.cell? ⟨b3, o3, none⟩ = some (.int .i64 (S 0).m))) (by kernel_rfl) (⟨⟨B.out.c0, B.out.c1, B.out.c2, B.out.c3, B.out.c4, B.out.c5⟩, HO.out _ (Draw.gdrew W1)⟩) (fun hHeld => ?_)
        have hg := Draw.gdrew W1
        replace C := Lib.hid (gtr C.out hg)
        replace G := Lib.hid (gtr G.out hg)
        replace B := Lib.hid (B.out.kept hg)
        replace I1 := Lib.hid (I1.out.kept hg)
        replace I2 := Lib.hid (I2.out.kept hg)
        replace A3 := Lib.hid (A3.out.kept hg)
        replace Z := Lib.hid (gtr Z.out hg)
        clear hg
        generalize (W1).drew = V7 at *
        refine wpAnyH_take (i := 0) (oi := ⟨some 44, _, _, _, _, _⟩) (v := ?_) rfl (by kernel_rfl) (by kernel_rfl) (by kernel_rfl) (fun _ _ _ h => h) (Or.inl ⟨by rfl, ?_⟩) (by assumption) ?_
        rotate_left
        · intro w hSw; (try dsimp only at hSw); go_simp; try with_reducible rfl
        simp only [Act.put, List.setIfInBounds_toArray, List.set_cons_zero, List.set_cons_succ]
        refine wpAnyH_take (i := 1) (oi := ⟨some 45, _, _, _, _, _⟩) (v := ?_) rfl (by kernel_rfl) (by kernel_rfl) (by kernel_rfl) (fun _ _ _ h => h) (Or.inl ⟨by rfl, ?_⟩) (by assumption) ?_
        rotate_left
        · intro w hSw; (try dsimp only at hSw); go_simp; try with_reducible rfl
        simp only [Act.put, List.setIfInBounds_toArray, List.set_cons_zero, List.set_cons_succ]
        refine wpAnyH_take (i := 2) (oi := ⟨some 46, _, _, _, _, _⟩) (v := ?_) rfl (by kernel_rfl) (by kernel_rfl) (by kernel_rfl) (fun _ _ _ h => h) (Or.inl ⟨by rfl, ?_⟩) (by assumption) ?_
        rotate_left
        · intro w hSw; (try dsimp only at hSw); go_simp; try with_reducible rfl
        simp only [Act.put, List.setIfInBounds_toArray, List.set_cons_zero, List.set_cons_succ]
        refine wpAnyH_take (i := 3) (oi := ⟨some 47, _, _, _, _, _⟩) (v := ?_) rfl (by kernel_rfl) (by kernel_rfl) (by kernel_rfl) (fun _ _ _ h => h) (Or.inl ⟨by rfl, ?_⟩) (by assumption) ?_
        rotate_left
        · intro w hSw; (try dsimp only at hSw); go_simp; try with_reducible rfl
        simp only [Act.put, List.setIfInBounds_toArray, List.set_cons_zero, List.set_cons_succ]
        refine wpAnyH_take (i := 4) (oi := ⟨some 48, _, _, _, _, _⟩) (v := ?_) rfl (by kernel_rfl) (by kernel_rfl) (by kernel_rfl) (fun _ _ _ h => h) (Or.inl ⟨by rfl, ?_⟩) (by assumption) ?_
        rotate_left
        · intro w hSw; (try dsimp only at hSw); go_simp; try with_reducible rfl
        simp only [Act.put, List.setIfInBounds_toArray, List.set_cons_zero, List.set_cons_succ]
        refine wpAnyH_take (i := 5) (oi := ⟨some 49, _, _, _, _, _⟩) (v := ?_) rfl (by kernel_rfl) (by kernel_rfl) (by kernel_rfl) (fun _ _ _ h => h) (Or.inl ⟨by rfl, ?_⟩) (by assumption) ?_
        rotate_left
        · intro w hSw; (try dsimp only at hSw); go_simp; try with_reducible rfl
        simp only [Act.put, List.setIfInBounds_toArray, List.set_cons_zero, List.set_cons_succ]
        refine wpAnyH_ready (rs := [6, 10]) (by kernel_rfl) (by simp) ?_
        refine AllReadyH.cons (o := ⟨some 50, _, _, _, _, _⟩) rfl (fun Kq hKq => ?_) (AllReadyH.cons (o := ⟨some 7, _, _, _, _, _⟩) rfl (fun Kq hKq => ?_) AllReadyH.nil)
        · go_simp
          go_at_call 15
          refine (i32put _ need many _ ng _ zg _ nc _ zc msg _ k _ S (S 0).m 3 I1.out I2.out A3.out (ints_sl I1.out) (ints_sl I2.out) (sh_sl A3.out) hl1 hl2 hl3).mono ?_
          rintro e V8 hsp
          obtain ⟨a1', c1', a2', c2', a3', c3', rfl, hi1, hi2, hO3, hap, hg⟩ := sesPQ_get HTS.out rfl hsp
          clear hsp hap
          rw [HOK.out]
          have N1 := Lib.hid (hi1.lower (Nat.zero_le _)); have N2 := Lib.hid (hi2.lower (Nat.zero_le _)); have N3 := Lib.hid (hO3.lower (Nat.zero_le _))
          clear hi1 hi2 hO3
          clear I1 I2 A3 C
          replace G := Lib.hid (gtr G.out hg)
          replace B := Lib.hid (B.out.kept hg)
          replace Z := Lib.hid (gtr Z.out hg)
          clear hg
          refine hKq.out _ _ (⟨⟨B.out.c0, B.out.c1, B.out.c2, B.out.c3, B.out.c4, B.out.c5⟩, HO.out _ Z.out⟩) (fun hHeld => ?_)
          clear hKq Kq
          refine wpAnyH_take (i := 7) (oi := ⟨some 43, _, _, _, _, _⟩) (v := ?_) rfl (by kernel_rfl) (by kernel_rfl) (by kernel_rfl) (fun _ _ _ h => h) (Or.inl ⟨by rfl, ?_⟩) (by assumption) ?_
          rotate_left
          · intro w hSw; (try dsimp only at hSw); go_simp; try with_reducible rfl
          simp only [Act.put, List.setIfInBounds_toArray, List.set_cons_zero, List.set_cons_succ]
          refine wpAnyH_take (i := 8) (oi := ⟨some 51, _, _, _, _, _⟩) (v := ?_) rfl (by kernel_rfl) (by kernel_rfl) (by kernel_rfl) (fun _ _ _ h => h) (Or.inl ⟨by rfl, ?_⟩) (by assumption) ?_
          rotate_left
          · intro w hSw; (try dsimp only at hSw); go_simp; try with_reducible rfl
          simp only [Act.put, List.setIfInBounds_toArray, List.set_cons_zero, List.set_cons_succ]
          refine wpAnyH_take (i := 9) (oi := ⟨some 52, _, _, _, _, _⟩) (v := ?_) rfl (by kernel_rfl) (by kernel_rfl) (by kernel_rfl) (fun _ _ _ h => h) (Or.inl ⟨by rfl, ?_⟩) (by assumption) ?_
          rotate_left
          · intro w hSw; (try dsimp only at hSw); go_simp; try with_reducible rfl
          simp only [Act.put, List.setIfInBounds_toArray, List.set_cons_zero, List.set_cons_succ]
          refine wpAnyH_ready (rs := [10]) (by kernel_rfl) (by simp) ?_
          refine AllReadyH.cons (o := ⟨some 7, _, _, _, _, _⟩) rfl (fun Kq hKq => ?_) AllReadyH.nil
          go_simp
          refine at_alloc ?_
          intro Va hg hT
          have hxb : w1.heap.size < V8.heap.size := B.out.lt
          have hxw : w.heap.size ≤ V8.heap.size := G.out.size
          have hxz : W1.heap.size ≤ V8.heap.size := Z.out.size
          generalize V8.heap.size = xb at *
          have X := Lib.hid hT
          clear hT
          replace G := Lib.hid (gtr G.out hg)
          replace B := Lib.hid (B.out.kept hg)
          replace Z := Lib.hid (gtr Z.out hg)
          replace N1 := Lib.hid (N1.out.kept hg (fun g e => by cases e))
          replace N2 := Lib.hid (N2.out.kept hg (fun g e => by cases e))
          replace N3 := Lib.hid (N3.out.kept hg (fun g e => by cases e))
          clear hg
          refine hKq.out _ _ (⟨⟨B.out.c0, B.out.c1, B.out.c2, B.out.c3, B.out.c4, B.out.c5⟩, HO.out _ Z.out⟩) (fun hHeld => ?_)
          clear hKq Kq
          refine wpAnyH_ready (rs := [11]) (by kernel_rfl) (by simp) ?_
          refine AllReadyH.cons (o := ⟨none, _, _, _, _, _⟩) rfl (fun Kq hKq => ?_) AllReadyH.nil
          rw [if_pos (by rfl)]
          refine wp_store_blk 28 (.tmp 7) (.tmp 51) xb _ _ 28 X.out rfl rfl rfl rfl (by kernel_rfl) (by simp [Value.oneCell']) rfl ?_
          intro V14 hg hT
          have N1' := N1.out.keptBlk X.out hg; have N2' := N2.out.keptBlk X.out hg; have N3' := N3.out.keptBlk X.out hg
          clear X N1 N2 N3
          have X := Lib.hid hT; have N1 := Lib.hid N1'; have N2 := Lib.hid N2'; have N3 := Lib.hid N3'
          clear hT N1' N2' N3'
          replace G := Lib.hid (grown_new G.out (by omega) hg)
          replace B := Lib.hid (B.out.keptB (hg.block _ B.out.lt (by intro e; have e := Option.some.inj e; omega)) hg.size)
          replace Z := Lib.hid (grown_new Z.out (by omega) hg)
          clear hg
          refine hKq.out _ _ (⟨⟨B.out.c0, B.out.c1, B.out.c2, B.out.c3, B.out.c4, B.out.c5⟩, HO.out _ Z.out⟩) (fun hHeld => ?_)
          clear hKq Kq
          refine wpAnyH_take (i := 12) (oi := ⟨some 8, _, _, _, _, _⟩) (v := ?_) rfl (by kernel_rfl) (by kernel_rfl) (by kernel_rfl) (fun _ _ _ h => h) (Or.inl ⟨by rfl, ?_⟩) (by assumption) ?_
          rotate_left
          · intro w hSw; (try dsimp only at hSw); go_simp; try with_reducible rfl
          simp only [Act.put, List.setIfInBounds_toArray, List.set_cons_zero, List.set_cons_succ]
          refine wpAnyH_done (by kernel_rfl) ?_ _
          clear hHeld
          obtain ⟨t0, t1, t2, t3, t4, t5, _, _, _, _, _, _⟩ := X.out.all6
          go_wp2_with fail
          refine (isesR _ need many _ ng _ zg _ nc _ zc msg _ k _ (ptS S (S 0).m k 3) N1.out.ints N2.out.ints (sh_own N3.out) hl1 hl2 hl3).mono ?_
          rintro e V20 ⟨rfl, hg⟩
          rw [sr_yes HT3.out, HR3.out]
          have GE := Lib.hid (gtr G.out hg)
          clear hg
          go_wp2
          go_ret
          exact ⟨rfl, Draw.below_of GE.out⟩
        · go_simp
          refine at_alloc ?_
          intro Va hg hT
          have hxb : w1.heap.size < V7.heap.size := B.out.lt
          have hxw : w.heap.size ≤ V7.heap.size := G.out.size
          have hxz : W1.heap.size ≤ V7.heap.size := Z.out.size
          generalize V7.heap.size = xb at *
          have X := Lib.hid hT
          clear hT
          replace C := Lib.hid (gtr C.out hg)
          replace G := Lib.hid (gtr G.out hg)
          replace B := Lib.hid (B.out.kept hg)
          replace I1 := Lib.hid (I1.out.kept hg)
          replace I2 := Lib.hid (I2.out.kept hg)
          replace A3 := Lib.hid (A3.out.kept hg)
          replace Z := Lib.hid (gtr Z.out hg)
          clear hg
          refine hKq.out _ _ (⟨⟨B.out.c0, B.out.c1, B.out.c2, B.out.c3, B.out.c4, B.out.c5⟩, HO.out _ Z.out⟩) (fun hHeld => ?_)
          clear hKq Kq
          refine wpAnyH_ready (rs := [6]) (by kernel_rfl) (by simp) ?_
          refine AllReadyH.cons (o := ⟨some 50, _, _, _, _, _⟩) rfl (fun Kq hKq => ?_) AllReadyH.nil
          go_simp
          go_at_call 15
          refine (i32put _ need many _ ng _ zg _ nc _ zc msg _ k _ S (S 0).m 3 I1.out I2.out A3.out (ints_sl I1.out) (ints_sl I2.out) (sh_sl A3.out) hl1 hl2 hl3).mono ?_
          rintro e V8 hsp
          obtain ⟨a1', c1', a2', c2', a3', c3', rfl, hi1, hi2, hO3, hap, hg⟩ := sesPQ_get HTS.out rfl hsp
          clear hsp hap
          rw [HOK.out]
          have N1 := Lib.hid (hi1.lower (Nat.zero_le _)); have N2 := Lib.hid (hi2.lower (Nat.zero_le _)); have N3 := Lib.hid (hO3.lower (Nat.zero_le _))
          clear hi1 hi2 hO3
          clear I1 I2 A3 C
          replace G := Lib.hid (gtr G.out hg)
          replace B := Lib.hid (B.out.kept hg)
          replace Z := Lib.hid (gtr Z.out hg)
          replace X := Lib.hid (X.out.keptN hg)
          clear hg
          refine hKq.out _ _ (⟨⟨B.out.c0, B.out.c1, B.out.c2, B.out.c3, B.out.c4, B.out.c5⟩, HO.out _ Z.out⟩) (fun hHeld => ?_)
          clear hKq Kq
          refine wpAnyH_take (i := 7) (oi := ⟨some 43, _, _, _, _, _⟩) (v := ?_) rfl (by kernel_rfl) (by kernel_rfl) (by kernel_rfl) (fun _ _ _ h => h) (Or.inl ⟨by rfl, ?_⟩) (by assumption) ?_
          rotate_left
          · intro w hSw; (try dsimp only at hSw); go_simp; try with_reducible rfl
          simp only [Act.put, List.setIfInBounds_toArray, List.set_cons_zero, List.set_cons_succ]
          refine wpAnyH_take (i := 8) (oi := ⟨some 51, _, _, _, _, _⟩) (v := ?_) rfl (by kernel_rfl) (by kernel_rfl) (by kernel_rfl) (fun _ _ _ h => h) (Or.inl ⟨by rfl, ?_⟩) (by assumption) ?_
          rotate_left
          · intro w hSw; (try dsimp only at hSw); go_simp; try with_reducible rfl
          simp only [Act.put, List.setIfInBounds_toArray, List.set_cons_zero, List.set_cons_succ]
          refine wpAnyH_take (i := 9) (oi := ⟨some 52, _, _, _, _, _⟩) (v := ?_) rfl (by kernel_rfl) (by kernel_rfl) (by kernel_rfl) (fun _ _ _ h => h) (Or.inl ⟨by rfl, ?_⟩) (by assumption) ?_
          rotate_left
          · intro w hSw; (try dsimp only at hSw); go_simp; try with_reducible rfl
          simp only [Act.put, List.setIfInBounds_toArray, List.set_cons_zero, List.set_cons_succ]
          refine wpAnyH_ready (rs := [11]) (by kernel_rfl) (by simp) ?_
          refine AllReadyH.cons (o := ⟨none, _, _, _, _, _⟩) rfl (fun Kq hKq => ?_) AllReadyH.nil
          rw [if_pos (by rfl)]
          refine wp_store_blk 28 (.tmp 7) (.tmp 51) xb _ _ 28 X.out rfl rfl rfl rfl (by kernel_rfl) (by simp [Value.oneCell']) rfl ?_
          intro V14 hg hT
          have N1' := N1.out.keptBlk X.out hg; have N2' := N2.out.keptBlk X.out hg; have N3' := N3.out.keptBlk X.out hg
          clear X N1 N2 N3
          have X := Lib.hid hT; have N1 := Lib.hid N1'; have N2 := Lib.hid N2'; have N3 := Lib.hid N3'
          clear hT N1' N2' N3'
          replace G := Lib.hid (grown_new G.out (by omega) hg)
          replace B := Lib.hid (B.out.keptB (hg.block _ B.out.lt (by intro e; have e := Option.some.inj e; omega)) hg.size)
          replace Z := Lib.hid (grown_new Z.out (by omega) hg)
          clear hg
          refine hKq.out _ _ (⟨⟨B.out.c0, B.out.c1, B.out.c2, B.out.c3, B.out.c4, B.out.c5⟩, HO.out _ Z.out⟩) (fun hHeld => ?_)
          clear hKq Kq
          refine wpAnyH_take (i := 12) (oi := ⟨some 8, _, _, _, _, _⟩) (v := ?_) rfl (by kernel_rfl) (by kernel_rfl) (by kernel_rfl) (fun _ _ _ h => h) (Or.inl ⟨by rfl, ?_⟩) (by assumption) ?_
          rotate_left
          · intro w hSw; (try dsimp only at hSw); go_simp; try with_reducible rfl
          simp only [Act.put, List.setIfInBounds_toArray, List.set_cons_zero, List.set_cons_succ]
          refine wpAnyH_done (by kernel_rfl) ?_ _
          clear hHeld
          obtain ⟨t0, t1, t2, t3, t4, t5, _, _, _, _, _, _⟩ := X.out.all6
          go_wp2_with fail
          refine (isesR _ need many _ ng _ zg _ nc _ zc msg _ k _ (ptS S (S 0).m k 3) N1.out.ints N2.out.ints (sh_own N3.out) hl1 hl2 hl3).mono ?_
          rintro e V20 ⟨rfl, hg⟩
          rw [sr_yes HT3.out, HR3.out]
          have GE := Lib.hid (gtr G.out hg)
          clear hg
          go_wp2
          go_ret
          exact ⟨rfl, Draw.below_of GE.out⟩
end Run
end Go.Proofs.Ytgahfifojagghaa
