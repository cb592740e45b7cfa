/-
  How the model draws a part.
-/
import Derived.Test.YtpeofoabhjebbaaGg
namespace Go.Proofs.Ytpeofoabhjebbaa
namespace Draw
open Go.RowKit Alg Mem Con Mp
set_option linter.unusedVariables false

set_option maxRecDepth 100000 in
set_option maxHeartbeats 4000000 in
theorem drawSF (w : World) (a : Option Addr) (len cap : Nat) (hB : Bytes w w.heap.size a len) (hc : len ≤ cap) (hm : cap ≤ maxLen) :
    Calls Try.prog 42 #[.slice a len cap] w (GotSF w) := by
  have hs0 : (w.alloc (.cells #[.int .i64 0, .int .i64 0, .slice none 0 0, .slice none 0 0] 42)).heap.size = w.heap.size + 1 := by show (w.heap.push _).size = _; simp
  have G := Lib.hid (grown_alloc w (.cells #[.int .i64 0, .int .i64 0, .slice none 0 0, .slice none 0 0] 42) none)
  have HB := Lib.hid (hB.kept (w' := w.alloc (.cells #[.int .i64 0, .int .i64 0, .slice none 0 0, .slice none 0 0] 42)) (fun k hk => Below.heap_alloc _ _ _ hk))
  have R := Lib.hid (Blk.new w #[.int .i64 0, .int .i64 0, .slice none 0 0, .slice none 0 0] 42)
  clear hB
  go_enter Try.func42, Try.ntmps42
  go_wp2_with fail
  refine (open_any _ w.heap.size a len cap HB.out (by omega) hc hm).mono ?_
  rintro e w1 ⟨rfl, hg, hs1, l1, c1', hr1⟩
  rw [hs0] at hr1 hs1
  have hw1 : w.heap.size + 2 ≤ w1.heap.size := by omega
  have H := Lib.hid hr1
  replace G := Lib.hid (gtr G.out hg)
  replace R := Lib.hid (R.out.keptN hg)
  clear hg
  clear hr1 hs1 HB hs0
  go_wp2_with fail
  refine (held_any _ _ _ a l1 c1' 0 H.out (by omega)).mono ?_
  rintro e w2 ⟨need, many, ag, ng, cg, zg, ac, nc, cc, zc, v, rfl, hk, ⟨hm1, hn1, hnm⟩, hO, hg, p2, hp2, hp2', hr⟩
  have I1 := Lib.hid hk.irg; have I2 := Lib.hid hk.irc; have O := Lib.hid hO
  have hw2 : w1.heap.size ≤ w2.heap.size := hg.size
  have hng := hk.g6; have hnc := hk.c5; have hn5 := hk.n5; have hm6 := hk.m5
  replace H := Lib.hid hr
  replace G := Lib.hid (grown_new G.out (by omega) hg)
  replace R := Lib.hid (R.out.kept hg (by intro e; have e := Option.some.inj e; omega))
  clear hg
  clear hr
  clear hk hO
  have hg : w2.grownBy (w2.alloc (.cells #[.int .i64 need, .int .i64 many, .slice ag ng cg, .slice ac nc cc] 42)) none := grown_alloc _ _ _
  have K := Lib.hid (Blk.new w2 #[.int .i64 need, .int .i64 many, .slice ag ng cg, .slice ac nc cc] 42)
  replace G := Lib.hid (gtr G.out hg)
  replace R := Lib.hid (R.out.keptN hg)
  replace H := Lib.hid (H.out.gN hg)
  replace I1 := Lib.hid (I1.out.keptN hg)
  replace I2 := Lib.hid (I2.out.keptN hg)
  replace O := Lib.hid (O.out.kept hg (fun g e => by cases e))
  clear hg
  have kc0 : World.cell? _ ⟨w2.heap.size, 0, none⟩ = some (.int .i64 (need : Int)) := K.out.cell 0
  have kc1 : World.cell? _ ⟨w2.heap.size, 1, none⟩ = some (.int .i64 (many : Int)) := K.out.cell 1
  have kc2 : World.cell? _ ⟨w2.heap.size, 2, none⟩ = some (.slice ag ng cg) := K.out.cell 2
  have kc3 : World.cell? _ ⟨w2.heap.size, 3, none⟩ = some (.slice ac nc cc) := K.out.cell 3
  have hwk : w2.heap.size < (w2.alloc (.cells #[.int .i64 need, .int .i64 many, .slice ag ng cg, .slice ac nc cc] 42)).heap.size := K.out.lt
  go_wp2_with fail
  refine (members_any _ _ _ a l1 c1' _ H.out (by omega) need many _ _ hn1 hnm hm6).mono ?_
  rintro e w3 ⟨am, nm, cm, zm, rfl, hIR, hnm6, hmc, hcm, hall, hg, p3, hp3, hp3', hr⟩
  clear kc0 kc1 kc2 kc3
  have M := Lib.hid hIR; have HAL := Lib.hid hall
  have hw3 : (w2.alloc (.cells #[.int .i64 need, .int .i64 many, .slice ag ng cg, .slice ac nc cc] 42)).heap.size ≤ w3.heap.size := hg.size
  clear hall
  replace H := Lib.hid hr
  replace G := Lib.hid (grown_new G.out (by omega) hg)
  replace R := Lib.hid (R.out.kept hg (by intro e; have e := Option.some.inj e; omega))
  replace I1 := Lib.hid (I1.out.kept hg (by omega))
  replace I2 := Lib.hid (I2.out.kept hg (by omega))
  replace O := Lib.hid (O.out.kept hg (fun g e => by have e := Option.some.inj e; omega))
  replace K := Lib.hid (K.out.kept hg (by intro e; have e := Option.some.inj e; omega))
  clear hg
  clear hr
  clear hIR
  obtain ⟨gb, gc, hz, rfl, hgl, hgs, hcel⟩ := O.out.cells hm1
  clear hcel
  have hmp : (1 : Int) ≤ (many : Int) := by omega
  go_wp2_with fail
  refine (pick_any _ _ _ a l1 c1' _ (many : Int) H.out (by omega) hmp).mono ?_
  rintro e w4 ⟨x, x0, x1, rfl, hr, hg, hs⟩
  have hxm : w3.heap.size ≤ w4.heap.size := hg.size
  replace H := Lib.hid hr
  replace G := Lib.hid (grown_new G.out (by omega) hg)
  replace R := Lib.hid (R.out.kept hg (by intro e; have e := Option.some.inj e; omega))
  replace I1 := Lib.hid (I1.out.kept hg (by omega))
  replace I2 := Lib.hid (I2.out.kept hg (by omega))
  replace O := Lib.hid (O.out.kept hg (fun g e => by have e := Option.some.inj e; omega))
  replace K := Lib.hid (K.out.kept hg (by intro e; have e := Option.some.inj e; omega))
  replace M := Lib.hid (M.out.kept hg (by omega))
  clear hg
  clear hr
  clear hs
  obtain ⟨y, rfl⟩ : ∃ y : Nat, x = y := ⟨x.toNat, by omega⟩
  obtain ⟨gb', gc', hz, hv3, _, hgs, hcel⟩ := O.out.cells hm1
  injection hv3 with e1 _ e3; injection e1 with e1; injection e1 with e1 _; subst e1; subst e3
  obtain ⟨hc0, hc1, hfs⟩ := hcel y (by omega)
  clear hcel
  generalize hz y = s at *
  obtain ⟨fq, hfq⟩ : ∃ q : Int, (y : Int) + 1 = q := ⟨_, rfl⟩
  rw [hfq] at hc0
  clear hfq
  go_wp2_with (refine stop_store rfl ?_)
  refine ⟨trivial, ?_⟩
  refine wpList_store_blk rfl 44 (.tmp 13) (.tmp 35) _ _ _ 44 (Blk.new w4 #[.int .i64 0, .int .i64 0] 44) rfl rfl rfl rfl (by kernel_rfl) (by simp [Value.oneCell']) rfl ?_
  intro V hgV hTV
  have hg : w4.grownBy V none := grown_new (grown_alloc w4 (.cells #[.int .i64 0, .int .i64 0] 44) none) (Nat.le_refl _) hgV
  have T := Lib.hid hTV
  have hxh : w2.heap.size + 1 ≤ w4.heap.size := by have := K.out.lt; omega
  clear hgV hTV hc0 hc1 hfs
  replace G := Lib.hid (gtr G.out hg)
  replace R := Lib.hid (R.out.keptN hg)
  replace I1 := Lib.hid (I1.out.keptN hg)
  replace I2 := Lib.hid (I2.out.keptN hg)
  replace O := Lib.hid (O.out.kept hg (fun g e => by cases e))
  replace K := Lib.hid (K.out.keptN hg)
  replace M := Lib.hid (M.out.keptN hg)
  replace H := Lib.hid (H.out.gN hg)
  clear hg
  generalize w4.heap.size = xh at *
  by_cases hnm0 : nm = 0
  · subst hnm0
    go_wp2_with fail
    refine (grp_any _ _ _ a l1 c1' _ H.out (by omega)).mono ?_
    rintro e w8 ⟨all, _, _, rfl, hg, p8, hp8, hp8', hr⟩
    replace H := Lib.hid hr
    replace G := Lib.hid (grown_new G.out (by omega) hg)
    replace R := Lib.hid (R.out.kept hg (by intro e; have e := Option.some.inj e; omega))
    replace I1 := Lib.hid (I1.out.kept hg (by omega))
    replace I2 := Lib.hid (I2.out.kept hg (by omega))
    replace O := Lib.hid (O.out.kept hg (fun g e => by have e := Option.some.inj e; omega))
    replace K := Lib.hid (K.out.kept hg (by intro e; have e := Option.some.inj e; omega))
    replace M := Lib.hid (M.out.kept hg (by omega))
    replace T := Lib.hid (T.out.kept hg (by intro e; have e := Option.some.inj e; omega))
    clear hg
    clear hr
    go_wp2_with fail
    refine (msg_any _ _ _ a l1 c1' _ H.out (by omega)).mono ?_
    rintro e w9 ⟨msg, _, _, rfl, hg, p9, hp9, hp9', hr⟩
    replace H := Lib.hid hr
    replace G := Lib.hid (grown_new G.out (by omega) hg)
    replace R := Lib.hid (R.out.kept hg (by intro e; have e := Option.some.inj e; omega))
    replace I1 := Lib.hid (I1.out.kept hg (by omega))
    replace I2 := Lib.hid (I2.out.kept hg (by omega))
    replace O := Lib.hid (O.out.kept hg (fun g e => by have e := Option.some.inj e; omega))
    replace K := Lib.hid (K.out.kept hg (by intro e; have e := Option.some.inj e; omega))
    replace M := Lib.hid (M.out.kept hg (by omega))
    replace T := Lib.hid (T.out.kept hg (by intro e; have e := Option.some.inj e; omega))
    clear hg
    clear hr
    go_wp2_with fail
    refine (pick_any _ _ _ a l1 c1' _ 23 H.out (by omega) (by omega)).mono ?_
    rintro e w10 ⟨d, d0, d1, rfl, hr, hg, hs⟩
    replace H := Lib.hid hr
    replace G := Lib.hid (grown_new G.out (by omega) hg)
    replace R := Lib.hid (R.out.kept hg (by intro e; have e := Option.some.inj e; omega))
    replace I1 := Lib.hid (I1.out.kept hg (by omega))
    replace I2 := Lib.hid (I2.out.kept hg (by omega))
    replace O := Lib.hid (O.out.kept hg (fun g e => by have e := Option.some.inj e; omega))
    replace K := Lib.hid (K.out.kept hg (by intro e; have e := Option.some.inj e; omega))
    replace M := Lib.hid (M.out.kept hg (by omega))
    replace T := Lib.hid (T.out.kept hg (by intro e; have e := Option.some.inj e; omega))
    clear hg
    clear hr
    clear hs
    have kc0 : World.cell? _ ⟨w2.heap.size, 0, none⟩ = some (.int .i64 (need : Int)) := K.out.cell 0
    have kc1 : World.cell? _ ⟨w2.heap.size, 1, none⟩ = some (.int .i64 (many : Int)) := K.out.cell 1
    have kc2 : World.cell? _ ⟨w2.heap.size, 2, none⟩ = some (.slice ag ng cg) := K.out.cell 2
    have kc3 : World.cell? _ ⟨w2.heap.size, 3, none⟩ = some (.slice ac nc cc) := K.out.cell 3
    have tc0 : World.cell? _ ⟨xh, 0, none⟩ = some (.int .i64 fq) := T.out.cell 0
    have tc1 : World.cell? _ ⟨xh, 1, none⟩ = some (.int .i64 s) := T.out.cell 1
    go_wp2_with fail
    refine (spart _ need many _ ng _ zg _ nc _ zc _ _ _ zm fq s all msg d I1.out.i I2.out.i M.out.i (by omega) (by omega) (by omega)).mono ?_
    rintro e w11 ⟨rfl, hg⟩
    clear kc0 kc1 kc2 kc3 tc0 tc1
    replace G := Lib.hid (gtr G.out hg)
    replace R := Lib.hid (R.out.keptN hg)
    replace I1 := Lib.hid (I1.out.keptN hg)
    replace I2 := Lib.hid (I2.out.keptN hg)
    replace O := Lib.hid (O.out.kept hg (fun g e => by cases e))
    replace K := Lib.hid (K.out.keptN hg)
    replace M := Lib.hid (M.out.keptN hg)
    replace T := Lib.hid (T.out.keptN hg)
    replace H := Lib.hid (H.out.gN hg)
    clear hg
    unfold spV
    generalize spZ _ _ _ _ _ _ _ _ _ _ _ _ _ = zz
    generalize spOk _ _ _ _ _ _ _ _ _ _ _ _ _ = zb
    go_wp2_with fail
    refine (pick_any _ _ _ a l1 c1' _ 6 H.out (by omega) (by omega)).mono ?_
    rintro e w12 ⟨k, k0, k1, rfl, hr, hg, hs⟩
    replace H := Lib.hid hr
    replace G := Lib.hid (grown_new G.out (by omega) hg)
    replace R := Lib.hid (R.out.kept hg (by intro e; have e := Option.some.inj e; omega))
    replace I1 := Lib.hid (I1.out.kept hg (by omega))
    replace I2 := Lib.hid (I2.out.kept hg (by omega))
    replace O := Lib.hid (O.out.kept hg (fun g e => by have e := Option.some.inj e; omega))
    replace K := Lib.hid (K.out.kept hg (by intro e; have e := Option.some.inj e; omega))
    replace M := Lib.hid (M.out.kept hg (by omega))
    replace T := Lib.hid (T.out.kept hg (by intro e; have e := Option.some.inj e; omega))
    clear hg
    clear hr
    clear hs
    rcases (by omega : k = 0 ∨ k = 1 ∨ 2 ≤ k) with rfl | rfl | hk
    · skip
      go_wp2_with fail
      refine (num_any _ _ _ a l1 c1' _ H.out (by omega)).mono ?_
      rintro e w13 ⟨u, _, _, rfl, hg, p13, hp13, hp13', hr⟩
      replace H := Lib.hid hr
      replace G := Lib.hid (grown_new G.out (by omega) hg)
      replace R := Lib.hid (R.out.kept hg (by intro e; have e := Option.some.inj e; omega))
      replace I1 := Lib.hid (I1.out.kept hg (by omega))
      replace I2 := Lib.hid (I2.out.kept hg (by omega))
      replace O := Lib.hid (O.out.kept hg (fun g e => by have e := Option.some.inj e; omega))
      replace K := Lib.hid (K.out.kept hg (by intro e; have e := Option.some.inj e; omega))
      replace M := Lib.hid (M.out.kept hg (by omega))
      replace T := Lib.hid (T.out.kept hg (by intro e; have e := Option.some.inj e; omega))
      clear hg
      clear hr
      go_wp2_with fail
      refine wp_region_held_drew (S := (fun w' => w'.cell? ⟨w2.heap.size, 0, none⟩ = some (.int .i64 (need : Int)) ∧ w'.cell? ⟨w2.heap.size, 1, none⟩ = some (.int .i64 (many : Int)) ∧ w'.cell? ⟨w2.heap.size, 2, none⟩ = some (.slice ag ng cg) ∧ w'.cell? ⟨w2.heap.size, 3, none⟩ = some (.slice ac nc cc) ∧ w'.cell? ⟨xh, 0, none⟩ = some (.int .i64 fq))) (by kernel_rfl) (⟨K.out.cell 0, K.out.cell 1, K.out.cell 2, K.out.cell 3, T.out.cell 0⟩) (fun hHeld => ?_)
      have hg := gdrew w13
      replace G := Lib.hid (gtr G.out hg)
      replace R := Lib.hid (R.out.keptN hg)
      replace I1 := Lib.hid (I1.out.keptN hg)
      replace I2 := Lib.hid (I2.out.keptN hg)
      replace O := Lib.hid (O.out.kept hg (fun g e => by cases e))
      replace K := Lib.hid (K.out.keptN hg)
      replace M := Lib.hid (M.out.keptN hg)
      replace T := Lib.hid (T.out.keptN hg)
      replace H := Lib.hid (H.out.gN hg)
      clear hg
      generalize (w13).drew = V7 at *
      refine wpAnyH_take (i := 0) (oi := ⟨some 76, _, _, _, _, _⟩) (v := ?_) rfl (by kernel_rfl) (by kernel_rfl) (by kernel_rfl) (fun _ _ _ h => h) (Or.inl ⟨by rfl, ?_⟩) (by assumption) ?_
      rotate_left
      · intro w hSw; (try dsimp only at hSw); go_simp; try with_reducible rfl
      simp only [Act.put, List.setIfInBounds_toArray, List.set_cons_zero, List.set_cons_succ]
      refine wpAnyH_take (i := 1) (oi := ⟨some 77, _, _, _, _, _⟩) (v := ?_) rfl (by kernel_rfl) (by kernel_rfl) (by kernel_rfl) (fun _ _ _ h => h) (Or.inl ⟨by rfl, ?_⟩) (by assumption) ?_
      rotate_left
      · intro w hSw; (try dsimp only at hSw); go_simp; try with_reducible rfl
      simp only [Act.put, List.setIfInBounds_toArray, List.set_cons_zero, List.set_cons_succ]
      refine wpAnyH_take (i := 2) (oi := ⟨some 78, _, _, _, _, _⟩) (v := ?_) rfl (by kernel_rfl) (by kernel_rfl) (by kernel_rfl) (fun _ _ _ h => h) (Or.inl ⟨by rfl, ?_⟩) (by assumption) ?_
      rotate_left
      · intro w hSw; (try dsimp only at hSw); go_simp; try with_reducible rfl
      simp only [Act.put, List.setIfInBounds_toArray, List.set_cons_zero, List.set_cons_succ]
      refine wpAnyH_take (i := 3) (oi := ⟨some 79, _, _, _, _, _⟩) (v := ?_) rfl (by kernel_rfl) (by kernel_rfl) (by kernel_rfl) (fun _ _ _ h => h) (Or.inl ⟨by rfl, ?_⟩) (by assumption) ?_
      rotate_left
      · intro w hSw; (try dsimp only at hSw); go_simp; try with_reducible rfl
      simp only [Act.put, List.setIfInBounds_toArray, List.set_cons_zero, List.set_cons_succ]
      refine wpAnyH_take (i := 4) (oi := ⟨some 80, _, _, _, _, _⟩) (v := ?_) rfl (by kernel_rfl) (by kernel_rfl) (by kernel_rfl) (fun _ _ _ h => h) (Or.inl ⟨by rfl, ?_⟩) (by assumption) ?_
      rotate_left
      · intro w hSw; (try dsimp only at hSw); go_simp; try with_reducible rfl
      simp only [Act.put, List.setIfInBounds_toArray, List.set_cons_zero, List.set_cons_succ]
      refine wpAnyH_take (i := 6) (oi := ⟨some 82, _, _, _, _, _⟩) (v := ?_) rfl (by kernel_rfl) (by kernel_rfl) (by kernel_rfl) (fun _ _ _ h => h) (Or.inl ⟨by rfl, ?_⟩) (by assumption) ?_
      rotate_left
      · intro w hSw; (try dsimp only at hSw); go_simp; try with_reducible rfl
      simp only [Act.put, List.setIfInBounds_toArray, List.set_cons_zero, List.set_cons_succ]
      refine wpAnyH_take (i := 7) (oi := ⟨some 83, _, _, _, _, _⟩) (v := ?_) rfl (by kernel_rfl) (by kernel_rfl) (by kernel_rfl) (fun _ _ _ h => h) (Or.inl ⟨by rfl, ?_⟩) (by assumption) ?_
      rotate_left
      · intro w hSw; (try dsimp only at hSw); go_simp; try with_reducible rfl
      simp only [Act.put, List.setIfInBounds_toArray, List.set_cons_zero, List.set_cons_succ]
      refine wpAnyH_take (i := 8) (oi := ⟨some 84, _, _, _, _, _⟩) (v := ?_) rfl (by kernel_rfl) (by kernel_rfl) (by kernel_rfl) (fun _ _ _ h => h) (Or.inl ⟨by rfl, ?_⟩) (by assumption) ?_
      rotate_left
      · intro w hSw; (try dsimp only at hSw); go_simp; try with_reducible rfl
      simp only [Act.put, List.setIfInBounds_toArray, List.set_cons_zero, List.set_cons_succ]
      refine wpAnyH_ready (rs := [5]) (by kernel_rfl) (by simp) ?_
      refine AllReadyH.cons (o := ⟨some 81, _, _, _, _, _⟩) rfl (fun Kq hKq => ?_) AllReadyH.nil
      go_simp
      go_at_call 71
      refine (sgof _ _).mono ?_
      rintro e V8 ⟨rfl, rfl⟩
      refine hKq.out _ _ (⟨K.out.cell 0, K.out.cell 1, K.out.cell 2, K.out.cell 3, T.out.cell 0⟩) (fun hHeld => ?_)
      clear hKq Kq
      refine wpAnyH_ready (rs := [9]) (by kernel_rfl) (by simp) ?_
      refine AllReadyH.cons (o := ⟨none, _, _, _, _, _⟩) rfl (fun Kq hKq => ?_) AllReadyH.nil
      rw [if_pos (by rfl)]
      refine wp_store_blk 42 (.tmp 2) (.tmp 76) _ _ _ 42 R.out rfl rfl rfl rfl (by kernel_rfl) (by simp [Value.oneCell']) rfl ?_
      intro V11 hg hT
      replace R := Lib.hid hT
      replace G := Lib.hid (grown_new G.out (by omega) hg)
      replace I1 := Lib.hid (I1.out.kept hg (by omega))
      replace I2 := Lib.hid (I2.out.kept hg (by omega))
      replace O := Lib.hid (O.out.kept hg (fun g e => by have e := Option.some.inj e; omega))
      replace K := Lib.hid (K.out.kept hg (by intro e; have e := Option.some.inj e; omega))
      replace M := Lib.hid (M.out.kept hg (by omega))
      replace T := Lib.hid (T.out.kept hg (by intro e; have e := Option.some.inj e; omega))
      replace H := Lib.hid (H.out.grownN hg (by omega) (by omega))
      clear hg
      clear hT
      refine hKq.out _ _ (⟨K.out.cell 0, K.out.cell 1, K.out.cell 2, K.out.cell 3, T.out.cell 0⟩) (fun hHeld => ?_)
      clear hKq Kq
      refine wpAnyH_take (i := 10) (oi := ⟨some 3, _, _, _, _, _⟩) (v := ?_) rfl (by kernel_rfl) (by kernel_rfl) (by kernel_rfl) (fun _ _ _ h => h) (Or.inl ⟨by rfl, ?_⟩) (by assumption) ?_
      rotate_left
      · intro w hSw; (try dsimp only at hSw); go_simp; try with_reducible rfl
      simp only [Act.put, List.setIfInBounds_toArray, List.set_cons_zero, List.set_cons_succ]
      refine wpAnyH_take (i := 11) (oi := ⟨some 4, _, _, _, _, _⟩) (v := ?_) rfl (by kernel_rfl) (by kernel_rfl) (by kernel_rfl) (fun _ _ _ h => h) (Or.inl ⟨by rfl, ?_⟩) (by assumption) ?_
      rotate_left
      · intro w hSw; (try dsimp only at hSw); go_simp; try with_reducible rfl
      simp only [Act.put, List.setIfInBounds_toArray, List.set_cons_zero, List.set_cons_succ]
      refine wpAnyH_take (i := 12) (oi := ⟨some 5, _, _, _, _, _⟩) (v := ?_) rfl (by kernel_rfl) (by kernel_rfl) (by kernel_rfl) (fun _ _ _ h => h) (Or.inl ⟨by rfl, ?_⟩) (by assumption) ?_
      rotate_left
      · intro w hSw; (try dsimp only at hSw); go_simp; try with_reducible rfl
      simp only [Act.put, List.setIfInBounds_toArray, List.set_cons_zero, List.set_cons_succ]
      refine wpAnyH_take (i := 13) (oi := ⟨some 6, _, _, _, _, _⟩) (v := ?_) rfl (by kernel_rfl) (by kernel_rfl) (by kernel_rfl) (fun _ _ _ h => h) (Or.inl ⟨by rfl, ?_⟩) (by assumption) ?_
      rotate_left
      · intro w hSw; (try dsimp only at hSw); go_simp; try with_reducible rfl
      simp only [Act.put, List.setIfInBounds_toArray, List.set_cons_zero, List.set_cons_succ]
      refine wpAnyH_take (i := 14) (oi := ⟨some 7, _, _, _, _, _⟩) (v := ?_) rfl (by kernel_rfl) (by kernel_rfl) (by kernel_rfl) (fun _ _ _ h => h) (Or.inl ⟨by rfl, ?_⟩) (by assumption) ?_
      rotate_left
      · intro w hSw; (try dsimp only at hSw); go_simp; try with_reducible rfl
      simp only [Act.put, List.setIfInBounds_toArray, List.set_cons_zero, List.set_cons_succ]
      refine wpAnyH_take (i := 15) (oi := ⟨some 8, _, _, _, _, _⟩) (v := ?_) rfl (by kernel_rfl) (by kernel_rfl) (by kernel_rfl) (fun _ _ _ h => h) (Or.inl ⟨by rfl, ?_⟩) (by assumption) ?_
      rotate_left
      · intro w hSw; (try dsimp only at hSw); go_simp; try with_reducible rfl
      simp only [Act.put, List.setIfInBounds_toArray, List.set_cons_zero, List.set_cons_succ]
      refine wpAnyH_done (by kernel_rfl) ?_ _
      go_wp2
      (try simp only [Exit.inBlock, Exit.then])
      refine bodyPost_ret (ret_k7 rfl _ rfl R.out) rfl ?_
      exact ⟨need, many, ag, ng, cg, zg, ac, nc, cc, zc, _, _, cm, zm, _, _, _, _, _, rfl, by omega, by omega, by omega, hmc, hcm, I1.out.i, I2.out.i, M.out.i, G.out⟩
    · skip
      go_wp2_with fail
      refine (pick_any _ _ _ a l1 c1' _ 23 H.out (by omega) (by omega)).mono ?_
      rintro e w13 ⟨u, u0, u1, rfl, hr, hg, hs⟩
      replace H := Lib.hid hr
      replace G := Lib.hid (grown_new G.out (by omega) hg)
      replace R := Lib.hid (R.out.kept hg (by intro e; have e := Option.some.inj e; omega))
      replace I1 := Lib.hid (I1.out.kept hg (by omega))
      replace I2 := Lib.hid (I2.out.kept hg (by omega))
      replace O := Lib.hid (O.out.kept hg (fun g e => by have e := Option.some.inj e; omega))
      replace K := Lib.hid (K.out.kept hg (by intro e; have e := Option.some.inj e; omega))
      replace M := Lib.hid (M.out.kept hg (by omega))
      replace T := Lib.hid (T.out.kept hg (by intro e; have e := Option.some.inj e; omega))
      clear hg
      clear hr
      clear hs
      go_wp2_with fail
      refine wp_region_held_drew (S := (fun w' => w'.cell? ⟨w2.heap.size, 0, none⟩ = some (.int .i64 (need : Int)) ∧ w'.cell? ⟨w2.heap.size, 1, none⟩ = some (.int .i64 (many : Int)) ∧ w'.cell? ⟨w2.heap.size, 2, none⟩ = some (.slice ag ng cg) ∧ w'.cell? ⟨w2.heap.size, 3, none⟩ = some (.slice ac nc cc) ∧ w'.cell? ⟨xh, 0, none⟩ = some (.int .i64 fq))) (by kernel_rfl) (⟨K.out.cell 0, K.out.cell 1, K.out.cell 2, K.out.cell 3, T.out.cell 0⟩) (fun hHeld => ?_)
      have hg := gdrew w13
      replace G := Lib.hid (gtr G.out hg)
      replace R := Lib.hid (R.out.keptN hg)
      replace I1 := Lib.hid (I1.out.keptN hg)
      replace I2 := Lib.hid (I2.out.keptN hg)
      replace O := Lib.hid (O.out.kept hg (fun g e => by cases e))
      replace K := Lib.hid (K.out.keptN hg)
      replace M := Lib.hid (M.out.keptN hg)
      replace T := Lib.hid (T.out.keptN hg)
      replace H := Lib.hid (H.out.gN hg)
      clear hg
      generalize (w13).drew = V7 at *
      refine wpAnyH_take (i := 0) (oi := ⟨some 76, _, _, _, _, _⟩) (v := ?_) rfl (by kernel_rfl) (by kernel_rfl) (by kernel_rfl) (fun _ _ _ h => h) (Or.inl ⟨by rfl, ?_⟩) (by assumption) ?_
      rotate_left
      · intro w hSw; (try dsimp only at hSw); go_simp; try with_reducible rfl
      simp only [Act.put, List.setIfInBounds_toArray, List.set_cons_zero, List.set_cons_succ]
      refine wpAnyH_take (i := 1) (oi := ⟨some 77, _, _, _, _, _⟩) (v := ?_) rfl (by kernel_rfl) (by kernel_rfl) (by kernel_rfl) (fun _ _ _ h => h) (Or.inl ⟨by rfl, ?_⟩) (by assumption) ?_
      rotate_left
      · intro w hSw; (try dsimp only at hSw); go_simp; try with_reducible rfl
      simp only [Act.put, List.setIfInBounds_toArray, List.set_cons_zero, List.set_cons_succ]
      refine wpAnyH_take (i := 2) (oi := ⟨some 78, _, _, _, _, _⟩) (v := ?_) rfl (by kernel_rfl) (by kernel_rfl) (by kernel_rfl) (fun _ _ _ h => h) (Or.inl ⟨by rfl, ?_⟩) (by assumption) ?_
      rotate_left
      · intro w hSw; (try dsimp only at hSw); go_simp; try with_reducible rfl
      simp only [Act.put, List.setIfInBounds_toArray, List.set_cons_zero, List.set_cons_succ]
      refine wpAnyH_take (i := 3) (oi := ⟨some 79, _, _, _, _, _⟩) (v := ?_) rfl (by kernel_rfl) (by kernel_rfl) (by kernel_rfl) (fun _ _ _ h => h) (Or.inl ⟨by rfl, ?_⟩) (by assumption) ?_
      rotate_left
      · intro w hSw; (try dsimp only at hSw); go_simp; try with_reducible rfl
      simp only [Act.put, List.setIfInBounds_toArray, List.set_cons_zero, List.set_cons_succ]
      refine wpAnyH_take (i := 4) (oi := ⟨some 80, _, _, _, _, _⟩) (v := ?_) rfl (by kernel_rfl) (by kernel_rfl) (by kernel_rfl) (fun _ _ _ h => h) (Or.inl ⟨by rfl, ?_⟩) (by assumption) ?_
      rotate_left
      · intro w hSw; (try dsimp only at hSw); go_simp; try with_reducible rfl
      simp only [Act.put, List.setIfInBounds_toArray, List.set_cons_zero, List.set_cons_succ]
      refine wpAnyH_take (i := 6) (oi := ⟨some 82, _, _, _, _, _⟩) (v := ?_) rfl (by kernel_rfl) (by kernel_rfl) (by kernel_rfl) (fun _ _ _ h => h) (Or.inl ⟨by rfl, ?_⟩) (by assumption) ?_
      rotate_left
      · intro w hSw; (try dsimp only at hSw); go_simp; try with_reducible rfl
      simp only [Act.put, List.setIfInBounds_toArray, List.set_cons_zero, List.set_cons_succ]
      refine wpAnyH_take (i := 7) (oi := ⟨some 83, _, _, _, _, _⟩) (v := ?_) rfl (by kernel_rfl) (by kernel_rfl) (by kernel_rfl) (fun _ _ _ h => h) (Or.inl ⟨by rfl, ?_⟩) (by assumption) ?_
      rotate_left
      · intro w hSw; (try dsimp only at hSw); go_simp; try with_reducible rfl
      simp only [Act.put, List.setIfInBounds_toArray, List.set_cons_zero, List.set_cons_succ]
      refine wpAnyH_take (i := 8) (oi := ⟨some 84, _, _, _, _, _⟩) (v := ?_) rfl (by kernel_rfl) (by kernel_rfl) (by kernel_rfl) (fun _ _ _ h => h) (Or.inl ⟨by rfl, ?_⟩) (by assumption) ?_
      rotate_left
      · intro w hSw; (try dsimp only at hSw); go_simp; try with_reducible rfl
      simp only [Act.put, List.setIfInBounds_toArray, List.set_cons_zero, List.set_cons_succ]
      refine wpAnyH_ready (rs := [5]) (by kernel_rfl) (by simp) ?_
      refine AllReadyH.cons (o := ⟨some 81, _, _, _, _, _⟩) rfl (fun Kq hKq => ?_) AllReadyH.nil
      go_simp
      go_at_call 71
      refine (sgof _ _).mono ?_
      rintro e V8 ⟨rfl, rfl⟩
      refine hKq.out _ _ (⟨K.out.cell 0, K.out.cell 1, K.out.cell 2, K.out.cell 3, T.out.cell 0⟩) (fun hHeld => ?_)
      clear hKq Kq
      refine wpAnyH_ready (rs := [9]) (by kernel_rfl) (by simp) ?_
      refine AllReadyH.cons (o := ⟨none, _, _, _, _, _⟩) rfl (fun Kq hKq => ?_) AllReadyH.nil
      rw [if_pos (by rfl)]
      refine wp_store_blk 42 (.tmp 2) (.tmp 76) _ _ _ 42 R.out rfl rfl rfl rfl (by kernel_rfl) (by simp [Value.oneCell']) rfl ?_
      intro V11 hg hT
      replace R := Lib.hid hT
      replace G := Lib.hid (grown_new G.out (by omega) hg)
      replace I1 := Lib.hid (I1.out.kept hg (by omega))
      replace I2 := Lib.hid (I2.out.kept hg (by omega))
      replace O := Lib.hid (O.out.kept hg (fun g e => by have e := Option.some.inj e; omega))
      replace K := Lib.hid (K.out.kept hg (by intro e; have e := Option.some.inj e; omega))
      replace M := Lib.hid (M.out.kept hg (by omega))
      replace T := Lib.hid (T.out.kept hg (by intro e; have e := Option.some.inj e; omega))
      replace H := Lib.hid (H.out.grownN hg (by omega) (by omega))
      clear hg
      clear hT
      refine hKq.out _ _ (⟨K.out.cell 0, K.out.cell 1, K.out.cell 2, K.out.cell 3, T.out.cell 0⟩) (fun hHeld => ?_)
      clear hKq Kq
      refine wpAnyH_take (i := 10) (oi := ⟨some 3, _, _, _, _, _⟩) (v := ?_) rfl (by kernel_rfl) (by kernel_rfl) (by kernel_rfl) (fun _ _ _ h => h) (Or.inl ⟨by rfl, ?_⟩) (by assumption) ?_
      rotate_left
      · intro w hSw; (try dsimp only at hSw); go_simp; try with_reducible rfl
      simp only [Act.put, List.setIfInBounds_toArray, List.set_cons_zero, List.set_cons_succ]
      refine wpAnyH_take (i := 11) (oi := ⟨some 4, _, _, _, _, _⟩) (v := ?_) rfl (by kernel_rfl) (by kernel_rfl) (by kernel_rfl) (fun _ _ _ h => h) (Or.inl ⟨by rfl, ?_⟩) (by assumption) ?_
      rotate_left
      · intro w hSw; (try dsimp only at hSw); go_simp; try with_reducible rfl
      simp only [Act.put, List.setIfInBounds_toArray, List.set_cons_zero, List.set_cons_succ]
      refine wpAnyH_take (i := 12) (oi := ⟨some 5, _, _, _, _, _⟩) (v := ?_) rfl (by kernel_rfl) (by kernel_rfl) (by kernel_rfl) (fun _ _ _ h => h) (Or.inl ⟨by rfl, ?_⟩) (by assumption) ?_
      rotate_left
      · intro w hSw; (try dsimp only at hSw); go_simp; try with_reducible rfl
      simp only [Act.put, List.setIfInBounds_toArray, List.set_cons_zero, List.set_cons_succ]
      refine wpAnyH_take (i := 13) (oi := ⟨some 6, _, _, _, _, _⟩) (v := ?_) rfl (by kernel_rfl) (by kernel_rfl) (by kernel_rfl) (fun _ _ _ h => h) (Or.inl ⟨by rfl, ?_⟩) (by assumption) ?_
      rotate_left
      · intro w hSw; (try dsimp only at hSw); go_simp; try with_reducible rfl
      simp only [Act.put, List.setIfInBounds_toArray, List.set_cons_zero, List.set_cons_succ]
      refine wpAnyH_take (i := 14) (oi := ⟨some 7, _, _, _, _, _⟩) (v := ?_) rfl (by kernel_rfl) (by kernel_rfl) (by kernel_rfl) (fun _ _ _ h => h) (Or.inl ⟨by rfl, ?_⟩) (by assumption) ?_
      rotate_left
      · intro w hSw; (try dsimp only at hSw); go_simp; try with_reducible rfl
      simp only [Act.put, List.setIfInBounds_toArray, List.set_cons_zero, List.set_cons_succ]
      refine wpAnyH_take (i := 15) (oi := ⟨some 8, _, _, _, _, _⟩) (v := ?_) rfl (by kernel_rfl) (by kernel_rfl) (by kernel_rfl) (fun _ _ _ h => h) (Or.inl ⟨by rfl, ?_⟩) (by assumption) ?_
      rotate_left
      · intro w hSw; (try dsimp only at hSw); go_simp; try with_reducible rfl
      simp only [Act.put, List.setIfInBounds_toArray, List.set_cons_zero, List.set_cons_succ]
      refine wpAnyH_done (by kernel_rfl) ?_ _
      go_wp2
      (try simp only [Exit.inBlock, Exit.then])
      refine bodyPost_ret (ret_k7 rfl _ rfl R.out) rfl ?_
      exact ⟨need, many, ag, ng, cg, zg, ac, nc, cc, zc, _, _, cm, zm, _, _, _, _, _, rfl, by omega, by omega, by omega, hmc, hcm, I1.out.i, I2.out.i, M.out.i, G.out⟩
    · skip
      have q0 : (k == 0) = false := by simp; omega
      have q1 : (k == 1) = false := by simp; omega
      go_wp2_with fail
      refine wp_region_held_drew (S := (fun w' => w'.cell? ⟨w2.heap.size, 0, none⟩ = some (.int .i64 (need : Int)) ∧ w'.cell? ⟨w2.heap.size, 1, none⟩ = some (.int .i64 (many : Int)) ∧ w'.cell? ⟨w2.heap.size, 2, none⟩ = some (.slice ag ng cg) ∧ w'.cell? ⟨w2.heap.size, 3, none⟩ = some (.slice ac nc cc) ∧ w'.cell? ⟨xh, 0, none⟩ = some (.int .i64 fq))) (by kernel_rfl) (⟨K.out.cell 0, K.out.cell 1, K.out.cell 2, K.out.cell 3, T.out.cell 0⟩) (fun hHeld => ?_)
      have hg := gdrew w12
      replace G := Lib.hid (gtr G.out hg)
      replace R := Lib.hid (R.out.keptN hg)
      replace I1 := Lib.hid (I1.out.keptN hg)
      replace I2 := Lib.hid (I2.out.keptN hg)
      replace O := Lib.hid (O.out.kept hg (fun g e => by cases e))
      replace K := Lib.hid (K.out.keptN hg)
      replace M := Lib.hid (M.out.keptN hg)
      replace T := Lib.hid (T.out.keptN hg)
      replace H := Lib.hid (H.out.gN hg)
      clear hg
      generalize (w12).drew = V7 at *
      refine wpAnyH_take (i := 0) (oi := ⟨some 76, _, _, _, _, _⟩) (v := ?_) rfl (by kernel_rfl) (by kernel_rfl) (by kernel_rfl) (fun _ _ _ h => h) (Or.inl ⟨by rfl, ?_⟩) (by assumption) ?_
      rotate_left
      · intro w hSw; (try dsimp only at hSw); go_simp; try with_reducible rfl
      simp only [Act.put, List.setIfInBounds_toArray, List.set_cons_zero, List.set_cons_succ]
      refine wpAnyH_take (i := 1) (oi := ⟨some 77, _, _, _, _, _⟩) (v := ?_) rfl (by kernel_rfl) (by kernel_rfl) (by kernel_rfl) (fun _ _ _ h => h) (Or.inl ⟨by rfl, ?_⟩) (by assumption) ?_
      rotate_left
      · intro w hSw; (try dsimp only at hSw); go_simp; try with_reducible rfl
      simp only [Act.put, List.setIfInBounds_toArray, List.set_cons_zero, List.set_cons_succ]
      refine wpAnyH_take (i := 2) (oi := ⟨some 78, _, _, _, _, _⟩) (v := ?_) rfl (by kernel_rfl) (by kernel_rfl) (by kernel_rfl) (fun _ _ _ h => h) (Or.inl ⟨by rfl, ?_⟩) (by assumption) ?_
      rotate_left
      · intro w hSw; (try dsimp only at hSw); go_simp; try with_reducible rfl
      simp only [Act.put, List.setIfInBounds_toArray, List.set_cons_zero, List.set_cons_succ]
      refine wpAnyH_take (i := 3) (oi := ⟨some 79, _, _, _, _, _⟩) (v := ?_) rfl (by kernel_rfl) (by kernel_rfl) (by kernel_rfl) (fun _ _ _ h => h) (Or.inl ⟨by rfl, ?_⟩) (by assumption) ?_
      rotate_left
      · intro w hSw; (try dsimp only at hSw); go_simp; try with_reducible rfl
      simp only [Act.put, List.setIfInBounds_toArray, List.set_cons_zero, List.set_cons_succ]
      refine wpAnyH_take (i := 4) (oi := ⟨some 80, _, _, _, _, _⟩) (v := ?_) rfl (by kernel_rfl) (by kernel_rfl) (by kernel_rfl) (fun _ _ _ h => h) (Or.inl ⟨by rfl, ?_⟩) (by assumption) ?_
      rotate_left
      · intro w hSw; (try dsimp only at hSw); go_simp; try with_reducible rfl
      simp only [Act.put, List.setIfInBounds_toArray, List.set_cons_zero, List.set_cons_succ]
      refine wpAnyH_take (i := 6) (oi := ⟨some 82, _, _, _, _, _⟩) (v := ?_) rfl (by kernel_rfl) (by kernel_rfl) (by kernel_rfl) (fun _ _ _ h => h) (Or.inl ⟨by rfl, ?_⟩) (by assumption) ?_
      rotate_left
      · intro w hSw; (try dsimp only at hSw); go_simp; try with_reducible rfl
      simp only [Act.put, List.setIfInBounds_toArray, List.set_cons_zero, List.set_cons_succ]
      refine wpAnyH_take (i := 7) (oi := ⟨some 83, _, _, _, _, _⟩) (v := ?_) rfl (by kernel_rfl) (by kernel_rfl) (by kernel_rfl) (fun _ _ _ h => h) (Or.inl ⟨by rfl, ?_⟩) (by assumption) ?_
      rotate_left
      · intro w hSw; (try dsimp only at hSw); go_simp; try with_reducible rfl
      simp only [Act.put, List.setIfInBounds_toArray, List.set_cons_zero, List.set_cons_succ]
      refine wpAnyH_take (i := 8) (oi := ⟨some 84, _, _, _, _, _⟩) (v := ?_) rfl (by kernel_rfl) (by kernel_rfl) (by kernel_rfl) (fun _ _ _ h => h) (Or.inl ⟨by rfl, ?_⟩) (by assumption) ?_
      rotate_left
      · intro w hSw; (try dsimp only at hSw); go_simp; try with_reducible rfl
      simp only [Act.put, List.setIfInBounds_toArray, List.set_cons_zero, List.set_cons_succ]
      refine wpAnyH_ready (rs := [5]) (by kernel_rfl) (by simp) ?_
      refine AllReadyH.cons (o := ⟨some 81, _, _, _, _, _⟩) rfl (fun Kq hKq => ?_) AllReadyH.nil
      go_simp
      go_at_call 71
      refine (sgof _ _).mono ?_
      rintro e V8 ⟨rfl, rfl⟩
      refine hKq.out _ _ (⟨K.out.cell 0, K.out.cell 1, K.out.cell 2, K.out.cell 3, T.out.cell 0⟩) (fun hHeld => ?_)
      clear hKq Kq
      refine wpAnyH_ready (rs := [9]) (by kernel_rfl) (by simp) ?_
      refine AllReadyH.cons (o := ⟨none, _, _, _, _, _⟩) rfl (fun Kq hKq => ?_) AllReadyH.nil
      rw [if_pos (by rfl)]
      refine wp_store_blk 42 (.tmp 2) (.tmp 76) _ _ _ 42 R.out rfl rfl rfl rfl (by kernel_rfl) (by simp [Value.oneCell']) rfl ?_
      intro V11 hg hT
      replace R := Lib.hid hT
      replace G := Lib.hid (grown_new G.out (by omega) hg)
      replace I1 := Lib.hid (I1.out.kept hg (by omega))
      replace I2 := Lib.hid (I2.out.kept hg (by omega))
      replace O := Lib.hid (O.out.kept hg (fun g e => by have e := Option.some.inj e; omega))
      replace K := Lib.hid (K.out.kept hg (by intro e; have e := Option.some.inj e; omega))
      replace M := Lib.hid (M.out.kept hg (by omega))
      replace T := Lib.hid (T.out.kept hg (by intro e; have e := Option.some.inj e; omega))
      replace H := Lib.hid (H.out.grownN hg (by omega) (by omega))
      clear hg
      clear hT
      refine hKq.out _ _ (⟨K.out.cell 0, K.out.cell 1, K.out.cell 2, K.out.cell 3, T.out.cell 0⟩) (fun hHeld => ?_)
      clear hKq Kq
      refine wpAnyH_take (i := 10) (oi := ⟨some 3, _, _, _, _, _⟩) (v := ?_) rfl (by kernel_rfl) (by kernel_rfl) (by kernel_rfl) (fun _ _ _ h => h) (Or.inl ⟨by rfl, ?_⟩) (by assumption) ?_
      rotate_left
      · intro w hSw; (try dsimp only at hSw); go_simp; try with_reducible rfl
      simp only [Act.put, List.setIfInBounds_toArray, List.set_cons_zero, List.set_cons_succ]
      refine wpAnyH_take (i := 11) (oi := ⟨some 4, _, _, _, _, _⟩) (v := ?_) rfl (by kernel_rfl) (by kernel_rfl) (by kernel_rfl) (fun _ _ _ h => h) (Or.inl ⟨by rfl, ?_⟩) (by assumption) ?_
      rotate_left
      · intro w hSw; (try dsimp only at hSw); go_simp; try with_reducible rfl
      simp only [Act.put, List.setIfInBounds_toArray, List.set_cons_zero, List.set_cons_succ]
      refine wpAnyH_take (i := 12) (oi := ⟨some 5, _, _, _, _, _⟩) (v := ?_) rfl (by kernel_rfl) (by kernel_rfl) (by kernel_rfl) (fun _ _ _ h => h) (Or.inl ⟨by rfl, ?_⟩) (by assumption) ?_
      rotate_left
      · intro w hSw; (try dsimp only at hSw); go_simp; try with_reducible rfl
      simp only [Act.put, List.setIfInBounds_toArray, List.set_cons_zero, List.set_cons_succ]
      refine wpAnyH_take (i := 13) (oi := ⟨some 6, _, _, _, _, _⟩) (v := ?_) rfl (by kernel_rfl) (by kernel_rfl) (by kernel_rfl) (fun _ _ _ h => h) (Or.inl ⟨by rfl, ?_⟩) (by assumption) ?_
      rotate_left
      · intro w hSw; (try dsimp only at hSw); go_simp; try with_reducible rfl
      simp only [Act.put, List.setIfInBounds_toArray, List.set_cons_zero, List.set_cons_succ]
      refine wpAnyH_take (i := 14) (oi := ⟨some 7, _, _, _, _, _⟩) (v := ?_) rfl (by kernel_rfl) (by kernel_rfl) (by kernel_rfl) (fun _ _ _ h => h) (Or.inl ⟨by rfl, ?_⟩) (by assumption) ?_
      rotate_left
      · intro w hSw; (try dsimp only at hSw); go_simp; try with_reducible rfl
      simp only [Act.put, List.setIfInBounds_toArray, List.set_cons_zero, List.set_cons_succ]
      refine wpAnyH_take (i := 15) (oi := ⟨some 8, _, _, _, _, _⟩) (v := ?_) rfl (by kernel_rfl) (by kernel_rfl) (by kernel_rfl) (fun _ _ _ h => h) (Or.inl ⟨by rfl, ?_⟩) (by assumption) ?_
      rotate_left
      · intro w hSw; (try dsimp only at hSw); go_simp; try with_reducible rfl
      simp only [Act.put, List.setIfInBounds_toArray, List.set_cons_zero, List.set_cons_succ]
      refine wpAnyH_done (by kernel_rfl) ?_ _
      go_wp2
      (try simp only [Exit.inBlock, Exit.then])
      refine bodyPost_ret (ret_k7 rfl _ rfl R.out) rfl ?_
      exact ⟨need, many, ag, ng, cg, zg, ac, nc, cc, zc, _, _, cm, zm, _, _, _, _, _, rfl, by omega, by omega, by omega, hmc, hcm, I1.out.i, I2.out.i, M.out.i, G.out⟩
  have hnp : (0 : Int) < (nm : Int) := by omega
  go_wp2_with fail
  refine (pick_any _ _ _ a l1 c1' _ (nm : Int) H.out (by omega) (by omega)).mono ?_
  rintro e w6 ⟨x6, x60, x61, rfl, hr, hg, hs⟩
  replace H := Lib.hid hr
  replace G := Lib.hid (grown_new G.out (by omega) hg)
  replace R := Lib.hid (R.out.kept hg (by intro e; have e := Option.some.inj e; omega))
  replace I1 := Lib.hid (I1.out.kept hg (by omega))
  replace I2 := Lib.hid (I2.out.kept hg (by omega))
  replace O := Lib.hid (O.out.kept hg (fun g e => by have e := Option.some.inj e; omega))
  replace K := Lib.hid (K.out.kept hg (by intro e; have e := Option.some.inj e; omega))
  replace M := Lib.hid (M.out.kept hg (by omega))
  replace T := Lib.hid (T.out.kept hg (by intro e; have e := Option.some.inj e; omega))
  clear hg
  clear hr
  clear hs
  obtain ⟨j, rfl⟩ : ∃ j : Nat, x6 = j := ⟨x6.toNat, by omega⟩
  have hjn : j < nm := by omega
  have hjI : (j : Int) < (nm : Int) := by omega
  obtain ⟨z0, z1⟩ := HAL.out j hjn
  obtain ⟨y2, hy2⟩ : ∃ y2 : Nat, zm j = (y2 : Int) + 1 := ⟨(zm j - 1).toNat, by omega⟩
  obtain ⟨bm, om, ham, hbm, hmcel⟩ := M.out.i.ptr (by omega)
  have hcx := hmcel j hjn
  rw [hy2] at hcx
  clear hmcel
  obtain ⟨gb', gc', hz, hv3, _, hgs6, hcel⟩ := O.out.cells hm1
  injection hv3 with e1 _ e3; injection e1 with e1; injection e1 with e1 _; subst e1; subst e3
  obtain ⟨hc0, hc1, hfs⟩ := hcel y2 (by omega)
  clear hcel
  generalize hz y2 = s2 at *
  have hsub : ((y2 : Int) + 1) - 1 = (y2 : Int) := by omega
  have hy2m : (y2 : Int) < (many : Int) := by omega
  subst ham
  go_wp2_with (refine stop_store rfl ?_)
  refine ⟨trivial, ?_⟩
  refine wpList_store_blk rfl 44 (.tmp 13) (.tmp 49) _ _ _ 44 T.out rfl rfl rfl rfl (by kernel_rfl) (by simp [Value.oneCell']) rfl ?_
  intro W7 hg hT
  clear hc0 hc1 hfs hcx
  clear O
  replace T := Lib.hid hT
  replace G := Lib.hid (grown_new G.out (by omega) hg)
  replace R := Lib.hid (R.out.kept hg (by intro e; have e := Option.some.inj e; omega))
  replace I1 := Lib.hid (I1.out.kept hg (by omega))
  replace I2 := Lib.hid (I2.out.kept hg (by omega))
  replace K := Lib.hid (K.out.kept hg (by intro e; have e := Option.some.inj e; omega))
  replace M := Lib.hid (M.out.kept hg (by omega))
  replace H := Lib.hid (H.out.grownN hg (by omega) (by omega))
  clear hg
  clear hT
  go_wp2_with fail
  refine (grp_any _ _ _ a l1 c1' _ H.out (by omega)).mono ?_
  rintro e w8 ⟨all, _, _, rfl, hg, p8, hp8, hp8', hr⟩
  replace H := Lib.hid hr
  replace G := Lib.hid (grown_new G.out (by omega) hg)
  replace R := Lib.hid (R.out.kept hg (by intro e; have e := Option.some.inj e; omega))
  replace I1 := Lib.hid (I1.out.kept hg (by omega))
  replace I2 := Lib.hid (I2.out.kept hg (by omega))
  replace K := Lib.hid (K.out.kept hg (by intro e; have e := Option.some.inj e; omega))
  replace M := Lib.hid (M.out.kept hg (by omega))
  replace T := Lib.hid (T.out.kept hg (by intro e; have e := Option.some.inj e; omega))
  clear hg
  clear hr
  go_wp2_with fail
  refine (msg_any _ _ _ a l1 c1' _ H.out (by omega)).mono ?_
  rintro e w9 ⟨msg, _, _, rfl, hg, p9, hp9, hp9', hr⟩
  replace H := Lib.hid hr
  replace G := Lib.hid (grown_new G.out (by omega) hg)
  replace R := Lib.hid (R.out.kept hg (by intro e; have e := Option.some.inj e; omega))
  replace I1 := Lib.hid (I1.out.kept hg (by omega))
  replace I2 := Lib.hid (I2.out.kept hg (by omega))
  replace K := Lib.hid (K.out.kept hg (by intro e; have e := Option.some.inj e; omega))
  replace M := Lib.hid (M.out.kept hg (by omega))
  replace T := Lib.hid (T.out.kept hg (by intro e; have e := Option.some.inj e; omega))
  clear hg
  clear hr
  go_wp2_with fail
  refine (pick_any _ _ _ a l1 c1' _ 23 H.out (by omega) (by omega)).mono ?_
  rintro e w10 ⟨d, d0, d1, rfl, hr, hg, hs⟩
  replace H := Lib.hid hr
  replace G := Lib.hid (grown_new G.out (by omega) hg)
  replace R := Lib.hid (R.out.kept hg (by intro e; have e := Option.some.inj e; omega))
  replace I1 := Lib.hid (I1.out.kept hg (by omega))
  replace I2 := Lib.hid (I2.out.kept hg (by omega))
  replace K := Lib.hid (K.out.kept hg (by intro e; have e := Option.some.inj e; omega))
  replace M := Lib.hid (M.out.kept hg (by omega))
  replace T := Lib.hid (T.out.kept hg (by intro e; have e := Option.some.inj e; omega))
  clear hg
  clear hr
  clear hs
  have kc0 : World.cell? _ ⟨w2.heap.size, 0, none⟩ = some (.int .i64 (need : Int)) := K.out.cell 0
  have kc1 : World.cell? _ ⟨w2.heap.size, 1, none⟩ = some (.int .i64 (many : Int)) := K.out.cell 1
  have kc2 : World.cell? _ ⟨w2.heap.size, 2, none⟩ = some (.slice ag ng cg) := K.out.cell 2
  have kc3 : World.cell? _ ⟨w2.heap.size, 3, none⟩ = some (.slice ac nc cc) := K.out.cell 3
  have tc0 : World.cell? _ ⟨xh, 0, none⟩ = some (.int .i64 ((y2 : Int) + 1)) := T.out.cell 0
  have tc1 : World.cell? _ ⟨xh, 1, none⟩ = some (.int .i64 s2) := T.out.cell 1
  go_wp2_with fail
  refine (spart _ need many _ ng _ zg _ nc _ zc _ _ _ zm ((y2 : Int) + 1) s2 all msg d I1.out.i I2.out.i M.out.i (by omega) (by omega) (by omega)).mono ?_
  rintro e w11 ⟨rfl, hg⟩
  clear kc0 kc1 kc2 kc3 tc0 tc1
  replace G := Lib.hid (gtr G.out hg)
  replace R := Lib.hid (R.out.keptN hg)
  replace I1 := Lib.hid (I1.out.keptN hg)
  replace I2 := Lib.hid (I2.out.keptN hg)
  replace K := Lib.hid (K.out.keptN hg)
  replace M := Lib.hid (M.out.keptN hg)
  replace T := Lib.hid (T.out.keptN hg)
  replace H := Lib.hid (H.out.gN hg)
  clear hg
  unfold spV
  generalize spZ _ _ _ _ _ _ _ _ _ _ _ _ _ = zz
  generalize spOk _ _ _ _ _ _ _ _ _ _ _ _ _ = zb
  go_wp2_with fail
  refine (pick_any _ _ _ a l1 c1' _ 6 H.out (by omega) (by omega)).mono ?_
  rintro e w12 ⟨k, k0, k1, rfl, hr, hg, hs⟩
  replace H := Lib.hid hr
  replace G := Lib.hid (grown_new G.out (by omega) hg)
  replace R := Lib.hid (R.out.kept hg (by intro e; have e := Option.some.inj e; omega))
  replace I1 := Lib.hid (I1.out.kept hg (by omega))
  replace I2 := Lib.hid (I2.out.kept hg (by omega))
  replace K := Lib.hid (K.out.kept hg (by intro e; have e := Option.some.inj e; omega))
  replace M := Lib.hid (M.out.kept hg (by omega))
  replace T := Lib.hid (T.out.kept hg (by intro e; have e := Option.some.inj e; omega))
  clear hg
  clear hr
  clear hs
  rcases (by omega : k = 0 ∨ k = 1 ∨ 2 ≤ k) with rfl | rfl | hk
  · skip
    go_wp2_with fail
    refine (num_any _ _ _ a l1 c1' _ H.out (by omega)).mono ?_
    rintro e w13 ⟨u, _, _, rfl, hg, p13, hp13, hp13', hr⟩
    replace H := Lib.hid hr
    replace G := Lib.hid (grown_new G.out (by omega) hg)
    replace R := Lib.hid (R.out.kept hg (by intro e; have e := Option.some.inj e; omega))
    replace I1 := Lib.hid (I1.out.kept hg (by omega))
    replace I2 := Lib.hid (I2.out.kept hg (by omega))
    replace K := Lib.hid (K.out.kept hg (by intro e; have e := Option.some.inj e; omega))
    replace M := Lib.hid (M.out.kept hg (by omega))
    replace T := Lib.hid (T.out.kept hg (by intro e; have e := Option.some.inj e; omega))
    clear hg
    clear hr
    go_wp2_with fail
    refine wp_region_held_drew (S := (fun w' => w'.cell? ⟨w2.heap.size, 0, none⟩ = some (.int .i64 (need : Int)) ∧ w'.cell? ⟨w2.heap.size, 1, none⟩ = some (.int .i64 (many : Int)) ∧ w'.cell? ⟨w2.heap.size, 2, none⟩ = some (.slice ag ng cg) ∧ w'.cell? ⟨w2.heap.size, 3, none⟩ = some (.slice ac nc cc) ∧ w'.cell? ⟨xh, 0, none⟩ = some (.int .i64 ((y2 : Int) + 1)))) (by kernel_rfl) (⟨K.out.cell 0, K.out.cell 1, K.out.cell 2, K.out.cell 3, T.out.cell 0⟩) (fun hHeld => ?_)
    have hg := gdrew w13
    replace G := Lib.hid (gtr G.out hg)
    replace R := Lib.hid (R.out.keptN hg)
    replace I1 := Lib.hid (I1.out.keptN hg)
    replace I2 := Lib.hid (I2.out.keptN hg)
    replace K := Lib.hid (K.out.keptN hg)
    replace M := Lib.hid (M.out.keptN hg)
    replace T := Lib.hid (T.out.keptN hg)
    replace H := Lib.hid (H.out.gN hg)
    clear hg
    generalize (w13).drew = V7 at *
    refine wpAnyH_take (i := 0) (oi := ⟨some 76, _, _, _, _, _⟩) (v := ?_) rfl (by kernel_rfl) (by kernel_rfl) (by kernel_rfl) (fun _ _ _ h => h) (Or.inl ⟨by rfl, ?_⟩) (by assumption) ?_
    rotate_left
    · intro w hSw; (try dsimp only at hSw); go_simp; try with_reducible rfl
    simp only [Act.put, List.setIfInBounds_toArray, List.set_cons_zero, List.set_cons_succ]
    refine wpAnyH_take (i := 1) (oi := ⟨some 77, _, _, _, _, _⟩) (v := ?_) rfl (by kernel_rfl) (by kernel_rfl) (by kernel_rfl) (fun _ _ _ h => h) (Or.inl ⟨by rfl, ?_⟩) (by assumption) ?_
    rotate_left
    · intro w hSw; (try dsimp only at hSw); go_simp; try with_reducible rfl
    simp only [Act.put, List.setIfInBounds_toArray, List.set_cons_zero, List.set_cons_succ]
    refine wpAnyH_take (i := 2) (oi := ⟨some 78, _, _, _, _, _⟩) (v := ?_) rfl (by kernel_rfl) (by kernel_rfl) (by kernel_rfl) (fun _ _ _ h => h) (Or.inl ⟨by rfl, ?_⟩) (by assumption) ?_
    rotate_left
    · intro w hSw; (try dsimp only at hSw); go_simp; try with_reducible rfl
    simp only [Act.put, List.setIfInBounds_toArray, List.set_cons_zero, List.set_cons_succ]
    refine wpAnyH_take (i := 3) (oi := ⟨some 79, _, _, _, _, _⟩) (v := ?_) rfl (by kernel_rfl) (by kernel_rfl) (by kernel_rfl) (fun _ _ _ h => h) (Or.inl ⟨by rfl, ?_⟩) (by assumption) ?_
    rotate_left
    · intro w hSw; (try dsimp only at hSw); go_simp; try with_reducible rfl
    simp only [Act.put, List.setIfInBounds_toArray, List.set_cons_zero, List.set_cons_succ]
    refine wpAnyH_take (i := 4) (oi := ⟨some 80, _, _, _, _, _⟩) (v := ?_) rfl (by kernel_rfl) (by kernel_rfl) (by kernel_rfl) (fun _ _ _ h => h) (Or.inl ⟨by rfl, ?_⟩) (by assumption) ?_
    rotate_left
    · intro w hSw; (try dsimp only at hSw); go_simp; try with_reducible rfl
    simp only [Act.put, List.setIfInBounds_toArray, List.set_cons_zero, List.set_cons_succ]
    refine wpAnyH_take (i := 6) (oi := ⟨some 82, _, _, _, _, _⟩) (v := ?_) rfl (by kernel_rfl) (by kernel_rfl) (by kernel_rfl) (fun _ _ _ h => h) (Or.inl ⟨by rfl, ?_⟩) (by assumption) ?_
    rotate_left
    · intro w hSw; (try dsimp only at hSw); go_simp; try with_reducible rfl
    simp only [Act.put, List.setIfInBounds_toArray, List.set_cons_zero, List.set_cons_succ]
    refine wpAnyH_take (i := 7) (oi := ⟨some 83, _, _, _, _, _⟩) (v := ?_) rfl (by kernel_rfl) (by kernel_rfl) (by kernel_rfl) (fun _ _ _ h => h) (Or.inl ⟨by rfl, ?_⟩) (by assumption) ?_
    rotate_left
    · intro w hSw; (try dsimp only at hSw); go_simp; try with_reducible rfl
    simp only [Act.put, List.setIfInBounds_toArray, List.set_cons_zero, List.set_cons_succ]
    refine wpAnyH_take (i := 8) (oi := ⟨some 84, _, _, _, _, _⟩) (v := ?_) rfl (by kernel_rfl) (by kernel_rfl) (by kernel_rfl) (fun _ _ _ h => h) (Or.inl ⟨by rfl, ?_⟩) (by assumption) ?_
    rotate_left
    · intro w hSw; (try dsimp only at hSw); go_simp; try with_reducible rfl
    simp only [Act.put, List.setIfInBounds_toArray, List.set_cons_zero, List.set_cons_succ]
    refine wpAnyH_ready (rs := [5]) (by kernel_rfl) (by simp) ?_
    refine AllReadyH.cons (o := ⟨some 81, _, _, _, _, _⟩) rfl (fun Kq hKq => ?_) AllReadyH.nil
    go_simp
    go_at_call 71
    refine (sgof _ _).mono ?_
    rintro e V8 ⟨rfl, rfl⟩
    refine hKq.out _ _ (⟨K.out.cell 0, K.out.cell 1, K.out.cell 2, K.out.cell 3, T.out.cell 0⟩) (fun hHeld => ?_)
    clear hKq Kq
    refine wpAnyH_ready (rs := [9]) (by kernel_rfl) (by simp) ?_
    refine AllReadyH.cons (o := ⟨none, _, _, _, _, _⟩) rfl (fun Kq hKq => ?_) AllReadyH.nil
    rw [if_pos (by rfl)]
    refine wp_store_blk 42 (.tmp 2) (.tmp 76) _ _ _ 42 R.out rfl rfl rfl rfl (by kernel_rfl) (by simp [Value.oneCell']) rfl ?_
    intro V11 hg hT
    replace R := Lib.hid hT
    replace G := Lib.hid (grown_new G.out (by omega) hg)
    replace I1 := Lib.hid (I1.out.kept hg (by omega))
    replace I2 := Lib.hid (I2.out.kept hg (by omega))
    replace K := Lib.hid (K.out.kept hg (by intro e; have e := Option.some.inj e; omega))
    replace M := Lib.hid (M.out.kept hg (by omega))
    replace T := Lib.hid (T.out.kept hg (by intro e; have e := Option.some.inj e; omega))
    replace H := Lib.hid (H.out.grownN hg (by omega) (by omega))
    clear hg
    clear hT
    refine hKq.out _ _ (⟨K.out.cell 0, K.out.cell 1, K.out.cell 2, K.out.cell 3, T.out.cell 0⟩) (fun hHeld => ?_)
    clear hKq Kq
    refine wpAnyH_take (i := 10) (oi := ⟨some 3, _, _, _, _, _⟩) (v := ?_) rfl (by kernel_rfl) (by kernel_rfl) (by kernel_rfl) (fun _ _ _ h => h) (Or.inl ⟨by rfl, ?_⟩) (by assumption) ?_
    rotate_left
    · intro w hSw; (try dsimp only at hSw); go_simp; try with_reducible rfl
    simp only [Act.put, List.setIfInBounds_toArray, List.set_cons_zero, List.set_cons_succ]
    refine wpAnyH_take (i := 11) (oi := ⟨some 4, _, _, _, _, _⟩) (v := ?_) rfl (by kernel_rfl) (by kernel_rfl) (by kernel_rfl) (fun _ _ _ h => h) (Or.inl ⟨by rfl, ?_⟩) (by assumption) ?_
    rotate_left
    · intro w hSw; (try dsimp only at hSw); go_simp; try with_reducible rfl
    simp only [Act.put, List.setIfInBounds_toArray, List.set_cons_zero, List.set_cons_succ]
    refine wpAnyH_take (i := 12) (oi := ⟨some 5, _, _, _, _, _⟩) (v := ?_) rfl (by kernel_rfl) (by kernel_rfl) (by kernel_rfl) (fun _ _ _ h => h) (Or.inl ⟨by rfl, ?_⟩) (by assumption) ?_
    rotate_left
    · intro w hSw; (try dsimp only at hSw); go_simp; try with_reducible rfl
    simp only [Act.put, List.setIfInBounds_toArray, List.set_cons_zero, List.set_cons_succ]
    refine wpAnyH_take (i := 13) (oi := ⟨some 6, _, _, _, _, _⟩) (v := ?_) rfl (by kernel_rfl) (by kernel_rfl) (by kernel_rfl) (fun _ _ _ h => h) (Or.inl ⟨by rfl, ?_⟩) (by assumption) ?_
    rotate_left
    · intro w hSw; (try dsimp only at hSw); go_simp; try with_reducible rfl
    simp only [Act.put, List.setIfInBounds_toArray, List.set_cons_zero, List.set_cons_succ]
    refine wpAnyH_take (i := 14) (oi := ⟨some 7, _, _, _, _, _⟩) (v := ?_) rfl (by kernel_rfl) (by kernel_rfl) (by kernel_rfl) (fun _ _ _ h => h) (Or.inl ⟨by rfl, ?_⟩) (by assumption) ?_
    rotate_left
    · intro w hSw; (try dsimp only at hSw); go_simp; try with_reducible rfl
    simp only [Act.put, List.setIfInBounds_toArray, List.set_cons_zero, List.set_cons_succ]
    refine wpAnyH_take (i := 15) (oi := ⟨some 8, _, _, _, _, _⟩) (v := ?_) rfl (by kernel_rfl) (by kernel_rfl) (by kernel_rfl) (fun _ _ _ h => h) (Or.inl ⟨by rfl, ?_⟩) (by assumption) ?_
    rotate_left
    · intro w hSw; (try dsimp only at hSw); go_simp; try with_reducible rfl
    simp only [Act.put, List.setIfInBounds_toArray, List.set_cons_zero, List.set_cons_succ]
    refine wpAnyH_done (by kernel_rfl) ?_ _
    go_wp2
    (try simp only [Exit.inBlock, Exit.then])
    refine bodyPost_ret (ret_k7 rfl _ rfl R.out) rfl ?_
    exact ⟨need, many, ag, ng, cg, zg, ac, nc, cc, zc, _, _, cm, zm, _, _, _, _, _, rfl, by omega, by omega, by omega, hmc, hcm, I1.out.i, I2.out.i, M.out.i, G.out⟩
  · skip
    go_wp2_with fail
    refine (pick_any _ _ _ a l1 c1' _ 23 H.out (by omega) (by omega)).mono ?_
    rintro e w13 ⟨u, u0, u1, rfl, hr, hg, hs⟩
    replace H := Lib.hid hr
    replace G := Lib.hid (grown_new G.out (by omega) hg)
    replace R := Lib.hid (R.out.kept hg (by intro e; have e := Option.some.inj e; omega))
    replace I1 := Lib.hid (I1.out.kept hg (by omega))
    replace I2 := Lib.hid (I2.out.kept hg (by omega))
    replace K := Lib.hid (K.out.kept hg (by intro e; have e := Option.some.inj e; omega))
    replace M := Lib.hid (M.out.kept hg (by omega))
    replace T := Lib.hid (T.out.kept hg (by intro e; have e := Option.some.inj e; omega))
    clear hg
    clear hr
    clear hs
    go_wp2_with fail
    refine wp_region_held_drew (S := (fun w' => w'.cell? ⟨w2.heap.size, 0, none⟩ = some (.int .i64 (need : Int)) ∧ w'.cell? ⟨w2.heap.size, 1, none⟩ = some (.int .i64 (many : Int)) ∧ w'.cell? ⟨w2.heap.size, 2, none⟩ = some (.slice ag ng cg) ∧ w'.cell? ⟨w2.heap.size, 3, none⟩ = some (.slice ac nc cc) ∧ w'.cell? ⟨xh, 0, none⟩ = some (.int .i64 ((y2 : Int) + 1)))) (by kernel_rfl) (⟨K.out.cell 0, K.out.cell 1, K.out.cell 2, K.out.cell 3, T.out.cell 0⟩) (fun hHeld => ?_)
    have hg := gdrew w13
    replace G := Lib.hid (gtr G.out hg)
    replace R := Lib.hid (R.out.keptN hg)
    replace I1 := Lib.hid (I1.out.keptN hg)
    replace I2 := Lib.hid (I2.out.keptN hg)
    replace K := Lib.hid (K.out.keptN hg)
    replace M := Lib.hid (M.out.keptN hg)
    replace T := Lib.hid (T.out.keptN hg)
    replace H := Lib.hid (H.out.gN hg)
    clear hg
    generalize (w13).drew = V7 at *
    refine wpAnyH_take (i := 0) (oi := ⟨some 76, _, _, _, _, _⟩) (v := ?_) rfl (by kernel_rfl) (by kernel_rfl) (by kernel_rfl) (fun _ _ _ h => h) (Or.inl ⟨by rfl, ?_⟩) (by assumption) ?_
    rotate_left
    · intro w hSw; (try dsimp only at hSw); go_simp; try with_reducible rfl
    simp only [Act.put, List.setIfInBounds_toArray, List.set_cons_zero, List.set_cons_succ]
    refine wpAnyH_take (i := 1) (oi := ⟨some 77, _, _, _, _, _⟩) (v := ?_) rfl (by kernel_rfl) (by kernel_rfl) (by kernel_rfl) (fun _ _ _ h => h) (Or.inl ⟨by rfl, ?_⟩) (by assumption) ?_
    rotate_left
    · intro w hSw; (try dsimp only at hSw); go_simp; try with_reducible rfl
    simp only [Act.put, List.setIfInBounds_toArray, List.set_cons_zero, List.set_cons_succ]
    refine wpAnyH_take (i := 2) (oi := ⟨some 78, _, _, _, _, _⟩) (v := ?_) rfl (by kernel_rfl) (by kernel_rfl) (by kernel_rfl) (fun _ _ _ h => h) (Or.inl ⟨by rfl, ?_⟩) (by assumption) ?_
    rotate_left
    · intro w hSw; (try dsimp only at hSw); go_simp; try with_reducible rfl
    simp only [Act.put, List.setIfInBounds_toArray, List.set_cons_zero, List.set_cons_succ]
    refine wpAnyH_take (i := 3) (oi := ⟨some 79, _, _, _, _, _⟩) (v := ?_) rfl (by kernel_rfl) (by kernel_rfl) (by kernel_rfl) (fun _ _ _ h => h) (Or.inl ⟨by rfl, ?_⟩) (by assumption) ?_
    rotate_left
    · intro w hSw; (try dsimp only at hSw); go_simp; try with_reducible rfl
    simp only [Act.put, List.setIfInBounds_toArray, List.set_cons_zero, List.set_cons_succ]
    refine wpAnyH_take (i := 4) (oi := ⟨some 80, _, _, _, _, _⟩) (v := ?_) rfl (by kernel_rfl) (by kernel_rfl) (by kernel_rfl) (fun _ _ _ h => h) (Or.inl ⟨by rfl, ?_⟩) (by assumption) ?_
    rotate_left
    · intro w hSw; (try dsimp only at hSw); go_simp; try with_reducible rfl
    simp only [Act.put, List.setIfInBounds_toArray, List.set_cons_zero, List.set_cons_succ]
    refine wpAnyH_take (i := 6) (oi := ⟨some 82, _, _, _, _, _⟩) (v := ?_) rfl (by kernel_rfl) (by kernel_rfl) (by kernel_rfl) (fun _ _ _ h => h) (Or.inl ⟨by rfl, ?_⟩) (by assumption) ?_
    rotate_left
    · intro w hSw; (try dsimp only at hSw); go_simp; try with_reducible rfl
    simp only [Act.put, List.setIfInBounds_toArray, List.set_cons_zero, List.set_cons_succ]
    refine wpAnyH_take (i := 7) (oi := ⟨some 83, _, _, _, _, _⟩) (v := ?_) rfl (by kernel_rfl) (by kernel_rfl) (by kernel_rfl) (fun _ _ _ h => h) (Or.inl ⟨by rfl, ?_⟩) (by assumption) ?_
    rotate_left
    · intro w hSw; (try dsimp only at hSw); go_simp; try with_reducible rfl
    simp only [Act.put, List.setIfInBounds_toArray, List.set_cons_zero, List.set_cons_succ]
    refine wpAnyH_take (i := 8) (oi := ⟨some 84, _, _, _, _, _⟩) (v := ?_) rfl (by kernel_rfl) (by kernel_rfl) (by kernel_rfl) (fun _ _ _ h => h) (Or.inl ⟨by rfl, ?_⟩) (by assumption) ?_
    rotate_left
    · intro w hSw; (try dsimp only at hSw); go_simp; try with_reducible rfl
    simp only [Act.put, List.setIfInBounds_toArray, List.set_cons_zero, List.set_cons_succ]
    refine wpAnyH_ready (rs := [5]) (by kernel_rfl) (by simp) ?_
    refine AllReadyH.cons (o := ⟨some 81, _, _, _, _, _⟩) rfl (fun Kq hKq => ?_) AllReadyH.nil
    go_simp
    go_at_call 71
    refine (sgof _ _).mono ?_
    rintro e V8 ⟨rfl, rfl⟩
    refine hKq.out _ _ (⟨K.out.cell 0, K.out.cell 1, K.out.cell 2, K.out.cell 3, T.out.cell 0⟩) (fun hHeld => ?_)
    clear hKq Kq
    refine wpAnyH_ready (rs := [9]) (by kernel_rfl) (by simp) ?_
    refine AllReadyH.cons (o := ⟨none, _, _, _, _, _⟩) rfl (fun Kq hKq => ?_) AllReadyH.nil
    rw [if_pos (by rfl)]
    refine wp_store_blk 42 (.tmp 2) (.tmp 76) _ _ _ 42 R.out rfl rfl rfl rfl (by kernel_rfl) (by simp [Value.oneCell']) rfl ?_
    intro V11 hg hT
    replace R := Lib.hid hT
    replace G := Lib.hid (grown_new G.out (by omega) hg)
    replace I1 := Lib.hid (I1.out.kept hg (by omega))
    replace I2 := Lib.hid (I2.out.kept hg (by omega))
    replace K := Lib.hid (K.out.kept hg (by intro e; have e := Option.some.inj e; omega))
    replace M := Lib.hid (M.out.kept hg (by omega))
    replace T := Lib.hid (T.out.kept hg (by intro e; have e := Option.some.inj e; omega))
    replace H := Lib.hid (H.out.grownN hg (by omega) (by omega))
    clear hg
    clear hT
    refine hKq.out _ _ (⟨K.out.cell 0, K.out.cell 1, K.out.cell 2, K.out.cell 3, T.out.cell 0⟩) (fun hHeld => ?_)
    clear hKq Kq
    refine wpAnyH_take (i := 10) (oi := ⟨some 3, _, _, _, _, _⟩) (v := ?_) rfl (by kernel_rfl) (by kernel_rfl) (by kernel_rfl) (fun _ _ _ h => h) (Or.inl ⟨by rfl, ?_⟩) (by assumption) ?_
    rotate_left
    · intro w hSw; (try dsimp only at hSw); go_simp; try with_reducible rfl
    simp only [Act.put, List.setIfInBounds_toArray, List.set_cons_zero, List.set_cons_succ]
    refine wpAnyH_take (i := 11) (oi := ⟨some 4, _, _, _, _, _⟩) (v := ?_) rfl (by kernel_rfl) (by kernel_rfl) (by kernel_rfl) (fun _ _ _ h => h) (Or.inl ⟨by rfl, ?_⟩) (by assumption) ?_
    rotate_left
    · intro w hSw; (try dsimp only at hSw); go_simp; try with_reducible rfl
    simp only [Act.put, List.setIfInBounds_toArray, List.set_cons_zero, List.set_cons_succ]
    refine wpAnyH_take (i := 12) (oi := ⟨some 5, _, _, _, _, _⟩) (v := ?_) rfl (by kernel_rfl) (by kernel_rfl) (by kernel_rfl) (fun _ _ _ h => h) (Or.inl ⟨by rfl, ?_⟩) (by assumption) ?_
    rotate_left
    · intro w hSw; (try dsimp only at hSw); go_simp; try with_reducible rfl
    simp only [Act.put, List.setIfInBounds_toArray, List.set_cons_zero, List.set_cons_succ]
    refine wpAnyH_take (i := 13) (oi := ⟨some 6, _, _, _, _, _⟩) (v := ?_) rfl (by kernel_rfl) (by kernel_rfl) (by kernel_rfl) (fun _ _ _ h => h) (Or.inl ⟨by rfl, ?_⟩) (by assumption) ?_
    rotate_left
    · intro w hSw; (try dsimp only at hSw); go_simp; try with_reducible rfl
    simp only [Act.put, List.setIfInBounds_toArray, List.set_cons_zero, List.set_cons_succ]
    refine wpAnyH_take (i := 14) (oi := ⟨some 7, _, _, _, _, _⟩) (v := ?_) rfl (by kernel_rfl) (by kernel_rfl) (by kernel_rfl) (fun _ _ _ h => h) (Or.inl ⟨by rfl, ?_⟩) (by assumption) ?_
    rotate_left
    · intro w hSw; (try dsimp only at hSw); go_simp; try with_reducible rfl
    simp only [Act.put, List.setIfInBounds_toArray, List.set_cons_zero, List.set_cons_succ]
    refine wpAnyH_take (i := 15) (oi := ⟨some 8, _, _, _, _, _⟩) (v := ?_) rfl (by kernel_rfl) (by kernel_rfl) (by kernel_rfl) (fun _ _ _ h => h) (Or.inl ⟨by rfl, ?_⟩) (by assumption) ?_
    rotate_left
    · intro w hSw; (try dsimp only at hSw); go_simp; try with_reducible rfl
    simp only [Act.put, List.setIfInBounds_toArray, List.set_cons_zero, List.set_cons_succ]
    refine wpAnyH_done (by kernel_rfl) ?_ _
    go_wp2
    (try simp only [Exit.inBlock, Exit.then])
    refine bodyPost_ret (ret_k7 rfl _ rfl R.out) rfl ?_
    exact ⟨need, many, ag, ng, cg, zg, ac, nc, cc, zc, _, _, cm, zm, _, _, _, _, _, rfl, by omega, by omega, by omega, hmc, hcm, I1.out.i, I2.out.i, M.out.i, G.out⟩
  · skip
    have q0 : (k == 0) = false := by simp; omega
    have q1 : (k == 1) = false := by simp; omega
    go_wp2_with fail
    refine wp_region_held_drew (S := (fun w' => w'.cell? ⟨w2.heap.size, 0, none⟩ = some (.int .i64 (need : Int)) ∧ w'.cell? ⟨w2.heap.size, 1, none⟩ = some (.int .i64 (many : Int)) ∧ w'.cell? ⟨w2.heap.size, 2, none⟩ = some (.slice ag ng cg) ∧ w'.cell? ⟨w2.heap.size, 3, none⟩ = some (.slice ac nc cc) ∧ w'.cell? ⟨xh, 0, none⟩ = some (.int .i64 ((y2 : Int) + 1)))) (by kernel_rfl) (⟨K.out.cell 0, K.out.cell 1, K.out.cell 2, K.out.cell 3, T.out.cell 0⟩) (fun hHeld => ?_)
    have hg := gdrew w12
    replace G := Lib.hid (gtr G.out hg)
    replace R := Lib.hid (R.out.keptN hg)
    replace I1 := Lib.hid (I1.out.keptN hg)
    replace I2 := Lib.hid (I2.out.keptN hg)
    replace K := Lib.hid (K.out.keptN hg)
    replace M := Lib.hid (M.out.keptN hg)
    replace T := Lib.hid (T.out.keptN hg)
    replace H := Lib.hid (H.out.gN hg)
    clear hg
    generalize (w12).drew = V7 at *
    refine wpAnyH_take (i := 0) (oi := ⟨some 76, _, _, _, _, _⟩) (v := ?_) rfl (by kernel_rfl) (by kernel_rfl) (by kernel_rfl) (fun _ _ _ h => h) (Or.inl ⟨by rfl, ?_⟩) (by assumption) ?_
    rotate_left
    · intro w hSw; (try dsimp only at hSw); go_simp; try with_reducible rfl
    simp only [Act.put, List.setIfInBounds_toArray, List.set_cons_zero, List.set_cons_succ]
    refine wpAnyH_take (i := 1) (oi := ⟨some 77, _, _, _, _, _⟩) (v := ?_) rfl (by kernel_rfl) (by kernel_rfl) (by kernel_rfl) (fun _ _ _ h => h) (Or.inl ⟨by rfl, ?_⟩) (by assumption) ?_
    rotate_left
    · intro w hSw; (try dsimp only at hSw); go_simp; try with_reducible rfl
    simp only [Act.put, List.setIfInBounds_toArray, List.set_cons_zero, List.set_cons_succ]
    refine wpAnyH_take (i := 2) (oi := ⟨some 78, _, _, _, _, _⟩) (v := ?_) rfl (by kernel_rfl) (by kernel_rfl) (by kernel_rfl) (fun _ _ _ h => h) (Or.inl ⟨by rfl, ?_⟩) (by assumption) ?_
    rotate_left
    · intro w hSw; (try dsimp only at hSw); go_simp; try with_reducible rfl
    simp only [Act.put, List.setIfInBounds_toArray, List.set_cons_zero, List.set_cons_succ]
    refine wpAnyH_take (i := 3) (oi := ⟨some 79, _, _, _, _, _⟩) (v := ?_) rfl (by kernel_rfl) (by kernel_rfl) (by kernel_rfl) (fun _ _ _ h => h) (Or.inl ⟨by rfl, ?_⟩) (by assumption) ?_
    rotate_left
    · intro w hSw; (try dsimp only at hSw); go_simp; try with_reducible rfl
    simp only [Act.put, List.setIfInBounds_toArray, List.set_cons_zero, List.set_cons_succ]
    refine wpAnyH_take (i := 4) (oi := ⟨some 80, _, _, _, _, _⟩) (v := ?_) rfl (by kernel_rfl) (by kernel_rfl) (by kernel_rfl) (fun _ _ _ h => h) (Or.inl ⟨by rfl, ?_⟩) (by assumption) ?_
    rotate_left
    · intro w hSw; (try dsimp only at hSw); go_simp; try with_reducible rfl
    simp only [Act.put, List.setIfInBounds_toArray, List.set_cons_zero, List.set_cons_succ]
    refine wpAnyH_take (i := 6) (oi := ⟨some 82, _, _, _, _, _⟩) (v := ?_) rfl (by kernel_rfl) (by kernel_rfl) (by kernel_rfl) (fun _ _ _ h => h) (Or.inl ⟨by rfl, ?_⟩) (by assumption) ?_
    rotate_left
    · intro w hSw; (try dsimp only at hSw); go_simp; try with_reducible rfl
    simp only [Act.put, List.setIfInBounds_toArray, List.set_cons_zero, List.set_cons_succ]
    refine wpAnyH_take (i := 7) (oi := ⟨some 83, _, _, _, _, _⟩) (v := ?_) rfl (by kernel_rfl) (by kernel_rfl) (by kernel_rfl) (fun _ _ _ h => h) (Or.inl ⟨by rfl, ?_⟩) (by assumption) ?_
    rotate_left
    · intro w hSw; (try dsimp only at hSw); go_simp; try with_reducible rfl
    simp only [Act.put, List.setIfInBounds_toArray, List.set_cons_zero, List.set_cons_succ]
    refine wpAnyH_take (i := 8) (oi := ⟨some 84, _, _, _, _, _⟩) (v := ?_) rfl (by kernel_rfl) (by kernel_rfl) (by kernel_rfl) (fun _ _ _ h => h) (Or.inl ⟨by rfl, ?_⟩) (by assumption) ?_
    rotate_left
    · intro w hSw; (try dsimp only at hSw); go_simp; try with_reducible rfl
    simp only [Act.put, List.setIfInBounds_toArray, List.set_cons_zero, List.set_cons_succ]
    refine wpAnyH_ready (rs := [5]) (by kernel_rfl) (by simp) ?_
    refine AllReadyH.cons (o := ⟨some 81, _, _, _, _, _⟩) rfl (fun Kq hKq => ?_) AllReadyH.nil
    go_simp
    go_at_call 71
    refine (sgof _ _).mono ?_
    rintro e V8 ⟨rfl, rfl⟩
    refine hKq.out _ _ (⟨K.out.cell 0, K.out.cell 1, K.out.cell 2, K.out.cell 3, T.out.cell 0⟩) (fun hHeld => ?_)
    clear hKq Kq
    refine wpAnyH_ready (rs := [9]) (by kernel_rfl) (by simp) ?_
    refine AllReadyH.cons (o := ⟨none, _, _, _, _, _⟩) rfl (fun Kq hKq => ?_) AllReadyH.nil
    rw [if_pos (by rfl)]
    refine wp_store_blk 42 (.tmp 2) (.tmp 76) _ _ _ 42 R.out rfl rfl rfl rfl (by kernel_rfl) (by simp [Value.oneCell']) rfl ?_
    intro V11 hg hT
    replace R := Lib.hid hT
    replace G := Lib.hid (grown_new G.out (by omega) hg)
    replace I1 := Lib.hid (I1.out.kept hg (by omega))
    replace I2 := Lib.hid (I2.out.kept hg (by omega))
    replace K := Lib.hid (K.out.kept hg (by intro e; have e := Option.some.inj e; omega))
    replace M := Lib.hid (M.out.kept hg (by omega))
    replace T := Lib.hid (T.out.kept hg (by intro e; have e := Option.some.inj e; omega))
    replace H := Lib.hid (H.out.grownN hg (by omega) (by omega))
    clear hg
    clear hT
    refine hKq.out _ _ (⟨K.out.cell 0, K.out.cell 1, K.out.cell 2, K.out.cell 3, T.out.cell 0⟩) (fun hHeld => ?_)
    clear hKq Kq
    refine wpAnyH_take (i := 10) (oi := ⟨some 3, _, _, _, _, _⟩) (v := ?_) rfl (by kernel_rfl) (by kernel_rfl) (by kernel_rfl) (fun _ _ _ h => h) (Or.inl ⟨by rfl, ?_⟩) (by assumption) ?_
    rotate_left
    · intro w hSw; (try dsimp only at hSw); go_simp; try with_reducible rfl
    simp only [Act.put, List.setIfInBounds_toArray, List.set_cons_zero, List.set_cons_succ]
    refine wpAnyH_take (i := 11) (oi := ⟨some 4, _, _, _, _, _⟩) (v := ?_) rfl (by kernel_rfl) (by kernel_rfl) (by kernel_rfl) (fun _ _ _ h => h) (Or.inl ⟨by rfl, ?_⟩) (by assumption) ?_
    rotate_left
    · intro w hSw; (try dsimp only at hSw); go_simp; try with_reducible rfl
    simp only [Act.put, List.setIfInBounds_toArray, List.set_cons_zero, List.set_cons_succ]
    refine wpAnyH_take (i := 12) (oi := ⟨some 5, _, _, _, _, _⟩) (v := ?_) rfl (by kernel_rfl) (by kernel_rfl) (by kernel_rfl) (fun _ _ _ h => h) (Or.inl ⟨by rfl, ?_⟩) (by assumption) ?_
    rotate_left
    · intro w hSw; (try dsimp only at hSw); go_simp; try with_reducible rfl
    simp only [Act.put, List.setIfInBounds_toArray, List.set_cons_zero, List.set_cons_succ]
    refine wpAnyH_take (i := 13) (oi := ⟨some 6, _, _, _, _, _⟩) (v := ?_) rfl (by kernel_rfl) (by kernel_rfl) (by kernel_rfl) (fun _ _ _ h => h) (Or.inl ⟨by rfl, ?_⟩) (by assumption) ?_
    rotate_left
    · intro w hSw; (try dsimp only at hSw); go_simp; try with_reducible rfl
    simp only [Act.put, List.setIfInBounds_toArray, List.set_cons_zero, List.set_cons_succ]
    refine wpAnyH_take (i := 14) (oi := ⟨some 7, _, _, _, _, _⟩) (v := ?_) rfl (by kernel_rfl) (by kernel_rfl) (by kernel_rfl) (fun _ _ _ h => h) (Or.inl ⟨by rfl, ?_⟩) (by assumption) ?_
    rotate_left
    · intro w hSw; (try dsimp only at hSw); go_simp; try with_reducible rfl
    simp only [Act.put, List.setIfInBounds_toArray, List.set_cons_zero, List.set_cons_succ]
    refine wpAnyH_take (i := 15) (oi := ⟨some 8, _, _, _, _, _⟩) (v := ?_) rfl (by kernel_rfl) (by kernel_rfl) (by kernel_rfl) (fun _ _ _ h => h) (Or.inl ⟨by rfl, ?_⟩) (by assumption) ?_
    rotate_left
    · intro w hSw; (try dsimp only at hSw); go_simp; try with_reducible rfl
    simp only [Act.put, List.setIfInBounds_toArray, List.set_cons_zero, List.set_cons_succ]
    refine wpAnyH_done (by kernel_rfl) ?_ _
    go_wp2
    (try simp only [Exit.inBlock, Exit.then])
    refine bodyPost_ret (ret_k7 rfl _ rfl R.out) rfl ?_
    exact ⟨need, many, ag, ng, cg, zg, ac, nc, cc, zc, _, _, cm, zm, _, _, _, _, _, rfl, by omega, by omega, by omega, hmc, hcm, I1.out.i, I2.out.i, M.out.i, G.out⟩
end Draw
end Go.Proofs.Ytpeofoabhjebbaa
