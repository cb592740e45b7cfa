/-
  Draws of sessions for the laws: the session whose last signer may be another.
-/
import Derived.Test.YteibklnonlapoaaUg
namespace Go.Proofs.Yteibklnonlapoaa
namespace Draw
open Go.RowKit Alg Mem Con Mp Hd
set_option linter.unusedVariables false

set_option maxRecDepth 100000 in
set_option maxHeartbeats 4000000 in
theorem drawSesOk (w : World) (a : Option Addr) (len cap : Nat) (hB : Bytes w w.heap.size a len) (hc : len ≤ cap) (hm : cap ≤ maxLen) :
    Calls Try.prog 41 #[.slice a len cap] w (GotSn w) := by
  have hs0 : (w.alloc (.cells #[.int .i64 0, .int .i64 0, .slice none 0 0, .slice none 0 0, .int .i64 0, .slice none 0 0] 48)).heap.size = w.heap.size + 1 := by show (w.heap.push _).size = _; simp
  have G := Lib.hid (grown_alloc w (.cells #[.int .i64 0, .int .i64 0, .slice none 0 0, .slice none 0 0, .int .i64 0, .slice none 0 0] 48) none)
  have HB := Lib.hid (hB.kept (w' := w.alloc (.cells #[.int .i64 0, .int .i64 0, .slice none 0 0, .slice none 0 0, .int .i64 0, .slice none 0 0] 48)) (fun k hk => Below.heap_alloc _ _ _ hk))
  have R := Lib.hid (Blk.new w #[.int .i64 0, .int .i64 0, .slice none 0 0, .slice none 0 0, .int .i64 0, .slice none 0 0] 48)
  clear hB
  go_enter Try.func41, Try.ntmps41
  go_wp2_with fail
  refine (open_any _ w.heap.size a len cap HB.out (by omega) hc hm).mono ?_
  rintro e w1 ⟨rfl, hg, hs1, l1, c1', hr1⟩
  rw [hs0] at hr1 hs1
  have H := Lib.hid hr1
  replace G := Lib.hid (gtr G.out hg)
  replace R := Lib.hid (R.out.keptN hg)
  clear hg
  have hw1 : w.heap.size + 1 < w1.heap.size := by omega
  clear hr1 hs1 HB hs0
  go_wp2_with fail
  refine (sess_any _ _ _ a l1 c1' 0 H.out (by omega)).mono ?_
  rintro e w2 ⟨need, many, ag, ng, cg, zg, ac, nc, cc, zc, msg, a3, n, c3, S, rfl, hq1, hq2, hq3, hbd, hg, p2, hp2, hp2', hr⟩
  have I1 := Lib.hid hq1; have I2 := Lib.hid hq2; have O := Lib.hid hq3
  have hw2 := hg.size
  replace H := Lib.hid hr
  replace G := Lib.hid (grown_new G.out (by omega) hg)
  replace R := Lib.hid (R.out.kept hg (by intro e; have e := Option.some.inj e; omega))
  clear hg
  clear hr
  clear hq1 hq2 hq3
  have hne : ∀ g, (some w.heap.size : Option Nat) = some g → g < w1.heap.size := fun g e => by have e := Option.some.inj e; omega
  go_wp2_with (refine stop_store rfl ?_)
  refine ⟨trivial, ?_⟩
  refine wpList_store_blk rfl 48 (.tmp 4) (.tmp 8) _ #[.int .i64 need, .int .i64 many, .slice ag ng cg, .slice ac nc cc, .int .i64 msg, .slice a3 n c3] _ 48 (Blk.new w2 #[.int .i64 0, .int .i64 0, .slice none 0 0, .slice none 0 0, .int .i64 0, .slice none 0 0] 48) rfl rfl rfl rfl (by kernel_rfl) (by simp [Value.oneCell']) rfl ?_
  intro w3 hgV hTV
  have hg : w2.grownBy w3 none := grown_new (grown_alloc w2 (.cells #[.int .i64 0, .int .i64 0, .slice none 0 0, .slice none 0 0, .int .i64 0, .slice none 0 0] 48) none) (Nat.le_refl _) hgV
  have T := Lib.hid hTV
  clear hgV hTV
  replace G := Lib.hid (gtr G.out hg)
  replace R := Lib.hid (R.out.keptN hg)
  replace H := Lib.hid (H.out.gN hg)
  replace I1 := Lib.hid (I1.out.kept hg (fun g e => by cases e))
  replace I2 := Lib.hid (I2.out.kept hg (fun g e => by cases e))
  replace O := Lib.hid (O.out.kept hg (fun g e => by cases e))
  clear hg
  have htb : w1.heap.size ≤ w2.heap.size := hw2
  clear hw2
  generalize w2.heap.size = tb at *
  go_wp2_with fail
  refine (pick_any _ _ _ a l1 c1' _ 6 H.out (by omega) (by omega)).mono ?_
  rintro e w4 ⟨x, x0, x1, rfl, hr, hg, hs⟩
  replace H := Lib.hid hr
  replace G := Lib.hid (grown_new G.out (by omega) hg)
  replace R := Lib.hid (R.out.kept hg (by intro e; have e := Option.some.inj e; omega))
  replace I1 := Lib.hid (I1.out.kept hg (fun g e => by have e := Option.some.inj e; omega))
  replace I2 := Lib.hid (I2.out.kept hg (fun g e => by have e := Option.some.inj e; omega))
  replace O := Lib.hid (O.out.kept hg (fun g e => by have e := Option.some.inj e; omega))
  replace T := Lib.hid (T.out.kept hg (by intro e; have e := Option.some.inj e; omega))
  clear hg
  clear hr
  clear hs
  rcases (by omega : x = 0 ∨ 1 ≤ x) with rfl | hx
  · by_cases hn : n = 0
    · subst hn
      obtain ⟨t5⟩ : w4.cell? ⟨tb, 5, none⟩ = some (.slice a3 0 c3) ∧ True := ⟨T.out.cell 5, trivial⟩
      obtain ⟨t0, t1, t2, t3, t4, t5, _, _, _, _, _, _⟩ := T.out.all6
      go_wp2_with (first
        | (refine wpList_store_blk rfl 48 (.tmp 2) (.tmp 28) _ _ _ 48 R.out rfl rfl rfl rfl (by kernel_rfl) (by simp [Value.oneCell']) rfl ?_; intro V hgV hRV; have HGV := Lib.hid hgV; have HRV := Lib.hid hRV; clear hgV hRV))
      (try simp only [Exit.inBlock, Exit.then])
      refine bodyPost_ret (ret_ses rfl _ rfl HRV.out) rfl ?_
      exact ⟨need, many, ag, ng, cg, zg, ac, nc, cc, zc, msg, _, _, c3, _, rfl, (I1.out.kept HGV.out hne).lower (by omega), (I2.out.kept HGV.out hne).lower (by omega), (O.out.kept HGV.out hne).lower (by omega), hbd, grown_new G.out (Nat.le_refl _) HGV.out⟩
    · obtain ⟨b3, rfl, hnc⟩ := own_ptr O.out (by omega)
      have hnp : (0 : Int) < (n : Int) := by omega
      have t5 : w4.cell? ⟨tb, 5, none⟩ = some (.slice (some ⟨b3, 0, none⟩) n c3) := T.out.cell 5
      go_wp2_with fail
      clear t5
      have hnn : n - 1 < n := by omega
      have hsub : (n : Int) - 1 = ((n - 1 : Nat) : Int) := by omega
      have hwm : IntKind.i64.wrap ((n : Int) - 1) = ((n - 1 : Nat) : Int) := by rw [IntKind.wrap_i64]; omega
      have hwm2 : IntKind.i64.wrap ((n - 1 : Nat) : Int) = ((n - 1 : Nat) : Int) := by rw [IntKind.wrap_i64]; omega
      have hlo := (World.ownsRow.lt O.out b3 rfl).1
      have HNE := Lib.hid (show ¬ tb = b3 from fun e => own_ne_b O.out T.out (by decide) (by rw [e]; rfl))
      refine wp_region_held_drew (S := (fun w' => w'.cell? ⟨tb, 5, none⟩ = some (.slice (some ⟨b3, 0, none⟩) n c3))) (by kernel_rfl) (T.out.cell 5) (fun hHeld => ?_)
      have hg := Draw.gdrew w4
      replace G := Lib.hid (gtr G.out hg)
      replace R := Lib.hid (R.out.keptN hg)
      replace I1 := Lib.hid (I1.out.kept hg (fun g e => by cases e))
      replace I2 := Lib.hid (I2.out.kept hg (fun g e => by cases e))
      replace O := Lib.hid (O.out.kept hg (fun g e => by cases e))
      replace T := Lib.hid (T.out.keptN hg)
      replace H := Lib.hid (H.out.gN hg)
      clear hg
      generalize (w4).drew = V7 at *
      refine wpAnyH_take (i := 0) (oi := ⟨some 18, _, _, _, _, _⟩) (v := ?_) rfl (by kernel_rfl) (by kernel_rfl) (by kernel_rfl) (fun _ _ _ h => h) (Or.inl ⟨by rfl, ?_⟩) (by assumption) ?_
      rotate_left
      · intro w hSw; (try dsimp only at hSw); go_simp; try with_reducible rfl
      simp only [Act.put, List.setIfInBounds_toArray, List.set_cons_zero, List.set_cons_succ]
      refine wpAnyH_take (i := 1) (oi := ⟨some 19, _, _, _, _, _⟩) (v := ?_) rfl (by kernel_rfl) (by kernel_rfl) (by kernel_rfl) (fun _ _ _ h => h) (Or.inl ⟨by rfl, ?_⟩) (by assumption) ?_
      rotate_left
      · intro w hSw; (try dsimp only at hSw); go_simp; try with_reducible rfl
      simp only [Act.put, List.setIfInBounds_toArray, List.set_cons_zero, List.set_cons_succ]
      refine wpAnyH_take (i := 2) (oi := ⟨some 20, _, _, _, _, _⟩) (v := ?_) rfl (by kernel_rfl) (by kernel_rfl) (by kernel_rfl) (fun _ _ _ h => h) (Or.inl ⟨by rfl, ?_⟩) (by assumption) ?_
      rotate_left
      · intro w hSw; (try dsimp only at hSw); go_simp; try with_reducible rfl
      simp only [Act.put, List.setIfInBounds_toArray, List.set_cons_zero, List.set_cons_succ]
      refine wpAnyH_take (i := 3) (oi := ⟨some 21, _, _, _, _, _⟩) (v := ?_) rfl (by kernel_rfl) (by kernel_rfl) (by kernel_rfl) (fun _ _ _ h => h) (Or.inl ⟨by rfl, ?_⟩) (by assumption) ?_
      rotate_left
      · intro w hSw; (try dsimp only at hSw); go_simp; try with_reducible rfl
      simp only [Act.put, List.setIfInBounds_toArray, List.set_cons_zero, List.set_cons_succ]
      refine wpAnyH_take (i := 4) (oi := ⟨some 22, _, _, _, _, _⟩) (v := ?_) rfl (by kernel_rfl) (by kernel_rfl) (by kernel_rfl) (fun _ _ _ h => h) (Or.inl ⟨by rfl, ?_⟩) (by assumption) ?_
      rotate_left
      · intro w hSw; (try dsimp only at hSw); go_simp; try with_reducible rfl
      simp only [Act.put, List.setIfInBounds_toArray, List.set_cons_zero, List.set_cons_succ]
      refine wpAnyH_take (i := 5) (oi := ⟨some 23, _, _, _, _, _⟩) (v := ?_) rfl (by kernel_rfl) (by kernel_rfl) (by kernel_rfl) (fun _ _ _ h => h) (Or.inl ⟨by rfl, ?_⟩) (by assumption) ?_
      rotate_left
      · intro w hSw; (try dsimp only at hSw); go_simp; try with_reducible rfl
      simp only [Act.put, List.setIfInBounds_toArray, List.set_cons_zero, List.set_cons_succ]
      refine wpAnyH_take (i := 6) (oi := ⟨some 24, _, _, _, _, _⟩) (v := ?_) rfl (by kernel_rfl) (by kernel_rfl) (by kernel_rfl) (fun _ _ _ h => h) (Or.inl ⟨by rfl, ?_⟩) (by assumption) ?_
      rotate_left
      · intro w hSw; (try dsimp only at hSw); go_simp; try with_reducible rfl
      simp only [Act.put, List.setIfInBounds_toArray, List.set_cons_zero, List.set_cons_succ]
      refine wpAnyH_ready (rs := [7]) (by kernel_rfl) (by simp) ?_
      refine AllReadyH.cons (o := ⟨some 25, _, _, _, _, _⟩) rfl (fun Kq hKq => ?_) AllReadyH.nil
      go_simp
      go_at_call 67
      refine (pick_any _ _ _ a l1 c1' _ 7 H.out (by omega) (by omega)).mono ?_
      rintro e V8 ⟨u, u0, u1, rfl, hr, hg, hs⟩
      replace H := Lib.hid hr
      replace G := Lib.hid (grown_new G.out (by omega) hg)
      replace R := Lib.hid (R.out.kept hg (by intro e; have e := Option.some.inj e; omega))
      replace I1 := Lib.hid (I1.out.kept hg (fun g e => by have e := Option.some.inj e; omega))
      replace I2 := Lib.hid (I2.out.kept hg (fun g e => by have e := Option.some.inj e; omega))
      replace O := Lib.hid (O.out.kept hg (fun g e => by have e := Option.some.inj e; omega))
      replace T := Lib.hid (T.out.kept hg (by intro e; have e := Option.some.inj e; omega))
      clear hg
      clear hr
      clear hs
      refine hKq.out _ _ (T.out.cell 5) (fun hHeld => ?_)
      clear hKq Kq
      refine wpAnyH_take (i := 8) (oi := ⟨some 26, _, _, _, _, _⟩) (v := ?_) rfl (by kernel_rfl) (by kernel_rfl) (by kernel_rfl) (fun _ _ _ h => h) (Or.inl ⟨by rfl, ?_⟩) (by assumption) ?_
      rotate_left
      · intro w hSw; (try dsimp only at hSw); go_simp; try with_reducible rfl
      simp only [Act.put, List.setIfInBounds_toArray, List.set_cons_zero, List.set_cons_succ]
      refine wpAnyH_take (i := 9) (oi := ⟨some 27, _, _, _, _, _⟩) (v := ?_) rfl (by kernel_rfl) (by kernel_rfl) (by kernel_rfl) (fun _ _ _ h => h) (Or.inl ⟨by rfl, ?_⟩) (by assumption) ?_
      rotate_left
      · intro w hSw; (try dsimp only at hSw); go_simp; try with_reducible rfl
      simp only [Act.put, List.setIfInBounds_toArray, List.set_cons_zero, List.set_cons_succ]
      have c1 : V8.cell? ⟨b3, (n - 1) * 4, none⟩ = some (.int .i64 (S (n - 1)).m) := (World.ownsRow.cellAt O.out ((n - 1) * 4 + 0) (by omega)).trans (cellsS_at S (show n - 1 < n by omega) (show 0 < 4 by omega))
      have f1 : V8.frozen? ⟨b3, (n - 1) * 4, none⟩ = false := World.ownsRow.frozenAt O.out ((n - 1) * 4)
      refine wpAnyH_ready (rs := [10]) (by kernel_rfl) (by simp) ?_
      refine AllReadyH.cons (o := ⟨none, _, _, _, _, _⟩) rfl (fun Kq hKq => ?_) AllReadyH.nil
      go_simp
      clear c1 f1
      have hg := grown_set V8 b3 ((n - 1) * 4) (.int .i64 u)
      have O' : OwnSh (V8.setCell ⟨b3, (n - 1) * 4, none⟩ (.int .i64 u)) w1.heap.size (.slice (some ⟨b3, 0, none⟩) n c3) n (fun t => if t = n - 1 then (⟨u, (S t).R, (S t).on, (S t).Z⟩ : SV) else S t) := own_upd O.out (fun s => (⟨u, s.R, s.on, s.Z⟩ : SV)) (k := n - 1) (i := 0) (v := .int .i64 u) (by omega) (by omega) rfl
      have I1' := I1.out.keptT (own_tyd O.out) (by decide) hg; have I2' := I2.out.keptT (own_tyd O.out) (by decide) hg
      have T' := T.out.kept hg (fun e => HNE.out (Option.some.inj e))
      have R' := R.out.kept hg (by intro e; have e := Option.some.inj e; omega)
      have G' := grown_new G.out (by omega) hg
      clear O I1 I2 T R G hg
      generalize V8.setCell ⟨b3, (n - 1) * 4, none⟩ (.int .i64 u) = V9 at *
      have O := Lib.hid O'; have I1 := Lib.hid I1'; have I2 := Lib.hid I2'; have T := Lib.hid T'; have R := Lib.hid R'; have G := Lib.hid G'
      clear O' I1' I2' T' R' G'
      refine hKq.out _ _ (T.out.cell 5) (fun hHeld => ?_)
      clear hKq Kq
      refine wpAnyH_done (by kernel_rfl) ?_ _
      obtain ⟨t0, t1, t2, t3, t4, t5, _, _, _, _, _, _⟩ := T.out.all6
      go_wp2_with (first
        | (refine wpList_store_blk rfl 48 (.tmp 2) (.tmp 28) _ _ _ 48 R.out rfl rfl rfl rfl (by kernel_rfl) (by simp [Value.oneCell']) rfl ?_; intro V hgV hRV; have HGV := Lib.hid hgV; have HRV := Lib.hid hRV; clear hgV hRV))
      (try simp only [Exit.inBlock, Exit.then])
      refine bodyPost_ret (ret_ses rfl _ rfl HRV.out) rfl ?_
      exact ⟨need, many, ag, ng, cg, zg, ac, nc, cc, zc, msg, _, _, c3, _, rfl, (I1.out.kept HGV.out hne).lower (by omega), (I2.out.kept HGV.out hne).lower (by omega), (O.out.kept HGV.out hne).lower (by omega), hbd, grown_new G.out (Nat.le_refl _) HGV.out⟩
  · have q0 : (x == 0) = false := by simp; omega
    obtain ⟨t0, t1, t2, t3, t4, t5, _, _, _, _, _, _⟩ := T.out.all6
    go_wp2_with (first
      | (refine wpList_store_blk rfl 48 (.tmp 2) (.tmp 28) _ _ _ 48 R.out rfl rfl rfl rfl (by kernel_rfl) (by simp [Value.oneCell']) rfl ?_; intro V hgV hRV; have HGV := Lib.hid hgV; have HRV := Lib.hid hRV; clear hgV hRV))
    (try simp only [Exit.inBlock, Exit.then])
    refine bodyPost_ret (ret_ses rfl _ rfl HRV.out) rfl ?_
    exact ⟨need, many, ag, ng, cg, zg, ac, nc, cc, zc, msg, _, _, c3, _, rfl, (I1.out.kept HGV.out hne).lower (by omega), (I2.out.kept HGV.out hne).lower (by omega), (O.out.kept HGV.out hne).lower (by omega), hbd, grown_new G.out (Nat.le_refl _) HGV.out⟩
end Draw
end Go.Proofs.Yteibklnonlapoaa
