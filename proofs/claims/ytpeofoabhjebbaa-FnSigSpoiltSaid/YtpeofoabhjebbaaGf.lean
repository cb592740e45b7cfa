/-
  How the model draws a signature.
-/
import Derived.Test.YtpeofoabhjebbaaGd
namespace Go.Proofs.Ytpeofoabhjebbaa
namespace Draw
open Go.RowKit Alg Mem Con Mp
set_option linter.unusedVariables false

def GotSg (w : World) (e : Ending) (w' : World) : Prop :=
  ∃ pub msg R Z : Int, e = .returned (.tuple #[.int .i64 pub, .int .i64 msg, .agg #[.int .i64 R, .int .i64 Z]]) ∧ w.grownBy w' none
theorem ret_iis {fn : Func} {p q u : Tmp} (h : fn.results = #[.tmp p, .tmp q, .cell u 29]) (tmps : Array Value) {w : World} {b : Nat} {v0 v1 : Value} {T : TypeId} (hp : tmps.getD u undef = .pointer (some ⟨b, 0, none⟩)) (hb : Blk w b #[v0, v1] T) :
    (results fn tmps).run Try.prog w = .ok (.tuple #[tmps.getD p undef, tmps.getD q undef, .agg #[v0, v1]]) w := by
  have hp' : tmps[u]?.getD undef = .pointer (some ⟨b, 0, none⟩) := by simpa using hp
  simp [results, h, hp', asAddr, run_loadVar_row w b T 29 #[v0, v1] (0, 0) _ hb Try.underlying29 rfl size_sig, Result.andThen]
set_option maxRecDepth 100000 in
set_option maxHeartbeats 4000000 in
theorem drawSig (w : World) (a : Option Addr) (len cap : Nat) (hB : Bytes w w.heap.size a len) (hc : len ≤ cap) (hm : cap ≤ maxLen) :
    Calls Try.prog 29 #[.slice a len cap] w (GotSg w) := by
  have hs0 : (w.alloc (.cells #[.int .i64 0, .int .i64 0] 29)).heap.size = w.heap.size + 1 := by show (w.heap.push _).size = _; simp
  have G := Lib.hid (grown_alloc w (.cells #[.int .i64 0, .int .i64 0] 29) none)
  have HB := Lib.hid (hB.kept (w' := w.alloc (.cells #[.int .i64 0, .int .i64 0] 29)) (fun k hk => Below.heap_alloc _ _ _ hk))
  have R := Lib.hid (Blk.new w #[.int .i64 0, .int .i64 0] 29)
  clear hB
  go_enter Try.func29, Try.ntmps29
  go_wp2_with fail
  refine (open_any _ w.heap.size a len cap HB.out (by omega) hc hm).mono ?_
  rintro e w1 ⟨rfl, hg, hs1, l1, c1', hr1⟩
  rw [hs0] at hr1 hs1
  have H := Lib.hid hr1
  replace G := Lib.hid (gtr G.out hg)
  replace R := Lib.hid (R.out.keptN hg)
  clear hg
  have hw1 : w.heap.size + 1 < w1.heap.size := by omega
  clear hr1 hs1 HB hs0
  go_wp2_with fail
  refine (pick_any _ _ _ a l1 c1' 0 23 H.out (by omega) (by omega)).mono ?_
  rintro e w2 ⟨x, x0, x1, rfl, hr, hg, hs⟩
  have hw2 := hg.size
  replace H := Lib.hid hr
  replace G := Lib.hid (grown_new G.out (by omega) hg)
  replace R := Lib.hid (R.out.kept hg (by intro e; have e := Option.some.inj e; omega))
  clear hg
  clear hr
  clear hs
  go_wp2_with fail
  refine (pick_any _ _ _ a l1 c1' _ 100 H.out (by omega) (by omega)).mono ?_
  rintro e w3 ⟨y, y0, y1, rfl, hr, hg, hs⟩
  have hw3 := hg.size
  replace H := Lib.hid hr
  replace G := Lib.hid (grown_new G.out (by omega) hg)
  replace R := Lib.hid (R.out.kept hg (by intro e; have e := Option.some.inj e; omega))
  clear hg
  clear hr
  clear hs
  go_wp2_with fail
  refine (pick_any _ _ _ a l1 c1' _ 23 H.out (by omega) (by omega)).mono ?_
  rintro e w4 ⟨z, z0, z1, rfl, hr, hg, hs⟩
  have hw4 := hg.size
  replace H := Lib.hid hr
  replace G := Lib.hid (grown_new G.out (by omega) hg)
  replace R := Lib.hid (R.out.kept hg (by intro e; have e := Option.some.inj e; omega))
  clear hg
  clear hr
  clear hs
  go_wp2_with fail
  refine (ssalone _ x y z).mono ?_
  rintro e w5 ⟨rfl, hg⟩
  replace G := Lib.hid (gtr G.out hg)
  replace R := Lib.hid (R.out.keptN hg)
  replace H := Lib.hid (H.out.gN hg)
  clear hg
  rw [saV_yes (saOk_iff.2 ⟨fok_mk x0 (by omega), fok_mk z0 (by omega), mok_iff.2 ⟨y0, by omega⟩⟩)]
  go_wp2_with (refine stop_store rfl ?_)
  refine ⟨trivial, ?_⟩
  refine wpList_store_blk rfl 29 (.tmp 8) (.tmp 22) _ _ _ 29 (Blk.new w5 #[.int .i64 0, .int .i64 0] 29) rfl rfl rfl rfl (by kernel_rfl) (by simp [Value.oneCell']) rfl ?_
  intro V hgV hTV
  have hg : w5.grownBy V none := grown_new (grown_alloc w5 (.cells #[.int .i64 0, .int .i64 0] 29) none) (Nat.le_refl _) hgV
  have T := Lib.hid hTV
  have htb : w.heap.size + 1 < w5.heap.size := by have := G.out.size; have := H.out.lt; omega
  clear hgV hTV
  replace G := Lib.hid (gtr G.out hg)
  replace R := Lib.hid (R.out.keptN hg)
  replace H := Lib.hid (H.out.gN hg)
  clear hg
  clear hw1 hw2 hw3 hw4
  generalize w5.heap.size = tb at *
  obtain ⟨Rv, hRv⟩ : ∃ q, q = gofF z := ⟨_, rfl⟩
  obtain ⟨Zv, hZv⟩ : ∃ q, q = saZ x y z := ⟨_, rfl⟩
  rw [← hRv, ← hZv] at T ⊢
  clear hRv hZv
  go_wp2_with fail
  refine (pick_any _ _ _ a l1 c1' _ 6 H.out (by omega) (by omega)).mono ?_
  rintro e W6 ⟨k, k0, k1, rfl, hr, hg, hs⟩
  replace H := Lib.hid hr
  replace G := Lib.hid (grown_new G.out (by omega) hg)
  replace R := Lib.hid (R.out.kept hg (by intro e; have e := Option.some.inj e; omega))
  replace T := Lib.hid (T.out.kept hg (by intro e; have e := Option.some.inj e; omega))
  clear hg
  clear hr
  clear hs
  rcases (by omega : k = 0 ∨ k = 1 ∨ k = 2 ∨ 3 ≤ k) with rfl | rfl | rfl | hk
  · skip
    go_wp2_with fail
    refine (num_any _ _ _ a l1 c1' _ H.out (by omega)).mono ?_
    rintro e W7 ⟨u, u0, u1, rfl, hg, p7, hp7, hp7', hr⟩
    replace H := Lib.hid hr
    replace G := Lib.hid (grown_new G.out (by omega) hg)
    replace R := Lib.hid (R.out.kept hg (by intro e; have e := Option.some.inj e; omega))
    replace T := Lib.hid (T.out.kept hg (by intro e; have e := Option.some.inj e; omega))
    clear hg
    clear hr
    have t1 : World.cell? _ ⟨tb, 1, none⟩ = some (.int .i64 Zv) := T.out.cell 1
    have f1 := T.out.free 1
    have hT : Blk (W7.setCell ⟨tb, 1, none⟩ (.int .i64 u)) tb #[.int .i64 Rv, .int .i64 u] 29 := T.out.set 1 (.int .i64 u)
    have hg := Mem.grown_set W7 tb 1 (.int .i64 u)
    go_wp2_with fail
    clear t1 f1
    replace T := Lib.hid hT
    replace G := Lib.hid (grown_new G.out (by omega) hg)
    replace R := Lib.hid (R.out.kept hg (by intro e; have e := Option.some.inj e; omega))
    replace H := Lib.hid (H.out.grownN hg (by omega) (by omega))
    clear hg
    clear hT
    go_wp2_with fail
    refine wp_region_held_drew (S := (fun w' => w'.cell? ⟨tb, 0, none⟩ = some (.int .i64 Rv) ∧ w'.cell? ⟨tb, 1, none⟩ = some (.int .i64 u))) (by kernel_rfl) (⟨T.out.cell 0, T.out.cell 1⟩) (fun hHeld => ?_)
    have hg := gdrew (W7.setCell ⟨tb, 1, none⟩ (.int .i64 u))
    replace G := Lib.hid (gtr G.out hg)
    replace R := Lib.hid (R.out.keptN hg)
    replace H := Lib.hid (H.out.gN hg)
    replace T := Lib.hid (T.out.keptN hg)
    clear hg
    generalize ((W7.setCell ⟨tb, 1, none⟩ (.int .i64 u))).drew = V at *
    refine wpAnyH_take (i := 0) (oi := ⟨some 40, _, _, _, _, _⟩) (v := ?_) rfl (by kernel_rfl) (by kernel_rfl) (by kernel_rfl) (fun _ _ _ h => h) (Or.inl ⟨by rfl, ?_⟩) (by assumption) ?_
    rotate_left
    · intro w hSw; (try dsimp only at hSw); go_simp; try with_reducible rfl
    simp only [Act.put, List.setIfInBounds_toArray, List.set_cons_zero, List.set_cons_succ]
    refine wpAnyH_take (i := 2) (oi := ⟨some 42, _, _, _, _, _⟩) (v := ?_) rfl (by kernel_rfl) (by kernel_rfl) (by kernel_rfl) (fun _ _ _ h => h) (Or.inl ⟨by rfl, ?_⟩) (by assumption) ?_
    rotate_left
    · intro w hSw; (try dsimp only at hSw); go_simp; try with_reducible rfl
    simp only [Act.put, List.setIfInBounds_toArray, List.set_cons_zero, List.set_cons_succ]
    refine wpAnyH_take (i := 3) (oi := ⟨some 43, _, _, _, _, _⟩) (v := ?_) rfl (by kernel_rfl) (by kernel_rfl) (by kernel_rfl) (fun _ _ _ h => h) (Or.inl ⟨by rfl, ?_⟩) (by assumption) ?_
    rotate_left
    · intro w hSw; (try dsimp only at hSw); go_simp; try with_reducible rfl
    simp only [Act.put, List.setIfInBounds_toArray, List.set_cons_zero, List.set_cons_succ]
    refine wpAnyH_ready (rs := [1]) (by kernel_rfl) (by simp) ?_
    refine AllReadyH.cons (o := ⟨some 41, _, _, _, _, _⟩) rfl (fun Kq hKq => ?_) AllReadyH.nil
    go_simp
    go_at_call 71
    refine (sgof x _).mono ?_
    rintro e v1 ⟨rfl, rfl⟩
    refine hKq.out _ _ (⟨T.out.cell 0, T.out.cell 1⟩) (fun hHeld => ?_)
    clear hKq Kq
    refine wpAnyH_take (i := 4) (oi := ⟨some 2, _, _, _, _, _⟩) (v := ?_) rfl (by kernel_rfl) (by kernel_rfl) (by kernel_rfl) (fun _ _ _ h => h) (Or.inl ⟨by rfl, ?_⟩) (by assumption) ?_
    rotate_left
    · intro w hSw; (try dsimp only at hSw); go_simp; try with_reducible rfl
    simp only [Act.put, List.setIfInBounds_toArray, List.set_cons_zero, List.set_cons_succ]
    refine wpAnyH_take (i := 5) (oi := ⟨some 3, _, _, _, _, _⟩) (v := ?_) rfl (by kernel_rfl) (by kernel_rfl) (by kernel_rfl) (fun _ _ _ h => h) (Or.inl ⟨by rfl, ?_⟩) (by assumption) ?_
    rotate_left
    · intro w hSw; (try dsimp only at hSw); go_simp; try with_reducible rfl
    simp only [Act.put, List.setIfInBounds_toArray, List.set_cons_zero, List.set_cons_succ]
    refine wpAnyH_ready (rs := [6]) (by kernel_rfl) (by simp) ?_
    refine AllReadyH.cons (o := ⟨none, _, _, _, _, _⟩) rfl (fun Kq hKq => ?_) AllReadyH.nil
    rw [if_pos (by rfl)]
    refine wp_store_blk 29 (.tmp 4) (.tmp 43) _ _ _ 29 R.out rfl rfl rfl rfl (by kernel_rfl) (by simp [Value.oneCell']) rfl ?_
    intro V2 hg hT
    replace R := Lib.hid hT
    replace G := Lib.hid (grown_new G.out (by omega) hg)
    replace H := Lib.hid (H.out.grownN hg (by omega) (by omega))
    replace T := Lib.hid (T.out.kept hg (by intro e; have e := Option.some.inj e; omega))
    clear hg
    clear hT
    refine hKq.out _ _ (⟨T.out.cell 0, T.out.cell 1⟩) (fun hHeld => ?_)
    clear hKq Kq
    refine wpAnyH_done (by kernel_rfl) ?_ _
    go_wp2
    (try simp only [Exit.inBlock, Exit.then])
    refine bodyPost_ret (ret_iis rfl _ rfl R.out) rfl ?_
    exact ⟨_, _, _, _, rfl, G.out⟩
  · skip
    go_wp2_with fail
    refine (grp_any _ _ _ a l1 c1' _ H.out (by omega)).mono ?_
    rintro e W7 ⟨u, u0, u1, rfl, hg, p7, hp7, hp7', hr⟩
    replace H := Lib.hid hr
    replace G := Lib.hid (grown_new G.out (by omega) hg)
    replace R := Lib.hid (R.out.kept hg (by intro e; have e := Option.some.inj e; omega))
    replace T := Lib.hid (T.out.kept hg (by intro e; have e := Option.some.inj e; omega))
    clear hg
    clear hr
    have t1 : World.cell? _ ⟨tb, 0, none⟩ = some (.int .i64 Rv) := T.out.cell 0
    have f1 := T.out.free 0
    have hT : Blk (W7.setCell ⟨tb, 0, none⟩ (.int .i64 u)) tb #[.int .i64 u, .int .i64 Zv] 29 := T.out.set 0 (.int .i64 u)
    have hg := Mem.grown_set W7 tb 0 (.int .i64 u)
    go_wp2_with fail
    clear t1 f1
    replace T := Lib.hid hT
    replace G := Lib.hid (grown_new G.out (by omega) hg)
    replace R := Lib.hid (R.out.kept hg (by intro e; have e := Option.some.inj e; omega))
    replace H := Lib.hid (H.out.grownN hg (by omega) (by omega))
    clear hg
    clear hT
    go_wp2_with fail
    refine wp_region_held_drew (S := (fun w' => w'.cell? ⟨tb, 0, none⟩ = some (.int .i64 u) ∧ w'.cell? ⟨tb, 1, none⟩ = some (.int .i64 Zv))) (by kernel_rfl) (⟨T.out.cell 0, T.out.cell 1⟩) (fun hHeld => ?_)
    have hg := gdrew (W7.setCell ⟨tb, 0, none⟩ (.int .i64 u))
    replace G := Lib.hid (gtr G.out hg)
    replace R := Lib.hid (R.out.keptN hg)
    replace H := Lib.hid (H.out.gN hg)
    replace T := Lib.hid (T.out.keptN hg)
    clear hg
    generalize ((W7.setCell ⟨tb, 0, none⟩ (.int .i64 u))).drew = V at *
    refine wpAnyH_take (i := 0) (oi := ⟨some 40, _, _, _, _, _⟩) (v := ?_) rfl (by kernel_rfl) (by kernel_rfl) (by kernel_rfl) (fun _ _ _ h => h) (Or.inl ⟨by rfl, ?_⟩) (by assumption) ?_
    rotate_left
    · intro w hSw; (try dsimp only at hSw); go_simp; try with_reducible rfl
    simp only [Act.put, List.setIfInBounds_toArray, List.set_cons_zero, List.set_cons_succ]
    refine wpAnyH_take (i := 2) (oi := ⟨some 42, _, _, _, _, _⟩) (v := ?_) rfl (by kernel_rfl) (by kernel_rfl) (by kernel_rfl) (fun _ _ _ h => h) (Or.inl ⟨by rfl, ?_⟩) (by assumption) ?_
    rotate_left
    · intro w hSw; (try dsimp only at hSw); go_simp; try with_reducible rfl
    simp only [Act.put, List.setIfInBounds_toArray, List.set_cons_zero, List.set_cons_succ]
    refine wpAnyH_take (i := 3) (oi := ⟨some 43, _, _, _, _, _⟩) (v := ?_) rfl (by kernel_rfl) (by kernel_rfl) (by kernel_rfl) (fun _ _ _ h => h) (Or.inl ⟨by rfl, ?_⟩) (by assumption) ?_
    rotate_left
    · intro w hSw; (try dsimp only at hSw); go_simp; try with_reducible rfl
    simp only [Act.put, List.setIfInBounds_toArray, List.set_cons_zero, List.set_cons_succ]
    refine wpAnyH_ready (rs := [1]) (by kernel_rfl) (by simp) ?_
    refine AllReadyH.cons (o := ⟨some 41, _, _, _, _, _⟩) rfl (fun Kq hKq => ?_) AllReadyH.nil
    go_simp
    go_at_call 71
    refine (sgof x _).mono ?_
    rintro e v1 ⟨rfl, rfl⟩
    refine hKq.out _ _ (⟨T.out.cell 0, T.out.cell 1⟩) (fun hHeld => ?_)
    clear hKq Kq
    refine wpAnyH_take (i := 4) (oi := ⟨some 2, _, _, _, _, _⟩) (v := ?_) rfl (by kernel_rfl) (by kernel_rfl) (by kernel_rfl) (fun _ _ _ h => h) (Or.inl ⟨by rfl, ?_⟩) (by assumption) ?_
    rotate_left
    · intro w hSw; (try dsimp only at hSw); go_simp; try with_reducible rfl
    simp only [Act.put, List.setIfInBounds_toArray, List.set_cons_zero, List.set_cons_succ]
    refine wpAnyH_take (i := 5) (oi := ⟨some 3, _, _, _, _, _⟩) (v := ?_) rfl (by kernel_rfl) (by kernel_rfl) (by kernel_rfl) (fun _ _ _ h => h) (Or.inl ⟨by rfl, ?_⟩) (by assumption) ?_
    rotate_left
    · intro w hSw; (try dsimp only at hSw); go_simp; try with_reducible rfl
    simp only [Act.put, List.setIfInBounds_toArray, List.set_cons_zero, List.set_cons_succ]
    refine wpAnyH_ready (rs := [6]) (by kernel_rfl) (by simp) ?_
    refine AllReadyH.cons (o := ⟨none, _, _, _, _, _⟩) rfl (fun Kq hKq => ?_) AllReadyH.nil
    rw [if_pos (by rfl)]
    refine wp_store_blk 29 (.tmp 4) (.tmp 43) _ _ _ 29 R.out rfl rfl rfl rfl (by kernel_rfl) (by simp [Value.oneCell']) rfl ?_
    intro V2 hg hT
    replace R := Lib.hid hT
    replace G := Lib.hid (grown_new G.out (by omega) hg)
    replace H := Lib.hid (H.out.grownN hg (by omega) (by omega))
    replace T := Lib.hid (T.out.kept hg (by intro e; have e := Option.some.inj e; omega))
    clear hg
    clear hT
    refine hKq.out _ _ (⟨T.out.cell 0, T.out.cell 1⟩) (fun hHeld => ?_)
    clear hKq Kq
    refine wpAnyH_done (by kernel_rfl) ?_ _
    go_wp2
    (try simp only [Exit.inBlock, Exit.then])
    refine bodyPost_ret (ret_iis rfl _ rfl R.out) rfl ?_
    exact ⟨_, _, _, _, rfl, G.out⟩
  · skip
    go_wp2_with fail
    refine (msg_any _ _ _ a l1 c1' _ H.out (by omega)).mono ?_
    rintro e W7 ⟨u, u0, u1, rfl, hg, p7, hp7, hp7', hr⟩
    replace H := Lib.hid hr
    replace G := Lib.hid (grown_new G.out (by omega) hg)
    replace R := Lib.hid (R.out.kept hg (by intro e; have e := Option.some.inj e; omega))
    replace T := Lib.hid (T.out.kept hg (by intro e; have e := Option.some.inj e; omega))
    clear hg
    clear hr
    go_wp2_with fail
    refine wp_region_held_drew (S := (fun w' => w'.cell? ⟨tb, 0, none⟩ = some (.int .i64 Rv) ∧ w'.cell? ⟨tb, 1, none⟩ = some (.int .i64 Zv))) (by kernel_rfl) (⟨T.out.cell 0, T.out.cell 1⟩) (fun hHeld => ?_)
    have hg := gdrew W7
    replace G := Lib.hid (gtr G.out hg)
    replace R := Lib.hid (R.out.keptN hg)
    replace T := Lib.hid (T.out.keptN hg)
    replace H := Lib.hid (H.out.gN hg)
    clear hg
    generalize (W7).drew = V at *
    refine wpAnyH_take (i := 0) (oi := ⟨some 40, _, _, _, _, _⟩) (v := ?_) rfl (by kernel_rfl) (by kernel_rfl) (by kernel_rfl) (fun _ _ _ h => h) (Or.inl ⟨by rfl, ?_⟩) (by assumption) ?_
    rotate_left
    · intro w hSw; (try dsimp only at hSw); go_simp; try with_reducible rfl
    simp only [Act.put, List.setIfInBounds_toArray, List.set_cons_zero, List.set_cons_succ]
    refine wpAnyH_take (i := 2) (oi := ⟨some 42, _, _, _, _, _⟩) (v := ?_) rfl (by kernel_rfl) (by kernel_rfl) (by kernel_rfl) (fun _ _ _ h => h) (Or.inl ⟨by rfl, ?_⟩) (by assumption) ?_
    rotate_left
    · intro w hSw; (try dsimp only at hSw); go_simp; try with_reducible rfl
    simp only [Act.put, List.setIfInBounds_toArray, List.set_cons_zero, List.set_cons_succ]
    refine wpAnyH_take (i := 3) (oi := ⟨some 43, _, _, _, _, _⟩) (v := ?_) rfl (by kernel_rfl) (by kernel_rfl) (by kernel_rfl) (fun _ _ _ h => h) (Or.inl ⟨by rfl, ?_⟩) (by assumption) ?_
    rotate_left
    · intro w hSw; (try dsimp only at hSw); go_simp; try with_reducible rfl
    simp only [Act.put, List.setIfInBounds_toArray, List.set_cons_zero, List.set_cons_succ]
    refine wpAnyH_ready (rs := [1]) (by kernel_rfl) (by simp) ?_
    refine AllReadyH.cons (o := ⟨some 41, _, _, _, _, _⟩) rfl (fun Kq hKq => ?_) AllReadyH.nil
    go_simp
    go_at_call 71
    refine (sgof x _).mono ?_
    rintro e v1 ⟨rfl, rfl⟩
    refine hKq.out _ _ (⟨T.out.cell 0, T.out.cell 1⟩) (fun hHeld => ?_)
    clear hKq Kq
    refine wpAnyH_take (i := 4) (oi := ⟨some 2, _, _, _, _, _⟩) (v := ?_) rfl (by kernel_rfl) (by kernel_rfl) (by kernel_rfl) (fun _ _ _ h => h) (Or.inl ⟨by rfl, ?_⟩) (by assumption) ?_
    rotate_left
    · intro w hSw; (try dsimp only at hSw); go_simp; try with_reducible rfl
    simp only [Act.put, List.setIfInBounds_toArray, List.set_cons_zero, List.set_cons_succ]
    refine wpAnyH_take (i := 5) (oi := ⟨some 3, _, _, _, _, _⟩) (v := ?_) rfl (by kernel_rfl) (by kernel_rfl) (by kernel_rfl) (fun _ _ _ h => h) (Or.inl ⟨by rfl, ?_⟩) (by assumption) ?_
    rotate_left
    · intro w hSw; (try dsimp only at hSw); go_simp; try with_reducible rfl
    simp only [Act.put, List.setIfInBounds_toArray, List.set_cons_zero, List.set_cons_succ]
    refine wpAnyH_ready (rs := [6]) (by kernel_rfl) (by simp) ?_
    refine AllReadyH.cons (o := ⟨none, _, _, _, _, _⟩) rfl (fun Kq hKq => ?_) AllReadyH.nil
    rw [if_pos (by rfl)]
    refine wp_store_blk 29 (.tmp 4) (.tmp 43) _ _ _ 29 R.out rfl rfl rfl rfl (by kernel_rfl) (by simp [Value.oneCell']) rfl ?_
    intro V2 hg hT
    replace R := Lib.hid hT
    replace G := Lib.hid (grown_new G.out (by omega) hg)
    replace T := Lib.hid (T.out.kept hg (by intro e; have e := Option.some.inj e; omega))
    replace H := Lib.hid (H.out.grownN hg (by omega) (by omega))
    clear hg
    clear hT
    refine hKq.out _ _ (⟨T.out.cell 0, T.out.cell 1⟩) (fun hHeld => ?_)
    clear hKq Kq
    refine wpAnyH_done (by kernel_rfl) ?_ _
    go_wp2
    (try simp only [Exit.inBlock, Exit.then])
    refine bodyPost_ret (ret_iis rfl _ rfl R.out) rfl ?_
    exact ⟨_, _, _, _, rfl, G.out⟩
  · skip
    have q0 : (k == 0) = false := by simp; omega
    have q1 : (k == 1) = false := by simp; omega
    have q2 : (k == 2) = false := by simp; omega
    go_wp2_with fail
    refine wp_region_held_drew (S := (fun w' => w'.cell? ⟨tb, 0, none⟩ = some (.int .i64 Rv) ∧ w'.cell? ⟨tb, 1, none⟩ = some (.int .i64 Zv))) (by kernel_rfl) (⟨T.out.cell 0, T.out.cell 1⟩) (fun hHeld => ?_)
    have hg := gdrew W6
    replace G := Lib.hid (gtr G.out hg)
    replace R := Lib.hid (R.out.keptN hg)
    replace T := Lib.hid (T.out.keptN hg)
    replace H := Lib.hid (H.out.gN hg)
    clear hg
    generalize (W6).drew = V at *
    refine wpAnyH_take (i := 0) (oi := ⟨some 40, _, _, _, _, _⟩) (v := ?_) rfl (by kernel_rfl) (by kernel_rfl) (by kernel_rfl) (fun _ _ _ h => h) (Or.inl ⟨by rfl, ?_⟩) (by assumption) ?_
    rotate_left
    · intro w hSw; (try dsimp only at hSw); go_simp; try with_reducible rfl
    simp only [Act.put, List.setIfInBounds_toArray, List.set_cons_zero, List.set_cons_succ]
    refine wpAnyH_take (i := 2) (oi := ⟨some 42, _, _, _, _, _⟩) (v := ?_) rfl (by kernel_rfl) (by kernel_rfl) (by kernel_rfl) (fun _ _ _ h => h) (Or.inl ⟨by rfl, ?_⟩) (by assumption) ?_
    rotate_left
    · intro w hSw; (try dsimp only at hSw); go_simp; try with_reducible rfl
    simp only [Act.put, List.setIfInBounds_toArray, List.set_cons_zero, List.set_cons_succ]
    refine wpAnyH_take (i := 3) (oi := ⟨some 43, _, _, _, _, _⟩) (v := ?_) rfl (by kernel_rfl) (by kernel_rfl) (by kernel_rfl) (fun _ _ _ h => h) (Or.inl ⟨by rfl, ?_⟩) (by assumption) ?_
    rotate_left
    · intro w hSw; (try dsimp only at hSw); go_simp; try with_reducible rfl
    simp only [Act.put, List.setIfInBounds_toArray, List.set_cons_zero, List.set_cons_succ]
    refine wpAnyH_ready (rs := [1]) (by kernel_rfl) (by simp) ?_
    refine AllReadyH.cons (o := ⟨some 41, _, _, _, _, _⟩) rfl (fun Kq hKq => ?_) AllReadyH.nil
    go_simp
    go_at_call 71
    refine (sgof x _).mono ?_
    rintro e v1 ⟨rfl, rfl⟩
    refine hKq.out _ _ (⟨T.out.cell 0, T.out.cell 1⟩) (fun hHeld => ?_)
    clear hKq Kq
    refine wpAnyH_take (i := 4) (oi := ⟨some 2, _, _, _, _, _⟩) (v := ?_) rfl (by kernel_rfl) (by kernel_rfl) (by kernel_rfl) (fun _ _ _ h => h) (Or.inl ⟨by rfl, ?_⟩) (by assumption) ?_
    rotate_left
    · intro w hSw; (try dsimp only at hSw); go_simp; try with_reducible rfl
    simp only [Act.put, List.setIfInBounds_toArray, List.set_cons_zero, List.set_cons_succ]
    refine wpAnyH_take (i := 5) (oi := ⟨some 3, _, _, _, _, _⟩) (v := ?_) rfl (by kernel_rfl) (by kernel_rfl) (by kernel_rfl) (fun _ _ _ h => h) (Or.inl ⟨by rfl, ?_⟩) (by assumption) ?_
    rotate_left
    · intro w hSw; (try dsimp only at hSw); go_simp; try with_reducible rfl
    simp only [Act.put, List.setIfInBounds_toArray, List.set_cons_zero, List.set_cons_succ]
    refine wpAnyH_ready (rs := [6]) (by kernel_rfl) (by simp) ?_
    refine AllReadyH.cons (o := ⟨none, _, _, _, _, _⟩) rfl (fun Kq hKq => ?_) AllReadyH.nil
    rw [if_pos (by rfl)]
    refine wp_store_blk 29 (.tmp 4) (.tmp 43) _ _ _ 29 R.out rfl rfl rfl rfl (by kernel_rfl) (by simp [Value.oneCell']) rfl ?_
    intro V2 hg hT
    replace R := Lib.hid hT
    replace G := Lib.hid (grown_new G.out (by omega) hg)
    replace T := Lib.hid (T.out.kept hg (by intro e; have e := Option.some.inj e; omega))
    replace H := Lib.hid (H.out.grownN hg (by omega) (by omega))
    clear hg
    clear hT
    refine hKq.out _ _ (⟨T.out.cell 0, T.out.cell 1⟩) (fun hHeld => ?_)
    clear hKq Kq
    refine wpAnyH_done (by kernel_rfl) ?_ _
    go_wp2
    (try simp only [Exit.inBlock, Exit.then])
    refine bodyPost_ret (ret_iis rfl _ rfl R.out) rfl ?_
    exact ⟨_, _, _, _, rfl, G.out⟩
end Draw
end Go.Proofs.Ytpeofoabhjebbaa
