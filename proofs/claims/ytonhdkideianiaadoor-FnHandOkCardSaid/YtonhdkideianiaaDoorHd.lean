/-
  How the model draws a key with a deal that may hand a share on.
-/
import Derived.Test.YtonhdkideianiaaDoorWk
import Derived.Test.YtonhdkideianiaaDoorHo
namespace Go.Proofs.YtonhdkideianiaaDoor
namespace Draw
open Go.RowKit Alg Mem Con Mp
set_option linter.unusedVariables false

/-- A key, a deal, and a committee, drawn. -/
def GotKDC (w : World) (e : Ending) (w' : World) : Prop :=
  ∃ (need many : Nat) (ag : Option Addr) (ng cg : Nat) (zg : Nat → Int) (ac : Option Addr) (nc cc : Nat) (zc : Nat → Int) (f : Int) (a1 : Option Addr) (n1 c1 : Nat) (z1 : Nat → Int) (a2 : Option Addr) (n2 c2 : Nat) (z2 : Nat → Int) (n m : Nat),
    e = .returned (.tuple #[.agg #[.int .i64 need, .int .i64 many, .slice ag ng cg, .slice ac nc cc], .agg #[.int .i64 f, .slice a1 n1 c1, .slice a2 n2 c2], .int .i64 n, .int .i64 m]) ∧ ng ≤ 6 ∧ nc ≤ 6 ∧ n1 ≤ 6 ∧ n2 ≤ 6 ∧ Ints w' ag ng zg ∧ Ints w' ac nc zc ∧ Ints w' a1 n1 z1 ∧ Ints w' a2 n2 z2 ∧ w.grownBy w' none
theorem ret_kd2 {fn : Func} {p q u v : Tmp} (h : fn.results = #[.cell p 25, .cell q 27, .tmp u, .tmp v]) (tmps : Array Value) {w : World} {b d : Nat} {v0 v1 v2 v3 u0 u1 u2 : Value} {T U : TypeId} (hp : tmps.getD p undef = .pointer (some ⟨b, 0, none⟩)) (hq : tmps.getD q undef = .pointer (some ⟨d, 0, none⟩)) (hb : Blk w b #[v0, v1, v2, v3] T) (hd : Blk w d #[u0, u1, u2] U) :
    (results fn tmps).run Tryd.prog w = .ok (.tuple #[.agg #[v0, v1, v2, v3], .agg #[u0, u1, u2], tmps.getD u undef, tmps.getD v undef]) w := by
  have hp' : tmps[p]?.getD undef = .pointer (some ⟨b, 0, none⟩) := by simpa using hp
  have hq' : tmps[q]?.getD undef = .pointer (some ⟨d, 0, none⟩) := by simpa using hq
  simp [results, h, hp', hq', asAddr, run_loadVar_row w b T 25 #[v0, v1, v2, v3] (0, 0) _ hb Tryd.underlying25 rfl size_key, run_loadVar_row w d U 27 #[u0, u1, u2] (0, 0) _ hd Tryd.underlying27 rfl size_deal, Result.andThen]
set_option maxRecDepth 100000 in
set_option maxHeartbeats 4000000 in
theorem drawHand (w : World) (a : Option Addr) (len cap : Nat) (hB : Bytes w w.heap.size a len) (hc : len ≤ cap) (hm : cap ≤ maxLen) :
    Calls Tryd.prog 6 #[.slice a len cap] w (GotKDC w) := by
  have hs0 : ((w.alloc (.cells #[.int .i64 0, .int .i64 0, .slice none 0 0, .slice none 0 0] 25)).alloc (.cells #[.int .i64 0, .slice none 0 0, .slice none 0 0] 27)).heap.size = w.heap.size + 2 := by show ((w.heap.push _).push _).size = _; simp
  have G := Lib.hid (gtr (grown_alloc w (.cells #[.int .i64 0, .int .i64 0, .slice none 0 0, .slice none 0 0] 25) none) (grown_alloc _ (.cells #[.int .i64 0, .slice none 0 0, .slice none 0 0] 27) none))
  have HB := Lib.hid (hB.kept (w' := (w.alloc (.cells #[.int .i64 0, .int .i64 0, .slice none 0 0, .slice none 0 0] 25)).alloc (.cells #[.int .i64 0, .slice none 0 0, .slice none 0 0] 27)) (fun k hk => (Below.heap_alloc _ _ _ (by show k < (w.heap.push _).size; simp; omega)).trans (Below.heap_alloc _ _ _ hk)))
  have R := Lib.hid ((Blk.new w #[.int .i64 0, .int .i64 0, .slice none 0 0, .slice none 0 0] 25).keptN (grown_alloc _ (.cells #[.int .i64 0, .slice none 0 0, .slice none 0 0] 27) none))
  have D := Lib.hid (blk_new2 w (.cells #[.int .i64 0, .int .i64 0, .slice none 0 0, .slice none 0 0] 25) #[.int .i64 0, .slice none 0 0, .slice none 0 0] 27)
  clear hB
  go_enter Tryd.func6, Tryd.ntmps6
  go_wp2_with fail
  refine (open_any _ w.heap.size a len cap HB.out (by omega) hc hm).mono ?_
  rintro e w1 ⟨rfl, hg, hs1, l1, c1', hr1⟩
  rw [hs0] at hr1 hs1
  have H := Lib.hid hr1
  replace G := Lib.hid (gtr G.out hg)
  replace R := Lib.hid (R.out.keptN hg)
  replace D := Lib.hid (D.out.keptN hg)
  clear hg
  have hw1 : w.heap.size + 3 ≤ w1.heap.size := by omega
  clear hr1 hs1 HB hs0
  go_wp2_with fail
  refine (held_any _ _ _ a l1 c1' 0 H.out (by omega)).mono ?_
  rintro e w2 ⟨need, many, ag, ng, cg, zg, ac, nc, cc, zc, v, rfl, hk, hm1, hO, hg, p2, hp2, hp2', hr2⟩
  replace H := Lib.hid hr2
  have I1 := Lib.hid hk.irg; have I2 := Lib.hid hk.irc; have O := Lib.hid hO
  have hw2 : w1.heap.size ≤ w2.heap.size := hg.size
  have hng := hk.g6; have hnc := hk.c5; have hn5 := hk.n5; have hm6 := hk.m5
  replace G := Lib.hid (grown_new G.out (by omega) hg)
  replace R := Lib.hid (R.out.kept hg (by intro e; have e := Option.some.inj e; omega))
  replace D := Lib.hid (D.out.kept hg (by intro e; have e := Option.some.inj e; omega))
  clear hg
  clear hr2 hk hO
  have hg : w2.grownBy (w2.alloc (.cells #[.int .i64 need, .int .i64 many, .slice ag ng cg, .slice ac nc cc] 25)) none := grown_alloc _ _ _
  have K := Lib.hid (Blk.new w2 #[.int .i64 need, .int .i64 many, .slice ag ng cg, .slice ac nc cc] 25)
  replace G := Lib.hid (gtr G.out hg)
  replace R := Lib.hid (R.out.keptN hg)
  replace D := Lib.hid (D.out.keptN hg)
  replace H := Lib.hid (H.out.gN hg)
  replace I1 := Lib.hid (I1.out.keptN hg)
  replace I2 := Lib.hid (I2.out.keptN hg)
  replace O := Lib.hid (O.out.kept hg (fun g e => by cases e))
  clear hg
  obtain ⟨gb, gc, hz, rfl, hgl, hgs, hcel⟩ := O.out.cells hm1
  clear hcel
  have hlk := K.out.lt
  go_wp2_with fail
  refine (fine_any _ _ _ a l1 c1' _ H.out (by omega)).mono ?_
  rintro e w3 ⟨n, m, rfl, hn1, hnm, hm5, hg, hr⟩
  replace H := Lib.hid hr
  replace G := Lib.hid (grown_new G.out (by omega) hg)
  replace R := Lib.hid (R.out.kept hg (by intro e; have e := Option.some.inj e; omega))
  replace D := Lib.hid (D.out.kept hg (by intro e; have e := Option.some.inj e; omega))
  replace I1 := Lib.hid (I1.out.kept hg (by omega))
  replace I2 := Lib.hid (I2.out.kept hg (by omega))
  replace O := Lib.hid (O.out.kept hg (fun g e => by have e := Option.some.inj e; omega))
  replace K := Lib.hid (K.out.kept hg (by intro e; have e := Option.some.inj e; omega))
  clear hg
  clear hr hlk
  have hw3 : w2.heap.size + 1 ≤ w3.heap.size := K.out.lt
  have hmp : (1 : Int) ≤ (many : Int) := by omega
  go_wp2_with fail
  refine (pick_any _ _ _ a l1 c1' _ (many : Int) H.out (by omega) hmp).mono ?_
  rintro e w4 ⟨x, x0, x1, rfl, hr, hg, hs⟩
  replace H := Lib.hid hr
  replace G := Lib.hid (grown_new G.out (by omega) hg)
  replace R := Lib.hid (R.out.kept hg (by intro e; have e := Option.some.inj e; omega))
  replace D := Lib.hid (D.out.kept hg (by intro e; have e := Option.some.inj e; omega))
  replace I1 := Lib.hid (I1.out.kept hg (by omega))
  replace I2 := Lib.hid (I2.out.kept hg (by omega))
  replace O := Lib.hid (O.out.kept hg (fun g e => by have e := Option.some.inj e; omega))
  replace K := Lib.hid (K.out.kept hg (by intro e; have e := Option.some.inj e; omega))
  clear hg
  clear hr hs
  obtain ⟨y, rfl⟩ : ∃ y : Nat, x = y := ⟨x.toNat, by omega⟩
  obtain ⟨gb', gc', hz, hv3, _, hgs, hcel⟩ := O.out.cells hm1
  injection hv3 with e1 _ e3; injection e1 with e1; injection e1 with e1 _; subst e1; subst e3
  obtain ⟨hc0, hc1, hfs⟩ := hcel y (by omega)
  clear hcel
  generalize hz y = s at *
  obtain ⟨fq, hfq⟩ : ∃ q : Int, (y : Int) + 1 = q := ⟨_, rfl⟩
  rw [hfq] at hc0
  clear hfq
  go_wp2_with (first
    | (refine wpList_store_blk rfl 48 (.tmp 11) (.tmp 31) _ _ _ 48 (Blk.new w4 #[.int .i64 0, .int .i64 0] 48) rfl rfl rfl rfl (by kernel_rfl) (by simp [Value.oneCell']) rfl ?_; intro V hgV hTV; have hg : w4.grownBy V none := grown_new (grown_alloc w4 (.cells #[.int .i64 0, .int .i64 0] 48) none) (Nat.le_refl _) hgV; have T := Lib.hid hTV; clear hgV hTV))
  have hxh : w2.heap.size + 1 ≤ w4.heap.size := by have := K.out.lt; omega
  clear hc0 hc1
  replace G := Lib.hid (gtr G.out hg)
  replace R := Lib.hid (R.out.keptN hg)
  replace D := Lib.hid (D.out.keptN hg)
  replace I1 := Lib.hid (I1.out.keptN hg)
  replace I2 := Lib.hid (I2.out.keptN hg)
  replace O := Lib.hid (O.out.kept hg (fun g e => by cases e))
  replace K := Lib.hid (K.out.keptN hg)
  replace H := Lib.hid (H.out.gN hg)
  clear hg
  clear O
  generalize w4.heap.size = xh at *
  go_wp2_with fail
  refine' (fun (hk : Later _) => ?main) (Later.mk ?rest)
  case main =>
    refine wp_region_held_drew (S := (fun w' => w'.cell? ⟨xh, 0, none⟩ = some (.int .i64 fq) ∧ w'.cell? ⟨xh, 1, none⟩ = some (.int .i64 s))) (by kernel_rfl) (⟨T.out.cell 0, T.out.cell 1⟩) (fun hHeld => ?_)
    have hg := gdrew V
    replace G := Lib.hid (gtr G.out hg)
    replace R := Lib.hid (R.out.keptN hg)
    replace D := Lib.hid (D.out.keptN hg)
    replace I1 := Lib.hid (I1.out.keptN hg)
    replace I2 := Lib.hid (I2.out.keptN hg)
    replace K := Lib.hid (K.out.keptN hg)
    replace H := Lib.hid (H.out.gN hg)
    replace T := Lib.hid (T.out.keptN hg)
    clear hg
    generalize V.drew = W at *
    have hxl := T.out.lt
    refine wpAnyH_take (i := 0) (oi := ⟨some 32, _, _, _, _, _⟩) (v := ?_) rfl (by kernel_rfl) (by kernel_rfl) (by kernel_rfl) (fun _ _ _ h => h) (Or.inl ⟨by rfl, ?_⟩) (by assumption) ?_
    rotate_left
    · intro w hSw; (try dsimp only at hSw); go_simp; try with_reducible rfl
    simp only [Act.put, List.setIfInBounds_toArray, List.set_cons_zero, List.set_cons_succ]
    refine wpAnyH_take (i := 1) (oi := ⟨some 33, _, _, _, _, _⟩) (v := ?_) rfl (by kernel_rfl) (by kernel_rfl) (by kernel_rfl) (fun _ _ _ h => h) (Or.inl ⟨by rfl, ?_⟩) (by assumption) ?_
    rotate_left
    · intro w hSw; (try dsimp only at hSw); go_simp; try with_reducible rfl
    simp only [Act.put, List.setIfInBounds_toArray, List.set_cons_zero, List.set_cons_succ]
    refine wpAnyH_take (i := 2) (oi := ⟨some 34, _, _, _, _, _⟩) (v := ?_) rfl (by kernel_rfl) (by kernel_rfl) (by kernel_rfl) (fun _ _ _ h => h) (Or.inl ⟨by rfl, ?_⟩) (by assumption) ?_
    rotate_left
    · intro w hSw; (try dsimp only at hSw); go_simp; try with_reducible rfl
    simp only [Act.put, List.setIfInBounds_toArray, List.set_cons_zero, List.set_cons_succ]
    refine wpAnyH_take (i := 3) (oi := ⟨some 35, _, _, _, _, _⟩) (v := ?_) rfl (by kernel_rfl) (by kernel_rfl) (by kernel_rfl) (fun _ _ _ h => h) (Or.inl ⟨by rfl, ?_⟩) (by assumption) ?_
    rotate_left
    · intro w hSw; (try dsimp only at hSw); go_simp; try with_reducible rfl
    simp only [Act.put, List.setIfInBounds_toArray, List.set_cons_zero, List.set_cons_succ]
    refine wpAnyH_take (i := 4) (oi := ⟨some 36, _, _, _, _, _⟩) (v := ?_) rfl (by kernel_rfl) (by kernel_rfl) (by kernel_rfl) (fun _ _ _ h => h) (Or.inl ⟨by rfl, ?_⟩) (by assumption) ?_
    rotate_left
    · intro w hSw; (try dsimp only at hSw); go_simp; try with_reducible rfl
    simp only [Act.put, List.setIfInBounds_toArray, List.set_cons_zero, List.set_cons_succ]
    refine wpAnyH_take (i := 5) (oi := ⟨some 37, _, _, _, _, _⟩) (v := ?_) rfl (by kernel_rfl) (by kernel_rfl) (by kernel_rfl) (fun _ _ _ h => h) (Or.inl ⟨by rfl, ?_⟩) (by assumption) ?_
    rotate_left
    · intro w hSw; (try dsimp only at hSw); go_simp; try with_reducible rfl
    simp only [Act.put, List.setIfInBounds_toArray, List.set_cons_zero, List.set_cons_succ]
    refine wpAnyH_take (i := 6) (oi := ⟨some 38, _, _, _, _, _⟩) (v := ?_) rfl (by kernel_rfl) (by kernel_rfl) (by kernel_rfl) (fun _ _ _ h => h) (Or.inl ⟨by rfl, ?_⟩) (by assumption) ?_
    rotate_left
    · intro w hSw; (try dsimp only at hSw); go_simp; try with_reducible rfl
    simp only [Act.put, List.setIfInBounds_toArray, List.set_cons_zero, List.set_cons_succ]
    refine wpAnyH_ready (rs := [7, 10]) (by kernel_rfl) (by simp) ?_
    refine AllReadyH.cons (o := ⟨some 39, _, _, _, _, _⟩) rfl (fun Kq hKq => ?_) (AllReadyH.cons (o := ⟨some 12, _, _, _, _, _⟩) rfl (fun Kq hKq => ?_) AllReadyH.nil)
    · go_simp
      go_at_call 28
      refine (pick_any _ _ _ a l1 c1' _ (1000 : Int) H.out (by omega) (by omega)).mono ?_
      rintro e W3 ⟨x3, x30, x31, rfl, hr, hg, hs⟩
      replace H := Lib.hid hr
      replace G := Lib.hid (grown_new G.out (by omega) hg)
      replace R := Lib.hid (R.out.kept hg (by intro e; have e := Option.some.inj e; omega))
      replace D := Lib.hid (D.out.kept hg (by intro e; have e := Option.some.inj e; omega))
      replace I1 := Lib.hid (I1.out.kept hg (by omega))
      replace I2 := Lib.hid (I2.out.kept hg (by omega))
      replace K := Lib.hid (K.out.kept hg (by intro e; have e := Option.some.inj e; omega))
      replace T := Lib.hid (T.out.kept hg (by intro e; have e := Option.some.inj e; omega))
      clear hg
      clear hr hs
      refine hKq.out _ _ (⟨T.out.cell 0, T.out.cell 1⟩) (fun hHeld => ?_)
      clear hKq Kq
      refine wpAnyH_ready (rs := [8, 10]) (by kernel_rfl) (by simp) ?_
      refine AllReadyH.cons (o := ⟨some 40, _, _, _, _, _⟩) rfl (fun Kq hKq => ?_) (AllReadyH.cons (o := ⟨some 12, _, _, _, _, _⟩) rfl (fun Kq hKq => ?_) AllReadyH.nil)
      · go_simp
        go_at_call 30
        refine (s11poly _ n s x3 hn1 (by omega) x30 (by omega)).mono ?_
        rintro e W4 ⟨b0, c0, rfl, hr, hg⟩
        have Z := Lib.hid hr; clear hr
        replace G := Lib.hid (gtr G.out hg)
        replace R := Lib.hid (R.out.keptN hg)
        replace D := Lib.hid (D.out.keptN hg)
        replace I1 := Lib.hid (I1.out.keptN hg)
        replace I2 := Lib.hid (I2.out.keptN hg)
        replace K := Lib.hid (K.out.keptN hg)
        replace T := Lib.hid (T.out.keptN hg)
        replace H := Lib.hid (H.out.gN hg)
        clear hg
        refine hKq.out _ _ (⟨T.out.cell 0, T.out.cell 1⟩) (fun hHeld => ?_)
        clear hKq Kq
        refine wpAnyH_ready (rs := [9, 10]) (by kernel_rfl) (by simp) ?_
        refine AllReadyH.cons (o := ⟨some 41, _, _, _, _, _⟩) rfl (fun Kq hKq => ?_) (AllReadyH.cons (o := ⟨some 12, _, _, _, _, _⟩) rfl (fun Kq hKq => ?_) AllReadyH.nil)
        · go_simp
          go_at_call 29
          refine (s11make _ _ m _ n _ _ Z.out.ints (by omega) (fun j _ => dz_ok hfs j) (by omega)).mono ?_
          rintro e W5 ⟨b1, c1, B2, v, rfl, hB2, hb1, hr1, hL, hg⟩
          have hK9 := T.out.lt
          rcases hL with ⟨_, hL⟩ | ⟨b2, c2, rfl, hr2⟩
          · have := shl_len n (dz s x3) m; rw [hL] at this; simp at this; omega
          rw [shl_len] at hr2 ⊢
          have hb2 := hr2.from_
          try have hxb : x6 < b1 ∨ b2 < x6 := .inl (by have := T6.out.lt; have := hr1.from_; omega)
          generalize gz _ = z1 at hr1
          generalize li _ = z2 at hr2
          clear Z
          replace G := Lib.hid (gtr G.out hg)
          replace R := Lib.hid (R.out.keptN hg)
          replace D := Lib.hid (D.out.keptN hg)
          replace I1 := Lib.hid (I1.out.keptN hg)
          replace I2 := Lib.hid (I2.out.keptN hg)
          replace K := Lib.hid (K.out.keptN hg)
          replace T := Lib.hid (T.out.keptN hg)
          replace H := Lib.hid (H.out.gN hg)
          clear hg
          have R1 := Lib.hid (hr1.lower (lo' := xh + 1) (by omega)); have R2 := Lib.hid (hr2.lower (lo' := xh + 1) (by omega))
          have hb12 : b1 < b2 := by omega
          clear hr1 hr2 hb1 hB2 hb2 hK9
          refine hKq.out _ _ (⟨T.out.cell 0, T.out.cell 1⟩) (fun hHeld => ?_)
          clear hKq Kq
          refine wpAnyH_ready (rs := [10]) (by kernel_rfl) (by simp) ?_
          refine AllReadyH.cons (o := ⟨some 12, _, _, _, _, _⟩) rfl (fun Kq hKq => ?_) AllReadyH.nil
          go_simp
          refine at_alloc ?_
          intro Wa hg hT
          have hx6 : xh + 1 ≤ W5.heap.size := T.out.lt
          try have hxb : W5.heap.size < b1 ∨ b2 < W5.heap.size := .inr R2.out.lt
          generalize W5.heap.size = x6 at *
          have T6 := Lib.hid hT
          replace G := Lib.hid (gtr G.out hg)
          replace R := Lib.hid (R.out.keptN hg)
          replace D := Lib.hid (D.out.keptN hg)
          replace I1 := Lib.hid (I1.out.keptN hg)
          replace I2 := Lib.hid (I2.out.keptN hg)
          replace K := Lib.hid (K.out.keptN hg)
          replace T := Lib.hid (T.out.keptN hg)
          replace H := Lib.hid (H.out.gN hg)
          replace R1 := Lib.hid (R1.out.keptN hg)
          replace R2 := Lib.hid (R2.out.keptN hg)
          clear hg
          clear hT
          refine hKq.out _ _ (⟨T.out.cell 0, T.out.cell 1⟩) (fun hHeld => ?_)
          clear hKq Kq
          refine wpAnyH_ready (rs := [11]) (by kernel_rfl) (by simp) ?_
          refine AllReadyH.cons (o := ⟨none, _, _, _, _, _⟩) rfl (fun Kq hKq => ?_) AllReadyH.nil
          rw [if_pos (by rfl)]
          refine wp_store_blk 27 (.tmp 12) (.tmp 41) _ _ _ 27 T6.out rfl rfl rfl rfl (by kernel_rfl) (by simp [Value.oneCell']) rfl ?_
          intro W6 hg hT
          replace T6 := Lib.hid hT
          replace G := Lib.hid (grown_new G.out (by omega) hg)
          replace R := Lib.hid (R.out.kept hg (by intro e; have e := Option.some.inj e; omega))
          replace D := Lib.hid (D.out.kept hg (by intro e; have e := Option.some.inj e; omega))
          replace I1 := Lib.hid (I1.out.kept hg (by omega))
          replace I2 := Lib.hid (I2.out.kept hg (by omega))
          replace K := Lib.hid (K.out.kept hg (by intro e; have e := Option.some.inj e; omega))
          replace T := Lib.hid (T.out.kept hg (by intro e; have e := Option.some.inj e; omega))
          replace H := Lib.hid (H.out.grownN hg (by omega) (by omega))
          replace R1 := Lib.hid (R1.out.kept hg (by intro e; have e := Option.some.inj e; omega))
          replace R2 := Lib.hid (R2.out.kept hg (by intro e; have e := Option.some.inj e; omega))
          clear hg
          clear hT
          refine hKq.out _ _ (⟨T.out.cell 0, T.out.cell 1⟩) (fun hHeld => ?_)
          clear hKq Kq
          refine wpAnyH_done (by kernel_rfl) ?_ _
          clear hHeld x30 x31 hxl
          revert hx6; revert hb12; revert hxb; revert R2; revert R1; revert T6; revert H; revert I2; revert I1; revert K; revert D; revert R; revert G; revert T; revert x3; revert z2; revert z1; revert c2; revert b2; revert c1; revert b1; revert c0; revert b0; revert x6; revert W6
          exact hk.out
        · go_simp
          refine at_alloc ?_
          intro Wa hg hT
          have hx6 : xh + 1 ≤ W4.heap.size := T.out.lt
          try have hxb : W4.heap.size < b1 ∨ b2 < W4.heap.size := .inr R2.out.lt
          generalize W4.heap.size = x6 at *
          have T6 := Lib.hid hT
          replace G := Lib.hid (gtr G.out hg)
          replace R := Lib.hid (R.out.keptN hg)
          replace D := Lib.hid (D.out.keptN hg)
          replace I1 := Lib.hid (I1.out.keptN hg)
          replace I2 := Lib.hid (I2.out.keptN hg)
          replace K := Lib.hid (K.out.keptN hg)
          replace T := Lib.hid (T.out.keptN hg)
          replace H := Lib.hid (H.out.gN hg)
          replace Z := Lib.hid (Z.out.keptN hg)
          clear hg
          clear hT
          refine hKq.out _ _ (⟨T.out.cell 0, T.out.cell 1⟩) (fun hHeld => ?_)
          clear hKq Kq
          refine wpAnyH_ready (rs := [9]) (by kernel_rfl) (by simp) ?_
          refine AllReadyH.cons (o := ⟨some 41, _, _, _, _, _⟩) rfl (fun Kq hKq => ?_) AllReadyH.nil
          go_simp
          go_at_call 29
          refine (s11make _ _ m _ n _ _ Z.out.ints (by omega) (fun j _ => dz_ok hfs j) (by omega)).mono ?_
          rintro e W5 ⟨b1, c1, B2, v, rfl, hB2, hb1, hr1, hL, hg⟩
          have hK9 := T.out.lt
          rcases hL with ⟨_, hL⟩ | ⟨b2, c2, rfl, hr2⟩
          · have := shl_len n (dz s x3) m; rw [hL] at this; simp at this; omega
          rw [shl_len] at hr2 ⊢
          have hb2 := hr2.from_
          try have hxb : x6 < b1 ∨ b2 < x6 := .inl (by have := T6.out.lt; have := hr1.from_; omega)
          generalize gz _ = z1 at hr1
          generalize li _ = z2 at hr2
          clear Z
          replace G := Lib.hid (gtr G.out hg)
          replace R := Lib.hid (R.out.keptN hg)
          replace D := Lib.hid (D.out.keptN hg)
          replace I1 := Lib.hid (I1.out.keptN hg)
          replace I2 := Lib.hid (I2.out.keptN hg)
          replace K := Lib.hid (K.out.keptN hg)
          replace T := Lib.hid (T.out.keptN hg)
          replace H := Lib.hid (H.out.gN hg)
          replace T6 := Lib.hid (T6.out.keptN hg)
          clear hg
          have R1 := Lib.hid (hr1.lower (lo' := xh + 1) (by omega)); have R2 := Lib.hid (hr2.lower (lo' := xh + 1) (by omega))
          have hb12 : b1 < b2 := by omega
          clear hr1 hr2 hb1 hB2 hb2 hK9
          refine hKq.out _ _ (⟨T.out.cell 0, T.out.cell 1⟩) (fun hHeld => ?_)
          clear hKq Kq
          refine wpAnyH_ready (rs := [11]) (by kernel_rfl) (by simp) ?_
          refine AllReadyH.cons (o := ⟨none, _, _, _, _, _⟩) rfl (fun Kq hKq => ?_) AllReadyH.nil
          rw [if_pos (by rfl)]
          refine wp_store_blk 27 (.tmp 12) (.tmp 41) _ _ _ 27 T6.out rfl rfl rfl rfl (by kernel_rfl) (by simp [Value.oneCell']) rfl ?_
          intro W6 hg hT
          replace T6 := Lib.hid hT
          replace G := Lib.hid (grown_new G.out (by omega) hg)
          replace R := Lib.hid (R.out.kept hg (by intro e; have e := Option.some.inj e; omega))
          replace D := Lib.hid (D.out.kept hg (by intro e; have e := Option.some.inj e; omega))
          replace I1 := Lib.hid (I1.out.kept hg (by omega))
          replace I2 := Lib.hid (I2.out.kept hg (by omega))
          replace K := Lib.hid (K.out.kept hg (by intro e; have e := Option.some.inj e; omega))
          replace T := Lib.hid (T.out.kept hg (by intro e; have e := Option.some.inj e; omega))
          replace H := Lib.hid (H.out.grownN hg (by omega) (by omega))
          replace R1 := Lib.hid (R1.out.kept hg (by intro e; have e := Option.some.inj e; omega))
          replace R2 := Lib.hid (R2.out.kept hg (by intro e; have e := Option.some.inj e; omega))
          clear hg
          clear hT
          refine hKq.out _ _ (⟨T.out.cell 0, T.out.cell 1⟩) (fun hHeld => ?_)
          clear hKq Kq
          refine wpAnyH_done (by kernel_rfl) ?_ _
          clear hHeld x30 x31 hxl
          revert hx6; revert hb12; revert hxb; revert R2; revert R1; revert T6; revert H; revert I2; revert I1; revert K; revert D; revert R; revert G; revert T; revert x3; revert z2; revert z1; revert c2; revert b2; revert c1; revert b1; revert c0; revert b0; revert x6; revert W6
          exact hk.out
      · go_simp
        refine at_alloc ?_
        intro Wa hg hT
        have hx6 : xh + 1 ≤ W3.heap.size := T.out.lt
        try have hxb : W3.heap.size < b1 ∨ b2 < W3.heap.size := .inr R2.out.lt
        generalize W3.heap.size = x6 at *
        have T6 := Lib.hid hT
        replace G := Lib.hid (gtr G.out hg)
        replace R := Lib.hid (R.out.keptN hg)
        replace D := Lib.hid (D.out.keptN hg)
        replace I1 := Lib.hid (I1.out.keptN hg)
        replace I2 := Lib.hid (I2.out.keptN hg)
        replace K := Lib.hid (K.out.keptN hg)
        replace T := Lib.hid (T.out.keptN hg)
        replace H := Lib.hid (H.out.gN hg)
        clear hg
        clear hT
        refine hKq.out _ _ (⟨T.out.cell 0, T.out.cell 1⟩) (fun hHeld => ?_)
        clear hKq Kq
        refine wpAnyH_ready (rs := [8]) (by kernel_rfl) (by simp) ?_
        refine AllReadyH.cons (o := ⟨some 40, _, _, _, _, _⟩) rfl (fun Kq hKq => ?_) AllReadyH.nil
        go_simp
        go_at_call 30
        refine (s11poly _ n s x3 hn1 (by omega) x30 (by omega)).mono ?_
        rintro e W4 ⟨b0, c0, rfl, hr, hg⟩
        have Z := Lib.hid hr; clear hr
        replace G := Lib.hid (gtr G.out hg)
        replace R := Lib.hid (R.out.keptN hg)
        replace D := Lib.hid (D.out.keptN hg)
        replace I1 := Lib.hid (I1.out.keptN hg)
        replace I2 := Lib.hid (I2.out.keptN hg)
        replace K := Lib.hid (K.out.keptN hg)
        replace T := Lib.hid (T.out.keptN hg)
        replace H := Lib.hid (H.out.gN hg)
        replace T6 := Lib.hid (T6.out.keptN hg)
        clear hg
        refine hKq.out _ _ (⟨T.out.cell 0, T.out.cell 1⟩) (fun hHeld => ?_)
        clear hKq Kq
        refine wpAnyH_ready (rs := [9]) (by kernel_rfl) (by simp) ?_
        refine AllReadyH.cons (o := ⟨some 41, _, _, _, _, _⟩) rfl (fun Kq hKq => ?_) AllReadyH.nil
        go_simp
        go_at_call 29
        refine (s11make _ _ m _ n _ _ Z.out.ints (by omega) (fun j _ => dz_ok hfs j) (by omega)).mono ?_
        rintro e W5 ⟨b1, c1, B2, v, rfl, hB2, hb1, hr1, hL, hg⟩
        have hK9 := T.out.lt
        rcases hL with ⟨_, hL⟩ | ⟨b2, c2, rfl, hr2⟩
        · have := shl_len n (dz s x3) m; rw [hL] at this; simp at this; omega
        rw [shl_len] at hr2 ⊢
        have hb2 := hr2.from_
        try have hxb : x6 < b1 ∨ b2 < x6 := .inl (by have := T6.out.lt; have := hr1.from_; omega)
        generalize gz _ = z1 at hr1
        generalize li _ = z2 at hr2
        clear Z
        replace G := Lib.hid (gtr G.out hg)
        replace R := Lib.hid (R.out.keptN hg)
        replace D := Lib.hid (D.out.keptN hg)
        replace I1 := Lib.hid (I1.out.keptN hg)
        replace I2 := Lib.hid (I2.out.keptN hg)
        replace K := Lib.hid (K.out.keptN hg)
        replace T := Lib.hid (T.out.keptN hg)
        replace H := Lib.hid (H.out.gN hg)
        replace T6 := Lib.hid (T6.out.keptN hg)
        clear hg
        have R1 := Lib.hid (hr1.lower (lo' := xh + 1) (by omega)); have R2 := Lib.hid (hr2.lower (lo' := xh + 1) (by omega))
        have hb12 : b1 < b2 := by omega
        clear hr1 hr2 hb1 hB2 hb2 hK9
        refine hKq.out _ _ (⟨T.out.cell 0, T.out.cell 1⟩) (fun hHeld => ?_)
        clear hKq Kq
        refine wpAnyH_ready (rs := [11]) (by kernel_rfl) (by simp) ?_
        refine AllReadyH.cons (o := ⟨none, _, _, _, _, _⟩) rfl (fun Kq hKq => ?_) AllReadyH.nil
        rw [if_pos (by rfl)]
        refine wp_store_blk 27 (.tmp 12) (.tmp 41) _ _ _ 27 T6.out rfl rfl rfl rfl (by kernel_rfl) (by simp [Value.oneCell']) rfl ?_
        intro W6 hg hT
        replace T6 := Lib.hid hT
        replace G := Lib.hid (grown_new G.out (by omega) hg)
        replace R := Lib.hid (R.out.kept hg (by intro e; have e := Option.some.inj e; omega))
        replace D := Lib.hid (D.out.kept hg (by intro e; have e := Option.some.inj e; omega))
        replace I1 := Lib.hid (I1.out.kept hg (by omega))
        replace I2 := Lib.hid (I2.out.kept hg (by omega))
        replace K := Lib.hid (K.out.kept hg (by intro e; have e := Option.some.inj e; omega))
        replace T := Lib.hid (T.out.kept hg (by intro e; have e := Option.some.inj e; omega))
        replace H := Lib.hid (H.out.grownN hg (by omega) (by omega))
        replace R1 := Lib.hid (R1.out.kept hg (by intro e; have e := Option.some.inj e; omega))
        replace R2 := Lib.hid (R2.out.kept hg (by intro e; have e := Option.some.inj e; omega))
        clear hg
        clear hT
        refine hKq.out _ _ (⟨T.out.cell 0, T.out.cell 1⟩) (fun hHeld => ?_)
        clear hKq Kq
        refine wpAnyH_done (by kernel_rfl) ?_ _
        clear hHeld x30 x31 hxl
        revert hx6; revert hb12; revert hxb; revert R2; revert R1; revert T6; revert H; revert I2; revert I1; revert K; revert D; revert R; revert G; revert T; revert x3; revert z2; revert z1; revert c2; revert b2; revert c1; revert b1; revert c0; revert b0; revert x6; revert W6
        exact hk.out
    · go_simp
      refine at_alloc ?_
      intro Wa hg hT
      have hx6 : xh + 1 ≤ W.heap.size := T.out.lt
      try have hxb : W.heap.size < b1 ∨ b2 < W.heap.size := .inr R2.out.lt
      generalize W.heap.size = x6 at *
      have T6 := Lib.hid hT
      replace G := Lib.hid (gtr G.out hg)
      replace R := Lib.hid (R.out.keptN hg)
      replace D := Lib.hid (D.out.keptN hg)
      replace I1 := Lib.hid (I1.out.keptN hg)
      replace I2 := Lib.hid (I2.out.keptN hg)
      replace K := Lib.hid (K.out.keptN hg)
      replace H := Lib.hid (H.out.gN hg)
      replace T := Lib.hid (T.out.keptN hg)
      clear hg
      clear hT
      refine hKq.out _ _ (⟨T.out.cell 0, T.out.cell 1⟩) (fun hHeld => ?_)
      clear hKq Kq
      refine wpAnyH_ready (rs := [7]) (by kernel_rfl) (by simp) ?_
      refine AllReadyH.cons (o := ⟨some 39, _, _, _, _, _⟩) rfl (fun Kq hKq => ?_) AllReadyH.nil
      go_simp
      go_at_call 28
      refine (pick_any _ _ _ a l1 c1' _ (1000 : Int) H.out (by omega) (by omega)).mono ?_
      rintro e W3 ⟨x3, x30, x31, rfl, hr, hg, hs⟩
      replace H := Lib.hid hr
      replace G := Lib.hid (grown_new G.out (by omega) hg)
      replace R := Lib.hid (R.out.kept hg (by intro e; have e := Option.some.inj e; omega))
      replace D := Lib.hid (D.out.kept hg (by intro e; have e := Option.some.inj e; omega))
      replace I1 := Lib.hid (I1.out.kept hg (by omega))
      replace I2 := Lib.hid (I2.out.kept hg (by omega))
      replace K := Lib.hid (K.out.kept hg (by intro e; have e := Option.some.inj e; omega))
      replace T := Lib.hid (T.out.kept hg (by intro e; have e := Option.some.inj e; omega))
      replace T6 := Lib.hid (T6.out.kept hg (by intro e; have e := Option.some.inj e; omega))
      clear hg
      clear hr hs
      refine hKq.out _ _ (⟨T.out.cell 0, T.out.cell 1⟩) (fun hHeld => ?_)
      clear hKq Kq
      refine wpAnyH_ready (rs := [8]) (by kernel_rfl) (by simp) ?_
      refine AllReadyH.cons (o := ⟨some 40, _, _, _, _, _⟩) rfl (fun Kq hKq => ?_) AllReadyH.nil
      go_simp
      go_at_call 30
      refine (s11poly _ n s x3 hn1 (by omega) x30 (by omega)).mono ?_
      rintro e W4 ⟨b0, c0, rfl, hr, hg⟩
      have Z := Lib.hid hr; clear hr
      replace G := Lib.hid (gtr G.out hg)
      replace R := Lib.hid (R.out.keptN hg)
      replace D := Lib.hid (D.out.keptN hg)
      replace I1 := Lib.hid (I1.out.keptN hg)
      replace I2 := Lib.hid (I2.out.keptN hg)
      replace K := Lib.hid (K.out.keptN hg)
      replace T := Lib.hid (T.out.keptN hg)
      replace T6 := Lib.hid (T6.out.keptN hg)
      replace H := Lib.hid (H.out.gN hg)
      clear hg
      refine hKq.out _ _ (⟨T.out.cell 0, T.out.cell 1⟩) (fun hHeld => ?_)
      clear hKq Kq
      refine wpAnyH_ready (rs := [9]) (by kernel_rfl) (by simp) ?_
      refine AllReadyH.cons (o := ⟨some 41, _, _, _, _, _⟩) rfl (fun Kq hKq => ?_) AllReadyH.nil
      go_simp
      go_at_call 29
      refine (s11make _ _ m _ n _ _ Z.out.ints (by omega) (fun j _ => dz_ok hfs j) (by omega)).mono ?_
      rintro e W5 ⟨b1, c1, B2, v, rfl, hB2, hb1, hr1, hL, hg⟩
      have hK9 := T.out.lt
      rcases hL with ⟨_, hL⟩ | ⟨b2, c2, rfl, hr2⟩
      · have := shl_len n (dz s x3) m; rw [hL] at this; simp at this; omega
      rw [shl_len] at hr2 ⊢
      have hb2 := hr2.from_
      try have hxb : x6 < b1 ∨ b2 < x6 := .inl (by have := T6.out.lt; have := hr1.from_; omega)
      generalize gz _ = z1 at hr1
      generalize li _ = z2 at hr2
      clear Z
      replace G := Lib.hid (gtr G.out hg)
      replace R := Lib.hid (R.out.keptN hg)
      replace D := Lib.hid (D.out.keptN hg)
      replace I1 := Lib.hid (I1.out.keptN hg)
      replace I2 := Lib.hid (I2.out.keptN hg)
      replace K := Lib.hid (K.out.keptN hg)
      replace T := Lib.hid (T.out.keptN hg)
      replace T6 := Lib.hid (T6.out.keptN hg)
      replace H := Lib.hid (H.out.gN hg)
      clear hg
      have R1 := Lib.hid (hr1.lower (lo' := xh + 1) (by omega)); have R2 := Lib.hid (hr2.lower (lo' := xh + 1) (by omega))
      have hb12 : b1 < b2 := by omega
      clear hr1 hr2 hb1 hB2 hb2 hK9
      refine hKq.out _ _ (⟨T.out.cell 0, T.out.cell 1⟩) (fun hHeld => ?_)
      clear hKq Kq
      refine wpAnyH_ready (rs := [11]) (by kernel_rfl) (by simp) ?_
      refine AllReadyH.cons (o := ⟨none, _, _, _, _, _⟩) rfl (fun Kq hKq => ?_) AllReadyH.nil
      rw [if_pos (by rfl)]
      refine wp_store_blk 27 (.tmp 12) (.tmp 41) _ _ _ 27 T6.out rfl rfl rfl rfl (by kernel_rfl) (by simp [Value.oneCell']) rfl ?_
      intro W6 hg hT
      replace T6 := Lib.hid hT
      replace G := Lib.hid (grown_new G.out (by omega) hg)
      replace R := Lib.hid (R.out.kept hg (by intro e; have e := Option.some.inj e; omega))
      replace D := Lib.hid (D.out.kept hg (by intro e; have e := Option.some.inj e; omega))
      replace I1 := Lib.hid (I1.out.kept hg (by omega))
      replace I2 := Lib.hid (I2.out.kept hg (by omega))
      replace K := Lib.hid (K.out.kept hg (by intro e; have e := Option.some.inj e; omega))
      replace T := Lib.hid (T.out.kept hg (by intro e; have e := Option.some.inj e; omega))
      replace H := Lib.hid (H.out.grownN hg (by omega) (by omega))
      replace R1 := Lib.hid (R1.out.kept hg (by intro e; have e := Option.some.inj e; omega))
      replace R2 := Lib.hid (R2.out.kept hg (by intro e; have e := Option.some.inj e; omega))
      clear hg
      clear hT
      refine hKq.out _ _ (⟨T.out.cell 0, T.out.cell 1⟩) (fun hHeld => ?_)
      clear hKq Kq
      refine wpAnyH_done (by kernel_rfl) ?_ _
      clear hHeld x30 x31 hxl
      revert hx6; revert hb12; revert hxb; revert R2; revert R1; revert T6; revert H; revert I2; revert I1; revert K; revert D; revert R; revert G; revert T; revert x3; revert z2; revert z1; revert c2; revert b2; revert c1; revert b1; revert c0; revert b0; revert x6; revert W6
      exact hk.out
  case rest =>
    intro W x6 b0 c0 b1 c1 b2 c2 z1 z2 x3 T G R D K I1 I2 H T6 R1 R2 hxb hb12 hx6
    clear T
    have hb2l := R2.out.from_; have hb1l := R1.out.from_; have hk5 := K.out.lt; have hlR := R.out.lt; have hlD := D.out.lt; have hl6 := T6.out.lt
    go_wp2_with fail
    refine (pick_any _ _ _ a l1 c1' _ (6 : Int) H.out (by omega) (by omega)).mono ?_
    rintro e W2 ⟨x4, x40, x41, rfl, hr, hg, hs⟩
    replace H := Lib.hid hr
    clear hk5 hlR hlD hl6
    replace G := Lib.hid (grown_new G.out (by omega) hg)
    replace R := Lib.hid (R.out.kept hg (by intro e; have e := Option.some.inj e; omega))
    replace D := Lib.hid (D.out.kept hg (by intro e; have e := Option.some.inj e; omega))
    replace K := Lib.hid (K.out.kept hg (by intro e; have e := Option.some.inj e; omega))
    replace I1 := Lib.hid (I1.out.kept hg (by omega))
    replace I2 := Lib.hid (I2.out.kept hg (by omega))
    replace T6 := Lib.hid (T6.out.kept hg (by intro e; have e := Option.some.inj e; omega))
    replace R1 := Lib.hid (R1.out.kept hg (by intro e; have e := Option.some.inj e; omega))
    replace R2 := Lib.hid (R2.out.kept hg (by intro e; have e := Option.some.inj e; omega))
    clear hg
    clear hr hs
    rcases (by omega : x4 = 0 ∨ x4 = 1 ∨ 2 ≤ x4) with rfl | rfl | hx4
    · go_wp2_with fail
      refine wp_region_held_drew (S := (fun w' => w'.cell? ⟨x6, 2, none⟩ = some (.slice (some ⟨b2, 0, none⟩) m c2))) (by kernel_rfl) ((T6.out.cell 2)) (fun hHeld => ?_)
      have hg := gdrew W2
      replace G := Lib.hid (gtr G.out hg)
      replace R := Lib.hid (R.out.keptN hg)
      replace D := Lib.hid (D.out.keptN hg)
      replace K := Lib.hid (K.out.keptN hg)
      replace I1 := Lib.hid (I1.out.keptN hg)
      replace I2 := Lib.hid (I2.out.keptN hg)
      replace T6 := Lib.hid (T6.out.keptN hg)
      replace R1 := Lib.hid (R1.out.keptN hg)
      replace R2 := Lib.hid (R2.out.keptN hg)
      replace H := Lib.hid (H.out.gN hg)
      clear hg
      generalize W2.drew = W3 at *
      refine wpAnyH_take (i := 0) (oi := ⟨some 46, _, _, _, _, _⟩) (v := ?_) rfl (by kernel_rfl) (by kernel_rfl) (by kernel_rfl) (fun _ _ _ h => h) (Or.inl ⟨by rfl, ?_⟩) (by assumption) ?_
      rotate_left
      · intro w hSw; (try dsimp only at hSw); go_simp; try with_reducible rfl
      simp only [Act.put, List.setIfInBounds_toArray, List.set_cons_zero, List.set_cons_succ]
      refine wpAnyH_take (i := 1) (oi := ⟨some 47, _, _, _, _, _⟩) (v := ?_) rfl (by kernel_rfl) (by kernel_rfl) (by kernel_rfl) (fun _ _ _ h => h) (Or.inl ⟨by rfl, ?_⟩) (by assumption) ?_
      rotate_left
      · intro w hSw; (try dsimp only at hSw); go_simp; try with_reducible rfl
      simp only [Act.put, List.setIfInBounds_toArray, List.set_cons_zero, List.set_cons_succ]
      refine wpAnyH_take (i := 2) (oi := ⟨some 48, _, _, _, _, _⟩) (v := ?_) rfl (by kernel_rfl) (by kernel_rfl) (by kernel_rfl) (fun _ _ _ h => h) (Or.inl ⟨by rfl, ?_⟩) (by assumption) ?_
      rotate_left
      · intro w hSw; (try dsimp only at hSw); go_simp; try with_reducible rfl
      simp only [Act.put, List.setIfInBounds_toArray, List.set_cons_zero, List.set_cons_succ]
      refine wpAnyH_take (i := 3) (oi := ⟨some 49, _, _, _, _, _⟩) (v := ?_) rfl (by kernel_rfl) (by kernel_rfl) (by kernel_rfl) (fun _ _ _ h => h) (Or.inl ⟨by rfl, ?_⟩) (by assumption) ?_
      rotate_left
      · intro w hSw; (try dsimp only at hSw); go_simp; try with_reducible rfl
      simp only [Act.put, List.setIfInBounds_toArray, List.set_cons_zero, List.set_cons_succ]
      refine wpAnyH_take (i := 5) (oi := ⟨some 51, _, _, _, _, _⟩) (v := ?_) rfl (by kernel_rfl) (by kernel_rfl) (by kernel_rfl) (fun _ _ _ h => h) (Or.inl ⟨by rfl, ?_⟩) (by assumption) ?_
      rotate_left
      · intro w hSw; (try dsimp only at hSw); go_simp; try with_reducible rfl
      simp only [Act.put, List.setIfInBounds_toArray, List.set_cons_zero, List.set_cons_succ]
      refine wpAnyH_ready (rs := [4]) (by kernel_rfl) (by simp) ?_
      refine AllReadyH.cons (o := ⟨some 50, _, _, _, _, _⟩) rfl (fun Kq hKq => ?_) AllReadyH.nil
      go_simp
      go_at_call 28
      refine (pick_any _ _ _ a l1 c1' _ (m : Int) H.out (by omega) (by omega)).mono ?_
      rintro e W4 ⟨y1, y10, y11, rfl, hr, hg, hs⟩
      replace H := Lib.hid hr
      obtain ⟨yn, rfl⟩ : ∃ yn : Nat, y1 = yn := ⟨y1.toNat, by omega⟩
      have hyn : yn < m := by omega
      replace G := Lib.hid (grown_new G.out (by omega) hg)
      replace R := Lib.hid (R.out.kept hg (by intro e; have e := Option.some.inj e; omega))
      replace D := Lib.hid (D.out.kept hg (by intro e; have e := Option.some.inj e; omega))
      replace K := Lib.hid (K.out.kept hg (by intro e; have e := Option.some.inj e; omega))
      replace I1 := Lib.hid (I1.out.kept hg (by omega))
      replace I2 := Lib.hid (I2.out.kept hg (by omega))
      replace T6 := Lib.hid (T6.out.kept hg (by intro e; have e := Option.some.inj e; omega))
      replace R1 := Lib.hid (R1.out.kept hg (by intro e; have e := Option.some.inj e; omega))
      replace R2 := Lib.hid (R2.out.kept hg (by intro e; have e := Option.some.inj e; omega))
      clear hg
      clear hr hs
      refine hKq.out _ _ ((T6.out.cell 2)) (fun hHeld => ?_)
      clear hKq Kq
      refine wpAnyH_ready (rs := [6]) (by kernel_rfl) (by simp) ?_
      refine AllReadyH.cons (o := ⟨some 52, _, _, _, _, _⟩) rfl (fun Kq hKq => ?_) AllReadyH.nil
      go_simp
      go_at_call 28
      refine (pick_any _ _ _ a l1 c1' _ (23 : Int) H.out (by omega) (by omega)).mono ?_
      rintro e W5 ⟨y2, y20, y21, rfl, hr, hg, hs⟩
      replace H := Lib.hid hr
      replace G := Lib.hid (grown_new G.out (by omega) hg)
      replace R := Lib.hid (R.out.kept hg (by intro e; have e := Option.some.inj e; omega))
      replace D := Lib.hid (D.out.kept hg (by intro e; have e := Option.some.inj e; omega))
      replace K := Lib.hid (K.out.kept hg (by intro e; have e := Option.some.inj e; omega))
      replace I1 := Lib.hid (I1.out.kept hg (by omega))
      replace I2 := Lib.hid (I2.out.kept hg (by omega))
      replace T6 := Lib.hid (T6.out.kept hg (by intro e; have e := Option.some.inj e; omega))
      replace R1 := Lib.hid (R1.out.kept hg (by intro e; have e := Option.some.inj e; omega))
      replace R2 := Lib.hid (R2.out.kept hg (by intro e; have e := Option.some.inj e; omega))
      clear hg
      clear hr hs
      refine hKq.out _ _ ((T6.out.cell 2)) (fun hHeld => ?_)
      clear hKq Kq
      refine wpAnyH_take (i := 7) (oi := ⟨some 53, _, _, _, _, _⟩) (v := ?_) rfl (by kernel_rfl) (by kernel_rfl) (by kernel_rfl) (fun _ _ _ h => h) (Or.inl ⟨by rfl, ?_⟩) (by assumption) ?_
      rotate_left
      · intro w hSw; (try dsimp only at hSw); go_simp; try with_reducible rfl
      simp only [Act.put, List.setIfInBounds_toArray, List.set_cons_zero, List.set_cons_succ]
      have t0 := R2.out.cell hyn
      have t1 := R2.out.frozen yn
      refine wpAnyH_ready (rs := [8]) (by kernel_rfl) (by simp) ?_
      refine AllReadyH.cons (o := ⟨none, _, _, _, _, _⟩) rfl (fun Kq hKq => ?_) AllReadyH.nil
      go_simp
      have hg := Mem.grown_set W5 b2 yn (.int .i64 y2)
      have hr2 := R2.out.set yn y2
      replace G := Lib.hid (grown_new G.out (by omega) hg)
      replace R := Lib.hid (R.out.kept hg (by intro e; have e := Option.some.inj e; omega))
      replace D := Lib.hid (D.out.kept hg (by intro e; have e := Option.some.inj e; omega))
      replace K := Lib.hid (K.out.kept hg (by intro e; have e := Option.some.inj e; omega))
      replace I1 := Lib.hid (I1.out.kept hg (by omega))
      replace I2 := Lib.hid (I2.out.kept hg (by omega))
      replace T6 := Lib.hid (T6.out.kept hg (by intro e; have e := Option.some.inj e; omega))
      replace R1 := Lib.hid (R1.out.kept hg (by intro e; have e := Option.some.inj e; omega))
      replace H := Lib.hid (H.out.grownN hg (by omega) (by omega))
      clear hg
      replace R2 := Lib.hid hr2
      clear hr2
      generalize W5.setCell ⟨b2, yn, none⟩ (.int .i64 y2) = W6 at *
      refine hKq.out _ _ ((T6.out.cell 2)) (fun hHeld => ?_)
      clear hKq Kq
      refine wpAnyH_done (by kernel_rfl) ?_ _
      try go_wp2_with fail
      refine wp_region_held_drew (S := (fun w' => w'.cell? ⟨w2.heap.size, 0, none⟩ = some (.int .i64 (need : Int)) ∧ w'.cell? ⟨w2.heap.size, 1, none⟩ = some (.int .i64 (many : Int)) ∧ w'.cell? ⟨w2.heap.size, 2, none⟩ = some (.slice ag ng cg) ∧ w'.cell? ⟨w2.heap.size, 3, none⟩ = some (.slice ac nc cc) ∧ w'.cell? ⟨x6, 0, none⟩ = some (.int .i64 fq) ∧ w'.cell? ⟨x6, 1, none⟩ = some (.slice (some ⟨b1, 0, none⟩) n c1) ∧ w'.cell? ⟨x6, 2, none⟩ = some (.slice (some ⟨b2, 0, none⟩) m c2))) (by kernel_rfl) (⟨K.out.cell 0, K.out.cell 1, K.out.cell 2, K.out.cell 3, T6.out.cell 0, T6.out.cell 1, T6.out.cell 2⟩) (fun hHeld => ?_)
      have hg := gdrew W6
      replace G := Lib.hid (gtr G.out hg)
      replace R := Lib.hid (R.out.keptN hg)
      replace D := Lib.hid (D.out.keptN hg)
      replace K := Lib.hid (K.out.keptN hg)
      replace I1 := Lib.hid (I1.out.keptN hg)
      replace I2 := Lib.hid (I2.out.keptN hg)
      replace T6 := Lib.hid (T6.out.keptN hg)
      replace R1 := Lib.hid (R1.out.keptN hg)
      replace H := Lib.hid (H.out.gN hg)
      replace R2 := Lib.hid (R2.out.keptN hg)
      clear hg
      generalize (W6).drew = V at *
      refine wpAnyH_take (i := 0) (oi := ⟨some 60, _, _, _, _, _⟩) (v := ?_) rfl (by kernel_rfl) (by kernel_rfl) (by kernel_rfl) (fun _ _ _ h => h) (Or.inl ⟨by rfl, ?_⟩) (by assumption) ?_
      rotate_left
      · intro w hSw; (try dsimp only at hSw); go_simp; try with_reducible rfl
      simp only [Act.put, List.setIfInBounds_toArray, List.set_cons_zero, List.set_cons_succ]
      refine wpAnyH_take (i := 1) (oi := ⟨some 61, _, _, _, _, _⟩) (v := ?_) rfl (by kernel_rfl) (by kernel_rfl) (by kernel_rfl) (fun _ _ _ h => h) (Or.inl ⟨by rfl, ?_⟩) (by assumption) ?_
      rotate_left
      · intro w hSw; (try dsimp only at hSw); go_simp; try with_reducible rfl
      simp only [Act.put, List.setIfInBounds_toArray, List.set_cons_zero, List.set_cons_succ]
      refine wpAnyH_take (i := 2) (oi := ⟨some 62, _, _, _, _, _⟩) (v := ?_) rfl (by kernel_rfl) (by kernel_rfl) (by kernel_rfl) (fun _ _ _ h => h) (Or.inl ⟨by rfl, ?_⟩) (by assumption) ?_
      rotate_left
      · intro w hSw; (try dsimp only at hSw); go_simp; try with_reducible rfl
      simp only [Act.put, List.setIfInBounds_toArray, List.set_cons_zero, List.set_cons_succ]
      refine wpAnyH_take (i := 3) (oi := ⟨some 63, _, _, _, _, _⟩) (v := ?_) rfl (by kernel_rfl) (by kernel_rfl) (by kernel_rfl) (fun _ _ _ h => h) (Or.inl ⟨by rfl, ?_⟩) (by assumption) ?_
      rotate_left
      · intro w hSw; (try dsimp only at hSw); go_simp; try with_reducible rfl
      simp only [Act.put, List.setIfInBounds_toArray, List.set_cons_zero, List.set_cons_succ]
      refine wpAnyH_ready (rs := [4]) (by kernel_rfl) (by simp) ?_
      refine AllReadyH.cons (o := ⟨none, _, _, _, _, _⟩) rfl (fun Kq hKq => ?_) AllReadyH.nil
      rw [if_pos (by rfl)]
      refine wp_store_blk 25 (.tmp 2) (.tmp 60) _ _ _ 25 R.out rfl rfl rfl rfl (by kernel_rfl) (by simp [Value.oneCell']) rfl ?_
      intro V2 hg hT
      replace R := Lib.hid hT
      replace G := Lib.hid (grown_new G.out (by omega) hg)
      replace D := Lib.hid (D.out.kept hg (by intro e; have e := Option.some.inj e; omega))
      replace K := Lib.hid (K.out.kept hg (by intro e; have e := Option.some.inj e; omega))
      replace I1 := Lib.hid (I1.out.kept hg (by omega))
      replace I2 := Lib.hid (I2.out.kept hg (by omega))
      replace T6 := Lib.hid (T6.out.kept hg (by intro e; have e := Option.some.inj e; omega))
      replace R1 := Lib.hid (R1.out.kept hg (by intro e; have e := Option.some.inj e; omega))
      replace H := Lib.hid (H.out.grownN hg (by omega) (by omega))
      replace R2 := Lib.hid (R2.out.kept hg (by intro e; have e := Option.some.inj e; omega))
      clear hg
      clear hT
      refine hKq.out _ _ (⟨K.out.cell 0, K.out.cell 1, K.out.cell 2, K.out.cell 3, T6.out.cell 0, T6.out.cell 1, T6.out.cell 2⟩) (fun hHeld => ?_)
      clear hKq Kq
      refine wpAnyH_ready (rs := [5]) (by kernel_rfl) (by simp) ?_
      refine AllReadyH.cons (o := ⟨none, _, _, _, _, _⟩) rfl (fun Kq hKq => ?_) AllReadyH.nil
      rw [if_pos (by rfl)]
      refine wp_store_blk 27 (.tmp 3) (.tmp 61) _ _ _ 27 D.out rfl rfl rfl rfl (by kernel_rfl) (by simp [Value.oneCell']) rfl ?_
      intro V3 hg hT
      replace D := Lib.hid hT
      replace G := Lib.hid (grown_new G.out (by omega) hg)
      replace K := Lib.hid (K.out.kept hg (by intro e; have e := Option.some.inj e; omega))
      replace I1 := Lib.hid (I1.out.kept hg (by omega))
      replace I2 := Lib.hid (I2.out.kept hg (by omega))
      replace T6 := Lib.hid (T6.out.kept hg (by intro e; have e := Option.some.inj e; omega))
      replace R1 := Lib.hid (R1.out.kept hg (by intro e; have e := Option.some.inj e; omega))
      replace H := Lib.hid (H.out.grownN hg (by omega) (by omega))
      replace R2 := Lib.hid (R2.out.kept hg (by intro e; have e := Option.some.inj e; omega))
      replace R := Lib.hid (R.out.kept hg (by intro e; have e := Option.some.inj e; omega))
      clear hg
      clear hT
      refine hKq.out _ _ (⟨K.out.cell 0, K.out.cell 1, K.out.cell 2, K.out.cell 3, T6.out.cell 0, T6.out.cell 1, T6.out.cell 2⟩) (fun hHeld => ?_)
      clear hKq Kq
      refine wpAnyH_take (i := 6) (oi := ⟨some 4, _, _, _, _, _⟩) (v := ?_) rfl (by kernel_rfl) (by kernel_rfl) (by kernel_rfl) (fun _ _ _ h => h) (Or.inl ⟨by rfl, ?_⟩) (by assumption) ?_
      rotate_left
      · intro w hSw; (try dsimp only at hSw); go_simp; try with_reducible rfl
      simp only [Act.put, List.setIfInBounds_toArray, List.set_cons_zero, List.set_cons_succ]
      refine wpAnyH_take (i := 7) (oi := ⟨some 5, _, _, _, _, _⟩) (v := ?_) rfl (by kernel_rfl) (by kernel_rfl) (by kernel_rfl) (fun _ _ _ h => h) (Or.inl ⟨by rfl, ?_⟩) (by assumption) ?_
      rotate_left
      · intro w hSw; (try dsimp only at hSw); go_simp; try with_reducible rfl
      simp only [Act.put, List.setIfInBounds_toArray, List.set_cons_zero, List.set_cons_succ]
      refine wpAnyH_done (by kernel_rfl) ?_ _
      go_wp2
      (try simp only [Exit.inBlock, Exit.then])
      refine bodyPost_ret (ret_kd2 rfl _ rfl rfl R.out D.out) rfl ?_
      exact ⟨need, many, ag, ng, cg, zg, ac, nc, cc, zc, fq, _, n, c1, _, _, m, c2, _, n, m, rfl, by omega, by omega, by omega, by omega, I1.out.i, I2.out.i, R1.out.ints, R2.out.ints, G.out⟩
    · go_wp2_with fail
      refine (pick_any _ _ _ a l1 c1' _ (5 : Int) H.out (by omega) (by omega)).mono ?_
      rintro e W3 ⟨x5, x50, x51, rfl, hr, hg, hs⟩
      replace H := Lib.hid hr
      replace G := Lib.hid (grown_new G.out (by omega) hg)
      replace R := Lib.hid (R.out.kept hg (by intro e; have e := Option.some.inj e; omega))
      replace D := Lib.hid (D.out.kept hg (by intro e; have e := Option.some.inj e; omega))
      replace K := Lib.hid (K.out.kept hg (by intro e; have e := Option.some.inj e; omega))
      replace I1 := Lib.hid (I1.out.kept hg (by omega))
      replace I2 := Lib.hid (I2.out.kept hg (by omega))
      replace T6 := Lib.hid (T6.out.kept hg (by intro e; have e := Option.some.inj e; omega))
      replace R1 := Lib.hid (R1.out.kept hg (by intro e; have e := Option.some.inj e; omega))
      replace R2 := Lib.hid (R2.out.kept hg (by intro e; have e := Option.some.inj e; omega))
      clear hg
      clear hr hs
      obtain ⟨t0, t1, t2, f0, f1, f2⟩ := T6.out.all
      go_wp2_with fail
      have hg := Mem.grown_set W3 x6 0 (.int .i64 (1 + x5))
      have hT := T6.out.set 0 (.int .i64 (1 + x5))
      clear t0 t1 t2 f0 f1 f2
      replace G := Lib.hid (grown_new G.out (by omega) hg)
      replace R := Lib.hid (R.out.kept hg (by intro e; have e := Option.some.inj e; omega))
      replace D := Lib.hid (D.out.kept hg (by intro e; have e := Option.some.inj e; omega))
      replace K := Lib.hid (K.out.kept hg (by intro e; have e := Option.some.inj e; omega))
      replace I1 := Lib.hid (I1.out.kept hg (by omega))
      replace I2 := Lib.hid (I2.out.kept hg (by omega))
      replace R1 := Lib.hid (R1.out.kept hg (by intro e; have e := Option.some.inj e; omega))
      replace R2 := Lib.hid (R2.out.kept hg (by intro e; have e := Option.some.inj e; omega))
      replace H := Lib.hid (H.out.grownN hg (by omega) (by omega))
      clear hg
      replace T6 := Lib.hid hT
      clear hT
      generalize W3.setCell ⟨x6, 0, none⟩ (.int .i64 (1 + x5)) = W6 at *
      generalize hfq : 1 + x5 = fq at *
      try go_wp2_with fail
      refine wp_region_held_drew (S := (fun w' => w'.cell? ⟨w2.heap.size, 0, none⟩ = some (.int .i64 (need : Int)) ∧ w'.cell? ⟨w2.heap.size, 1, none⟩ = some (.int .i64 (many : Int)) ∧ w'.cell? ⟨w2.heap.size, 2, none⟩ = some (.slice ag ng cg) ∧ w'.cell? ⟨w2.heap.size, 3, none⟩ = some (.slice ac nc cc) ∧ w'.cell? ⟨x6, 0, none⟩ = some (.int .i64 fq) ∧ w'.cell? ⟨x6, 1, none⟩ = some (.slice (some ⟨b1, 0, none⟩) n c1) ∧ w'.cell? ⟨x6, 2, none⟩ = some (.slice (some ⟨b2, 0, none⟩) m c2))) (by kernel_rfl) (⟨K.out.cell 0, K.out.cell 1, K.out.cell 2, K.out.cell 3, T6.out.cell 0, T6.out.cell 1, T6.out.cell 2⟩) (fun hHeld => ?_)
      have hg := gdrew W6
      replace G := Lib.hid (gtr G.out hg)
      replace R := Lib.hid (R.out.keptN hg)
      replace D := Lib.hid (D.out.keptN hg)
      replace K := Lib.hid (K.out.keptN hg)
      replace I1 := Lib.hid (I1.out.keptN hg)
      replace I2 := Lib.hid (I2.out.keptN hg)
      replace R1 := Lib.hid (R1.out.keptN hg)
      replace R2 := Lib.hid (R2.out.keptN hg)
      replace H := Lib.hid (H.out.gN hg)
      replace T6 := Lib.hid (T6.out.keptN hg)
      clear hg
      generalize (W6).drew = V at *
      refine wpAnyH_take (i := 0) (oi := ⟨some 60, _, _, _, _, _⟩) (v := ?_) rfl (by kernel_rfl) (by kernel_rfl) (by kernel_rfl) (fun _ _ _ h => h) (Or.inl ⟨by rfl, ?_⟩) (by assumption) ?_
      rotate_left
      · intro w hSw; (try dsimp only at hSw); go_simp; try with_reducible rfl
      simp only [Act.put, List.setIfInBounds_toArray, List.set_cons_zero, List.set_cons_succ]
      refine wpAnyH_take (i := 1) (oi := ⟨some 61, _, _, _, _, _⟩) (v := ?_) rfl (by kernel_rfl) (by kernel_rfl) (by kernel_rfl) (fun _ _ _ h => h) (Or.inl ⟨by rfl, ?_⟩) (by assumption) ?_
      rotate_left
      · intro w hSw; (try dsimp only at hSw); go_simp; try with_reducible rfl
      simp only [Act.put, List.setIfInBounds_toArray, List.set_cons_zero, List.set_cons_succ]
      refine wpAnyH_take (i := 2) (oi := ⟨some 62, _, _, _, _, _⟩) (v := ?_) rfl (by kernel_rfl) (by kernel_rfl) (by kernel_rfl) (fun _ _ _ h => h) (Or.inl ⟨by rfl, ?_⟩) (by assumption) ?_
      rotate_left
      · intro w hSw; (try dsimp only at hSw); go_simp; try with_reducible rfl
      simp only [Act.put, List.setIfInBounds_toArray, List.set_cons_zero, List.set_cons_succ]
      refine wpAnyH_take (i := 3) (oi := ⟨some 63, _, _, _, _, _⟩) (v := ?_) rfl (by kernel_rfl) (by kernel_rfl) (by kernel_rfl) (fun _ _ _ h => h) (Or.inl ⟨by rfl, ?_⟩) (by assumption) ?_
      rotate_left
      · intro w hSw; (try dsimp only at hSw); go_simp; try with_reducible rfl
      simp only [Act.put, List.setIfInBounds_toArray, List.set_cons_zero, List.set_cons_succ]
      refine wpAnyH_ready (rs := [4]) (by kernel_rfl) (by simp) ?_
      refine AllReadyH.cons (o := ⟨none, _, _, _, _, _⟩) rfl (fun Kq hKq => ?_) AllReadyH.nil
      rw [if_pos (by rfl)]
      refine wp_store_blk 25 (.tmp 2) (.tmp 60) _ _ _ 25 R.out rfl rfl rfl rfl (by kernel_rfl) (by simp [Value.oneCell']) rfl ?_
      intro V2 hg hT
      replace R := Lib.hid hT
      replace G := Lib.hid (grown_new G.out (by omega) hg)
      replace D := Lib.hid (D.out.kept hg (by intro e; have e := Option.some.inj e; omega))
      replace K := Lib.hid (K.out.kept hg (by intro e; have e := Option.some.inj e; omega))
      replace I1 := Lib.hid (I1.out.kept hg (by omega))
      replace I2 := Lib.hid (I2.out.kept hg (by omega))
      replace R1 := Lib.hid (R1.out.kept hg (by intro e; have e := Option.some.inj e; omega))
      replace R2 := Lib.hid (R2.out.kept hg (by intro e; have e := Option.some.inj e; omega))
      replace H := Lib.hid (H.out.grownN hg (by omega) (by omega))
      replace T6 := Lib.hid (T6.out.kept hg (by intro e; have e := Option.some.inj e; omega))
      clear hg
      clear hT
      refine hKq.out _ _ (⟨K.out.cell 0, K.out.cell 1, K.out.cell 2, K.out.cell 3, T6.out.cell 0, T6.out.cell 1, T6.out.cell 2⟩) (fun hHeld => ?_)
      clear hKq Kq
      refine wpAnyH_ready (rs := [5]) (by kernel_rfl) (by simp) ?_
      refine AllReadyH.cons (o := ⟨none, _, _, _, _, _⟩) rfl (fun Kq hKq => ?_) AllReadyH.nil
      rw [if_pos (by rfl)]
      refine wp_store_blk 27 (.tmp 3) (.tmp 61) _ _ _ 27 D.out rfl rfl rfl rfl (by kernel_rfl) (by simp [Value.oneCell']) rfl ?_
      intro V3 hg hT
      replace D := Lib.hid hT
      replace G := Lib.hid (grown_new G.out (by omega) hg)
      replace K := Lib.hid (K.out.kept hg (by intro e; have e := Option.some.inj e; omega))
      replace I1 := Lib.hid (I1.out.kept hg (by omega))
      replace I2 := Lib.hid (I2.out.kept hg (by omega))
      replace R1 := Lib.hid (R1.out.kept hg (by intro e; have e := Option.some.inj e; omega))
      replace R2 := Lib.hid (R2.out.kept hg (by intro e; have e := Option.some.inj e; omega))
      replace H := Lib.hid (H.out.grownN hg (by omega) (by omega))
      replace T6 := Lib.hid (T6.out.kept hg (by intro e; have e := Option.some.inj e; omega))
      replace R := Lib.hid (R.out.kept hg (by intro e; have e := Option.some.inj e; omega))
      clear hg
      clear hT
      refine hKq.out _ _ (⟨K.out.cell 0, K.out.cell 1, K.out.cell 2, K.out.cell 3, T6.out.cell 0, T6.out.cell 1, T6.out.cell 2⟩) (fun hHeld => ?_)
      clear hKq Kq
      refine wpAnyH_take (i := 6) (oi := ⟨some 4, _, _, _, _, _⟩) (v := ?_) rfl (by kernel_rfl) (by kernel_rfl) (by kernel_rfl) (fun _ _ _ h => h) (Or.inl ⟨by rfl, ?_⟩) (by assumption) ?_
      rotate_left
      · intro w hSw; (try dsimp only at hSw); go_simp; try with_reducible rfl
      simp only [Act.put, List.setIfInBounds_toArray, List.set_cons_zero, List.set_cons_succ]
      refine wpAnyH_take (i := 7) (oi := ⟨some 5, _, _, _, _, _⟩) (v := ?_) rfl (by kernel_rfl) (by kernel_rfl) (by kernel_rfl) (fun _ _ _ h => h) (Or.inl ⟨by rfl, ?_⟩) (by assumption) ?_
      rotate_left
      · intro w hSw; (try dsimp only at hSw); go_simp; try with_reducible rfl
      simp only [Act.put, List.setIfInBounds_toArray, List.set_cons_zero, List.set_cons_succ]
      refine wpAnyH_done (by kernel_rfl) ?_ _
      go_wp2
      (try simp only [Exit.inBlock, Exit.then])
      refine bodyPost_ret (ret_kd2 rfl _ rfl rfl R.out D.out) rfl ?_
      exact ⟨need, many, ag, ng, cg, zg, ac, nc, cc, zc, fq, _, n, c1, _, _, m, c2, _, n, m, rfl, by omega, by omega, by omega, by omega, I1.out.i, I2.out.i, R1.out.ints, R2.out.ints, G.out⟩
    · have hx0 : (x4 == 0) = false := by simp; omega
      have hx1 : (x4 == 1) = false := by simp; omega
      try go_wp2_with fail
      refine wp_region_held_drew (S := (fun w' => w'.cell? ⟨w2.heap.size, 0, none⟩ = some (.int .i64 (need : Int)) ∧ w'.cell? ⟨w2.heap.size, 1, none⟩ = some (.int .i64 (many : Int)) ∧ w'.cell? ⟨w2.heap.size, 2, none⟩ = some (.slice ag ng cg) ∧ w'.cell? ⟨w2.heap.size, 3, none⟩ = some (.slice ac nc cc) ∧ w'.cell? ⟨x6, 0, none⟩ = some (.int .i64 fq) ∧ w'.cell? ⟨x6, 1, none⟩ = some (.slice (some ⟨b1, 0, none⟩) n c1) ∧ w'.cell? ⟨x6, 2, none⟩ = some (.slice (some ⟨b2, 0, none⟩) m c2))) (by kernel_rfl) (⟨K.out.cell 0, K.out.cell 1, K.out.cell 2, K.out.cell 3, T6.out.cell 0, T6.out.cell 1, T6.out.cell 2⟩) (fun hHeld => ?_)
      have hg := gdrew W2
      replace G := Lib.hid (gtr G.out hg)
      replace R := Lib.hid (R.out.keptN hg)
      replace D := Lib.hid (D.out.keptN hg)
      replace K := Lib.hid (K.out.keptN hg)
      replace I1 := Lib.hid (I1.out.keptN hg)
      replace I2 := Lib.hid (I2.out.keptN hg)
      replace T6 := Lib.hid (T6.out.keptN hg)
      replace R1 := Lib.hid (R1.out.keptN hg)
      replace R2 := Lib.hid (R2.out.keptN hg)
      replace H := Lib.hid (H.out.gN hg)
      clear hg
      generalize (W2).drew = V at *
      refine wpAnyH_take (i := 0) (oi := ⟨some 60, _, _, _, _, _⟩) (v := ?_) rfl (by kernel_rfl) (by kernel_rfl) (by kernel_rfl) (fun _ _ _ h => h) (Or.inl ⟨by rfl, ?_⟩) (by assumption) ?_
      rotate_left
      · intro w hSw; (try dsimp only at hSw); go_simp; try with_reducible rfl
      simp only [Act.put, List.setIfInBounds_toArray, List.set_cons_zero, List.set_cons_succ]
      refine wpAnyH_take (i := 1) (oi := ⟨some 61, _, _, _, _, _⟩) (v := ?_) rfl (by kernel_rfl) (by kernel_rfl) (by kernel_rfl) (fun _ _ _ h => h) (Or.inl ⟨by rfl, ?_⟩) (by assumption) ?_
      rotate_left
      · intro w hSw; (try dsimp only at hSw); go_simp; try with_reducible rfl
      simp only [Act.put, List.setIfInBounds_toArray, List.set_cons_zero, List.set_cons_succ]
      refine wpAnyH_take (i := 2) (oi := ⟨some 62, _, _, _, _, _⟩) (v := ?_) rfl (by kernel_rfl) (by kernel_rfl) (by kernel_rfl) (fun _ _ _ h => h) (Or.inl ⟨by rfl, ?_⟩) (by assumption) ?_
      rotate_left
      · intro w hSw; (try dsimp only at hSw); go_simp; try with_reducible rfl
      simp only [Act.put, List.setIfInBounds_toArray, List.set_cons_zero, List.set_cons_succ]
      refine wpAnyH_take (i := 3) (oi := ⟨some 63, _, _, _, _, _⟩) (v := ?_) rfl (by kernel_rfl) (by kernel_rfl) (by kernel_rfl) (fun _ _ _ h => h) (Or.inl ⟨by rfl, ?_⟩) (by assumption) ?_
      rotate_left
      · intro w hSw; (try dsimp only at hSw); go_simp; try with_reducible rfl
      simp only [Act.put, List.setIfInBounds_toArray, List.set_cons_zero, List.set_cons_succ]
      refine wpAnyH_ready (rs := [4]) (by kernel_rfl) (by simp) ?_
      refine AllReadyH.cons (o := ⟨none, _, _, _, _, _⟩) rfl (fun Kq hKq => ?_) AllReadyH.nil
      rw [if_pos (by rfl)]
      refine wp_store_blk 25 (.tmp 2) (.tmp 60) _ _ _ 25 R.out rfl rfl rfl rfl (by kernel_rfl) (by simp [Value.oneCell']) rfl ?_
      intro V2 hg hT
      replace R := Lib.hid hT
      replace G := Lib.hid (grown_new G.out (by omega) hg)
      replace D := Lib.hid (D.out.kept hg (by intro e; have e := Option.some.inj e; omega))
      replace K := Lib.hid (K.out.kept hg (by intro e; have e := Option.some.inj e; omega))
      replace I1 := Lib.hid (I1.out.kept hg (by omega))
      replace I2 := Lib.hid (I2.out.kept hg (by omega))
      replace T6 := Lib.hid (T6.out.kept hg (by intro e; have e := Option.some.inj e; omega))
      replace R1 := Lib.hid (R1.out.kept hg (by intro e; have e := Option.some.inj e; omega))
      replace R2 := Lib.hid (R2.out.kept hg (by intro e; have e := Option.some.inj e; omega))
      replace H := Lib.hid (H.out.grownN hg (by omega) (by omega))
      clear hg
      clear hT
      refine hKq.out _ _ (⟨K.out.cell 0, K.out.cell 1, K.out.cell 2, K.out.cell 3, T6.out.cell 0, T6.out.cell 1, T6.out.cell 2⟩) (fun hHeld => ?_)
      clear hKq Kq
      refine wpAnyH_ready (rs := [5]) (by kernel_rfl) (by simp) ?_
      refine AllReadyH.cons (o := ⟨none, _, _, _, _, _⟩) rfl (fun Kq hKq => ?_) AllReadyH.nil
      rw [if_pos (by rfl)]
      refine wp_store_blk 27 (.tmp 3) (.tmp 61) _ _ _ 27 D.out rfl rfl rfl rfl (by kernel_rfl) (by simp [Value.oneCell']) rfl ?_
      intro V3 hg hT
      replace D := Lib.hid hT
      replace G := Lib.hid (grown_new G.out (by omega) hg)
      replace K := Lib.hid (K.out.kept hg (by intro e; have e := Option.some.inj e; omega))
      replace I1 := Lib.hid (I1.out.kept hg (by omega))
      replace I2 := Lib.hid (I2.out.kept hg (by omega))
      replace T6 := Lib.hid (T6.out.kept hg (by intro e; have e := Option.some.inj e; omega))
      replace R1 := Lib.hid (R1.out.kept hg (by intro e; have e := Option.some.inj e; omega))
      replace R2 := Lib.hid (R2.out.kept hg (by intro e; have e := Option.some.inj e; omega))
      replace H := Lib.hid (H.out.grownN hg (by omega) (by omega))
      replace R := Lib.hid (R.out.kept hg (by intro e; have e := Option.some.inj e; omega))
      clear hg
      clear hT
      refine hKq.out _ _ (⟨K.out.cell 0, K.out.cell 1, K.out.cell 2, K.out.cell 3, T6.out.cell 0, T6.out.cell 1, T6.out.cell 2⟩) (fun hHeld => ?_)
      clear hKq Kq
      refine wpAnyH_take (i := 6) (oi := ⟨some 4, _, _, _, _, _⟩) (v := ?_) rfl (by kernel_rfl) (by kernel_rfl) (by kernel_rfl) (fun _ _ _ h => h) (Or.inl ⟨by rfl, ?_⟩) (by assumption) ?_
      rotate_left
      · intro w hSw; (try dsimp only at hSw); go_simp; try with_reducible rfl
      simp only [Act.put, List.setIfInBounds_toArray, List.set_cons_zero, List.set_cons_succ]
      refine wpAnyH_take (i := 7) (oi := ⟨some 5, _, _, _, _, _⟩) (v := ?_) rfl (by kernel_rfl) (by kernel_rfl) (by kernel_rfl) (fun _ _ _ h => h) (Or.inl ⟨by rfl, ?_⟩) (by assumption) ?_
      rotate_left
      · intro w hSw; (try dsimp only at hSw); go_simp; try with_reducible rfl
      simp only [Act.put, List.setIfInBounds_toArray, List.set_cons_zero, List.set_cons_succ]
      refine wpAnyH_done (by kernel_rfl) ?_ _
      go_wp2
      (try simp only [Exit.inBlock, Exit.then])
      refine bodyPost_ret (ret_kd2 rfl _ rfl rfl R.out D.out) rfl ?_
      exact ⟨need, many, ag, ng, cg, zg, ac, nc, cc, zc, fq, _, n, c1, _, _, m, c2, _, n, m, rfl, by omega, by omega, by omega, by omega, I1.out.i, I2.out.i, R1.out.ints, R2.out.ints, G.out⟩
end Draw
end Go.Proofs.YtonhdkideianiaaDoor
