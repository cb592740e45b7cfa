/-
  How the model draws a key with a deal that may make its shares anew.
-/
import Derived.Test.YtlaimokedhdnjaaDoorWk
import Derived.Test.YtlaimokedhdnjaaDoorFr
namespace Go.Proofs.YtlaimokedhdnjaaDoor
namespace Draw
open Go.RowKit Alg Mem Con Mp
set_option linter.unusedVariables false

/-- A key and a deal, drawn. -/
def GotKD (w : World) (e : Ending) (w' : World) : Prop :=
  ∃ (need many : Nat) (ag : Option Addr) (ng cg : Nat) (zg : Nat → Int) (ac : Option Addr) (nc cc : Nat) (zc : Nat → Int) (f : Int) (a1 : Option Addr) (n1 c1 : Nat) (z1 : Nat → Int) (a2 : Option Addr) (n2 c2 : Nat) (z2 : Nat → Int),
    e = .returned (.tuple #[.agg #[.int .i64 need, .int .i64 many, .slice ag ng cg, .slice ac nc cc], .agg #[.int .i64 f, .slice a1 n1 c1, .slice a2 n2 c2]]) ∧ ng ≤ 6 ∧ nc ≤ 6 ∧ n1 ≤ 6 ∧ n2 ≤ 6 ∧ Ints w' ag ng zg ∧ Ints w' ac nc zc ∧ Ints w' a1 n1 z1 ∧ Ints w' a2 n2 z2 ∧ w.grownBy w' none
set_option maxRecDepth 100000 in
set_option maxHeartbeats 4000000 in
theorem drawFO (w : World) (a : Option Addr) (len cap : Nat) (hB : Bytes w w.heap.size a len) (hc : len ≤ cap) (hm : cap ≤ maxLen) :
    Calls Tryd.prog 5 #[.slice a len cap] w (GotKD w) := by
  have hs0 : ((w.alloc (.cells #[.int .i64 0, .int .i64 0, .slice none 0 0, .slice none 0 0] 25)).alloc (.cells #[.int .i64 0, .slice none 0 0, .slice none 0 0] 27)).heap.size = w.heap.size + 2 := by show ((w.heap.push _).push _).size = _; simp
  have G := Lib.hid (gtr (grown_alloc w (.cells #[.int .i64 0, .int .i64 0, .slice none 0 0, .slice none 0 0] 25) none) (grown_alloc _ (.cells #[.int .i64 0, .slice none 0 0, .slice none 0 0] 27) none))
  have HB := Lib.hid (hB.kept (w' := (w.alloc (.cells #[.int .i64 0, .int .i64 0, .slice none 0 0, .slice none 0 0] 25)).alloc (.cells #[.int .i64 0, .slice none 0 0, .slice none 0 0] 27)) (fun k hk => (Below.heap_alloc _ _ _ (by show k < (w.heap.push _).size; simp; omega)).trans (Below.heap_alloc _ _ _ hk)))
  have R := Lib.hid ((Blk.new w #[.int .i64 0, .int .i64 0, .slice none 0 0, .slice none 0 0] 25).keptN (grown_alloc _ (.cells #[.int .i64 0, .slice none 0 0, .slice none 0 0] 27) none))
  have D := Lib.hid (blk_new2 w (.cells #[.int .i64 0, .int .i64 0, .slice none 0 0, .slice none 0 0] 25) #[.int .i64 0, .slice none 0 0, .slice none 0 0] 27)
  clear hB
  go_enter Tryd.func5, Tryd.ntmps5
  go_wp2_with fail
  refine (open_any _ w.heap.size a len cap HB.out (by omega) hc hm).mono ?_
  rintro e w1 ⟨rfl, hg, hs1, l1, c1', hr1⟩
  rw [hs0] at hr1 hs1
  have H := Lib.hid hr1
  replace G := Lib.hid (gtr G.out hg)
  replace R := Lib.hid (R.out.keptN hg)
  replace D := Lib.hid (D.out.keptN hg)
  clear hg
  have hw1 : w.heap.size + 3 ≤ w1.heap.size := by omega
  clear hr1 hs1 HB hs0
  go_wp2_with fail
  refine (some_any _ _ _ a l1 c1' 0 H.out (by omega)).mono ?_
  rintro e w2 ⟨need, many, ag, ng, cg, zg, ac, nc, cc, zc, rfl, hk, hg, p2, hp2, hp2', hr2⟩
  replace H := Lib.hid hr2
  have I1 := Lib.hid hk.irg; have I2 := Lib.hid hk.irc
  have hw2 : w1.heap.size ≤ w2.heap.size := hg.size
  have hng := hk.g6; have hnc := hk.c5; have hn5 := hk.n5
  replace G := Lib.hid (grown_new G.out (by omega) hg)
  replace R := Lib.hid (R.out.kept hg (by intro e; have e := Option.some.inj e; omega))
  replace D := Lib.hid (D.out.kept hg (by intro e; have e := Option.some.inj e; omega))
  clear hg
  clear hr2 hk
  have hg : w2.grownBy (w2.alloc (.cells #[.int .i64 need, .int .i64 many, .slice ag ng cg, .slice ac nc cc] 25)) none := grown_alloc _ _ _
  have K := Lib.hid (Blk.new w2 #[.int .i64 need, .int .i64 many, .slice ag ng cg, .slice ac nc cc] 25)
  replace G := Lib.hid (gtr G.out hg)
  replace R := Lib.hid (R.out.keptN hg)
  replace D := Lib.hid (D.out.keptN hg)
  replace H := Lib.hid (H.out.gN hg)
  replace I1 := Lib.hid (I1.out.keptN hg)
  replace I2 := Lib.hid (I2.out.keptN hg)
  clear hg
  obtain ⟨k0, k1, k2, k3, f0, f1, f2, f3⟩ := K.out.all4
  clear k0 k1 k2 k3 f0 f1 f2 f3
  go_wp2_with fail
  refine (skeyok _ need many _ ng _ zg _ nc _ zc I1.out.i I2.out.i (by omega) (by omega)).mono ?_
  rintro e w3 ⟨rfl, hg⟩
  replace G := Lib.hid (gtr G.out hg)
  replace R := Lib.hid (R.out.keptN hg)
  replace D := Lib.hid (D.out.keptN hg)
  replace H := Lib.hid (H.out.gN hg)
  replace I1 := Lib.hid (I1.out.keptN hg)
  replace I2 := Lib.hid (I2.out.keptN hg)
  replace K := Lib.hid (K.out.keptN hg)
  clear hg
  have hw3 : w2.heap.size + 1 ≤ w3.heap.size := K.out.lt
  obtain ⟨k0, k1, k2, k3, f0, f1, f2, f3⟩ := K.out.all4
  cases hk : kyF need many ng zg nc zc with
  | false =>
    have hlR := R.out.lt; have hlD := D.out.lt
    go_wp2_with (first
      | (refine wpList_store_blk rfl 25 (.tmp 2) (.tmp 14) _ _ _ 25 ((R.out.keptN (grown_alloc w3 _ none)).keptN (grown_alloc _ _ none)) rfl rfl rfl rfl (by kernel_rfl) (by simp [Value.oneCell']) rfl ?_; intro w4 hg4 hR4; have HG4 := Lib.hid hg4; have HR4 := Lib.hid hR4; clear hg4 hR4)
      | (refine wpList_store_blk rfl 27 (.tmp 3) (.tmp 17) _ _ _ 27 (((D.out.keptN (grown_alloc w3 _ none)).keptN (grown_alloc _ _ none)).kept HG4.out (by intro e; have e := Option.some.inj e; omega)) rfl rfl rfl rfl (by kernel_rfl) (by simp [Value.oneCell']) rfl ?_; intro w5 hg5 hD5; have HG5 := Lib.hid hg5; have HD5 := Lib.hid hD5; clear hg5 hD5))
    (try simp only [Exit.inBlock, Exit.then])
    have I3 := Lib.hid (blk_one ((Blk.new w3 #[.int .i64 1] 3).keptN (grown_alloc _ (.cells #[.int .i64 0] 3) none)))
    have I4 := Lib.hid (blk_one (blk_new2 w3 (.cells #[.int .i64 1] 3) #[.int .i64 0] 3))
    have hg : w3.grownBy _ none := gtr (grown_alloc w3 (.cells #[.int .i64 1] 3) none) (grown_alloc _ (.cells #[.int .i64 0] 3) none)
    clear k0 k1 k2 k3 f0 f1 f2 f3
    replace G := Lib.hid (gtr G.out hg)
    replace R := Lib.hid (R.out.keptN hg)
    replace D := Lib.hid (D.out.keptN hg)
    replace H := Lib.hid (H.out.gN hg)
    replace I1 := Lib.hid (I1.out.keptN hg)
    replace I2 := Lib.hid (I2.out.keptN hg)
    replace K := Lib.hid (K.out.keptN hg)
    clear hg
    have hg := HG4.out
    replace R := HR4
    replace G := Lib.hid (grown_new G.out (by omega) hg)
    replace D := Lib.hid (D.out.kept hg (by intro e; have e := Option.some.inj e; omega))
    replace H := Lib.hid (H.out.grownN hg (by omega) (by omega))
    replace I1 := Lib.hid (I1.out.kept hg (by omega))
    replace I2 := Lib.hid (I2.out.kept hg (by omega))
    replace K := Lib.hid (K.out.kept hg (by intro e; have e := Option.some.inj e; omega))
    replace I3 := Lib.hid (I3.out.kept hg (by omega))
    replace I4 := Lib.hid (I4.out.kept hg (by omega))
    clear hg
    have hg := HG5.out
    replace D := HD5
    replace G := Lib.hid (grown_new G.out (by omega) hg)
    replace H := Lib.hid (H.out.grownN hg (by omega) (by omega))
    replace I1 := Lib.hid (I1.out.kept hg (by omega))
    replace I2 := Lib.hid (I2.out.kept hg (by omega))
    replace K := Lib.hid (K.out.kept hg (by intro e; have e := Option.some.inj e; omega))
    replace I3 := Lib.hid (I3.out.kept hg (by omega))
    replace I4 := Lib.hid (I4.out.kept hg (by omega))
    replace R := Lib.hid (R.out.kept hg (by intro e; have e := Option.some.inj e; omega))
    clear hg
    refine bodyPost_ret (ret_kd rfl _ rfl rfl R.out D.out) rfl ?_
    exact ⟨need, many, ag, ng, cg, zg, ac, nc, cc, zc, 1, _, 1, 1, _, _, 1, 1, _, rfl, by omega, by omega, by omega, by omega, I1.out.i, I2.out.i, I3.out.i, I4.out.i, G.out⟩
  | true =>
    have hkk := ky_iff.1 hk
    have hm1 : (1 : Int) ≤ (many : Int) := by omega
    have hn1 : 1 ≤ need := by omega
    have hm5 : many ≤ 5 := by omega
    clear hk hkk k0 k1 k2 k3 f0 f1 f2 f3
    go_wp2_with fail
    refine' (fun (hk : Later _) => ?main) (Later.mk ?rest)
    case main =>
      refine wp_region_held_drew (S := (fun w' => w'.cell? ⟨w2.heap.size, 0, none⟩ = some (.int .i64 (need : Int)) ∧ w'.cell? ⟨w2.heap.size, 1, none⟩ = some (.int .i64 (many : Int)))) (by kernel_rfl) (⟨K.out.cell 0, K.out.cell 1⟩) (fun hHeld => ?_)
      have hg := gdrew w3
      replace G := Lib.hid (gtr G.out hg)
      replace R := Lib.hid (R.out.keptN hg)
      replace D := Lib.hid (D.out.keptN hg)
      replace H := Lib.hid (H.out.gN hg)
      replace I1 := Lib.hid (I1.out.keptN hg)
      replace I2 := Lib.hid (I2.out.keptN hg)
      replace K := Lib.hid (K.out.keptN hg)
      clear hg
      generalize w3.drew = W at *
      refine wpAnyH_take (i := 0) (oi := ⟨some 18, _, _, _, _, _⟩) (v := ?_) rfl (by kernel_rfl) (by kernel_rfl) (by kernel_rfl) (fun _ _ _ h => h) (Or.inl ⟨by rfl, ?_⟩) (by assumption) ?_
      rotate_left
      · intro w hSw; (try dsimp only at hSw); go_simp; try with_reducible rfl
      simp only [Act.put, List.setIfInBounds_toArray, List.set_cons_zero, List.set_cons_succ]
      refine wpAnyH_take (i := 1) (oi := ⟨some 19, _, _, _, _, _⟩) (v := ?_) rfl (by kernel_rfl) (by kernel_rfl) (by kernel_rfl) (fun _ _ _ h => h) (Or.inl ⟨by rfl, ?_⟩) (by assumption) ?_
      rotate_left
      · intro w hSw; (try dsimp only at hSw); go_simp; try with_reducible rfl
      simp only [Act.put, List.setIfInBounds_toArray, List.set_cons_zero, List.set_cons_succ]
      refine wpAnyH_take (i := 2) (oi := ⟨some 20, _, _, _, _, _⟩) (v := ?_) rfl (by kernel_rfl) (by kernel_rfl) (by kernel_rfl) (fun _ _ _ h => h) (Or.inl ⟨by rfl, ?_⟩) (by assumption) ?_
      rotate_left
      · intro w hSw; (try dsimp only at hSw); go_simp; try with_reducible rfl
      simp only [Act.put, List.setIfInBounds_toArray, List.set_cons_zero, List.set_cons_succ]
      refine wpAnyH_take (i := 5) (oi := ⟨some 23, _, _, _, _, _⟩) (v := ?_) rfl (by kernel_rfl) (by kernel_rfl) (by kernel_rfl) (fun _ _ _ h => h) (Or.inl ⟨by rfl, ?_⟩) (by assumption) ?_
      rotate_left
      · intro w hSw; (try dsimp only at hSw); go_simp; try with_reducible rfl
      simp only [Act.put, List.setIfInBounds_toArray, List.set_cons_zero, List.set_cons_succ]
      refine wpAnyH_take (i := 6) (oi := ⟨some 24, _, _, _, _, _⟩) (v := ?_) rfl (by kernel_rfl) (by kernel_rfl) (by kernel_rfl) (fun _ _ _ h => h) (Or.inl ⟨by rfl, ?_⟩) (by assumption) ?_
      rotate_left
      · intro w hSw; (try dsimp only at hSw); go_simp; try with_reducible rfl
      simp only [Act.put, List.setIfInBounds_toArray, List.set_cons_zero, List.set_cons_succ]
      refine wpAnyH_take (i := 7) (oi := ⟨some 25, _, _, _, _, _⟩) (v := ?_) rfl (by kernel_rfl) (by kernel_rfl) (by kernel_rfl) (fun _ _ _ h => h) (Or.inl ⟨by rfl, ?_⟩) (by assumption) ?_
      rotate_left
      · intro w hSw; (try dsimp only at hSw); go_simp; try with_reducible rfl
      simp only [Act.put, List.setIfInBounds_toArray, List.set_cons_zero, List.set_cons_succ]
      refine wpAnyH_take (i := 8) (oi := ⟨some 26, _, _, _, _, _⟩) (v := ?_) rfl (by kernel_rfl) (by kernel_rfl) (by kernel_rfl) (fun _ _ _ h => h) (Or.inl ⟨by rfl, ?_⟩) (by assumption) ?_
      rotate_left
      · intro w hSw; (try dsimp only at hSw); go_simp; try with_reducible rfl
      simp only [Act.put, List.setIfInBounds_toArray, List.set_cons_zero, List.set_cons_succ]
      refine wpAnyH_take (i := 9) (oi := ⟨some 27, _, _, _, _, _⟩) (v := ?_) rfl (by kernel_rfl) (by kernel_rfl) (by kernel_rfl) (fun _ _ _ h => h) (Or.inl ⟨by rfl, ?_⟩) (by assumption) ?_
      rotate_left
      · intro w hSw; (try dsimp only at hSw); go_simp; try with_reducible rfl
      simp only [Act.put, List.setIfInBounds_toArray, List.set_cons_zero, List.set_cons_succ]
      refine wpAnyH_take (i := 12) (oi := ⟨some 30, _, _, _, _, _⟩) (v := ?_) rfl (by kernel_rfl) (by kernel_rfl) (by kernel_rfl) (fun _ _ _ h => h) (Or.inl ⟨by rfl, ?_⟩) (by assumption) ?_
      rotate_left
      · intro w hSw; (try dsimp only at hSw); go_simp; try with_reducible rfl
      simp only [Act.put, List.setIfInBounds_toArray, List.set_cons_zero, List.set_cons_succ]
      refine wpAnyH_ready (rs := [3, 16]) (by kernel_rfl) (by simp) ?_
      refine AllReadyH.cons (o := ⟨some 21, _, _, _, _, _⟩) rfl (fun Kq hKq => ?_) (AllReadyH.cons (o := ⟨some 6, _, _, _, _, _⟩) rfl (fun Kq hKq => ?_) AllReadyH.nil)
      · go_simp
        go_at_call 20
        refine (pick_any _ _ _ a l1 c1' _ (many : Int) H.out (by omega) (by omega)).mono ?_
        rintro e W1 ⟨x1, x10, x11, rfl, hr, hg, hs⟩
        replace H := Lib.hid hr
        replace G := Lib.hid (grown_new G.out (by omega) hg)
        replace R := Lib.hid (R.out.kept hg (by intro e; have e := Option.some.inj e; omega))
        replace D := Lib.hid (D.out.kept hg (by intro e; have e := Option.some.inj e; omega))
        replace I1 := Lib.hid (I1.out.kept hg (by omega))
        replace I2 := Lib.hid (I2.out.kept hg (by omega))
        replace K := Lib.hid (K.out.kept hg (by intro e; have e := Option.some.inj e; omega))
        clear hg
        clear hr hs
        refine hKq.out _ _ (⟨K.out.cell 0, K.out.cell 1⟩) (fun hHeld => ?_)
        clear hKq Kq
        refine wpAnyH_take (i := 4) (oi := ⟨some 22, _, _, _, _, _⟩) (v := ?_) rfl (by kernel_rfl) (by kernel_rfl) (by kernel_rfl) (fun _ _ _ h => h) (Or.inl ⟨by rfl, ?_⟩) (by assumption) ?_
        rotate_left
        · intro w hSw; (try dsimp only at hSw); go_simp; try with_reducible rfl
        simp only [Act.put, List.setIfInBounds_toArray, List.set_cons_zero, List.set_cons_succ]
        refine wpAnyH_ready (rs := [10, 16]) (by kernel_rfl) (by simp) ?_
        refine AllReadyH.cons (o := ⟨some 28, _, _, _, _, _⟩) rfl (fun Kq hKq => ?_) (AllReadyH.cons (o := ⟨some 6, _, _, _, _, _⟩) rfl (fun Kq hKq => ?_) AllReadyH.nil)
        · go_simp
          go_at_call 20
          refine (pick_any _ _ _ a l1 c1' _ (4 : Int) H.out (by omega) (by omega)).mono ?_
          rintro e W2 ⟨x2, x20, x21, rfl, hr, hg, hs⟩
          replace H := Lib.hid hr
          replace G := Lib.hid (grown_new G.out (by omega) hg)
          replace R := Lib.hid (R.out.kept hg (by intro e; have e := Option.some.inj e; omega))
          replace D := Lib.hid (D.out.kept hg (by intro e; have e := Option.some.inj e; omega))
          replace I1 := Lib.hid (I1.out.kept hg (by omega))
          replace I2 := Lib.hid (I2.out.kept hg (by omega))
          replace K := Lib.hid (K.out.kept hg (by intro e; have e := Option.some.inj e; omega))
          clear hg
          clear hr hs
          refine hKq.out _ _ (⟨K.out.cell 0, K.out.cell 1⟩) (fun hHeld => ?_)
          clear hKq Kq
          refine wpAnyH_take (i := 11) (oi := ⟨some 29, _, _, _, _, _⟩) (v := ?_) rfl (by kernel_rfl) (by kernel_rfl) (by kernel_rfl) (fun _ _ _ h => h) (Or.inl ⟨by rfl, ?_⟩) (by assumption) ?_
          rotate_left
          · intro w hSw; (try dsimp only at hSw); go_simp; try with_reducible rfl
          simp only [Act.put, List.setIfInBounds_toArray, List.set_cons_zero, List.set_cons_succ]
          refine wpAnyH_ready (rs := [13, 16]) (by kernel_rfl) (by simp) ?_
          refine AllReadyH.cons (o := ⟨some 31, _, _, _, _, _⟩) rfl (fun Kq hKq => ?_) (AllReadyH.cons (o := ⟨some 6, _, _, _, _, _⟩) rfl (fun Kq hKq => ?_) AllReadyH.nil)
          · go_simp
            go_at_call 20
            refine (pick_any _ _ _ a l1 c1' _ (1000 : Int) H.out (by omega) (by omega)).mono ?_
            rintro e W3 ⟨x3, x30, x31, rfl, hr, hg, hs⟩
            replace H := Lib.hid hr
            replace G := Lib.hid (grown_new G.out (by omega) hg)
            replace R := Lib.hid (R.out.kept hg (by intro e; have e := Option.some.inj e; omega))
            replace D := Lib.hid (D.out.kept hg (by intro e; have e := Option.some.inj e; omega))
            replace I1 := Lib.hid (I1.out.kept hg (by omega))
            replace I2 := Lib.hid (I2.out.kept hg (by omega))
            replace K := Lib.hid (K.out.kept hg (by intro e; have e := Option.some.inj e; omega))
            clear hg
            clear hr hs
            refine hKq.out _ _ (⟨K.out.cell 0, K.out.cell 1⟩) (fun hHeld => ?_)
            clear hKq Kq
            refine wpAnyH_ready (rs := [14, 16]) (by kernel_rfl) (by simp) ?_
            refine AllReadyH.cons (o := ⟨some 32, _, _, _, _, _⟩) rfl (fun Kq hKq => ?_) (AllReadyH.cons (o := ⟨some 6, _, _, _, _, _⟩) rfl (fun Kq hKq => ?_) AllReadyH.nil)
            · go_simp
              go_at_call 21
              refine (s11poly _ need _ x3 hn1 (by omega) x30 (by omega)).mono ?_
              rintro e W4 ⟨b0, c0, rfl, hr, hg⟩
              have hfok : fok (IntKind.i64.wrap (x2.tdiv 3)) = true := by rcases (by omega : x2 = 0 ∨ x2 = 1 ∨ x2 = 2 ∨ x2 = 3) with rfl | rfl | rfl | rfl <;> decide
              generalize IntKind.i64.wrap (x2.tdiv 3) = s2 at *
              have Z := Lib.hid hr; clear hr
              replace G := Lib.hid (gtr G.out hg)
              replace R := Lib.hid (R.out.keptN hg)
              replace D := Lib.hid (D.out.keptN hg)
              replace I1 := Lib.hid (I1.out.keptN hg)
              replace I2 := Lib.hid (I2.out.keptN hg)
              replace K := Lib.hid (K.out.keptN hg)
              replace H := Lib.hid (H.out.gN hg)
              clear hg
              refine hKq.out _ _ (⟨K.out.cell 0, K.out.cell 1⟩) (fun hHeld => ?_)
              clear hKq Kq
              refine wpAnyH_ready (rs := [15, 16]) (by kernel_rfl) (by simp) ?_
              refine AllReadyH.cons (o := ⟨some 33, _, _, _, _, _⟩) rfl (fun Kq hKq => ?_) (AllReadyH.cons (o := ⟨some 6, _, _, _, _, _⟩) rfl (fun Kq hKq => ?_) AllReadyH.nil)
              · go_simp
                go_at_call 19
                refine (s11make _ _ many _ need _ _ Z.out.ints (by omega) (fun j _ => dz_ok hfok j) (by omega)).mono ?_
                rintro e W5 ⟨b1, c1, B2, v, rfl, hB2, hb1, hr1, hL, hg⟩
                have hK9 := K.out.lt
                rcases hL with ⟨_, hL⟩ | ⟨b2, c2, rfl, hr2⟩
                · have := shl_len need (dz s2 x3) many; rw [hL] at this; simp at this; omega
                rw [shl_len] at hr2 ⊢
                have hb2 := hr2.from_
                try have hxb : x6 < b1 ∨ b2 < x6 := .inl (by have := T6.out.lt; have := hr1.from_; omega)
                generalize gz _ = z1 at hr1
                generalize li _ = z2 at hr2
                clear Z
                replace G := Lib.hid (gtr G.out hg)
                replace R := Lib.hid (R.out.keptN hg)
                replace D := Lib.hid (D.out.keptN hg)
                replace I1 := Lib.hid (I1.out.keptN hg)
                replace I2 := Lib.hid (I2.out.keptN hg)
                replace K := Lib.hid (K.out.keptN hg)
                replace H := Lib.hid (H.out.gN hg)
                clear hg
                have R1 := Lib.hid (hr1.lower (lo' := w2.heap.size + 1) (by omega)); have R2 := Lib.hid (hr2.lower (lo' := w2.heap.size + 1) (by omega))
                have hb12 : b1 < b2 := by omega
                clear hr1 hr2 hb1 hB2 hb2 hK9
                refine hKq.out _ _ (⟨K.out.cell 0, K.out.cell 1⟩) (fun hHeld => ?_)
                clear hKq Kq
                refine wpAnyH_ready (rs := [16]) (by kernel_rfl) (by simp) ?_
                refine AllReadyH.cons (o := ⟨some 6, _, _, _, _, _⟩) rfl (fun Kq hKq => ?_) AllReadyH.nil
                go_simp
                refine at_alloc ?_
                intro Wa hg hT
                have hx6 : w2.heap.size + 1 ≤ W5.heap.size := K.out.lt
                try have hxb : W5.heap.size < b1 ∨ b2 < W5.heap.size := .inr R2.out.lt
                generalize W5.heap.size = x6 at *
                have T6 := Lib.hid hT
                replace G := Lib.hid (gtr G.out hg)
                replace R := Lib.hid (R.out.keptN hg)
                replace D := Lib.hid (D.out.keptN hg)
                replace I1 := Lib.hid (I1.out.keptN hg)
                replace I2 := Lib.hid (I2.out.keptN hg)
                replace K := Lib.hid (K.out.keptN hg)
                replace H := Lib.hid (H.out.gN hg)
                replace R1 := Lib.hid (R1.out.keptN hg)
                replace R2 := Lib.hid (R2.out.keptN hg)
                clear hg
                clear hT
                refine hKq.out _ _ (⟨K.out.cell 0, K.out.cell 1⟩) (fun hHeld => ?_)
                clear hKq Kq
                refine wpAnyH_ready (rs := [17]) (by kernel_rfl) (by simp) ?_
                refine AllReadyH.cons (o := ⟨none, _, _, _, _, _⟩) rfl (fun Kq hKq => ?_) AllReadyH.nil
                rw [if_pos (by rfl)]
                refine wp_store_blk 27 (.tmp 6) (.tmp 33) _ _ _ 27 T6.out rfl rfl rfl rfl (by kernel_rfl) (by simp [Value.oneCell']) rfl ?_
                intro W6 hg hT
                replace T6 := Lib.hid hT
                replace G := Lib.hid (grown_new G.out (by omega) hg)
                replace R := Lib.hid (R.out.kept hg (by intro e; have e := Option.some.inj e; omega))
                replace D := Lib.hid (D.out.kept hg (by intro e; have e := Option.some.inj e; omega))
                replace I1 := Lib.hid (I1.out.kept hg (by omega))
                replace I2 := Lib.hid (I2.out.kept hg (by omega))
                replace K := Lib.hid (K.out.kept hg (by intro e; have e := Option.some.inj e; omega))
                replace H := Lib.hid (H.out.grownN hg (by omega) (by omega))
                replace R1 := Lib.hid (R1.out.kept hg (by intro e; have e := Option.some.inj e; omega))
                replace R2 := Lib.hid (R2.out.kept hg (by intro e; have e := Option.some.inj e; omega))
                clear hg
                clear hT
                refine hKq.out _ _ (⟨K.out.cell 0, K.out.cell 1⟩) (fun hHeld => ?_)
                clear hKq Kq
                refine wpAnyH_done (by kernel_rfl) ?_ _
                generalize IntKind.i64.wrap (1 + x1) = fq at *
                clear hHeld x10 x11 x20 x21 x30 x31 hfok
                revert hx6; revert hb12; revert hxb; revert R2; revert R1; revert T6; revert H; revert I2; revert I1; revert K; revert D; revert R; revert G; revert x3; revert s2; revert x2; revert x1; revert fq; revert z2; revert z1; revert c2; revert b2; revert c1; revert b1; revert c0; revert b0; revert x6; revert W6
                exact hk.out
              · go_simp
                refine at_alloc ?_
                intro Wa hg hT
                have hx6 : w2.heap.size + 1 ≤ W4.heap.size := K.out.lt
                try have hxb : W4.heap.size < b1 ∨ b2 < W4.heap.size := .inr R2.out.lt
                generalize W4.heap.size = x6 at *
                have T6 := Lib.hid hT
                replace G := Lib.hid (gtr G.out hg)
                replace R := Lib.hid (R.out.keptN hg)
                replace D := Lib.hid (D.out.keptN hg)
                replace I1 := Lib.hid (I1.out.keptN hg)
                replace I2 := Lib.hid (I2.out.keptN hg)
                replace K := Lib.hid (K.out.keptN hg)
                replace H := Lib.hid (H.out.gN hg)
                replace Z := Lib.hid (Z.out.keptN hg)
                clear hg
                clear hT
                refine hKq.out _ _ (⟨K.out.cell 0, K.out.cell 1⟩) (fun hHeld => ?_)
                clear hKq Kq
                refine wpAnyH_ready (rs := [15]) (by kernel_rfl) (by simp) ?_
                refine AllReadyH.cons (o := ⟨some 33, _, _, _, _, _⟩) rfl (fun Kq hKq => ?_) AllReadyH.nil
                go_simp
                go_at_call 19
                refine (s11make _ _ many _ need _ _ Z.out.ints (by omega) (fun j _ => dz_ok hfok j) (by omega)).mono ?_
                rintro e W5 ⟨b1, c1, B2, v, rfl, hB2, hb1, hr1, hL, hg⟩
                have hK9 := K.out.lt
                rcases hL with ⟨_, hL⟩ | ⟨b2, c2, rfl, hr2⟩
                · have := shl_len need (dz s2 x3) many; rw [hL] at this; simp at this; omega
                rw [shl_len] at hr2 ⊢
                have hb2 := hr2.from_
                try have hxb : x6 < b1 ∨ b2 < x6 := .inl (by have := T6.out.lt; have := hr1.from_; omega)
                generalize gz _ = z1 at hr1
                generalize li _ = z2 at hr2
                clear Z
                replace G := Lib.hid (gtr G.out hg)
                replace R := Lib.hid (R.out.keptN hg)
                replace D := Lib.hid (D.out.keptN hg)
                replace I1 := Lib.hid (I1.out.keptN hg)
                replace I2 := Lib.hid (I2.out.keptN hg)
                replace K := Lib.hid (K.out.keptN hg)
                replace H := Lib.hid (H.out.gN hg)
                replace T6 := Lib.hid (T6.out.keptN hg)
                clear hg
                have R1 := Lib.hid (hr1.lower (lo' := w2.heap.size + 1) (by omega)); have R2 := Lib.hid (hr2.lower (lo' := w2.heap.size + 1) (by omega))
                have hb12 : b1 < b2 := by omega
                clear hr1 hr2 hb1 hB2 hb2 hK9
                refine hKq.out _ _ (⟨K.out.cell 0, K.out.cell 1⟩) (fun hHeld => ?_)
                clear hKq Kq
                refine wpAnyH_ready (rs := [17]) (by kernel_rfl) (by simp) ?_
                refine AllReadyH.cons (o := ⟨none, _, _, _, _, _⟩) rfl (fun Kq hKq => ?_) AllReadyH.nil
                rw [if_pos (by rfl)]
                refine wp_store_blk 27 (.tmp 6) (.tmp 33) _ _ _ 27 T6.out rfl rfl rfl rfl (by kernel_rfl) (by simp [Value.oneCell']) rfl ?_
                intro W6 hg hT
                replace T6 := Lib.hid hT
                replace G := Lib.hid (grown_new G.out (by omega) hg)
                replace R := Lib.hid (R.out.kept hg (by intro e; have e := Option.some.inj e; omega))
                replace D := Lib.hid (D.out.kept hg (by intro e; have e := Option.some.inj e; omega))
                replace I1 := Lib.hid (I1.out.kept hg (by omega))
                replace I2 := Lib.hid (I2.out.kept hg (by omega))
                replace K := Lib.hid (K.out.kept hg (by intro e; have e := Option.some.inj e; omega))
                replace H := Lib.hid (H.out.grownN hg (by omega) (by omega))
                replace R1 := Lib.hid (R1.out.kept hg (by intro e; have e := Option.some.inj e; omega))
                replace R2 := Lib.hid (R2.out.kept hg (by intro e; have e := Option.some.inj e; omega))
                clear hg
                clear hT
                refine hKq.out _ _ (⟨K.out.cell 0, K.out.cell 1⟩) (fun hHeld => ?_)
                clear hKq Kq
                refine wpAnyH_done (by kernel_rfl) ?_ _
                generalize IntKind.i64.wrap (1 + x1) = fq at *
                clear hHeld x10 x11 x20 x21 x30 x31 hfok
                revert hx6; revert hb12; revert hxb; revert R2; revert R1; revert T6; revert H; revert I2; revert I1; revert K; revert D; revert R; revert G; revert x3; revert s2; revert x2; revert x1; revert fq; revert z2; revert z1; revert c2; revert b2; revert c1; revert b1; revert c0; revert b0; revert x6; revert W6
                exact hk.out
            · go_simp
              refine at_alloc ?_
              intro Wa hg hT
              have hx6 : w2.heap.size + 1 ≤ W3.heap.size := K.out.lt
              try have hxb : W3.heap.size < b1 ∨ b2 < W3.heap.size := .inr R2.out.lt
              generalize W3.heap.size = x6 at *
              have T6 := Lib.hid hT
              replace G := Lib.hid (gtr G.out hg)
              replace R := Lib.hid (R.out.keptN hg)
              replace D := Lib.hid (D.out.keptN hg)
              replace I1 := Lib.hid (I1.out.keptN hg)
              replace I2 := Lib.hid (I2.out.keptN hg)
              replace K := Lib.hid (K.out.keptN hg)
              replace H := Lib.hid (H.out.gN hg)
              clear hg
              clear hT
              refine hKq.out _ _ (⟨K.out.cell 0, K.out.cell 1⟩) (fun hHeld => ?_)
              clear hKq Kq
              refine wpAnyH_ready (rs := [14]) (by kernel_rfl) (by simp) ?_
              refine AllReadyH.cons (o := ⟨some 32, _, _, _, _, _⟩) rfl (fun Kq hKq => ?_) AllReadyH.nil
              go_simp
              go_at_call 21
              refine (s11poly _ need _ x3 hn1 (by omega) x30 (by omega)).mono ?_
              rintro e W4 ⟨b0, c0, rfl, hr, hg⟩
              have hfok : fok (IntKind.i64.wrap (x2.tdiv 3)) = true := by rcases (by omega : x2 = 0 ∨ x2 = 1 ∨ x2 = 2 ∨ x2 = 3) with rfl | rfl | rfl | rfl <;> decide
              generalize IntKind.i64.wrap (x2.tdiv 3) = s2 at *
              have Z := Lib.hid hr; clear hr
              replace G := Lib.hid (gtr G.out hg)
              replace R := Lib.hid (R.out.keptN hg)
              replace D := Lib.hid (D.out.keptN hg)
              replace I1 := Lib.hid (I1.out.keptN hg)
              replace I2 := Lib.hid (I2.out.keptN hg)
              replace K := Lib.hid (K.out.keptN hg)
              replace H := Lib.hid (H.out.gN hg)
              replace T6 := Lib.hid (T6.out.keptN hg)
              clear hg
              refine hKq.out _ _ (⟨K.out.cell 0, K.out.cell 1⟩) (fun hHeld => ?_)
              clear hKq Kq
              refine wpAnyH_ready (rs := [15]) (by kernel_rfl) (by simp) ?_
              refine AllReadyH.cons (o := ⟨some 33, _, _, _, _, _⟩) rfl (fun Kq hKq => ?_) AllReadyH.nil
              go_simp
              go_at_call 19
              refine (s11make _ _ many _ need _ _ Z.out.ints (by omega) (fun j _ => dz_ok hfok j) (by omega)).mono ?_
              rintro e W5 ⟨b1, c1, B2, v, rfl, hB2, hb1, hr1, hL, hg⟩
              have hK9 := K.out.lt
              rcases hL with ⟨_, hL⟩ | ⟨b2, c2, rfl, hr2⟩
              · have := shl_len need (dz s2 x3) many; rw [hL] at this; simp at this; omega
              rw [shl_len] at hr2 ⊢
              have hb2 := hr2.from_
              try have hxb : x6 < b1 ∨ b2 < x6 := .inl (by have := T6.out.lt; have := hr1.from_; omega)
              generalize gz _ = z1 at hr1
              generalize li _ = z2 at hr2
              clear Z
              replace G := Lib.hid (gtr G.out hg)
              replace R := Lib.hid (R.out.keptN hg)
              replace D := Lib.hid (D.out.keptN hg)
              replace I1 := Lib.hid (I1.out.keptN hg)
              replace I2 := Lib.hid (I2.out.keptN hg)
              replace K := Lib.hid (K.out.keptN hg)
              replace H := Lib.hid (H.out.gN hg)
              replace T6 := Lib.hid (T6.out.keptN hg)
              clear hg
              have R1 := Lib.hid (hr1.lower (lo' := w2.heap.size + 1) (by omega)); have R2 := Lib.hid (hr2.lower (lo' := w2.heap.size + 1) (by omega))
              have hb12 : b1 < b2 := by omega
              clear hr1 hr2 hb1 hB2 hb2 hK9
              refine hKq.out _ _ (⟨K.out.cell 0, K.out.cell 1⟩) (fun hHeld => ?_)
              clear hKq Kq
              refine wpAnyH_ready (rs := [17]) (by kernel_rfl) (by simp) ?_
              refine AllReadyH.cons (o := ⟨none, _, _, _, _, _⟩) rfl (fun Kq hKq => ?_) AllReadyH.nil
              rw [if_pos (by rfl)]
              refine wp_store_blk 27 (.tmp 6) (.tmp 33) _ _ _ 27 T6.out rfl rfl rfl rfl (by kernel_rfl) (by simp [Value.oneCell']) rfl ?_
              intro W6 hg hT
              replace T6 := Lib.hid hT
              replace G := Lib.hid (grown_new G.out (by omega) hg)
              replace R := Lib.hid (R.out.kept hg (by intro e; have e := Option.some.inj e; omega))
              replace D := Lib.hid (D.out.kept hg (by intro e; have e := Option.some.inj e; omega))
              replace I1 := Lib.hid (I1.out.kept hg (by omega))
              replace I2 := Lib.hid (I2.out.kept hg (by omega))
              replace K := Lib.hid (K.out.kept hg (by intro e; have e := Option.some.inj e; omega))
              replace H := Lib.hid (H.out.grownN hg (by omega) (by omega))
              replace R1 := Lib.hid (R1.out.kept hg (by intro e; have e := Option.some.inj e; omega))
              replace R2 := Lib.hid (R2.out.kept hg (by intro e; have e := Option.some.inj e; omega))
              clear hg
              clear hT
              refine hKq.out _ _ (⟨K.out.cell 0, K.out.cell 1⟩) (fun hHeld => ?_)
              clear hKq Kq
              refine wpAnyH_done (by kernel_rfl) ?_ _
              generalize IntKind.i64.wrap (1 + x1) = fq at *
              clear hHeld x10 x11 x20 x21 x30 x31 hfok
              revert hx6; revert hb12; revert hxb; revert R2; revert R1; revert T6; revert H; revert I2; revert I1; revert K; revert D; revert R; revert G; revert x3; revert s2; revert x2; revert x1; revert fq; revert z2; revert z1; revert c2; revert b2; revert c1; revert b1; revert c0; revert b0; revert x6; revert W6
              exact hk.out
          · go_simp
            refine at_alloc ?_
            intro Wa hg hT
            have hx6 : w2.heap.size + 1 ≤ W2.heap.size := K.out.lt
            try have hxb : W2.heap.size < b1 ∨ b2 < W2.heap.size := .inr R2.out.lt
            generalize W2.heap.size = x6 at *
            have T6 := Lib.hid hT
            replace G := Lib.hid (gtr G.out hg)
            replace R := Lib.hid (R.out.keptN hg)
            replace D := Lib.hid (D.out.keptN hg)
            replace I1 := Lib.hid (I1.out.keptN hg)
            replace I2 := Lib.hid (I2.out.keptN hg)
            replace K := Lib.hid (K.out.keptN hg)
            replace H := Lib.hid (H.out.gN hg)
            clear hg
            clear hT
            refine hKq.out _ _ (⟨K.out.cell 0, K.out.cell 1⟩) (fun hHeld => ?_)
            clear hKq Kq
            refine wpAnyH_ready (rs := [13]) (by kernel_rfl) (by simp) ?_
            refine AllReadyH.cons (o := ⟨some 31, _, _, _, _, _⟩) rfl (fun Kq hKq => ?_) AllReadyH.nil
            go_simp
            go_at_call 20
            refine (pick_any _ _ _ a l1 c1' _ (1000 : Int) H.out (by omega) (by omega)).mono ?_
            rintro e W3 ⟨x3, x30, x31, rfl, hr, hg, hs⟩
            replace H := Lib.hid hr
            replace G := Lib.hid (grown_new G.out (by omega) hg)
            replace R := Lib.hid (R.out.kept hg (by intro e; have e := Option.some.inj e; omega))
            replace D := Lib.hid (D.out.kept hg (by intro e; have e := Option.some.inj e; omega))
            replace I1 := Lib.hid (I1.out.kept hg (by omega))
            replace I2 := Lib.hid (I2.out.kept hg (by omega))
            replace K := Lib.hid (K.out.kept hg (by intro e; have e := Option.some.inj e; omega))
            replace T6 := Lib.hid (T6.out.kept hg (by intro e; have e := Option.some.inj e; omega))
            clear hg
            clear hr hs
            refine hKq.out _ _ (⟨K.out.cell 0, K.out.cell 1⟩) (fun hHeld => ?_)
            clear hKq Kq
            refine wpAnyH_ready (rs := [14]) (by kernel_rfl) (by simp) ?_
            refine AllReadyH.cons (o := ⟨some 32, _, _, _, _, _⟩) rfl (fun Kq hKq => ?_) AllReadyH.nil
            go_simp
            go_at_call 21
            refine (s11poly _ need _ x3 hn1 (by omega) x30 (by omega)).mono ?_
            rintro e W4 ⟨b0, c0, rfl, hr, hg⟩
            have hfok : fok (IntKind.i64.wrap (x2.tdiv 3)) = true := by rcases (by omega : x2 = 0 ∨ x2 = 1 ∨ x2 = 2 ∨ x2 = 3) with rfl | rfl | rfl | rfl <;> decide
            generalize IntKind.i64.wrap (x2.tdiv 3) = s2 at *
            have Z := Lib.hid hr; clear hr
            replace G := Lib.hid (gtr G.out hg)
            replace R := Lib.hid (R.out.keptN hg)
            replace D := Lib.hid (D.out.keptN hg)
            replace I1 := Lib.hid (I1.out.keptN hg)
            replace I2 := Lib.hid (I2.out.keptN hg)
            replace K := Lib.hid (K.out.keptN hg)
            replace T6 := Lib.hid (T6.out.keptN hg)
            replace H := Lib.hid (H.out.gN hg)
            clear hg
            refine hKq.out _ _ (⟨K.out.cell 0, K.out.cell 1⟩) (fun hHeld => ?_)
            clear hKq Kq
            refine wpAnyH_ready (rs := [15]) (by kernel_rfl) (by simp) ?_
            refine AllReadyH.cons (o := ⟨some 33, _, _, _, _, _⟩) rfl (fun Kq hKq => ?_) AllReadyH.nil
            go_simp
            go_at_call 19
            refine (s11make _ _ many _ need _ _ Z.out.ints (by omega) (fun j _ => dz_ok hfok j) (by omega)).mono ?_
            rintro e W5 ⟨b1, c1, B2, v, rfl, hB2, hb1, hr1, hL, hg⟩
            have hK9 := K.out.lt
            rcases hL with ⟨_, hL⟩ | ⟨b2, c2, rfl, hr2⟩
            · have := shl_len need (dz s2 x3) many; rw [hL] at this; simp at this; omega
            rw [shl_len] at hr2 ⊢
            have hb2 := hr2.from_
            try have hxb : x6 < b1 ∨ b2 < x6 := .inl (by have := T6.out.lt; have := hr1.from_; omega)
            generalize gz _ = z1 at hr1
            generalize li _ = z2 at hr2
            clear Z
            replace G := Lib.hid (gtr G.out hg)
            replace R := Lib.hid (R.out.keptN hg)
            replace D := Lib.hid (D.out.keptN hg)
            replace I1 := Lib.hid (I1.out.keptN hg)
            replace I2 := Lib.hid (I2.out.keptN hg)
            replace K := Lib.hid (K.out.keptN hg)
            replace T6 := Lib.hid (T6.out.keptN hg)
            replace H := Lib.hid (H.out.gN hg)
            clear hg
            have R1 := Lib.hid (hr1.lower (lo' := w2.heap.size + 1) (by omega)); have R2 := Lib.hid (hr2.lower (lo' := w2.heap.size + 1) (by omega))
            have hb12 : b1 < b2 := by omega
            clear hr1 hr2 hb1 hB2 hb2 hK9
            refine hKq.out _ _ (⟨K.out.cell 0, K.out.cell 1⟩) (fun hHeld => ?_)
            clear hKq Kq
            refine wpAnyH_ready (rs := [17]) (by kernel_rfl) (by simp) ?_
            refine AllReadyH.cons (o := ⟨none, _, _, _, _, _⟩) rfl (fun Kq hKq => ?_) AllReadyH.nil
            rw [if_pos (by rfl)]
            refine wp_store_blk 27 (.tmp 6) (.tmp 33) _ _ _ 27 T6.out rfl rfl rfl rfl (by kernel_rfl) (by simp [Value.oneCell']) rfl ?_
            intro W6 hg hT
            replace T6 := Lib.hid hT
            replace G := Lib.hid (grown_new G.out (by omega) hg)
            replace R := Lib.hid (R.out.kept hg (by intro e; have e := Option.some.inj e; omega))
            replace D := Lib.hid (D.out.kept hg (by intro e; have e := Option.some.inj e; omega))
            replace I1 := Lib.hid (I1.out.kept hg (by omega))
            replace I2 := Lib.hid (I2.out.kept hg (by omega))
            replace K := Lib.hid (K.out.kept hg (by intro e; have e := Option.some.inj e; omega))
            replace H := Lib.hid (H.out.grownN hg (by omega) (by omega))
            replace R1 := Lib.hid (R1.out.kept hg (by intro e; have e := Option.some.inj e; omega))
            replace R2 := Lib.hid (R2.out.kept hg (by intro e; have e := Option.some.inj e; omega))
            clear hg
            clear hT
            refine hKq.out _ _ (⟨K.out.cell 0, K.out.cell 1⟩) (fun hHeld => ?_)
            clear hKq Kq
            refine wpAnyH_done (by kernel_rfl) ?_ _
            generalize IntKind.i64.wrap (1 + x1) = fq at *
            clear hHeld x10 x11 x20 x21 x30 x31 hfok
            revert hx6; revert hb12; revert hxb; revert R2; revert R1; revert T6; revert H; revert I2; revert I1; revert K; revert D; revert R; revert G; revert x3; revert s2; revert x2; revert x1; revert fq; revert z2; revert z1; revert c2; revert b2; revert c1; revert b1; revert c0; revert b0; revert x6; revert W6
            exact hk.out
        · go_simp
          refine at_alloc ?_
          intro Wa hg hT
          have hx6 : w2.heap.size + 1 ≤ W1.heap.size := K.out.lt
          try have hxb : W1.heap.size < b1 ∨ b2 < W1.heap.size := .inr R2.out.lt
          generalize W1.heap.size = x6 at *
          have T6 := Lib.hid hT
          replace G := Lib.hid (gtr G.out hg)
          replace R := Lib.hid (R.out.keptN hg)
          replace D := Lib.hid (D.out.keptN hg)
          replace I1 := Lib.hid (I1.out.keptN hg)
          replace I2 := Lib.hid (I2.out.keptN hg)
          replace K := Lib.hid (K.out.keptN hg)
          replace H := Lib.hid (H.out.gN hg)
          clear hg
          clear hT
          refine hKq.out _ _ (⟨K.out.cell 0, K.out.cell 1⟩) (fun hHeld => ?_)
          clear hKq Kq
          refine wpAnyH_ready (rs := [10]) (by kernel_rfl) (by simp) ?_
          refine AllReadyH.cons (o := ⟨some 28, _, _, _, _, _⟩) rfl (fun Kq hKq => ?_) AllReadyH.nil
          go_simp
          go_at_call 20
          refine (pick_any _ _ _ a l1 c1' _ (4 : Int) H.out (by omega) (by omega)).mono ?_
          rintro e W2 ⟨x2, x20, x21, rfl, hr, hg, hs⟩
          replace H := Lib.hid hr
          replace G := Lib.hid (grown_new G.out (by omega) hg)
          replace R := Lib.hid (R.out.kept hg (by intro e; have e := Option.some.inj e; omega))
          replace D := Lib.hid (D.out.kept hg (by intro e; have e := Option.some.inj e; omega))
          replace I1 := Lib.hid (I1.out.kept hg (by omega))
          replace I2 := Lib.hid (I2.out.kept hg (by omega))
          replace K := Lib.hid (K.out.kept hg (by intro e; have e := Option.some.inj e; omega))
          replace T6 := Lib.hid (T6.out.kept hg (by intro e; have e := Option.some.inj e; omega))
          clear hg
          clear hr hs
          refine hKq.out _ _ (⟨K.out.cell 0, K.out.cell 1⟩) (fun hHeld => ?_)
          clear hKq Kq
          refine wpAnyH_take (i := 11) (oi := ⟨some 29, _, _, _, _, _⟩) (v := ?_) rfl (by kernel_rfl) (by kernel_rfl) (by kernel_rfl) (fun _ _ _ h => h) (Or.inl ⟨by rfl, ?_⟩) (by assumption) ?_
          rotate_left
          · intro w hSw; (try dsimp only at hSw); go_simp; try with_reducible rfl
          simp only [Act.put, List.setIfInBounds_toArray, List.set_cons_zero, List.set_cons_succ]
          refine wpAnyH_ready (rs := [13]) (by kernel_rfl) (by simp) ?_
          refine AllReadyH.cons (o := ⟨some 31, _, _, _, _, _⟩) rfl (fun Kq hKq => ?_) AllReadyH.nil
          go_simp
          go_at_call 20
          refine (pick_any _ _ _ a l1 c1' _ (1000 : Int) H.out (by omega) (by omega)).mono ?_
          rintro e W3 ⟨x3, x30, x31, rfl, hr, hg, hs⟩
          replace H := Lib.hid hr
          replace G := Lib.hid (grown_new G.out (by omega) hg)
          replace R := Lib.hid (R.out.kept hg (by intro e; have e := Option.some.inj e; omega))
          replace D := Lib.hid (D.out.kept hg (by intro e; have e := Option.some.inj e; omega))
          replace I1 := Lib.hid (I1.out.kept hg (by omega))
          replace I2 := Lib.hid (I2.out.kept hg (by omega))
          replace K := Lib.hid (K.out.kept hg (by intro e; have e := Option.some.inj e; omega))
          replace T6 := Lib.hid (T6.out.kept hg (by intro e; have e := Option.some.inj e; omega))
          clear hg
          clear hr hs
          refine hKq.out _ _ (⟨K.out.cell 0, K.out.cell 1⟩) (fun hHeld => ?_)
          clear hKq Kq
          refine wpAnyH_ready (rs := [14]) (by kernel_rfl) (by simp) ?_
          refine AllReadyH.cons (o := ⟨some 32, _, _, _, _, _⟩) rfl (fun Kq hKq => ?_) AllReadyH.nil
          go_simp
          go_at_call 21
          refine (s11poly _ need _ x3 hn1 (by omega) x30 (by omega)).mono ?_
          rintro e W4 ⟨b0, c0, rfl, hr, hg⟩
          have hfok : fok (IntKind.i64.wrap (x2.tdiv 3)) = true := by rcases (by omega : x2 = 0 ∨ x2 = 1 ∨ x2 = 2 ∨ x2 = 3) with rfl | rfl | rfl | rfl <;> decide
          generalize IntKind.i64.wrap (x2.tdiv 3) = s2 at *
          have Z := Lib.hid hr; clear hr
          replace G := Lib.hid (gtr G.out hg)
          replace R := Lib.hid (R.out.keptN hg)
          replace D := Lib.hid (D.out.keptN hg)
          replace I1 := Lib.hid (I1.out.keptN hg)
          replace I2 := Lib.hid (I2.out.keptN hg)
          replace K := Lib.hid (K.out.keptN hg)
          replace T6 := Lib.hid (T6.out.keptN hg)
          replace H := Lib.hid (H.out.gN hg)
          clear hg
          refine hKq.out _ _ (⟨K.out.cell 0, K.out.cell 1⟩) (fun hHeld => ?_)
          clear hKq Kq
          refine wpAnyH_ready (rs := [15]) (by kernel_rfl) (by simp) ?_
          refine AllReadyH.cons (o := ⟨some 33, _, _, _, _, _⟩) rfl (fun Kq hKq => ?_) AllReadyH.nil
          go_simp
          go_at_call 19
          refine (s11make _ _ many _ need _ _ Z.out.ints (by omega) (fun j _ => dz_ok hfok j) (by omega)).mono ?_
          rintro e W5 ⟨b1, c1, B2, v, rfl, hB2, hb1, hr1, hL, hg⟩
          have hK9 := K.out.lt
          rcases hL with ⟨_, hL⟩ | ⟨b2, c2, rfl, hr2⟩
          · have := shl_len need (dz s2 x3) many; rw [hL] at this; simp at this; omega
          rw [shl_len] at hr2 ⊢
          have hb2 := hr2.from_
          try have hxb : x6 < b1 ∨ b2 < x6 := .inl (by have := T6.out.lt; have := hr1.from_; omega)
          generalize gz _ = z1 at hr1
          generalize li _ = z2 at hr2
          clear Z
          replace G := Lib.hid (gtr G.out hg)
          replace R := Lib.hid (R.out.keptN hg)
          replace D := Lib.hid (D.out.keptN hg)
          replace I1 := Lib.hid (I1.out.keptN hg)
          replace I2 := Lib.hid (I2.out.keptN hg)
          replace K := Lib.hid (K.out.keptN hg)
          replace T6 := Lib.hid (T6.out.keptN hg)
          replace H := Lib.hid (H.out.gN hg)
          clear hg
          have R1 := Lib.hid (hr1.lower (lo' := w2.heap.size + 1) (by omega)); have R2 := Lib.hid (hr2.lower (lo' := w2.heap.size + 1) (by omega))
          have hb12 : b1 < b2 := by omega
          clear hr1 hr2 hb1 hB2 hb2 hK9
          refine hKq.out _ _ (⟨K.out.cell 0, K.out.cell 1⟩) (fun hHeld => ?_)
          clear hKq Kq
          refine wpAnyH_ready (rs := [17]) (by kernel_rfl) (by simp) ?_
          refine AllReadyH.cons (o := ⟨none, _, _, _, _, _⟩) rfl (fun Kq hKq => ?_) AllReadyH.nil
          rw [if_pos (by rfl)]
          refine wp_store_blk 27 (.tmp 6) (.tmp 33) _ _ _ 27 T6.out rfl rfl rfl rfl (by kernel_rfl) (by simp [Value.oneCell']) rfl ?_
          intro W6 hg hT
          replace T6 := Lib.hid hT
          replace G := Lib.hid (grown_new G.out (by omega) hg)
          replace R := Lib.hid (R.out.kept hg (by intro e; have e := Option.some.inj e; omega))
          replace D := Lib.hid (D.out.kept hg (by intro e; have e := Option.some.inj e; omega))
          replace I1 := Lib.hid (I1.out.kept hg (by omega))
          replace I2 := Lib.hid (I2.out.kept hg (by omega))
          replace K := Lib.hid (K.out.kept hg (by intro e; have e := Option.some.inj e; omega))
          replace H := Lib.hid (H.out.grownN hg (by omega) (by omega))
          replace R1 := Lib.hid (R1.out.kept hg (by intro e; have e := Option.some.inj e; omega))
          replace R2 := Lib.hid (R2.out.kept hg (by intro e; have e := Option.some.inj e; omega))
          clear hg
          clear hT
          refine hKq.out _ _ (⟨K.out.cell 0, K.out.cell 1⟩) (fun hHeld => ?_)
          clear hKq Kq
          refine wpAnyH_done (by kernel_rfl) ?_ _
          generalize IntKind.i64.wrap (1 + x1) = fq at *
          clear hHeld x10 x11 x20 x21 x30 x31 hfok
          revert hx6; revert hb12; revert hxb; revert R2; revert R1; revert T6; revert H; revert I2; revert I1; revert K; revert D; revert R; revert G; revert x3; revert s2; revert x2; revert x1; revert fq; revert z2; revert z1; revert c2; revert b2; revert c1; revert b1; revert c0; revert b0; revert x6; revert W6
          exact hk.out
      · go_simp
        refine at_alloc ?_
        intro Wa hg hT
        have hx6 : w2.heap.size + 1 ≤ W.heap.size := K.out.lt
        try have hxb : W.heap.size < b1 ∨ b2 < W.heap.size := .inr R2.out.lt
        generalize W.heap.size = x6 at *
        have T6 := Lib.hid hT
        replace G := Lib.hid (gtr G.out hg)
        replace R := Lib.hid (R.out.keptN hg)
        replace D := Lib.hid (D.out.keptN hg)
        replace H := Lib.hid (H.out.gN hg)
        replace I1 := Lib.hid (I1.out.keptN hg)
        replace I2 := Lib.hid (I2.out.keptN hg)
        replace K := Lib.hid (K.out.keptN hg)
        clear hg
        clear hT
        refine hKq.out _ _ (⟨K.out.cell 0, K.out.cell 1⟩) (fun hHeld => ?_)
        clear hKq Kq
        refine wpAnyH_ready (rs := [3]) (by kernel_rfl) (by simp) ?_
        refine AllReadyH.cons (o := ⟨some 21, _, _, _, _, _⟩) rfl (fun Kq hKq => ?_) AllReadyH.nil
        go_simp
        go_at_call 20
        refine (pick_any _ _ _ a l1 c1' _ (many : Int) H.out (by omega) (by omega)).mono ?_
        rintro e W1 ⟨x1, x10, x11, rfl, hr, hg, hs⟩
        replace H := Lib.hid hr
        replace G := Lib.hid (grown_new G.out (by omega) hg)
        replace R := Lib.hid (R.out.kept hg (by intro e; have e := Option.some.inj e; omega))
        replace D := Lib.hid (D.out.kept hg (by intro e; have e := Option.some.inj e; omega))
        replace I1 := Lib.hid (I1.out.kept hg (by omega))
        replace I2 := Lib.hid (I2.out.kept hg (by omega))
        replace K := Lib.hid (K.out.kept hg (by intro e; have e := Option.some.inj e; omega))
        replace T6 := Lib.hid (T6.out.kept hg (by intro e; have e := Option.some.inj e; omega))
        clear hg
        clear hr hs
        refine hKq.out _ _ (⟨K.out.cell 0, K.out.cell 1⟩) (fun hHeld => ?_)
        clear hKq Kq
        refine wpAnyH_take (i := 4) (oi := ⟨some 22, _, _, _, _, _⟩) (v := ?_) rfl (by kernel_rfl) (by kernel_rfl) (by kernel_rfl) (fun _ _ _ h => h) (Or.inl ⟨by rfl, ?_⟩) (by assumption) ?_
        rotate_left
        · intro w hSw; (try dsimp only at hSw); go_simp; try with_reducible rfl
        simp only [Act.put, List.setIfInBounds_toArray, List.set_cons_zero, List.set_cons_succ]
        refine wpAnyH_ready (rs := [10]) (by kernel_rfl) (by simp) ?_
        refine AllReadyH.cons (o := ⟨some 28, _, _, _, _, _⟩) rfl (fun Kq hKq => ?_) AllReadyH.nil
        go_simp
        go_at_call 20
        refine (pick_any _ _ _ a l1 c1' _ (4 : Int) H.out (by omega) (by omega)).mono ?_
        rintro e W2 ⟨x2, x20, x21, rfl, hr, hg, hs⟩
        replace H := Lib.hid hr
        replace G := Lib.hid (grown_new G.out (by omega) hg)
        replace R := Lib.hid (R.out.kept hg (by intro e; have e := Option.some.inj e; omega))
        replace D := Lib.hid (D.out.kept hg (by intro e; have e := Option.some.inj e; omega))
        replace I1 := Lib.hid (I1.out.kept hg (by omega))
        replace I2 := Lib.hid (I2.out.kept hg (by omega))
        replace K := Lib.hid (K.out.kept hg (by intro e; have e := Option.some.inj e; omega))
        replace T6 := Lib.hid (T6.out.kept hg (by intro e; have e := Option.some.inj e; omega))
        clear hg
        clear hr hs
        refine hKq.out _ _ (⟨K.out.cell 0, K.out.cell 1⟩) (fun hHeld => ?_)
        clear hKq Kq
        refine wpAnyH_take (i := 11) (oi := ⟨some 29, _, _, _, _, _⟩) (v := ?_) rfl (by kernel_rfl) (by kernel_rfl) (by kernel_rfl) (fun _ _ _ h => h) (Or.inl ⟨by rfl, ?_⟩) (by assumption) ?_
        rotate_left
        · intro w hSw; (try dsimp only at hSw); go_simp; try with_reducible rfl
        simp only [Act.put, List.setIfInBounds_toArray, List.set_cons_zero, List.set_cons_succ]
        refine wpAnyH_ready (rs := [13]) (by kernel_rfl) (by simp) ?_
        refine AllReadyH.cons (o := ⟨some 31, _, _, _, _, _⟩) rfl (fun Kq hKq => ?_) AllReadyH.nil
        go_simp
        go_at_call 20
        refine (pick_any _ _ _ a l1 c1' _ (1000 : Int) H.out (by omega) (by omega)).mono ?_
        rintro e W3 ⟨x3, x30, x31, rfl, hr, hg, hs⟩
        replace H := Lib.hid hr
        replace G := Lib.hid (grown_new G.out (by omega) hg)
        replace R := Lib.hid (R.out.kept hg (by intro e; have e := Option.some.inj e; omega))
        replace D := Lib.hid (D.out.kept hg (by intro e; have e := Option.some.inj e; omega))
        replace I1 := Lib.hid (I1.out.kept hg (by omega))
        replace I2 := Lib.hid (I2.out.kept hg (by omega))
        replace K := Lib.hid (K.out.kept hg (by intro e; have e := Option.some.inj e; omega))
        replace T6 := Lib.hid (T6.out.kept hg (by intro e; have e := Option.some.inj e; omega))
        clear hg
        clear hr hs
        refine hKq.out _ _ (⟨K.out.cell 0, K.out.cell 1⟩) (fun hHeld => ?_)
        clear hKq Kq
        refine wpAnyH_ready (rs := [14]) (by kernel_rfl) (by simp) ?_
        refine AllReadyH.cons (o := ⟨some 32, _, _, _, _, _⟩) rfl (fun Kq hKq => ?_) AllReadyH.nil
        go_simp
        go_at_call 21
        refine (s11poly _ need _ x3 hn1 (by omega) x30 (by omega)).mono ?_
        rintro e W4 ⟨b0, c0, rfl, hr, hg⟩
        have hfok : fok (IntKind.i64.wrap (x2.tdiv 3)) = true := by rcases (by omega : x2 = 0 ∨ x2 = 1 ∨ x2 = 2 ∨ x2 = 3) with rfl | rfl | rfl | rfl <;> decide
        generalize IntKind.i64.wrap (x2.tdiv 3) = s2 at *
        have Z := Lib.hid hr; clear hr
        replace G := Lib.hid (gtr G.out hg)
        replace R := Lib.hid (R.out.keptN hg)
        replace D := Lib.hid (D.out.keptN hg)
        replace I1 := Lib.hid (I1.out.keptN hg)
        replace I2 := Lib.hid (I2.out.keptN hg)
        replace K := Lib.hid (K.out.keptN hg)
        replace T6 := Lib.hid (T6.out.keptN hg)
        replace H := Lib.hid (H.out.gN hg)
        clear hg
        refine hKq.out _ _ (⟨K.out.cell 0, K.out.cell 1⟩) (fun hHeld => ?_)
        clear hKq Kq
        refine wpAnyH_ready (rs := [15]) (by kernel_rfl) (by simp) ?_
        refine AllReadyH.cons (o := ⟨some 33, _, _, _, _, _⟩) rfl (fun Kq hKq => ?_) AllReadyH.nil
        go_simp
        go_at_call 19
        refine (s11make _ _ many _ need _ _ Z.out.ints (by omega) (fun j _ => dz_ok hfok j) (by omega)).mono ?_
        rintro e W5 ⟨b1, c1, B2, v, rfl, hB2, hb1, hr1, hL, hg⟩
        have hK9 := K.out.lt
        rcases hL with ⟨_, hL⟩ | ⟨b2, c2, rfl, hr2⟩
        · have := shl_len need (dz s2 x3) many; rw [hL] at this; simp at this; omega
        rw [shl_len] at hr2 ⊢
        have hb2 := hr2.from_
        try have hxb : x6 < b1 ∨ b2 < x6 := .inl (by have := T6.out.lt; have := hr1.from_; omega)
        generalize gz _ = z1 at hr1
        generalize li _ = z2 at hr2
        clear Z
        replace G := Lib.hid (gtr G.out hg)
        replace R := Lib.hid (R.out.keptN hg)
        replace D := Lib.hid (D.out.keptN hg)
        replace I1 := Lib.hid (I1.out.keptN hg)
        replace I2 := Lib.hid (I2.out.keptN hg)
        replace K := Lib.hid (K.out.keptN hg)
        replace T6 := Lib.hid (T6.out.keptN hg)
        replace H := Lib.hid (H.out.gN hg)
        clear hg
        have R1 := Lib.hid (hr1.lower (lo' := w2.heap.size + 1) (by omega)); have R2 := Lib.hid (hr2.lower (lo' := w2.heap.size + 1) (by omega))
        have hb12 : b1 < b2 := by omega
        clear hr1 hr2 hb1 hB2 hb2 hK9
        refine hKq.out _ _ (⟨K.out.cell 0, K.out.cell 1⟩) (fun hHeld => ?_)
        clear hKq Kq
        refine wpAnyH_ready (rs := [17]) (by kernel_rfl) (by simp) ?_
        refine AllReadyH.cons (o := ⟨none, _, _, _, _, _⟩) rfl (fun Kq hKq => ?_) AllReadyH.nil
        rw [if_pos (by rfl)]
        refine wp_store_blk 27 (.tmp 6) (.tmp 33) _ _ _ 27 T6.out rfl rfl rfl rfl (by kernel_rfl) (by simp [Value.oneCell']) rfl ?_
        intro W6 hg hT
        replace T6 := Lib.hid hT
        replace G := Lib.hid (grown_new G.out (by omega) hg)
        replace R := Lib.hid (R.out.kept hg (by intro e; have e := Option.some.inj e; omega))
        replace D := Lib.hid (D.out.kept hg (by intro e; have e := Option.some.inj e; omega))
        replace I1 := Lib.hid (I1.out.kept hg (by omega))
        replace I2 := Lib.hid (I2.out.kept hg (by omega))
        replace K := Lib.hid (K.out.kept hg (by intro e; have e := Option.some.inj e; omega))
        replace H := Lib.hid (H.out.grownN hg (by omega) (by omega))
        replace R1 := Lib.hid (R1.out.kept hg (by intro e; have e := Option.some.inj e; omega))
        replace R2 := Lib.hid (R2.out.kept hg (by intro e; have e := Option.some.inj e; omega))
        clear hg
        clear hT
        refine hKq.out _ _ (⟨K.out.cell 0, K.out.cell 1⟩) (fun hHeld => ?_)
        clear hKq Kq
        refine wpAnyH_done (by kernel_rfl) ?_ _
        generalize IntKind.i64.wrap (1 + x1) = fq at *
        clear hHeld x10 x11 x20 x21 x30 x31 hfok
        revert hx6; revert hb12; revert hxb; revert R2; revert R1; revert T6; revert H; revert I2; revert I1; revert K; revert D; revert R; revert G; revert x3; revert s2; revert x2; revert x1; revert fq; revert z2; revert z1; revert c2; revert b2; revert c1; revert b1; revert c0; revert b0; revert x6; revert W6
        exact hk.out
    case rest =>
      intro W x6 b0 c0 b1 c1 b2 c2 z1 z2 fq x1 x2 s2 x3 G R D K I1 I2 H T6 R1 R2 hxb hb12 hx6
      have hb2l := R2.out.from_; have hb1l := R1.out.from_; have hk5 := K.out.lt; have hlR := R.out.lt; have hlD := D.out.lt
      go_wp2_with fail
      refine (pick_any _ _ _ a l1 c1' _ (4 : Int) H.out (by omega) (by omega)).mono ?_
      rintro e W2 ⟨x4, x40, x41, rfl, hr, hg, hs⟩
      replace H := Lib.hid hr
      clear hk5 hlR hlD
      replace G := Lib.hid (grown_new G.out (by omega) hg)
      replace R := Lib.hid (R.out.kept hg (by intro e; have e := Option.some.inj e; omega))
      replace D := Lib.hid (D.out.kept hg (by intro e; have e := Option.some.inj e; omega))
      replace K := Lib.hid (K.out.kept hg (by intro e; have e := Option.some.inj e; omega))
      replace I1 := Lib.hid (I1.out.kept hg (by omega))
      replace I2 := Lib.hid (I2.out.kept hg (by omega))
      replace T6 := Lib.hid (T6.out.kept hg (by intro e; have e := Option.some.inj e; omega))
      replace R1 := Lib.hid (R1.out.kept hg (by intro e; have e := Option.some.inj e; omega))
      replace R2 := Lib.hid (R2.out.kept hg (by intro e; have e := Option.some.inj e; omega))
      clear hg
      clear hr hs
      rcases (by omega : x4 = 0 ∨ 1 ≤ x4) with rfl | hx4
      · go_wp2_with fail
        refine wp_region_held_drew (S := (fun w' => w'.cell? ⟨w2.heap.size, 1, none⟩ = some (.int .i64 (many : Int)) ∧ w'.cell? ⟨x6, 2, none⟩ = some (.slice (some ⟨b2, 0, none⟩) many c2))) (by kernel_rfl) (⟨K.out.cell 1, T6.out.cell 2⟩) (fun hHeld => ?_)
        have hg := gdrew W2
        replace G := Lib.hid (gtr G.out hg)
        replace R := Lib.hid (R.out.keptN hg)
        replace D := Lib.hid (D.out.keptN hg)
        replace K := Lib.hid (K.out.keptN hg)
        replace I1 := Lib.hid (I1.out.keptN hg)
        replace I2 := Lib.hid (I2.out.keptN hg)
        replace T6 := Lib.hid (T6.out.keptN hg)
        replace R1 := Lib.hid (R1.out.keptN hg)
        replace R2 := Lib.hid (R2.out.keptN hg)
        replace H := Lib.hid (H.out.gN hg)
        clear hg
        generalize W2.drew = W3 at *
        refine wpAnyH_take (i := 0) (oi := ⟨some 37, _, _, _, _, _⟩) (v := ?_) rfl (by kernel_rfl) (by kernel_rfl) (by kernel_rfl) (fun _ _ _ h => h) (Or.inl ⟨by rfl, ?_⟩) (by assumption) ?_
        rotate_left
        · intro w hSw; (try dsimp only at hSw); go_simp; try with_reducible rfl
        simp only [Act.put, List.setIfInBounds_toArray, List.set_cons_zero, List.set_cons_succ]
        refine wpAnyH_take (i := 1) (oi := ⟨some 38, _, _, _, _, _⟩) (v := ?_) rfl (by kernel_rfl) (by kernel_rfl) (by kernel_rfl) (fun _ _ _ h => h) (Or.inl ⟨by rfl, ?_⟩) (by assumption) ?_
        rotate_left
        · intro w hSw; (try dsimp only at hSw); go_simp; try with_reducible rfl
        simp only [Act.put, List.setIfInBounds_toArray, List.set_cons_zero, List.set_cons_succ]
        refine wpAnyH_take (i := 2) (oi := ⟨some 39, _, _, _, _, _⟩) (v := ?_) rfl (by kernel_rfl) (by kernel_rfl) (by kernel_rfl) (fun _ _ _ h => h) (Or.inl ⟨by rfl, ?_⟩) (by assumption) ?_
        rotate_left
        · intro w hSw; (try dsimp only at hSw); go_simp; try with_reducible rfl
        simp only [Act.put, List.setIfInBounds_toArray, List.set_cons_zero, List.set_cons_succ]
        refine wpAnyH_take (i := 3) (oi := ⟨some 40, _, _, _, _, _⟩) (v := ?_) rfl (by kernel_rfl) (by kernel_rfl) (by kernel_rfl) (fun _ _ _ h => h) (Or.inl ⟨by rfl, ?_⟩) (by assumption) ?_
        rotate_left
        · intro w hSw; (try dsimp only at hSw); go_simp; try with_reducible rfl
        simp only [Act.put, List.setIfInBounds_toArray, List.set_cons_zero, List.set_cons_succ]
        refine wpAnyH_take (i := 4) (oi := ⟨some 41, _, _, _, _, _⟩) (v := ?_) rfl (by kernel_rfl) (by kernel_rfl) (by kernel_rfl) (fun _ _ _ h => h) (Or.inl ⟨by rfl, ?_⟩) (by assumption) ?_
        rotate_left
        · intro w hSw; (try dsimp only at hSw); go_simp; try with_reducible rfl
        simp only [Act.put, List.setIfInBounds_toArray, List.set_cons_zero, List.set_cons_succ]
        refine wpAnyH_take (i := 6) (oi := ⟨some 43, _, _, _, _, _⟩) (v := ?_) rfl (by kernel_rfl) (by kernel_rfl) (by kernel_rfl) (fun _ _ _ h => h) (Or.inl ⟨by rfl, ?_⟩) (by assumption) ?_
        rotate_left
        · intro w hSw; (try dsimp only at hSw); go_simp; try with_reducible rfl
        simp only [Act.put, List.setIfInBounds_toArray, List.set_cons_zero, List.set_cons_succ]
        refine wpAnyH_ready (rs := [5]) (by kernel_rfl) (by simp) ?_
        refine AllReadyH.cons (o := ⟨some 42, _, _, _, _, _⟩) rfl (fun Kq hKq => ?_) AllReadyH.nil
        go_simp
        go_at_call 20
        refine (pick_any _ _ _ a l1 c1' _ (many : Int) H.out (by omega) (by omega)).mono ?_
        rintro e W4 ⟨y1, y10, y11, rfl, hr, hg, hs⟩
        replace H := Lib.hid hr
        obtain ⟨yn, rfl⟩ : ∃ yn : Nat, y1 = yn := ⟨y1.toNat, by omega⟩
        have hyn : yn < many := by omega
        replace G := Lib.hid (grown_new G.out (by omega) hg)
        replace R := Lib.hid (R.out.kept hg (by intro e; have e := Option.some.inj e; omega))
        replace D := Lib.hid (D.out.kept hg (by intro e; have e := Option.some.inj e; omega))
        replace K := Lib.hid (K.out.kept hg (by intro e; have e := Option.some.inj e; omega))
        replace I1 := Lib.hid (I1.out.kept hg (by omega))
        replace I2 := Lib.hid (I2.out.kept hg (by omega))
        replace T6 := Lib.hid (T6.out.kept hg (by intro e; have e := Option.some.inj e; omega))
        replace R1 := Lib.hid (R1.out.kept hg (by intro e; have e := Option.some.inj e; omega))
        replace R2 := Lib.hid (R2.out.kept hg (by intro e; have e := Option.some.inj e; omega))
        clear hg
        clear hr hs
        refine hKq.out _ _ (⟨K.out.cell 1, T6.out.cell 2⟩) (fun hHeld => ?_)
        clear hKq Kq
        refine wpAnyH_ready (rs := [7]) (by kernel_rfl) (by simp) ?_
        refine AllReadyH.cons (o := ⟨some 44, _, _, _, _, _⟩) rfl (fun Kq hKq => ?_) AllReadyH.nil
        go_simp
        go_at_call 20
        refine (pick_any _ _ _ a l1 c1' _ (23 : Int) H.out (by omega) (by omega)).mono ?_
        rintro e W5 ⟨y2, y20, y21, rfl, hr, hg, hs⟩
        replace H := Lib.hid hr
        replace G := Lib.hid (grown_new G.out (by omega) hg)
        replace R := Lib.hid (R.out.kept hg (by intro e; have e := Option.some.inj e; omega))
        replace D := Lib.hid (D.out.kept hg (by intro e; have e := Option.some.inj e; omega))
        replace K := Lib.hid (K.out.kept hg (by intro e; have e := Option.some.inj e; omega))
        replace I1 := Lib.hid (I1.out.kept hg (by omega))
        replace I2 := Lib.hid (I2.out.kept hg (by omega))
        replace T6 := Lib.hid (T6.out.kept hg (by intro e; have e := Option.some.inj e; omega))
        replace R1 := Lib.hid (R1.out.kept hg (by intro e; have e := Option.some.inj e; omega))
        replace R2 := Lib.hid (R2.out.kept hg (by intro e; have e := Option.some.inj e; omega))
        clear hg
        clear hr hs
        refine hKq.out _ _ (⟨K.out.cell 1, T6.out.cell 2⟩) (fun hHeld => ?_)
        clear hKq Kq
        refine wpAnyH_take (i := 8) (oi := ⟨some 45, _, _, _, _, _⟩) (v := ?_) rfl (by kernel_rfl) (by kernel_rfl) (by kernel_rfl) (fun _ _ _ h => h) (Or.inl ⟨by rfl, ?_⟩) (by assumption) ?_
        rotate_left
        · intro w hSw; (try dsimp only at hSw); go_simp; try with_reducible rfl
        simp only [Act.put, List.setIfInBounds_toArray, List.set_cons_zero, List.set_cons_succ]
        have t0 := R2.out.cell hyn
        have t1 := R2.out.frozen yn
        refine wpAnyH_ready (rs := [9]) (by kernel_rfl) (by simp) ?_
        refine AllReadyH.cons (o := ⟨none, _, _, _, _, _⟩) rfl (fun Kq hKq => ?_) AllReadyH.nil
        go_simp
        have hg := Mem.grown_set W5 b2 yn (.int .i64 y2)
        have hr2 := R2.out.set yn y2
        replace G := Lib.hid (grown_new G.out (by omega) hg)
        replace R := Lib.hid (R.out.kept hg (by intro e; have e := Option.some.inj e; omega))
        replace D := Lib.hid (D.out.kept hg (by intro e; have e := Option.some.inj e; omega))
        replace K := Lib.hid (K.out.kept hg (by intro e; have e := Option.some.inj e; omega))
        replace I1 := Lib.hid (I1.out.kept hg (by omega))
        replace I2 := Lib.hid (I2.out.kept hg (by omega))
        replace T6 := Lib.hid (T6.out.kept hg (by intro e; have e := Option.some.inj e; omega))
        replace R1 := Lib.hid (R1.out.kept hg (by intro e; have e := Option.some.inj e; omega))
        replace H := Lib.hid (H.out.grownN hg (by omega) (by omega))
        clear hg
        replace R2 := Lib.hid hr2
        clear hr2
        generalize W5.setCell ⟨b2, yn, none⟩ (.int .i64 y2) = W6 at *
        refine hKq.out _ _ (⟨K.out.cell 1, T6.out.cell 2⟩) (fun hHeld => ?_)
        clear hKq Kq
        refine wpAnyH_done (by kernel_rfl) ?_ _
        go_wp2_with fail
        refine wp_region_held_drew (S := (fun w' => w'.cell? ⟨w2.heap.size, 0, none⟩ = some (.int .i64 (need : Int)) ∧ w'.cell? ⟨w2.heap.size, 1, none⟩ = some (.int .i64 (many : Int)) ∧ w'.cell? ⟨w2.heap.size, 2, none⟩ = some (.slice ag ng cg) ∧ w'.cell? ⟨w2.heap.size, 3, none⟩ = some (.slice ac nc cc) ∧ w'.cell? ⟨x6, 0, none⟩ = some (.int .i64 fq) ∧ w'.cell? ⟨x6, 1, none⟩ = some (.slice (some ⟨b1, 0, none⟩) need c1) ∧ w'.cell? ⟨x6, 2, none⟩ = some (.slice (some ⟨b2, 0, none⟩) many c2))) (by kernel_rfl) (⟨K.out.cell 0, K.out.cell 1, K.out.cell 2, K.out.cell 3, T6.out.cell 0, T6.out.cell 1, T6.out.cell 2⟩) (fun hHeld => ?_)
        have hg := gdrew W6
        replace G := Lib.hid (gtr G.out hg)
        replace R := Lib.hid (R.out.keptN hg)
        replace D := Lib.hid (D.out.keptN hg)
        replace K := Lib.hid (K.out.keptN hg)
        replace I1 := Lib.hid (I1.out.keptN hg)
        replace I2 := Lib.hid (I2.out.keptN hg)
        replace T6 := Lib.hid (T6.out.keptN hg)
        replace R1 := Lib.hid (R1.out.keptN hg)
        replace H := Lib.hid (H.out.gN hg)
        replace R2 := Lib.hid (R2.out.keptN hg)
        clear hg
        generalize (W6).drew = V at *
        refine wpAnyH_take (i := 0) (oi := ⟨some 46, _, _, _, _, _⟩) (v := ?_) rfl (by kernel_rfl) (by kernel_rfl) (by kernel_rfl) (fun _ _ _ h => h) (Or.inl ⟨by rfl, ?_⟩) (by assumption) ?_
        rotate_left
        · intro w hSw; (try dsimp only at hSw); go_simp; try with_reducible rfl
        simp only [Act.put, List.setIfInBounds_toArray, List.set_cons_zero, List.set_cons_succ]
        refine wpAnyH_take (i := 1) (oi := ⟨some 47, _, _, _, _, _⟩) (v := ?_) rfl (by kernel_rfl) (by kernel_rfl) (by kernel_rfl) (fun _ _ _ h => h) (Or.inl ⟨by rfl, ?_⟩) (by assumption) ?_
        rotate_left
        · intro w hSw; (try dsimp only at hSw); go_simp; try with_reducible rfl
        simp only [Act.put, List.setIfInBounds_toArray, List.set_cons_zero, List.set_cons_succ]
        refine wpAnyH_ready (rs := [2]) (by kernel_rfl) (by simp) ?_
        refine AllReadyH.cons (o := ⟨none, _, _, _, _, _⟩) rfl (fun Kq hKq => ?_) AllReadyH.nil
        rw [if_pos (by rfl)]
        refine wp_store_blk 25 (.tmp 2) (.tmp 46) _ _ _ 25 R.out rfl rfl rfl rfl (by kernel_rfl) (by simp [Value.oneCell']) rfl ?_
        intro V2 hg hT
        replace R := Lib.hid hT
        replace G := Lib.hid (grown_new G.out (by omega) hg)
        replace D := Lib.hid (D.out.kept hg (by intro e; have e := Option.some.inj e; omega))
        replace K := Lib.hid (K.out.kept hg (by intro e; have e := Option.some.inj e; omega))
        replace I1 := Lib.hid (I1.out.kept hg (by omega))
        replace I2 := Lib.hid (I2.out.kept hg (by omega))
        replace T6 := Lib.hid (T6.out.kept hg (by intro e; have e := Option.some.inj e; omega))
        replace R1 := Lib.hid (R1.out.kept hg (by intro e; have e := Option.some.inj e; omega))
        replace H := Lib.hid (H.out.grownN hg (by omega) (by omega))
        replace R2 := Lib.hid (R2.out.kept hg (by intro e; have e := Option.some.inj e; omega))
        clear hg
        clear hT
        refine hKq.out _ _ (⟨K.out.cell 0, K.out.cell 1, K.out.cell 2, K.out.cell 3, T6.out.cell 0, T6.out.cell 1, T6.out.cell 2⟩) (fun hHeld => ?_)
        clear hKq Kq
        refine wpAnyH_ready (rs := [3]) (by kernel_rfl) (by simp) ?_
        refine AllReadyH.cons (o := ⟨none, _, _, _, _, _⟩) rfl (fun Kq hKq => ?_) AllReadyH.nil
        rw [if_pos (by rfl)]
        refine wp_store_blk 27 (.tmp 3) (.tmp 47) _ _ _ 27 D.out rfl rfl rfl rfl (by kernel_rfl) (by simp [Value.oneCell']) rfl ?_
        intro V3 hg hT
        replace D := Lib.hid hT
        replace G := Lib.hid (grown_new G.out (by omega) hg)
        replace K := Lib.hid (K.out.kept hg (by intro e; have e := Option.some.inj e; omega))
        replace I1 := Lib.hid (I1.out.kept hg (by omega))
        replace I2 := Lib.hid (I2.out.kept hg (by omega))
        replace T6 := Lib.hid (T6.out.kept hg (by intro e; have e := Option.some.inj e; omega))
        replace R1 := Lib.hid (R1.out.kept hg (by intro e; have e := Option.some.inj e; omega))
        replace H := Lib.hid (H.out.grownN hg (by omega) (by omega))
        replace R2 := Lib.hid (R2.out.kept hg (by intro e; have e := Option.some.inj e; omega))
        replace R := Lib.hid (R.out.kept hg (by intro e; have e := Option.some.inj e; omega))
        clear hg
        clear hT
        refine hKq.out _ _ (⟨K.out.cell 0, K.out.cell 1, K.out.cell 2, K.out.cell 3, T6.out.cell 0, T6.out.cell 1, T6.out.cell 2⟩) (fun hHeld => ?_)
        clear hKq Kq
        refine wpAnyH_done (by kernel_rfl) ?_ _
        go_wp2
        (try simp only [Exit.inBlock, Exit.then])
        refine bodyPost_ret (ret_kd rfl _ rfl rfl R.out D.out) rfl ?_
        exact ⟨need, many, ag, ng, cg, zg, ac, nc, cc, zc, fq, _, need, c1, _, _, many, c2, _, rfl, by omega, by omega, by omega, by omega, I1.out.i, I2.out.i, R1.out.ints, R2.out.ints, G.out⟩
      · have hx0 : (x4 == 0) = false := by simp; omega
        go_wp2_with fail
        refine wp_region_held_drew (S := (fun w' => w'.cell? ⟨w2.heap.size, 0, none⟩ = some (.int .i64 (need : Int)) ∧ w'.cell? ⟨w2.heap.size, 1, none⟩ = some (.int .i64 (many : Int)) ∧ w'.cell? ⟨w2.heap.size, 2, none⟩ = some (.slice ag ng cg) ∧ w'.cell? ⟨w2.heap.size, 3, none⟩ = some (.slice ac nc cc) ∧ w'.cell? ⟨x6, 0, none⟩ = some (.int .i64 fq) ∧ w'.cell? ⟨x6, 1, none⟩ = some (.slice (some ⟨b1, 0, none⟩) need c1) ∧ w'.cell? ⟨x6, 2, none⟩ = some (.slice (some ⟨b2, 0, none⟩) many c2))) (by kernel_rfl) (⟨K.out.cell 0, K.out.cell 1, K.out.cell 2, K.out.cell 3, T6.out.cell 0, T6.out.cell 1, T6.out.cell 2⟩) (fun hHeld => ?_)
        have hg := gdrew W2
        replace G := Lib.hid (gtr G.out hg)
        replace R := Lib.hid (R.out.keptN hg)
        replace D := Lib.hid (D.out.keptN hg)
        replace K := Lib.hid (K.out.keptN hg)
        replace I1 := Lib.hid (I1.out.keptN hg)
        replace I2 := Lib.hid (I2.out.keptN hg)
        replace T6 := Lib.hid (T6.out.keptN hg)
        replace R1 := Lib.hid (R1.out.keptN hg)
        replace R2 := Lib.hid (R2.out.keptN hg)
        replace H := Lib.hid (H.out.gN hg)
        clear hg
        generalize (W2).drew = V at *
        refine wpAnyH_take (i := 0) (oi := ⟨some 46, _, _, _, _, _⟩) (v := ?_) rfl (by kernel_rfl) (by kernel_rfl) (by kernel_rfl) (fun _ _ _ h => h) (Or.inl ⟨by rfl, ?_⟩) (by assumption) ?_
        rotate_left
        · intro w hSw; (try dsimp only at hSw); go_simp; try with_reducible rfl
        simp only [Act.put, List.setIfInBounds_toArray, List.set_cons_zero, List.set_cons_succ]
        refine wpAnyH_take (i := 1) (oi := ⟨some 47, _, _, _, _, _⟩) (v := ?_) rfl (by kernel_rfl) (by kernel_rfl) (by kernel_rfl) (fun _ _ _ h => h) (Or.inl ⟨by rfl, ?_⟩) (by assumption) ?_
        rotate_left
        · intro w hSw; (try dsimp only at hSw); go_simp; try with_reducible rfl
        simp only [Act.put, List.setIfInBounds_toArray, List.set_cons_zero, List.set_cons_succ]
        refine wpAnyH_ready (rs := [2]) (by kernel_rfl) (by simp) ?_
        refine AllReadyH.cons (o := ⟨none, _, _, _, _, _⟩) rfl (fun Kq hKq => ?_) AllReadyH.nil
        rw [if_pos (by rfl)]
        refine wp_store_blk 25 (.tmp 2) (.tmp 46) _ _ _ 25 R.out rfl rfl rfl rfl (by kernel_rfl) (by simp [Value.oneCell']) rfl ?_
        intro V2 hg hT
        replace R := Lib.hid hT
        replace G := Lib.hid (grown_new G.out (by omega) hg)
        replace D := Lib.hid (D.out.kept hg (by intro e; have e := Option.some.inj e; omega))
        replace K := Lib.hid (K.out.kept hg (by intro e; have e := Option.some.inj e; omega))
        replace I1 := Lib.hid (I1.out.kept hg (by omega))
        replace I2 := Lib.hid (I2.out.kept hg (by omega))
        replace T6 := Lib.hid (T6.out.kept hg (by intro e; have e := Option.some.inj e; omega))
        replace R1 := Lib.hid (R1.out.kept hg (by intro e; have e := Option.some.inj e; omega))
        replace R2 := Lib.hid (R2.out.kept hg (by intro e; have e := Option.some.inj e; omega))
        replace H := Lib.hid (H.out.grownN hg (by omega) (by omega))
        clear hg
        clear hT
        refine hKq.out _ _ (⟨K.out.cell 0, K.out.cell 1, K.out.cell 2, K.out.cell 3, T6.out.cell 0, T6.out.cell 1, T6.out.cell 2⟩) (fun hHeld => ?_)
        clear hKq Kq
        refine wpAnyH_ready (rs := [3]) (by kernel_rfl) (by simp) ?_
        refine AllReadyH.cons (o := ⟨none, _, _, _, _, _⟩) rfl (fun Kq hKq => ?_) AllReadyH.nil
        rw [if_pos (by rfl)]
        refine wp_store_blk 27 (.tmp 3) (.tmp 47) _ _ _ 27 D.out rfl rfl rfl rfl (by kernel_rfl) (by simp [Value.oneCell']) rfl ?_
        intro V3 hg hT
        replace D := Lib.hid hT
        replace G := Lib.hid (grown_new G.out (by omega) hg)
        replace K := Lib.hid (K.out.kept hg (by intro e; have e := Option.some.inj e; omega))
        replace I1 := Lib.hid (I1.out.kept hg (by omega))
        replace I2 := Lib.hid (I2.out.kept hg (by omega))
        replace T6 := Lib.hid (T6.out.kept hg (by intro e; have e := Option.some.inj e; omega))
        replace R1 := Lib.hid (R1.out.kept hg (by intro e; have e := Option.some.inj e; omega))
        replace R2 := Lib.hid (R2.out.kept hg (by intro e; have e := Option.some.inj e; omega))
        replace H := Lib.hid (H.out.grownN hg (by omega) (by omega))
        replace R := Lib.hid (R.out.kept hg (by intro e; have e := Option.some.inj e; omega))
        clear hg
        clear hT
        refine hKq.out _ _ (⟨K.out.cell 0, K.out.cell 1, K.out.cell 2, K.out.cell 3, T6.out.cell 0, T6.out.cell 1, T6.out.cell 2⟩) (fun hHeld => ?_)
        clear hKq Kq
        refine wpAnyH_done (by kernel_rfl) ?_ _
        go_wp2
        (try simp only [Exit.inBlock, Exit.then])
        refine bodyPost_ret (ret_kd rfl _ rfl rfl R.out D.out) rfl ?_
        exact ⟨need, many, ag, ng, cg, zg, ac, nc, cc, zc, fq, _, need, c1, _, _, many, c2, _, rfl, by omega, by omega, by omega, by omega, I1.out.i, I2.out.i, R1.out.ints, R2.out.ints, G.out⟩
end Draw
end Go.Proofs.YtlaimokedhdnjaaDoor
