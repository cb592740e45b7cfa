/-
  Courts: what the laws draw.
-/
import Derived.Test.YtbfmigmhmjgdgaaZj
namespace Go.Proofs.Ytbfmigmhmjgdgaa
namespace Ct
open Go.RowKit Alg Mem Con Draw
set_option linter.unusedVariables false

/-- A drawn court. -/
def GotQ (w : World) (e : Ending) (w' : World) : Prop :=
  ∃ (C : CV) (a1 : Option Addr) (c1 : Nat), e = .returned (.agg #[.int .i64 C.many, .int .i64 C.need, .bool C.on, .int .i64 C.at_, .slice a1 C.n c1, .bool C.veto]) ∧ OEQ w' w.heap.size a1 C.n c1 C.f ∧ C.n ≤ 7 ∧ w.grownBy w' none
/-- A drawn court, and a number. -/
def GotQ2 (w : World) (e : Ending) (w' : World) : Prop :=
  ∃ (C : CV) (a1 : Option Addr) (c1 : Nat) (x : Int), e = .returned (.tuple #[.agg #[.int .i64 C.many, .int .i64 C.need, .bool C.on, .int .i64 C.at_, .slice a1 C.n c1, .bool C.veto], .int .i64 x]) ∧ OEQ w' w.heap.size a1 C.n c1 C.f ∧ C.n ≤ 7 ∧ w.grownBy w' none
set_option maxRecDepth 100000 in
set_option maxHeartbeats 4000000 in
theorem drawCtVeto (w : World) (a : Option Addr) (len cap : Nat) (hB : Bytes w w.heap.size a len) (hc : len ≤ cap) (hm : cap ≤ maxLen) :
    Calls Try.prog 28 #[.slice a len cap] w (GotQ w) := by
  have hs0 : (w.alloc (.cells #[.int .i64 0, .int .i64 0, .bool false, .int .i64 0, .slice none 0 0, .bool false] 27)).heap.size = w.heap.size + 1 := by show (w.heap.push _).size = _; simp
  have G := Lib.hid (grown_alloc w (.cells #[.int .i64 0, .int .i64 0, .bool false, .int .i64 0, .slice none 0 0, .bool false] 27) none)
  have HB := Lib.hid (hB.kept (w' := w.alloc (.cells #[.int .i64 0, .int .i64 0, .bool false, .int .i64 0, .slice none 0 0, .bool false] 27)) (fun k hk => Below.heap_alloc _ _ _ hk))
  have R := Lib.hid (Blk.new w #[.int .i64 0, .int .i64 0, .bool false, .int .i64 0, .slice none 0 0, .bool false] 27)
  clear hB
  go_enter Try.func28, Try.ntmps28
  go_wp2_with fail
  refine (open_any _ w.heap.size a len cap HB.out (by omega) hc hm).mono ?_
  rintro e w1 ⟨rfl, hg, hs1, l1, cq, hr1⟩
  rw [hs0] at hr1 hs1
  have H := Lib.hid hr1
  replace G := Lib.hid (gtr G.out hg)
  replace R := Lib.hid (R.out.keptN hg)
  clear hg
  clear hr1 HB hs0
  go_wp2_with fail
  refine (court_any _ _ _ a l1 cq 0 H.out (by omega)).mono ?_
  rintro e w2 ⟨C, a1, c1, p1, rfl, hO, hC6, hg, hr, hp1⟩
  have OW := Lib.hid (show OEQ w2 (w.heap.size + 1 + 1) a1 C.n c1 C.f by rw [← hs1]; exact hO)
  clear hO
  have hs : True := trivial
  replace H := Lib.hid hr
  replace G := Lib.hid (grown_new G.out (by omega) hg)
  replace R := Lib.hid (R.out.kept hg (by intro e; have e := Option.some.inj e; omega))
  clear hg
  clear hr hs
  clear hs1
  go_wp2_with (first
    | (refine wpList_store_atQ rfl 27 (.tmp 2) (.tmp 5) _ 0 _ _ _ #[.int .i64 C.many, .int .i64 C.need, .bool C.on, .int .i64 C.at_, .slice a1 C.n c1, .bool C.veto] 27 R.out rfl rfl rfl rfl (Nat.le_of_ble_eq_true rfl) (by kernel_rfl) (by kernel_rfl) (by kernel_rfl) ?_; intro VV hgV hRV; have HGV := Lib.hid hgV; have HRV := Lib.hid hRV; clear hgV hRV))
  (try simp only [Exit.inBlock, Exit.then])
  refine bodyPost_ret (ret_court rfl _ rfl HRV.out) rfl ?_
  exact ⟨C, a1, c1, rfl, (OW.out.keptC R.out (by decide) HGV.out).lower (by omega), by omega, grown_new G.out (by omega) HGV.out⟩
set_option maxRecDepth 100000 in
set_option maxHeartbeats 4000000 in
theorem drawCtVote (w : World) (a : Option Addr) (len cap : Nat) (hB : Bytes w w.heap.size a len) (hc : len ≤ cap) (hm : cap ≤ maxLen) :
    Calls Try.prog 23 #[.slice a len cap] w (GotQ2 w) := by
  have hs0 : (w.alloc (.cells #[.int .i64 0, .int .i64 0, .bool false, .int .i64 0, .slice none 0 0, .bool false] 27)).heap.size = w.heap.size + 1 := by show (w.heap.push _).size = _; simp
  have G := Lib.hid (grown_alloc w (.cells #[.int .i64 0, .int .i64 0, .bool false, .int .i64 0, .slice none 0 0, .bool false] 27) none)
  have HB := Lib.hid (hB.kept (w' := w.alloc (.cells #[.int .i64 0, .int .i64 0, .bool false, .int .i64 0, .slice none 0 0, .bool false] 27)) (fun k hk => Below.heap_alloc _ _ _ hk))
  have R := Lib.hid (Blk.new w #[.int .i64 0, .int .i64 0, .bool false, .int .i64 0, .slice none 0 0, .bool false] 27)
  clear hB
  go_enter Try.func23, Try.ntmps23
  go_wp2_with fail
  refine (open_any _ w.heap.size a len cap HB.out (by omega) hc hm).mono ?_
  rintro e w1 ⟨rfl, hg, hs1, l1, cq, hr1⟩
  rw [hs0] at hr1 hs1
  have H := Lib.hid hr1
  replace G := Lib.hid (gtr G.out hg)
  replace R := Lib.hid (R.out.keptN hg)
  clear hg
  clear hr1 HB hs0
  go_wp2_with fail
  refine (court_any _ _ _ a l1 cq 0 H.out (by omega)).mono ?_
  rintro e w2 ⟨C, a1, c1, p1, rfl, hO, hC6, hg, hr, hp1⟩
  have OW := Lib.hid (show OEQ w2 (w.heap.size + 1 + 1) a1 C.n c1 C.f by rw [← hs1]; exact hO)
  clear hO
  have hs : True := trivial
  replace H := Lib.hid hr
  replace G := Lib.hid (grown_new G.out (by omega) hg)
  replace R := Lib.hid (R.out.kept hg (by intro e; have e := Option.some.inj e; omega))
  clear hg
  clear hr hs
  clear hs1
  go_wp2_with fail
  refine (pick_any _ _ _ a l1 cq _ (7 : Int) H.out (by omega) (by omega)).mono ?_
  rintro e w3 ⟨x, x0, x1, rfl, hr, hg, hs⟩
  replace H := Lib.hid hr
  replace G := Lib.hid (grown_new G.out (by omega) hg)
  replace R := Lib.hid (R.out.kept hg (by intro e; have e := Option.some.inj e; omega))
  replace OW := Lib.hid (OW.out.kept hg (fun g e => by have e := Option.some.inj e; omega))
  clear hg
  clear hr hs
  go_wp2_with (first
    | (refine wpList_store_atQ rfl 27 (.tmp 2) (.tmp 8) _ 0 _ _ _ #[.int .i64 C.many, .int .i64 C.need, .bool C.on, .int .i64 C.at_, .slice a1 C.n c1, .bool C.veto] 27 R.out rfl rfl rfl rfl (Nat.le_of_ble_eq_true rfl) (by kernel_rfl) (by kernel_rfl) (by kernel_rfl) ?_; intro VV hgV hRV; have HGV := Lib.hid hgV; have HRV := Lib.hid hRV; clear hgV hRV))
  (try simp only [Exit.inBlock, Exit.then])
  refine bodyPost_ret (ret_court2 rfl _ rfl HRV.out) rfl ?_
  exact ⟨C, a1, c1, _, rfl, (OW.out.keptC R.out (by decide) HGV.out).lower (by omega), by omega, grown_new G.out (by omega) HGV.out⟩
set_option maxRecDepth 100000 in
set_option maxHeartbeats 4000000 in
theorem drawCtOpen (w : World) (a : Option Addr) (len cap : Nat) (hB : Bytes w w.heap.size a len) (hc : len ≤ cap) (hm : cap ≤ maxLen) :
    Calls Try.prog 17 #[.slice a len cap] w (GotQ2 w) := by
  have hs0 : (w.alloc (.cells #[.int .i64 0, .int .i64 0, .bool false, .int .i64 0, .slice none 0 0, .bool false] 27)).heap.size = w.heap.size + 1 := by show (w.heap.push _).size = _; simp
  have G := Lib.hid (grown_alloc w (.cells #[.int .i64 0, .int .i64 0, .bool false, .int .i64 0, .slice none 0 0, .bool false] 27) none)
  have HB := Lib.hid (hB.kept (w' := w.alloc (.cells #[.int .i64 0, .int .i64 0, .bool false, .int .i64 0, .slice none 0 0, .bool false] 27)) (fun k hk => Below.heap_alloc _ _ _ hk))
  have R := Lib.hid (Blk.new w #[.int .i64 0, .int .i64 0, .bool false, .int .i64 0, .slice none 0 0, .bool false] 27)
  clear hB
  go_enter Try.func17, Try.ntmps17
  go_wp2_with fail
  refine (open_any _ w.heap.size a len cap HB.out (by omega) hc hm).mono ?_
  rintro e w1 ⟨rfl, hg, hs1, l1, cq, hr1⟩
  rw [hs0] at hr1 hs1
  have H := Lib.hid hr1
  replace G := Lib.hid (gtr G.out hg)
  replace R := Lib.hid (R.out.keptN hg)
  clear hg
  clear hr1 HB hs0
  go_wp2_with fail
  refine (court_any _ _ _ a l1 cq 0 H.out (by omega)).mono ?_
  rintro e w2 ⟨C, a1, c1, p1, rfl, hO, hC6, hg, hr, hp1⟩
  have OW := Lib.hid (show OEQ w2 (w.heap.size + 1 + 1) a1 C.n c1 C.f by rw [← hs1]; exact hO)
  clear hO
  have hs : True := trivial
  replace H := Lib.hid hr
  replace G := Lib.hid (grown_new G.out (by omega) hg)
  replace R := Lib.hid (R.out.kept hg (by intro e; have e := Option.some.inj e; omega))
  clear hg
  clear hr hs
  clear hs1
  go_wp2_with fail
  refine (pick_any _ _ _ a l1 cq _ (102 : Int) H.out (by omega) (by omega)).mono ?_
  rintro e w3 ⟨x, x0, x1, rfl, hr, hg, hs⟩
  replace H := Lib.hid hr
  replace G := Lib.hid (grown_new G.out (by omega) hg)
  replace R := Lib.hid (R.out.kept hg (by intro e; have e := Option.some.inj e; omega))
  replace OW := Lib.hid (OW.out.kept hg (fun g e => by have e := Option.some.inj e; omega))
  clear hg
  clear hr hs
  go_wp2_with (first
    | (refine wpList_store_atQ rfl 27 (.tmp 2) (.tmp 8) _ 0 _ _ _ #[.int .i64 C.many, .int .i64 C.need, .bool C.on, .int .i64 C.at_, .slice a1 C.n c1, .bool C.veto] 27 R.out rfl rfl rfl rfl (Nat.le_of_ble_eq_true rfl) (by kernel_rfl) (by kernel_rfl) (by kernel_rfl) ?_; intro VV hgV hRV; have HGV := Lib.hid hgV; have HRV := Lib.hid hRV; clear hgV hRV))
  (try simp only [Exit.inBlock, Exit.then])
  refine bodyPost_ret (ret_court2 rfl _ rfl HRV.out) rfl ?_
  exact ⟨C, a1, c1, _, rfl, (OW.out.keptC R.out (by decide) HGV.out).lower (by omega), by omega, grown_new G.out (by omega) HGV.out⟩
set_option maxRecDepth 100000 in
set_option maxHeartbeats 4000000 in
theorem drawCtOk (w : World) (a : Option Addr) (len cap : Nat) (hB : Bytes w w.heap.size a len) (hc : len ≤ cap) (hm : cap ≤ maxLen) :
    Calls Try.prog 34 #[.slice a len cap] w (GotQ w) := by
  have hs0 : (w.alloc (.cells #[.int .i64 0, .int .i64 0, .bool false, .int .i64 0, .slice none 0 0, .bool false] 27)).heap.size = w.heap.size + 1 := by show (w.heap.push _).size = _; simp
  have G := Lib.hid (grown_alloc w (.cells #[.int .i64 0, .int .i64 0, .bool false, .int .i64 0, .slice none 0 0, .bool false] 27) none)
  have HB := Lib.hid (hB.kept (w' := w.alloc (.cells #[.int .i64 0, .int .i64 0, .bool false, .int .i64 0, .slice none 0 0, .bool false] 27)) (fun k hk => Below.heap_alloc _ _ _ hk))
  have R := Lib.hid (Blk.new w #[.int .i64 0, .int .i64 0, .bool false, .int .i64 0, .slice none 0 0, .bool false] 27)
  clear hB
  go_enter Try.func34, Try.ntmps34
  go_wp2_with fail
  refine (open_any _ w.heap.size a len cap HB.out (by omega) hc hm).mono ?_
  rintro e w1 ⟨rfl, hg, hs1, l1, cq, hr1⟩
  rw [hs0] at hr1 hs1
  have H := Lib.hid hr1
  replace G := Lib.hid (gtr G.out hg)
  replace R := Lib.hid (R.out.keptN hg)
  clear hg
  clear hr1 HB hs0
  go_wp2_with fail
  refine (court_any _ _ _ a l1 cq 0 H.out (by omega)).mono ?_
  rintro e w2 ⟨C, a1, c1, p1, rfl, hO, hC6, hg, hr, hp1⟩
  have OW := Lib.hid (show OEQ w2 (w.heap.size + 1 + 1) a1 C.n c1 C.f by rw [← hs1]; exact hO)
  clear hO
  have hs : True := trivial
  replace H := Lib.hid hr
  replace G := Lib.hid (grown_new G.out (by omega) hg)
  replace R := Lib.hid (R.out.kept hg (by intro e; have e := Option.some.inj e; omega))
  clear hg
  clear hr hs
  clear hs1
  have hw2 : w.heap.size + 1 + 1 ≤ w2.heap.size := by have := H.out.lt; omega
  go_wp2_with (refine stop_store rfl ?_)
  refine ⟨trivial, ?_⟩
  refine wpList_store_atQ rfl 27 (.tmp 4) (.tmp 8) _ 0 _ _ _ #[.int .i64 C.many, .int .i64 C.need, .bool C.on, .int .i64 C.at_, .slice a1 C.n c1, .bool C.veto] 27 (Blk.new w2 #[.int .i64 0, .int .i64 0, .bool false, .int .i64 0, .slice none 0 0, .bool false] 27) rfl rfl rfl rfl (Nat.le_of_ble_eq_true rfl) (by kernel_rfl) (by kernel_rfl) (by kernel_rfl) ?_
  intro wb hgV hT
  have hg : w2.grownBy wb none := grown_new (grown_alloc w2 (.cells #[.int .i64 0, .int .i64 0, .bool false, .int .i64 0, .slice none 0 0, .bool false] 27) none) (Nat.le_refl _) hgV
  have T := Lib.hid hT
  clear hgV hT
  replace G := Lib.hid (gtr G.out hg)
  replace R := Lib.hid (R.out.keptN hg)
  replace H := Lib.hid (H.out.gN hg)
  replace OW := Lib.hid (OW.out.kept hg (fun g e => by cases e))
  clear hg
  generalize w2.heap.size = tb at *
  go_wp2_with fail
  refine (pick_any _ _ _ a l1 cq _ (5 : Int) H.out (by omega) (by omega)).mono ?_
  rintro e w3 ⟨x, x0, x1, rfl, hr, hg, hs⟩
  replace H := Lib.hid hr
  replace G := Lib.hid (grown_new G.out (by omega) hg)
  replace R := Lib.hid (R.out.kept hg (by intro e; have e := Option.some.inj e; omega))
  replace OW := Lib.hid (OW.out.kept hg (fun g e => by have e := Option.some.inj e; omega))
  replace T := Lib.hid (T.out.kept hg (by intro e; have e := Option.some.inj e; omega))
  clear hg
  clear hr hs
  rcases (by omega : x = 0 ∨ 1 ≤ x) with rfl | hx
  · go_wp2_with fail
    refine wp_region_held_drew (S := (fun _ => True)) (by kernel_rfl) (trivial) (fun hHeld => ?_)
    have hg := gdrew w3
    replace G := Lib.hid (gtr G.out hg)
    replace R := Lib.hid (R.out.keptN hg)
    replace OW := Lib.hid (OW.out.kept hg (fun g e => by cases e))
    replace T := Lib.hid (T.out.keptN hg)
    replace H := Lib.hid (H.out.gN hg)
    clear hg
    generalize w3.drew = W at *
    refine wpAnyH_take (i := 0) (oi := ⟨some 12, _, _, _, _, _⟩) (v := ?_) rfl (by kernel_rfl) (by kernel_rfl) (by kernel_rfl) (fun _ _ _ h => h) (Or.inl ⟨by rfl, ?_⟩) (by assumption) ?_
    rotate_left
    · intro w hSw; (try dsimp only at hSw); go_simp; try with_reducible rfl
    simp only [Act.put, List.setIfInBounds_toArray, List.set_cons_zero, List.set_cons_succ]
    refine wpAnyH_take (i := 1) (oi := ⟨some 13, _, _, _, _, _⟩) (v := ?_) rfl (by kernel_rfl) (by kernel_rfl) (by kernel_rfl) (fun _ _ _ h => h) (Or.inl ⟨by rfl, ?_⟩) (by assumption) ?_
    rotate_left
    · intro w hSw; (try dsimp only at hSw); go_simp; try with_reducible rfl
    simp only [Act.put, List.setIfInBounds_toArray, List.set_cons_zero, List.set_cons_succ]
    refine wpAnyH_take (i := 3) (oi := ⟨some 15, _, _, _, _, _⟩) (v := ?_) rfl (by kernel_rfl) (by kernel_rfl) (by kernel_rfl) (fun _ _ _ h => h) (Or.inl ⟨by rfl, ?_⟩) (by assumption) ?_
    rotate_left
    · intro w hSw; (try dsimp only at hSw); go_simp; try with_reducible rfl
    simp only [Act.put, List.setIfInBounds_toArray, List.set_cons_zero, List.set_cons_succ]
    refine wpAnyH_ready (rs := [2, 4]) (by kernel_rfl) (by simp) ?_
    refine AllReadyH.cons (o := ⟨some 14, _, _, _, _, _⟩) rfl (fun Kq hKq => ?_) (AllReadyH.cons (o := ⟨some 16, _, _, _, _, _⟩) rfl (fun Kq hKq => ?_) AllReadyH.nil)
    · obtain ⟨t0, t1, t2, t3, t4, t5, u0, u1, u2, u3, u4, u5⟩ := c6_of T.out
      go_simp
      clear t0 t1 t2 t3 t4 t5 u0 u1 u2 u3 u4 u5
      refine hKq.out _ _ (trivial) (fun hHeld => ?_)
      clear hKq Kq
      refine wpAnyH_ready (rs := [4]) (by kernel_rfl) (by simp) ?_
      refine AllReadyH.cons (o := ⟨some 16, _, _, _, _, _⟩) rfl (fun Kq hKq => ?_) AllReadyH.nil
      go_simp
      go_at_call 42
      refine (pick_any _ _ _ a l1 cq _ (7 : Int) H.out (by omega) (by omega)).mono ?_
      rintro e wt2 ⟨y9, y90, y91, rfl, hr, hg, hs⟩
      replace H := Lib.hid hr
      replace G := Lib.hid (grown_new G.out (by omega) hg)
      replace R := Lib.hid (R.out.kept hg (by intro e; have e := Option.some.inj e; omega))
      replace OW := Lib.hid (OW.out.kept hg (fun g e => by have e := Option.some.inj e; omega))
      replace T := Lib.hid (T.out.kept hg (by intro e; have e := Option.some.inj e; omega))
      clear hg
      clear hr hs
      refine hKq.out _ _ (trivial) (fun hHeld => ?_)
      clear hKq Kq
      refine wpAnyH_ready (rs := [5]) (by kernel_rfl) (by simp) ?_
      refine AllReadyH.cons (o := ⟨some 17, _, _, _, _, _⟩) rfl (fun Kq hKq => ?_) AllReadyH.nil
      go_simp
      refine at_alloc ?_
      intro Wa hg hX
      generalize wt2.heap.size = xb at *
      have X := Lib.hid hX
      replace G := Lib.hid (gtr G.out hg)
      replace R := Lib.hid (R.out.keptN hg)
      replace OW := Lib.hid (OW.out.kept hg (fun g e => by cases e))
      replace T := Lib.hid (T.out.keptN hg)
      replace H := Lib.hid (H.out.gN hg)
      clear hg
      clear hX
      refine hKq.out _ _ (trivial) (fun hHeld => ?_)
      clear hKq Kq
      refine wpAnyH_ready (rs := [6]) (by kernel_rfl) (by simp) ?_
      refine AllReadyH.cons (o := ⟨some 18, _, _, _, _, _⟩) rfl (fun Kq hKq => ?_) AllReadyH.nil
      have hGs : w.heap.size + 1 + 1 ≤ Wa.heap.size := by have := H.out.lt; omega
      refine wp_append_oneQ (.tmp 14) (.tmp 17) rfl (w.heap.size + 1 + 1) a1 C.n c1 C.f rfl OW.out ⟨xb, 0, none⟩ y9 rfl (blk_newsQ X.out) (by omega) hGs ?_
      intro b3 c3 wt3 hO3 hg3
      have T3 := Lib.hid (blk_keptO T.out OW.out hg3 (by decide)); have R3 := Lib.hid (blk_keptO R.out OW.out hg3 (by decide))
      have G3 := Lib.hid (grown_ownQ G.out (OW.out.lower (by omega)) hg3)
      clear X
      clear T R G H OW hg3 hGs
      have T := T3; have R := R3; have G := G3; have OW := Lib.hid hO3
      clear T3 R3 G3 hO3
      refine hKq.out _ _ (trivial) (fun hHeld => ?_)
      clear hKq Kq
      refine wpAnyH_take (i := 7) (oi := ⟨some 19, _, _, _, _, _⟩) (v := ?_) rfl (by kernel_rfl) (by kernel_rfl) (by kernel_rfl) (fun _ _ _ h => h) (Or.inl ⟨by rfl, ?_⟩) (by assumption) ?_
      rotate_left
      · intro w hSw; (try dsimp only at hSw); go_simp; try with_reducible rfl
      simp only [Act.put, List.setIfInBounds_toArray, List.set_cons_zero, List.set_cons_succ]
      refine wpAnyH_take (i := 8) (oi := ⟨some 20, _, _, _, _, _⟩) (v := ?_) rfl (by kernel_rfl) (by kernel_rfl) (by kernel_rfl) (fun _ _ _ h => h) (Or.inl ⟨by rfl, ?_⟩) (by assumption) ?_
      rotate_left
      · intro w hSw; (try dsimp only at hSw); go_simp; try with_reducible rfl
      simp only [Act.put, List.setIfInBounds_toArray, List.set_cons_zero, List.set_cons_succ]
      refine wpAnyH_ready (rs := [9]) (by kernel_rfl) (by simp) ?_
      refine AllReadyH.cons (o := ⟨none, _, _, _, _, _⟩) rfl (fun Kq hKq => ?_) AllReadyH.nil
      rw [if_pos (by rfl)]
      refine wp_store_atQ 23 (.tmp 20) (.tmp 18) tb 4 _ _ _ #[.int .i64 C.many, .int .i64 C.need, .bool C.on, .int .i64 C.at_, .slice (some ⟨b3, 0, none⟩) (C.n + 1) c3, .bool C.veto] 27 T.out rfl rfl rfl rfl (Nat.le_of_ble_eq_true rfl) (by kernel_rfl) (by kernel_rfl) (by kernel_rfl) ?_
      intro wt4 hg hT
      have OW' := OW.out.keptC T.out (by decide) hg
      clear OW
      have OW := Lib.hid OW'
      clear OW' T
      have T := Lib.hid hT
      clear hT
      replace R := Lib.hid (R.out.kept hg (by intro e; have e := Option.some.inj e; omega))
      replace G := Lib.hid (grown_new G.out (by omega) hg)
      clear hg
      refine hKq.out _ _ (trivial) (fun hHeld => ?_)
      clear hKq Kq
      refine wpAnyH_done (by kernel_rfl) ?_ _
      obtain ⟨t0, t1, t2, t3, t4, t5, u0, u1, u2, u3, u4, u5⟩ := c6_of T.out
      go_wp2_with (first
        | (refine wpList_store_atQ rfl 27 (.tmp 2) (.tmp 21) _ 0 _ _ _ #[.int .i64 C.many, .int .i64 C.need, .bool C.on, .int .i64 C.at_, .slice (some ⟨b3, 0, none⟩) (C.n + 1) c3, .bool C.veto] 27 R.out rfl rfl rfl rfl (Nat.le_of_ble_eq_true rfl) (by kernel_rfl) (by kernel_rfl) (by kernel_rfl) ?_; intro VV hgV hRV; have HGV := Lib.hid hgV; have HRV := Lib.hid hRV; clear hgV hRV))
      (try simp only [Exit.inBlock, Exit.then])
      refine bodyPost_ret (ret_court rfl _ rfl HRV.out) rfl ?_
      exact ⟨⟨C.many, C.need, C.on, C.at_, C.n + 1, addz C.f C.n y9, C.veto⟩, _, _, rfl, (OW.out.keptC R.out (by decide) HGV.out).lower (by omega), by show C.n + 1 ≤ 7; omega, grown_new G.out (by omega) HGV.out⟩
    · go_simp
      go_at_call 42
      refine (pick_any _ _ _ a l1 cq _ (7 : Int) H.out (by omega) (by omega)).mono ?_
      rintro e wt2 ⟨y9, y90, y91, rfl, hr, hg, hs⟩
      replace H := Lib.hid hr
      replace G := Lib.hid (grown_new G.out (by omega) hg)
      replace R := Lib.hid (R.out.kept hg (by intro e; have e := Option.some.inj e; omega))
      replace OW := Lib.hid (OW.out.kept hg (fun g e => by have e := Option.some.inj e; omega))
      replace T := Lib.hid (T.out.kept hg (by intro e; have e := Option.some.inj e; omega))
      clear hg
      clear hr hs
      refine hKq.out _ _ (trivial) (fun hHeld => ?_)
      clear hKq Kq
      refine wpAnyH_ready (rs := [2, 5]) (by kernel_rfl) (by simp) ?_
      refine AllReadyH.cons (o := ⟨some 14, _, _, _, _, _⟩) rfl (fun Kq hKq => ?_) (AllReadyH.cons (o := ⟨some 17, _, _, _, _, _⟩) rfl (fun Kq hKq => ?_) AllReadyH.nil)
      · obtain ⟨t0, t1, t2, t3, t4, t5, u0, u1, u2, u3, u4, u5⟩ := c6_of T.out
        go_simp
        clear t0 t1 t2 t3 t4 t5 u0 u1 u2 u3 u4 u5
        refine hKq.out _ _ (trivial) (fun hHeld => ?_)
        clear hKq Kq
        refine wpAnyH_ready (rs := [5]) (by kernel_rfl) (by simp) ?_
        refine AllReadyH.cons (o := ⟨some 17, _, _, _, _, _⟩) rfl (fun Kq hKq => ?_) AllReadyH.nil
        go_simp
        refine at_alloc ?_
        intro Wa hg hX
        generalize wt2.heap.size = xb at *
        have X := Lib.hid hX
        replace G := Lib.hid (gtr G.out hg)
        replace R := Lib.hid (R.out.keptN hg)
        replace OW := Lib.hid (OW.out.kept hg (fun g e => by cases e))
        replace T := Lib.hid (T.out.keptN hg)
        replace H := Lib.hid (H.out.gN hg)
        clear hg
        clear hX
        refine hKq.out _ _ (trivial) (fun hHeld => ?_)
        clear hKq Kq
        refine wpAnyH_ready (rs := [6]) (by kernel_rfl) (by simp) ?_
        refine AllReadyH.cons (o := ⟨some 18, _, _, _, _, _⟩) rfl (fun Kq hKq => ?_) AllReadyH.nil
        have hGs : w.heap.size + 1 + 1 ≤ Wa.heap.size := by have := H.out.lt; omega
        refine wp_append_oneQ (.tmp 14) (.tmp 17) rfl (w.heap.size + 1 + 1) a1 C.n c1 C.f rfl OW.out ⟨xb, 0, none⟩ y9 rfl (blk_newsQ X.out) (by omega) hGs ?_
        intro b3 c3 wt3 hO3 hg3
        have T3 := Lib.hid (blk_keptO T.out OW.out hg3 (by decide)); have R3 := Lib.hid (blk_keptO R.out OW.out hg3 (by decide))
        have G3 := Lib.hid (grown_ownQ G.out (OW.out.lower (by omega)) hg3)
        clear X
        clear T R G H OW hg3 hGs
        have T := T3; have R := R3; have G := G3; have OW := Lib.hid hO3
        clear T3 R3 G3 hO3
        refine hKq.out _ _ (trivial) (fun hHeld => ?_)
        clear hKq Kq
        refine wpAnyH_take (i := 7) (oi := ⟨some 19, _, _, _, _, _⟩) (v := ?_) rfl (by kernel_rfl) (by kernel_rfl) (by kernel_rfl) (fun _ _ _ h => h) (Or.inl ⟨by rfl, ?_⟩) (by assumption) ?_
        rotate_left
        · intro w hSw; (try dsimp only at hSw); go_simp; try with_reducible rfl
        simp only [Act.put, List.setIfInBounds_toArray, List.set_cons_zero, List.set_cons_succ]
        refine wpAnyH_take (i := 8) (oi := ⟨some 20, _, _, _, _, _⟩) (v := ?_) rfl (by kernel_rfl) (by kernel_rfl) (by kernel_rfl) (fun _ _ _ h => h) (Or.inl ⟨by rfl, ?_⟩) (by assumption) ?_
        rotate_left
        · intro w hSw; (try dsimp only at hSw); go_simp; try with_reducible rfl
        simp only [Act.put, List.setIfInBounds_toArray, List.set_cons_zero, List.set_cons_succ]
        refine wpAnyH_ready (rs := [9]) (by kernel_rfl) (by simp) ?_
        refine AllReadyH.cons (o := ⟨none, _, _, _, _, _⟩) rfl (fun Kq hKq => ?_) AllReadyH.nil
        rw [if_pos (by rfl)]
        refine wp_store_atQ 23 (.tmp 20) (.tmp 18) tb 4 _ _ _ #[.int .i64 C.many, .int .i64 C.need, .bool C.on, .int .i64 C.at_, .slice (some ⟨b3, 0, none⟩) (C.n + 1) c3, .bool C.veto] 27 T.out rfl rfl rfl rfl (Nat.le_of_ble_eq_true rfl) (by kernel_rfl) (by kernel_rfl) (by kernel_rfl) ?_
        intro wt4 hg hT
        have OW' := OW.out.keptC T.out (by decide) hg
        clear OW
        have OW := Lib.hid OW'
        clear OW' T
        have T := Lib.hid hT
        clear hT
        replace R := Lib.hid (R.out.kept hg (by intro e; have e := Option.some.inj e; omega))
        replace G := Lib.hid (grown_new G.out (by omega) hg)
        clear hg
        refine hKq.out _ _ (trivial) (fun hHeld => ?_)
        clear hKq Kq
        refine wpAnyH_done (by kernel_rfl) ?_ _
        obtain ⟨t0, t1, t2, t3, t4, t5, u0, u1, u2, u3, u4, u5⟩ := c6_of T.out
        go_wp2_with (first
          | (refine wpList_store_atQ rfl 27 (.tmp 2) (.tmp 21) _ 0 _ _ _ #[.int .i64 C.many, .int .i64 C.need, .bool C.on, .int .i64 C.at_, .slice (some ⟨b3, 0, none⟩) (C.n + 1) c3, .bool C.veto] 27 R.out rfl rfl rfl rfl (Nat.le_of_ble_eq_true rfl) (by kernel_rfl) (by kernel_rfl) (by kernel_rfl) ?_; intro VV hgV hRV; have HGV := Lib.hid hgV; have HRV := Lib.hid hRV; clear hgV hRV))
        (try simp only [Exit.inBlock, Exit.then])
        refine bodyPost_ret (ret_court rfl _ rfl HRV.out) rfl ?_
        exact ⟨⟨C.many, C.need, C.on, C.at_, C.n + 1, addz C.f C.n y9, C.veto⟩, _, _, rfl, (OW.out.keptC R.out (by decide) HGV.out).lower (by omega), by show C.n + 1 ≤ 7; omega, grown_new G.out (by omega) HGV.out⟩
      · go_simp
        refine at_alloc ?_
        intro Wa hg hX
        generalize wt2.heap.size = xb at *
        have X := Lib.hid hX
        replace G := Lib.hid (gtr G.out hg)
        replace R := Lib.hid (R.out.keptN hg)
        replace OW := Lib.hid (OW.out.kept hg (fun g e => by cases e))
        replace T := Lib.hid (T.out.keptN hg)
        replace H := Lib.hid (H.out.gN hg)
        clear hg
        clear hX
        refine hKq.out _ _ (trivial) (fun hHeld => ?_)
        clear hKq Kq
        refine wpAnyH_ready (rs := [2]) (by kernel_rfl) (by simp) ?_
        refine AllReadyH.cons (o := ⟨some 14, _, _, _, _, _⟩) rfl (fun Kq hKq => ?_) AllReadyH.nil
        obtain ⟨t0, t1, t2, t3, t4, t5, u0, u1, u2, u3, u4, u5⟩ := c6_of T.out
        go_simp
        clear t0 t1 t2 t3 t4 t5 u0 u1 u2 u3 u4 u5
        refine hKq.out _ _ (trivial) (fun hHeld => ?_)
        clear hKq Kq
        refine wpAnyH_ready (rs := [6]) (by kernel_rfl) (by simp) ?_
        refine AllReadyH.cons (o := ⟨some 18, _, _, _, _, _⟩) rfl (fun Kq hKq => ?_) AllReadyH.nil
        have hGs : w.heap.size + 1 + 1 ≤ Wa.heap.size := by have := H.out.lt; omega
        refine wp_append_oneQ (.tmp 14) (.tmp 17) rfl (w.heap.size + 1 + 1) a1 C.n c1 C.f rfl OW.out ⟨xb, 0, none⟩ y9 rfl (blk_newsQ X.out) (by omega) hGs ?_
        intro b3 c3 wt3 hO3 hg3
        have T3 := Lib.hid (blk_keptO T.out OW.out hg3 (by decide)); have R3 := Lib.hid (blk_keptO R.out OW.out hg3 (by decide))
        have G3 := Lib.hid (grown_ownQ G.out (OW.out.lower (by omega)) hg3)
        clear X
        clear T R G H OW hg3 hGs
        have T := T3; have R := R3; have G := G3; have OW := Lib.hid hO3
        clear T3 R3 G3 hO3
        refine hKq.out _ _ (trivial) (fun hHeld => ?_)
        clear hKq Kq
        refine wpAnyH_take (i := 7) (oi := ⟨some 19, _, _, _, _, _⟩) (v := ?_) rfl (by kernel_rfl) (by kernel_rfl) (by kernel_rfl) (fun _ _ _ h => h) (Or.inl ⟨by rfl, ?_⟩) (by assumption) ?_
        rotate_left
        · intro w hSw; (try dsimp only at hSw); go_simp; try with_reducible rfl
        simp only [Act.put, List.setIfInBounds_toArray, List.set_cons_zero, List.set_cons_succ]
        refine wpAnyH_take (i := 8) (oi := ⟨some 20, _, _, _, _, _⟩) (v := ?_) rfl (by kernel_rfl) (by kernel_rfl) (by kernel_rfl) (fun _ _ _ h => h) (Or.inl ⟨by rfl, ?_⟩) (by assumption) ?_
        rotate_left
        · intro w hSw; (try dsimp only at hSw); go_simp; try with_reducible rfl
        simp only [Act.put, List.setIfInBounds_toArray, List.set_cons_zero, List.set_cons_succ]
        refine wpAnyH_ready (rs := [9]) (by kernel_rfl) (by simp) ?_
        refine AllReadyH.cons (o := ⟨none, _, _, _, _, _⟩) rfl (fun Kq hKq => ?_) AllReadyH.nil
        rw [if_pos (by rfl)]
        refine wp_store_atQ 23 (.tmp 20) (.tmp 18) tb 4 _ _ _ #[.int .i64 C.many, .int .i64 C.need, .bool C.on, .int .i64 C.at_, .slice (some ⟨b3, 0, none⟩) (C.n + 1) c3, .bool C.veto] 27 T.out rfl rfl rfl rfl (Nat.le_of_ble_eq_true rfl) (by kernel_rfl) (by kernel_rfl) (by kernel_rfl) ?_
        intro wt4 hg hT
        have OW' := OW.out.keptC T.out (by decide) hg
        clear OW
        have OW := Lib.hid OW'
        clear OW' T
        have T := Lib.hid hT
        clear hT
        replace R := Lib.hid (R.out.kept hg (by intro e; have e := Option.some.inj e; omega))
        replace G := Lib.hid (grown_new G.out (by omega) hg)
        clear hg
        refine hKq.out _ _ (trivial) (fun hHeld => ?_)
        clear hKq Kq
        refine wpAnyH_done (by kernel_rfl) ?_ _
        obtain ⟨t0, t1, t2, t3, t4, t5, u0, u1, u2, u3, u4, u5⟩ := c6_of T.out
        go_wp2_with (first
          | (refine wpList_store_atQ rfl 27 (.tmp 2) (.tmp 21) _ 0 _ _ _ #[.int .i64 C.many, .int .i64 C.need, .bool C.on, .int .i64 C.at_, .slice (some ⟨b3, 0, none⟩) (C.n + 1) c3, .bool C.veto] 27 R.out rfl rfl rfl rfl (Nat.le_of_ble_eq_true rfl) (by kernel_rfl) (by kernel_rfl) (by kernel_rfl) ?_; intro VV hgV hRV; have HGV := Lib.hid hgV; have HRV := Lib.hid hRV; clear hgV hRV))
        (try simp only [Exit.inBlock, Exit.then])
        refine bodyPost_ret (ret_court rfl _ rfl HRV.out) rfl ?_
        exact ⟨⟨C.many, C.need, C.on, C.at_, C.n + 1, addz C.f C.n y9, C.veto⟩, _, _, rfl, (OW.out.keptC R.out (by decide) HGV.out).lower (by omega), by show C.n + 1 ≤ 7; omega, grown_new G.out (by omega) HGV.out⟩
  · have e5 : (x == 0) = false := by simp; omega
    obtain ⟨t0, t1, t2, t3, t4, t5, u0, u1, u2, u3, u4, u5⟩ := c6_of T.out
    go_wp2_with (first
      | (refine wpList_store_atQ rfl 27 (.tmp 2) (.tmp 21) _ 0 _ _ _ #[.int .i64 C.many, .int .i64 C.need, .bool C.on, .int .i64 C.at_, .slice a1 C.n c1, .bool C.veto] 27 R.out rfl rfl rfl rfl (Nat.le_of_ble_eq_true rfl) (by kernel_rfl) (by kernel_rfl) (by kernel_rfl) ?_; intro VV hgV hRV; have HGV := Lib.hid hgV; have HRV := Lib.hid hRV; clear hgV hRV))
    (try simp only [Exit.inBlock, Exit.then])
    refine bodyPost_ret (ret_court rfl _ rfl HRV.out) rfl ?_
    exact ⟨C, a1, c1, rfl, (OW.out.keptC R.out (by decide) HGV.out).lower (by omega), by omega, grown_new G.out (by omega) HGV.out⟩
set_option maxRecDepth 100000 in
set_option maxHeartbeats 4000000 in
theorem drawCtMay (w : World) (a : Option Addr) (len cap : Nat) (hB : Bytes w w.heap.size a len) (hc : len ≤ cap) (hm : cap ≤ maxLen) :
    Calls Try.prog 32 #[.slice a len cap] w (GotQ2 w) := by
  have hs0 : (w.alloc (.cells #[.int .i64 0, .int .i64 0, .bool false, .int .i64 0, .slice none 0 0, .bool false] 27)).heap.size = w.heap.size + 1 := by show (w.heap.push _).size = _; simp
  have G := Lib.hid (grown_alloc w (.cells #[.int .i64 0, .int .i64 0, .bool false, .int .i64 0, .slice none 0 0, .bool false] 27) none)
  have HB := Lib.hid (hB.kept (w' := w.alloc (.cells #[.int .i64 0, .int .i64 0, .bool false, .int .i64 0, .slice none 0 0, .bool false] 27)) (fun k hk => Below.heap_alloc _ _ _ hk))
  have R := Lib.hid (Blk.new w #[.int .i64 0, .int .i64 0, .bool false, .int .i64 0, .slice none 0 0, .bool false] 27)
  clear hB
  go_enter Try.func32, Try.ntmps32
  go_wp2_with fail
  refine (open_any _ w.heap.size a len cap HB.out (by omega) hc hm).mono ?_
  rintro e w1 ⟨rfl, hg, hs1, l1, cq, hr1⟩
  rw [hs0] at hr1 hs1
  have H := Lib.hid hr1
  replace G := Lib.hid (gtr G.out hg)
  replace R := Lib.hid (R.out.keptN hg)
  clear hg
  clear hr1 HB hs0
  go_wp2_with fail
  refine (court_any _ _ _ a l1 cq 0 H.out (by omega)).mono ?_
  rintro e w2 ⟨C, a1, c1, p1, rfl, hO, hC6, hg, hr, hp1⟩
  have OW := Lib.hid (show OEQ w2 (w.heap.size + 1 + 1) a1 C.n c1 C.f by rw [← hs1]; exact hO)
  clear hO
  have hs : True := trivial
  replace H := Lib.hid hr
  replace G := Lib.hid (grown_new G.out (by omega) hg)
  replace R := Lib.hid (R.out.kept hg (by intro e; have e := Option.some.inj e; omega))
  clear hg
  clear hr hs
  clear hs1
  have hw2 : w.heap.size + 1 + 1 ≤ w2.heap.size := by have := H.out.lt; omega
  go_wp2_with (refine stop_store rfl ?_)
  refine ⟨trivial, ?_⟩
  refine wpList_store_atQ rfl 27 (.tmp 5) (.tmp 9) _ 0 _ _ _ #[.int .i64 C.many, .int .i64 C.need, .bool C.on, .int .i64 C.at_, .slice a1 C.n c1, .bool C.veto] 27 (Blk.new w2 #[.int .i64 0, .int .i64 0, .bool false, .int .i64 0, .slice none 0 0, .bool false] 27) rfl rfl rfl rfl (Nat.le_of_ble_eq_true rfl) (by kernel_rfl) (by kernel_rfl) (by kernel_rfl) ?_
  intro wb hgV hT
  have hg : w2.grownBy wb none := grown_new (grown_alloc w2 (.cells #[.int .i64 0, .int .i64 0, .bool false, .int .i64 0, .slice none 0 0, .bool false] 27) none) (Nat.le_refl _) hgV
  have T := Lib.hid hT
  clear hgV hT
  replace G := Lib.hid (gtr G.out hg)
  replace R := Lib.hid (R.out.keptN hg)
  replace H := Lib.hid (H.out.gN hg)
  replace OW := Lib.hid (OW.out.kept hg (fun g e => by cases e))
  clear hg
  generalize w2.heap.size = tb at *
  go_wp2_with fail
  refine wp_region_held_drew (S := (fun w' => w'.cell? ⟨tb, 0, none⟩ = some (.int .i64 C.many) ∧ w'.cell? ⟨tb, 1, none⟩ = some (.int .i64 C.need) ∧ w'.cell? ⟨tb, 2, none⟩ = some (.bool C.on) ∧ w'.cell? ⟨tb, 3, none⟩ = some (.int .i64 C.at_) ∧ w'.cell? ⟨tb, 4, none⟩ = some (.slice a1 C.n c1) ∧ w'.cell? ⟨tb, 5, none⟩ = some (.bool C.veto))) (by kernel_rfl) (⟨T.out.cell 0, T.out.cell 1, T.out.cell 2, T.out.cell 3, T.out.cell 4, T.out.cell 5⟩) (fun hHeld => ?_)
  have hg := gdrew wb
  replace G := Lib.hid (gtr G.out hg)
  replace R := Lib.hid (R.out.keptN hg)
  replace H := Lib.hid (H.out.gN hg)
  replace OW := Lib.hid (OW.out.kept hg (fun g e => by cases e))
  replace T := Lib.hid (T.out.keptN hg)
  clear hg
  generalize wb.drew = W at *
  refine wpAnyH_take (i := 0) (oi := ⟨some 10, _, _, _, _, _⟩) (v := ?_) rfl (by kernel_rfl) (by kernel_rfl) (by kernel_rfl) (fun _ _ _ h => h) (Or.inl ⟨by rfl, ?_⟩) (by assumption) ?_
  rotate_left
  · intro w hSw; (try dsimp only at hSw); go_simp; try with_reducible rfl
  simp only [Act.put, List.setIfInBounds_toArray, List.set_cons_zero, List.set_cons_succ]
  refine wpAnyH_take (i := 1) (oi := ⟨some 11, _, _, _, _, _⟩) (v := ?_) rfl (by kernel_rfl) (by kernel_rfl) (by kernel_rfl) (fun _ _ _ h => h) (Or.inl ⟨by rfl, ?_⟩) (by assumption) ?_
  rotate_left
  · intro w hSw; (try dsimp only at hSw); go_simp; try with_reducible rfl
  simp only [Act.put, List.setIfInBounds_toArray, List.set_cons_zero, List.set_cons_succ]
  refine wpAnyH_take (i := 3) (oi := ⟨some 13, _, _, _, _, _⟩) (v := ?_) rfl (by kernel_rfl) (by kernel_rfl) (by kernel_rfl) (fun _ _ _ h => h) (Or.inl ⟨by rfl, ?_⟩) (by assumption) ?_
  rotate_left
  · intro w hSw; (try dsimp only at hSw); go_simp; try with_reducible rfl
  simp only [Act.put, List.setIfInBounds_toArray, List.set_cons_zero, List.set_cons_succ]
  refine wpAnyH_take (i := 4) (oi := ⟨some 14, _, _, _, _, _⟩) (v := ?_) rfl (by kernel_rfl) (by kernel_rfl) (by kernel_rfl) (fun _ _ _ h => h) (Or.inl ⟨by rfl, ?_⟩) (by assumption) ?_
  rotate_left
  · intro w hSw; (try dsimp only at hSw); go_simp; try with_reducible rfl
  simp only [Act.put, List.setIfInBounds_toArray, List.set_cons_zero, List.set_cons_succ]
  refine wpAnyH_take (i := 5) (oi := ⟨some 15, _, _, _, _, _⟩) (v := ?_) rfl (by kernel_rfl) (by kernel_rfl) (by kernel_rfl) (fun _ _ _ h => h) (Or.inl ⟨by rfl, ?_⟩) (by assumption) ?_
  rotate_left
  · intro w hSw; (try dsimp only at hSw); go_simp; try with_reducible rfl
  simp only [Act.put, List.setIfInBounds_toArray, List.set_cons_zero, List.set_cons_succ]
  refine wpAnyH_take (i := 6) (oi := ⟨some 16, _, _, _, _, _⟩) (v := ?_) rfl (by kernel_rfl) (by kernel_rfl) (by kernel_rfl) (fun _ _ _ h => h) (Or.inl ⟨by rfl, ?_⟩) (by assumption) ?_
  rotate_left
  · intro w hSw; (try dsimp only at hSw); go_simp; try with_reducible rfl
  simp only [Act.put, List.setIfInBounds_toArray, List.set_cons_zero, List.set_cons_succ]
  refine wpAnyH_take (i := 7) (oi := ⟨some 17, _, _, _, _, _⟩) (v := ?_) rfl (by kernel_rfl) (by kernel_rfl) (by kernel_rfl) (fun _ _ _ h => h) (Or.inl ⟨by rfl, ?_⟩) (by assumption) ?_
  rotate_left
  · intro w hSw; (try dsimp only at hSw); go_simp; try with_reducible rfl
  simp only [Act.put, List.setIfInBounds_toArray, List.set_cons_zero, List.set_cons_succ]
  refine wpAnyH_take (i := 11) (oi := ⟨some 21, _, _, _, _, _⟩) (v := ?_) rfl (by kernel_rfl) (by kernel_rfl) (by kernel_rfl) (fun _ _ _ h => h) (Or.inl ⟨by rfl, ?_⟩) (by assumption) ?_
  rotate_left
  · intro w hSw; (try dsimp only at hSw); go_simp; try with_reducible rfl
  simp only [Act.put, List.setIfInBounds_toArray, List.set_cons_zero, List.set_cons_succ]
  refine wpAnyH_ready (rs := [2]) (by kernel_rfl) (by simp) ?_
  refine AllReadyH.cons (o := ⟨some 12, _, _, _, _, _⟩) rfl (fun Kq hKq => ?_) AllReadyH.nil
  go_simp
  go_at_call 42
  refine (pick_any _ _ _ a l1 cq _ (100 : Int) H.out (by omega) (by omega)).mono ?_
  rintro e w4 ⟨y, y0, y1, rfl, hr, hg, hs⟩
  replace H := Lib.hid hr
  replace G := Lib.hid (grown_new G.out (by omega) hg)
  replace R := Lib.hid (R.out.kept hg (by intro e; have e := Option.some.inj e; omega))
  replace OW := Lib.hid (OW.out.kept hg (fun g e => by have e := Option.some.inj e; omega))
  replace T := Lib.hid (T.out.kept hg (by intro e; have e := Option.some.inj e; omega))
  clear hg
  clear hr hs
  refine hKq.out _ _ (⟨T.out.cell 0, T.out.cell 1, T.out.cell 2, T.out.cell 3, T.out.cell 4, T.out.cell 5⟩) (fun hHeld => ?_)
  clear hKq Kq
  refine wpAnyH_ready (rs := [8]) (by kernel_rfl) (by simp) ?_
  refine AllReadyH.cons (o := ⟨some 18, _, _, _, _, _⟩) rfl (fun Kq hKq => ?_) AllReadyH.nil
  go_simp
  go_at_call 42
  refine (pick_any _ _ _ a l1 cq _ (5 : Int) H.out (by omega) (by omega)).mono ?_
  rintro e w5 ⟨z, z0, z1, rfl, hr, hg, hs⟩
  replace H := Lib.hid hr
  replace G := Lib.hid (grown_new G.out (by omega) hg)
  replace R := Lib.hid (R.out.kept hg (by intro e; have e := Option.some.inj e; omega))
  replace OW := Lib.hid (OW.out.kept hg (fun g e => by have e := Option.some.inj e; omega))
  replace T := Lib.hid (T.out.kept hg (by intro e; have e := Option.some.inj e; omega))
  clear hg
  clear hr hs
  refine hKq.out _ _ (⟨T.out.cell 0, T.out.cell 1, T.out.cell 2, T.out.cell 3, T.out.cell 4, T.out.cell 5⟩) (fun hHeld => ?_)
  clear hKq Kq
  refine wpAnyH_take (i := 9) (oi := ⟨some 19, _, _, _, _, _⟩) (v := ?_) rfl (by kernel_rfl) (by kernel_rfl) (by kernel_rfl) (fun _ _ _ h => h) (Or.inl ⟨by rfl, ?_⟩) (by assumption) ?_
  rotate_left
  · intro w hSw; (try dsimp only at hSw); go_simp; try with_reducible rfl
  simp only [Act.put, List.setIfInBounds_toArray, List.set_cons_zero, List.set_cons_succ]
  refine wpAnyH_ready (rs := [10, 12]) (by kernel_rfl) (by simp) ?_
  refine AllReadyH.cons (o := ⟨some 20, _, _, _, _, _⟩) rfl (fun Kq hKq => ?_) (AllReadyH.cons (o := ⟨some 22, _, _, _, _, _⟩) rfl (fun Kq hKq => ?_) AllReadyH.nil)
  · go_simp
    refine at_alloc ?_
    intro Wa hg hX
    have hxB : w.heap.size + 1 < w5.heap.size := H.out.lt
    generalize w5.heap.size = xb at *
    have X := Lib.hid hX
    replace G := Lib.hid (gtr G.out hg)
    replace R := Lib.hid (R.out.keptN hg)
    replace OW := Lib.hid (OW.out.kept hg (fun g e => by cases e))
    replace T := Lib.hid (T.out.keptN hg)
    replace H := Lib.hid (H.out.gN hg)
    clear hg
    clear hX
    refine hKq.out _ _ (⟨T.out.cell 0, T.out.cell 1, T.out.cell 2, T.out.cell 3, T.out.cell 4, T.out.cell 5⟩) (fun hHeld => ?_)
    clear hKq Kq
    refine wpAnyH_ready (rs := [12]) (by kernel_rfl) (by simp) ?_
    refine AllReadyH.cons (o := ⟨some 22, _, _, _, _, _⟩) rfl (fun Kq hKq => ?_) AllReadyH.nil
    go_simp
    go_at_call 42
    refine (pick_any _ _ _ a l1 cq _ (2 : Int) H.out (by omega) (by omega)).mono ?_
    rintro e w6 ⟨q, q0, q1, rfl, hr, hg, hs⟩
    replace H := Lib.hid hr
    replace G := Lib.hid (grown_new G.out (by omega) hg)
    replace R := Lib.hid (R.out.kept hg (by intro e; have e := Option.some.inj e; omega))
    replace OW := Lib.hid (OW.out.kept hg (fun g e => by have e := Option.some.inj e; omega))
    replace T := Lib.hid (T.out.kept hg (by intro e; have e := Option.some.inj e; omega))
    replace X := Lib.hid (X.out.kept hg (by intro e; have e := Option.some.inj e; omega))
    clear hg
    clear hr hs
    obtain ⟨qn, rfl⟩ : ∃ qn : Nat, q = qn := ⟨q.toNat, by omega⟩
    have hqn : qn < 2 := by omega
    refine hKq.out _ _ (⟨T.out.cell 0, T.out.cell 1, T.out.cell 2, T.out.cell 3, T.out.cell 4, T.out.cell 5⟩) (fun hHeld => ?_)
    clear hKq Kq
    refine wpAnyH_take (i := 13) (oi := ⟨some 23, _, _, _, _, _⟩) (v := ?_) rfl (by kernel_rfl) (by kernel_rfl) (by kernel_rfl) (fun _ _ _ h => h) (Or.inl ⟨by rfl, ?_⟩) (by assumption) ?_
    rotate_left
    · intro w hSw; (try dsimp only at hSw); go_simp; try with_reducible rfl
    simp only [Act.put, List.setIfInBounds_toArray, List.set_cons_zero, List.set_cons_succ]
    refine wpAnyH_ready (rs := [14, 15]) (by kernel_rfl) (by simp) ?_
    refine AllReadyH.cons (o := ⟨some 24, _, _, _, _, _⟩) rfl (fun Kq hKq => ?_) (AllReadyH.cons (o := ⟨none, _, _, _, _, _⟩) rfl (fun Kq hKq => ?_) AllReadyH.nil)
    · obtain ⟨lv, hlv⟩ : ∃ lv : Int, w6.cell? ⟨xb, qn, none⟩ = some (.int .i64 lv) := by
        rcases (by omega : qn = 0 ∨ qn = 1) with rfl | rfl
        · exact ⟨_, X.out.cell 0⟩
        · exact ⟨_, X.out.cell 1⟩
      go_simp
      clear hlv
      refine hKq.out _ _ (⟨T.out.cell 0, T.out.cell 1, T.out.cell 2, T.out.cell 3, T.out.cell 4, T.out.cell 5⟩) (fun hHeld => ?_)
      clear hKq Kq
      refine wpAnyH_ready (rs := [15]) (by kernel_rfl) (by simp) ?_
      refine AllReadyH.cons (o := ⟨none, _, _, _, _, _⟩) rfl (fun Kq hKq => ?_) AllReadyH.nil
      rw [if_pos (by rfl)]
      refine wp_store_atQ 27 (.tmp 2) (.tmp 10) _ 0 _ _ _ #[.int .i64 C.many, .int .i64 C.need, .bool C.on, .int .i64 C.at_, .slice a1 C.n c1, .bool C.veto] 27 R.out rfl rfl rfl rfl (Nat.le_of_ble_eq_true rfl) (by kernel_rfl) (by kernel_rfl) (by kernel_rfl) ?_
      intro w7 hg hT
      have OW' := OW.out.keptC R.out (by decide) hg
      clear R OW
      have R := Lib.hid hT
      have OW := Lib.hid OW'
      clear hT OW'
      replace G := Lib.hid (grown_new G.out (by omega) hg)
      replace T := Lib.hid (T.out.kept hg (by intro e; have e := Option.some.inj e; omega))
      replace X := Lib.hid (X.out.kept hg (by intro e; have e := Option.some.inj e; omega))
      replace H := Lib.hid (H.out.grownN hg (by omega) (by omega))
      clear hg
      refine hKq.out _ _ (⟨T.out.cell 0, T.out.cell 1, T.out.cell 2, T.out.cell 3, T.out.cell 4, T.out.cell 5⟩) (fun hHeld => ?_)
      clear hKq Kq
      refine wpAnyH_take (i := 16) (oi := ⟨some 3, _, _, _, _, _⟩) (v := ?_) rfl (by kernel_rfl) (by kernel_rfl) (by kernel_rfl) (fun _ _ _ h => h) (Or.inl ⟨by rfl, ?_⟩) (by assumption) ?_
      rotate_left
      · intro w hSw; (try dsimp only at hSw); go_simp; try with_reducible rfl
      simp only [Act.put, List.setIfInBounds_toArray, List.set_cons_zero, List.set_cons_succ]
      refine wpAnyH_done (by kernel_rfl) ?_ _
      go_wp2
      (try simp only [Exit.inBlock, Exit.then])
      refine bodyPost_ret (ret_court2 rfl _ rfl R.out) rfl ?_
      exact ⟨C, a1, c1, _, rfl, OW.out.lower (by omega), by omega, G.out⟩
    · rw [if_pos (by rfl)]
      refine wp_store_atQ 27 (.tmp 2) (.tmp 10) _ 0 _ _ _ #[.int .i64 C.many, .int .i64 C.need, .bool C.on, .int .i64 C.at_, .slice a1 C.n c1, .bool C.veto] 27 R.out rfl rfl rfl rfl (Nat.le_of_ble_eq_true rfl) (by kernel_rfl) (by kernel_rfl) (by kernel_rfl) ?_
      intro w7 hg hT
      have OW' := OW.out.keptC R.out (by decide) hg
      clear R OW
      have R := Lib.hid hT
      have OW := Lib.hid OW'
      clear hT OW'
      replace G := Lib.hid (grown_new G.out (by omega) hg)
      replace T := Lib.hid (T.out.kept hg (by intro e; have e := Option.some.inj e; omega))
      replace X := Lib.hid (X.out.kept hg (by intro e; have e := Option.some.inj e; omega))
      replace H := Lib.hid (H.out.grownN hg (by omega) (by omega))
      clear hg
      refine hKq.out _ _ (⟨T.out.cell 0, T.out.cell 1, T.out.cell 2, T.out.cell 3, T.out.cell 4, T.out.cell 5⟩) (fun hHeld => ?_)
      clear hKq Kq
      refine wpAnyH_ready (rs := [14]) (by kernel_rfl) (by simp) ?_
      refine AllReadyH.cons (o := ⟨some 24, _, _, _, _, _⟩) rfl (fun Kq hKq => ?_) AllReadyH.nil
      obtain ⟨lv, hlv⟩ : ∃ lv : Int, w7.cell? ⟨xb, qn, none⟩ = some (.int .i64 lv) := by
        rcases (by omega : qn = 0 ∨ qn = 1) with rfl | rfl
        · exact ⟨_, X.out.cell 0⟩
        · exact ⟨_, X.out.cell 1⟩
      go_simp
      clear hlv
      refine hKq.out _ _ (⟨T.out.cell 0, T.out.cell 1, T.out.cell 2, T.out.cell 3, T.out.cell 4, T.out.cell 5⟩) (fun hHeld => ?_)
      clear hKq Kq
      refine wpAnyH_take (i := 16) (oi := ⟨some 3, _, _, _, _, _⟩) (v := ?_) rfl (by kernel_rfl) (by kernel_rfl) (by kernel_rfl) (fun _ _ _ h => h) (Or.inl ⟨by rfl, ?_⟩) (by assumption) ?_
      rotate_left
      · intro w hSw; (try dsimp only at hSw); go_simp; try with_reducible rfl
      simp only [Act.put, List.setIfInBounds_toArray, List.set_cons_zero, List.set_cons_succ]
      refine wpAnyH_done (by kernel_rfl) ?_ _
      go_wp2
      (try simp only [Exit.inBlock, Exit.then])
      refine bodyPost_ret (ret_court2 rfl _ rfl R.out) rfl ?_
      exact ⟨C, a1, c1, _, rfl, OW.out.lower (by omega), by omega, G.out⟩
  · go_simp
    go_at_call 42
    refine (pick_any _ _ _ a l1 cq _ (2 : Int) H.out (by omega) (by omega)).mono ?_
    rintro e w6 ⟨q, q0, q1, rfl, hr, hg, hs⟩
    replace H := Lib.hid hr
    replace G := Lib.hid (grown_new G.out (by omega) hg)
    replace R := Lib.hid (R.out.kept hg (by intro e; have e := Option.some.inj e; omega))
    replace OW := Lib.hid (OW.out.kept hg (fun g e => by have e := Option.some.inj e; omega))
    replace T := Lib.hid (T.out.kept hg (by intro e; have e := Option.some.inj e; omega))
    clear hg
    clear hr hs
    obtain ⟨qn, rfl⟩ : ∃ qn : Nat, q = qn := ⟨q.toNat, by omega⟩
    have hqn : qn < 2 := by omega
    refine hKq.out _ _ (⟨T.out.cell 0, T.out.cell 1, T.out.cell 2, T.out.cell 3, T.out.cell 4, T.out.cell 5⟩) (fun hHeld => ?_)
    clear hKq Kq
    refine wpAnyH_ready (rs := [10, 15]) (by kernel_rfl) (by simp) ?_
    refine AllReadyH.cons (o := ⟨some 20, _, _, _, _, _⟩) rfl (fun Kq hKq => ?_) (AllReadyH.cons (o := ⟨none, _, _, _, _, _⟩) rfl (fun Kq hKq => ?_) AllReadyH.nil)
    · go_simp
      refine at_alloc ?_
      intro Wa hg hX
      have hxB : w.heap.size + 1 < w6.heap.size := H.out.lt
      generalize w6.heap.size = xb at *
      have X := Lib.hid hX
      replace G := Lib.hid (gtr G.out hg)
      replace R := Lib.hid (R.out.keptN hg)
      replace OW := Lib.hid (OW.out.kept hg (fun g e => by cases e))
      replace T := Lib.hid (T.out.keptN hg)
      replace H := Lib.hid (H.out.gN hg)
      clear hg
      clear hX
      refine hKq.out _ _ (⟨T.out.cell 0, T.out.cell 1, T.out.cell 2, T.out.cell 3, T.out.cell 4, T.out.cell 5⟩) (fun hHeld => ?_)
      clear hKq Kq
      refine wpAnyH_take (i := 13) (oi := ⟨some 23, _, _, _, _, _⟩) (v := ?_) rfl (by kernel_rfl) (by kernel_rfl) (by kernel_rfl) (fun _ _ _ h => h) (Or.inl ⟨by rfl, ?_⟩) (by assumption) ?_
      rotate_left
      · intro w hSw; (try dsimp only at hSw); go_simp; try with_reducible rfl
      simp only [Act.put, List.setIfInBounds_toArray, List.set_cons_zero, List.set_cons_succ]
      refine wpAnyH_ready (rs := [14, 15]) (by kernel_rfl) (by simp) ?_
      refine AllReadyH.cons (o := ⟨some 24, _, _, _, _, _⟩) rfl (fun Kq hKq => ?_) (AllReadyH.cons (o := ⟨none, _, _, _, _, _⟩) rfl (fun Kq hKq => ?_) AllReadyH.nil)
      · obtain ⟨lv, hlv⟩ : ∃ lv : Int, Wa.cell? ⟨xb, qn, none⟩ = some (.int .i64 lv) := by
          rcases (by omega : qn = 0 ∨ qn = 1) with rfl | rfl
          · exact ⟨_, X.out.cell 0⟩
          · exact ⟨_, X.out.cell 1⟩
        go_simp
        clear hlv
        refine hKq.out _ _ (⟨T.out.cell 0, T.out.cell 1, T.out.cell 2, T.out.cell 3, T.out.cell 4, T.out.cell 5⟩) (fun hHeld => ?_)
        clear hKq Kq
        refine wpAnyH_ready (rs := [15]) (by kernel_rfl) (by simp) ?_
        refine AllReadyH.cons (o := ⟨none, _, _, _, _, _⟩) rfl (fun Kq hKq => ?_) AllReadyH.nil
        rw [if_pos (by rfl)]
        refine wp_store_atQ 27 (.tmp 2) (.tmp 10) _ 0 _ _ _ #[.int .i64 C.many, .int .i64 C.need, .bool C.on, .int .i64 C.at_, .slice a1 C.n c1, .bool C.veto] 27 R.out rfl rfl rfl rfl (Nat.le_of_ble_eq_true rfl) (by kernel_rfl) (by kernel_rfl) (by kernel_rfl) ?_
        intro w7 hg hT
        have OW' := OW.out.keptC R.out (by decide) hg
        clear R OW
        have R := Lib.hid hT
        have OW := Lib.hid OW'
        clear hT OW'
        replace G := Lib.hid (grown_new G.out (by omega) hg)
        replace T := Lib.hid (T.out.kept hg (by intro e; have e := Option.some.inj e; omega))
        replace H := Lib.hid (H.out.grownN hg (by omega) (by omega))
        replace X := Lib.hid (X.out.kept hg (by intro e; have e := Option.some.inj e; omega))
        clear hg
        refine hKq.out _ _ (⟨T.out.cell 0, T.out.cell 1, T.out.cell 2, T.out.cell 3, T.out.cell 4, T.out.cell 5⟩) (fun hHeld => ?_)
        clear hKq Kq
        refine wpAnyH_take (i := 16) (oi := ⟨some 3, _, _, _, _, _⟩) (v := ?_) rfl (by kernel_rfl) (by kernel_rfl) (by kernel_rfl) (fun _ _ _ h => h) (Or.inl ⟨by rfl, ?_⟩) (by assumption) ?_
        rotate_left
        · intro w hSw; (try dsimp only at hSw); go_simp; try with_reducible rfl
        simp only [Act.put, List.setIfInBounds_toArray, List.set_cons_zero, List.set_cons_succ]
        refine wpAnyH_done (by kernel_rfl) ?_ _
        go_wp2
        (try simp only [Exit.inBlock, Exit.then])
        refine bodyPost_ret (ret_court2 rfl _ rfl R.out) rfl ?_
        exact ⟨C, a1, c1, _, rfl, OW.out.lower (by omega), by omega, G.out⟩
      · rw [if_pos (by rfl)]
        refine wp_store_atQ 27 (.tmp 2) (.tmp 10) _ 0 _ _ _ #[.int .i64 C.many, .int .i64 C.need, .bool C.on, .int .i64 C.at_, .slice a1 C.n c1, .bool C.veto] 27 R.out rfl rfl rfl rfl (Nat.le_of_ble_eq_true rfl) (by kernel_rfl) (by kernel_rfl) (by kernel_rfl) ?_
        intro w7 hg hT
        have OW' := OW.out.keptC R.out (by decide) hg
        clear R OW
        have R := Lib.hid hT
        have OW := Lib.hid OW'
        clear hT OW'
        replace G := Lib.hid (grown_new G.out (by omega) hg)
        replace T := Lib.hid (T.out.kept hg (by intro e; have e := Option.some.inj e; omega))
        replace H := Lib.hid (H.out.grownN hg (by omega) (by omega))
        replace X := Lib.hid (X.out.kept hg (by intro e; have e := Option.some.inj e; omega))
        clear hg
        refine hKq.out _ _ (⟨T.out.cell 0, T.out.cell 1, T.out.cell 2, T.out.cell 3, T.out.cell 4, T.out.cell 5⟩) (fun hHeld => ?_)
        clear hKq Kq
        refine wpAnyH_ready (rs := [14]) (by kernel_rfl) (by simp) ?_
        refine AllReadyH.cons (o := ⟨some 24, _, _, _, _, _⟩) rfl (fun Kq hKq => ?_) AllReadyH.nil
        obtain ⟨lv, hlv⟩ : ∃ lv : Int, w7.cell? ⟨xb, qn, none⟩ = some (.int .i64 lv) := by
          rcases (by omega : qn = 0 ∨ qn = 1) with rfl | rfl
          · exact ⟨_, X.out.cell 0⟩
          · exact ⟨_, X.out.cell 1⟩
        go_simp
        clear hlv
        refine hKq.out _ _ (⟨T.out.cell 0, T.out.cell 1, T.out.cell 2, T.out.cell 3, T.out.cell 4, T.out.cell 5⟩) (fun hHeld => ?_)
        clear hKq Kq
        refine wpAnyH_take (i := 16) (oi := ⟨some 3, _, _, _, _, _⟩) (v := ?_) rfl (by kernel_rfl) (by kernel_rfl) (by kernel_rfl) (fun _ _ _ h => h) (Or.inl ⟨by rfl, ?_⟩) (by assumption) ?_
        rotate_left
        · intro w hSw; (try dsimp only at hSw); go_simp; try with_reducible rfl
        simp only [Act.put, List.setIfInBounds_toArray, List.set_cons_zero, List.set_cons_succ]
        refine wpAnyH_done (by kernel_rfl) ?_ _
        go_wp2
        (try simp only [Exit.inBlock, Exit.then])
        refine bodyPost_ret (ret_court2 rfl _ rfl R.out) rfl ?_
        exact ⟨C, a1, c1, _, rfl, OW.out.lower (by omega), by omega, G.out⟩
    · rw [if_pos (by rfl)]
      refine wp_store_atQ 27 (.tmp 2) (.tmp 10) _ 0 _ _ _ #[.int .i64 C.many, .int .i64 C.need, .bool C.on, .int .i64 C.at_, .slice a1 C.n c1, .bool C.veto] 27 R.out rfl rfl rfl rfl (Nat.le_of_ble_eq_true rfl) (by kernel_rfl) (by kernel_rfl) (by kernel_rfl) ?_
      intro w7 hg hT
      have OW' := OW.out.keptC R.out (by decide) hg
      clear R OW
      have R := Lib.hid hT
      have OW := Lib.hid OW'
      clear hT OW'
      replace G := Lib.hid (grown_new G.out (by omega) hg)
      replace T := Lib.hid (T.out.kept hg (by intro e; have e := Option.some.inj e; omega))
      replace H := Lib.hid (H.out.grownN hg (by omega) (by omega))
      clear hg
      refine hKq.out _ _ (⟨T.out.cell 0, T.out.cell 1, T.out.cell 2, T.out.cell 3, T.out.cell 4, T.out.cell 5⟩) (fun hHeld => ?_)
      clear hKq Kq
      refine wpAnyH_ready (rs := [10]) (by kernel_rfl) (by simp) ?_
      refine AllReadyH.cons (o := ⟨some 20, _, _, _, _, _⟩) rfl (fun Kq hKq => ?_) AllReadyH.nil
      go_simp
      refine at_alloc ?_
      intro Wa hg hX
      have hxB : w.heap.size + 1 < w7.heap.size := H.out.lt
      generalize w7.heap.size = xb at *
      have X := Lib.hid hX
      replace G := Lib.hid (gtr G.out hg)
      replace T := Lib.hid (T.out.keptN hg)
      replace H := Lib.hid (H.out.gN hg)
      replace R := Lib.hid (R.out.keptN hg)
      replace OW := Lib.hid (OW.out.kept hg (fun g e => by cases e))
      clear hg
      clear hX
      refine hKq.out _ _ (⟨T.out.cell 0, T.out.cell 1, T.out.cell 2, T.out.cell 3, T.out.cell 4, T.out.cell 5⟩) (fun hHeld => ?_)
      clear hKq Kq
      refine wpAnyH_take (i := 13) (oi := ⟨some 23, _, _, _, _, _⟩) (v := ?_) rfl (by kernel_rfl) (by kernel_rfl) (by kernel_rfl) (fun _ _ _ h => h) (Or.inl ⟨by rfl, ?_⟩) (by assumption) ?_
      rotate_left
      · intro w hSw; (try dsimp only at hSw); go_simp; try with_reducible rfl
      simp only [Act.put, List.setIfInBounds_toArray, List.set_cons_zero, List.set_cons_succ]
      refine wpAnyH_ready (rs := [14]) (by kernel_rfl) (by simp) ?_
      refine AllReadyH.cons (o := ⟨some 24, _, _, _, _, _⟩) rfl (fun Kq hKq => ?_) AllReadyH.nil
      obtain ⟨lv, hlv⟩ : ∃ lv : Int, Wa.cell? ⟨xb, qn, none⟩ = some (.int .i64 lv) := by
        rcases (by omega : qn = 0 ∨ qn = 1) with rfl | rfl
        · exact ⟨_, X.out.cell 0⟩
        · exact ⟨_, X.out.cell 1⟩
      go_simp
      clear hlv
      refine hKq.out _ _ (⟨T.out.cell 0, T.out.cell 1, T.out.cell 2, T.out.cell 3, T.out.cell 4, T.out.cell 5⟩) (fun hHeld => ?_)
      clear hKq Kq
      refine wpAnyH_take (i := 16) (oi := ⟨some 3, _, _, _, _, _⟩) (v := ?_) rfl (by kernel_rfl) (by kernel_rfl) (by kernel_rfl) (fun _ _ _ h => h) (Or.inl ⟨by rfl, ?_⟩) (by assumption) ?_
      rotate_left
      · intro w hSw; (try dsimp only at hSw); go_simp; try with_reducible rfl
      simp only [Act.put, List.setIfInBounds_toArray, List.set_cons_zero, List.set_cons_succ]
      refine wpAnyH_done (by kernel_rfl) ?_ _
      go_wp2
      (try simp only [Exit.inBlock, Exit.then])
      refine bodyPost_ret (ret_court2 rfl _ rfl R.out) rfl ?_
      exact ⟨C, a1, c1, _, rfl, OW.out.lower (by omega), by omega, G.out⟩
end Ct
end Go.Proofs.Ytbfmigmhmjgdgaa
