/-
  Courts: what the program's functions answer.
-/
import Derived.Test.YtbfmigmhmjgdgaaZd
namespace Go.Proofs.Ytbfmigmhmjgdgaa
namespace Ct
open Go.RowKit Alg Mem Con Draw
set_option linter.unusedVariables false

theorem size_ops : (Try.prog.info? 70).map (·.size) = some 3 := by kernel_rfl
theorem iops (w : World) : Calls Try.prog 61 #[] w fun e w' => e = .returned (.agg #[.func (.func 69) #[] #[], .func (.func 70) #[] #[], .func (.func 71) #[] #[]]) ∧ w.grownBy w' none := by
  have R := Lib.hid (Blk.new w #[.nilFunc, .nilFunc, .nilFunc] 70)
  have G := Lib.hid (grown_alloc w (.cells #[.nilFunc, .nilFunc, .nilFunc] 70) none)
  go_enter Try.func61, Try.ntmps61
  go_wp2_with (first
    | (refine wpList_store_atQ rfl 70 (.tmp 0) (.tmp 1) _ 0 _ _ _ #[.func (.func 69) #[] #[], .func (.func 70) #[] #[], .func (.func 71) #[] #[]] 70 R.out rfl rfl rfl rfl (Nat.le_of_ble_eq_true rfl) (by kernel_rfl) (by kernel_rfl) (by kernel_rfl) ?_; intro V hgV hRV; have HGV := Lib.hid hgV; have HRV := Lib.hid hRV; clear hgV hRV))
  (try simp only [Exit.inBlock, Exit.then])
  refine bodyPost_ret (results_cell_row rfl _ _ _ 70 #[.func (.func 69) #[] #[], .func (.func 70) #[] #[], .func (.func 71) #[] #[]] (0, 0) _ rfl HRV.out Try.underlying70 rfl size_ops) rfl ?_
  exact ⟨rfl, grown_new G.out (by omega) HGV.out⟩
/-- A court, if there is one. -/
def dsV (ok : Bool) (D : CV) : CV := if ok = true then D else zeroC
theorem dsV_yes {ok : Bool} {D : CV} (h : ok = true) : dsV ok D = D := if_pos h
theorem dsV_no {ok : Bool} {D : CV} (h : ok = false) : dsV ok D = zeroC := if_neg (by rw [h]; decide)
theorem gotc2 {w w' : World} {C D : CV} {x y : Bool} {e : Ending} (h : GotC2 w C x e w') (hC : D = C) (hx : y = x) : GotC2 w D y e w' := by rw [hC, hx]; exact h
set_option maxRecDepth 100000 in
set_option maxHeartbeats 4000000 in
theorem idisp0 (w : World) (many need : Int) (on : Bool) (at_ : Int) (a : Option Addr) (n c : Nat) (f : Nat → Int) (veto : Bool) (x : Int) (hI : Ints w a n f) (hl : n ≤ 2000000) (hc : n ≤ c) (hm : c ≤ maxLen) :
    Calls Try.prog 46 #[.int .i64 0, .agg #[.int .i64 many, .int .i64 need, .bool on, .int .i64 at_, .slice a n c, .bool veto], .int .i64 x] w (GotC2 w (dsV (cokF ⟨many, need, on, at_, n, f, veto⟩) (opS ⟨many, need, on, at_, n, f, veto⟩ x)) (cokF ⟨many, need, on, at_, n, f, veto⟩ && !stF on veto)) := by
    have hs0 : ((w.alloc (.cells #[.int .i64 many, .int .i64 need, .bool on, .int .i64 at_, .slice a n c, .bool veto] 27)).alloc (.cells #[.int .i64 0, .int .i64 0, .bool false, .int .i64 0, .slice none 0 0, .bool false] 27)).heap.size = w.heap.size + 1 + 1 := by show ((w.heap.push _).push _).size = _; simp
    have HS := Lib.hid hs0; clear hs0
    have G := Lib.hid (gtr (grown_alloc w (.cells #[.int .i64 many, .int .i64 need, .bool on, .int .i64 at_, .slice a n c, .bool veto] 27) none) (grown_alloc _ (.cells #[.int .i64 0, .int .i64 0, .bool false, .int .i64 0, .slice none 0 0, .bool false] 27) none))
    have K := Lib.hid ((Blk.new w #[.int .i64 many, .int .i64 need, .bool on, .int .i64 at_, .slice a n c, .bool veto] 27).keptN (grown_alloc _ (.cells #[.int .i64 0, .int .i64 0, .bool false, .int .i64 0, .slice none 0 0, .bool false] 27) none))
    have R := Lib.hid (blk_new2 w (.cells #[.int .i64 many, .int .i64 need, .bool on, .int .i64 at_, .slice a n c, .bool veto] 27) #[.int .i64 0, .int .i64 0, .bool false, .int .i64 0, .slice none 0 0, .bool false] 27)
    have I := Lib.hid (hI.kept G.out)
    clear hI
    have hix : ∀ w : World, (Instr.index 70 (.agg #[.func (.func 69) #[] #[], .func (.func 70) #[] #[], .func (.func 71) #[] #[]]) (.int .i64 0)).run Try.prog w = .ok (.func (.func 69) #[] #[]) w := fun w => by kernel_rfl
    go_enter Try.func46, Try.ntmps46
    obtain ⟨k0, k1, k2, k3, k4, k5, f0, f1, f2, f3, f4, f5⟩ := c6_of K.out
    go_wp2_with fail
    refine (ictok _ many need on at_ a n c f veto I.out (by omega) hc hm).mono ?_
    rintro e w1 ⟨rfl, hg⟩
    clear k0 k1 k2 k3 k4 k5 f0 f1 f2 f3 f4 f5
    replace G := Lib.hid (gtr G.out hg)
    replace K := Lib.hid (K.out.keptN hg)
    replace R := Lib.hid (R.out.keptN hg)
    replace I := Lib.hid (I.out.kept hg)
    clear hg HS
    obtain ⟨k0, k1, k2, k3, k4, k5, f0, f1, f2, f3, f4, f5⟩ := c6_of K.out
    cases hk : cokF ⟨many, need, on, at_, n, f, veto⟩ with
    | false =>
      have HK := Lib.hid hk; clear hk
      go_wp2_with (first
        | (refine wpList_store_atQ rfl 27 (.tmp 6) (.tmp 11) _ 0 _ _ _ #[.int .i64 0, .int .i64 0, .bool false, .int .i64 0, .slice none 0 0, .bool false] 27 R.out rfl rfl rfl rfl (Nat.le_of_ble_eq_true rfl) (by kernel_rfl) (by kernel_rfl) (by kernel_rfl) ?_; intro V hgV hRV; have HGV := Lib.hid hgV; have HRV := Lib.hid hRV; clear hgV hRV))
      (try simp only [Exit.inBlock, Exit.then])
      refine bodyPost_ret (ret_court2 rfl _ rfl HRV.out) rfl ?_
      exact gotc2 ⟨_, _, rfl, OEQ.nil _ _ _, grown_new G.out (by omega) HGV.out⟩ (dsV_no HK.out) (by rw [HK.out]; rfl)
    | true =>
      have HK := Lib.hid hk; clear hk
      go_wp2_with fail
      refine (clone_intQ _ a n c f I.out (by omega)).mono ?_
      rintro e w2 ⟨a1, c1, rfl, hv, hg⟩
      clear k0 k1 k2 k3 k4 k5 f0 f1 f2 f3 f4 f5
      have O := Lib.hid (hv.lower (lo' := w.heap.size) G.out.size)
      replace G := Lib.hid (gtr G.out hg)
      replace K := Lib.hid (K.out.keptN hg)
      replace R := Lib.hid (R.out.keptN hg)
      clear hg hv I
      obtain ⟨k0, k1, k2, k3, k4, k5, f0, f1, f2, f3, f4, f5⟩ := c6_of K.out
      go_wp2_with (first
        | (refine wpList_store_atQ rfl 23 (.tmp 17) (.tmp 15) _ 4 _ _ _ #[.int .i64 many, .int .i64 need, .bool on, .int .i64 at_, .slice a1 n c1, .bool veto] 27 K.out rfl rfl rfl rfl (Nat.le_of_ble_eq_true rfl) (by kernel_rfl) (by kernel_rfl) (by kernel_rfl) ?_; intro V hgV hRV; have R2 := Lib.hid (R.out.kept hgV (by intro e; have e := Option.some.inj e; omega)); have G2 := Lib.hid (grown_new G.out (by omega) hgV); have OW2 := Lib.hid (O.out.keptC K.out (by decide) hgV); have K2 := Lib.hid hRV; clear hgV hRV k0 k1 k2 k3 k4 k5 f0 f1 f2 f3 f4 f5 G O K R))
      refine wp_region_held_drew (S := (fun w' => w'.cell? ⟨w.heap.size, 0, none⟩ = some (.int .i64 many) ∧ w'.cell? ⟨w.heap.size, 1, none⟩ = some (.int .i64 need) ∧ w'.cell? ⟨w.heap.size, 2, none⟩ = some (.bool on) ∧ w'.cell? ⟨w.heap.size, 3, none⟩ = some (.int .i64 at_) ∧ w'.cell? ⟨w.heap.size, 4, none⟩ = some (.slice a1 n c1) ∧ w'.cell? ⟨w.heap.size, 5, none⟩ = some (.bool veto))) (by kernel_rfl) (⟨K2.out.cell 0, K2.out.cell 1, K2.out.cell 2, K2.out.cell 3, K2.out.cell 4, K2.out.cell 5⟩) (fun hHeld => ?_)
      have hg := gdrew V
      replace G2 := Lib.hid (gtr G2.out hg)
      replace K2 := Lib.hid (K2.out.keptN hg)
      replace R2 := Lib.hid (R2.out.keptN hg)
      replace OW2 := Lib.hid (OW2.out.kept hg (fun g e => by cases e))
      clear hg
      generalize V.drew = W at *
      refine wpAnyH_take (i := 1) (oi := ⟨some 19, _, _, _, _, _⟩) (v := ?_) rfl (by kernel_rfl) (by kernel_rfl) (by kernel_rfl) (fun _ _ _ h => h) (Or.inl ⟨by rfl, ?_⟩) (by assumption) ?_
      rotate_left
      · intro w hSw; (try dsimp only at hSw); go_simp; try with_reducible rfl
      simp only [Act.put, List.setIfInBounds_toArray, List.set_cons_zero, List.set_cons_succ]
      refine wpAnyH_take (i := 3) (oi := ⟨some 21, _, _, _, _, _⟩) (v := ?_) rfl (by kernel_rfl) (by kernel_rfl) (by kernel_rfl) (fun _ _ _ h => h) (Or.inl ⟨by rfl, ?_⟩) (by assumption) ?_
      rotate_left
      · intro w hSw; (try dsimp only at hSw); go_simp; try with_reducible rfl
      simp only [Act.put, List.setIfInBounds_toArray, List.set_cons_zero, List.set_cons_succ]
      refine wpAnyH_take (i := 4) (oi := ⟨some 22, _, _, _, _, _⟩) (v := ?_) rfl (by kernel_rfl) (by kernel_rfl) (by kernel_rfl) (fun _ _ _ h => h) (Or.inl ⟨by rfl, ?_⟩) (by assumption) ?_
      rotate_left
      · intro w hSw; (try dsimp only at hSw); go_simp; try with_reducible rfl
      simp only [Act.put, List.setIfInBounds_toArray, List.set_cons_zero, List.set_cons_succ]
      refine wpAnyH_ready (rs := [0]) (by kernel_rfl) (by simp) ?_
      refine AllReadyH.cons (o := ⟨some 18, _, _, _, _, _⟩) rfl (fun Kq hKq => ?_) AllReadyH.nil
      go_simp
      go_at_call 61
      refine (iops _).mono ?_
      rintro e w3 ⟨rfl, hg⟩
      replace G2 := Lib.hid (gtr G2.out hg)
      replace K2 := Lib.hid (K2.out.keptN hg)
      replace R2 := Lib.hid (R2.out.keptN hg)
      replace OW2 := Lib.hid (OW2.out.kept hg (fun g e => by cases e))
      clear hg
      refine hKq.out _ _ (⟨K2.out.cell 0, K2.out.cell 1, K2.out.cell 2, K2.out.cell 3, K2.out.cell 4, K2.out.cell 5⟩) (fun hHeld => ?_)
      clear hKq Kq
      refine wpAnyH_take (i := 2) (oi := ⟨some 20, _, _, _, _, _⟩) (v := ?_) rfl (by kernel_rfl) (by kernel_rfl) (by kernel_rfl) (fun _ _ _ h => h) (Or.inl ⟨by rfl, ?_⟩) (by assumption) ?_
      rotate_left
      · intro w hSw; (try dsimp only at hSw); go_simp; try with_reducible rfl
      simp only [Act.put, List.setIfInBounds_toArray, List.set_cons_zero, List.set_cons_succ]
      refine wpAnyH_ready (rs := [5]) (by kernel_rfl) (by simp) ?_
      refine AllReadyH.cons (o := ⟨some 23, _, _, _, _, _⟩) rfl (fun Kq hKq => ?_) AllReadyH.nil
      go_simp
      go_at_call 69
      refine (iopened w _ many need on at_ a1 n c1 f veto x G2.out OW2.out).mono ?_
      rintro e w4 ⟨a2, c2, rfl, hO, hG, hg⟩
      have K3 := Lib.hid (blk_keptO K2.out OW2.out hg (by decide))
      have R3 := Lib.hid (blk_keptO R2.out OW2.out hg (by decide))
      have G3 := Lib.hid hG
      have OW3 := Lib.hid hO
      clear hO hG hg K2 R2 G2 OW2
      refine hKq.out _ _ (⟨K3.out.cell 0, K3.out.cell 1, K3.out.cell 2, K3.out.cell 3, K3.out.cell 4, K3.out.cell 5⟩) (fun hHeld => ?_)
      clear hKq Kq
      refine wpAnyH_take (i := 6) (oi := ⟨some 24, _, _, _, _, _⟩) (v := ?_) rfl (by kernel_rfl) (by kernel_rfl) (by kernel_rfl) (fun _ _ _ h => h) (Or.inl ⟨by rfl, ?_⟩) (by assumption) ?_
      rotate_left
      · intro w hSw; (try dsimp only at hSw); go_simp; try with_reducible rfl
      simp only [Act.put, List.setIfInBounds_toArray, List.set_cons_zero, List.set_cons_succ]
      refine wpAnyH_take (i := 7) (oi := ⟨some 25, _, _, _, _, _⟩) (v := ?_) rfl (by kernel_rfl) (by kernel_rfl) (by kernel_rfl) (fun _ _ _ h => h) (Or.inl ⟨by rfl, ?_⟩) (by assumption) ?_
      rotate_left
      · intro w hSw; (try dsimp only at hSw); go_simp; try with_reducible rfl
      simp only [Act.put, List.setIfInBounds_toArray, List.set_cons_zero, List.set_cons_succ]
      refine wpAnyH_ready (rs := [8]) (by kernel_rfl) (by simp) ?_
      refine AllReadyH.cons (o := ⟨none, _, _, _, _, _⟩) rfl (fun Kq hKq => ?_) AllReadyH.nil
      rw [if_pos (by rfl)]
      refine wp_store_atQ 27 (.tmp 6) (.tmp 24) _ 0 _ _ _ #[.int .i64 (opS ⟨many, need, on, at_, n, f, veto⟩ x).many, .int .i64 (opS ⟨many, need, on, at_, n, f, veto⟩ x).need, .bool (opS ⟨many, need, on, at_, n, f, veto⟩ x).on, .int .i64 (opS ⟨many, need, on, at_, n, f, veto⟩ x).at_, .slice a2 (opS ⟨many, need, on, at_, n, f, veto⟩ x).n c2, .bool (opS ⟨many, need, on, at_, n, f, veto⟩ x).veto] 27 R3.out rfl rfl rfl rfl (Nat.le_of_ble_eq_true rfl) (by kernel_rfl) (by kernel_rfl) (by kernel_rfl) ?_
      intro V2 hg hT
      have K4 := Lib.hid (K3.out.kept hg (by intro e; have e := Option.some.inj e; omega))
      have G4 := Lib.hid (grown_new G3.out (by omega) hg)
      have OW4 := Lib.hid (OW3.out.keptC R3.out (by decide) hg)
      have R4 := Lib.hid hT
      clear hg hT K3 R3 G3 OW3
      refine hKq.out _ _ (⟨K4.out.cell 0, K4.out.cell 1, K4.out.cell 2, K4.out.cell 3, K4.out.cell 4, K4.out.cell 5⟩) (fun hHeld => ?_)
      clear hKq Kq
      refine wpAnyH_take (i := 9) (oi := ⟨some 7, _, _, _, _, _⟩) (v := ?_) rfl (by kernel_rfl) (by kernel_rfl) (by kernel_rfl) (fun _ _ _ h => h) (Or.inl ⟨by rfl, ?_⟩) (by assumption) ?_
      rotate_left
      · intro w hSw; (try dsimp only at hSw); go_simp; try with_reducible rfl
      simp only [Act.put, List.setIfInBounds_toArray, List.set_cons_zero, List.set_cons_succ]
      refine wpAnyH_done (by kernel_rfl) ?_ _
      go_wp2
      (try simp only [Exit.inBlock, Exit.then])
      refine bodyPost_ret (ret_court2 rfl _ rfl R4.out) rfl ?_
      exact gotc2 ⟨_, _, rfl, OW4.out, G4.out⟩ (dsV_yes HK.out) (by rw [HK.out]; rfl)
set_option maxRecDepth 100000 in
set_option maxHeartbeats 4000000 in
theorem idisp1 (w : World) (many need : Int) (on : Bool) (at_ : Int) (a : Option Addr) (n c : Nat) (f : Nat → Int) (veto : Bool) (x : Int) (hI : Ints w a n f) (hl : n ≤ 2000000) (hc : n ≤ c) (hm : c ≤ maxLen) :
    Calls Try.prog 46 #[.int .i64 1, .agg #[.int .i64 many, .int .i64 need, .bool on, .int .i64 at_, .slice a n c, .bool veto], .int .i64 x] w (GotC2 w (dsV (cokF ⟨many, need, on, at_, n, f, veto⟩) (vtS ⟨many, need, on, at_, n, f, veto⟩ x)) (cokF ⟨many, need, on, at_, n, f, veto⟩ && vtA ⟨many, need, on, at_, n, f, veto⟩ x)) := by
    have hs0 : ((w.alloc (.cells #[.int .i64 many, .int .i64 need, .bool on, .int .i64 at_, .slice a n c, .bool veto] 27)).alloc (.cells #[.int .i64 0, .int .i64 0, .bool false, .int .i64 0, .slice none 0 0, .bool false] 27)).heap.size = w.heap.size + 1 + 1 := by show ((w.heap.push _).push _).size = _; simp
    have HS := Lib.hid hs0; clear hs0
    have G := Lib.hid (gtr (grown_alloc w (.cells #[.int .i64 many, .int .i64 need, .bool on, .int .i64 at_, .slice a n c, .bool veto] 27) none) (grown_alloc _ (.cells #[.int .i64 0, .int .i64 0, .bool false, .int .i64 0, .slice none 0 0, .bool false] 27) none))
    have K := Lib.hid ((Blk.new w #[.int .i64 many, .int .i64 need, .bool on, .int .i64 at_, .slice a n c, .bool veto] 27).keptN (grown_alloc _ (.cells #[.int .i64 0, .int .i64 0, .bool false, .int .i64 0, .slice none 0 0, .bool false] 27) none))
    have R := Lib.hid (blk_new2 w (.cells #[.int .i64 many, .int .i64 need, .bool on, .int .i64 at_, .slice a n c, .bool veto] 27) #[.int .i64 0, .int .i64 0, .bool false, .int .i64 0, .slice none 0 0, .bool false] 27)
    have I := Lib.hid (hI.kept G.out)
    clear hI
    have hix : ∀ w : World, (Instr.index 70 (.agg #[.func (.func 69) #[] #[], .func (.func 70) #[] #[], .func (.func 71) #[] #[]]) (.int .i64 1)).run Try.prog w = .ok (.func (.func 70) #[] #[]) w := fun w => by kernel_rfl
    go_enter Try.func46, Try.ntmps46
    obtain ⟨k0, k1, k2, k3, k4, k5, f0, f1, f2, f3, f4, f5⟩ := c6_of K.out
    go_wp2_with fail
    refine (ictok _ many need on at_ a n c f veto I.out (by omega) hc hm).mono ?_
    rintro e w1 ⟨rfl, hg⟩
    clear k0 k1 k2 k3 k4 k5 f0 f1 f2 f3 f4 f5
    replace G := Lib.hid (gtr G.out hg)
    replace K := Lib.hid (K.out.keptN hg)
    replace R := Lib.hid (R.out.keptN hg)
    replace I := Lib.hid (I.out.kept hg)
    clear hg HS
    obtain ⟨k0, k1, k2, k3, k4, k5, f0, f1, f2, f3, f4, f5⟩ := c6_of K.out
    cases hk : cokF ⟨many, need, on, at_, n, f, veto⟩ with
    | false =>
      have HK := Lib.hid hk; clear hk
      go_wp2_with (first
        | (refine wpList_store_atQ rfl 27 (.tmp 6) (.tmp 11) _ 0 _ _ _ #[.int .i64 0, .int .i64 0, .bool false, .int .i64 0, .slice none 0 0, .bool false] 27 R.out rfl rfl rfl rfl (Nat.le_of_ble_eq_true rfl) (by kernel_rfl) (by kernel_rfl) (by kernel_rfl) ?_; intro V hgV hRV; have HGV := Lib.hid hgV; have HRV := Lib.hid hRV; clear hgV hRV))
      (try simp only [Exit.inBlock, Exit.then])
      refine bodyPost_ret (ret_court2 rfl _ rfl HRV.out) rfl ?_
      exact gotc2 ⟨_, _, rfl, OEQ.nil _ _ _, grown_new G.out (by omega) HGV.out⟩ (dsV_no HK.out) (by rw [HK.out]; rfl)
    | true =>
      have HK := Lib.hid hk; clear hk
      go_wp2_with fail
      refine (clone_intQ _ a n c f I.out (by omega)).mono ?_
      rintro e w2 ⟨a1, c1, rfl, hv, hg⟩
      clear k0 k1 k2 k3 k4 k5 f0 f1 f2 f3 f4 f5
      have O := Lib.hid (hv.lower (lo' := w.heap.size) G.out.size)
      replace G := Lib.hid (gtr G.out hg)
      replace K := Lib.hid (K.out.keptN hg)
      replace R := Lib.hid (R.out.keptN hg)
      clear hg hv I
      obtain ⟨k0, k1, k2, k3, k4, k5, f0, f1, f2, f3, f4, f5⟩ := c6_of K.out
      go_wp2_with (first
        | (refine wpList_store_atQ rfl 23 (.tmp 17) (.tmp 15) _ 4 _ _ _ #[.int .i64 many, .int .i64 need, .bool on, .int .i64 at_, .slice a1 n c1, .bool veto] 27 K.out rfl rfl rfl rfl (Nat.le_of_ble_eq_true rfl) (by kernel_rfl) (by kernel_rfl) (by kernel_rfl) ?_; intro V hgV hRV; have R2 := Lib.hid (R.out.kept hgV (by intro e; have e := Option.some.inj e; omega)); have G2 := Lib.hid (grown_new G.out (by omega) hgV); have OW2 := Lib.hid (O.out.keptC K.out (by decide) hgV); have K2 := Lib.hid hRV; clear hgV hRV k0 k1 k2 k3 k4 k5 f0 f1 f2 f3 f4 f5 G O K R))
      refine wp_region_held_drew (S := (fun w' => w'.cell? ⟨w.heap.size, 0, none⟩ = some (.int .i64 many) ∧ w'.cell? ⟨w.heap.size, 1, none⟩ = some (.int .i64 need) ∧ w'.cell? ⟨w.heap.size, 2, none⟩ = some (.bool on) ∧ w'.cell? ⟨w.heap.size, 3, none⟩ = some (.int .i64 at_) ∧ w'.cell? ⟨w.heap.size, 4, none⟩ = some (.slice a1 n c1) ∧ w'.cell? ⟨w.heap.size, 5, none⟩ = some (.bool veto))) (by kernel_rfl) (⟨K2.out.cell 0, K2.out.cell 1, K2.out.cell 2, K2.out.cell 3, K2.out.cell 4, K2.out.cell 5⟩) (fun hHeld => ?_)
      have hg := gdrew V
      replace G2 := Lib.hid (gtr G2.out hg)
      replace K2 := Lib.hid (K2.out.keptN hg)
      replace R2 := Lib.hid (R2.out.keptN hg)
      replace OW2 := Lib.hid (OW2.out.kept hg (fun g e => by cases e))
      clear hg
      generalize V.drew = W at *
      refine wpAnyH_take (i := 1) (oi := ⟨some 19, _, _, _, _, _⟩) (v := ?_) rfl (by kernel_rfl) (by kernel_rfl) (by kernel_rfl) (fun _ _ _ h => h) (Or.inl ⟨by rfl, ?_⟩) (by assumption) ?_
      rotate_left
      · intro w hSw; (try dsimp only at hSw); go_simp; try with_reducible rfl
      simp only [Act.put, List.setIfInBounds_toArray, List.set_cons_zero, List.set_cons_succ]
      refine wpAnyH_take (i := 3) (oi := ⟨some 21, _, _, _, _, _⟩) (v := ?_) rfl (by kernel_rfl) (by kernel_rfl) (by kernel_rfl) (fun _ _ _ h => h) (Or.inl ⟨by rfl, ?_⟩) (by assumption) ?_
      rotate_left
      · intro w hSw; (try dsimp only at hSw); go_simp; try with_reducible rfl
      simp only [Act.put, List.setIfInBounds_toArray, List.set_cons_zero, List.set_cons_succ]
      refine wpAnyH_take (i := 4) (oi := ⟨some 22, _, _, _, _, _⟩) (v := ?_) rfl (by kernel_rfl) (by kernel_rfl) (by kernel_rfl) (fun _ _ _ h => h) (Or.inl ⟨by rfl, ?_⟩) (by assumption) ?_
      rotate_left
      · intro w hSw; (try dsimp only at hSw); go_simp; try with_reducible rfl
      simp only [Act.put, List.setIfInBounds_toArray, List.set_cons_zero, List.set_cons_succ]
      refine wpAnyH_ready (rs := [0]) (by kernel_rfl) (by simp) ?_
      refine AllReadyH.cons (o := ⟨some 18, _, _, _, _, _⟩) rfl (fun Kq hKq => ?_) AllReadyH.nil
      go_simp
      go_at_call 61
      refine (iops _).mono ?_
      rintro e w3 ⟨rfl, hg⟩
      replace G2 := Lib.hid (gtr G2.out hg)
      replace K2 := Lib.hid (K2.out.keptN hg)
      replace R2 := Lib.hid (R2.out.keptN hg)
      replace OW2 := Lib.hid (OW2.out.kept hg (fun g e => by cases e))
      clear hg
      refine hKq.out _ _ (⟨K2.out.cell 0, K2.out.cell 1, K2.out.cell 2, K2.out.cell 3, K2.out.cell 4, K2.out.cell 5⟩) (fun hHeld => ?_)
      clear hKq Kq
      refine wpAnyH_take (i := 2) (oi := ⟨some 20, _, _, _, _, _⟩) (v := ?_) rfl (by kernel_rfl) (by kernel_rfl) (by kernel_rfl) (fun _ _ _ h => h) (Or.inl ⟨by rfl, ?_⟩) (by assumption) ?_
      rotate_left
      · intro w hSw; (try dsimp only at hSw); go_simp; try with_reducible rfl
      simp only [Act.put, List.setIfInBounds_toArray, List.set_cons_zero, List.set_cons_succ]
      refine wpAnyH_ready (rs := [5]) (by kernel_rfl) (by simp) ?_
      refine AllReadyH.cons (o := ⟨some 23, _, _, _, _, _⟩) rfl (fun Kq hKq => ?_) AllReadyH.nil
      go_simp
      go_at_call 70
      refine (isupported w _ many need on at_ a1 n c1 f veto x G2.out OW2.out hl).mono ?_
      rintro e w4 ⟨a2, c2, rfl, hO, hG, hg⟩
      have K3 := Lib.hid (blk_keptO K2.out OW2.out hg (by decide))
      have R3 := Lib.hid (blk_keptO R2.out OW2.out hg (by decide))
      have G3 := Lib.hid hG
      have OW3 := Lib.hid hO
      clear hO hG hg K2 R2 G2 OW2
      refine hKq.out _ _ (⟨K3.out.cell 0, K3.out.cell 1, K3.out.cell 2, K3.out.cell 3, K3.out.cell 4, K3.out.cell 5⟩) (fun hHeld => ?_)
      clear hKq Kq
      refine wpAnyH_take (i := 6) (oi := ⟨some 24, _, _, _, _, _⟩) (v := ?_) rfl (by kernel_rfl) (by kernel_rfl) (by kernel_rfl) (fun _ _ _ h => h) (Or.inl ⟨by rfl, ?_⟩) (by assumption) ?_
      rotate_left
      · intro w hSw; (try dsimp only at hSw); go_simp; try with_reducible rfl
      simp only [Act.put, List.setIfInBounds_toArray, List.set_cons_zero, List.set_cons_succ]
      refine wpAnyH_take (i := 7) (oi := ⟨some 25, _, _, _, _, _⟩) (v := ?_) rfl (by kernel_rfl) (by kernel_rfl) (by kernel_rfl) (fun _ _ _ h => h) (Or.inl ⟨by rfl, ?_⟩) (by assumption) ?_
      rotate_left
      · intro w hSw; (try dsimp only at hSw); go_simp; try with_reducible rfl
      simp only [Act.put, List.setIfInBounds_toArray, List.set_cons_zero, List.set_cons_succ]
      refine wpAnyH_ready (rs := [8]) (by kernel_rfl) (by simp) ?_
      refine AllReadyH.cons (o := ⟨none, _, _, _, _, _⟩) rfl (fun Kq hKq => ?_) AllReadyH.nil
      rw [if_pos (by rfl)]
      refine wp_store_atQ 27 (.tmp 6) (.tmp 24) _ 0 _ _ _ #[.int .i64 (vtS ⟨many, need, on, at_, n, f, veto⟩ x).many, .int .i64 (vtS ⟨many, need, on, at_, n, f, veto⟩ x).need, .bool (vtS ⟨many, need, on, at_, n, f, veto⟩ x).on, .int .i64 (vtS ⟨many, need, on, at_, n, f, veto⟩ x).at_, .slice a2 (vtS ⟨many, need, on, at_, n, f, veto⟩ x).n c2, .bool (vtS ⟨many, need, on, at_, n, f, veto⟩ x).veto] 27 R3.out rfl rfl rfl rfl (Nat.le_of_ble_eq_true rfl) (by kernel_rfl) (by kernel_rfl) (by kernel_rfl) ?_
      intro V2 hg hT
      have K4 := Lib.hid (K3.out.kept hg (by intro e; have e := Option.some.inj e; omega))
      have G4 := Lib.hid (grown_new G3.out (by omega) hg)
      have OW4 := Lib.hid (OW3.out.keptC R3.out (by decide) hg)
      have R4 := Lib.hid hT
      clear hg hT K3 R3 G3 OW3
      refine hKq.out _ _ (⟨K4.out.cell 0, K4.out.cell 1, K4.out.cell 2, K4.out.cell 3, K4.out.cell 4, K4.out.cell 5⟩) (fun hHeld => ?_)
      clear hKq Kq
      refine wpAnyH_take (i := 9) (oi := ⟨some 7, _, _, _, _, _⟩) (v := ?_) rfl (by kernel_rfl) (by kernel_rfl) (by kernel_rfl) (fun _ _ _ h => h) (Or.inl ⟨by rfl, ?_⟩) (by assumption) ?_
      rotate_left
      · intro w hSw; (try dsimp only at hSw); go_simp; try with_reducible rfl
      simp only [Act.put, List.setIfInBounds_toArray, List.set_cons_zero, List.set_cons_succ]
      refine wpAnyH_done (by kernel_rfl) ?_ _
      go_wp2
      (try simp only [Exit.inBlock, Exit.then])
      refine bodyPost_ret (ret_court2 rfl _ rfl R4.out) rfl ?_
      exact gotc2 ⟨_, _, rfl, OW4.out, G4.out⟩ (dsV_yes HK.out) (by rw [HK.out]; rfl)
set_option maxRecDepth 100000 in
set_option maxHeartbeats 4000000 in
theorem idisp2 (w : World) (many need : Int) (on : Bool) (at_ : Int) (a : Option Addr) (n c : Nat) (f : Nat → Int) (veto : Bool) (x : Int) (hI : Ints w a n f) (hl : n ≤ 2000000) (hc : n ≤ c) (hm : c ≤ maxLen) :
    Calls Try.prog 46 #[.int .i64 2, .agg #[.int .i64 many, .int .i64 need, .bool on, .int .i64 at_, .slice a n c, .bool veto], .int .i64 x] w (GotC2 w (dsV (cokF ⟨many, need, on, at_, n, f, veto⟩) (veS ⟨many, need, on, at_, n, f, veto⟩)) (cokF ⟨many, need, on, at_, n, f, veto⟩ && stF on veto)) := by
    have hs0 : ((w.alloc (.cells #[.int .i64 many, .int .i64 need, .bool on, .int .i64 at_, .slice a n c, .bool veto] 27)).alloc (.cells #[.int .i64 0, .int .i64 0, .bool false, .int .i64 0, .slice none 0 0, .bool false] 27)).heap.size = w.heap.size + 1 + 1 := by show ((w.heap.push _).push _).size = _; simp
    have HS := Lib.hid hs0; clear hs0
    have G := Lib.hid (gtr (grown_alloc w (.cells #[.int .i64 many, .int .i64 need, .bool on, .int .i64 at_, .slice a n c, .bool veto] 27) none) (grown_alloc _ (.cells #[.int .i64 0, .int .i64 0, .bool false, .int .i64 0, .slice none 0 0, .bool false] 27) none))
    have K := Lib.hid ((Blk.new w #[.int .i64 many, .int .i64 need, .bool on, .int .i64 at_, .slice a n c, .bool veto] 27).keptN (grown_alloc _ (.cells #[.int .i64 0, .int .i64 0, .bool false, .int .i64 0, .slice none 0 0, .bool false] 27) none))
    have R := Lib.hid (blk_new2 w (.cells #[.int .i64 many, .int .i64 need, .bool on, .int .i64 at_, .slice a n c, .bool veto] 27) #[.int .i64 0, .int .i64 0, .bool false, .int .i64 0, .slice none 0 0, .bool false] 27)
    have I := Lib.hid (hI.kept G.out)
    clear hI
    have hix : ∀ w : World, (Instr.index 70 (.agg #[.func (.func 69) #[] #[], .func (.func 70) #[] #[], .func (.func 71) #[] #[]]) (.int .i64 2)).run Try.prog w = .ok (.func (.func 71) #[] #[]) w := fun w => by kernel_rfl
    go_enter Try.func46, Try.ntmps46
    obtain ⟨k0, k1, k2, k3, k4, k5, f0, f1, f2, f3, f4, f5⟩ := c6_of K.out
    go_wp2_with fail
    refine (ictok _ many need on at_ a n c f veto I.out (by omega) hc hm).mono ?_
    rintro e w1 ⟨rfl, hg⟩
    clear k0 k1 k2 k3 k4 k5 f0 f1 f2 f3 f4 f5
    replace G := Lib.hid (gtr G.out hg)
    replace K := Lib.hid (K.out.keptN hg)
    replace R := Lib.hid (R.out.keptN hg)
    replace I := Lib.hid (I.out.kept hg)
    clear hg HS
    obtain ⟨k0, k1, k2, k3, k4, k5, f0, f1, f2, f3, f4, f5⟩ := c6_of K.out
    cases hk : cokF ⟨many, need, on, at_, n, f, veto⟩ with
    | false =>
      have HK := Lib.hid hk; clear hk
      go_wp2_with (first
        | (refine wpList_store_atQ rfl 27 (.tmp 6) (.tmp 11) _ 0 _ _ _ #[.int .i64 0, .int .i64 0, .bool false, .int .i64 0, .slice none 0 0, .bool false] 27 R.out rfl rfl rfl rfl (Nat.le_of_ble_eq_true rfl) (by kernel_rfl) (by kernel_rfl) (by kernel_rfl) ?_; intro V hgV hRV; have HGV := Lib.hid hgV; have HRV := Lib.hid hRV; clear hgV hRV))
      (try simp only [Exit.inBlock, Exit.then])
      refine bodyPost_ret (ret_court2 rfl _ rfl HRV.out) rfl ?_
      exact gotc2 ⟨_, _, rfl, OEQ.nil _ _ _, grown_new G.out (by omega) HGV.out⟩ (dsV_no HK.out) (by rw [HK.out]; rfl)
    | true =>
      have HK := Lib.hid hk; clear hk
      go_wp2_with fail
      refine (clone_intQ _ a n c f I.out (by omega)).mono ?_
      rintro e w2 ⟨a1, c1, rfl, hv, hg⟩
      clear k0 k1 k2 k3 k4 k5 f0 f1 f2 f3 f4 f5
      have O := Lib.hid (hv.lower (lo' := w.heap.size) G.out.size)
      replace G := Lib.hid (gtr G.out hg)
      replace K := Lib.hid (K.out.keptN hg)
      replace R := Lib.hid (R.out.keptN hg)
      clear hg hv I
      obtain ⟨k0, k1, k2, k3, k4, k5, f0, f1, f2, f3, f4, f5⟩ := c6_of K.out
      go_wp2_with (first
        | (refine wpList_store_atQ rfl 23 (.tmp 17) (.tmp 15) _ 4 _ _ _ #[.int .i64 many, .int .i64 need, .bool on, .int .i64 at_, .slice a1 n c1, .bool veto] 27 K.out rfl rfl rfl rfl (Nat.le_of_ble_eq_true rfl) (by kernel_rfl) (by kernel_rfl) (by kernel_rfl) ?_; intro V hgV hRV; have R2 := Lib.hid (R.out.kept hgV (by intro e; have e := Option.some.inj e; omega)); have G2 := Lib.hid (grown_new G.out (by omega) hgV); have OW2 := Lib.hid (O.out.keptC K.out (by decide) hgV); have K2 := Lib.hid hRV; clear hgV hRV k0 k1 k2 k3 k4 k5 f0 f1 f2 f3 f4 f5 G O K R))
      refine wp_region_held_drew (S := (fun w' => w'.cell? ⟨w.heap.size, 0, none⟩ = some (.int .i64 many) ∧ w'.cell? ⟨w.heap.size, 1, none⟩ = some (.int .i64 need) ∧ w'.cell? ⟨w.heap.size, 2, none⟩ = some (.bool on) ∧ w'.cell? ⟨w.heap.size, 3, none⟩ = some (.int .i64 at_) ∧ w'.cell? ⟨w.heap.size, 4, none⟩ = some (.slice a1 n c1) ∧ w'.cell? ⟨w.heap.size, 5, none⟩ = some (.bool veto))) (by kernel_rfl) (⟨K2.out.cell 0, K2.out.cell 1, K2.out.cell 2, K2.out.cell 3, K2.out.cell 4, K2.out.cell 5⟩) (fun hHeld => ?_)
      have hg := gdrew V
      replace G2 := Lib.hid (gtr G2.out hg)
      replace K2 := Lib.hid (K2.out.keptN hg)
      replace R2 := Lib.hid (R2.out.keptN hg)
      replace OW2 := Lib.hid (OW2.out.kept hg (fun g e => by cases e))
      clear hg
      generalize V.drew = W at *
      refine wpAnyH_take (i := 1) (oi := ⟨some 19, _, _, _, _, _⟩) (v := ?_) rfl (by kernel_rfl) (by kernel_rfl) (by kernel_rfl) (fun _ _ _ h => h) (Or.inl ⟨by rfl, ?_⟩) (by assumption) ?_
      rotate_left
      · intro w hSw; (try dsimp only at hSw); go_simp; try with_reducible rfl
      simp only [Act.put, List.setIfInBounds_toArray, List.set_cons_zero, List.set_cons_succ]
      refine wpAnyH_take (i := 3) (oi := ⟨some 21, _, _, _, _, _⟩) (v := ?_) rfl (by kernel_rfl) (by kernel_rfl) (by kernel_rfl) (fun _ _ _ h => h) (Or.inl ⟨by rfl, ?_⟩) (by assumption) ?_
      rotate_left
      · intro w hSw; (try dsimp only at hSw); go_simp; try with_reducible rfl
      simp only [Act.put, List.setIfInBounds_toArray, List.set_cons_zero, List.set_cons_succ]
      refine wpAnyH_take (i := 4) (oi := ⟨some 22, _, _, _, _, _⟩) (v := ?_) rfl (by kernel_rfl) (by kernel_rfl) (by kernel_rfl) (fun _ _ _ h => h) (Or.inl ⟨by rfl, ?_⟩) (by assumption) ?_
      rotate_left
      · intro w hSw; (try dsimp only at hSw); go_simp; try with_reducible rfl
      simp only [Act.put, List.setIfInBounds_toArray, List.set_cons_zero, List.set_cons_succ]
      refine wpAnyH_ready (rs := [0]) (by kernel_rfl) (by simp) ?_
      refine AllReadyH.cons (o := ⟨some 18, _, _, _, _, _⟩) rfl (fun Kq hKq => ?_) AllReadyH.nil
      go_simp
      go_at_call 61
      refine (iops _).mono ?_
      rintro e w3 ⟨rfl, hg⟩
      replace G2 := Lib.hid (gtr G2.out hg)
      replace K2 := Lib.hid (K2.out.keptN hg)
      replace R2 := Lib.hid (R2.out.keptN hg)
      replace OW2 := Lib.hid (OW2.out.kept hg (fun g e => by cases e))
      clear hg
      refine hKq.out _ _ (⟨K2.out.cell 0, K2.out.cell 1, K2.out.cell 2, K2.out.cell 3, K2.out.cell 4, K2.out.cell 5⟩) (fun hHeld => ?_)
      clear hKq Kq
      refine wpAnyH_take (i := 2) (oi := ⟨some 20, _, _, _, _, _⟩) (v := ?_) rfl (by kernel_rfl) (by kernel_rfl) (by kernel_rfl) (fun _ _ _ h => h) (Or.inl ⟨by rfl, ?_⟩) (by assumption) ?_
      rotate_left
      · intro w hSw; (try dsimp only at hSw); go_simp; try with_reducible rfl
      simp only [Act.put, List.setIfInBounds_toArray, List.set_cons_zero, List.set_cons_succ]
      refine wpAnyH_ready (rs := [5]) (by kernel_rfl) (by simp) ?_
      refine AllReadyH.cons (o := ⟨some 23, _, _, _, _, _⟩) rfl (fun Kq hKq => ?_) AllReadyH.nil
      go_simp
      go_at_call 71
      refine (ivetoed w _ many need on at_ a1 n c1 f veto x G2.out OW2.out).mono ?_
      rintro e w4 ⟨a2, c2, rfl, hO, hG, hg⟩
      have K3 := Lib.hid (blk_keptO K2.out OW2.out hg (by decide))
      have R3 := Lib.hid (blk_keptO R2.out OW2.out hg (by decide))
      have G3 := Lib.hid hG
      have OW3 := Lib.hid hO
      clear hO hG hg K2 R2 G2 OW2
      refine hKq.out _ _ (⟨K3.out.cell 0, K3.out.cell 1, K3.out.cell 2, K3.out.cell 3, K3.out.cell 4, K3.out.cell 5⟩) (fun hHeld => ?_)
      clear hKq Kq
      refine wpAnyH_take (i := 6) (oi := ⟨some 24, _, _, _, _, _⟩) (v := ?_) rfl (by kernel_rfl) (by kernel_rfl) (by kernel_rfl) (fun _ _ _ h => h) (Or.inl ⟨by rfl, ?_⟩) (by assumption) ?_
      rotate_left
      · intro w hSw; (try dsimp only at hSw); go_simp; try with_reducible rfl
      simp only [Act.put, List.setIfInBounds_toArray, List.set_cons_zero, List.set_cons_succ]
      refine wpAnyH_take (i := 7) (oi := ⟨some 25, _, _, _, _, _⟩) (v := ?_) rfl (by kernel_rfl) (by kernel_rfl) (by kernel_rfl) (fun _ _ _ h => h) (Or.inl ⟨by rfl, ?_⟩) (by assumption) ?_
      rotate_left
      · intro w hSw; (try dsimp only at hSw); go_simp; try with_reducible rfl
      simp only [Act.put, List.setIfInBounds_toArray, List.set_cons_zero, List.set_cons_succ]
      refine wpAnyH_ready (rs := [8]) (by kernel_rfl) (by simp) ?_
      refine AllReadyH.cons (o := ⟨none, _, _, _, _, _⟩) rfl (fun Kq hKq => ?_) AllReadyH.nil
      rw [if_pos (by rfl)]
      refine wp_store_atQ 27 (.tmp 6) (.tmp 24) _ 0 _ _ _ #[.int .i64 (veS ⟨many, need, on, at_, n, f, veto⟩).many, .int .i64 (veS ⟨many, need, on, at_, n, f, veto⟩).need, .bool (veS ⟨many, need, on, at_, n, f, veto⟩).on, .int .i64 (veS ⟨many, need, on, at_, n, f, veto⟩).at_, .slice a2 (veS ⟨many, need, on, at_, n, f, veto⟩).n c2, .bool (veS ⟨many, need, on, at_, n, f, veto⟩).veto] 27 R3.out rfl rfl rfl rfl (Nat.le_of_ble_eq_true rfl) (by kernel_rfl) (by kernel_rfl) (by kernel_rfl) ?_
      intro V2 hg hT
      have K4 := Lib.hid (K3.out.kept hg (by intro e; have e := Option.some.inj e; omega))
      have G4 := Lib.hid (grown_new G3.out (by omega) hg)
      have OW4 := Lib.hid (OW3.out.keptC R3.out (by decide) hg)
      have R4 := Lib.hid hT
      clear hg hT K3 R3 G3 OW3
      refine hKq.out _ _ (⟨K4.out.cell 0, K4.out.cell 1, K4.out.cell 2, K4.out.cell 3, K4.out.cell 4, K4.out.cell 5⟩) (fun hHeld => ?_)
      clear hKq Kq
      refine wpAnyH_take (i := 9) (oi := ⟨some 7, _, _, _, _, _⟩) (v := ?_) rfl (by kernel_rfl) (by kernel_rfl) (by kernel_rfl) (fun _ _ _ h => h) (Or.inl ⟨by rfl, ?_⟩) (by assumption) ?_
      rotate_left
      · intro w hSw; (try dsimp only at hSw); go_simp; try with_reducible rfl
      simp only [Act.put, List.setIfInBounds_toArray, List.set_cons_zero, List.set_cons_succ]
      refine wpAnyH_done (by kernel_rfl) ?_ _
      go_wp2
      (try simp only [Exit.inBlock, Exit.then])
      refine bodyPost_ret (ret_court2 rfl _ rfl R4.out) rfl ?_
      exact gotc2 ⟨_, _, rfl, OW4.out, G4.out⟩ (dsV_yes HK.out) (by rw [HK.out]; rfl)
theorem opV_eq (C : CV) (now : Int) : opV C now = dsV (cokF C && tmF now) (opS C now) := rfl
theorem vtV_eq (C : CV) (who : Int) : vtV C who = dsV (cokF C && mgF C.many who) (vtS C who) := rfl
theorem veV_eq (C : CV) : veV C = dsV (cokF C) (veS C) := rfl
set_option maxRecDepth 100000 in
set_option maxHeartbeats 4000000 in
theorem iopen (w : World) (many need : Int) (on : Bool) (at_ : Int) (a : Option Addr) (n c : Nat) (f : Nat → Int) (veto : Bool) (now : Int) (hI : Ints w a n f) (hl : n ≤ 2000000) (hc : n ≤ c) (hm : c ≤ maxLen) :
    Calls Try.prog 19 #[.agg #[.int .i64 many, .int .i64 need, .bool on, .int .i64 at_, .slice a n c, .bool veto], .int .i64 now] w (GotC2 w (opV ⟨many, need, on, at_, n, f, veto⟩ now) (opO ⟨many, need, on, at_, n, f, veto⟩ now)) := by
  have hs0 : ((w.alloc (.cells #[.int .i64 many, .int .i64 need, .bool on, .int .i64 at_, .slice a n c, .bool veto] 27)).alloc (.cells #[.int .i64 0, .int .i64 0, .bool false, .int .i64 0, .slice none 0 0, .bool false] 27)).heap.size = w.heap.size + 1 + 1 := by show ((w.heap.push _).push _).size = _; simp
  have HS := Lib.hid hs0; clear hs0
  have G := Lib.hid (gtr (grown_alloc w (.cells #[.int .i64 many, .int .i64 need, .bool on, .int .i64 at_, .slice a n c, .bool veto] 27) none) (grown_alloc _ (.cells #[.int .i64 0, .int .i64 0, .bool false, .int .i64 0, .slice none 0 0, .bool false] 27) none))
  have K := Lib.hid ((Blk.new w #[.int .i64 many, .int .i64 need, .bool on, .int .i64 at_, .slice a n c, .bool veto] 27).keptN (grown_alloc _ (.cells #[.int .i64 0, .int .i64 0, .bool false, .int .i64 0, .slice none 0 0, .bool false] 27) none))
  have R := Lib.hid (blk_new2 w (.cells #[.int .i64 many, .int .i64 need, .bool on, .int .i64 at_, .slice a n c, .bool veto] 27) #[.int .i64 0, .int .i64 0, .bool false, .int .i64 0, .slice none 0 0, .bool false] 27)
  have I := Lib.hid (hI.kept G.out)
  clear hI
  go_enter Try.func19, Try.ntmps19
  obtain ⟨k0, k1, k2, k3, k4, k5, f0, f1, f2, f3, f4, f5⟩ := c6_of K.out
  go_wp2_with fail
  refine (itime _ now).mono ?_
  rintro e w' ⟨rfl, rfl⟩
  cases ht : tmF now with
  | false =>
    have HT := Lib.hid ht; clear ht
    go_wp2_with (first
      | (refine wpList_store_atQ rfl 27 (.tmp 4) (.tmp 9) _ 0 _ _ _ #[.int .i64 0, .int .i64 0, .bool false, .int .i64 0, .slice none 0 0, .bool false] 27 R.out rfl rfl rfl rfl (Nat.le_of_ble_eq_true rfl) (by kernel_rfl) (by kernel_rfl) (by kernel_rfl) ?_; intro V hgV hRV; have HGV := Lib.hid hgV; have HRV := Lib.hid hRV; clear hgV hRV))
    (try simp only [Exit.inBlock, Exit.then])
    refine bodyPost_ret (ret_court2 rfl _ rfl HRV.out) rfl ?_
    exact gotc2 ⟨_, _, rfl, OEQ.nil _ _ _, grown_new G.out (by omega) HGV.out⟩ ((opV_eq _ _).trans (dsV_no (by rw [HT.out]; simp))) (by unfold opO; rw [HT.out]; simp)
  | true =>
    have HT := Lib.hid ht; clear ht
    go_wp2_with fail
    refine (idisp0 _ many need on at_ a n c f veto now I.out hl hc hm).mono ?_
    rintro e w1 ⟨a1, c1, rfl, hv, hg⟩
    clear k0 k1 k2 k3 k4 k5 f0 f1 f2 f3 f4 f5
    have OW := Lib.hid (hv.lower (lo' := w.heap.size) G.out.size)
    replace G := Lib.hid (gtr G.out hg)
    replace R := Lib.hid (R.out.keptN hg)
    clear hg hv K
    go_wp2_with (first
      | (refine wpList_store_atQ rfl 27 (.tmp 4) (.tmp 13) _ 0 _ _ _ #[.int .i64 (dsV (cokF ⟨many, need, on, at_, n, f, veto⟩) (opS ⟨many, need, on, at_, n, f, veto⟩ now)).many, .int .i64 (dsV (cokF ⟨many, need, on, at_, n, f, veto⟩) (opS ⟨many, need, on, at_, n, f, veto⟩ now)).need, .bool (dsV (cokF ⟨many, need, on, at_, n, f, veto⟩) (opS ⟨many, need, on, at_, n, f, veto⟩ now)).on, .int .i64 (dsV (cokF ⟨many, need, on, at_, n, f, veto⟩) (opS ⟨many, need, on, at_, n, f, veto⟩ now)).at_, .slice a1 (dsV (cokF ⟨many, need, on, at_, n, f, veto⟩) (opS ⟨many, need, on, at_, n, f, veto⟩ now)).n c1, .bool (dsV (cokF ⟨many, need, on, at_, n, f, veto⟩) (opS ⟨many, need, on, at_, n, f, veto⟩ now)).veto] 27 R.out rfl rfl rfl rfl (Nat.le_of_ble_eq_true rfl) (by kernel_rfl) (by kernel_rfl) (by kernel_rfl) ?_; intro V hgV hRV; have HGV := Lib.hid hgV; have HRV := Lib.hid hRV; clear hgV hRV))
    (try simp only [Exit.inBlock, Exit.then])
    refine bodyPost_ret (ret_court2 rfl _ rfl HRV.out) rfl ?_
    exact gotc2 ⟨_, _, rfl, OW.out.keptC R.out (by decide) HGV.out, grown_new G.out (by omega) HGV.out⟩ (by rw [opV_eq, HT.out, Bool.and_true]) (by unfold opO; rw [HT.out]; rfl)
set_option maxRecDepth 100000 in
set_option maxHeartbeats 4000000 in
theorem ivote (w : World) (many need : Int) (on : Bool) (at_ : Int) (a : Option Addr) (n c : Nat) (f : Nat → Int) (veto : Bool) (who : Int) (hI : Ints w a n f) (hl : n ≤ 2000000) (hc : n ≤ c) (hm : c ≤ maxLen) :
    Calls Try.prog 25 #[.agg #[.int .i64 many, .int .i64 need, .bool on, .int .i64 at_, .slice a n c, .bool veto], .int .i64 who] w (GotC2 w (vtV ⟨many, need, on, at_, n, f, veto⟩ who) (vtO ⟨many, need, on, at_, n, f, veto⟩ who)) := by
  have hs0 : ((w.alloc (.cells #[.int .i64 many, .int .i64 need, .bool on, .int .i64 at_, .slice a n c, .bool veto] 27)).alloc (.cells #[.int .i64 0, .int .i64 0, .bool false, .int .i64 0, .slice none 0 0, .bool false] 27)).heap.size = w.heap.size + 1 + 1 := by show ((w.heap.push _).push _).size = _; simp
  have HS := Lib.hid hs0; clear hs0
  have G := Lib.hid (gtr (grown_alloc w (.cells #[.int .i64 many, .int .i64 need, .bool on, .int .i64 at_, .slice a n c, .bool veto] 27) none) (grown_alloc _ (.cells #[.int .i64 0, .int .i64 0, .bool false, .int .i64 0, .slice none 0 0, .bool false] 27) none))
  have K := Lib.hid ((Blk.new w #[.int .i64 many, .int .i64 need, .bool on, .int .i64 at_, .slice a n c, .bool veto] 27).keptN (grown_alloc _ (.cells #[.int .i64 0, .int .i64 0, .bool false, .int .i64 0, .slice none 0 0, .bool false] 27) none))
  have R := Lib.hid (blk_new2 w (.cells #[.int .i64 many, .int .i64 need, .bool on, .int .i64 at_, .slice a n c, .bool veto] 27) #[.int .i64 0, .int .i64 0, .bool false, .int .i64 0, .slice none 0 0, .bool false] 27)
  have I := Lib.hid (hI.kept G.out)
  clear hI
  go_enter Try.func25, Try.ntmps25
  obtain ⟨k0, k1, k2, k3, k4, k5, f0, f1, f2, f3, f4, f5⟩ := c6_of K.out
  go_wp2_with fail
  refine (iguard _ many _ _ _ _ _ who).mono ?_
  rintro e w0 ⟨rfl, hg⟩
  clear k0 k1 k2 k3 k4 k5 f0 f1 f2 f3 f4 f5
  replace G := Lib.hid (gtr G.out hg)
  replace K := Lib.hid (K.out.keptN hg)
  replace R := Lib.hid (R.out.keptN hg)
  replace I := Lib.hid (I.out.kept hg)
  clear hg HS
  obtain ⟨k0, k1, k2, k3, k4, k5, f0, f1, f2, f3, f4, f5⟩ := c6_of K.out
  cases ht : mgF many who with
  | false =>
    have HT := Lib.hid ht; clear ht
    go_wp2_with (first
      | (refine wpList_store_atQ rfl 27 (.tmp 4) (.tmp 10) _ 0 _ _ _ #[.int .i64 0, .int .i64 0, .bool false, .int .i64 0, .slice none 0 0, .bool false] 27 R.out rfl rfl rfl rfl (Nat.le_of_ble_eq_true rfl) (by kernel_rfl) (by kernel_rfl) (by kernel_rfl) ?_; intro V hgV hRV; have HGV := Lib.hid hgV; have HRV := Lib.hid hRV; clear hgV hRV))
    (try simp only [Exit.inBlock, Exit.then])
    refine bodyPost_ret (ret_court2 rfl _ rfl HRV.out) rfl ?_
    exact gotc2 ⟨_, _, rfl, OEQ.nil _ _ _, grown_new G.out (by omega) HGV.out⟩ ((vtV_eq _ _).trans (dsV_no (by rw [HT.out]; simp))) (by unfold vtO; rw [HT.out]; simp)
  | true =>
    have HT := Lib.hid ht; clear ht
    go_wp2_with fail
    refine (idisp1 _ many need on at_ a n c f veto who I.out hl hc hm).mono ?_
    rintro e w1 ⟨a1, c1, rfl, hv, hg⟩
    clear k0 k1 k2 k3 k4 k5 f0 f1 f2 f3 f4 f5
    have OW := Lib.hid (hv.lower (lo' := w.heap.size) G.out.size)
    replace G := Lib.hid (gtr G.out hg)
    replace R := Lib.hid (R.out.keptN hg)
    clear hg hv K
    go_wp2_with (first
      | (refine wpList_store_atQ rfl 27 (.tmp 4) (.tmp 14) _ 0 _ _ _ #[.int .i64 (dsV (cokF ⟨many, need, on, at_, n, f, veto⟩) (vtS ⟨many, need, on, at_, n, f, veto⟩ who)).many, .int .i64 (dsV (cokF ⟨many, need, on, at_, n, f, veto⟩) (vtS ⟨many, need, on, at_, n, f, veto⟩ who)).need, .bool (dsV (cokF ⟨many, need, on, at_, n, f, veto⟩) (vtS ⟨many, need, on, at_, n, f, veto⟩ who)).on, .int .i64 (dsV (cokF ⟨many, need, on, at_, n, f, veto⟩) (vtS ⟨many, need, on, at_, n, f, veto⟩ who)).at_, .slice a1 (dsV (cokF ⟨many, need, on, at_, n, f, veto⟩) (vtS ⟨many, need, on, at_, n, f, veto⟩ who)).n c1, .bool (dsV (cokF ⟨many, need, on, at_, n, f, veto⟩) (vtS ⟨many, need, on, at_, n, f, veto⟩ who)).veto] 27 R.out rfl rfl rfl rfl (Nat.le_of_ble_eq_true rfl) (by kernel_rfl) (by kernel_rfl) (by kernel_rfl) ?_; intro V hgV hRV; have HGV := Lib.hid hgV; have HRV := Lib.hid hRV; clear hgV hRV))
    (try simp only [Exit.inBlock, Exit.then])
    refine bodyPost_ret (ret_court2 rfl _ rfl HRV.out) rfl ?_
    exact gotc2 ⟨_, _, rfl, OW.out.keptC R.out (by decide) HGV.out, grown_new G.out (by omega) HGV.out⟩ (by rw [vtV_eq, HT.out, Bool.and_true]) (by unfold vtO; rw [HT.out]; rfl)
set_option maxRecDepth 100000 in
set_option maxHeartbeats 4000000 in
theorem iveto (w : World) (many need : Int) (on : Bool) (at_ : Int) (a : Option Addr) (n c : Nat) (f : Nat → Int) (veto : Bool) (hI : Ints w a n f) (hl : n ≤ 2000000) (hc : n ≤ c) (hm : c ≤ maxLen) :
    Calls Try.prog 30 #[.agg #[.int .i64 many, .int .i64 need, .bool on, .int .i64 at_, .slice a n c, .bool veto]] w (GotC2 w (veV ⟨many, need, on, at_, n, f, veto⟩) (veO ⟨many, need, on, at_, n, f, veto⟩)) := by
  have hs0 : ((w.alloc (.cells #[.int .i64 many, .int .i64 need, .bool on, .int .i64 at_, .slice a n c, .bool veto] 27)).alloc (.cells #[.int .i64 0, .int .i64 0, .bool false, .int .i64 0, .slice none 0 0, .bool false] 27)).heap.size = w.heap.size + 1 + 1 := by show ((w.heap.push _).push _).size = _; simp
  have HS := Lib.hid hs0; clear hs0
  have G := Lib.hid (gtr (grown_alloc w (.cells #[.int .i64 many, .int .i64 need, .bool on, .int .i64 at_, .slice a n c, .bool veto] 27) none) (grown_alloc _ (.cells #[.int .i64 0, .int .i64 0, .bool false, .int .i64 0, .slice none 0 0, .bool false] 27) none))
  have K := Lib.hid ((Blk.new w #[.int .i64 many, .int .i64 need, .bool on, .int .i64 at_, .slice a n c, .bool veto] 27).keptN (grown_alloc _ (.cells #[.int .i64 0, .int .i64 0, .bool false, .int .i64 0, .slice none 0 0, .bool false] 27) none))
  have R := Lib.hid (blk_new2 w (.cells #[.int .i64 many, .int .i64 need, .bool on, .int .i64 at_, .slice a n c, .bool veto] 27) #[.int .i64 0, .int .i64 0, .bool false, .int .i64 0, .slice none 0 0, .bool false] 27)
  have I := Lib.hid (hI.kept G.out)
  clear hI
  clear HS
  go_enter Try.func30, Try.ntmps30
  obtain ⟨k0, k1, k2, k3, k4, k5, f0, f1, f2, f3, f4, f5⟩ := c6_of K.out
  go_wp2_with fail
  refine (idisp2 _ many need on at_ a n c f veto 0 I.out hl hc hm).mono ?_
  rintro e w1 ⟨a1, c1, rfl, hv, hg⟩
  clear k0 k1 k2 k3 k4 k5 f0 f1 f2 f3 f4 f5
  have OW := Lib.hid (hv.lower (lo' := w.heap.size) G.out.size)
  replace G := Lib.hid (gtr G.out hg)
  replace R := Lib.hid (R.out.keptN hg)
  clear hg hv K
  go_wp2_with (first
    | (refine wpList_store_atQ rfl 27 (.tmp 2) (.tmp 6) _ 0 _ _ _ #[.int .i64 (dsV (cokF ⟨many, need, on, at_, n, f, veto⟩) (veS ⟨many, need, on, at_, n, f, veto⟩)).many, .int .i64 (dsV (cokF ⟨many, need, on, at_, n, f, veto⟩) (veS ⟨many, need, on, at_, n, f, veto⟩)).need, .bool (dsV (cokF ⟨many, need, on, at_, n, f, veto⟩) (veS ⟨many, need, on, at_, n, f, veto⟩)).on, .int .i64 (dsV (cokF ⟨many, need, on, at_, n, f, veto⟩) (veS ⟨many, need, on, at_, n, f, veto⟩)).at_, .slice a1 (dsV (cokF ⟨many, need, on, at_, n, f, veto⟩) (veS ⟨many, need, on, at_, n, f, veto⟩)).n c1, .bool (dsV (cokF ⟨many, need, on, at_, n, f, veto⟩) (veS ⟨many, need, on, at_, n, f, veto⟩)).veto] 27 R.out rfl rfl rfl rfl (Nat.le_of_ble_eq_true rfl) (by kernel_rfl) (by kernel_rfl) (by kernel_rfl) ?_; intro V hgV hRV; have HGV := Lib.hid hgV; have HRV := Lib.hid hRV; clear hgV hRV))
  (try simp only [Exit.inBlock, Exit.then])
  refine bodyPost_ret (ret_court2 rfl _ rfl HRV.out) rfl ?_
  exact gotc2 ⟨_, _, rfl, OW.out.keptC R.out (by decide) HGV.out, grown_new G.out (by omega) HGV.out⟩ (veV_eq _) rfl
set_option maxRecDepth 100000 in
set_option maxHeartbeats 4000000 in
theorem imay (w : World) (many need : Int) (on : Bool) (at_ : Int) (a : Option Addr) (n c : Nat) (f : Nat → Int) (veto : Bool) (now : Int) (hI : Ints w a n f) (hl : n ≤ 2000000) (hc : n ≤ c) (hm : c ≤ maxLen) :
    Calls Try.prog 31 #[.agg #[.int .i64 many, .int .i64 need, .bool on, .int .i64 at_, .slice a n c, .bool veto], .int .i64 now] w fun e w' => e = .returned (.bool (cmF ⟨many, need, on, at_, n, f, veto⟩ now)) ∧ w.grownBy w' none := by
  have G := Lib.hid (grown_alloc w (.cells #[.int .i64 many, .int .i64 need, .bool on, .int .i64 at_, .slice a n c, .bool veto] 27) none)
  have K := Lib.hid (Blk.new w #[.int .i64 many, .int .i64 need, .bool on, .int .i64 at_, .slice a n c, .bool veto] 27)
  have I := Lib.hid (hI.kept G.out); clear hI
  have HE := Lib.hid (show cmF ⟨many, need, on, at_, n, f, veto⟩ now = (cokF ⟨many, need, on, at_, n, f, veto⟩ && (tmF now && (stF on veto && (decide (need ≤ (n : Int)) && decide (10 ≤ now - at_))))) from rfl)
  go_enter Try.func31, Try.ntmps31
  obtain ⟨k0, k1, k2, k3, k4, k5, f0, f1, f2, f3, f4, f5⟩ := c6_of K.out
  go_wp2_with fail
  refine (ictok _ many need on at_ a n c f veto I.out (by omega) hc hm).mono ?_
  rintro e w1 ⟨rfl, hg⟩
  clear k0 k1 k2 k3 k4 k5 f0 f1 f2 f3 f4 f5
  replace G := Lib.hid (gtr G.out hg)
  replace K := Lib.hid (K.out.keptN hg)
  clear hg
  obtain ⟨k0, k1, k2, k3, k4, k5, f0, f1, f2, f3, f4, f5⟩ := c6_of K.out
  cases h1 : cokF ⟨many, need, on, at_, n, f, veto⟩ with
  | false =>
    have HP := Lib.hid (show cmF ⟨many, need, on, at_, n, f, veto⟩ now = false by rw [HE.out, h1]; rfl); clear h1
    go_wp2
    go_ret
    exact ⟨Mem.ret_b HP.out.symm, G.out⟩
  | true =>
    have H1 := Lib.hid h1; clear h1
    have hAt := Lib.hid (tmF_iff.1 (cokF_iff.1 H1.out).2.1)
    go_wp2_with fail
    refine (itime _ now).mono ?_
    rintro e w' ⟨rfl, rfl⟩
    cases h2 : tmF now with
    | false =>
      have HP := Lib.hid (show cmF ⟨many, need, on, at_, n, f, veto⟩ now = false by rw [HE.out, h2]; simp); clear h2
      go_wp2
      go_ret
      exact ⟨Mem.ret_b HP.out.symm, G.out⟩
    | true =>
      have H2 := Lib.hid h2; clear h2
      go_wp2_with fail
      refine (istands _ _ _ _ _ on veto).mono ?_
      rintro e w2 ⟨rfl, hg⟩
      clear k0 k1 k2 k3 k4 k5 f0 f1 f2 f3 f4 f5
      replace G := Lib.hid (gtr G.out hg)
      replace K := Lib.hid (K.out.keptN hg)
      clear hg
      obtain ⟨k0, k1, k2, k3, k4, k5, f0, f1, f2, f3, f4, f5⟩ := c6_of K.out
      cases h3 : stF on veto with
      | false =>
        have HP := Lib.hid (show cmF ⟨many, need, on, at_, n, f, veto⟩ now = false by rw [HE.out, h3]; simp); clear h3
        go_wp2
        go_ret
        exact ⟨Mem.ret_b HP.out.symm, G.out⟩
      | true =>
        have H3 := Lib.hid h3; clear h3
        have a0 := hAt.out.1; have a1 := hAt.out.2
        have n0 := (tmF_iff.1 H2.out).1; have n1 := (tmF_iff.1 H2.out).2
        by_cases h4 : need ≤ (n : Int)
        · by_cases h5 : 10 ≤ now - at_
          · have HP := Lib.hid (show cmF ⟨many, need, on, at_, n, f, veto⟩ now = true by rw [HE.out, H1.out, H2.out, H3.out, decide_eq_true h4, decide_eq_true h5]; rfl)
            go_wp2
            go_ret
            exact ⟨Mem.ret_b HP.out.symm, G.out⟩
          · have HP := Lib.hid (show cmF ⟨many, need, on, at_, n, f, veto⟩ now = false by rw [HE.out, decide_eq_false h5]; simp)
            go_wp2
            go_ret
            exact ⟨Mem.ret_b (by rw [HP.out]; exact decide_eq_false (by omega)), G.out⟩
        · have HP := Lib.hid (show cmF ⟨many, need, on, at_, n, f, veto⟩ now = false by rw [HE.out, decide_eq_false h4]; simp)
          go_wp2
          go_ret
          exact ⟨Mem.ret_b HP.out.symm, G.out⟩
end Ct
end Go.Proofs.Ytbfmigmhmjgdgaa
