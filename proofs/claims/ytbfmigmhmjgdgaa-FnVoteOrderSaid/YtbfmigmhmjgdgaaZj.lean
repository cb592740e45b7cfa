/-
  Courts: the model's draw of a court.
-/
import Derived.Test.YtbfmigmhmjgdgaaZi
namespace Go.Proofs.Ytbfmigmhmjgdgaa
namespace Ct
open Go.RowKit Alg Mem Con Draw
set_option linter.unusedVariables false

theorem grown_ownB {W w w' : World} {B : Nat} {a : Option Addr} {n c : Nat} {z : Nat → Int} (hW : W.grownBy w (some B)) (hO : OEQ w W.heap.size a n c z) (hg : w.grownBy w' (Value.slice a n c).ownBlock) : W.grownBy w' (some B) := by
  cases hv : (Value.slice a n c).ownBlock with
  | none => rw [hv] at hg; exact gtr' hW (gweakQ hg _)
  | some b => rw [hv] at hg; exact grown_any hW hg (.inr (World.ownsRow.lt hO b hv).1)
theorem rd_ownQ {w w' : World} {lo base B : Nat} {ad : Option Addr} {len cap p : Nat} {a : Option Addr} {n c : Nat} {z : Nat → Int} (h : Rd w base B ad len cap p) (hO : OEQ w lo a n c z) (hg : w.grownBy w' (Value.slice a n c).ownBlock) (hlo : B < lo) (hb : base ≤ B) : Rd w' base B ad len cap p := by
  cases hv : (Value.slice a n c).ownBlock with
  | none => rw [hv] at hg; exact h.gN hg
  | some b => rw [hv] at hg; have := (World.ownsRow.lt hO b hv).1; exact h.grown hg (by omega)
set_option maxRecDepth 100000 in
set_option maxHeartbeats 8000000 in
theorem court_any (w : World) (base B : Nat) (a : Option Addr) (len cap p : Nat) (h : Rd w base B a len cap p) (hp : p ≤ 1000000) :
    Calls Try.prog 41 #[.pointer (some ⟨B, 0, none⟩)] w (GotCt w base B a len cap p) := by
  have G := Lib.hid (grown_alloc w (.cells #[.int .i64 0, .int .i64 0, .bool false, .int .i64 0, .slice none 0 0, .bool false] 27) (some B))
  have R := Lib.hid (Blk.new w #[.int .i64 0, .int .i64 0, .bool false, .int .i64 0, .slice none 0 0, .bool false] 27)
  have hlt := h.lt
  have hbase := h.from_
  have H := Lib.hid (h.gN (grown_alloc w (.cells #[.int .i64 0, .int .i64 0, .bool false, .int .i64 0, .slice none 0 0, .bool false] 27) none))
  clear h
  go_enter Try.func41, Try.ntmps41
  go_wp2_with fail
  refine (fine_any _ base B a len cap _ H.out (by omega)).mono ?_
  rintro e w1 ⟨n, m, rfl, hn1, hnm, hm5, hg, hr⟩
  have hs : True := trivial
  replace H := Lib.hid hr
  replace G := Lib.hid (grown_any G.out hg (by omega))
  replace R := Lib.hid (R.out.kept hg (by intro e; have e := Option.some.inj e; omega))
  clear hg
  clear hr hs
  have htw : w.heap.size + 1 ≤ w1.heap.size := by have := G.out.size; have := R.out.lt; omega
  go_wp2_with (refine stop_store rfl ?_)
  refine ⟨trivial, ?_⟩
  refine wpList_store_atQ rfl 27 (.tmp 5) (.tmp 16) _ 0 _ _ _ #[.int .i64 m, .int .i64 n, .bool false, .int .i64 0, .slice none 0 0, .bool false] 27 (Blk.new w1 #[.int .i64 0, .int .i64 0, .bool false, .int .i64 0, .slice none 0 0, .bool false] 27) rfl rfl rfl rfl (Nat.le_of_ble_eq_true rfl) (by kernel_rfl) (by kernel_rfl) (by kernel_rfl) ?_
  intro w2 hgV hT
  have hg : w1.grownBy w2 none := grown_new (grown_alloc w1 (.cells #[.int .i64 0, .int .i64 0, .bool false, .int .i64 0, .slice none 0 0, .bool false] 27) none) (Nat.le_refl _) hgV
  have T := Lib.hid hT
  clear hgV hT
  replace G := Lib.hid (gtr' G.out (Draw.grown_some hg))
  replace R := Lib.hid (R.out.keptN hg)
  replace H := Lib.hid (H.out.gN hg)
  clear hg
  generalize w1.heap.size = tb at *
  obtain ⟨C, hC⟩ : ∃ C : CV, C = ⟨m, n, false, 0, 0, fun _ => 0, false⟩ := ⟨_, rfl⟩
  obtain ⟨a1, ha1⟩ : ∃ a1 : Option Addr, a1 = none := ⟨_, rfl⟩
  obtain ⟨c1, hc1⟩ : ∃ c1 : Nat, c1 = 0 := ⟨_, rfl⟩
  have hT : Blk w2 tb #[.int .i64 C.many, .int .i64 C.need, .bool C.on, .int .i64 C.at_, .slice a1 C.n c1, .bool C.veto] 27 := by subst hC ha1 hc1; exact T.out
  replace T := Lib.hid hT
  have OW := Lib.hid (show OEQ w2 w.heap.size a1 C.n c1 C.f by subst hC ha1 hc1; exact OEQ.nil _ _ _)
  have hC0 : C.n ≤ 0 := by subst hC; exact Nat.le_refl _
  clear hT hC ha1 hc1
  go_wp2_with fail
  refine (pick_any _ base B a len cap _ (4 : Int) H.out (by omega) (by omega)).mono ?_
  rintro e w3 ⟨x, x0, x1, rfl, hr, hg, hs⟩
  replace H := Lib.hid hr
  replace G := Lib.hid (grown_any G.out hg (by omega))
  replace R := Lib.hid (R.out.kept hg (by intro e; have e := Option.some.inj e; omega))
  replace T := Lib.hid (T.out.kept hg (by intro e; have e := Option.some.inj e; omega))
  replace OW := Lib.hid (OW.out.kept hg (fun g e => by have e := Option.some.inj e; omega))
  clear hg
  clear hr hs
  by_cases hx : 0 < x
  case neg =>
    go_wp2_with fail
    refine (pick_any _ base B a len cap _ (40 : Int) H.out (by omega) (by omega)).mono ?_
    rintro e wt1 ⟨x9, x90, x91, rfl, hr, hg, hs⟩
    replace H := Lib.hid hr
    replace G := Lib.hid (grown_any G.out hg (by omega))
    replace R := Lib.hid (R.out.kept hg (by intro e; have e := Option.some.inj e; omega))
    replace T := Lib.hid (T.out.kept hg (by intro e; have e := Option.some.inj e; omega))
    replace OW := Lib.hid (OW.out.kept hg (fun g e => by have e := Option.some.inj e; omega))
    clear hg
    clear hr hs
    rcases (by omega : x9 = 0 ∨ x9 = 1 ∨ 2 ≤ x9) with rfl | rfl | hx9
    · skip
      obtain ⟨t0, t1, t2, t3, t4, t5, u0, u1, u2, u3, u4, u5⟩ := c6_of T.out
      go_wp2_with (first
        | (refine wpList_store_atQ rfl 4 (.tmp 59) (.tmp 58) _ 2 _ _ _ #[.int .i64 C.many, .int .i64 C.need, .bool (!C.on), .int .i64 C.at_, .slice a1 C.n c1, .bool C.veto] 27 T.out rfl rfl rfl rfl (Nat.le_of_ble_eq_true rfl) (by kernel_rfl) (by kernel_rfl) (by kernel_rfl) ?_; intro V2 hgV hRV; have R2 := Lib.hid (R.out.kept hgV (by intro e; have e := Option.some.inj e; omega)); have G2 := Lib.hid (grown_any G.out hgV (.inr (by omega))); have H2 := Lib.hid (H.out.grownN hgV (by omega) (by omega)); have OW2 := Lib.hid (OW.out.keptC T.out (by decide) hgV); have T2 := Lib.hid hRV; clear hgV hRV t0 t1 t2 t3 t4 t5 u0 u1 u2 u3 u4 u5; obtain ⟨t0, t1, t2, t3, t4, t5, u0, u1, u2, u3, u4, u5⟩ := c6_of T2.out)
        | (refine wpList_store_atQ rfl 27 (.tmp 2) (.tmp 71) _ 0 _ _ _ #[.int .i64 C.many, .int .i64 C.need, .bool (!C.on), .int .i64 C.at_, .slice a1 C.n c1, .bool C.veto] 27 R2.out rfl rfl rfl rfl (Nat.le_of_ble_eq_true rfl) (by kernel_rfl) (by kernel_rfl) (by kernel_rfl) ?_; intro VV hgV hRV; have HGV := Lib.hid hgV; have HRV := Lib.hid hRV; clear hgV hRV))
      (try simp only [Exit.inBlock, Exit.then])
      refine bodyPost_ret (ret_court rfl _ rfl HRV.out) rfl ?_
      exact ⟨⟨C.many, C.need, !C.on, C.at_, C.n, C.f, C.veto⟩, a1, c1, _, rfl, OW2.out.keptC R2.out (by decide) HGV.out, by show C.n ≤ 6; omega, grown_any G2.out HGV.out (.inr (by omega)), H2.out.grownN HGV.out (by omega) (by omega), by omega⟩
    · go_wp2_with fail
      refine wp_region_held_drew (S := (fun _ => True)) (by kernel_rfl) (trivial) (fun hHeld => ?_)
      have hg := gdrew wt1
      replace G := Lib.hid (gtr' G.out (Draw.grown_some hg))
      replace R := Lib.hid (R.out.keptN hg)
      replace T := Lib.hid (T.out.keptN hg)
      replace OW := Lib.hid (OW.out.kept hg (fun g e => by cases e))
      replace H := Lib.hid (H.out.gN hg)
      clear hg
      generalize wt1.drew = W at *
      refine wpAnyH_take (i := 0) (oi := ⟨some 62, _, _, _, _, _⟩) (v := ?_) rfl (by kernel_rfl) (by kernel_rfl) (by kernel_rfl) (fun _ _ _ h => h) (Or.inl ⟨by rfl, ?_⟩) (by assumption) ?_
      rotate_left
      · intro w hSw; (try dsimp only at hSw); go_simp; try with_reducible rfl
      simp only [Act.put, List.setIfInBounds_toArray, List.set_cons_zero, List.set_cons_succ]
      refine wpAnyH_take (i := 1) (oi := ⟨some 63, _, _, _, _, _⟩) (v := ?_) rfl (by kernel_rfl) (by kernel_rfl) (by kernel_rfl) (fun _ _ _ h => h) (Or.inl ⟨by rfl, ?_⟩) (by assumption) ?_
      rotate_left
      · intro w hSw; (try dsimp only at hSw); go_simp; try with_reducible rfl
      simp only [Act.put, List.setIfInBounds_toArray, List.set_cons_zero, List.set_cons_succ]
      refine wpAnyH_take (i := 3) (oi := ⟨some 65, _, _, _, _, _⟩) (v := ?_) rfl (by kernel_rfl) (by kernel_rfl) (by kernel_rfl) (fun _ _ _ h => h) (Or.inl ⟨by rfl, ?_⟩) (by assumption) ?_
      rotate_left
      · intro w hSw; (try dsimp only at hSw); go_simp; try with_reducible rfl
      simp only [Act.put, List.setIfInBounds_toArray, List.set_cons_zero, List.set_cons_succ]
      refine wpAnyH_ready (rs := [2, 4]) (by kernel_rfl) (by simp) ?_
      refine AllReadyH.cons (o := ⟨some 64, _, _, _, _, _⟩) rfl (fun Kq hKq => ?_) (AllReadyH.cons (o := ⟨some 66, _, _, _, _, _⟩) rfl (fun Kq hKq => ?_) AllReadyH.nil)
      · obtain ⟨t0, t1, t2, t3, t4, t5, u0, u1, u2, u3, u4, u5⟩ := c6_of T.out
        go_simp
        clear t0 t1 t2 t3 t4 t5 u0 u1 u2 u3 u4 u5
        refine hKq.out _ _ (trivial) (fun hHeld => ?_)
        clear hKq Kq
        refine wpAnyH_ready (rs := [4]) (by kernel_rfl) (by simp) ?_
        refine AllReadyH.cons (o := ⟨some 66, _, _, _, _, _⟩) rfl (fun Kq hKq => ?_) AllReadyH.nil
        go_simp
        go_at_call 42
        refine (pick_any _ base B a len cap _ (7 : Int) H.out (by omega) (by omega)).mono ?_
        rintro e wt2 ⟨y9, y90, y91, rfl, hr, hg, hs⟩
        replace H := Lib.hid hr
        replace G := Lib.hid (grown_any G.out hg (by omega))
        replace R := Lib.hid (R.out.kept hg (by intro e; have e := Option.some.inj e; omega))
        replace T := Lib.hid (T.out.kept hg (by intro e; have e := Option.some.inj e; omega))
        replace OW := Lib.hid (OW.out.kept hg (fun g e => by have e := Option.some.inj e; omega))
        clear hg
        clear hr hs
        refine hKq.out _ _ (trivial) (fun hHeld => ?_)
        clear hKq Kq
        refine wpAnyH_ready (rs := [5]) (by kernel_rfl) (by simp) ?_
        refine AllReadyH.cons (o := ⟨some 67, _, _, _, _, _⟩) rfl (fun Kq hKq => ?_) AllReadyH.nil
        go_simp
        refine at_alloc ?_
        intro Wa hg hX
        generalize wt2.heap.size = xb at *
        have X := Lib.hid hX
        replace G := Lib.hid (gtr' G.out (Draw.grown_some hg))
        replace R := Lib.hid (R.out.keptN hg)
        replace T := Lib.hid (T.out.keptN hg)
        replace OW := Lib.hid (OW.out.kept hg (fun g e => by cases e))
        replace H := Lib.hid (H.out.gN hg)
        clear hg
        clear hX
        refine hKq.out _ _ (trivial) (fun hHeld => ?_)
        clear hKq Kq
        refine wpAnyH_ready (rs := [6]) (by kernel_rfl) (by simp) ?_
        refine AllReadyH.cons (o := ⟨some 68, _, _, _, _, _⟩) rfl (fun Kq hKq => ?_) AllReadyH.nil
        have hGs := G.out.size
        refine wp_append_oneQ (.tmp 64) (.tmp 67) rfl w.heap.size a1 C.n c1 C.f rfl OW.out ⟨xb, 0, none⟩ y9 rfl (blk_newsQ X.out) (by omega) hGs ?_
        intro b3 c3 wt3 hO3 hg3
        have T3 := Lib.hid (blk_keptO T.out OW.out hg3 (by decide)); have R3 := Lib.hid (blk_keptO R.out OW.out hg3 (by decide))
        have G3 := Lib.hid (grown_ownB G.out OW.out hg3)
        have H3 := Lib.hid (rd_ownQ H.out OW.out hg3 hlt hbase)
        clear X
        clear T R G H OW hg3 hGs
        have T := T3; have R := R3; have G := G3; have H := H3; have OW := Lib.hid hO3
        clear T3 R3 G3 H3 hO3
        refine hKq.out _ _ (trivial) (fun hHeld => ?_)
        clear hKq Kq
        refine wpAnyH_take (i := 7) (oi := ⟨some 69, _, _, _, _, _⟩) (v := ?_) rfl (by kernel_rfl) (by kernel_rfl) (by kernel_rfl) (fun _ _ _ h => h) (Or.inl ⟨by rfl, ?_⟩) (by assumption) ?_
        rotate_left
        · intro w hSw; (try dsimp only at hSw); go_simp; try with_reducible rfl
        simp only [Act.put, List.setIfInBounds_toArray, List.set_cons_zero, List.set_cons_succ]
        refine wpAnyH_take (i := 8) (oi := ⟨some 70, _, _, _, _, _⟩) (v := ?_) rfl (by kernel_rfl) (by kernel_rfl) (by kernel_rfl) (fun _ _ _ h => h) (Or.inl ⟨by rfl, ?_⟩) (by assumption) ?_
        rotate_left
        · intro w hSw; (try dsimp only at hSw); go_simp; try with_reducible rfl
        simp only [Act.put, List.setIfInBounds_toArray, List.set_cons_zero, List.set_cons_succ]
        refine wpAnyH_ready (rs := [9]) (by kernel_rfl) (by simp) ?_
        refine AllReadyH.cons (o := ⟨none, _, _, _, _, _⟩) rfl (fun Kq hKq => ?_) AllReadyH.nil
        rw [if_pos (by rfl)]
        refine wp_store_atQ 23 (.tmp 70) (.tmp 68) tb 4 _ _ _ #[.int .i64 C.many, .int .i64 C.need, .bool C.on, .int .i64 C.at_, .slice (some ⟨b3, 0, none⟩) (C.n + 1) c3, .bool C.veto] 27 T.out rfl rfl rfl rfl (Nat.le_of_ble_eq_true rfl) (by kernel_rfl) (by kernel_rfl) (by kernel_rfl) ?_
        intro wt4 hg hT
        have OW' := OW.out.keptC T.out (by decide) hg
        clear OW
        have OW := Lib.hid OW'
        clear OW' T
        have T := Lib.hid hT
        clear hT
        replace R := Lib.hid (R.out.kept hg (by intro e; have e := Option.some.inj e; omega))
        replace G := Lib.hid (grown_any G.out hg (by omega))
        replace H := Lib.hid (H.out.grownN hg (by omega) (by omega))
        clear hg
        refine hKq.out _ _ (trivial) (fun hHeld => ?_)
        clear hKq Kq
        refine wpAnyH_done (by kernel_rfl) ?_ _
        obtain ⟨t0, t1, t2, t3, t4, t5, u0, u1, u2, u3, u4, u5⟩ := c6_of T.out
        go_wp2_with (first
          | (refine wpList_store_atQ rfl 27 (.tmp 2) (.tmp 71) _ 0 _ _ _ #[.int .i64 C.many, .int .i64 C.need, .bool C.on, .int .i64 C.at_, .slice (some ⟨b3, 0, none⟩) (C.n + 1) c3, .bool C.veto] 27 R.out rfl rfl rfl rfl (Nat.le_of_ble_eq_true rfl) (by kernel_rfl) (by kernel_rfl) (by kernel_rfl) ?_; intro VV hgV hRV; have HGV := Lib.hid hgV; have HRV := Lib.hid hRV; clear hgV hRV))
        (try simp only [Exit.inBlock, Exit.then])
        refine bodyPost_ret (ret_court rfl _ rfl HRV.out) rfl ?_
        exact ⟨⟨C.many, C.need, C.on, C.at_, C.n + 1, addz C.f C.n y9, C.veto⟩, _, _, _, rfl, OW.out.keptC R.out (by decide) HGV.out, by show C.n + 1 ≤ 6; omega, grown_any G.out HGV.out (.inr (by omega)), H.out.grownN HGV.out (by omega) (by omega), by omega⟩
      · go_simp
        go_at_call 42
        refine (pick_any _ base B a len cap _ (7 : Int) H.out (by omega) (by omega)).mono ?_
        rintro e wt2 ⟨y9, y90, y91, rfl, hr, hg, hs⟩
        replace H := Lib.hid hr
        replace G := Lib.hid (grown_any G.out hg (by omega))
        replace R := Lib.hid (R.out.kept hg (by intro e; have e := Option.some.inj e; omega))
        replace T := Lib.hid (T.out.kept hg (by intro e; have e := Option.some.inj e; omega))
        replace OW := Lib.hid (OW.out.kept hg (fun g e => by have e := Option.some.inj e; omega))
        clear hg
        clear hr hs
        refine hKq.out _ _ (trivial) (fun hHeld => ?_)
        clear hKq Kq
        refine wpAnyH_ready (rs := [2, 5]) (by kernel_rfl) (by simp) ?_
        refine AllReadyH.cons (o := ⟨some 64, _, _, _, _, _⟩) rfl (fun Kq hKq => ?_) (AllReadyH.cons (o := ⟨some 67, _, _, _, _, _⟩) rfl (fun Kq hKq => ?_) AllReadyH.nil)
        · obtain ⟨t0, t1, t2, t3, t4, t5, u0, u1, u2, u3, u4, u5⟩ := c6_of T.out
          go_simp
          clear t0 t1 t2 t3 t4 t5 u0 u1 u2 u3 u4 u5
          refine hKq.out _ _ (trivial) (fun hHeld => ?_)
          clear hKq Kq
          refine wpAnyH_ready (rs := [5]) (by kernel_rfl) (by simp) ?_
          refine AllReadyH.cons (o := ⟨some 67, _, _, _, _, _⟩) rfl (fun Kq hKq => ?_) AllReadyH.nil
          go_simp
          refine at_alloc ?_
          intro Wa hg hX
          generalize wt2.heap.size = xb at *
          have X := Lib.hid hX
          replace G := Lib.hid (gtr' G.out (Draw.grown_some hg))
          replace R := Lib.hid (R.out.keptN hg)
          replace T := Lib.hid (T.out.keptN hg)
          replace OW := Lib.hid (OW.out.kept hg (fun g e => by cases e))
          replace H := Lib.hid (H.out.gN hg)
          clear hg
          clear hX
          refine hKq.out _ _ (trivial) (fun hHeld => ?_)
          clear hKq Kq
          refine wpAnyH_ready (rs := [6]) (by kernel_rfl) (by simp) ?_
          refine AllReadyH.cons (o := ⟨some 68, _, _, _, _, _⟩) rfl (fun Kq hKq => ?_) AllReadyH.nil
          have hGs := G.out.size
          refine wp_append_oneQ (.tmp 64) (.tmp 67) rfl w.heap.size a1 C.n c1 C.f rfl OW.out ⟨xb, 0, none⟩ y9 rfl (blk_newsQ X.out) (by omega) hGs ?_
          intro b3 c3 wt3 hO3 hg3
          have T3 := Lib.hid (blk_keptO T.out OW.out hg3 (by decide)); have R3 := Lib.hid (blk_keptO R.out OW.out hg3 (by decide))
          have G3 := Lib.hid (grown_ownB G.out OW.out hg3)
          have H3 := Lib.hid (rd_ownQ H.out OW.out hg3 hlt hbase)
          clear X
          clear T R G H OW hg3 hGs
          have T := T3; have R := R3; have G := G3; have H := H3; have OW := Lib.hid hO3
          clear T3 R3 G3 H3 hO3
          refine hKq.out _ _ (trivial) (fun hHeld => ?_)
          clear hKq Kq
          refine wpAnyH_take (i := 7) (oi := ⟨some 69, _, _, _, _, _⟩) (v := ?_) rfl (by kernel_rfl) (by kernel_rfl) (by kernel_rfl) (fun _ _ _ h => h) (Or.inl ⟨by rfl, ?_⟩) (by assumption) ?_
          rotate_left
          · intro w hSw; (try dsimp only at hSw); go_simp; try with_reducible rfl
          simp only [Act.put, List.setIfInBounds_toArray, List.set_cons_zero, List.set_cons_succ]
          refine wpAnyH_take (i := 8) (oi := ⟨some 70, _, _, _, _, _⟩) (v := ?_) rfl (by kernel_rfl) (by kernel_rfl) (by kernel_rfl) (fun _ _ _ h => h) (Or.inl ⟨by rfl, ?_⟩) (by assumption) ?_
          rotate_left
          · intro w hSw; (try dsimp only at hSw); go_simp; try with_reducible rfl
          simp only [Act.put, List.setIfInBounds_toArray, List.set_cons_zero, List.set_cons_succ]
          refine wpAnyH_ready (rs := [9]) (by kernel_rfl) (by simp) ?_
          refine AllReadyH.cons (o := ⟨none, _, _, _, _, _⟩) rfl (fun Kq hKq => ?_) AllReadyH.nil
          rw [if_pos (by rfl)]
          refine wp_store_atQ 23 (.tmp 70) (.tmp 68) tb 4 _ _ _ #[.int .i64 C.many, .int .i64 C.need, .bool C.on, .int .i64 C.at_, .slice (some ⟨b3, 0, none⟩) (C.n + 1) c3, .bool C.veto] 27 T.out rfl rfl rfl rfl (Nat.le_of_ble_eq_true rfl) (by kernel_rfl) (by kernel_rfl) (by kernel_rfl) ?_
          intro wt4 hg hT
          have OW' := OW.out.keptC T.out (by decide) hg
          clear OW
          have OW := Lib.hid OW'
          clear OW' T
          have T := Lib.hid hT
          clear hT
          replace R := Lib.hid (R.out.kept hg (by intro e; have e := Option.some.inj e; omega))
          replace G := Lib.hid (grown_any G.out hg (by omega))
          replace H := Lib.hid (H.out.grownN hg (by omega) (by omega))
          clear hg
          refine hKq.out _ _ (trivial) (fun hHeld => ?_)
          clear hKq Kq
          refine wpAnyH_done (by kernel_rfl) ?_ _
          obtain ⟨t0, t1, t2, t3, t4, t5, u0, u1, u2, u3, u4, u5⟩ := c6_of T.out
          go_wp2_with (first
            | (refine wpList_store_atQ rfl 27 (.tmp 2) (.tmp 71) _ 0 _ _ _ #[.int .i64 C.many, .int .i64 C.need, .bool C.on, .int .i64 C.at_, .slice (some ⟨b3, 0, none⟩) (C.n + 1) c3, .bool C.veto] 27 R.out rfl rfl rfl rfl (Nat.le_of_ble_eq_true rfl) (by kernel_rfl) (by kernel_rfl) (by kernel_rfl) ?_; intro VV hgV hRV; have HGV := Lib.hid hgV; have HRV := Lib.hid hRV; clear hgV hRV))
          (try simp only [Exit.inBlock, Exit.then])
          refine bodyPost_ret (ret_court rfl _ rfl HRV.out) rfl ?_
          exact ⟨⟨C.many, C.need, C.on, C.at_, C.n + 1, addz C.f C.n y9, C.veto⟩, _, _, _, rfl, OW.out.keptC R.out (by decide) HGV.out, by show C.n + 1 ≤ 6; omega, grown_any G.out HGV.out (.inr (by omega)), H.out.grownN HGV.out (by omega) (by omega), by omega⟩
        · go_simp
          refine at_alloc ?_
          intro Wa hg hX
          generalize wt2.heap.size = xb at *
          have X := Lib.hid hX
          replace G := Lib.hid (gtr' G.out (Draw.grown_some hg))
          replace R := Lib.hid (R.out.keptN hg)
          replace T := Lib.hid (T.out.keptN hg)
          replace OW := Lib.hid (OW.out.kept hg (fun g e => by cases e))
          replace H := Lib.hid (H.out.gN hg)
          clear hg
          clear hX
          refine hKq.out _ _ (trivial) (fun hHeld => ?_)
          clear hKq Kq
          refine wpAnyH_ready (rs := [2]) (by kernel_rfl) (by simp) ?_
          refine AllReadyH.cons (o := ⟨some 64, _, _, _, _, _⟩) rfl (fun Kq hKq => ?_) AllReadyH.nil
          obtain ⟨t0, t1, t2, t3, t4, t5, u0, u1, u2, u3, u4, u5⟩ := c6_of T.out
          go_simp
          clear t0 t1 t2 t3 t4 t5 u0 u1 u2 u3 u4 u5
          refine hKq.out _ _ (trivial) (fun hHeld => ?_)
          clear hKq Kq
          refine wpAnyH_ready (rs := [6]) (by kernel_rfl) (by simp) ?_
          refine AllReadyH.cons (o := ⟨some 68, _, _, _, _, _⟩) rfl (fun Kq hKq => ?_) AllReadyH.nil
          have hGs := G.out.size
          refine wp_append_oneQ (.tmp 64) (.tmp 67) rfl w.heap.size a1 C.n c1 C.f rfl OW.out ⟨xb, 0, none⟩ y9 rfl (blk_newsQ X.out) (by omega) hGs ?_
          intro b3 c3 wt3 hO3 hg3
          have T3 := Lib.hid (blk_keptO T.out OW.out hg3 (by decide)); have R3 := Lib.hid (blk_keptO R.out OW.out hg3 (by decide))
          have G3 := Lib.hid (grown_ownB G.out OW.out hg3)
          have H3 := Lib.hid (rd_ownQ H.out OW.out hg3 hlt hbase)
          clear X
          clear T R G H OW hg3 hGs
          have T := T3; have R := R3; have G := G3; have H := H3; have OW := Lib.hid hO3
          clear T3 R3 G3 H3 hO3
          refine hKq.out _ _ (trivial) (fun hHeld => ?_)
          clear hKq Kq
          refine wpAnyH_take (i := 7) (oi := ⟨some 69, _, _, _, _, _⟩) (v := ?_) rfl (by kernel_rfl) (by kernel_rfl) (by kernel_rfl) (fun _ _ _ h => h) (Or.inl ⟨by rfl, ?_⟩) (by assumption) ?_
          rotate_left
          · intro w hSw; (try dsimp only at hSw); go_simp; try with_reducible rfl
          simp only [Act.put, List.setIfInBounds_toArray, List.set_cons_zero, List.set_cons_succ]
          refine wpAnyH_take (i := 8) (oi := ⟨some 70, _, _, _, _, _⟩) (v := ?_) rfl (by kernel_rfl) (by kernel_rfl) (by kernel_rfl) (fun _ _ _ h => h) (Or.inl ⟨by rfl, ?_⟩) (by assumption) ?_
          rotate_left
          · intro w hSw; (try dsimp only at hSw); go_simp; try with_reducible rfl
          simp only [Act.put, List.setIfInBounds_toArray, List.set_cons_zero, List.set_cons_succ]
          refine wpAnyH_ready (rs := [9]) (by kernel_rfl) (by simp) ?_
          refine AllReadyH.cons (o := ⟨none, _, _, _, _, _⟩) rfl (fun Kq hKq => ?_) AllReadyH.nil
          rw [if_pos (by rfl)]
          refine wp_store_atQ 23 (.tmp 70) (.tmp 68) tb 4 _ _ _ #[.int .i64 C.many, .int .i64 C.need, .bool C.on, .int .i64 C.at_, .slice (some ⟨b3, 0, none⟩) (C.n + 1) c3, .bool C.veto] 27 T.out rfl rfl rfl rfl (Nat.le_of_ble_eq_true rfl) (by kernel_rfl) (by kernel_rfl) (by kernel_rfl) ?_
          intro wt4 hg hT
          have OW' := OW.out.keptC T.out (by decide) hg
          clear OW
          have OW := Lib.hid OW'
          clear OW' T
          have T := Lib.hid hT
          clear hT
          replace R := Lib.hid (R.out.kept hg (by intro e; have e := Option.some.inj e; omega))
          replace G := Lib.hid (grown_any G.out hg (by omega))
          replace H := Lib.hid (H.out.grownN hg (by omega) (by omega))
          clear hg
          refine hKq.out _ _ (trivial) (fun hHeld => ?_)
          clear hKq Kq
          refine wpAnyH_done (by kernel_rfl) ?_ _
          obtain ⟨t0, t1, t2, t3, t4, t5, u0, u1, u2, u3, u4, u5⟩ := c6_of T.out
          go_wp2_with (first
            | (refine wpList_store_atQ rfl 27 (.tmp 2) (.tmp 71) _ 0 _ _ _ #[.int .i64 C.many, .int .i64 C.need, .bool C.on, .int .i64 C.at_, .slice (some ⟨b3, 0, none⟩) (C.n + 1) c3, .bool C.veto] 27 R.out rfl rfl rfl rfl (Nat.le_of_ble_eq_true rfl) (by kernel_rfl) (by kernel_rfl) (by kernel_rfl) ?_; intro VV hgV hRV; have HGV := Lib.hid hgV; have HRV := Lib.hid hRV; clear hgV hRV))
          (try simp only [Exit.inBlock, Exit.then])
          refine bodyPost_ret (ret_court rfl _ rfl HRV.out) rfl ?_
          exact ⟨⟨C.many, C.need, C.on, C.at_, C.n + 1, addz C.f C.n y9, C.veto⟩, _, _, _, rfl, OW.out.keptC R.out (by decide) HGV.out, by show C.n + 1 ≤ 6; omega, grown_any G.out HGV.out (.inr (by omega)), H.out.grownN HGV.out (by omega) (by omega), by omega⟩
    · have e0 : (x9 == 0) = false := by simp; omega
      have e1 : (x9 == 1) = false := by simp; omega
      obtain ⟨t0, t1, t2, t3, t4, t5, u0, u1, u2, u3, u4, u5⟩ := c6_of T.out
      go_wp2_with (first
        | (refine wpList_store_atQ rfl 27 (.tmp 2) (.tmp 71) _ 0 _ _ _ #[.int .i64 C.many, .int .i64 C.need, .bool C.on, .int .i64 C.at_, .slice a1 C.n c1, .bool C.veto] 27 R.out rfl rfl rfl rfl (Nat.le_of_ble_eq_true rfl) (by kernel_rfl) (by kernel_rfl) (by kernel_rfl) ?_; intro VV hgV hRV; have HGV := Lib.hid hgV; have HRV := Lib.hid hRV; clear hgV hRV))
      (try simp only [Exit.inBlock, Exit.then])
      refine bodyPost_ret (ret_court rfl _ rfl HRV.out) rfl ?_
      exact ⟨C, a1, c1, _, rfl, OW.out.keptC R.out (by decide) HGV.out, by omega, grown_any G.out HGV.out (.inr (by omega)), H.out.grownN HGV.out (by omega) (by omega), by omega⟩
  case pos =>
    go_wp2_with fail
    clear hx x0 x1
    refine' (fun (hk : Later _) => ?main) (Later.mk ?rest)
    case main =>
      refine wp_region_held_drew (S := (fun _ => True)) (by kernel_rfl) (trivial) (fun hHeld => ?_)
      have hg := gdrew w3
      replace G := Lib.hid (gtr' G.out (Draw.grown_some hg))
      replace R := Lib.hid (R.out.keptN hg)
      replace T := Lib.hid (T.out.keptN hg)
      replace OW := Lib.hid (OW.out.kept hg (fun g e => by cases e))
      replace H := Lib.hid (H.out.gN hg)
      clear hg
      generalize w3.drew = W at *
      refine wpAnyH_take (i := 1) (oi := ⟨some 22, _, _, _, _, _⟩) (v := ?_) rfl (by kernel_rfl) (by kernel_rfl) (by kernel_rfl) (fun _ _ _ h => h) (Or.inl ⟨by rfl, ?_⟩) (by assumption) ?_
      rotate_left
      · intro w hSw; (try dsimp only at hSw); go_simp; try with_reducible rfl
      simp only [Act.put, List.setIfInBounds_toArray, List.set_cons_zero, List.set_cons_succ]
      refine wpAnyH_ready (rs := [0, 2]) (by kernel_rfl) (by simp) ?_
      refine AllReadyH.cons (o := ⟨some 21, _, _, _, _, _⟩) rfl (fun Kq hKq => ?_) (AllReadyH.cons (o := ⟨some 23, _, _, _, _, _⟩) rfl (fun Kq hKq => ?_) AllReadyH.nil)
      · obtain ⟨t0, t1, t2, t3, t4, t5, u0, u1, u2, u3, u4, u5⟩ := c6_of T.out
        go_simp
        clear t0 t1 t2 t3 t4 t5 u0 u1 u2 u3 u4 u5
        refine hKq.out _ _ (trivial) (fun hHeld => ?_)
        clear hKq Kq
        refine wpAnyH_ready (rs := [2]) (by kernel_rfl) (by simp) ?_
        refine AllReadyH.cons (o := ⟨some 23, _, _, _, _, _⟩) rfl (fun Kq hKq => ?_) AllReadyH.nil
        go_simp
        go_at_call 42
        refine (pick_any _ base B a len cap _ (80 : Int) H.out (by omega) (by omega)).mono ?_
        rintro e w4 ⟨y, y0, y1, rfl, hr, hg, hs⟩
        replace H := Lib.hid hr
        replace G := Lib.hid (grown_any G.out hg (by omega))
        replace R := Lib.hid (R.out.kept hg (by intro e; have e := Option.some.inj e; omega))
        replace T := Lib.hid (T.out.kept hg (by intro e; have e := Option.some.inj e; omega))
        replace OW := Lib.hid (OW.out.kept hg (fun g e => by have e := Option.some.inj e; omega))
        clear hg
        clear hr hs
        refine hKq.out _ _ (trivial) (fun hHeld => ?_)
        clear hKq Kq
        refine wpAnyH_ready (rs := [3]) (by kernel_rfl) (by simp) ?_
        refine AllReadyH.cons (o := ⟨some 24, _, _, _, _, _⟩) rfl (fun Kq hKq => ?_) AllReadyH.nil
        go_simp
        go_at_call 18
        refine (sopen _ C.many C.need C.on C.at_ a1 C.n c1 C.f C.veto y OW.out.ints (by omega) OW.out.le.1 OW.out.le.2).mono ?_
        rintro e w5 ⟨a2, c2, rfl, hv, hg⟩
        have hGs := G.out.size
        have OX := Lib.hid (hv.lower (lo' := w.heap.size) hGs)
        clear hv hGs
        have hDn : (opV ⟨C.many, C.need, C.on, C.at_, C.n, C.f, C.veto⟩ y).n ≤ 0 := Nat.le_trans (opV_n _ _) hC0
        generalize opV ⟨C.many, C.need, C.on, C.at_, C.n, C.f, C.veto⟩ y = D at *
        generalize opO ⟨C.many, C.need, C.on, C.at_, C.n, C.f, C.veto⟩ y = okD at *
        clear OW
        replace G := Lib.hid (gtr' G.out (Draw.grown_some hg))
        replace R := Lib.hid (R.out.keptN hg)
        replace T := Lib.hid (T.out.keptN hg)
        replace H := Lib.hid (H.out.gN hg)
        clear hg
        refine hKq.out _ _ (trivial) (fun hHeld => ?_)
        clear hKq Kq
        refine wpAnyH_take (i := 4) (oi := ⟨some 20, _, _, _, _, _⟩) (v := ?_) rfl (by kernel_rfl) (by kernel_rfl) (by kernel_rfl) (fun _ _ _ h => h) (Or.inl ⟨by rfl, ?_⟩) (by assumption) ?_
        rotate_left
        · intro w hSw; (try dsimp only at hSw); go_simp; try with_reducible rfl
        simp only [Act.put, List.setIfInBounds_toArray, List.set_cons_zero, List.set_cons_succ]
        refine wpAnyH_take (i := 5) (oi := ⟨some 25, _, _, _, _, _⟩) (v := ?_) rfl (by kernel_rfl) (by kernel_rfl) (by kernel_rfl) (fun _ _ _ h => h) (Or.inl ⟨by rfl, ?_⟩) (by assumption) ?_
        rotate_left
        · intro w hSw; (try dsimp only at hSw); go_simp; try with_reducible rfl
        simp only [Act.put, List.setIfInBounds_toArray, List.set_cons_zero, List.set_cons_succ]
        refine wpAnyH_take (i := 6) (oi := ⟨some 26, _, _, _, _, _⟩) (v := ?_) rfl (by kernel_rfl) (by kernel_rfl) (by kernel_rfl) (fun _ _ _ h => h) (Or.inl ⟨by rfl, ?_⟩) (by assumption) ?_
        rotate_left
        · intro w hSw; (try dsimp only at hSw); go_simp; try with_reducible rfl
        simp only [Act.put, List.setIfInBounds_toArray, List.set_cons_zero, List.set_cons_succ]
        refine wpAnyH_ready (rs := [7]) (by kernel_rfl) (by simp) ?_
        refine AllReadyH.cons (o := ⟨none, _, _, _, _, _⟩) rfl (fun Kq hKq => ?_) AllReadyH.nil
        rw [if_pos (by rfl)]
        refine wp_store_atQ 27 (.tmp 5) (.tmp 25) tb 0 _ _ _ #[.int .i64 D.many, .int .i64 D.need, .bool D.on, .int .i64 D.at_, .slice a2 D.n c2, .bool D.veto] 27 T.out rfl rfl rfl rfl (Nat.le_of_ble_eq_true rfl) (by kernel_rfl) (by kernel_rfl) (by kernel_rfl) ?_
        intro w6 hg hT
        have OX' := OX.out.keptC T.out (by decide) hg
        clear OX
        have OX := Lib.hid OX'
        clear OX' T
        have T := Lib.hid hT
        clear hT
        replace G := Lib.hid (grown_any G.out hg (by omega))
        replace R := Lib.hid (R.out.kept hg (by intro e; have e := Option.some.inj e; omega))
        replace H := Lib.hid (H.out.grownN hg (by omega) (by omega))
        clear hg
        refine hKq.out _ _ (trivial) (fun hHeld => ?_)
        clear hKq Kq
        refine wpAnyH_done (by kernel_rfl) ?_ _
        clear hHeld
        revert hDn; revert OX; revert T; revert H; revert R; revert G; revert okD; revert D; revert c2; revert a2; revert y1; revert y0; revert y; revert w6
        exact hk.out
      · go_simp
        go_at_call 42
        refine (pick_any _ base B a len cap _ (80 : Int) H.out (by omega) (by omega)).mono ?_
        rintro e w4 ⟨y, y0, y1, rfl, hr, hg, hs⟩
        replace H := Lib.hid hr
        replace G := Lib.hid (grown_any G.out hg (by omega))
        replace R := Lib.hid (R.out.kept hg (by intro e; have e := Option.some.inj e; omega))
        replace T := Lib.hid (T.out.kept hg (by intro e; have e := Option.some.inj e; omega))
        replace OW := Lib.hid (OW.out.kept hg (fun g e => by have e := Option.some.inj e; omega))
        clear hg
        clear hr hs
        refine hKq.out _ _ (trivial) (fun hHeld => ?_)
        clear hKq Kq
        refine wpAnyH_ready (rs := [0]) (by kernel_rfl) (by simp) ?_
        refine AllReadyH.cons (o := ⟨some 21, _, _, _, _, _⟩) rfl (fun Kq hKq => ?_) AllReadyH.nil
        obtain ⟨t0, t1, t2, t3, t4, t5, u0, u1, u2, u3, u4, u5⟩ := c6_of T.out
        go_simp
        clear t0 t1 t2 t3 t4 t5 u0 u1 u2 u3 u4 u5
        refine hKq.out _ _ (trivial) (fun hHeld => ?_)
        clear hKq Kq
        refine wpAnyH_ready (rs := [3]) (by kernel_rfl) (by simp) ?_
        refine AllReadyH.cons (o := ⟨some 24, _, _, _, _, _⟩) rfl (fun Kq hKq => ?_) AllReadyH.nil
        go_simp
        go_at_call 18
        refine (sopen _ C.many C.need C.on C.at_ a1 C.n c1 C.f C.veto y OW.out.ints (by omega) OW.out.le.1 OW.out.le.2).mono ?_
        rintro e w5 ⟨a2, c2, rfl, hv, hg⟩
        have hGs := G.out.size
        have OX := Lib.hid (hv.lower (lo' := w.heap.size) hGs)
        clear hv hGs
        have hDn : (opV ⟨C.many, C.need, C.on, C.at_, C.n, C.f, C.veto⟩ y).n ≤ 0 := Nat.le_trans (opV_n _ _) hC0
        generalize opV ⟨C.many, C.need, C.on, C.at_, C.n, C.f, C.veto⟩ y = D at *
        generalize opO ⟨C.many, C.need, C.on, C.at_, C.n, C.f, C.veto⟩ y = okD at *
        clear OW
        replace G := Lib.hid (gtr' G.out (Draw.grown_some hg))
        replace R := Lib.hid (R.out.keptN hg)
        replace T := Lib.hid (T.out.keptN hg)
        replace H := Lib.hid (H.out.gN hg)
        clear hg
        refine hKq.out _ _ (trivial) (fun hHeld => ?_)
        clear hKq Kq
        refine wpAnyH_take (i := 4) (oi := ⟨some 20, _, _, _, _, _⟩) (v := ?_) rfl (by kernel_rfl) (by kernel_rfl) (by kernel_rfl) (fun _ _ _ h => h) (Or.inl ⟨by rfl, ?_⟩) (by assumption) ?_
        rotate_left
        · intro w hSw; (try dsimp only at hSw); go_simp; try with_reducible rfl
        simp only [Act.put, List.setIfInBounds_toArray, List.set_cons_zero, List.set_cons_succ]
        refine wpAnyH_take (i := 5) (oi := ⟨some 25, _, _, _, _, _⟩) (v := ?_) rfl (by kernel_rfl) (by kernel_rfl) (by kernel_rfl) (fun _ _ _ h => h) (Or.inl ⟨by rfl, ?_⟩) (by assumption) ?_
        rotate_left
        · intro w hSw; (try dsimp only at hSw); go_simp; try with_reducible rfl
        simp only [Act.put, List.setIfInBounds_toArray, List.set_cons_zero, List.set_cons_succ]
        refine wpAnyH_take (i := 6) (oi := ⟨some 26, _, _, _, _, _⟩) (v := ?_) rfl (by kernel_rfl) (by kernel_rfl) (by kernel_rfl) (fun _ _ _ h => h) (Or.inl ⟨by rfl, ?_⟩) (by assumption) ?_
        rotate_left
        · intro w hSw; (try dsimp only at hSw); go_simp; try with_reducible rfl
        simp only [Act.put, List.setIfInBounds_toArray, List.set_cons_zero, List.set_cons_succ]
        refine wpAnyH_ready (rs := [7]) (by kernel_rfl) (by simp) ?_
        refine AllReadyH.cons (o := ⟨none, _, _, _, _, _⟩) rfl (fun Kq hKq => ?_) AllReadyH.nil
        rw [if_pos (by rfl)]
        refine wp_store_atQ 27 (.tmp 5) (.tmp 25) tb 0 _ _ _ #[.int .i64 D.many, .int .i64 D.need, .bool D.on, .int .i64 D.at_, .slice a2 D.n c2, .bool D.veto] 27 T.out rfl rfl rfl rfl (Nat.le_of_ble_eq_true rfl) (by kernel_rfl) (by kernel_rfl) (by kernel_rfl) ?_
        intro w6 hg hT
        have OX' := OX.out.keptC T.out (by decide) hg
        clear OX
        have OX := Lib.hid OX'
        clear OX' T
        have T := Lib.hid hT
        clear hT
        replace G := Lib.hid (grown_any G.out hg (by omega))
        replace R := Lib.hid (R.out.kept hg (by intro e; have e := Option.some.inj e; omega))
        replace H := Lib.hid (H.out.grownN hg (by omega) (by omega))
        clear hg
        refine hKq.out _ _ (trivial) (fun hHeld => ?_)
        clear hKq Kq
        refine wpAnyH_done (by kernel_rfl) ?_ _
        clear hHeld
        revert hDn; revert OX; revert T; revert H; revert R; revert G; revert okD; revert D; revert c2; revert a2; revert y1; revert y0; revert y; revert w6
        exact hk.out
    case rest =>
      clear T OW G R H
      clear hC0
      intro w6 y y0 y1 a2 c2 D okD G R H T OX hDn
      clear y0 y1
      go_wp2_with fail
      refine (pick_any _ base B a len cap _ (6 : Int) H.out (by omega) (by omega)).mono ?_
      rintro e w7 ⟨x2, x20, x21, rfl, hr, hg, hs⟩
      replace H := Lib.hid hr
      replace G := Lib.hid (grown_any G.out hg (by omega))
      replace R := Lib.hid (R.out.kept hg (by intro e; have e := Option.some.inj e; omega))
      replace T := Lib.hid (T.out.kept hg (by intro e; have e := Option.some.inj e; omega))
      replace OX := Lib.hid (OX.out.kept hg (fun g e => by have e := Option.some.inj e; omega))
      clear hg
      clear hr hs
      obtain ⟨kn, rfl⟩ : ∃ kn : Nat, x2 = kn := ⟨x2.toNat, by omega⟩
      have hmp : (1 : Int) ≤ (m : Int) := by omega
      go_wp2
      go_loopw [6] (fun i wr => ∃ (k p1 : Nat) (C : CV) (a1 : Option Addr) (c1 : Nat), i = .int .i64 k ∧ C.n + k ≤ 5 ∧ p1 + k ≤ p + 12 ∧ w.grownBy wr (some B) ∧ Blk wr w.heap.size #[.int .i64 0, .int .i64 0, .bool false, .int .i64 0, .slice none 0 0, .bool false] 27 ∧ Rd wr base B a len cap p1 ∧ Blk wr tb #[.int .i64 C.many, .int .i64 C.need, .bool C.on, .int .i64 C.at_, .slice a1 C.n c1, .bool C.veto] 27 ∧ OEQ wr w.heap.size a1 C.n c1 C.f) (fun i _ => (intOf i).toNat)
      case atStart => exact ⟨kn, _, D, a2, c2, rfl, by omega, by omega, G.out, R.out, H.out, T.out, OX.out⟩
      case round =>
        clear G R H T OX hDn
        obtain ⟨k, p1, C, a1, c1, rfl, hCk, hp1, hG, hR, hH, hT, hO⟩ := hrel
        have G := Lib.hid hG; have R := Lib.hid hR; have H := Lib.hid hH; have T := Lib.hid hT; have OW := Lib.hid hO
        clear hG hR hH hT hO
        by_cases hk0 : 0 < k
        · have hk0' : (0 : Int) < (k : Int) := by omega
          go_wp2_with fail
          refine' (fun (hk : Later _) => ?main) (Later.mk ?rest)
          case main =>
            refine wp_region_held_drew (S := (fun w' => w'.cell? ⟨tb, 0, none⟩ = some (.int .i64 C.many) ∧ w'.cell? ⟨tb, 1, none⟩ = some (.int .i64 C.need) ∧ w'.cell? ⟨tb, 2, none⟩ = some (.bool C.on) ∧ w'.cell? ⟨tb, 3, none⟩ = some (.int .i64 C.at_) ∧ w'.cell? ⟨tb, 4, none⟩ = some (.slice a1 C.n c1) ∧ w'.cell? ⟨tb, 5, none⟩ = some (.bool C.veto))) (by kernel_rfl) (⟨T.out.cell 0, T.out.cell 1, T.out.cell 2, T.out.cell 3, T.out.cell 4, T.out.cell 5⟩) (fun hHeld => ?_)
            have hg := gdrew wr
            replace G := Lib.hid (gtr' G.out (Draw.grown_some hg))
            replace R := Lib.hid (R.out.keptN hg)
            replace H := Lib.hid (H.out.gN hg)
            replace T := Lib.hid (T.out.keptN hg)
            replace OW := Lib.hid (OW.out.kept hg (fun g e => by cases e))
            clear hg
            generalize wr.drew = W at *
            refine wpAnyH_take (i := 0) (oi := ⟨some 34, _, _, _, _, _⟩) (v := ?_) rfl (by kernel_rfl) (by kernel_rfl) (by kernel_rfl) (fun _ _ _ h => h) (Or.inl ⟨by rfl, ?_⟩) (by assumption) ?_
            rotate_left
            · intro w hSw; (try dsimp only at hSw); go_simp; try with_reducible rfl
            simp only [Act.put, List.setIfInBounds_toArray, List.set_cons_zero, List.set_cons_succ]
            refine wpAnyH_take (i := 1) (oi := ⟨some 35, _, _, _, _, _⟩) (v := ?_) rfl (by kernel_rfl) (by kernel_rfl) (by kernel_rfl) (fun _ _ _ h => h) (Or.inl ⟨by rfl, ?_⟩) (by assumption) ?_
            rotate_left
            · intro w hSw; (try dsimp only at hSw); go_simp; try with_reducible rfl
            simp only [Act.put, List.setIfInBounds_toArray, List.set_cons_zero, List.set_cons_succ]
            refine wpAnyH_take (i := 2) (oi := ⟨some 36, _, _, _, _, _⟩) (v := ?_) rfl (by kernel_rfl) (by kernel_rfl) (by kernel_rfl) (fun _ _ _ h => h) (Or.inl ⟨by rfl, ?_⟩) (by assumption) ?_
            rotate_left
            · intro w hSw; (try dsimp only at hSw); go_simp; try with_reducible rfl
            simp only [Act.put, List.setIfInBounds_toArray, List.set_cons_zero, List.set_cons_succ]
            refine wpAnyH_ready (rs := [3, 9]) (by kernel_rfl) (by simp) ?_
            refine AllReadyH.cons (o := ⟨some 37, _, _, _, _, _⟩) rfl (fun Kq hKq => ?_) (AllReadyH.cons (o := ⟨some 7, _, _, _, _, _⟩) rfl (fun Kq hKq => ?_) AllReadyH.nil)
            · go_simp
              go_at_call 42
              refine (pick_any _ base B a len cap _ (m : Int) H.out (by omega) hmp).mono ?_
              rintro e w8 ⟨z, z0, z1, rfl, hr, hg, hs⟩
              replace H := Lib.hid hr
              replace G := Lib.hid (grown_any G.out hg (by omega))
              replace R := Lib.hid (R.out.kept hg (by intro e; have e := Option.some.inj e; omega))
              replace T := Lib.hid (T.out.kept hg (by intro e; have e := Option.some.inj e; omega))
              replace OW := Lib.hid (OW.out.kept hg (fun g e => by have e := Option.some.inj e; omega))
              clear hg
              clear hr hs
              have hwr : IntKind.i64.wrap (1 + z) = 1 + z := IntWalk.i64_in _ (by omega)
              refine hKq.out _ _ (⟨T.out.cell 0, T.out.cell 1, T.out.cell 2, T.out.cell 3, T.out.cell 4, T.out.cell 5⟩) (fun hHeld => ?_)
              clear hKq Kq
              refine wpAnyH_take (i := 4) (oi := ⟨some 38, _, _, _, _, _⟩) (v := ?_) rfl (by kernel_rfl) (by kernel_rfl) (by kernel_rfl) (fun _ _ _ h => h) (Or.inl ⟨by rfl, ?_⟩) (by assumption) ?_
              rotate_left
              · intro w hSw; (try dsimp only at hSw); go_simp; try with_reducible rfl
              simp only [Act.put, List.setIfInBounds_toArray, List.set_cons_zero, List.set_cons_succ]
              refine wpAnyH_ready (rs := [5, 9]) (by kernel_rfl) (by simp) ?_
              refine AllReadyH.cons (o := ⟨some 39, _, _, _, _, _⟩) rfl (fun Kq hKq => ?_) (AllReadyH.cons (o := ⟨some 7, _, _, _, _, _⟩) rfl (fun Kq hKq => ?_) AllReadyH.nil)
              · go_simp
                go_at_call 24
                refine (svote _ C.many C.need C.on C.at_ a1 C.n c1 C.f C.veto (1 + z) OW.out.ints (by omega) OW.out.le.1 OW.out.le.2).mono ?_
                rintro e w9 ⟨a2, c2, rfl, hv, hg⟩
                have hGs := G.out.size
                have OX := Lib.hid (hv.lower (lo' := w.heap.size) hGs)
                clear hv hGs hwr
                have hDn : (vtV ⟨C.many, C.need, C.on, C.at_, C.n, C.f, C.veto⟩ (1 + z)).n ≤ C.n + 1 := vtV_n _ _
                generalize vtV ⟨C.many, C.need, C.on, C.at_, C.n, C.f, C.veto⟩ (1 + z) = D at *
                generalize vtO ⟨C.many, C.need, C.on, C.at_, C.n, C.f, C.veto⟩ (1 + z) = okD at *
                replace G := Lib.hid (gtr' G.out (Draw.grown_some hg))
                replace R := Lib.hid (R.out.keptN hg)
                replace T := Lib.hid (T.out.keptN hg)
                replace OW := Lib.hid (OW.out.kept hg (fun g e => by cases e))
                replace H := Lib.hid (H.out.gN hg)
                clear hg
                refine hKq.out _ _ (⟨T.out.cell 0, T.out.cell 1, T.out.cell 2, T.out.cell 3, T.out.cell 4, T.out.cell 5⟩) (fun hHeld => ?_)
                clear hKq Kq
                refine wpAnyH_take (i := 6) (oi := ⟨some 33, _, _, _, _, _⟩) (v := ?_) rfl (by kernel_rfl) (by kernel_rfl) (by kernel_rfl) (fun _ _ _ h => h) (Or.inl ⟨by rfl, ?_⟩) (by assumption) ?_
                rotate_left
                · intro w hSw; (try dsimp only at hSw); go_simp; try with_reducible rfl
                simp only [Act.put, List.setIfInBounds_toArray, List.set_cons_zero, List.set_cons_succ]
                refine wpAnyH_take (i := 7) (oi := ⟨some 40, _, _, _, _, _⟩) (v := ?_) rfl (by kernel_rfl) (by kernel_rfl) (by kernel_rfl) (fun _ _ _ h => h) (Or.inl ⟨by rfl, ?_⟩) (by assumption) ?_
                rotate_left
                · intro w hSw; (try dsimp only at hSw); go_simp; try with_reducible rfl
                simp only [Act.put, List.setIfInBounds_toArray, List.set_cons_zero, List.set_cons_succ]
                refine wpAnyH_take (i := 8) (oi := ⟨some 41, _, _, _, _, _⟩) (v := ?_) rfl (by kernel_rfl) (by kernel_rfl) (by kernel_rfl) (fun _ _ _ h => h) (Or.inl ⟨by rfl, ?_⟩) (by assumption) ?_
                rotate_left
                · intro w hSw; (try dsimp only at hSw); go_simp; try with_reducible rfl
                simp only [Act.put, List.setIfInBounds_toArray, List.set_cons_zero, List.set_cons_succ]
                refine wpAnyH_ready (rs := [9]) (by kernel_rfl) (by simp) ?_
                refine AllReadyH.cons (o := ⟨some 7, _, _, _, _, _⟩) rfl (fun Kq hKq => ?_) AllReadyH.nil
                go_simp
                refine at_alloc ?_
                intro Wa hg hT
                have hxt : tb < w9.heap.size := T.out.lt
                generalize w9.heap.size = xb at *
                have X := Lib.hid hT
                replace G := Lib.hid (gtr' G.out (Draw.grown_some hg))
                replace R := Lib.hid (R.out.keptN hg)
                replace T := Lib.hid (T.out.keptN hg)
                replace OW := Lib.hid (OW.out.kept hg (fun g e => by cases e))
                replace H := Lib.hid (H.out.gN hg)
                replace OX := Lib.hid (OX.out.kept hg (fun g e => by cases e))
                clear hg
                clear hT
                refine hKq.out _ _ (⟨T.out.cell 0, T.out.cell 1, T.out.cell 2, T.out.cell 3, T.out.cell 4, T.out.cell 5⟩) (fun hHeld => ?_)
                clear hKq Kq
                refine wpAnyH_ready (rs := [10]) (by kernel_rfl) (by simp) ?_
                refine AllReadyH.cons (o := ⟨none, _, _, _, _, _⟩) rfl (fun Kq hKq => ?_) AllReadyH.nil
                rw [if_pos (by rfl)]
                refine wp_store_atQ 27 (.tmp 7) (.tmp 40) xb 0 _ _ _ #[.int .i64 D.many, .int .i64 D.need, .bool D.on, .int .i64 D.at_, .slice a2 D.n c2, .bool D.veto] 27 X.out rfl rfl rfl rfl (Nat.le_of_ble_eq_true rfl) (by kernel_rfl) (by kernel_rfl) (by kernel_rfl) ?_
                intro w10 hg hT
                have OX' := OX.out.keptC X.out (by decide) hg
                have OW' := OW.out.keptC X.out (by decide) hg
                clear OX OW
                have OX := Lib.hid OX'
                have OW := Lib.hid OW'
                clear OX' OW' X
                have X := Lib.hid hT
                clear hT
                replace G := Lib.hid (grown_any G.out hg (by omega))
                replace R := Lib.hid (R.out.kept hg (by intro e; have e := Option.some.inj e; omega))
                replace T := Lib.hid (T.out.kept hg (by intro e; have e := Option.some.inj e; omega))
                replace H := Lib.hid (H.out.grownN hg (by omega) (by omega))
                clear hg
                refine hKq.out _ _ (⟨T.out.cell 0, T.out.cell 1, T.out.cell 2, T.out.cell 3, T.out.cell 4, T.out.cell 5⟩) (fun hHeld => ?_)
                clear hKq Kq
                refine wpAnyH_take (i := 11) (oi := ⟨some 8, _, _, _, _, _⟩) (v := ?_) rfl (by kernel_rfl) (by kernel_rfl) (by kernel_rfl) (fun _ _ _ h => h) (Or.inl ⟨by rfl, ?_⟩) (by assumption) ?_
                rotate_left
                · intro w hSw; (try dsimp only at hSw); go_simp; try with_reducible rfl
                simp only [Act.put, List.setIfInBounds_toArray, List.set_cons_zero, List.set_cons_succ]
                refine wpAnyH_done (by kernel_rfl) ?_ _
                clear hHeld
                have hTl := hxt
                clear hxt
                revert hTl; revert hDn; revert OX; revert OW; revert X; revert T; revert H; revert R; revert G; revert okD; revert D; revert c2; revert a2; revert z1; revert z0; revert z; revert xb; revert w10
                exact hk.out
              · go_simp
                refine at_alloc ?_
                intro Wa hg hT
                have hxt : tb < w8.heap.size := T.out.lt
                generalize w8.heap.size = xb at *
                have X := Lib.hid hT
                replace G := Lib.hid (gtr' G.out (Draw.grown_some hg))
                replace R := Lib.hid (R.out.keptN hg)
                replace T := Lib.hid (T.out.keptN hg)
                replace OW := Lib.hid (OW.out.kept hg (fun g e => by cases e))
                replace H := Lib.hid (H.out.gN hg)
                clear hg
                clear hT
                refine hKq.out _ _ (⟨T.out.cell 0, T.out.cell 1, T.out.cell 2, T.out.cell 3, T.out.cell 4, T.out.cell 5⟩) (fun hHeld => ?_)
                clear hKq Kq
                refine wpAnyH_ready (rs := [5]) (by kernel_rfl) (by simp) ?_
                refine AllReadyH.cons (o := ⟨some 39, _, _, _, _, _⟩) rfl (fun Kq hKq => ?_) AllReadyH.nil
                go_simp
                go_at_call 24
                refine (svote _ C.many C.need C.on C.at_ a1 C.n c1 C.f C.veto (1 + z) OW.out.ints (by omega) OW.out.le.1 OW.out.le.2).mono ?_
                rintro e w9 ⟨a2, c2, rfl, hv, hg⟩
                have hGs := G.out.size
                have OX := Lib.hid (hv.lower (lo' := w.heap.size) hGs)
                clear hv hGs hwr
                have hDn : (vtV ⟨C.many, C.need, C.on, C.at_, C.n, C.f, C.veto⟩ (1 + z)).n ≤ C.n + 1 := vtV_n _ _
                generalize vtV ⟨C.many, C.need, C.on, C.at_, C.n, C.f, C.veto⟩ (1 + z) = D at *
                generalize vtO ⟨C.many, C.need, C.on, C.at_, C.n, C.f, C.veto⟩ (1 + z) = okD at *
                replace G := Lib.hid (gtr' G.out (Draw.grown_some hg))
                replace R := Lib.hid (R.out.keptN hg)
                replace T := Lib.hid (T.out.keptN hg)
                replace OW := Lib.hid (OW.out.kept hg (fun g e => by cases e))
                replace H := Lib.hid (H.out.gN hg)
                replace X := Lib.hid (X.out.keptN hg)
                clear hg
                refine hKq.out _ _ (⟨T.out.cell 0, T.out.cell 1, T.out.cell 2, T.out.cell 3, T.out.cell 4, T.out.cell 5⟩) (fun hHeld => ?_)
                clear hKq Kq
                refine wpAnyH_take (i := 6) (oi := ⟨some 33, _, _, _, _, _⟩) (v := ?_) rfl (by kernel_rfl) (by kernel_rfl) (by kernel_rfl) (fun _ _ _ h => h) (Or.inl ⟨by rfl, ?_⟩) (by assumption) ?_
                rotate_left
                · intro w hSw; (try dsimp only at hSw); go_simp; try with_reducible rfl
                simp only [Act.put, List.setIfInBounds_toArray, List.set_cons_zero, List.set_cons_succ]
                refine wpAnyH_take (i := 7) (oi := ⟨some 40, _, _, _, _, _⟩) (v := ?_) rfl (by kernel_rfl) (by kernel_rfl) (by kernel_rfl) (fun _ _ _ h => h) (Or.inl ⟨by rfl, ?_⟩) (by assumption) ?_
                rotate_left
                · intro w hSw; (try dsimp only at hSw); go_simp; try with_reducible rfl
                simp only [Act.put, List.setIfInBounds_toArray, List.set_cons_zero, List.set_cons_succ]
                refine wpAnyH_take (i := 8) (oi := ⟨some 41, _, _, _, _, _⟩) (v := ?_) rfl (by kernel_rfl) (by kernel_rfl) (by kernel_rfl) (fun _ _ _ h => h) (Or.inl ⟨by rfl, ?_⟩) (by assumption) ?_
                rotate_left
                · intro w hSw; (try dsimp only at hSw); go_simp; try with_reducible rfl
                simp only [Act.put, List.setIfInBounds_toArray, List.set_cons_zero, List.set_cons_succ]
                refine wpAnyH_ready (rs := [10]) (by kernel_rfl) (by simp) ?_
                refine AllReadyH.cons (o := ⟨none, _, _, _, _, _⟩) rfl (fun Kq hKq => ?_) AllReadyH.nil
                rw [if_pos (by rfl)]
                refine wp_store_atQ 27 (.tmp 7) (.tmp 40) xb 0 _ _ _ #[.int .i64 D.many, .int .i64 D.need, .bool D.on, .int .i64 D.at_, .slice a2 D.n c2, .bool D.veto] 27 X.out rfl rfl rfl rfl (Nat.le_of_ble_eq_true rfl) (by kernel_rfl) (by kernel_rfl) (by kernel_rfl) ?_
                intro w10 hg hT
                have OX' := OX.out.keptC X.out (by decide) hg
                have OW' := OW.out.keptC X.out (by decide) hg
                clear OX OW
                have OX := Lib.hid OX'
                have OW := Lib.hid OW'
                clear OX' OW' X
                have X := Lib.hid hT
                clear hT
                replace G := Lib.hid (grown_any G.out hg (by omega))
                replace R := Lib.hid (R.out.kept hg (by intro e; have e := Option.some.inj e; omega))
                replace T := Lib.hid (T.out.kept hg (by intro e; have e := Option.some.inj e; omega))
                replace H := Lib.hid (H.out.grownN hg (by omega) (by omega))
                clear hg
                refine hKq.out _ _ (⟨T.out.cell 0, T.out.cell 1, T.out.cell 2, T.out.cell 3, T.out.cell 4, T.out.cell 5⟩) (fun hHeld => ?_)
                clear hKq Kq
                refine wpAnyH_take (i := 11) (oi := ⟨some 8, _, _, _, _, _⟩) (v := ?_) rfl (by kernel_rfl) (by kernel_rfl) (by kernel_rfl) (fun _ _ _ h => h) (Or.inl ⟨by rfl, ?_⟩) (by assumption) ?_
                rotate_left
                · intro w hSw; (try dsimp only at hSw); go_simp; try with_reducible rfl
                simp only [Act.put, List.setIfInBounds_toArray, List.set_cons_zero, List.set_cons_succ]
                refine wpAnyH_done (by kernel_rfl) ?_ _
                clear hHeld
                have hTl := hxt
                clear hxt
                revert hTl; revert hDn; revert OX; revert OW; revert X; revert T; revert H; revert R; revert G; revert okD; revert D; revert c2; revert a2; revert z1; revert z0; revert z; revert xb; revert w10
                exact hk.out
            · go_simp
              refine at_alloc ?_
              intro Wa hg hT
              have hxt : tb < W.heap.size := T.out.lt
              generalize W.heap.size = xb at *
              have X := Lib.hid hT
              replace G := Lib.hid (gtr' G.out (Draw.grown_some hg))
              replace R := Lib.hid (R.out.keptN hg)
              replace H := Lib.hid (H.out.gN hg)
              replace T := Lib.hid (T.out.keptN hg)
              replace OW := Lib.hid (OW.out.kept hg (fun g e => by cases e))
              clear hg
              clear hT
              refine hKq.out _ _ (⟨T.out.cell 0, T.out.cell 1, T.out.cell 2, T.out.cell 3, T.out.cell 4, T.out.cell 5⟩) (fun hHeld => ?_)
              clear hKq Kq
              refine wpAnyH_ready (rs := [3]) (by kernel_rfl) (by simp) ?_
              refine AllReadyH.cons (o := ⟨some 37, _, _, _, _, _⟩) rfl (fun Kq hKq => ?_) AllReadyH.nil
              go_simp
              go_at_call 42
              refine (pick_any _ base B a len cap _ (m : Int) H.out (by omega) hmp).mono ?_
              rintro e w8 ⟨z, z0, z1, rfl, hr, hg, hs⟩
              replace H := Lib.hid hr
              replace G := Lib.hid (grown_any G.out hg (by omega))
              replace R := Lib.hid (R.out.kept hg (by intro e; have e := Option.some.inj e; omega))
              replace T := Lib.hid (T.out.kept hg (by intro e; have e := Option.some.inj e; omega))
              replace OW := Lib.hid (OW.out.kept hg (fun g e => by have e := Option.some.inj e; omega))
              replace X := Lib.hid (X.out.kept hg (by intro e; have e := Option.some.inj e; omega))
              clear hg
              clear hr hs
              have hwr : IntKind.i64.wrap (1 + z) = 1 + z := IntWalk.i64_in _ (by omega)
              refine hKq.out _ _ (⟨T.out.cell 0, T.out.cell 1, T.out.cell 2, T.out.cell 3, T.out.cell 4, T.out.cell 5⟩) (fun hHeld => ?_)
              clear hKq Kq
              refine wpAnyH_take (i := 4) (oi := ⟨some 38, _, _, _, _, _⟩) (v := ?_) rfl (by kernel_rfl) (by kernel_rfl) (by kernel_rfl) (fun _ _ _ h => h) (Or.inl ⟨by rfl, ?_⟩) (by assumption) ?_
              rotate_left
              · intro w hSw; (try dsimp only at hSw); go_simp; try with_reducible rfl
              simp only [Act.put, List.setIfInBounds_toArray, List.set_cons_zero, List.set_cons_succ]
              refine wpAnyH_ready (rs := [5]) (by kernel_rfl) (by simp) ?_
              refine AllReadyH.cons (o := ⟨some 39, _, _, _, _, _⟩) rfl (fun Kq hKq => ?_) AllReadyH.nil
              go_simp
              go_at_call 24
              refine (svote _ C.many C.need C.on C.at_ a1 C.n c1 C.f C.veto (1 + z) OW.out.ints (by omega) OW.out.le.1 OW.out.le.2).mono ?_
              rintro e w9 ⟨a2, c2, rfl, hv, hg⟩
              have hGs := G.out.size
              have OX := Lib.hid (hv.lower (lo' := w.heap.size) hGs)
              clear hv hGs hwr
              have hDn : (vtV ⟨C.many, C.need, C.on, C.at_, C.n, C.f, C.veto⟩ (1 + z)).n ≤ C.n + 1 := vtV_n _ _
              generalize vtV ⟨C.many, C.need, C.on, C.at_, C.n, C.f, C.veto⟩ (1 + z) = D at *
              generalize vtO ⟨C.many, C.need, C.on, C.at_, C.n, C.f, C.veto⟩ (1 + z) = okD at *
              replace G := Lib.hid (gtr' G.out (Draw.grown_some hg))
              replace R := Lib.hid (R.out.keptN hg)
              replace T := Lib.hid (T.out.keptN hg)
              replace OW := Lib.hid (OW.out.kept hg (fun g e => by cases e))
              replace X := Lib.hid (X.out.keptN hg)
              replace H := Lib.hid (H.out.gN hg)
              clear hg
              refine hKq.out _ _ (⟨T.out.cell 0, T.out.cell 1, T.out.cell 2, T.out.cell 3, T.out.cell 4, T.out.cell 5⟩) (fun hHeld => ?_)
              clear hKq Kq
              refine wpAnyH_take (i := 6) (oi := ⟨some 33, _, _, _, _, _⟩) (v := ?_) rfl (by kernel_rfl) (by kernel_rfl) (by kernel_rfl) (fun _ _ _ h => h) (Or.inl ⟨by rfl, ?_⟩) (by assumption) ?_
              rotate_left
              · intro w hSw; (try dsimp only at hSw); go_simp; try with_reducible rfl
              simp only [Act.put, List.setIfInBounds_toArray, List.set_cons_zero, List.set_cons_succ]
              refine wpAnyH_take (i := 7) (oi := ⟨some 40, _, _, _, _, _⟩) (v := ?_) rfl (by kernel_rfl) (by kernel_rfl) (by kernel_rfl) (fun _ _ _ h => h) (Or.inl ⟨by rfl, ?_⟩) (by assumption) ?_
              rotate_left
              · intro w hSw; (try dsimp only at hSw); go_simp; try with_reducible rfl
              simp only [Act.put, List.setIfInBounds_toArray, List.set_cons_zero, List.set_cons_succ]
              refine wpAnyH_take (i := 8) (oi := ⟨some 41, _, _, _, _, _⟩) (v := ?_) rfl (by kernel_rfl) (by kernel_rfl) (by kernel_rfl) (fun _ _ _ h => h) (Or.inl ⟨by rfl, ?_⟩) (by assumption) ?_
              rotate_left
              · intro w hSw; (try dsimp only at hSw); go_simp; try with_reducible rfl
              simp only [Act.put, List.setIfInBounds_toArray, List.set_cons_zero, List.set_cons_succ]
              refine wpAnyH_ready (rs := [10]) (by kernel_rfl) (by simp) ?_
              refine AllReadyH.cons (o := ⟨none, _, _, _, _, _⟩) rfl (fun Kq hKq => ?_) AllReadyH.nil
              rw [if_pos (by rfl)]
              refine wp_store_atQ 27 (.tmp 7) (.tmp 40) xb 0 _ _ _ #[.int .i64 D.many, .int .i64 D.need, .bool D.on, .int .i64 D.at_, .slice a2 D.n c2, .bool D.veto] 27 X.out rfl rfl rfl rfl (Nat.le_of_ble_eq_true rfl) (by kernel_rfl) (by kernel_rfl) (by kernel_rfl) ?_
              intro w10 hg hT
              have OX' := OX.out.keptC X.out (by decide) hg
              have OW' := OW.out.keptC X.out (by decide) hg
              clear OX OW
              have OX := Lib.hid OX'
              have OW := Lib.hid OW'
              clear OX' OW' X
              have X := Lib.hid hT
              clear hT
              replace G := Lib.hid (grown_any G.out hg (by omega))
              replace R := Lib.hid (R.out.kept hg (by intro e; have e := Option.some.inj e; omega))
              replace T := Lib.hid (T.out.kept hg (by intro e; have e := Option.some.inj e; omega))
              replace H := Lib.hid (H.out.grownN hg (by omega) (by omega))
              clear hg
              refine hKq.out _ _ (⟨T.out.cell 0, T.out.cell 1, T.out.cell 2, T.out.cell 3, T.out.cell 4, T.out.cell 5⟩) (fun hHeld => ?_)
              clear hKq Kq
              refine wpAnyH_take (i := 11) (oi := ⟨some 8, _, _, _, _, _⟩) (v := ?_) rfl (by kernel_rfl) (by kernel_rfl) (by kernel_rfl) (fun _ _ _ h => h) (Or.inl ⟨by rfl, ?_⟩) (by assumption) ?_
              rotate_left
              · intro w hSw; (try dsimp only at hSw); go_simp; try with_reducible rfl
              simp only [Act.put, List.setIfInBounds_toArray, List.set_cons_zero, List.set_cons_succ]
              refine wpAnyH_done (by kernel_rfl) ?_ _
              clear hHeld
              have hTl := hxt
              clear hxt
              revert hTl; revert hDn; revert OX; revert OW; revert X; revert T; revert H; revert R; revert G; revert okD; revert D; revert c2; revert a2; revert z1; revert z0; revert z; revert xb; revert w10
              exact hk.out
          case rest =>
            clear T OW G R H
            intro w10 xb z z0 z1 a2 c2 D okD G R H T X OW OX hDn hTl
            cases okD with
            | false =>
              go_wp2
              go_roundw
              case rel => exact ⟨k - 1, _, C, a1, c1, by go_num <;> omega, by omega, by omega, G.out, R.out, H.out, T.out, OW.out⟩
              case measure => simp [intOf] <;> omega
            | true =>
              obtain ⟨q0, q1, q2, q3, q4, q5, v0, v1, v2, v3, v4, v5⟩ := c6_of X.out
              have hw10 : w.heap.size ≤ w10.heap.size := G.out.size
              go_wp2_with (first
                | (refine wpList_store_atQ rfl 27 (.tmp 5) (.tmp 43) _ 0 _ _ _ #[.int .i64 D.many, .int .i64 D.need, .bool D.on, .int .i64 D.at_, .slice a2 D.n c2, .bool D.veto] 27 T.out rfl rfl rfl rfl (Nat.le_of_ble_eq_true rfl) (by kernel_rfl) (by kernel_rfl) (by kernel_rfl) ?_; intro V2 hgV hRV; have R2 := Lib.hid (R.out.kept hgV (by intro e; have e := Option.some.inj e; omega)); have G2 := Lib.hid (grown_any G.out hgV (.inr (by omega))); have H2 := Lib.hid (H.out.grownN hgV (by omega) (by omega)); have OX2 := Lib.hid (OX.out.keptC T.out (by decide) hgV); have T2 := Lib.hid hRV; clear hgV hRV q0 q1 q2 q3 q4 q5 v0 v1 v2 v3 v4 v5))
              go_roundw
              case rel => exact ⟨k - 1, _, D, a2, c2, by go_num <;> omega, by omega, by omega, G2.out, R2.out, H2.out, T2.out, OX2.out⟩
              case measure => simp [intOf] <;> omega
        · obtain rfl : k = 0 := by omega
          go_wp2_with fail
          refine (pick_any _ base B a len cap _ (6 : Int) H.out (by omega) (by omega)).mono ?_
          rintro e w8 ⟨x5, x50, x51, rfl, hr, hg, hs⟩
          replace H := Lib.hid hr
          replace G := Lib.hid (grown_any G.out hg (by omega))
          replace R := Lib.hid (R.out.kept hg (by intro e; have e := Option.some.inj e; omega))
          replace T := Lib.hid (T.out.kept hg (by intro e; have e := Option.some.inj e; omega))
          replace OW := Lib.hid (OW.out.kept hg (fun g e => by have e := Option.some.inj e; omega))
          clear hg
          clear hr hs
          rcases (by omega : x5 = 0 ∨ 1 ≤ x5) with rfl | hx5
          · skip
            obtain ⟨t0, t1, t2, t3, t4, t5, u0, u1, u2, u3, u4, u5⟩ := c6_of T.out
            go_wp2_with fail
            refine (sveto _ C.many C.need C.on C.at_ a1 C.n c1 C.f C.veto OW.out.ints (by omega) OW.out.le.1 OW.out.le.2).mono ?_
            rintro e w9 ⟨a2, c2, rfl, hv, hg⟩
            clear t0 t1 t2 t3 t4 t5 u0 u1 u2 u3 u4 u5
            have hGs := G.out.size
            have OX := Lib.hid (hv.lower (lo' := w.heap.size) hGs)
            clear hv hGs
            have hDn : (veV ⟨C.many, C.need, C.on, C.at_, C.n, C.f, C.veto⟩).n ≤ 5 := Nat.le_trans (veV_n _) (by show C.n ≤ 5; omega)
            generalize veV ⟨C.many, C.need, C.on, C.at_, C.n, C.f, C.veto⟩ = D at *
            generalize veO ⟨C.many, C.need, C.on, C.at_, C.n, C.f, C.veto⟩ = okD at *
            clear OW
            replace G := Lib.hid (gtr' G.out (Draw.grown_some hg))
            replace R := Lib.hid (R.out.keptN hg)
            replace T := Lib.hid (T.out.keptN hg)
            replace H := Lib.hid (H.out.gN hg)
            clear hg
            go_wp2_with (refine stop_store rfl ?_)
            refine ⟨trivial, ?_⟩
            refine wpList_store_atQ rfl 27 (.tmp 5) (.tmp 50) _ 0 _ _ _ #[.int .i64 D.many, .int .i64 D.need, .bool D.on, .int .i64 D.at_, .slice a2 D.n c2, .bool D.veto] 27 T.out rfl rfl rfl rfl (Nat.le_of_ble_eq_true rfl) (by kernel_rfl) (by kernel_rfl) (by kernel_rfl) ?_
            intro w10 hg hT
            have OX' := OX.out.keptC T.out (by decide) hg
            clear OX
            have OX := Lib.hid OX'
            clear OX' T
            have T := Lib.hid hT
            clear hT
            replace G := Lib.hid (grown_any G.out hg (by omega))
            replace R := Lib.hid (R.out.kept hg (by intro e; have e := Option.some.inj e; omega))
            replace H := Lib.hid (H.out.grownN hg (by omega) (by omega))
            clear hg
            clear hCk
            have hCk : D.n ≤ 5 := hDn
            generalize D = C at *
            generalize a2 = a1 at *
            generalize c2 = c1 at *
            have OW := OX
            clear OX
            go_wp2_with fail
            refine (pick_any _ base B a len cap _ (40 : Int) H.out (by omega) (by omega)).mono ?_
            rintro e wt1 ⟨x9, x90, x91, rfl, hr, hg, hs⟩
            replace H := Lib.hid hr
            replace G := Lib.hid (grown_any G.out hg (by omega))
            replace R := Lib.hid (R.out.kept hg (by intro e; have e := Option.some.inj e; omega))
            replace T := Lib.hid (T.out.kept hg (by intro e; have e := Option.some.inj e; omega))
            replace OW := Lib.hid (OW.out.kept hg (fun g e => by have e := Option.some.inj e; omega))
            clear hg
            clear hr hs
            rcases (by omega : x9 = 0 ∨ x9 = 1 ∨ 2 ≤ x9) with rfl | rfl | hx9
            · skip
              obtain ⟨t0, t1, t2, t3, t4, t5, u0, u1, u2, u3, u4, u5⟩ := c6_of T.out
              go_wp2_with (first
                | (refine wpList_store_atQ rfl 4 (.tmp 59) (.tmp 58) _ 2 _ _ _ #[.int .i64 C.many, .int .i64 C.need, .bool (!C.on), .int .i64 C.at_, .slice a1 C.n c1, .bool C.veto] 27 T.out rfl rfl rfl rfl (Nat.le_of_ble_eq_true rfl) (by kernel_rfl) (by kernel_rfl) (by kernel_rfl) ?_; intro V2 hgV hRV; have R2 := Lib.hid (R.out.kept hgV (by intro e; have e := Option.some.inj e; omega)); have G2 := Lib.hid (grown_any G.out hgV (.inr (by omega))); have H2 := Lib.hid (H.out.grownN hgV (by omega) (by omega)); have OW2 := Lib.hid (OW.out.keptC T.out (by decide) hgV); have T2 := Lib.hid hRV; clear hgV hRV t0 t1 t2 t3 t4 t5 u0 u1 u2 u3 u4 u5; obtain ⟨t0, t1, t2, t3, t4, t5, u0, u1, u2, u3, u4, u5⟩ := c6_of T2.out)
                | (refine wpList_store_atQ rfl 27 (.tmp 2) (.tmp 71) _ 0 _ _ _ #[.int .i64 C.many, .int .i64 C.need, .bool (!C.on), .int .i64 C.at_, .slice a1 C.n c1, .bool C.veto] 27 R2.out rfl rfl rfl rfl (Nat.le_of_ble_eq_true rfl) (by kernel_rfl) (by kernel_rfl) (by kernel_rfl) ?_; intro VV hgV hRV; have HGV := Lib.hid hgV; have HRV := Lib.hid hRV; clear hgV hRV))
              (try simp only [Exit.inBlock, Exit.then])
              refine bodyPost_ret (ret_court rfl _ rfl HRV.out) rfl ?_
              exact ⟨⟨C.many, C.need, !C.on, C.at_, C.n, C.f, C.veto⟩, a1, c1, _, rfl, OW2.out.keptC R2.out (by decide) HGV.out, by show C.n ≤ 6; omega, grown_any G2.out HGV.out (.inr (by omega)), H2.out.grownN HGV.out (by omega) (by omega), by omega⟩
            · go_wp2_with fail
              refine wp_region_held_drew (S := (fun _ => True)) (by kernel_rfl) (trivial) (fun hHeld => ?_)
              have hg := gdrew wt1
              replace G := Lib.hid (gtr' G.out (Draw.grown_some hg))
              replace R := Lib.hid (R.out.keptN hg)
              replace T := Lib.hid (T.out.keptN hg)
              replace OW := Lib.hid (OW.out.kept hg (fun g e => by cases e))
              replace H := Lib.hid (H.out.gN hg)
              clear hg
              generalize wt1.drew = W at *
              refine wpAnyH_take (i := 0) (oi := ⟨some 62, _, _, _, _, _⟩) (v := ?_) rfl (by kernel_rfl) (by kernel_rfl) (by kernel_rfl) (fun _ _ _ h => h) (Or.inl ⟨by rfl, ?_⟩) (by assumption) ?_
              rotate_left
              · intro w hSw; (try dsimp only at hSw); go_simp; try with_reducible rfl
              simp only [Act.put, List.setIfInBounds_toArray, List.set_cons_zero, List.set_cons_succ]
              refine wpAnyH_take (i := 1) (oi := ⟨some 63, _, _, _, _, _⟩) (v := ?_) rfl (by kernel_rfl) (by kernel_rfl) (by kernel_rfl) (fun _ _ _ h => h) (Or.inl ⟨by rfl, ?_⟩) (by assumption) ?_
              rotate_left
              · intro w hSw; (try dsimp only at hSw); go_simp; try with_reducible rfl
              simp only [Act.put, List.setIfInBounds_toArray, List.set_cons_zero, List.set_cons_succ]
              refine wpAnyH_take (i := 3) (oi := ⟨some 65, _, _, _, _, _⟩) (v := ?_) rfl (by kernel_rfl) (by kernel_rfl) (by kernel_rfl) (fun _ _ _ h => h) (Or.inl ⟨by rfl, ?_⟩) (by assumption) ?_
              rotate_left
              · intro w hSw; (try dsimp only at hSw); go_simp; try with_reducible rfl
              simp only [Act.put, List.setIfInBounds_toArray, List.set_cons_zero, List.set_cons_succ]
              refine wpAnyH_ready (rs := [2, 4]) (by kernel_rfl) (by simp) ?_
              refine AllReadyH.cons (o := ⟨some 64, _, _, _, _, _⟩) rfl (fun Kq hKq => ?_) (AllReadyH.cons (o := ⟨some 66, _, _, _, _, _⟩) rfl (fun Kq hKq => ?_) AllReadyH.nil)
              · obtain ⟨t0, t1, t2, t3, t4, t5, u0, u1, u2, u3, u4, u5⟩ := c6_of T.out
                go_simp
                clear t0 t1 t2 t3 t4 t5 u0 u1 u2 u3 u4 u5
                refine hKq.out _ _ (trivial) (fun hHeld => ?_)
                clear hKq Kq
                refine wpAnyH_ready (rs := [4]) (by kernel_rfl) (by simp) ?_
                refine AllReadyH.cons (o := ⟨some 66, _, _, _, _, _⟩) rfl (fun Kq hKq => ?_) AllReadyH.nil
                go_simp
                go_at_call 42
                refine (pick_any _ base B a len cap _ (7 : Int) H.out (by omega) (by omega)).mono ?_
                rintro e wt2 ⟨y9, y90, y91, rfl, hr, hg, hs⟩
                replace H := Lib.hid hr
                replace G := Lib.hid (grown_any G.out hg (by omega))
                replace R := Lib.hid (R.out.kept hg (by intro e; have e := Option.some.inj e; omega))
                replace T := Lib.hid (T.out.kept hg (by intro e; have e := Option.some.inj e; omega))
                replace OW := Lib.hid (OW.out.kept hg (fun g e => by have e := Option.some.inj e; omega))
                clear hg
                clear hr hs
                refine hKq.out _ _ (trivial) (fun hHeld => ?_)
                clear hKq Kq
                refine wpAnyH_ready (rs := [5]) (by kernel_rfl) (by simp) ?_
                refine AllReadyH.cons (o := ⟨some 67, _, _, _, _, _⟩) rfl (fun Kq hKq => ?_) AllReadyH.nil
                go_simp
                refine at_alloc ?_
                intro Wa hg hX
                generalize wt2.heap.size = xb at *
                have X := Lib.hid hX
                replace G := Lib.hid (gtr' G.out (Draw.grown_some hg))
                replace R := Lib.hid (R.out.keptN hg)
                replace T := Lib.hid (T.out.keptN hg)
                replace OW := Lib.hid (OW.out.kept hg (fun g e => by cases e))
                replace H := Lib.hid (H.out.gN hg)
                clear hg
                clear hX
                refine hKq.out _ _ (trivial) (fun hHeld => ?_)
                clear hKq Kq
                refine wpAnyH_ready (rs := [6]) (by kernel_rfl) (by simp) ?_
                refine AllReadyH.cons (o := ⟨some 68, _, _, _, _, _⟩) rfl (fun Kq hKq => ?_) AllReadyH.nil
                have hGs := G.out.size
                refine wp_append_oneQ (.tmp 64) (.tmp 67) rfl w.heap.size a1 C.n c1 C.f rfl OW.out ⟨xb, 0, none⟩ y9 rfl (blk_newsQ X.out) (by omega) hGs ?_
                intro b3 c3 wt3 hO3 hg3
                have T3 := Lib.hid (blk_keptO T.out OW.out hg3 (by decide)); have R3 := Lib.hid (blk_keptO R.out OW.out hg3 (by decide))
                have G3 := Lib.hid (grown_ownB G.out OW.out hg3)
                have H3 := Lib.hid (rd_ownQ H.out OW.out hg3 hlt hbase)
                clear X
                clear T R G H OW hg3 hGs
                have T := T3; have R := R3; have G := G3; have H := H3; have OW := Lib.hid hO3
                clear T3 R3 G3 H3 hO3
                refine hKq.out _ _ (trivial) (fun hHeld => ?_)
                clear hKq Kq
                refine wpAnyH_take (i := 7) (oi := ⟨some 69, _, _, _, _, _⟩) (v := ?_) rfl (by kernel_rfl) (by kernel_rfl) (by kernel_rfl) (fun _ _ _ h => h) (Or.inl ⟨by rfl, ?_⟩) (by assumption) ?_
                rotate_left
                · intro w hSw; (try dsimp only at hSw); go_simp; try with_reducible rfl
                simp only [Act.put, List.setIfInBounds_toArray, List.set_cons_zero, List.set_cons_succ]
                refine wpAnyH_take (i := 8) (oi := ⟨some 70, _, _, _, _, _⟩) (v := ?_) rfl (by kernel_rfl) (by kernel_rfl) (by kernel_rfl) (fun _ _ _ h => h) (Or.inl ⟨by rfl, ?_⟩) (by assumption) ?_
                rotate_left
                · intro w hSw; (try dsimp only at hSw); go_simp; try with_reducible rfl
                simp only [Act.put, List.setIfInBounds_toArray, List.set_cons_zero, List.set_cons_succ]
                refine wpAnyH_ready (rs := [9]) (by kernel_rfl) (by simp) ?_
                refine AllReadyH.cons (o := ⟨none, _, _, _, _, _⟩) rfl (fun Kq hKq => ?_) AllReadyH.nil
                rw [if_pos (by rfl)]
                refine wp_store_atQ 23 (.tmp 70) (.tmp 68) tb 4 _ _ _ #[.int .i64 C.many, .int .i64 C.need, .bool C.on, .int .i64 C.at_, .slice (some ⟨b3, 0, none⟩) (C.n + 1) c3, .bool C.veto] 27 T.out rfl rfl rfl rfl (Nat.le_of_ble_eq_true rfl) (by kernel_rfl) (by kernel_rfl) (by kernel_rfl) ?_
                intro wt4 hg hT
                have OW' := OW.out.keptC T.out (by decide) hg
                clear OW
                have OW := Lib.hid OW'
                clear OW' T
                have T := Lib.hid hT
                clear hT
                replace R := Lib.hid (R.out.kept hg (by intro e; have e := Option.some.inj e; omega))
                replace G := Lib.hid (grown_any G.out hg (by omega))
                replace H := Lib.hid (H.out.grownN hg (by omega) (by omega))
                clear hg
                refine hKq.out _ _ (trivial) (fun hHeld => ?_)
                clear hKq Kq
                refine wpAnyH_done (by kernel_rfl) ?_ _
                obtain ⟨t0, t1, t2, t3, t4, t5, u0, u1, u2, u3, u4, u5⟩ := c6_of T.out
                go_wp2_with (first
                  | (refine wpList_store_atQ rfl 27 (.tmp 2) (.tmp 71) _ 0 _ _ _ #[.int .i64 C.many, .int .i64 C.need, .bool C.on, .int .i64 C.at_, .slice (some ⟨b3, 0, none⟩) (C.n + 1) c3, .bool C.veto] 27 R.out rfl rfl rfl rfl (Nat.le_of_ble_eq_true rfl) (by kernel_rfl) (by kernel_rfl) (by kernel_rfl) ?_; intro VV hgV hRV; have HGV := Lib.hid hgV; have HRV := Lib.hid hRV; clear hgV hRV))
                (try simp only [Exit.inBlock, Exit.then])
                refine bodyPost_ret (ret_court rfl _ rfl HRV.out) rfl ?_
                exact ⟨⟨C.many, C.need, C.on, C.at_, C.n + 1, addz C.f C.n y9, C.veto⟩, _, _, _, rfl, OW.out.keptC R.out (by decide) HGV.out, by show C.n + 1 ≤ 6; omega, grown_any G.out HGV.out (.inr (by omega)), H.out.grownN HGV.out (by omega) (by omega), by omega⟩
              · go_simp
                go_at_call 42
                refine (pick_any _ base B a len cap _ (7 : Int) H.out (by omega) (by omega)).mono ?_
                rintro e wt2 ⟨y9, y90, y91, rfl, hr, hg, hs⟩
                replace H := Lib.hid hr
                replace G := Lib.hid (grown_any G.out hg (by omega))
                replace R := Lib.hid (R.out.kept hg (by intro e; have e := Option.some.inj e; omega))
                replace T := Lib.hid (T.out.kept hg (by intro e; have e := Option.some.inj e; omega))
                replace OW := Lib.hid (OW.out.kept hg (fun g e => by have e := Option.some.inj e; omega))
                clear hg
                clear hr hs
                refine hKq.out _ _ (trivial) (fun hHeld => ?_)
                clear hKq Kq
                refine wpAnyH_ready (rs := [2, 5]) (by kernel_rfl) (by simp) ?_
                refine AllReadyH.cons (o := ⟨some 64, _, _, _, _, _⟩) rfl (fun Kq hKq => ?_) (AllReadyH.cons (o := ⟨some 67, _, _, _, _, _⟩) rfl (fun Kq hKq => ?_) AllReadyH.nil)
                · obtain ⟨t0, t1, t2, t3, t4, t5, u0, u1, u2, u3, u4, u5⟩ := c6_of T.out
                  go_simp
                  clear t0 t1 t2 t3 t4 t5 u0 u1 u2 u3 u4 u5
                  refine hKq.out _ _ (trivial) (fun hHeld => ?_)
                  clear hKq Kq
                  refine wpAnyH_ready (rs := [5]) (by kernel_rfl) (by simp) ?_
                  refine AllReadyH.cons (o := ⟨some 67, _, _, _, _, _⟩) rfl (fun Kq hKq => ?_) AllReadyH.nil
                  go_simp
                  refine at_alloc ?_
                  intro Wa hg hX
                  generalize wt2.heap.size = xb at *
                  have X := Lib.hid hX
                  replace G := Lib.hid (gtr' G.out (Draw.grown_some hg))
                  replace R := Lib.hid (R.out.keptN hg)
                  replace T := Lib.hid (T.out.keptN hg)
                  replace OW := Lib.hid (OW.out.kept hg (fun g e => by cases e))
                  replace H := Lib.hid (H.out.gN hg)
                  clear hg
                  clear hX
                  refine hKq.out _ _ (trivial) (fun hHeld => ?_)
                  clear hKq Kq
                  refine wpAnyH_ready (rs := [6]) (by kernel_rfl) (by simp) ?_
                  refine AllReadyH.cons (o := ⟨some 68, _, _, _, _, _⟩) rfl (fun Kq hKq => ?_) AllReadyH.nil
                  have hGs := G.out.size
                  refine wp_append_oneQ (.tmp 64) (.tmp 67) rfl w.heap.size a1 C.n c1 C.f rfl OW.out ⟨xb, 0, none⟩ y9 rfl (blk_newsQ X.out) (by omega) hGs ?_
                  intro b3 c3 wt3 hO3 hg3
                  have T3 := Lib.hid (blk_keptO T.out OW.out hg3 (by decide)); have R3 := Lib.hid (blk_keptO R.out OW.out hg3 (by decide))
                  have G3 := Lib.hid (grown_ownB G.out OW.out hg3)
                  have H3 := Lib.hid (rd_ownQ H.out OW.out hg3 hlt hbase)
                  clear X
                  clear T R G H OW hg3 hGs
                  have T := T3; have R := R3; have G := G3; have H := H3; have OW := Lib.hid hO3
                  clear T3 R3 G3 H3 hO3
                  refine hKq.out _ _ (trivial) (fun hHeld => ?_)
                  clear hKq Kq
                  refine wpAnyH_take (i := 7) (oi := ⟨some 69, _, _, _, _, _⟩) (v := ?_) rfl (by kernel_rfl) (by kernel_rfl) (by kernel_rfl) (fun _ _ _ h => h) (Or.inl ⟨by rfl, ?_⟩) (by assumption) ?_
                  rotate_left
                  · intro w hSw; (try dsimp only at hSw); go_simp; try with_reducible rfl
                  simp only [Act.put, List.setIfInBounds_toArray, List.set_cons_zero, List.set_cons_succ]
                  refine wpAnyH_take (i := 8) (oi := ⟨some 70, _, _, _, _, _⟩) (v := ?_) rfl (by kernel_rfl) (by kernel_rfl) (by kernel_rfl) (fun _ _ _ h => h) (Or.inl ⟨by rfl, ?_⟩) (by assumption) ?_
                  rotate_left
                  · intro w hSw; (try dsimp only at hSw); go_simp; try with_reducible rfl
                  simp only [Act.put, List.setIfInBounds_toArray, List.set_cons_zero, List.set_cons_succ]
                  refine wpAnyH_ready (rs := [9]) (by kernel_rfl) (by simp) ?_
                  refine AllReadyH.cons (o := ⟨none, _, _, _, _, _⟩) rfl (fun Kq hKq => ?_) AllReadyH.nil
                  rw [if_pos (by rfl)]
                  refine wp_store_atQ 23 (.tmp 70) (.tmp 68) tb 4 _ _ _ #[.int .i64 C.many, .int .i64 C.need, .bool C.on, .int .i64 C.at_, .slice (some ⟨b3, 0, none⟩) (C.n + 1) c3, .bool C.veto] 27 T.out rfl rfl rfl rfl (Nat.le_of_ble_eq_true rfl) (by kernel_rfl) (by kernel_rfl) (by kernel_rfl) ?_
                  intro wt4 hg hT
                  have OW' := OW.out.keptC T.out (by decide) hg
                  clear OW
                  have OW := Lib.hid OW'
                  clear OW' T
                  have T := Lib.hid hT
                  clear hT
                  replace R := Lib.hid (R.out.kept hg (by intro e; have e := Option.some.inj e; omega))
                  replace G := Lib.hid (grown_any G.out hg (by omega))
                  replace H := Lib.hid (H.out.grownN hg (by omega) (by omega))
                  clear hg
                  refine hKq.out _ _ (trivial) (fun hHeld => ?_)
                  clear hKq Kq
                  refine wpAnyH_done (by kernel_rfl) ?_ _
                  obtain ⟨t0, t1, t2, t3, t4, t5, u0, u1, u2, u3, u4, u5⟩ := c6_of T.out
                  go_wp2_with (first
                    | (refine wpList_store_atQ rfl 27 (.tmp 2) (.tmp 71) _ 0 _ _ _ #[.int .i64 C.many, .int .i64 C.need, .bool C.on, .int .i64 C.at_, .slice (some ⟨b3, 0, none⟩) (C.n + 1) c3, .bool C.veto] 27 R.out rfl rfl rfl rfl (Nat.le_of_ble_eq_true rfl) (by kernel_rfl) (by kernel_rfl) (by kernel_rfl) ?_; intro VV hgV hRV; have HGV := Lib.hid hgV; have HRV := Lib.hid hRV; clear hgV hRV))
                  (try simp only [Exit.inBlock, Exit.then])
                  refine bodyPost_ret (ret_court rfl _ rfl HRV.out) rfl ?_
                  exact ⟨⟨C.many, C.need, C.on, C.at_, C.n + 1, addz C.f C.n y9, C.veto⟩, _, _, _, rfl, OW.out.keptC R.out (by decide) HGV.out, by show C.n + 1 ≤ 6; omega, grown_any G.out HGV.out (.inr (by omega)), H.out.grownN HGV.out (by omega) (by omega), by omega⟩
                · go_simp
                  refine at_alloc ?_
                  intro Wa hg hX
                  generalize wt2.heap.size = xb at *
                  have X := Lib.hid hX
                  replace G := Lib.hid (gtr' G.out (Draw.grown_some hg))
                  replace R := Lib.hid (R.out.keptN hg)
                  replace T := Lib.hid (T.out.keptN hg)
                  replace OW := Lib.hid (OW.out.kept hg (fun g e => by cases e))
                  replace H := Lib.hid (H.out.gN hg)
                  clear hg
                  clear hX
                  refine hKq.out _ _ (trivial) (fun hHeld => ?_)
                  clear hKq Kq
                  refine wpAnyH_ready (rs := [2]) (by kernel_rfl) (by simp) ?_
                  refine AllReadyH.cons (o := ⟨some 64, _, _, _, _, _⟩) rfl (fun Kq hKq => ?_) AllReadyH.nil
                  obtain ⟨t0, t1, t2, t3, t4, t5, u0, u1, u2, u3, u4, u5⟩ := c6_of T.out
                  go_simp
                  clear t0 t1 t2 t3 t4 t5 u0 u1 u2 u3 u4 u5
                  refine hKq.out _ _ (trivial) (fun hHeld => ?_)
                  clear hKq Kq
                  refine wpAnyH_ready (rs := [6]) (by kernel_rfl) (by simp) ?_
                  refine AllReadyH.cons (o := ⟨some 68, _, _, _, _, _⟩) rfl (fun Kq hKq => ?_) AllReadyH.nil
                  have hGs := G.out.size
                  refine wp_append_oneQ (.tmp 64) (.tmp 67) rfl w.heap.size a1 C.n c1 C.f rfl OW.out ⟨xb, 0, none⟩ y9 rfl (blk_newsQ X.out) (by omega) hGs ?_
                  intro b3 c3 wt3 hO3 hg3
                  have T3 := Lib.hid (blk_keptO T.out OW.out hg3 (by decide)); have R3 := Lib.hid (blk_keptO R.out OW.out hg3 (by decide))
                  have G3 := Lib.hid (grown_ownB G.out OW.out hg3)
                  have H3 := Lib.hid (rd_ownQ H.out OW.out hg3 hlt hbase)
                  clear X
                  clear T R G H OW hg3 hGs
                  have T := T3; have R := R3; have G := G3; have H := H3; have OW := Lib.hid hO3
                  clear T3 R3 G3 H3 hO3
                  refine hKq.out _ _ (trivial) (fun hHeld => ?_)
                  clear hKq Kq
                  refine wpAnyH_take (i := 7) (oi := ⟨some 69, _, _, _, _, _⟩) (v := ?_) rfl (by kernel_rfl) (by kernel_rfl) (by kernel_rfl) (fun _ _ _ h => h) (Or.inl ⟨by rfl, ?_⟩) (by assumption) ?_
                  rotate_left
                  · intro w hSw; (try dsimp only at hSw); go_simp; try with_reducible rfl
                  simp only [Act.put, List.setIfInBounds_toArray, List.set_cons_zero, List.set_cons_succ]
                  refine wpAnyH_take (i := 8) (oi := ⟨some 70, _, _, _, _, _⟩) (v := ?_) rfl (by kernel_rfl) (by kernel_rfl) (by kernel_rfl) (fun _ _ _ h => h) (Or.inl ⟨by rfl, ?_⟩) (by assumption) ?_
                  rotate_left
                  · intro w hSw; (try dsimp only at hSw); go_simp; try with_reducible rfl
                  simp only [Act.put, List.setIfInBounds_toArray, List.set_cons_zero, List.set_cons_succ]
                  refine wpAnyH_ready (rs := [9]) (by kernel_rfl) (by simp) ?_
                  refine AllReadyH.cons (o := ⟨none, _, _, _, _, _⟩) rfl (fun Kq hKq => ?_) AllReadyH.nil
                  rw [if_pos (by rfl)]
                  refine wp_store_atQ 23 (.tmp 70) (.tmp 68) tb 4 _ _ _ #[.int .i64 C.many, .int .i64 C.need, .bool C.on, .int .i64 C.at_, .slice (some ⟨b3, 0, none⟩) (C.n + 1) c3, .bool C.veto] 27 T.out rfl rfl rfl rfl (Nat.le_of_ble_eq_true rfl) (by kernel_rfl) (by kernel_rfl) (by kernel_rfl) ?_
                  intro wt4 hg hT
                  have OW' := OW.out.keptC T.out (by decide) hg
                  clear OW
                  have OW := Lib.hid OW'
                  clear OW' T
                  have T := Lib.hid hT
                  clear hT
                  replace R := Lib.hid (R.out.kept hg (by intro e; have e := Option.some.inj e; omega))
                  replace G := Lib.hid (grown_any G.out hg (by omega))
                  replace H := Lib.hid (H.out.grownN hg (by omega) (by omega))
                  clear hg
                  refine hKq.out _ _ (trivial) (fun hHeld => ?_)
                  clear hKq Kq
                  refine wpAnyH_done (by kernel_rfl) ?_ _
                  obtain ⟨t0, t1, t2, t3, t4, t5, u0, u1, u2, u3, u4, u5⟩ := c6_of T.out
                  go_wp2_with (first
                    | (refine wpList_store_atQ rfl 27 (.tmp 2) (.tmp 71) _ 0 _ _ _ #[.int .i64 C.many, .int .i64 C.need, .bool C.on, .int .i64 C.at_, .slice (some ⟨b3, 0, none⟩) (C.n + 1) c3, .bool C.veto] 27 R.out rfl rfl rfl rfl (Nat.le_of_ble_eq_true rfl) (by kernel_rfl) (by kernel_rfl) (by kernel_rfl) ?_; intro VV hgV hRV; have HGV := Lib.hid hgV; have HRV := Lib.hid hRV; clear hgV hRV))
                  (try simp only [Exit.inBlock, Exit.then])
                  refine bodyPost_ret (ret_court rfl _ rfl HRV.out) rfl ?_
                  exact ⟨⟨C.many, C.need, C.on, C.at_, C.n + 1, addz C.f C.n y9, C.veto⟩, _, _, _, rfl, OW.out.keptC R.out (by decide) HGV.out, by show C.n + 1 ≤ 6; omega, grown_any G.out HGV.out (.inr (by omega)), H.out.grownN HGV.out (by omega) (by omega), by omega⟩
            · have e0 : (x9 == 0) = false := by simp; omega
              have e1 : (x9 == 1) = false := by simp; omega
              obtain ⟨t0, t1, t2, t3, t4, t5, u0, u1, u2, u3, u4, u5⟩ := c6_of T.out
              go_wp2_with (first
                | (refine wpList_store_atQ rfl 27 (.tmp 2) (.tmp 71) _ 0 _ _ _ #[.int .i64 C.many, .int .i64 C.need, .bool C.on, .int .i64 C.at_, .slice a1 C.n c1, .bool C.veto] 27 R.out rfl rfl rfl rfl (Nat.le_of_ble_eq_true rfl) (by kernel_rfl) (by kernel_rfl) (by kernel_rfl) ?_; intro VV hgV hRV; have HGV := Lib.hid hgV; have HRV := Lib.hid hRV; clear hgV hRV))
              (try simp only [Exit.inBlock, Exit.then])
              refine bodyPost_ret (ret_court rfl _ rfl HRV.out) rfl ?_
              exact ⟨C, a1, c1, _, rfl, OW.out.keptC R.out (by decide) HGV.out, by omega, grown_any G.out HGV.out (.inr (by omega)), H.out.grownN HGV.out (by omega) (by omega), by omega⟩
          · have e5 : (x5 == 0) = false := by simp; omega
            go_wp2_with fail
            refine (pick_any _ base B a len cap _ (40 : Int) H.out (by omega) (by omega)).mono ?_
            rintro e wt1 ⟨x9, x90, x91, rfl, hr, hg, hs⟩
            replace H := Lib.hid hr
            replace G := Lib.hid (grown_any G.out hg (by omega))
            replace R := Lib.hid (R.out.kept hg (by intro e; have e := Option.some.inj e; omega))
            replace T := Lib.hid (T.out.kept hg (by intro e; have e := Option.some.inj e; omega))
            replace OW := Lib.hid (OW.out.kept hg (fun g e => by have e := Option.some.inj e; omega))
            clear hg
            clear hr hs
            rcases (by omega : x9 = 0 ∨ x9 = 1 ∨ 2 ≤ x9) with rfl | rfl | hx9
            · skip
              obtain ⟨t0, t1, t2, t3, t4, t5, u0, u1, u2, u3, u4, u5⟩ := c6_of T.out
              go_wp2_with (first
                | (refine wpList_store_atQ rfl 4 (.tmp 59) (.tmp 58) _ 2 _ _ _ #[.int .i64 C.many, .int .i64 C.need, .bool (!C.on), .int .i64 C.at_, .slice a1 C.n c1, .bool C.veto] 27 T.out rfl rfl rfl rfl (Nat.le_of_ble_eq_true rfl) (by kernel_rfl) (by kernel_rfl) (by kernel_rfl) ?_; intro V2 hgV hRV; have R2 := Lib.hid (R.out.kept hgV (by intro e; have e := Option.some.inj e; omega)); have G2 := Lib.hid (grown_any G.out hgV (.inr (by omega))); have H2 := Lib.hid (H.out.grownN hgV (by omega) (by omega)); have OW2 := Lib.hid (OW.out.keptC T.out (by decide) hgV); have T2 := Lib.hid hRV; clear hgV hRV t0 t1 t2 t3 t4 t5 u0 u1 u2 u3 u4 u5; obtain ⟨t0, t1, t2, t3, t4, t5, u0, u1, u2, u3, u4, u5⟩ := c6_of T2.out)
                | (refine wpList_store_atQ rfl 27 (.tmp 2) (.tmp 71) _ 0 _ _ _ #[.int .i64 C.many, .int .i64 C.need, .bool (!C.on), .int .i64 C.at_, .slice a1 C.n c1, .bool C.veto] 27 R2.out rfl rfl rfl rfl (Nat.le_of_ble_eq_true rfl) (by kernel_rfl) (by kernel_rfl) (by kernel_rfl) ?_; intro VV hgV hRV; have HGV := Lib.hid hgV; have HRV := Lib.hid hRV; clear hgV hRV))
              (try simp only [Exit.inBlock, Exit.then])
              refine bodyPost_ret (ret_court rfl _ rfl HRV.out) rfl ?_
              exact ⟨⟨C.many, C.need, !C.on, C.at_, C.n, C.f, C.veto⟩, a1, c1, _, rfl, OW2.out.keptC R2.out (by decide) HGV.out, by show C.n ≤ 6; omega, grown_any G2.out HGV.out (.inr (by omega)), H2.out.grownN HGV.out (by omega) (by omega), by omega⟩
            · go_wp2_with fail
              refine wp_region_held_drew (S := (fun _ => True)) (by kernel_rfl) (trivial) (fun hHeld => ?_)
              have hg := gdrew wt1
              replace G := Lib.hid (gtr' G.out (Draw.grown_some hg))
              replace R := Lib.hid (R.out.keptN hg)
              replace T := Lib.hid (T.out.keptN hg)
              replace OW := Lib.hid (OW.out.kept hg (fun g e => by cases e))
              replace H := Lib.hid (H.out.gN hg)
              clear hg
              generalize wt1.drew = W at *
              refine wpAnyH_take (i := 0) (oi := ⟨some 62, _, _, _, _, _⟩) (v := ?_) rfl (by kernel_rfl) (by kernel_rfl) (by kernel_rfl) (fun _ _ _ h => h) (Or.inl ⟨by rfl, ?_⟩) (by assumption) ?_
              rotate_left
              · intro w hSw; (try dsimp only at hSw); go_simp; try with_reducible rfl
              simp only [Act.put, List.setIfInBounds_toArray, List.set_cons_zero, List.set_cons_succ]
              refine wpAnyH_take (i := 1) (oi := ⟨some 63, _, _, _, _, _⟩) (v := ?_) rfl (by kernel_rfl) (by kernel_rfl) (by kernel_rfl) (fun _ _ _ h => h) (Or.inl ⟨by rfl, ?_⟩) (by assumption) ?_
              rotate_left
              · intro w hSw; (try dsimp only at hSw); go_simp; try with_reducible rfl
              simp only [Act.put, List.setIfInBounds_toArray, List.set_cons_zero, List.set_cons_succ]
              refine wpAnyH_take (i := 3) (oi := ⟨some 65, _, _, _, _, _⟩) (v := ?_) rfl (by kernel_rfl) (by kernel_rfl) (by kernel_rfl) (fun _ _ _ h => h) (Or.inl ⟨by rfl, ?_⟩) (by assumption) ?_
              rotate_left
              · intro w hSw; (try dsimp only at hSw); go_simp; try with_reducible rfl
              simp only [Act.put, List.setIfInBounds_toArray, List.set_cons_zero, List.set_cons_succ]
              refine wpAnyH_ready (rs := [2, 4]) (by kernel_rfl) (by simp) ?_
              refine AllReadyH.cons (o := ⟨some 64, _, _, _, _, _⟩) rfl (fun Kq hKq => ?_) (AllReadyH.cons (o := ⟨some 66, _, _, _, _, _⟩) rfl (fun Kq hKq => ?_) AllReadyH.nil)
              · obtain ⟨t0, t1, t2, t3, t4, t5, u0, u1, u2, u3, u4, u5⟩ := c6_of T.out
                go_simp
                clear t0 t1 t2 t3 t4 t5 u0 u1 u2 u3 u4 u5
                refine hKq.out _ _ (trivial) (fun hHeld => ?_)
                clear hKq Kq
                refine wpAnyH_ready (rs := [4]) (by kernel_rfl) (by simp) ?_
                refine AllReadyH.cons (o := ⟨some 66, _, _, _, _, _⟩) rfl (fun Kq hKq => ?_) AllReadyH.nil
                go_simp
                go_at_call 42
                refine (pick_any _ base B a len cap _ (7 : Int) H.out (by omega) (by omega)).mono ?_
                rintro e wt2 ⟨y9, y90, y91, rfl, hr, hg, hs⟩
                replace H := Lib.hid hr
                replace G := Lib.hid (grown_any G.out hg (by omega))
                replace R := Lib.hid (R.out.kept hg (by intro e; have e := Option.some.inj e; omega))
                replace T := Lib.hid (T.out.kept hg (by intro e; have e := Option.some.inj e; omega))
                replace OW := Lib.hid (OW.out.kept hg (fun g e => by have e := Option.some.inj e; omega))
                clear hg
                clear hr hs
                refine hKq.out _ _ (trivial) (fun hHeld => ?_)
                clear hKq Kq
                refine wpAnyH_ready (rs := [5]) (by kernel_rfl) (by simp) ?_
                refine AllReadyH.cons (o := ⟨some 67, _, _, _, _, _⟩) rfl (fun Kq hKq => ?_) AllReadyH.nil
                go_simp
                refine at_alloc ?_
                intro Wa hg hX
                generalize wt2.heap.size = xb at *
                have X := Lib.hid hX
                replace G := Lib.hid (gtr' G.out (Draw.grown_some hg))
                replace R := Lib.hid (R.out.keptN hg)
                replace T := Lib.hid (T.out.keptN hg)
                replace OW := Lib.hid (OW.out.kept hg (fun g e => by cases e))
                replace H := Lib.hid (H.out.gN hg)
                clear hg
                clear hX
                refine hKq.out _ _ (trivial) (fun hHeld => ?_)
                clear hKq Kq
                refine wpAnyH_ready (rs := [6]) (by kernel_rfl) (by simp) ?_
                refine AllReadyH.cons (o := ⟨some 68, _, _, _, _, _⟩) rfl (fun Kq hKq => ?_) AllReadyH.nil
                have hGs := G.out.size
                refine wp_append_oneQ (.tmp 64) (.tmp 67) rfl w.heap.size a1 C.n c1 C.f rfl OW.out ⟨xb, 0, none⟩ y9 rfl (blk_newsQ X.out) (by omega) hGs ?_
                intro b3 c3 wt3 hO3 hg3
                have T3 := Lib.hid (blk_keptO T.out OW.out hg3 (by decide)); have R3 := Lib.hid (blk_keptO R.out OW.out hg3 (by decide))
                have G3 := Lib.hid (grown_ownB G.out OW.out hg3)
                have H3 := Lib.hid (rd_ownQ H.out OW.out hg3 hlt hbase)
                clear X
                clear T R G H OW hg3 hGs
                have T := T3; have R := R3; have G := G3; have H := H3; have OW := Lib.hid hO3
                clear T3 R3 G3 H3 hO3
                refine hKq.out _ _ (trivial) (fun hHeld => ?_)
                clear hKq Kq
                refine wpAnyH_take (i := 7) (oi := ⟨some 69, _, _, _, _, _⟩) (v := ?_) rfl (by kernel_rfl) (by kernel_rfl) (by kernel_rfl) (fun _ _ _ h => h) (Or.inl ⟨by rfl, ?_⟩) (by assumption) ?_
                rotate_left
                · intro w hSw; (try dsimp only at hSw); go_simp; try with_reducible rfl
                simp only [Act.put, List.setIfInBounds_toArray, List.set_cons_zero, List.set_cons_succ]
                refine wpAnyH_take (i := 8) (oi := ⟨some 70, _, _, _, _, _⟩) (v := ?_) rfl (by kernel_rfl) (by kernel_rfl) (by kernel_rfl) (fun _ _ _ h => h) (Or.inl ⟨by rfl, ?_⟩) (by assumption) ?_
                rotate_left
                · intro w hSw; (try dsimp only at hSw); go_simp; try with_reducible rfl
                simp only [Act.put, List.setIfInBounds_toArray, List.set_cons_zero, List.set_cons_succ]
                refine wpAnyH_ready (rs := [9]) (by kernel_rfl) (by simp) ?_
                refine AllReadyH.cons (o := ⟨none, _, _, _, _, _⟩) rfl (fun Kq hKq => ?_) AllReadyH.nil
                rw [if_pos (by rfl)]
                refine wp_store_atQ 23 (.tmp 70) (.tmp 68) tb 4 _ _ _ #[.int .i64 C.many, .int .i64 C.need, .bool C.on, .int .i64 C.at_, .slice (some ⟨b3, 0, none⟩) (C.n + 1) c3, .bool C.veto] 27 T.out rfl rfl rfl rfl (Nat.le_of_ble_eq_true rfl) (by kernel_rfl) (by kernel_rfl) (by kernel_rfl) ?_
                intro wt4 hg hT
                have OW' := OW.out.keptC T.out (by decide) hg
                clear OW
                have OW := Lib.hid OW'
                clear OW' T
                have T := Lib.hid hT
                clear hT
                replace R := Lib.hid (R.out.kept hg (by intro e; have e := Option.some.inj e; omega))
                replace G := Lib.hid (grown_any G.out hg (by omega))
                replace H := Lib.hid (H.out.grownN hg (by omega) (by omega))
                clear hg
                refine hKq.out _ _ (trivial) (fun hHeld => ?_)
                clear hKq Kq
                refine wpAnyH_done (by kernel_rfl) ?_ _
                obtain ⟨t0, t1, t2, t3, t4, t5, u0, u1, u2, u3, u4, u5⟩ := c6_of T.out
                go_wp2_with (first
                  | (refine wpList_store_atQ rfl 27 (.tmp 2) (.tmp 71) _ 0 _ _ _ #[.int .i64 C.many, .int .i64 C.need, .bool C.on, .int .i64 C.at_, .slice (some ⟨b3, 0, none⟩) (C.n + 1) c3, .bool C.veto] 27 R.out rfl rfl rfl rfl (Nat.le_of_ble_eq_true rfl) (by kernel_rfl) (by kernel_rfl) (by kernel_rfl) ?_; intro VV hgV hRV; have HGV := Lib.hid hgV; have HRV := Lib.hid hRV; clear hgV hRV))
                (try simp only [Exit.inBlock, Exit.then])
                refine bodyPost_ret (ret_court rfl _ rfl HRV.out) rfl ?_
                exact ⟨⟨C.many, C.need, C.on, C.at_, C.n + 1, addz C.f C.n y9, C.veto⟩, _, _, _, rfl, OW.out.keptC R.out (by decide) HGV.out, by show C.n + 1 ≤ 6; omega, grown_any G.out HGV.out (.inr (by omega)), H.out.grownN HGV.out (by omega) (by omega), by omega⟩
              · go_simp
                go_at_call 42
                refine (pick_any _ base B a len cap _ (7 : Int) H.out (by omega) (by omega)).mono ?_
                rintro e wt2 ⟨y9, y90, y91, rfl, hr, hg, hs⟩
                replace H := Lib.hid hr
                replace G := Lib.hid (grown_any G.out hg (by omega))
                replace R := Lib.hid (R.out.kept hg (by intro e; have e := Option.some.inj e; omega))
                replace T := Lib.hid (T.out.kept hg (by intro e; have e := Option.some.inj e; omega))
                replace OW := Lib.hid (OW.out.kept hg (fun g e => by have e := Option.some.inj e; omega))
                clear hg
                clear hr hs
                refine hKq.out _ _ (trivial) (fun hHeld => ?_)
                clear hKq Kq
                refine wpAnyH_ready (rs := [2, 5]) (by kernel_rfl) (by simp) ?_
                refine AllReadyH.cons (o := ⟨some 64, _, _, _, _, _⟩) rfl (fun Kq hKq => ?_) (AllReadyH.cons (o := ⟨some 67, _, _, _, _, _⟩) rfl (fun Kq hKq => ?_) AllReadyH.nil)
                · obtain ⟨t0, t1, t2, t3, t4, t5, u0, u1, u2, u3, u4, u5⟩ := c6_of T.out
                  go_simp
                  clear t0 t1 t2 t3 t4 t5 u0 u1 u2 u3 u4 u5
                  refine hKq.out _ _ (trivial) (fun hHeld => ?_)
                  clear hKq Kq
                  refine wpAnyH_ready (rs := [5]) (by kernel_rfl) (by simp) ?_
                  refine AllReadyH.cons (o := ⟨some 67, _, _, _, _, _⟩) rfl (fun Kq hKq => ?_) AllReadyH.nil
                  go_simp
                  refine at_alloc ?_
                  intro Wa hg hX
                  generalize wt2.heap.size = xb at *
                  have X := Lib.hid hX
                  replace G := Lib.hid (gtr' G.out (Draw.grown_some hg))
                  replace R := Lib.hid (R.out.keptN hg)
                  replace T := Lib.hid (T.out.keptN hg)
                  replace OW := Lib.hid (OW.out.kept hg (fun g e => by cases e))
                  replace H := Lib.hid (H.out.gN hg)
                  clear hg
                  clear hX
                  refine hKq.out _ _ (trivial) (fun hHeld => ?_)
                  clear hKq Kq
                  refine wpAnyH_ready (rs := [6]) (by kernel_rfl) (by simp) ?_
                  refine AllReadyH.cons (o := ⟨some 68, _, _, _, _, _⟩) rfl (fun Kq hKq => ?_) AllReadyH.nil
                  have hGs := G.out.size
                  refine wp_append_oneQ (.tmp 64) (.tmp 67) rfl w.heap.size a1 C.n c1 C.f rfl OW.out ⟨xb, 0, none⟩ y9 rfl (blk_newsQ X.out) (by omega) hGs ?_
                  intro b3 c3 wt3 hO3 hg3
                  have T3 := Lib.hid (blk_keptO T.out OW.out hg3 (by decide)); have R3 := Lib.hid (blk_keptO R.out OW.out hg3 (by decide))
                  have G3 := Lib.hid (grown_ownB G.out OW.out hg3)
                  have H3 := Lib.hid (rd_ownQ H.out OW.out hg3 hlt hbase)
                  clear X
                  clear T R G H OW hg3 hGs
                  have T := T3; have R := R3; have G := G3; have H := H3; have OW := Lib.hid hO3
                  clear T3 R3 G3 H3 hO3
                  refine hKq.out _ _ (trivial) (fun hHeld => ?_)
                  clear hKq Kq
                  refine wpAnyH_take (i := 7) (oi := ⟨some 69, _, _, _, _, _⟩) (v := ?_) rfl (by kernel_rfl) (by kernel_rfl) (by kernel_rfl) (fun _ _ _ h => h) (Or.inl ⟨by rfl, ?_⟩) (by assumption) ?_
                  rotate_left
                  · intro w hSw; (try dsimp only at hSw); go_simp; try with_reducible rfl
                  simp only [Act.put, List.setIfInBounds_toArray, List.set_cons_zero, List.set_cons_succ]
                  refine wpAnyH_take (i := 8) (oi := ⟨some 70, _, _, _, _, _⟩) (v := ?_) rfl (by kernel_rfl) (by kernel_rfl) (by kernel_rfl) (fun _ _ _ h => h) (Or.inl ⟨by rfl, ?_⟩) (by assumption) ?_
                  rotate_left
                  · intro w hSw; (try dsimp only at hSw); go_simp; try with_reducible rfl
                  simp only [Act.put, List.setIfInBounds_toArray, List.set_cons_zero, List.set_cons_succ]
                  refine wpAnyH_ready (rs := [9]) (by kernel_rfl) (by simp) ?_
                  refine AllReadyH.cons (o := ⟨none, _, _, _, _, _⟩) rfl (fun Kq hKq => ?_) AllReadyH.nil
                  rw [if_pos (by rfl)]
                  refine wp_store_atQ 23 (.tmp 70) (.tmp 68) tb 4 _ _ _ #[.int .i64 C.many, .int .i64 C.need, .bool C.on, .int .i64 C.at_, .slice (some ⟨b3, 0, none⟩) (C.n + 1) c3, .bool C.veto] 27 T.out rfl rfl rfl rfl (Nat.le_of_ble_eq_true rfl) (by kernel_rfl) (by kernel_rfl) (by kernel_rfl) ?_
                  intro wt4 hg hT
                  have OW' := OW.out.keptC T.out (by decide) hg
                  clear OW
                  have OW := Lib.hid OW'
                  clear OW' T
                  have T := Lib.hid hT
                  clear hT
                  replace R := Lib.hid (R.out.kept hg (by intro e; have e := Option.some.inj e; omega))
                  replace G := Lib.hid (grown_any G.out hg (by omega))
                  replace H := Lib.hid (H.out.grownN hg (by omega) (by omega))
                  clear hg
                  refine hKq.out _ _ (trivial) (fun hHeld => ?_)
                  clear hKq Kq
                  refine wpAnyH_done (by kernel_rfl) ?_ _
                  obtain ⟨t0, t1, t2, t3, t4, t5, u0, u1, u2, u3, u4, u5⟩ := c6_of T.out
                  go_wp2_with (first
                    | (refine wpList_store_atQ rfl 27 (.tmp 2) (.tmp 71) _ 0 _ _ _ #[.int .i64 C.many, .int .i64 C.need, .bool C.on, .int .i64 C.at_, .slice (some ⟨b3, 0, none⟩) (C.n + 1) c3, .bool C.veto] 27 R.out rfl rfl rfl rfl (Nat.le_of_ble_eq_true rfl) (by kernel_rfl) (by kernel_rfl) (by kernel_rfl) ?_; intro VV hgV hRV; have HGV := Lib.hid hgV; have HRV := Lib.hid hRV; clear hgV hRV))
                  (try simp only [Exit.inBlock, Exit.then])
                  refine bodyPost_ret (ret_court rfl _ rfl HRV.out) rfl ?_
                  exact ⟨⟨C.many, C.need, C.on, C.at_, C.n + 1, addz C.f C.n y9, C.veto⟩, _, _, _, rfl, OW.out.keptC R.out (by decide) HGV.out, by show C.n + 1 ≤ 6; omega, grown_any G.out HGV.out (.inr (by omega)), H.out.grownN HGV.out (by omega) (by omega), by omega⟩
                · go_simp
                  refine at_alloc ?_
                  intro Wa hg hX
                  generalize wt2.heap.size = xb at *
                  have X := Lib.hid hX
                  replace G := Lib.hid (gtr' G.out (Draw.grown_some hg))
                  replace R := Lib.hid (R.out.keptN hg)
                  replace T := Lib.hid (T.out.keptN hg)
                  replace OW := Lib.hid (OW.out.kept hg (fun g e => by cases e))
                  replace H := Lib.hid (H.out.gN hg)
                  clear hg
                  clear hX
                  refine hKq.out _ _ (trivial) (fun hHeld => ?_)
                  clear hKq Kq
                  refine wpAnyH_ready (rs := [2]) (by kernel_rfl) (by simp) ?_
                  refine AllReadyH.cons (o := ⟨some 64, _, _, _, _, _⟩) rfl (fun Kq hKq => ?_) AllReadyH.nil
                  obtain ⟨t0, t1, t2, t3, t4, t5, u0, u1, u2, u3, u4, u5⟩ := c6_of T.out
                  go_simp
                  clear t0 t1 t2 t3 t4 t5 u0 u1 u2 u3 u4 u5
                  refine hKq.out _ _ (trivial) (fun hHeld => ?_)
                  clear hKq Kq
                  refine wpAnyH_ready (rs := [6]) (by kernel_rfl) (by simp) ?_
                  refine AllReadyH.cons (o := ⟨some 68, _, _, _, _, _⟩) rfl (fun Kq hKq => ?_) AllReadyH.nil
                  have hGs := G.out.size
                  refine wp_append_oneQ (.tmp 64) (.tmp 67) rfl w.heap.size a1 C.n c1 C.f rfl OW.out ⟨xb, 0, none⟩ y9 rfl (blk_newsQ X.out) (by omega) hGs ?_
                  intro b3 c3 wt3 hO3 hg3
                  have T3 := Lib.hid (blk_keptO T.out OW.out hg3 (by decide)); have R3 := Lib.hid (blk_keptO R.out OW.out hg3 (by decide))
                  have G3 := Lib.hid (grown_ownB G.out OW.out hg3)
                  have H3 := Lib.hid (rd_ownQ H.out OW.out hg3 hlt hbase)
                  clear X
                  clear T R G H OW hg3 hGs
                  have T := T3; have R := R3; have G := G3; have H := H3; have OW := Lib.hid hO3
                  clear T3 R3 G3 H3 hO3
                  refine hKq.out _ _ (trivial) (fun hHeld => ?_)
                  clear hKq Kq
                  refine wpAnyH_take (i := 7) (oi := ⟨some 69, _, _, _, _, _⟩) (v := ?_) rfl (by kernel_rfl) (by kernel_rfl) (by kernel_rfl) (fun _ _ _ h => h) (Or.inl ⟨by rfl, ?_⟩) (by assumption) ?_
                  rotate_left
                  · intro w hSw; (try dsimp only at hSw); go_simp; try with_reducible rfl
                  simp only [Act.put, List.setIfInBounds_toArray, List.set_cons_zero, List.set_cons_succ]
                  refine wpAnyH_take (i := 8) (oi := ⟨some 70, _, _, _, _, _⟩) (v := ?_) rfl (by kernel_rfl) (by kernel_rfl) (by kernel_rfl) (fun _ _ _ h => h) (Or.inl ⟨by rfl, ?_⟩) (by assumption) ?_
                  rotate_left
                  · intro w hSw; (try dsimp only at hSw); go_simp; try with_reducible rfl
                  simp only [Act.put, List.setIfInBounds_toArray, List.set_cons_zero, List.set_cons_succ]
                  refine wpAnyH_ready (rs := [9]) (by kernel_rfl) (by simp) ?_
                  refine AllReadyH.cons (o := ⟨none, _, _, _, _, _⟩) rfl (fun Kq hKq => ?_) AllReadyH.nil
                  rw [if_pos (by rfl)]
                  refine wp_store_atQ 23 (.tmp 70) (.tmp 68) tb 4 _ _ _ #[.int .i64 C.many, .int .i64 C.need, .bool C.on, .int .i64 C.at_, .slice (some ⟨b3, 0, none⟩) (C.n + 1) c3, .bool C.veto] 27 T.out rfl rfl rfl rfl (Nat.le_of_ble_eq_true rfl) (by kernel_rfl) (by kernel_rfl) (by kernel_rfl) ?_
                  intro wt4 hg hT
                  have OW' := OW.out.keptC T.out (by decide) hg
                  clear OW
                  have OW := Lib.hid OW'
                  clear OW' T
                  have T := Lib.hid hT
                  clear hT
                  replace R := Lib.hid (R.out.kept hg (by intro e; have e := Option.some.inj e; omega))
                  replace G := Lib.hid (grown_any G.out hg (by omega))
                  replace H := Lib.hid (H.out.grownN hg (by omega) (by omega))
                  clear hg
                  refine hKq.out _ _ (trivial) (fun hHeld => ?_)
                  clear hKq Kq
                  refine wpAnyH_done (by kernel_rfl) ?_ _
                  obtain ⟨t0, t1, t2, t3, t4, t5, u0, u1, u2, u3, u4, u5⟩ := c6_of T.out
                  go_wp2_with (first
                    | (refine wpList_store_atQ rfl 27 (.tmp 2) (.tmp 71) _ 0 _ _ _ #[.int .i64 C.many, .int .i64 C.need, .bool C.on, .int .i64 C.at_, .slice (some ⟨b3, 0, none⟩) (C.n + 1) c3, .bool C.veto] 27 R.out rfl rfl rfl rfl (Nat.le_of_ble_eq_true rfl) (by kernel_rfl) (by kernel_rfl) (by kernel_rfl) ?_; intro VV hgV hRV; have HGV := Lib.hid hgV; have HRV := Lib.hid hRV; clear hgV hRV))
                  (try simp only [Exit.inBlock, Exit.then])
                  refine bodyPost_ret (ret_court rfl _ rfl HRV.out) rfl ?_
                  exact ⟨⟨C.many, C.need, C.on, C.at_, C.n + 1, addz C.f C.n y9, C.veto⟩, _, _, _, rfl, OW.out.keptC R.out (by decide) HGV.out, by show C.n + 1 ≤ 6; omega, grown_any G.out HGV.out (.inr (by omega)), H.out.grownN HGV.out (by omega) (by omega), by omega⟩
            · have e0 : (x9 == 0) = false := by simp; omega
              have e1 : (x9 == 1) = false := by simp; omega
              obtain ⟨t0, t1, t2, t3, t4, t5, u0, u1, u2, u3, u4, u5⟩ := c6_of T.out
              go_wp2_with (first
                | (refine wpList_store_atQ rfl 27 (.tmp 2) (.tmp 71) _ 0 _ _ _ #[.int .i64 C.many, .int .i64 C.need, .bool C.on, .int .i64 C.at_, .slice a1 C.n c1, .bool C.veto] 27 R.out rfl rfl rfl rfl (Nat.le_of_ble_eq_true rfl) (by kernel_rfl) (by kernel_rfl) (by kernel_rfl) ?_; intro VV hgV hRV; have HGV := Lib.hid hgV; have HRV := Lib.hid hRV; clear hgV hRV))
              (try simp only [Exit.inBlock, Exit.then])
              refine bodyPost_ret (ret_court rfl _ rfl HRV.out) rfl ?_
              exact ⟨C, a1, c1, _, rfl, OW.out.keptC R.out (by decide) HGV.out, by omega, grown_any G.out HGV.out (.inr (by omega)), H.out.grownN HGV.out (by omega) (by omega), by omega⟩
end Ct
end Go.Proofs.Ytbfmigmhmjgdgaa
