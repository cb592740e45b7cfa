/-
  The walks of the exact laws on courts that are answered.
-/
import Derived.Test.YtbfmigmhmjgdgaaZx
import Derived.Test.YtbfmigmhmjgdgaaZi
import Derived.Deep.RegionHeld3
namespace Go.Proofs.Ytbfmigmhmjgdgaa
namespace Run
open Go.RowKit Alg Mem Con Draw Ct
set_option linter.unusedVariables false

set_option maxRecDepth 100000 in
set_option maxHeartbeats 8000000 in
theorem FnExactCourtOpen (many need : Int) (on : Bool) (at_ : Int) (a : Option Addr) (n c : Nat) (f : Nat → Int) (veto : Bool) (now : Int) (w : World) (hI : Ints w a n f) (hc : n ≤ c) (hm : c ≤ maxLen) :
    Calls Try.prog 13 #[.agg #[.int .i64 many, .int .i64 need, .bool on, .int .i64 at_, .slice a n c, .bool veto], .int .i64 now] w (Yes w) := by
  have G := Lib.hid (grown_alloc w (.cells #[.int .i64 many, .int .i64 need, .bool on, .int .i64 at_, .slice a n c, .bool veto] 43) none)
  have B := Lib.hid (Blk.new w #[.int .i64 many, .int .i64 need, .bool on, .int .i64 at_, .slice a n c, .bool veto] 43)
  have HI := Lib.hid hI; clear hI
  go_enter Try.func13, Try.ntmps13
  have B_0 : World.cell? (w.alloc (.cells #[.int .i64 many, .int .i64 need, .bool on, .int .i64 at_, .slice a n c, .bool veto] 43)) ⟨w.heap.size, 0, none⟩ = some (.int .i64 many) := B.out.cell 0
  have B_1 : World.cell? (w.alloc (.cells #[.int .i64 many, .int .i64 need, .bool on, .int .i64 at_, .slice a n c, .bool veto] 43)) ⟨w.heap.size, 1, none⟩ = some (.int .i64 need) := B.out.cell 1
  have B_2 : World.cell? (w.alloc (.cells #[.int .i64 many, .int .i64 need, .bool on, .int .i64 at_, .slice a n c, .bool veto] 43)) ⟨w.heap.size, 2, none⟩ = some (.bool on) := B.out.cell 2
  have B_3 : World.cell? (w.alloc (.cells #[.int .i64 many, .int .i64 need, .bool on, .int .i64 at_, .slice a n c, .bool veto] 43)) ⟨w.heap.size, 3, none⟩ = some (.int .i64 at_) := B.out.cell 3
  have B_4 : World.cell? (w.alloc (.cells #[.int .i64 many, .int .i64 need, .bool on, .int .i64 at_, .slice a n c, .bool veto] 43)) ⟨w.heap.size, 4, none⟩ = some (.slice a n c) := B.out.cell 4
  have B_5 : World.cell? (w.alloc (.cells #[.int .i64 many, .int .i64 need, .bool on, .int .i64 at_, .slice a n c, .bool veto] 43)) ⟨w.heap.size, 5, none⟩ = some (.bool veto) := B.out.cell 5
  go_wp2_with fail
  refine (szcrt _ many need on at_ a n c veto 1048576 (by omega) (by omega) (by omega)).mono ?_
  rintro e v1 ⟨⟨r, rfl, hr⟩, hg⟩
  clear B_0 B_1 B_2 B_3 B_4 B_5
  replace G := Lib.hid (gtr G.out hg)
  replace B := Lib.hid (B.out.keptN hg)
  clear hg
  rcases hr with rfl | ⟨r0, r1, hn⟩
  · go_wp2
    go_ret
    exact ⟨rfl, below_of G.out⟩
  have hnr : ¬ r < 0 := by omega
  have hnm : n ≤ maxLen := by unfold maxLen; omega
  clear r1
  obtain ⟨D, hD⟩ : ∃ D, opV ⟨many, need, on, at_, n, f, veto⟩ now = D := ⟨_, rfl⟩
  obtain ⟨g, hg0⟩ : ∃ g, opO ⟨many, need, on, at_, n, f, veto⟩ now = g := ⟨_, rfl⟩
  have HD := Lib.hid hD; have HK := Lib.hid hg0
  have hDn : D.n ≤ 1200000 := by rw [← hD]; exact Nat.le_trans (Nat.le_trans (opV_n _ _) (Nat.le_succ _)) (by show n + 1 ≤ 1200000; omega)
  clear hD hg0
  have hne : (g != g) = false := by simp
  have B_0 : World.cell? v1 ⟨w.heap.size, 0, none⟩ = some (.int .i64 many) := B.out.cell 0
  have B_1 : World.cell? v1 ⟨w.heap.size, 1, none⟩ = some (.int .i64 need) := B.out.cell 1
  have B_2 : World.cell? v1 ⟨w.heap.size, 2, none⟩ = some (.bool on) := B.out.cell 2
  have B_3 : World.cell? v1 ⟨w.heap.size, 3, none⟩ = some (.int .i64 at_) := B.out.cell 3
  have B_4 : World.cell? v1 ⟨w.heap.size, 4, none⟩ = some (.slice a n c) := B.out.cell 4
  have B_5 : World.cell? v1 ⟨w.heap.size, 5, none⟩ = some (.bool veto) := B.out.cell 5
  go_wp2_with fail
  refine (tocrt _ many need on at_ a n c f veto (HI.out.kept G.out) (by omega)).mono ?_
  rintro e v2 ⟨b1, rfl, hO, hg⟩
  have O1 := Lib.hid hO; clear hO
  clear B_0 B_1 B_2 B_3 B_4 B_5
  replace G := Lib.hid (gtr G.out hg)
  replace B := Lib.hid (B.out.keptN hg)
  clear hg
  go_wp2_with fail
  refine (sopen _ many need on at_ _ n n f veto now O1.out.ints (by omega) (Nat.le_refl _) hnm).mono ?_
  rintro e v3 ⟨a2, c2, rfl, hO, hg⟩
  rw [HD.out] at hO ⊢
  rw [HK.out]
  have OW := Lib.hid (hO.lower (lo' := w.heap.size) G.out.size)
  clear hO
  replace G := Lib.hid (gtr G.out hg)
  replace B := Lib.hid (B.out.keptN hg)
  replace O1 := Lib.hid (O1.out.kept hg (fun g e => by cases e))
  clear hg
  clear O1
  go_wp2_with (refine stop_store rfl ?_)
  refine ⟨trivial, ?_⟩
  refine wpList_store_atQ rfl 27 (.tmp 6) (.tmp 26) _ 0 _ _ _ #[.int .i64 D.many, .int .i64 D.need, .bool D.on, .int .i64 D.at_, .slice a2 D.n c2, .bool D.veto] 27 (Blk.new v3 #[.int .i64 0, .int .i64 0, .bool false, .int .i64 0, .slice none 0 0, .bool false] 27) rfl rfl rfl rfl (Nat.le_of_ble_eq_true rfl) (by kernel_rfl) (by kernel_rfl) (by kernel_rfl) ?_
  intro u3 hgV hT
  have hg : (v3).grownBy u3 none := grown_new (grown_alloc (v3) (.cells #[.int .i64 0, .int .i64 0, .bool false, .int .i64 0, .slice none 0 0, .bool false] 27) none) (Nat.le_refl _) hgV
  have K2 := Lib.hid hT
  clear hgV hT
  replace G := Lib.hid (gtr G.out hg)
  replace B := Lib.hid (B.out.keptN hg)
  replace OW := Lib.hid (OW.out.kept hg (fun g e => by cases e))
  clear hg
  generalize (v3).heap.size = k2 at *
  have B_0 : World.cell? u3 ⟨w.heap.size, 0, none⟩ = some (.int .i64 many) := B.out.cell 0
  have B_1 : World.cell? u3 ⟨w.heap.size, 1, none⟩ = some (.int .i64 need) := B.out.cell 1
  have B_2 : World.cell? u3 ⟨w.heap.size, 2, none⟩ = some (.bool on) := B.out.cell 2
  have B_3 : World.cell? u3 ⟨w.heap.size, 3, none⟩ = some (.int .i64 at_) := B.out.cell 3
  have B_4 : World.cell? u3 ⟨w.heap.size, 4, none⟩ = some (.slice a n c) := B.out.cell 4
  have B_5 : World.cell? u3 ⟨w.heap.size, 5, none⟩ = some (.bool veto) := B.out.cell 5
  go_wp2_with fail
  refine (tocrt _ many need on at_ a n c f veto (HI.out.kept G.out) (by omega)).mono ?_
  rintro e v4 ⟨b3, rfl, hO, hg⟩
  have AP1 := Lib.hid (aptQ OW.out hO (Nat.le_refl _))
  have OX := Lib.hid (hO.lower (lo' := w.heap.size) G.out.size)
  clear hO
  clear B_0 B_1 B_2 B_3 B_4 B_5
  replace G := Lib.hid (gtr G.out hg)
  replace B := Lib.hid (B.out.keptN hg)
  replace OW := Lib.hid (OW.out.kept hg (fun g e => by cases e))
  replace K2 := Lib.hid (K2.out.keptN hg)
  clear hg
  go_wp2_with (refine stop_store rfl ?_)
  refine ⟨trivial, ?_⟩
  refine wpList_store_atQ rfl 27 (.tmp 8) (.tmp 29) _ 0 _ _ _ #[.int .i64 many, .int .i64 need, .bool on, .int .i64 at_, .slice (some ⟨b3, 0, none⟩) n n, .bool veto] 27 (Blk.new v4 #[.int .i64 0, .int .i64 0, .bool false, .int .i64 0, .slice none 0 0, .bool false] 27) rfl rfl rfl rfl (Nat.le_of_ble_eq_true rfl) (by kernel_rfl) (by kernel_rfl) (by kernel_rfl) ?_
  intro u4 hgV hT
  have hg : (v4).grownBy u4 none := grown_new (grown_alloc (v4) (.cells #[.int .i64 0, .int .i64 0, .bool false, .int .i64 0, .slice none 0 0, .bool false] 27) none) (Nat.le_refl _) hgV
  have Kx := Lib.hid hT
  clear hgV hT
  replace G := Lib.hid (gtr G.out hg)
  replace B := Lib.hid (B.out.keptN hg)
  replace OW := Lib.hid (OW.out.kept hg (fun g e => by cases e))
  replace K2 := Lib.hid (K2.out.keptN hg)
  replace OX := Lib.hid (OX.out.kept hg (fun g e => by cases e))
  clear hg
  generalize (v4).heap.size = k3 at *
  have Kx_0 : World.cell? u4 ⟨k3, 0, none⟩ = some (.int .i64 many) := Kx.out.cell 0
  have Kx_1 : World.cell? u4 ⟨k3, 1, none⟩ = some (.int .i64 need) := Kx.out.cell 1
  have Kx_2 : World.cell? u4 ⟨k3, 2, none⟩ = some (.bool on) := Kx.out.cell 2
  have Kx_3 : World.cell? u4 ⟨k3, 3, none⟩ = some (.int .i64 at_) := Kx.out.cell 3
  have Kx_4 : World.cell? u4 ⟨k3, 4, none⟩ = some (.slice (some ⟨b3, 0, none⟩) n n) := Kx.out.cell 4
  have Kx_5 : World.cell? u4 ⟨k3, 5, none⟩ = some (.bool veto) := Kx.out.cell 5
  go_wp2_with fail
  refine (iopen _ many need on at_ (some ⟨b3, 0, none⟩) n n f veto now OX.out.ints (by omega) (Nat.le_refl _) hnm).mono ?_
  rintro e v5 ⟨a4, c4, rfl, hO, hg⟩
  rw [HD.out] at hO ⊢
  rw [HK.out]
  have AP2 := Lib.hid (aptQ OW.out hO (Nat.le_refl _)); have AP3 := Lib.hid (aptQ OX.out hO (Nat.le_refl _))
  have OQ := Lib.hid (hO.lower (lo' := w.heap.size) G.out.size)
  clear hO
  clear Kx_0 Kx_1 Kx_2 Kx_3 Kx_4 Kx_5
  replace G := Lib.hid (gtr G.out hg)
  replace B := Lib.hid (B.out.keptN hg)
  replace OW := Lib.hid (OW.out.kept hg (fun g e => by cases e))
  replace K2 := Lib.hid (K2.out.keptN hg)
  replace OX := Lib.hid (OX.out.kept hg (fun g e => by cases e))
  replace Kx := Lib.hid (Kx.out.keptN hg)
  clear hg
  go_wp2_with (refine stop_store rfl ?_)
  refine ⟨trivial, ?_⟩
  refine wpList_store_atQ rfl 27 (.tmp 9) (.tmp 34) _ 0 _ _ _ #[.int .i64 D.many, .int .i64 D.need, .bool D.on, .int .i64 D.at_, .slice a4 D.n c4, .bool D.veto] 27 (Blk.new v5 #[.int .i64 0, .int .i64 0, .bool false, .int .i64 0, .slice none 0 0, .bool false] 27) rfl rfl rfl rfl (Nat.le_of_ble_eq_true rfl) (by kernel_rfl) (by kernel_rfl) (by kernel_rfl) ?_
  intro u5 hgV hT
  have hg : (v5).grownBy u5 none := grown_new (grown_alloc (v5) (.cells #[.int .i64 0, .int .i64 0, .bool false, .int .i64 0, .slice none 0 0, .bool false] 27) none) (Nat.le_refl _) hgV
  have Kg := Lib.hid hT
  clear hgV hT
  replace G := Lib.hid (gtr G.out hg)
  replace B := Lib.hid (B.out.keptN hg)
  replace OW := Lib.hid (OW.out.kept hg (fun g e => by cases e))
  replace K2 := Lib.hid (K2.out.keptN hg)
  replace OX := Lib.hid (OX.out.kept hg (fun g e => by cases e))
  replace Kx := Lib.hid (Kx.out.keptN hg)
  replace OQ := Lib.hid (OQ.out.kept hg (fun g e => by cases e))
  clear hg
  generalize (v5).heap.size = k4 at *
  have Kg_0 : World.cell? u5 ⟨k4, 0, none⟩ = some (.int .i64 D.many) := Kg.out.cell 0
  have Kg_1 : World.cell? u5 ⟨k4, 1, none⟩ = some (.int .i64 D.need) := Kg.out.cell 1
  have Kg_2 : World.cell? u5 ⟨k4, 2, none⟩ = some (.bool D.on) := Kg.out.cell 2
  have Kg_3 : World.cell? u5 ⟨k4, 3, none⟩ = some (.int .i64 D.at_) := Kg.out.cell 3
  have Kg_4 : World.cell? u5 ⟨k4, 4, none⟩ = some (.slice a4 D.n c4) := Kg.out.cell 4
  have Kg_5 : World.cell? u5 ⟨k4, 5, none⟩ = some (.bool D.veto) := Kg.out.cell 5
  have K2_0 : World.cell? u5 ⟨k2, 0, none⟩ = some (.int .i64 D.many) := K2.out.cell 0
  have K2_1 : World.cell? u5 ⟨k2, 1, none⟩ = some (.int .i64 D.need) := K2.out.cell 1
  have K2_2 : World.cell? u5 ⟨k2, 2, none⟩ = some (.bool D.on) := K2.out.cell 2
  have K2_3 : World.cell? u5 ⟨k2, 3, none⟩ = some (.int .i64 D.at_) := K2.out.cell 3
  have K2_4 : World.cell? u5 ⟨k2, 4, none⟩ = some (.slice a2 D.n c2) := K2.out.cell 4
  have K2_5 : World.cell? u5 ⟨k2, 5, none⟩ = some (.bool D.veto) := K2.out.cell 5
  go_wp2_with fail
  refine (eqcrt _ D.many D.need D.on D.at_ a4 a2 D.n c4 c2 D.f D.veto OQ.out.ints OW.out.ints (by omega)).mono ?_
  rintro e v6 ⟨rfl, hg⟩
  clear Kg_0 Kg_1 Kg_2 Kg_3 Kg_4 Kg_5 K2_0 K2_1 K2_2 K2_3 K2_4 K2_5
  replace G := Lib.hid (gtr G.out hg)
  replace B := Lib.hid (B.out.keptN hg)
  replace OW := Lib.hid (OW.out.kept hg (fun g e => by cases e))
  replace K2 := Lib.hid (K2.out.keptN hg)
  replace OX := Lib.hid (OX.out.kept hg (fun g e => by cases e))
  replace Kx := Lib.hid (Kx.out.keptN hg)
  replace OQ := Lib.hid (OQ.out.kept hg (fun g e => by cases e))
  replace Kg := Lib.hid (Kg.out.keptN hg)
  clear hg
  go_wp2_with fail
  refine wp_region_held_drew (S := (fun w' => w'.cell? ⟨k3, 0, none⟩ = some (.int .i64 many) ∧ w'.cell? ⟨k3, 1, none⟩ = some (.int .i64 need) ∧ w'.cell? ⟨k3, 2, none⟩ = some (.bool on) ∧ w'.cell? ⟨k3, 3, none⟩ = some (.int .i64 at_) ∧ w'.cell? ⟨k3, 4, none⟩ = some (.slice (some ⟨b3, 0, none⟩) n n) ∧ w'.cell? ⟨k3, 5, none⟩ = some (.bool veto) ∧ w'.cell? ⟨w.heap.size, 0, none⟩ = some (.int .i64 many) ∧ w'.cell? ⟨w.heap.size, 1, none⟩ = some (.int .i64 need) ∧ w'.cell? ⟨w.heap.size, 2, none⟩ = some (.bool on) ∧ w'.cell? ⟨w.heap.size, 3, none⟩ = some (.int .i64 at_) ∧ w'.cell? ⟨w.heap.size, 4, none⟩ = some (.slice a n c) ∧ w'.cell? ⟨w.heap.size, 5, none⟩ = some (.bool veto))) (by kernel_rfl) (⟨Kx.out.cell 0, Kx.out.cell 1, Kx.out.cell 2, Kx.out.cell 3, Kx.out.cell 4, Kx.out.cell 5, B.out.cell 0, B.out.cell 1, B.out.cell 2, B.out.cell 3, B.out.cell 4, B.out.cell 5⟩) (fun hHeld => ?_)
  have hg := gdrew v6
  replace G := Lib.hid (gtr G.out hg)
  replace B := Lib.hid (B.out.keptN hg)
  replace OW := Lib.hid (OW.out.kept hg (fun g e => by cases e))
  replace K2 := Lib.hid (K2.out.keptN hg)
  replace OX := Lib.hid (OX.out.kept hg (fun g e => by cases e))
  replace Kx := Lib.hid (Kx.out.keptN hg)
  replace OQ := Lib.hid (OQ.out.kept hg (fun g e => by cases e))
  replace Kg := Lib.hid (Kg.out.keptN hg)
  clear hg
  generalize (v6).drew = W0 at *
  refine wpAnyH_take (i := 0) (oi := ⟨some 45, _, _, _, _, _⟩) (v := ?_) rfl (by kernel_rfl) (by kernel_rfl) (by kernel_rfl) (fun _ _ _ h => h) (Or.inl ⟨by rfl, ?_⟩) (by assumption) ?_
  rotate_left
  · intro w hSw; (try dsimp only at hSw); go_simp; try with_reducible rfl
  simp only [Act.put, List.setIfInBounds_toArray, List.set_cons_zero, List.set_cons_succ]
  refine wpAnyH_take (i := 1) (oi := ⟨some 46, _, _, _, _, _⟩) (v := ?_) rfl (by kernel_rfl) (by kernel_rfl) (by kernel_rfl) (fun _ _ _ h => h) (Or.inl ⟨by rfl, ?_⟩) (by assumption) ?_
  rotate_left
  · intro w hSw; (try dsimp only at hSw); go_simp; try with_reducible rfl
  simp only [Act.put, List.setIfInBounds_toArray, List.set_cons_zero, List.set_cons_succ]
  refine wpAnyH_ready (rs := [2]) (by kernel_rfl) (by simp) ?_
  refine AllReadyH.cons (o := ⟨some 47, _, _, _, _, _⟩) rfl (fun Kq hKq => ?_) AllReadyH.nil
  go_simp
  go_at_call 36
  refine (tocrt _ many need on at_ a n c f veto (HI.out.kept G.out) (by omega)).mono ?_
  rintro e v7 ⟨b6, rfl, hO, hg⟩
  have O6 := Lib.hid hO; clear hO
  replace G := Lib.hid (gtr G.out hg)
  replace B := Lib.hid (B.out.keptN hg)
  replace OW := Lib.hid (OW.out.kept hg (fun g e => by cases e))
  replace K2 := Lib.hid (K2.out.keptN hg)
  replace OX := Lib.hid (OX.out.kept hg (fun g e => by cases e))
  replace Kx := Lib.hid (Kx.out.keptN hg)
  replace OQ := Lib.hid (OQ.out.kept hg (fun g e => by cases e))
  replace Kg := Lib.hid (Kg.out.keptN hg)
  clear hg
  refine hKq.out _ _ (⟨Kx.out.cell 0, Kx.out.cell 1, Kx.out.cell 2, Kx.out.cell 3, Kx.out.cell 4, Kx.out.cell 5, B.out.cell 0, B.out.cell 1, B.out.cell 2, B.out.cell 3, B.out.cell 4, B.out.cell 5⟩) (fun hHeld => ?_)
  clear hKq Kq
  refine wpAnyH_ready (rs := [3]) (by kernel_rfl) (by simp) ?_
  refine AllReadyH.cons (o := ⟨some 48, _, _, _, _, _⟩) rfl (fun Kq hKq => ?_) AllReadyH.nil
  go_simp
  go_at_call 37
  refine (eqcrt _ many need on at_ (some ⟨b3, 0, none⟩) (some ⟨b6, 0, none⟩) n n n f veto OX.out.ints O6.out.ints (by omega)).mono ?_
  rintro e v8 ⟨rfl, hg⟩
  clear O6
  replace G := Lib.hid (gtr G.out hg)
  replace B := Lib.hid (B.out.keptN hg)
  replace OW := Lib.hid (OW.out.kept hg (fun g e => by cases e))
  replace K2 := Lib.hid (K2.out.keptN hg)
  replace OX := Lib.hid (OX.out.kept hg (fun g e => by cases e))
  replace Kx := Lib.hid (Kx.out.keptN hg)
  replace OQ := Lib.hid (OQ.out.kept hg (fun g e => by cases e))
  replace Kg := Lib.hid (Kg.out.keptN hg)
  clear hg
  refine hKq.out _ _ (⟨Kx.out.cell 0, Kx.out.cell 1, Kx.out.cell 2, Kx.out.cell 3, Kx.out.cell 4, Kx.out.cell 5, B.out.cell 0, B.out.cell 1, B.out.cell 2, B.out.cell 3, B.out.cell 4, B.out.cell 5⟩) (fun hHeld => ?_)
  clear hKq Kq
  refine wpAnyH_take (i := 4) (oi := ⟨some 49, _, _, _, _, _⟩) (v := ?_) rfl (by kernel_rfl) (by kernel_rfl) (by kernel_rfl) (fun _ _ _ h => h) (Or.inl ⟨by rfl, ?_⟩) (by assumption) ?_
  rotate_left
  · intro w hSw; (try dsimp only at hSw); go_simp; try with_reducible rfl
  simp only [Act.put, List.setIfInBounds_toArray, List.set_cons_zero, List.set_cons_succ]
  refine wpAnyH_done (by kernel_rfl) ?_ _
  have Kx_0 : World.cell? v8 ⟨k3, 0, none⟩ = some (.int .i64 many) := Kx.out.cell 0
  have Kx_1 : World.cell? v8 ⟨k3, 1, none⟩ = some (.int .i64 need) := Kx.out.cell 1
  have Kx_2 : World.cell? v8 ⟨k3, 2, none⟩ = some (.bool on) := Kx.out.cell 2
  have Kx_3 : World.cell? v8 ⟨k3, 3, none⟩ = some (.int .i64 at_) := Kx.out.cell 3
  have Kx_4 : World.cell? v8 ⟨k3, 4, none⟩ = some (.slice (some ⟨b3, 0, none⟩) n n) := Kx.out.cell 4
  have Kx_5 : World.cell? v8 ⟨k3, 5, none⟩ = some (.bool veto) := Kx.out.cell 5
  go_wp2_with fail
  refine (markct _ w.heap.size many need on at_ (some ⟨b3, 0, none⟩) n n f veto 1 OX.out (by omega) (by omega)).mono ?_
  rintro e v9 ⟨rfl, hO, hg⟩
  clear Kx_0 Kx_1 Kx_2 Kx_3 Kx_4 Kx_5
  replace B := Lib.hid (blk_keptO B.out OX.out hg (by decide))
  replace K2 := Lib.hid (blk_keptO K2.out OX.out hg (by decide))
  replace Kx := Lib.hid (blk_keptO Kx.out OX.out hg (by decide))
  replace Kg := Lib.hid (blk_keptO Kg.out OX.out hg (by decide))
  replace OW := Lib.hid (OW.out.keptA OX.out hg AP1.out)
  replace OQ := Lib.hid (OQ.out.keptA OX.out hg AP3.out.symm)
  replace G := Lib.hid (grown_ownQ G.out OX.out hg)
  replace OX := Lib.hid hO
  clear hO hg
  have hk1 : ¬ ((1 + n : Nat) : Int) < 0 := by omega
  have Kg_0 : World.cell? v9 ⟨k4, 0, none⟩ = some (.int .i64 D.many) := Kg.out.cell 0
  have Kg_1 : World.cell? v9 ⟨k4, 1, none⟩ = some (.int .i64 D.need) := Kg.out.cell 1
  have Kg_2 : World.cell? v9 ⟨k4, 2, none⟩ = some (.bool D.on) := Kg.out.cell 2
  have Kg_3 : World.cell? v9 ⟨k4, 3, none⟩ = some (.int .i64 D.at_) := Kg.out.cell 3
  have Kg_4 : World.cell? v9 ⟨k4, 4, none⟩ = some (.slice a4 D.n c4) := Kg.out.cell 4
  have Kg_5 : World.cell? v9 ⟨k4, 5, none⟩ = some (.bool D.veto) := Kg.out.cell 5
  have K2_0 : World.cell? v9 ⟨k2, 0, none⟩ = some (.int .i64 D.many) := K2.out.cell 0
  have K2_1 : World.cell? v9 ⟨k2, 1, none⟩ = some (.int .i64 D.need) := K2.out.cell 1
  have K2_2 : World.cell? v9 ⟨k2, 2, none⟩ = some (.bool D.on) := K2.out.cell 2
  have K2_3 : World.cell? v9 ⟨k2, 3, none⟩ = some (.int .i64 D.at_) := K2.out.cell 3
  have K2_4 : World.cell? v9 ⟨k2, 4, none⟩ = some (.slice a2 D.n c2) := K2.out.cell 4
  have K2_5 : World.cell? v9 ⟨k2, 5, none⟩ = some (.bool D.veto) := K2.out.cell 5
  go_wp2_with fail
  refine (eqcrt _ D.many D.need D.on D.at_ a4 a2 D.n c4 c2 D.f D.veto OQ.out.ints OW.out.ints (by omega)).mono ?_
  rintro e v10 ⟨rfl, hg⟩
  clear Kg_0 Kg_1 Kg_2 Kg_3 Kg_4 Kg_5 K2_0 K2_1 K2_2 K2_3 K2_4 K2_5
  replace G := Lib.hid (gtr G.out hg)
  replace B := Lib.hid (B.out.keptN hg)
  replace OW := Lib.hid (OW.out.kept hg (fun g e => by cases e))
  replace K2 := Lib.hid (K2.out.keptN hg)
  replace OX := Lib.hid (OX.out.kept hg (fun g e => by cases e))
  replace Kx := Lib.hid (Kx.out.keptN hg)
  replace OQ := Lib.hid (OQ.out.kept hg (fun g e => by cases e))
  replace Kg := Lib.hid (Kg.out.keptN hg)
  clear hg
  clear OX
  have Kg_0 : World.cell? v10 ⟨k4, 0, none⟩ = some (.int .i64 D.many) := Kg.out.cell 0
  have Kg_1 : World.cell? v10 ⟨k4, 1, none⟩ = some (.int .i64 D.need) := Kg.out.cell 1
  have Kg_2 : World.cell? v10 ⟨k4, 2, none⟩ = some (.bool D.on) := Kg.out.cell 2
  have Kg_3 : World.cell? v10 ⟨k4, 3, none⟩ = some (.int .i64 D.at_) := Kg.out.cell 3
  have Kg_4 : World.cell? v10 ⟨k4, 4, none⟩ = some (.slice a4 D.n c4) := Kg.out.cell 4
  have Kg_5 : World.cell? v10 ⟨k4, 5, none⟩ = some (.bool D.veto) := Kg.out.cell 5
  go_wp2_with fail
  refine (markct _ w.heap.size D.many D.need D.on D.at_ a4 D.n c4 D.f D.veto 1 OQ.out (by omega) (by omega)).mono ?_
  rintro e v11 ⟨rfl, hO, hg⟩
  clear Kg_0 Kg_1 Kg_2 Kg_3 Kg_4 Kg_5
  replace B := Lib.hid (blk_keptO B.out OQ.out hg (by decide))
  replace K2 := Lib.hid (blk_keptO K2.out OQ.out hg (by decide))
  replace Kx := Lib.hid (blk_keptO Kx.out OQ.out hg (by decide))
  replace Kg := Lib.hid (blk_keptO Kg.out OQ.out hg (by decide))
  replace OW := Lib.hid (OW.out.keptA OQ.out hg AP2.out)
  replace G := Lib.hid (grown_ownQ G.out OQ.out hg)
  replace OQ := Lib.hid hO
  clear hO hg
  have hk2 : ¬ ((1 + D.n : Nat) : Int) < 0 := by omega
  have hk3 : (((1 + D.n : Nat) : Int) != ((1 + D.n : Nat) : Int)) = false := by simp
  have Kg_0 : World.cell? v11 ⟨k4, 0, none⟩ = some (.int .i64 D.many) := Kg.out.cell 0
  have Kg_1 : World.cell? v11 ⟨k4, 1, none⟩ = some (.int .i64 D.need) := Kg.out.cell 1
  have Kg_2 : World.cell? v11 ⟨k4, 2, none⟩ = some (.bool D.on) := Kg.out.cell 2
  have Kg_3 : World.cell? v11 ⟨k4, 3, none⟩ = some (.int .i64 D.at_) := Kg.out.cell 3
  have Kg_4 : World.cell? v11 ⟨k4, 4, none⟩ = some (.slice a4 D.n c4) := Kg.out.cell 4
  have Kg_5 : World.cell? v11 ⟨k4, 5, none⟩ = some (.bool D.veto) := Kg.out.cell 5
  go_wp2_with fail
  refine (heldct _ D.many D.need D.on D.at_ a4 D.n c4 D.veto 1 OQ.out.ints (by omega) (by omega)).mono ?_
  rintro e v12 ⟨rfl, hg⟩
  clear Kg_0 Kg_1 Kg_2 Kg_3 Kg_4 Kg_5
  replace G := Lib.hid (gtr G.out hg)
  replace B := Lib.hid (B.out.keptN hg)
  replace OW := Lib.hid (OW.out.kept hg (fun g e => by cases e))
  replace K2 := Lib.hid (K2.out.keptN hg)
  replace Kx := Lib.hid (Kx.out.keptN hg)
  replace OQ := Lib.hid (OQ.out.kept hg (fun g e => by cases e))
  replace Kg := Lib.hid (Kg.out.keptN hg)
  clear hg
  have B_0 : World.cell? v12 ⟨w.heap.size, 0, none⟩ = some (.int .i64 many) := B.out.cell 0
  have B_1 : World.cell? v12 ⟨w.heap.size, 1, none⟩ = some (.int .i64 need) := B.out.cell 1
  have B_2 : World.cell? v12 ⟨w.heap.size, 2, none⟩ = some (.bool on) := B.out.cell 2
  have B_3 : World.cell? v12 ⟨w.heap.size, 3, none⟩ = some (.int .i64 at_) := B.out.cell 3
  have B_4 : World.cell? v12 ⟨w.heap.size, 4, none⟩ = some (.slice a n c) := B.out.cell 4
  have B_5 : World.cell? v12 ⟨w.heap.size, 5, none⟩ = some (.bool veto) := B.out.cell 5
  go_wp2_with fail
  refine (tocrt _ many need on at_ a n c f veto (HI.out.kept G.out) (by omega)).mono ?_
  rintro e v13 ⟨b7, rfl, hO, hg⟩
  have O7 := Lib.hid hO; clear hO
  clear B_0 B_1 B_2 B_3 B_4 B_5
  replace G := Lib.hid (gtr G.out hg)
  replace B := Lib.hid (B.out.keptN hg)
  replace OW := Lib.hid (OW.out.kept hg (fun g e => by cases e))
  replace K2 := Lib.hid (K2.out.keptN hg)
  replace Kx := Lib.hid (Kx.out.keptN hg)
  replace OQ := Lib.hid (OQ.out.kept hg (fun g e => by cases e))
  replace Kg := Lib.hid (Kg.out.keptN hg)
  clear hg
  go_wp2_with fail
  refine (iopen _ many need on at_ _ n n f veto now O7.out.ints (by omega) (Nat.le_refl _) hnm).mono ?_
  rintro e v14 ⟨a5, c5, rfl, hO, hg⟩
  rw [HD.out] at hO ⊢
  rw [HK.out]
  have OH := Lib.hid (hO.lower (lo' := w.heap.size) G.out.size)
  clear hO
  replace G := Lib.hid (gtr G.out hg)
  replace B := Lib.hid (B.out.keptN hg)
  replace OW := Lib.hid (OW.out.kept hg (fun g e => by cases e))
  replace K2 := Lib.hid (K2.out.keptN hg)
  replace Kx := Lib.hid (Kx.out.keptN hg)
  replace OQ := Lib.hid (OQ.out.kept hg (fun g e => by cases e))
  replace Kg := Lib.hid (Kg.out.keptN hg)
  replace O7 := Lib.hid (O7.out.kept hg (fun g e => by cases e))
  clear hg
  clear O7
  go_wp2_with (refine stop_store rfl ?_)
  refine ⟨trivial, ?_⟩
  refine wpList_store_atQ rfl 27 (.tmp 14) (.tmp 82) _ 0 _ _ _ #[.int .i64 D.many, .int .i64 D.need, .bool D.on, .int .i64 D.at_, .slice a5 D.n c5, .bool D.veto] 27 (Blk.new v14 #[.int .i64 0, .int .i64 0, .bool false, .int .i64 0, .slice none 0 0, .bool false] 27) rfl rfl rfl rfl (Nat.le_of_ble_eq_true rfl) (by kernel_rfl) (by kernel_rfl) (by kernel_rfl) ?_
  intro u6 hgV hT
  have hg : (v14).grownBy u6 none := grown_new (grown_alloc (v14) (.cells #[.int .i64 0, .int .i64 0, .bool false, .int .i64 0, .slice none 0 0, .bool false] 27) none) (Nat.le_refl _) hgV
  have Kh := Lib.hid hT
  clear hgV hT
  replace G := Lib.hid (gtr G.out hg)
  replace B := Lib.hid (B.out.keptN hg)
  replace OW := Lib.hid (OW.out.kept hg (fun g e => by cases e))
  replace K2 := Lib.hid (K2.out.keptN hg)
  replace Kx := Lib.hid (Kx.out.keptN hg)
  replace OQ := Lib.hid (OQ.out.kept hg (fun g e => by cases e))
  replace Kg := Lib.hid (Kg.out.keptN hg)
  replace OH := Lib.hid (OH.out.kept hg (fun g e => by cases e))
  clear hg
  generalize (v14).heap.size = k5 at *
  have Kh_0 : World.cell? u6 ⟨k5, 0, none⟩ = some (.int .i64 D.many) := Kh.out.cell 0
  have Kh_1 : World.cell? u6 ⟨k5, 1, none⟩ = some (.int .i64 D.need) := Kh.out.cell 1
  have Kh_2 : World.cell? u6 ⟨k5, 2, none⟩ = some (.bool D.on) := Kh.out.cell 2
  have Kh_3 : World.cell? u6 ⟨k5, 3, none⟩ = some (.int .i64 D.at_) := Kh.out.cell 3
  have Kh_4 : World.cell? u6 ⟨k5, 4, none⟩ = some (.slice a5 D.n c5) := Kh.out.cell 4
  have Kh_5 : World.cell? u6 ⟨k5, 5, none⟩ = some (.bool D.veto) := Kh.out.cell 5
  have K2_0 : World.cell? u6 ⟨k2, 0, none⟩ = some (.int .i64 D.many) := K2.out.cell 0
  have K2_1 : World.cell? u6 ⟨k2, 1, none⟩ = some (.int .i64 D.need) := K2.out.cell 1
  have K2_2 : World.cell? u6 ⟨k2, 2, none⟩ = some (.bool D.on) := K2.out.cell 2
  have K2_3 : World.cell? u6 ⟨k2, 3, none⟩ = some (.int .i64 D.at_) := K2.out.cell 3
  have K2_4 : World.cell? u6 ⟨k2, 4, none⟩ = some (.slice a2 D.n c2) := K2.out.cell 4
  have K2_5 : World.cell? u6 ⟨k2, 5, none⟩ = some (.bool D.veto) := K2.out.cell 5
  go_wp2_with fail
  refine (eqcrt _ D.many D.need D.on D.at_ a5 a2 D.n c5 c2 D.f D.veto OH.out.ints OW.out.ints (by omega)).mono ?_
  rintro e v15 ⟨rfl, hg⟩
  clear Kh_0 Kh_1 Kh_2 Kh_3 Kh_4 Kh_5 K2_0 K2_1 K2_2 K2_3 K2_4 K2_5
  replace G := Lib.hid (gtr G.out hg)
  replace B := Lib.hid (B.out.keptN hg)
  replace OW := Lib.hid (OW.out.kept hg (fun g e => by cases e))
  replace K2 := Lib.hid (K2.out.keptN hg)
  replace Kx := Lib.hid (Kx.out.keptN hg)
  replace OQ := Lib.hid (OQ.out.kept hg (fun g e => by cases e))
  replace Kg := Lib.hid (Kg.out.keptN hg)
  replace OH := Lib.hid (OH.out.kept hg (fun g e => by cases e))
  replace Kh := Lib.hid (Kh.out.keptN hg)
  clear hg
  have Kg_0 : World.cell? v15 ⟨k4, 0, none⟩ = some (.int .i64 D.many) := Kg.out.cell 0
  have Kg_1 : World.cell? v15 ⟨k4, 1, none⟩ = some (.int .i64 D.need) := Kg.out.cell 1
  have Kg_2 : World.cell? v15 ⟨k4, 2, none⟩ = some (.bool D.on) := Kg.out.cell 2
  have Kg_3 : World.cell? v15 ⟨k4, 3, none⟩ = some (.int .i64 D.at_) := Kg.out.cell 3
  have Kg_4 : World.cell? v15 ⟨k4, 4, none⟩ = some (.slice a4 D.n c4) := Kg.out.cell 4
  have Kg_5 : World.cell? v15 ⟨k4, 5, none⟩ = some (.bool D.veto) := Kg.out.cell 5
  go_wp2_with fail
  refine (heldct _ D.many D.need D.on D.at_ a4 D.n c4 D.veto 1 OQ.out.ints (by omega) (by omega)).mono ?_
  rintro e v16 ⟨rfl, hg⟩
  clear Kg_0 Kg_1 Kg_2 Kg_3 Kg_4 Kg_5
  replace G := Lib.hid (gtr G.out hg)
  replace B := Lib.hid (B.out.keptN hg)
  replace OW := Lib.hid (OW.out.kept hg (fun g e => by cases e))
  replace K2 := Lib.hid (K2.out.keptN hg)
  replace Kx := Lib.hid (Kx.out.keptN hg)
  replace OQ := Lib.hid (OQ.out.kept hg (fun g e => by cases e))
  replace Kg := Lib.hid (Kg.out.keptN hg)
  replace OH := Lib.hid (OH.out.kept hg (fun g e => by cases e))
  replace Kh := Lib.hid (Kh.out.keptN hg)
  clear hg
  go_wp2
  go_ret
  exact ⟨rfl, below_of G.out⟩
set_option maxRecDepth 100000 in
set_option maxHeartbeats 8000000 in
theorem FnExactCourtVote (many need : Int) (on : Bool) (at_ : Int) (a : Option Addr) (n c : Nat) (f : Nat → Int) (veto : Bool) (who : Int) (w : World) (hI : Ints w a n f) (hc : n ≤ c) (hm : c ≤ maxLen) :
    Calls Try.prog 14 #[.agg #[.int .i64 many, .int .i64 need, .bool on, .int .i64 at_, .slice a n c, .bool veto], .int .i64 who] w (Yes w) := by
  have G := Lib.hid (grown_alloc w (.cells #[.int .i64 many, .int .i64 need, .bool on, .int .i64 at_, .slice a n c, .bool veto] 43) none)
  have B := Lib.hid (Blk.new w #[.int .i64 many, .int .i64 need, .bool on, .int .i64 at_, .slice a n c, .bool veto] 43)
  have HI := Lib.hid hI; clear hI
  go_enter Try.func14, Try.ntmps14
  have B_0 : World.cell? (w.alloc (.cells #[.int .i64 many, .int .i64 need, .bool on, .int .i64 at_, .slice a n c, .bool veto] 43)) ⟨w.heap.size, 0, none⟩ = some (.int .i64 many) := B.out.cell 0
  have B_1 : World.cell? (w.alloc (.cells #[.int .i64 many, .int .i64 need, .bool on, .int .i64 at_, .slice a n c, .bool veto] 43)) ⟨w.heap.size, 1, none⟩ = some (.int .i64 need) := B.out.cell 1
  have B_2 : World.cell? (w.alloc (.cells #[.int .i64 many, .int .i64 need, .bool on, .int .i64 at_, .slice a n c, .bool veto] 43)) ⟨w.heap.size, 2, none⟩ = some (.bool on) := B.out.cell 2
  have B_3 : World.cell? (w.alloc (.cells #[.int .i64 many, .int .i64 need, .bool on, .int .i64 at_, .slice a n c, .bool veto] 43)) ⟨w.heap.size, 3, none⟩ = some (.int .i64 at_) := B.out.cell 3
  have B_4 : World.cell? (w.alloc (.cells #[.int .i64 many, .int .i64 need, .bool on, .int .i64 at_, .slice a n c, .bool veto] 43)) ⟨w.heap.size, 4, none⟩ = some (.slice a n c) := B.out.cell 4
  have B_5 : World.cell? (w.alloc (.cells #[.int .i64 many, .int .i64 need, .bool on, .int .i64 at_, .slice a n c, .bool veto] 43)) ⟨w.heap.size, 5, none⟩ = some (.bool veto) := B.out.cell 5
  go_wp2_with fail
  refine (szcrt _ many need on at_ a n c veto 1048576 (by omega) (by omega) (by omega)).mono ?_
  rintro e v1 ⟨⟨r, rfl, hr⟩, hg⟩
  clear B_0 B_1 B_2 B_3 B_4 B_5
  replace G := Lib.hid (gtr G.out hg)
  replace B := Lib.hid (B.out.keptN hg)
  clear hg
  rcases hr with rfl | ⟨r0, r1, hn⟩
  · go_wp2
    go_ret
    exact ⟨rfl, below_of G.out⟩
  have hnr : ¬ r < 0 := by omega
  have hnm : n ≤ maxLen := by unfold maxLen; omega
  clear r1
  obtain ⟨D, hD⟩ : ∃ D, vtV ⟨many, need, on, at_, n, f, veto⟩ who = D := ⟨_, rfl⟩
  obtain ⟨g, hg0⟩ : ∃ g, vtO ⟨many, need, on, at_, n, f, veto⟩ who = g := ⟨_, rfl⟩
  have HD := Lib.hid hD; have HK := Lib.hid hg0
  have hDn : D.n ≤ 1200000 := by rw [← hD]; exact Nat.le_trans (vtV_n _ _) (by show n + 1 ≤ 1200000; omega)
  clear hD hg0
  have hne : (g != g) = false := by simp
  have B_0 : World.cell? v1 ⟨w.heap.size, 0, none⟩ = some (.int .i64 many) := B.out.cell 0
  have B_1 : World.cell? v1 ⟨w.heap.size, 1, none⟩ = some (.int .i64 need) := B.out.cell 1
  have B_2 : World.cell? v1 ⟨w.heap.size, 2, none⟩ = some (.bool on) := B.out.cell 2
  have B_3 : World.cell? v1 ⟨w.heap.size, 3, none⟩ = some (.int .i64 at_) := B.out.cell 3
  have B_4 : World.cell? v1 ⟨w.heap.size, 4, none⟩ = some (.slice a n c) := B.out.cell 4
  have B_5 : World.cell? v1 ⟨w.heap.size, 5, none⟩ = some (.bool veto) := B.out.cell 5
  go_wp2_with fail
  refine (tocrt _ many need on at_ a n c f veto (HI.out.kept G.out) (by omega)).mono ?_
  rintro e v2 ⟨b1, rfl, hO, hg⟩
  have O1 := Lib.hid hO; clear hO
  clear B_0 B_1 B_2 B_3 B_4 B_5
  replace G := Lib.hid (gtr G.out hg)
  replace B := Lib.hid (B.out.keptN hg)
  clear hg
  go_wp2_with fail
  refine (svote _ many need on at_ _ n n f veto who O1.out.ints (by omega) (Nat.le_refl _) hnm).mono ?_
  rintro e v3 ⟨a2, c2, rfl, hO, hg⟩
  rw [HD.out] at hO ⊢
  rw [HK.out]
  have OW := Lib.hid (hO.lower (lo' := w.heap.size) G.out.size)
  clear hO
  replace G := Lib.hid (gtr G.out hg)
  replace B := Lib.hid (B.out.keptN hg)
  replace O1 := Lib.hid (O1.out.kept hg (fun g e => by cases e))
  clear hg
  clear O1
  go_wp2_with (refine stop_store rfl ?_)
  refine ⟨trivial, ?_⟩
  refine wpList_store_atQ rfl 27 (.tmp 6) (.tmp 26) _ 0 _ _ _ #[.int .i64 D.many, .int .i64 D.need, .bool D.on, .int .i64 D.at_, .slice a2 D.n c2, .bool D.veto] 27 (Blk.new v3 #[.int .i64 0, .int .i64 0, .bool false, .int .i64 0, .slice none 0 0, .bool false] 27) rfl rfl rfl rfl (Nat.le_of_ble_eq_true rfl) (by kernel_rfl) (by kernel_rfl) (by kernel_rfl) ?_
  intro u3 hgV hT
  have hg : (v3).grownBy u3 none := grown_new (grown_alloc (v3) (.cells #[.int .i64 0, .int .i64 0, .bool false, .int .i64 0, .slice none 0 0, .bool false] 27) none) (Nat.le_refl _) hgV
  have K2 := Lib.hid hT
  clear hgV hT
  replace G := Lib.hid (gtr G.out hg)
  replace B := Lib.hid (B.out.keptN hg)
  replace OW := Lib.hid (OW.out.kept hg (fun g e => by cases e))
  clear hg
  generalize (v3).heap.size = k2 at *
  have B_0 : World.cell? u3 ⟨w.heap.size, 0, none⟩ = some (.int .i64 many) := B.out.cell 0
  have B_1 : World.cell? u3 ⟨w.heap.size, 1, none⟩ = some (.int .i64 need) := B.out.cell 1
  have B_2 : World.cell? u3 ⟨w.heap.size, 2, none⟩ = some (.bool on) := B.out.cell 2
  have B_3 : World.cell? u3 ⟨w.heap.size, 3, none⟩ = some (.int .i64 at_) := B.out.cell 3
  have B_4 : World.cell? u3 ⟨w.heap.size, 4, none⟩ = some (.slice a n c) := B.out.cell 4
  have B_5 : World.cell? u3 ⟨w.heap.size, 5, none⟩ = some (.bool veto) := B.out.cell 5
  go_wp2_with fail
  refine (tocrt _ many need on at_ a n c f veto (HI.out.kept G.out) (by omega)).mono ?_
  rintro e v4 ⟨b3, rfl, hO, hg⟩
  have AP1 := Lib.hid (aptQ OW.out hO (Nat.le_refl _))
  have OX := Lib.hid (hO.lower (lo' := w.heap.size) G.out.size)
  clear hO
  clear B_0 B_1 B_2 B_3 B_4 B_5
  replace G := Lib.hid (gtr G.out hg)
  replace B := Lib.hid (B.out.keptN hg)
  replace OW := Lib.hid (OW.out.kept hg (fun g e => by cases e))
  replace K2 := Lib.hid (K2.out.keptN hg)
  clear hg
  go_wp2_with (refine stop_store rfl ?_)
  refine ⟨trivial, ?_⟩
  refine wpList_store_atQ rfl 27 (.tmp 8) (.tmp 29) _ 0 _ _ _ #[.int .i64 many, .int .i64 need, .bool on, .int .i64 at_, .slice (some ⟨b3, 0, none⟩) n n, .bool veto] 27 (Blk.new v4 #[.int .i64 0, .int .i64 0, .bool false, .int .i64 0, .slice none 0 0, .bool false] 27) rfl rfl rfl rfl (Nat.le_of_ble_eq_true rfl) (by kernel_rfl) (by kernel_rfl) (by kernel_rfl) ?_
  intro u4 hgV hT
  have hg : (v4).grownBy u4 none := grown_new (grown_alloc (v4) (.cells #[.int .i64 0, .int .i64 0, .bool false, .int .i64 0, .slice none 0 0, .bool false] 27) none) (Nat.le_refl _) hgV
  have Kx := Lib.hid hT
  clear hgV hT
  replace G := Lib.hid (gtr G.out hg)
  replace B := Lib.hid (B.out.keptN hg)
  replace OW := Lib.hid (OW.out.kept hg (fun g e => by cases e))
  replace K2 := Lib.hid (K2.out.keptN hg)
  replace OX := Lib.hid (OX.out.kept hg (fun g e => by cases e))
  clear hg
  generalize (v4).heap.size = k3 at *
  have Kx_0 : World.cell? u4 ⟨k3, 0, none⟩ = some (.int .i64 many) := Kx.out.cell 0
  have Kx_1 : World.cell? u4 ⟨k3, 1, none⟩ = some (.int .i64 need) := Kx.out.cell 1
  have Kx_2 : World.cell? u4 ⟨k3, 2, none⟩ = some (.bool on) := Kx.out.cell 2
  have Kx_3 : World.cell? u4 ⟨k3, 3, none⟩ = some (.int .i64 at_) := Kx.out.cell 3
  have Kx_4 : World.cell? u4 ⟨k3, 4, none⟩ = some (.slice (some ⟨b3, 0, none⟩) n n) := Kx.out.cell 4
  have Kx_5 : World.cell? u4 ⟨k3, 5, none⟩ = some (.bool veto) := Kx.out.cell 5
  go_wp2_with fail
  refine (ivote _ many need on at_ (some ⟨b3, 0, none⟩) n n f veto who OX.out.ints (by omega) (Nat.le_refl _) hnm).mono ?_
  rintro e v5 ⟨a4, c4, rfl, hO, hg⟩
  rw [HD.out] at hO ⊢
  rw [HK.out]
  have AP2 := Lib.hid (aptQ OW.out hO (Nat.le_refl _)); have AP3 := Lib.hid (aptQ OX.out hO (Nat.le_refl _))
  have OQ := Lib.hid (hO.lower (lo' := w.heap.size) G.out.size)
  clear hO
  clear Kx_0 Kx_1 Kx_2 Kx_3 Kx_4 Kx_5
  replace G := Lib.hid (gtr G.out hg)
  replace B := Lib.hid (B.out.keptN hg)
  replace OW := Lib.hid (OW.out.kept hg (fun g e => by cases e))
  replace K2 := Lib.hid (K2.out.keptN hg)
  replace OX := Lib.hid (OX.out.kept hg (fun g e => by cases e))
  replace Kx := Lib.hid (Kx.out.keptN hg)
  clear hg
  go_wp2_with (refine stop_store rfl ?_)
  refine ⟨trivial, ?_⟩
  refine wpList_store_atQ rfl 27 (.tmp 9) (.tmp 34) _ 0 _ _ _ #[.int .i64 D.many, .int .i64 D.need, .bool D.on, .int .i64 D.at_, .slice a4 D.n c4, .bool D.veto] 27 (Blk.new v5 #[.int .i64 0, .int .i64 0, .bool false, .int .i64 0, .slice none 0 0, .bool false] 27) rfl rfl rfl rfl (Nat.le_of_ble_eq_true rfl) (by kernel_rfl) (by kernel_rfl) (by kernel_rfl) ?_
  intro u5 hgV hT
  have hg : (v5).grownBy u5 none := grown_new (grown_alloc (v5) (.cells #[.int .i64 0, .int .i64 0, .bool false, .int .i64 0, .slice none 0 0, .bool false] 27) none) (Nat.le_refl _) hgV
  have Kg := Lib.hid hT
  clear hgV hT
  replace G := Lib.hid (gtr G.out hg)
  replace B := Lib.hid (B.out.keptN hg)
  replace OW := Lib.hid (OW.out.kept hg (fun g e => by cases e))
  replace K2 := Lib.hid (K2.out.keptN hg)
  replace OX := Lib.hid (OX.out.kept hg (fun g e => by cases e))
  replace Kx := Lib.hid (Kx.out.keptN hg)
  replace OQ := Lib.hid (OQ.out.kept hg (fun g e => by cases e))
  clear hg
  generalize (v5).heap.size = k4 at *
  have Kg_0 : World.cell? u5 ⟨k4, 0, none⟩ = some (.int .i64 D.many) := Kg.out.cell 0
  have Kg_1 : World.cell? u5 ⟨k4, 1, none⟩ = some (.int .i64 D.need) := Kg.out.cell 1
  have Kg_2 : World.cell? u5 ⟨k4, 2, none⟩ = some (.bool D.on) := Kg.out.cell 2
  have Kg_3 : World.cell? u5 ⟨k4, 3, none⟩ = some (.int .i64 D.at_) := Kg.out.cell 3
  have Kg_4 : World.cell? u5 ⟨k4, 4, none⟩ = some (.slice a4 D.n c4) := Kg.out.cell 4
  have Kg_5 : World.cell? u5 ⟨k4, 5, none⟩ = some (.bool D.veto) := Kg.out.cell 5
  have K2_0 : World.cell? u5 ⟨k2, 0, none⟩ = some (.int .i64 D.many) := K2.out.cell 0
  have K2_1 : World.cell? u5 ⟨k2, 1, none⟩ = some (.int .i64 D.need) := K2.out.cell 1
  have K2_2 : World.cell? u5 ⟨k2, 2, none⟩ = some (.bool D.on) := K2.out.cell 2
  have K2_3 : World.cell? u5 ⟨k2, 3, none⟩ = some (.int .i64 D.at_) := K2.out.cell 3
  have K2_4 : World.cell? u5 ⟨k2, 4, none⟩ = some (.slice a2 D.n c2) := K2.out.cell 4
  have K2_5 : World.cell? u5 ⟨k2, 5, none⟩ = some (.bool D.veto) := K2.out.cell 5
  go_wp2_with fail
  refine (eqcrt _ D.many D.need D.on D.at_ a4 a2 D.n c4 c2 D.f D.veto OQ.out.ints OW.out.ints (by omega)).mono ?_
  rintro e v6 ⟨rfl, hg⟩
  clear Kg_0 Kg_1 Kg_2 Kg_3 Kg_4 Kg_5 K2_0 K2_1 K2_2 K2_3 K2_4 K2_5
  replace G := Lib.hid (gtr G.out hg)
  replace B := Lib.hid (B.out.keptN hg)
  replace OW := Lib.hid (OW.out.kept hg (fun g e => by cases e))
  replace K2 := Lib.hid (K2.out.keptN hg)
  replace OX := Lib.hid (OX.out.kept hg (fun g e => by cases e))
  replace Kx := Lib.hid (Kx.out.keptN hg)
  replace OQ := Lib.hid (OQ.out.kept hg (fun g e => by cases e))
  replace Kg := Lib.hid (Kg.out.keptN hg)
  clear hg
  go_wp2_with fail
  refine wp_region_held_drew (S := (fun w' => w'.cell? ⟨k3, 0, none⟩ = some (.int .i64 many) ∧ w'.cell? ⟨k3, 1, none⟩ = some (.int .i64 need) ∧ w'.cell? ⟨k3, 2, none⟩ = some (.bool on) ∧ w'.cell? ⟨k3, 3, none⟩ = some (.int .i64 at_) ∧ w'.cell? ⟨k3, 4, none⟩ = some (.slice (some ⟨b3, 0, none⟩) n n) ∧ w'.cell? ⟨k3, 5, none⟩ = some (.bool veto) ∧ w'.cell? ⟨w.heap.size, 0, none⟩ = some (.int .i64 many) ∧ w'.cell? ⟨w.heap.size, 1, none⟩ = some (.int .i64 need) ∧ w'.cell? ⟨w.heap.size, 2, none⟩ = some (.bool on) ∧ w'.cell? ⟨w.heap.size, 3, none⟩ = some (.int .i64 at_) ∧ w'.cell? ⟨w.heap.size, 4, none⟩ = some (.slice a n c) ∧ w'.cell? ⟨w.heap.size, 5, none⟩ = some (.bool veto))) (by kernel_rfl) (⟨Kx.out.cell 0, Kx.out.cell 1, Kx.out.cell 2, Kx.out.cell 3, Kx.out.cell 4, Kx.out.cell 5, B.out.cell 0, B.out.cell 1, B.out.cell 2, B.out.cell 3, B.out.cell 4, B.out.cell 5⟩) (fun hHeld => ?_)
  have hg := gdrew v6
  replace G := Lib.hid (gtr G.out hg)
  replace B := Lib.hid (B.out.keptN hg)
  replace OW := Lib.hid (OW.out.kept hg (fun g e => by cases e))
  replace K2 := Lib.hid (K2.out.keptN hg)
  replace OX := Lib.hid (OX.out.kept hg (fun g e => by cases e))
  replace Kx := Lib.hid (Kx.out.keptN hg)
  replace OQ := Lib.hid (OQ.out.kept hg (fun g e => by cases e))
  replace Kg := Lib.hid (Kg.out.keptN hg)
  clear hg
  generalize (v6).drew = W0 at *
  refine wpAnyH_take (i := 0) (oi := ⟨some 45, _, _, _, _, _⟩) (v := ?_) rfl (by kernel_rfl) (by kernel_rfl) (by kernel_rfl) (fun _ _ _ h => h) (Or.inl ⟨by rfl, ?_⟩) (by assumption) ?_
  rotate_left
  · intro w hSw; (try dsimp only at hSw); go_simp; try with_reducible rfl
  simp only [Act.put, List.setIfInBounds_toArray, List.set_cons_zero, List.set_cons_succ]
  refine wpAnyH_take (i := 1) (oi := ⟨some 46, _, _, _, _, _⟩) (v := ?_) rfl (by kernel_rfl) (by kernel_rfl) (by kernel_rfl) (fun _ _ _ h => h) (Or.inl ⟨by rfl, ?_⟩) (by assumption) ?_
  rotate_left
  · intro w hSw; (try dsimp only at hSw); go_simp; try with_reducible rfl
  simp only [Act.put, List.setIfInBounds_toArray, List.set_cons_zero, List.set_cons_succ]
  refine wpAnyH_ready (rs := [2]) (by kernel_rfl) (by simp) ?_
  refine AllReadyH.cons (o := ⟨some 47, _, _, _, _, _⟩) rfl (fun Kq hKq => ?_) AllReadyH.nil
  go_simp
  go_at_call 36
  refine (tocrt _ many need on at_ a n c f veto (HI.out.kept G.out) (by omega)).mono ?_
  rintro e v7 ⟨b6, rfl, hO, hg⟩
  have O6 := Lib.hid hO; clear hO
  replace G := Lib.hid (gtr G.out hg)
  replace B := Lib.hid (B.out.keptN hg)
  replace OW := Lib.hid (OW.out.kept hg (fun g e => by cases e))
  replace K2 := Lib.hid (K2.out.keptN hg)
  replace OX := Lib.hid (OX.out.kept hg (fun g e => by cases e))
  replace Kx := Lib.hid (Kx.out.keptN hg)
  replace OQ := Lib.hid (OQ.out.kept hg (fun g e => by cases e))
  replace Kg := Lib.hid (Kg.out.keptN hg)
  clear hg
  refine hKq.out _ _ (⟨Kx.out.cell 0, Kx.out.cell 1, Kx.out.cell 2, Kx.out.cell 3, Kx.out.cell 4, Kx.out.cell 5, B.out.cell 0, B.out.cell 1, B.out.cell 2, B.out.cell 3, B.out.cell 4, B.out.cell 5⟩) (fun hHeld => ?_)
  clear hKq Kq
  refine wpAnyH_ready (rs := [3]) (by kernel_rfl) (by simp) ?_
  refine AllReadyH.cons (o := ⟨some 48, _, _, _, _, _⟩) rfl (fun Kq hKq => ?_) AllReadyH.nil
  go_simp
  go_at_call 37
  refine (eqcrt _ many need on at_ (some ⟨b3, 0, none⟩) (some ⟨b6, 0, none⟩) n n n f veto OX.out.ints O6.out.ints (by omega)).mono ?_
  rintro e v8 ⟨rfl, hg⟩
  clear O6
  replace G := Lib.hid (gtr G.out hg)
  replace B := Lib.hid (B.out.keptN hg)
  replace OW := Lib.hid (OW.out.kept hg (fun g e => by cases e))
  replace K2 := Lib.hid (K2.out.keptN hg)
  replace OX := Lib.hid (OX.out.kept hg (fun g e => by cases e))
  replace Kx := Lib.hid (Kx.out.keptN hg)
  replace OQ := Lib.hid (OQ.out.kept hg (fun g e => by cases e))
  replace Kg := Lib.hid (Kg.out.keptN hg)
  clear hg
  refine hKq.out _ _ (⟨Kx.out.cell 0, Kx.out.cell 1, Kx.out.cell 2, Kx.out.cell 3, Kx.out.cell 4, Kx.out.cell 5, B.out.cell 0, B.out.cell 1, B.out.cell 2, B.out.cell 3, B.out.cell 4, B.out.cell 5⟩) (fun hHeld => ?_)
  clear hKq Kq
  refine wpAnyH_take (i := 4) (oi := ⟨some 49, _, _, _, _, _⟩) (v := ?_) rfl (by kernel_rfl) (by kernel_rfl) (by kernel_rfl) (fun _ _ _ h => h) (Or.inl ⟨by rfl, ?_⟩) (by assumption) ?_
  rotate_left
  · intro w hSw; (try dsimp only at hSw); go_simp; try with_reducible rfl
  simp only [Act.put, List.setIfInBounds_toArray, List.set_cons_zero, List.set_cons_succ]
  refine wpAnyH_done (by kernel_rfl) ?_ _
  have Kx_0 : World.cell? v8 ⟨k3, 0, none⟩ = some (.int .i64 many) := Kx.out.cell 0
  have Kx_1 : World.cell? v8 ⟨k3, 1, none⟩ = some (.int .i64 need) := Kx.out.cell 1
  have Kx_2 : World.cell? v8 ⟨k3, 2, none⟩ = some (.bool on) := Kx.out.cell 2
  have Kx_3 : World.cell? v8 ⟨k3, 3, none⟩ = some (.int .i64 at_) := Kx.out.cell 3
  have Kx_4 : World.cell? v8 ⟨k3, 4, none⟩ = some (.slice (some ⟨b3, 0, none⟩) n n) := Kx.out.cell 4
  have Kx_5 : World.cell? v8 ⟨k3, 5, none⟩ = some (.bool veto) := Kx.out.cell 5
  go_wp2_with fail
  refine (markct _ w.heap.size many need on at_ (some ⟨b3, 0, none⟩) n n f veto 1 OX.out (by omega) (by omega)).mono ?_
  rintro e v9 ⟨rfl, hO, hg⟩
  clear Kx_0 Kx_1 Kx_2 Kx_3 Kx_4 Kx_5
  replace B := Lib.hid (blk_keptO B.out OX.out hg (by decide))
  replace K2 := Lib.hid (blk_keptO K2.out OX.out hg (by decide))
  replace Kx := Lib.hid (blk_keptO Kx.out OX.out hg (by decide))
  replace Kg := Lib.hid (blk_keptO Kg.out OX.out hg (by decide))
  replace OW := Lib.hid (OW.out.keptA OX.out hg AP1.out)
  replace OQ := Lib.hid (OQ.out.keptA OX.out hg AP3.out.symm)
  replace G := Lib.hid (grown_ownQ G.out OX.out hg)
  replace OX := Lib.hid hO
  clear hO hg
  have hk1 : ¬ ((1 + n : Nat) : Int) < 0 := by omega
  have Kg_0 : World.cell? v9 ⟨k4, 0, none⟩ = some (.int .i64 D.many) := Kg.out.cell 0
  have Kg_1 : World.cell? v9 ⟨k4, 1, none⟩ = some (.int .i64 D.need) := Kg.out.cell 1
  have Kg_2 : World.cell? v9 ⟨k4, 2, none⟩ = some (.bool D.on) := Kg.out.cell 2
  have Kg_3 : World.cell? v9 ⟨k4, 3, none⟩ = some (.int .i64 D.at_) := Kg.out.cell 3
  have Kg_4 : World.cell? v9 ⟨k4, 4, none⟩ = some (.slice a4 D.n c4) := Kg.out.cell 4
  have Kg_5 : World.cell? v9 ⟨k4, 5, none⟩ = some (.bool D.veto) := Kg.out.cell 5
  have K2_0 : World.cell? v9 ⟨k2, 0, none⟩ = some (.int .i64 D.many) := K2.out.cell 0
  have K2_1 : World.cell? v9 ⟨k2, 1, none⟩ = some (.int .i64 D.need) := K2.out.cell 1
  have K2_2 : World.cell? v9 ⟨k2, 2, none⟩ = some (.bool D.on) := K2.out.cell 2
  have K2_3 : World.cell? v9 ⟨k2, 3, none⟩ = some (.int .i64 D.at_) := K2.out.cell 3
  have K2_4 : World.cell? v9 ⟨k2, 4, none⟩ = some (.slice a2 D.n c2) := K2.out.cell 4
  have K2_5 : World.cell? v9 ⟨k2, 5, none⟩ = some (.bool D.veto) := K2.out.cell 5
  go_wp2_with fail
  refine (eqcrt _ D.many D.need D.on D.at_ a4 a2 D.n c4 c2 D.f D.veto OQ.out.ints OW.out.ints (by omega)).mono ?_
  rintro e v10 ⟨rfl, hg⟩
  clear Kg_0 Kg_1 Kg_2 Kg_3 Kg_4 Kg_5 K2_0 K2_1 K2_2 K2_3 K2_4 K2_5
  replace G := Lib.hid (gtr G.out hg)
  replace B := Lib.hid (B.out.keptN hg)
  replace OW := Lib.hid (OW.out.kept hg (fun g e => by cases e))
  replace K2 := Lib.hid (K2.out.keptN hg)
  replace OX := Lib.hid (OX.out.kept hg (fun g e => by cases e))
  replace Kx := Lib.hid (Kx.out.keptN hg)
  replace OQ := Lib.hid (OQ.out.kept hg (fun g e => by cases e))
  replace Kg := Lib.hid (Kg.out.keptN hg)
  clear hg
  clear OX
  have Kg_0 : World.cell? v10 ⟨k4, 0, none⟩ = some (.int .i64 D.many) := Kg.out.cell 0
  have Kg_1 : World.cell? v10 ⟨k4, 1, none⟩ = some (.int .i64 D.need) := Kg.out.cell 1
  have Kg_2 : World.cell? v10 ⟨k4, 2, none⟩ = some (.bool D.on) := Kg.out.cell 2
  have Kg_3 : World.cell? v10 ⟨k4, 3, none⟩ = some (.int .i64 D.at_) := Kg.out.cell 3
  have Kg_4 : World.cell? v10 ⟨k4, 4, none⟩ = some (.slice a4 D.n c4) := Kg.out.cell 4
  have Kg_5 : World.cell? v10 ⟨k4, 5, none⟩ = some (.bool D.veto) := Kg.out.cell 5
  go_wp2_with fail
  refine (markct _ w.heap.size D.many D.need D.on D.at_ a4 D.n c4 D.f D.veto 1 OQ.out (by omega) (by omega)).mono ?_
  rintro e v11 ⟨rfl, hO, hg⟩
  clear Kg_0 Kg_1 Kg_2 Kg_3 Kg_4 Kg_5
  replace B := Lib.hid (blk_keptO B.out OQ.out hg (by decide))
  replace K2 := Lib.hid (blk_keptO K2.out OQ.out hg (by decide))
  replace Kx := Lib.hid (blk_keptO Kx.out OQ.out hg (by decide))
  replace Kg := Lib.hid (blk_keptO Kg.out OQ.out hg (by decide))
  replace OW := Lib.hid (OW.out.keptA OQ.out hg AP2.out)
  replace G := Lib.hid (grown_ownQ G.out OQ.out hg)
  replace OQ := Lib.hid hO
  clear hO hg
  have hk2 : ¬ ((1 + D.n : Nat) : Int) < 0 := by omega
  have hk3 : (((1 + D.n : Nat) : Int) != ((1 + D.n : Nat) : Int)) = false := by simp
  have Kg_0 : World.cell? v11 ⟨k4, 0, none⟩ = some (.int .i64 D.many) := Kg.out.cell 0
  have Kg_1 : World.cell? v11 ⟨k4, 1, none⟩ = some (.int .i64 D.need) := Kg.out.cell 1
  have Kg_2 : World.cell? v11 ⟨k4, 2, none⟩ = some (.bool D.on) := Kg.out.cell 2
  have Kg_3 : World.cell? v11 ⟨k4, 3, none⟩ = some (.int .i64 D.at_) := Kg.out.cell 3
  have Kg_4 : World.cell? v11 ⟨k4, 4, none⟩ = some (.slice a4 D.n c4) := Kg.out.cell 4
  have Kg_5 : World.cell? v11 ⟨k4, 5, none⟩ = some (.bool D.veto) := Kg.out.cell 5
  go_wp2_with fail
  refine (heldct _ D.many D.need D.on D.at_ a4 D.n c4 D.veto 1 OQ.out.ints (by omega) (by omega)).mono ?_
  rintro e v12 ⟨rfl, hg⟩
  clear Kg_0 Kg_1 Kg_2 Kg_3 Kg_4 Kg_5
  replace G := Lib.hid (gtr G.out hg)
  replace B := Lib.hid (B.out.keptN hg)
  replace OW := Lib.hid (OW.out.kept hg (fun g e => by cases e))
  replace K2 := Lib.hid (K2.out.keptN hg)
  replace Kx := Lib.hid (Kx.out.keptN hg)
  replace OQ := Lib.hid (OQ.out.kept hg (fun g e => by cases e))
  replace Kg := Lib.hid (Kg.out.keptN hg)
  clear hg
  have B_0 : World.cell? v12 ⟨w.heap.size, 0, none⟩ = some (.int .i64 many) := B.out.cell 0
  have B_1 : World.cell? v12 ⟨w.heap.size, 1, none⟩ = some (.int .i64 need) := B.out.cell 1
  have B_2 : World.cell? v12 ⟨w.heap.size, 2, none⟩ = some (.bool on) := B.out.cell 2
  have B_3 : World.cell? v12 ⟨w.heap.size, 3, none⟩ = some (.int .i64 at_) := B.out.cell 3
  have B_4 : World.cell? v12 ⟨w.heap.size, 4, none⟩ = some (.slice a n c) := B.out.cell 4
  have B_5 : World.cell? v12 ⟨w.heap.size, 5, none⟩ = some (.bool veto) := B.out.cell 5
  go_wp2_with fail
  refine (tocrt _ many need on at_ a n c f veto (HI.out.kept G.out) (by omega)).mono ?_
  rintro e v13 ⟨b7, rfl, hO, hg⟩
  have O7 := Lib.hid hO; clear hO
  clear B_0 B_1 B_2 B_3 B_4 B_5
  replace G := Lib.hid (gtr G.out hg)
  replace B := Lib.hid (B.out.keptN hg)
  replace OW := Lib.hid (OW.out.kept hg (fun g e => by cases e))
  replace K2 := Lib.hid (K2.out.keptN hg)
  replace Kx := Lib.hid (Kx.out.keptN hg)
  replace OQ := Lib.hid (OQ.out.kept hg (fun g e => by cases e))
  replace Kg := Lib.hid (Kg.out.keptN hg)
  clear hg
  go_wp2_with fail
  refine (ivote _ many need on at_ _ n n f veto who O7.out.ints (by omega) (Nat.le_refl _) hnm).mono ?_
  rintro e v14 ⟨a5, c5, rfl, hO, hg⟩
  rw [HD.out] at hO ⊢
  rw [HK.out]
  have OH := Lib.hid (hO.lower (lo' := w.heap.size) G.out.size)
  clear hO
  replace G := Lib.hid (gtr G.out hg)
  replace B := Lib.hid (B.out.keptN hg)
  replace OW := Lib.hid (OW.out.kept hg (fun g e => by cases e))
  replace K2 := Lib.hid (K2.out.keptN hg)
  replace Kx := Lib.hid (Kx.out.keptN hg)
  replace OQ := Lib.hid (OQ.out.kept hg (fun g e => by cases e))
  replace Kg := Lib.hid (Kg.out.keptN hg)
  replace O7 := Lib.hid (O7.out.kept hg (fun g e => by cases e))
  clear hg
  clear O7
  go_wp2_with (refine stop_store rfl ?_)
  refine ⟨trivial, ?_⟩
  refine wpList_store_atQ rfl 27 (.tmp 14) (.tmp 82) _ 0 _ _ _ #[.int .i64 D.many, .int .i64 D.need, .bool D.on, .int .i64 D.at_, .slice a5 D.n c5, .bool D.veto] 27 (Blk.new v14 #[.int .i64 0, .int .i64 0, .bool false, .int .i64 0, .slice none 0 0, .bool false] 27) rfl rfl rfl rfl (Nat.le_of_ble_eq_true rfl) (by kernel_rfl) (by kernel_rfl) (by kernel_rfl) ?_
  intro u6 hgV hT
  have hg : (v14).grownBy u6 none := grown_new (grown_alloc (v14) (.cells #[.int .i64 0, .int .i64 0, .bool false, .int .i64 0, .slice none 0 0, .bool false] 27) none) (Nat.le_refl _) hgV
  have Kh := Lib.hid hT
  clear hgV hT
  replace G := Lib.hid (gtr G.out hg)
  replace B := Lib.hid (B.out.keptN hg)
  replace OW := Lib.hid (OW.out.kept hg (fun g e => by cases e))
  replace K2 := Lib.hid (K2.out.keptN hg)
  replace Kx := Lib.hid (Kx.out.keptN hg)
  replace OQ := Lib.hid (OQ.out.kept hg (fun g e => by cases e))
  replace Kg := Lib.hid (Kg.out.keptN hg)
  replace OH := Lib.hid (OH.out.kept hg (fun g e => by cases e))
  clear hg
  generalize (v14).heap.size = k5 at *
  have Kh_0 : World.cell? u6 ⟨k5, 0, none⟩ = some (.int .i64 D.many) := Kh.out.cell 0
  have Kh_1 : World.cell? u6 ⟨k5, 1, none⟩ = some (.int .i64 D.need) := Kh.out.cell 1
  have Kh_2 : World.cell? u6 ⟨k5, 2, none⟩ = some (.bool D.on) := Kh.out.cell 2
  have Kh_3 : World.cell? u6 ⟨k5, 3, none⟩ = some (.int .i64 D.at_) := Kh.out.cell 3
  have Kh_4 : World.cell? u6 ⟨k5, 4, none⟩ = some (.slice a5 D.n c5) := Kh.out.cell 4
  have Kh_5 : World.cell? u6 ⟨k5, 5, none⟩ = some (.bool D.veto) := Kh.out.cell 5
  have K2_0 : World.cell? u6 ⟨k2, 0, none⟩ = some (.int .i64 D.many) := K2.out.cell 0
  have K2_1 : World.cell? u6 ⟨k2, 1, none⟩ = some (.int .i64 D.need) := K2.out.cell 1
  have K2_2 : World.cell? u6 ⟨k2, 2, none⟩ = some (.bool D.on) := K2.out.cell 2
  have K2_3 : World.cell? u6 ⟨k2, 3, none⟩ = some (.int .i64 D.at_) := K2.out.cell 3
  have K2_4 : World.cell? u6 ⟨k2, 4, none⟩ = some (.slice a2 D.n c2) := K2.out.cell 4
  have K2_5 : World.cell? u6 ⟨k2, 5, none⟩ = some (.bool D.veto) := K2.out.cell 5
  go_wp2_with fail
  refine (eqcrt _ D.many D.need D.on D.at_ a5 a2 D.n c5 c2 D.f D.veto OH.out.ints OW.out.ints (by omega)).mono ?_
  rintro e v15 ⟨rfl, hg⟩
  clear Kh_0 Kh_1 Kh_2 Kh_3 Kh_4 Kh_5 K2_0 K2_1 K2_2 K2_3 K2_4 K2_5
  replace G := Lib.hid (gtr G.out hg)
  replace B := Lib.hid (B.out.keptN hg)
  replace OW := Lib.hid (OW.out.kept hg (fun g e => by cases e))
  replace K2 := Lib.hid (K2.out.keptN hg)
  replace Kx := Lib.hid (Kx.out.keptN hg)
  replace OQ := Lib.hid (OQ.out.kept hg (fun g e => by cases e))
  replace Kg := Lib.hid (Kg.out.keptN hg)
  replace OH := Lib.hid (OH.out.kept hg (fun g e => by cases e))
  replace Kh := Lib.hid (Kh.out.keptN hg)
  clear hg
  have Kg_0 : World.cell? v15 ⟨k4, 0, none⟩ = some (.int .i64 D.many) := Kg.out.cell 0
  have Kg_1 : World.cell? v15 ⟨k4, 1, none⟩ = some (.int .i64 D.need) := Kg.out.cell 1
  have Kg_2 : World.cell? v15 ⟨k4, 2, none⟩ = some (.bool D.on) := Kg.out.cell 2
  have Kg_3 : World.cell? v15 ⟨k4, 3, none⟩ = some (.int .i64 D.at_) := Kg.out.cell 3
  have Kg_4 : World.cell? v15 ⟨k4, 4, none⟩ = some (.slice a4 D.n c4) := Kg.out.cell 4
  have Kg_5 : World.cell? v15 ⟨k4, 5, none⟩ = some (.bool D.veto) := Kg.out.cell 5
  go_wp2_with fail
  refine (heldct _ D.many D.need D.on D.at_ a4 D.n c4 D.veto 1 OQ.out.ints (by omega) (by omega)).mono ?_
  rintro e v16 ⟨rfl, hg⟩
  clear Kg_0 Kg_1 Kg_2 Kg_3 Kg_4 Kg_5
  replace G := Lib.hid (gtr G.out hg)
  replace B := Lib.hid (B.out.keptN hg)
  replace OW := Lib.hid (OW.out.kept hg (fun g e => by cases e))
  replace K2 := Lib.hid (K2.out.keptN hg)
  replace Kx := Lib.hid (Kx.out.keptN hg)
  replace OQ := Lib.hid (OQ.out.kept hg (fun g e => by cases e))
  replace Kg := Lib.hid (Kg.out.keptN hg)
  replace OH := Lib.hid (OH.out.kept hg (fun g e => by cases e))
  replace Kh := Lib.hid (Kh.out.keptN hg)
  clear hg
  go_wp2
  go_ret
  exact ⟨rfl, below_of G.out⟩
set_option maxRecDepth 100000 in
set_option maxHeartbeats 8000000 in
theorem FnExactCourtVeto (many need : Int) (on : Bool) (at_ : Int) (a : Option Addr) (n c : Nat) (f : Nat → Int) (veto : Bool) (w : World) (hI : Ints w a n f) (hc : n ≤ c) (hm : c ≤ maxLen) :
    Calls Try.prog 15 #[.agg #[.int .i64 many, .int .i64 need, .bool on, .int .i64 at_, .slice a n c, .bool veto]] w (Yes w) := by
  have G := Lib.hid (grown_alloc w (.cells #[.int .i64 many, .int .i64 need, .bool on, .int .i64 at_, .slice a n c, .bool veto] 43) none)
  have B := Lib.hid (Blk.new w #[.int .i64 many, .int .i64 need, .bool on, .int .i64 at_, .slice a n c, .bool veto] 43)
  have HI := Lib.hid hI; clear hI
  go_enter Try.func15, Try.ntmps15
  have B_0 : World.cell? (w.alloc (.cells #[.int .i64 many, .int .i64 need, .bool on, .int .i64 at_, .slice a n c, .bool veto] 43)) ⟨w.heap.size, 0, none⟩ = some (.int .i64 many) := B.out.cell 0
  have B_1 : World.cell? (w.alloc (.cells #[.int .i64 many, .int .i64 need, .bool on, .int .i64 at_, .slice a n c, .bool veto] 43)) ⟨w.heap.size, 1, none⟩ = some (.int .i64 need) := B.out.cell 1
  have B_2 : World.cell? (w.alloc (.cells #[.int .i64 many, .int .i64 need, .bool on, .int .i64 at_, .slice a n c, .bool veto] 43)) ⟨w.heap.size, 2, none⟩ = some (.bool on) := B.out.cell 2
  have B_3 : World.cell? (w.alloc (.cells #[.int .i64 many, .int .i64 need, .bool on, .int .i64 at_, .slice a n c, .bool veto] 43)) ⟨w.heap.size, 3, none⟩ = some (.int .i64 at_) := B.out.cell 3
  have B_4 : World.cell? (w.alloc (.cells #[.int .i64 many, .int .i64 need, .bool on, .int .i64 at_, .slice a n c, .bool veto] 43)) ⟨w.heap.size, 4, none⟩ = some (.slice a n c) := B.out.cell 4
  have B_5 : World.cell? (w.alloc (.cells #[.int .i64 many, .int .i64 need, .bool on, .int .i64 at_, .slice a n c, .bool veto] 43)) ⟨w.heap.size, 5, none⟩ = some (.bool veto) := B.out.cell 5
  go_wp2_with fail
  refine (szcrt _ many need on at_ a n c veto 1048576 (by omega) (by omega) (by omega)).mono ?_
  rintro e v1 ⟨⟨r, rfl, hr⟩, hg⟩
  clear B_0 B_1 B_2 B_3 B_4 B_5
  replace G := Lib.hid (gtr G.out hg)
  replace B := Lib.hid (B.out.keptN hg)
  clear hg
  rcases hr with rfl | ⟨r0, r1, hn⟩
  · go_wp2
    go_ret
    exact ⟨rfl, below_of G.out⟩
  have hnr : ¬ r < 0 := by omega
  have hnm : n ≤ maxLen := by unfold maxLen; omega
  clear r1
  obtain ⟨D, hD⟩ : ∃ D, veV ⟨many, need, on, at_, n, f, veto⟩ = D := ⟨_, rfl⟩
  obtain ⟨g, hg0⟩ : ∃ g, veO ⟨many, need, on, at_, n, f, veto⟩ = g := ⟨_, rfl⟩
  have HD := Lib.hid hD; have HK := Lib.hid hg0
  have hDn : D.n ≤ 1200000 := by rw [← hD]; exact Nat.le_trans (Nat.le_trans (veV_n _) (Nat.le_succ _)) (by show n + 1 ≤ 1200000; omega)
  clear hD hg0
  have hne : (g != g) = false := by simp
  have B_0 : World.cell? v1 ⟨w.heap.size, 0, none⟩ = some (.int .i64 many) := B.out.cell 0
  have B_1 : World.cell? v1 ⟨w.heap.size, 1, none⟩ = some (.int .i64 need) := B.out.cell 1
  have B_2 : World.cell? v1 ⟨w.heap.size, 2, none⟩ = some (.bool on) := B.out.cell 2
  have B_3 : World.cell? v1 ⟨w.heap.size, 3, none⟩ = some (.int .i64 at_) := B.out.cell 3
  have B_4 : World.cell? v1 ⟨w.heap.size, 4, none⟩ = some (.slice a n c) := B.out.cell 4
  have B_5 : World.cell? v1 ⟨w.heap.size, 5, none⟩ = some (.bool veto) := B.out.cell 5
  go_wp2_with fail
  refine (tocrt _ many need on at_ a n c f veto (HI.out.kept G.out) (by omega)).mono ?_
  rintro e v2 ⟨b1, rfl, hO, hg⟩
  have O1 := Lib.hid hO; clear hO
  clear B_0 B_1 B_2 B_3 B_4 B_5
  replace G := Lib.hid (gtr G.out hg)
  replace B := Lib.hid (B.out.keptN hg)
  clear hg
  go_wp2_with fail
  refine (sveto _ many need on at_ _ n n f veto O1.out.ints (by omega) (Nat.le_refl _) hnm).mono ?_
  rintro e v3 ⟨a2, c2, rfl, hO, hg⟩
  rw [HD.out] at hO ⊢
  rw [HK.out]
  have OW := Lib.hid (hO.lower (lo' := w.heap.size) G.out.size)
  clear hO
  replace G := Lib.hid (gtr G.out hg)
  replace B := Lib.hid (B.out.keptN hg)
  replace O1 := Lib.hid (O1.out.kept hg (fun g e => by cases e))
  clear hg
  clear O1
  go_wp2_with (refine stop_store rfl ?_)
  refine ⟨trivial, ?_⟩
  refine wpList_store_atQ rfl 27 (.tmp 4) (.tmp 23) _ 0 _ _ _ #[.int .i64 D.many, .int .i64 D.need, .bool D.on, .int .i64 D.at_, .slice a2 D.n c2, .bool D.veto] 27 (Blk.new v3 #[.int .i64 0, .int .i64 0, .bool false, .int .i64 0, .slice none 0 0, .bool false] 27) rfl rfl rfl rfl (Nat.le_of_ble_eq_true rfl) (by kernel_rfl) (by kernel_rfl) (by kernel_rfl) ?_
  intro u3 hgV hT
  have hg : (v3).grownBy u3 none := grown_new (grown_alloc (v3) (.cells #[.int .i64 0, .int .i64 0, .bool false, .int .i64 0, .slice none 0 0, .bool false] 27) none) (Nat.le_refl _) hgV
  have K2 := Lib.hid hT
  clear hgV hT
  replace G := Lib.hid (gtr G.out hg)
  replace B := Lib.hid (B.out.keptN hg)
  replace OW := Lib.hid (OW.out.kept hg (fun g e => by cases e))
  clear hg
  generalize (v3).heap.size = k2 at *
  have B_0 : World.cell? u3 ⟨w.heap.size, 0, none⟩ = some (.int .i64 many) := B.out.cell 0
  have B_1 : World.cell? u3 ⟨w.heap.size, 1, none⟩ = some (.int .i64 need) := B.out.cell 1
  have B_2 : World.cell? u3 ⟨w.heap.size, 2, none⟩ = some (.bool on) := B.out.cell 2
  have B_3 : World.cell? u3 ⟨w.heap.size, 3, none⟩ = some (.int .i64 at_) := B.out.cell 3
  have B_4 : World.cell? u3 ⟨w.heap.size, 4, none⟩ = some (.slice a n c) := B.out.cell 4
  have B_5 : World.cell? u3 ⟨w.heap.size, 5, none⟩ = some (.bool veto) := B.out.cell 5
  go_wp2_with fail
  refine (tocrt _ many need on at_ a n c f veto (HI.out.kept G.out) (by omega)).mono ?_
  rintro e v4 ⟨b3, rfl, hO, hg⟩
  have AP1 := Lib.hid (aptQ OW.out hO (Nat.le_refl _))
  have OX := Lib.hid (hO.lower (lo' := w.heap.size) G.out.size)
  clear hO
  clear B_0 B_1 B_2 B_3 B_4 B_5
  replace G := Lib.hid (gtr G.out hg)
  replace B := Lib.hid (B.out.keptN hg)
  replace OW := Lib.hid (OW.out.kept hg (fun g e => by cases e))
  replace K2 := Lib.hid (K2.out.keptN hg)
  clear hg
  go_wp2_with (refine stop_store rfl ?_)
  refine ⟨trivial, ?_⟩
  refine wpList_store_atQ rfl 27 (.tmp 6) (.tmp 26) _ 0 _ _ _ #[.int .i64 many, .int .i64 need, .bool on, .int .i64 at_, .slice (some ⟨b3, 0, none⟩) n n, .bool veto] 27 (Blk.new v4 #[.int .i64 0, .int .i64 0, .bool false, .int .i64 0, .slice none 0 0, .bool false] 27) rfl rfl rfl rfl (Nat.le_of_ble_eq_true rfl) (by kernel_rfl) (by kernel_rfl) (by kernel_rfl) ?_
  intro u4 hgV hT
  have hg : (v4).grownBy u4 none := grown_new (grown_alloc (v4) (.cells #[.int .i64 0, .int .i64 0, .bool false, .int .i64 0, .slice none 0 0, .bool false] 27) none) (Nat.le_refl _) hgV
  have Kx := Lib.hid hT
  clear hgV hT
  replace G := Lib.hid (gtr G.out hg)
  replace B := Lib.hid (B.out.keptN hg)
  replace OW := Lib.hid (OW.out.kept hg (fun g e => by cases e))
  replace K2 := Lib.hid (K2.out.keptN hg)
  replace OX := Lib.hid (OX.out.kept hg (fun g e => by cases e))
  clear hg
  generalize (v4).heap.size = k3 at *
  have Kx_0 : World.cell? u4 ⟨k3, 0, none⟩ = some (.int .i64 many) := Kx.out.cell 0
  have Kx_1 : World.cell? u4 ⟨k3, 1, none⟩ = some (.int .i64 need) := Kx.out.cell 1
  have Kx_2 : World.cell? u4 ⟨k3, 2, none⟩ = some (.bool on) := Kx.out.cell 2
  have Kx_3 : World.cell? u4 ⟨k3, 3, none⟩ = some (.int .i64 at_) := Kx.out.cell 3
  have Kx_4 : World.cell? u4 ⟨k3, 4, none⟩ = some (.slice (some ⟨b3, 0, none⟩) n n) := Kx.out.cell 4
  have Kx_5 : World.cell? u4 ⟨k3, 5, none⟩ = some (.bool veto) := Kx.out.cell 5
  go_wp2_with fail
  refine (iveto _ many need on at_ (some ⟨b3, 0, none⟩) n n f veto OX.out.ints (by omega) (Nat.le_refl _) hnm).mono ?_
  rintro e v5 ⟨a4, c4, rfl, hO, hg⟩
  rw [HD.out] at hO ⊢
  rw [HK.out]
  have AP2 := Lib.hid (aptQ OW.out hO (Nat.le_refl _)); have AP3 := Lib.hid (aptQ OX.out hO (Nat.le_refl _))
  have OQ := Lib.hid (hO.lower (lo' := w.heap.size) G.out.size)
  clear hO
  clear Kx_0 Kx_1 Kx_2 Kx_3 Kx_4 Kx_5
  replace G := Lib.hid (gtr G.out hg)
  replace B := Lib.hid (B.out.keptN hg)
  replace OW := Lib.hid (OW.out.kept hg (fun g e => by cases e))
  replace K2 := Lib.hid (K2.out.keptN hg)
  replace OX := Lib.hid (OX.out.kept hg (fun g e => by cases e))
  replace Kx := Lib.hid (Kx.out.keptN hg)
  clear hg
  go_wp2_with (refine stop_store rfl ?_)
  refine ⟨trivial, ?_⟩
  refine wpList_store_atQ rfl 27 (.tmp 7) (.tmp 30) _ 0 _ _ _ #[.int .i64 D.many, .int .i64 D.need, .bool D.on, .int .i64 D.at_, .slice a4 D.n c4, .bool D.veto] 27 (Blk.new v5 #[.int .i64 0, .int .i64 0, .bool false, .int .i64 0, .slice none 0 0, .bool false] 27) rfl rfl rfl rfl (Nat.le_of_ble_eq_true rfl) (by kernel_rfl) (by kernel_rfl) (by kernel_rfl) ?_
  intro u5 hgV hT
  have hg : (v5).grownBy u5 none := grown_new (grown_alloc (v5) (.cells #[.int .i64 0, .int .i64 0, .bool false, .int .i64 0, .slice none 0 0, .bool false] 27) none) (Nat.le_refl _) hgV
  have Kg := Lib.hid hT
  clear hgV hT
  replace G := Lib.hid (gtr G.out hg)
  replace B := Lib.hid (B.out.keptN hg)
  replace OW := Lib.hid (OW.out.kept hg (fun g e => by cases e))
  replace K2 := Lib.hid (K2.out.keptN hg)
  replace OX := Lib.hid (OX.out.kept hg (fun g e => by cases e))
  replace Kx := Lib.hid (Kx.out.keptN hg)
  replace OQ := Lib.hid (OQ.out.kept hg (fun g e => by cases e))
  clear hg
  generalize (v5).heap.size = k4 at *
  have Kg_0 : World.cell? u5 ⟨k4, 0, none⟩ = some (.int .i64 D.many) := Kg.out.cell 0
  have Kg_1 : World.cell? u5 ⟨k4, 1, none⟩ = some (.int .i64 D.need) := Kg.out.cell 1
  have Kg_2 : World.cell? u5 ⟨k4, 2, none⟩ = some (.bool D.on) := Kg.out.cell 2
  have Kg_3 : World.cell? u5 ⟨k4, 3, none⟩ = some (.int .i64 D.at_) := Kg.out.cell 3
  have Kg_4 : World.cell? u5 ⟨k4, 4, none⟩ = some (.slice a4 D.n c4) := Kg.out.cell 4
  have Kg_5 : World.cell? u5 ⟨k4, 5, none⟩ = some (.bool D.veto) := Kg.out.cell 5
  have K2_0 : World.cell? u5 ⟨k2, 0, none⟩ = some (.int .i64 D.many) := K2.out.cell 0
  have K2_1 : World.cell? u5 ⟨k2, 1, none⟩ = some (.int .i64 D.need) := K2.out.cell 1
  have K2_2 : World.cell? u5 ⟨k2, 2, none⟩ = some (.bool D.on) := K2.out.cell 2
  have K2_3 : World.cell? u5 ⟨k2, 3, none⟩ = some (.int .i64 D.at_) := K2.out.cell 3
  have K2_4 : World.cell? u5 ⟨k2, 4, none⟩ = some (.slice a2 D.n c2) := K2.out.cell 4
  have K2_5 : World.cell? u5 ⟨k2, 5, none⟩ = some (.bool D.veto) := K2.out.cell 5
  go_wp2_with fail
  refine (eqcrt _ D.many D.need D.on D.at_ a4 a2 D.n c4 c2 D.f D.veto OQ.out.ints OW.out.ints (by omega)).mono ?_
  rintro e v6 ⟨rfl, hg⟩
  clear Kg_0 Kg_1 Kg_2 Kg_3 Kg_4 Kg_5 K2_0 K2_1 K2_2 K2_3 K2_4 K2_5
  replace G := Lib.hid (gtr G.out hg)
  replace B := Lib.hid (B.out.keptN hg)
  replace OW := Lib.hid (OW.out.kept hg (fun g e => by cases e))
  replace K2 := Lib.hid (K2.out.keptN hg)
  replace OX := Lib.hid (OX.out.kept hg (fun g e => by cases e))
  replace Kx := Lib.hid (Kx.out.keptN hg)
  replace OQ := Lib.hid (OQ.out.kept hg (fun g e => by cases e))
  replace Kg := Lib.hid (Kg.out.keptN hg)
  clear hg
  go_wp2_with fail
  refine wp_region_held_drew (S := (fun w' => w'.cell? ⟨k3, 0, none⟩ = some (.int .i64 many) ∧ w'.cell? ⟨k3, 1, none⟩ = some (.int .i64 need) ∧ w'.cell? ⟨k3, 2, none⟩ = some (.bool on) ∧ w'.cell? ⟨k3, 3, none⟩ = some (.int .i64 at_) ∧ w'.cell? ⟨k3, 4, none⟩ = some (.slice (some ⟨b3, 0, none⟩) n n) ∧ w'.cell? ⟨k3, 5, none⟩ = some (.bool veto) ∧ w'.cell? ⟨w.heap.size, 0, none⟩ = some (.int .i64 many) ∧ w'.cell? ⟨w.heap.size, 1, none⟩ = some (.int .i64 need) ∧ w'.cell? ⟨w.heap.size, 2, none⟩ = some (.bool on) ∧ w'.cell? ⟨w.heap.size, 3, none⟩ = some (.int .i64 at_) ∧ w'.cell? ⟨w.heap.size, 4, none⟩ = some (.slice a n c) ∧ w'.cell? ⟨w.heap.size, 5, none⟩ = some (.bool veto))) (by kernel_rfl) (⟨Kx.out.cell 0, Kx.out.cell 1, Kx.out.cell 2, Kx.out.cell 3, Kx.out.cell 4, Kx.out.cell 5, B.out.cell 0, B.out.cell 1, B.out.cell 2, B.out.cell 3, B.out.cell 4, B.out.cell 5⟩) (fun hHeld => ?_)
  have hg := gdrew v6
  replace G := Lib.hid (gtr G.out hg)
  replace B := Lib.hid (B.out.keptN hg)
  replace OW := Lib.hid (OW.out.kept hg (fun g e => by cases e))
  replace K2 := Lib.hid (K2.out.keptN hg)
  replace OX := Lib.hid (OX.out.kept hg (fun g e => by cases e))
  replace Kx := Lib.hid (Kx.out.keptN hg)
  replace OQ := Lib.hid (OQ.out.kept hg (fun g e => by cases e))
  replace Kg := Lib.hid (Kg.out.keptN hg)
  clear hg
  generalize (v6).drew = W0 at *
  refine wpAnyH_take (i := 0) (oi := ⟨some 41, _, _, _, _, _⟩) (v := ?_) rfl (by kernel_rfl) (by kernel_rfl) (by kernel_rfl) (fun _ _ _ h => h) (Or.inl ⟨by rfl, ?_⟩) (by assumption) ?_
  rotate_left
  · intro w hSw; (try dsimp only at hSw); go_simp; try with_reducible rfl
  simp only [Act.put, List.setIfInBounds_toArray, List.set_cons_zero, List.set_cons_succ]
  refine wpAnyH_take (i := 1) (oi := ⟨some 42, _, _, _, _, _⟩) (v := ?_) rfl (by kernel_rfl) (by kernel_rfl) (by kernel_rfl) (fun _ _ _ h => h) (Or.inl ⟨by rfl, ?_⟩) (by assumption) ?_
  rotate_left
  · intro w hSw; (try dsimp only at hSw); go_simp; try with_reducible rfl
  simp only [Act.put, List.setIfInBounds_toArray, List.set_cons_zero, List.set_cons_succ]
  refine wpAnyH_ready (rs := [2]) (by kernel_rfl) (by simp) ?_
  refine AllReadyH.cons (o := ⟨some 43, _, _, _, _, _⟩) rfl (fun Kq hKq => ?_) AllReadyH.nil
  go_simp
  go_at_call 36
  refine (tocrt _ many need on at_ a n c f veto (HI.out.kept G.out) (by omega)).mono ?_
  rintro e v7 ⟨b6, rfl, hO, hg⟩
  have O6 := Lib.hid hO; clear hO
  replace G := Lib.hid (gtr G.out hg)
  replace B := Lib.hid (B.out.keptN hg)
  replace OW := Lib.hid (OW.out.kept hg (fun g e => by cases e))
  replace K2 := Lib.hid (K2.out.keptN hg)
  replace OX := Lib.hid (OX.out.kept hg (fun g e => by cases e))
  replace Kx := Lib.hid (Kx.out.keptN hg)
  replace OQ := Lib.hid (OQ.out.kept hg (fun g e => by cases e))
  replace Kg := Lib.hid (Kg.out.keptN hg)
  clear hg
  refine hKq.out _ _ (⟨Kx.out.cell 0, Kx.out.cell 1, Kx.out.cell 2, Kx.out.cell 3, Kx.out.cell 4, Kx.out.cell 5, B.out.cell 0, B.out.cell 1, B.out.cell 2, B.out.cell 3, B.out.cell 4, B.out.cell 5⟩) (fun hHeld => ?_)
  clear hKq Kq
  refine wpAnyH_ready (rs := [3]) (by kernel_rfl) (by simp) ?_
  refine AllReadyH.cons (o := ⟨some 44, _, _, _, _, _⟩) rfl (fun Kq hKq => ?_) AllReadyH.nil
  go_simp
  go_at_call 37
  refine (eqcrt _ many need on at_ (some ⟨b3, 0, none⟩) (some ⟨b6, 0, none⟩) n n n f veto OX.out.ints O6.out.ints (by omega)).mono ?_
  rintro e v8 ⟨rfl, hg⟩
  clear O6
  replace G := Lib.hid (gtr G.out hg)
  replace B := Lib.hid (B.out.keptN hg)
  replace OW := Lib.hid (OW.out.kept hg (fun g e => by cases e))
  replace K2 := Lib.hid (K2.out.keptN hg)
  replace OX := Lib.hid (OX.out.kept hg (fun g e => by cases e))
  replace Kx := Lib.hid (Kx.out.keptN hg)
  replace OQ := Lib.hid (OQ.out.kept hg (fun g e => by cases e))
  replace Kg := Lib.hid (Kg.out.keptN hg)
  clear hg
  refine hKq.out _ _ (⟨Kx.out.cell 0, Kx.out.cell 1, Kx.out.cell 2, Kx.out.cell 3, Kx.out.cell 4, Kx.out.cell 5, B.out.cell 0, B.out.cell 1, B.out.cell 2, B.out.cell 3, B.out.cell 4, B.out.cell 5⟩) (fun hHeld => ?_)
  clear hKq Kq
  refine wpAnyH_take (i := 4) (oi := ⟨some 45, _, _, _, _, _⟩) (v := ?_) rfl (by kernel_rfl) (by kernel_rfl) (by kernel_rfl) (fun _ _ _ h => h) (Or.inl ⟨by rfl, ?_⟩) (by assumption) ?_
  rotate_left
  · intro w hSw; (try dsimp only at hSw); go_simp; try with_reducible rfl
  simp only [Act.put, List.setIfInBounds_toArray, List.set_cons_zero, List.set_cons_succ]
  refine wpAnyH_done (by kernel_rfl) ?_ _
  have Kx_0 : World.cell? v8 ⟨k3, 0, none⟩ = some (.int .i64 many) := Kx.out.cell 0
  have Kx_1 : World.cell? v8 ⟨k3, 1, none⟩ = some (.int .i64 need) := Kx.out.cell 1
  have Kx_2 : World.cell? v8 ⟨k3, 2, none⟩ = some (.bool on) := Kx.out.cell 2
  have Kx_3 : World.cell? v8 ⟨k3, 3, none⟩ = some (.int .i64 at_) := Kx.out.cell 3
  have Kx_4 : World.cell? v8 ⟨k3, 4, none⟩ = some (.slice (some ⟨b3, 0, none⟩) n n) := Kx.out.cell 4
  have Kx_5 : World.cell? v8 ⟨k3, 5, none⟩ = some (.bool veto) := Kx.out.cell 5
  go_wp2_with fail
  refine (markct _ w.heap.size many need on at_ (some ⟨b3, 0, none⟩) n n f veto 1 OX.out (by omega) (by omega)).mono ?_
  rintro e v9 ⟨rfl, hO, hg⟩
  clear Kx_0 Kx_1 Kx_2 Kx_3 Kx_4 Kx_5
  replace B := Lib.hid (blk_keptO B.out OX.out hg (by decide))
  replace K2 := Lib.hid (blk_keptO K2.out OX.out hg (by decide))
  replace Kx := Lib.hid (blk_keptO Kx.out OX.out hg (by decide))
  replace Kg := Lib.hid (blk_keptO Kg.out OX.out hg (by decide))
  replace OW := Lib.hid (OW.out.keptA OX.out hg AP1.out)
  replace OQ := Lib.hid (OQ.out.keptA OX.out hg AP3.out.symm)
  replace G := Lib.hid (grown_ownQ G.out OX.out hg)
  replace OX := Lib.hid hO
  clear hO hg
  have hk1 : ¬ ((1 + n : Nat) : Int) < 0 := by omega
  have Kg_0 : World.cell? v9 ⟨k4, 0, none⟩ = some (.int .i64 D.many) := Kg.out.cell 0
  have Kg_1 : World.cell? v9 ⟨k4, 1, none⟩ = some (.int .i64 D.need) := Kg.out.cell 1
  have Kg_2 : World.cell? v9 ⟨k4, 2, none⟩ = some (.bool D.on) := Kg.out.cell 2
  have Kg_3 : World.cell? v9 ⟨k4, 3, none⟩ = some (.int .i64 D.at_) := Kg.out.cell 3
  have Kg_4 : World.cell? v9 ⟨k4, 4, none⟩ = some (.slice a4 D.n c4) := Kg.out.cell 4
  have Kg_5 : World.cell? v9 ⟨k4, 5, none⟩ = some (.bool D.veto) := Kg.out.cell 5
  have K2_0 : World.cell? v9 ⟨k2, 0, none⟩ = some (.int .i64 D.many) := K2.out.cell 0
  have K2_1 : World.cell? v9 ⟨k2, 1, none⟩ = some (.int .i64 D.need) := K2.out.cell 1
  have K2_2 : World.cell? v9 ⟨k2, 2, none⟩ = some (.bool D.on) := K2.out.cell 2
  have K2_3 : World.cell? v9 ⟨k2, 3, none⟩ = some (.int .i64 D.at_) := K2.out.cell 3
  have K2_4 : World.cell? v9 ⟨k2, 4, none⟩ = some (.slice a2 D.n c2) := K2.out.cell 4
  have K2_5 : World.cell? v9 ⟨k2, 5, none⟩ = some (.bool D.veto) := K2.out.cell 5
  go_wp2_with fail
  refine (eqcrt _ D.many D.need D.on D.at_ a4 a2 D.n c4 c2 D.f D.veto OQ.out.ints OW.out.ints (by omega)).mono ?_
  rintro e v10 ⟨rfl, hg⟩
  clear Kg_0 Kg_1 Kg_2 Kg_3 Kg_4 Kg_5 K2_0 K2_1 K2_2 K2_3 K2_4 K2_5
  replace G := Lib.hid (gtr G.out hg)
  replace B := Lib.hid (B.out.keptN hg)
  replace OW := Lib.hid (OW.out.kept hg (fun g e => by cases e))
  replace K2 := Lib.hid (K2.out.keptN hg)
  replace OX := Lib.hid (OX.out.kept hg (fun g e => by cases e))
  replace Kx := Lib.hid (Kx.out.keptN hg)
  replace OQ := Lib.hid (OQ.out.kept hg (fun g e => by cases e))
  replace Kg := Lib.hid (Kg.out.keptN hg)
  clear hg
  clear OX
  have Kg_0 : World.cell? v10 ⟨k4, 0, none⟩ = some (.int .i64 D.many) := Kg.out.cell 0
  have Kg_1 : World.cell? v10 ⟨k4, 1, none⟩ = some (.int .i64 D.need) := Kg.out.cell 1
  have Kg_2 : World.cell? v10 ⟨k4, 2, none⟩ = some (.bool D.on) := Kg.out.cell 2
  have Kg_3 : World.cell? v10 ⟨k4, 3, none⟩ = some (.int .i64 D.at_) := Kg.out.cell 3
  have Kg_4 : World.cell? v10 ⟨k4, 4, none⟩ = some (.slice a4 D.n c4) := Kg.out.cell 4
  have Kg_5 : World.cell? v10 ⟨k4, 5, none⟩ = some (.bool D.veto) := Kg.out.cell 5
  go_wp2_with fail
  refine (markct _ w.heap.size D.many D.need D.on D.at_ a4 D.n c4 D.f D.veto 1 OQ.out (by omega) (by omega)).mono ?_
  rintro e v11 ⟨rfl, hO, hg⟩
  clear Kg_0 Kg_1 Kg_2 Kg_3 Kg_4 Kg_5
  replace B := Lib.hid (blk_keptO B.out OQ.out hg (by decide))
  replace K2 := Lib.hid (blk_keptO K2.out OQ.out hg (by decide))
  replace Kx := Lib.hid (blk_keptO Kx.out OQ.out hg (by decide))
  replace Kg := Lib.hid (blk_keptO Kg.out OQ.out hg (by decide))
  replace OW := Lib.hid (OW.out.keptA OQ.out hg AP2.out)
  replace G := Lib.hid (grown_ownQ G.out OQ.out hg)
  replace OQ := Lib.hid hO
  clear hO hg
  have hk2 : ¬ ((1 + D.n : Nat) : Int) < 0 := by omega
  have hk3 : (((1 + D.n : Nat) : Int) != ((1 + D.n : Nat) : Int)) = false := by simp
  have Kg_0 : World.cell? v11 ⟨k4, 0, none⟩ = some (.int .i64 D.many) := Kg.out.cell 0
  have Kg_1 : World.cell? v11 ⟨k4, 1, none⟩ = some (.int .i64 D.need) := Kg.out.cell 1
  have Kg_2 : World.cell? v11 ⟨k4, 2, none⟩ = some (.bool D.on) := Kg.out.cell 2
  have Kg_3 : World.cell? v11 ⟨k4, 3, none⟩ = some (.int .i64 D.at_) := Kg.out.cell 3
  have Kg_4 : World.cell? v11 ⟨k4, 4, none⟩ = some (.slice a4 D.n c4) := Kg.out.cell 4
  have Kg_5 : World.cell? v11 ⟨k4, 5, none⟩ = some (.bool D.veto) := Kg.out.cell 5
  go_wp2_with fail
  refine (heldct _ D.many D.need D.on D.at_ a4 D.n c4 D.veto 1 OQ.out.ints (by omega) (by omega)).mono ?_
  rintro e v12 ⟨rfl, hg⟩
  clear Kg_0 Kg_1 Kg_2 Kg_3 Kg_4 Kg_5
  replace G := Lib.hid (gtr G.out hg)
  replace B := Lib.hid (B.out.keptN hg)
  replace OW := Lib.hid (OW.out.kept hg (fun g e => by cases e))
  replace K2 := Lib.hid (K2.out.keptN hg)
  replace Kx := Lib.hid (Kx.out.keptN hg)
  replace OQ := Lib.hid (OQ.out.kept hg (fun g e => by cases e))
  replace Kg := Lib.hid (Kg.out.keptN hg)
  clear hg
  have B_0 : World.cell? v12 ⟨w.heap.size, 0, none⟩ = some (.int .i64 many) := B.out.cell 0
  have B_1 : World.cell? v12 ⟨w.heap.size, 1, none⟩ = some (.int .i64 need) := B.out.cell 1
  have B_2 : World.cell? v12 ⟨w.heap.size, 2, none⟩ = some (.bool on) := B.out.cell 2
  have B_3 : World.cell? v12 ⟨w.heap.size, 3, none⟩ = some (.int .i64 at_) := B.out.cell 3
  have B_4 : World.cell? v12 ⟨w.heap.size, 4, none⟩ = some (.slice a n c) := B.out.cell 4
  have B_5 : World.cell? v12 ⟨w.heap.size, 5, none⟩ = some (.bool veto) := B.out.cell 5
  go_wp2_with fail
  refine (tocrt _ many need on at_ a n c f veto (HI.out.kept G.out) (by omega)).mono ?_
  rintro e v13 ⟨b7, rfl, hO, hg⟩
  have O7 := Lib.hid hO; clear hO
  clear B_0 B_1 B_2 B_3 B_4 B_5
  replace G := Lib.hid (gtr G.out hg)
  replace B := Lib.hid (B.out.keptN hg)
  replace OW := Lib.hid (OW.out.kept hg (fun g e => by cases e))
  replace K2 := Lib.hid (K2.out.keptN hg)
  replace Kx := Lib.hid (Kx.out.keptN hg)
  replace OQ := Lib.hid (OQ.out.kept hg (fun g e => by cases e))
  replace Kg := Lib.hid (Kg.out.keptN hg)
  clear hg
  go_wp2_with fail
  refine (iveto _ many need on at_ _ n n f veto O7.out.ints (by omega) (Nat.le_refl _) hnm).mono ?_
  rintro e v14 ⟨a5, c5, rfl, hO, hg⟩
  rw [HD.out] at hO ⊢
  rw [HK.out]
  have OH := Lib.hid (hO.lower (lo' := w.heap.size) G.out.size)
  clear hO
  replace G := Lib.hid (gtr G.out hg)
  replace B := Lib.hid (B.out.keptN hg)
  replace OW := Lib.hid (OW.out.kept hg (fun g e => by cases e))
  replace K2 := Lib.hid (K2.out.keptN hg)
  replace Kx := Lib.hid (Kx.out.keptN hg)
  replace OQ := Lib.hid (OQ.out.kept hg (fun g e => by cases e))
  replace Kg := Lib.hid (Kg.out.keptN hg)
  replace O7 := Lib.hid (O7.out.kept hg (fun g e => by cases e))
  clear hg
  clear O7
  go_wp2_with (refine stop_store rfl ?_)
  refine ⟨trivial, ?_⟩
  refine wpList_store_atQ rfl 27 (.tmp 12) (.tmp 77) _ 0 _ _ _ #[.int .i64 D.many, .int .i64 D.need, .bool D.on, .int .i64 D.at_, .slice a5 D.n c5, .bool D.veto] 27 (Blk.new v14 #[.int .i64 0, .int .i64 0, .bool false, .int .i64 0, .slice none 0 0, .bool false] 27) rfl rfl rfl rfl (Nat.le_of_ble_eq_true rfl) (by kernel_rfl) (by kernel_rfl) (by kernel_rfl) ?_
  intro u6 hgV hT
  have hg : (v14).grownBy u6 none := grown_new (grown_alloc (v14) (.cells #[.int .i64 0, .int .i64 0, .bool false, .int .i64 0, .slice none 0 0, .bool false] 27) none) (Nat.le_refl _) hgV
  have Kh := Lib.hid hT
  clear hgV hT
  replace G := Lib.hid (gtr G.out hg)
  replace B := Lib.hid (B.out.keptN hg)
  replace OW := Lib.hid (OW.out.kept hg (fun g e => by cases e))
  replace K2 := Lib.hid (K2.out.keptN hg)
  replace Kx := Lib.hid (Kx.out.keptN hg)
  replace OQ := Lib.hid (OQ.out.kept hg (fun g e => by cases e))
  replace Kg := Lib.hid (Kg.out.keptN hg)
  replace OH := Lib.hid (OH.out.kept hg (fun g e => by cases e))
  clear hg
  generalize (v14).heap.size = k5 at *
  have Kh_0 : World.cell? u6 ⟨k5, 0, none⟩ = some (.int .i64 D.many) := Kh.out.cell 0
  have Kh_1 : World.cell? u6 ⟨k5, 1, none⟩ = some (.int .i64 D.need) := Kh.out.cell 1
  have Kh_2 : World.cell? u6 ⟨k5, 2, none⟩ = some (.bool D.on) := Kh.out.cell 2
  have Kh_3 : World.cell? u6 ⟨k5, 3, none⟩ = some (.int .i64 D.at_) := Kh.out.cell 3
  have Kh_4 : World.cell? u6 ⟨k5, 4, none⟩ = some (.slice a5 D.n c5) := Kh.out.cell 4
  have Kh_5 : World.cell? u6 ⟨k5, 5, none⟩ = some (.bool D.veto) := Kh.out.cell 5
  have K2_0 : World.cell? u6 ⟨k2, 0, none⟩ = some (.int .i64 D.many) := K2.out.cell 0
  have K2_1 : World.cell? u6 ⟨k2, 1, none⟩ = some (.int .i64 D.need) := K2.out.cell 1
  have K2_2 : World.cell? u6 ⟨k2, 2, none⟩ = some (.bool D.on) := K2.out.cell 2
  have K2_3 : World.cell? u6 ⟨k2, 3, none⟩ = some (.int .i64 D.at_) := K2.out.cell 3
  have K2_4 : World.cell? u6 ⟨k2, 4, none⟩ = some (.slice a2 D.n c2) := K2.out.cell 4
  have K2_5 : World.cell? u6 ⟨k2, 5, none⟩ = some (.bool D.veto) := K2.out.cell 5
  go_wp2_with fail
  refine (eqcrt _ D.many D.need D.on D.at_ a5 a2 D.n c5 c2 D.f D.veto OH.out.ints OW.out.ints (by omega)).mono ?_
  rintro e v15 ⟨rfl, hg⟩
  clear Kh_0 Kh_1 Kh_2 Kh_3 Kh_4 Kh_5 K2_0 K2_1 K2_2 K2_3 K2_4 K2_5
  replace G := Lib.hid (gtr G.out hg)
  replace B := Lib.hid (B.out.keptN hg)
  replace OW := Lib.hid (OW.out.kept hg (fun g e => by cases e))
  replace K2 := Lib.hid (K2.out.keptN hg)
  replace Kx := Lib.hid (Kx.out.keptN hg)
  replace OQ := Lib.hid (OQ.out.kept hg (fun g e => by cases e))
  replace Kg := Lib.hid (Kg.out.keptN hg)
  replace OH := Lib.hid (OH.out.kept hg (fun g e => by cases e))
  replace Kh := Lib.hid (Kh.out.keptN hg)
  clear hg
  have Kg_0 : World.cell? v15 ⟨k4, 0, none⟩ = some (.int .i64 D.many) := Kg.out.cell 0
  have Kg_1 : World.cell? v15 ⟨k4, 1, none⟩ = some (.int .i64 D.need) := Kg.out.cell 1
  have Kg_2 : World.cell? v15 ⟨k4, 2, none⟩ = some (.bool D.on) := Kg.out.cell 2
  have Kg_3 : World.cell? v15 ⟨k4, 3, none⟩ = some (.int .i64 D.at_) := Kg.out.cell 3
  have Kg_4 : World.cell? v15 ⟨k4, 4, none⟩ = some (.slice a4 D.n c4) := Kg.out.cell 4
  have Kg_5 : World.cell? v15 ⟨k4, 5, none⟩ = some (.bool D.veto) := Kg.out.cell 5
  go_wp2_with fail
  refine (heldct _ D.many D.need D.on D.at_ a4 D.n c4 D.veto 1 OQ.out.ints (by omega) (by omega)).mono ?_
  rintro e v16 ⟨rfl, hg⟩
  clear Kg_0 Kg_1 Kg_2 Kg_3 Kg_4 Kg_5
  replace G := Lib.hid (gtr G.out hg)
  replace B := Lib.hid (B.out.keptN hg)
  replace OW := Lib.hid (OW.out.kept hg (fun g e => by cases e))
  replace K2 := Lib.hid (K2.out.keptN hg)
  replace Kx := Lib.hid (Kx.out.keptN hg)
  replace OQ := Lib.hid (OQ.out.kept hg (fun g e => by cases e))
  replace Kg := Lib.hid (Kg.out.keptN hg)
  replace OH := Lib.hid (OH.out.kept hg (fun g e => by cases e))
  replace Kh := Lib.hid (Kh.out.keptN hg)
  clear hg
  go_wp2
  go_ret
  exact ⟨rfl, below_of G.out⟩
end Run
end Go.Proofs.Ytbfmigmhmjgdgaa
