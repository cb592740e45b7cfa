/-
  The walks of the exact laws on what is said of courts.
-/
import Derived.Test.YtbfmigmhmjgdgaaZx
import Derived.Test.YtbfmigmhmjgdgaaZi
import Derived.Deep.RegionHeld3
namespace Go.Proofs.Ytbfmigmhmjgdgaa
namespace Run
open Go.RowKit Alg Mem Con Draw Ct
set_option linter.unusedVariables false

set_option maxRecDepth 100000 in
set_option maxHeartbeats 8000000 in
theorem FnExactCourtOk (many need : Int) (on : Bool) (at_ : Int) (a : Option Addr) (n c : Nat) (f : Nat → Int) (veto : Bool) (w : World) (hI : Ints w a n f) (hc : n ≤ c) (hm : c ≤ maxLen) :
    Calls Try.prog 12 #[.agg #[.int .i64 many, .int .i64 need, .bool on, .int .i64 at_, .slice a n c, .bool veto]] w (Yes w) := by
  have G := Lib.hid (grown_alloc w (.cells #[.int .i64 many, .int .i64 need, .bool on, .int .i64 at_, .slice a n c, .bool veto] 43) none)
  have B := Lib.hid (Blk.new w #[.int .i64 many, .int .i64 need, .bool on, .int .i64 at_, .slice a n c, .bool veto] 43)
  have HI := Lib.hid hI; clear hI
  go_enter Try.func12, Try.ntmps12
  have B_0 : World.cell? (w.alloc (.cells #[.int .i64 many, .int .i64 need, .bool on, .int .i64 at_, .slice a n c, .bool veto] 43)) ⟨w.heap.size, 0, none⟩ = some (.int .i64 many) := B.out.cell 0
  have B_1 : World.cell? (w.alloc (.cells #[.int .i64 many, .int .i64 need, .bool on, .int .i64 at_, .slice a n c, .bool veto] 43)) ⟨w.heap.size, 1, none⟩ = some (.int .i64 need) := B.out.cell 1
  have B_2 : World.cell? (w.alloc (.cells #[.int .i64 many, .int .i64 need, .bool on, .int .i64 at_, .slice a n c, .bool veto] 43)) ⟨w.heap.size, 2, none⟩ = some (.bool on) := B.out.cell 2
  have B_3 : World.cell? (w.alloc (.cells #[.int .i64 many, .int .i64 need, .bool on, .int .i64 at_, .slice a n c, .bool veto] 43)) ⟨w.heap.size, 3, none⟩ = some (.int .i64 at_) := B.out.cell 3
  have B_4 : World.cell? (w.alloc (.cells #[.int .i64 many, .int .i64 need, .bool on, .int .i64 at_, .slice a n c, .bool veto] 43)) ⟨w.heap.size, 4, none⟩ = some (.slice a n c) := B.out.cell 4
  have B_5 : World.cell? (w.alloc (.cells #[.int .i64 many, .int .i64 need, .bool on, .int .i64 at_, .slice a n c, .bool veto] 43)) ⟨w.heap.size, 5, none⟩ = some (.bool veto) := B.out.cell 5
  go_wp2_with fail
  refine (szcrt _ many need on at_ a n c veto 1048576 (by omega) (by omega) (by omega)).mono ?_
  rintro e v1 ⟨⟨r, rfl, hr⟩, hg⟩
  clear B_0 B_1 B_2 B_3 B_4 B_5
  replace G := Lib.hid (gtr G.out hg)
  replace B := Lib.hid (B.out.keptN hg)
  clear hg
  rcases hr with rfl | ⟨r0, r1, hn⟩
  · go_wp2
    go_ret
    exact ⟨rfl, below_of G.out⟩
  have hnr : ¬ r < 0 := by omega
  have hnm : n ≤ maxLen := by unfold maxLen; omega
  clear r1
  obtain ⟨g, hg0⟩ : ∃ g, cokF ⟨many, need, on, at_, n, f, veto⟩ = g := ⟨_, rfl⟩
  have HK := Lib.hid hg0
  clear hg0
  have hne : (g != g) = false := by simp
  have B_0 : World.cell? v1 ⟨w.heap.size, 0, none⟩ = some (.int .i64 many) := B.out.cell 0
  have B_1 : World.cell? v1 ⟨w.heap.size, 1, none⟩ = some (.int .i64 need) := B.out.cell 1
  have B_2 : World.cell? v1 ⟨w.heap.size, 2, none⟩ = some (.bool on) := B.out.cell 2
  have B_3 : World.cell? v1 ⟨w.heap.size, 3, none⟩ = some (.int .i64 at_) := B.out.cell 3
  have B_4 : World.cell? v1 ⟨w.heap.size, 4, none⟩ = some (.slice a n c) := B.out.cell 4
  have B_5 : World.cell? v1 ⟨w.heap.size, 5, none⟩ = some (.bool veto) := B.out.cell 5
  go_wp2_with fail
  refine (tocrt _ many need on at_ a n c f veto (HI.out.kept G.out) (by omega)).mono ?_
  rintro e v2 ⟨b1, rfl, hO, hg⟩
  have O1 := Lib.hid hO; clear hO
  clear B_0 B_1 B_2 B_3 B_4 B_5
  replace G := Lib.hid (gtr G.out hg)
  replace B := Lib.hid (B.out.keptN hg)
  clear hg
  go_wp2_with fail
  refine (sctok _ many need on at_ _ n n f veto O1.out.ints (by omega) (Nat.le_refl _) hnm).mono ?_
  rintro e v3 ⟨rfl, hg⟩
  rw [HK.out]
  replace G := Lib.hid (gtr G.out hg)
  replace B := Lib.hid (B.out.keptN hg)
  replace O1 := Lib.hid (O1.out.kept hg (fun g e => by cases e))
  clear hg
  clear O1
  have B_0 : World.cell? v3 ⟨w.heap.size, 0, none⟩ = some (.int .i64 many) := B.out.cell 0
  have B_1 : World.cell? v3 ⟨w.heap.size, 1, none⟩ = some (.int .i64 need) := B.out.cell 1
  have B_2 : World.cell? v3 ⟨w.heap.size, 2, none⟩ = some (.bool on) := B.out.cell 2
  have B_3 : World.cell? v3 ⟨w.heap.size, 3, none⟩ = some (.int .i64 at_) := B.out.cell 3
  have B_4 : World.cell? v3 ⟨w.heap.size, 4, none⟩ = some (.slice a n c) := B.out.cell 4
  have B_5 : World.cell? v3 ⟨w.heap.size, 5, none⟩ = some (.bool veto) := B.out.cell 5
  go_wp2_with fail
  refine (tocrt _ many need on at_ a n c f veto (HI.out.kept G.out) (by omega)).mono ?_
  rintro e v4 ⟨b3, rfl, hO, hg⟩
  have OX := Lib.hid hO; clear hO
  clear B_0 B_1 B_2 B_3 B_4 B_5
  replace G := Lib.hid (gtr G.out hg)
  replace B := Lib.hid (B.out.keptN hg)
  clear hg
  go_wp2_with (refine stop_store rfl ?_)
  refine ⟨trivial, ?_⟩
  refine wpList_store_atQ rfl 27 (.tmp 5) (.tmp 16) _ 0 _ _ _ #[.int .i64 many, .int .i64 need, .bool on, .int .i64 at_, .slice (some ⟨b3, 0, none⟩) n n, .bool veto] 27 (Blk.new v4 #[.int .i64 0, .int .i64 0, .bool false, .int .i64 0, .slice none 0 0, .bool false] 27) rfl rfl rfl rfl (Nat.le_of_ble_eq_true rfl) (by kernel_rfl) (by kernel_rfl) (by kernel_rfl) ?_
  intro u4 hgV hT
  have hg : (v4).grownBy u4 none := grown_new (grown_alloc (v4) (.cells #[.int .i64 0, .int .i64 0, .bool false, .int .i64 0, .slice none 0 0, .bool false] 27) none) (Nat.le_refl _) hgV
  have Kx := Lib.hid hT
  clear hgV hT
  replace G := Lib.hid (gtr G.out hg)
  replace B := Lib.hid (B.out.keptN hg)
  replace OX := Lib.hid (OX.out.kept hg (fun g e => by cases e))
  clear hg
  generalize (v4).heap.size = k3 at *
  have Kx_0 : World.cell? u4 ⟨k3, 0, none⟩ = some (.int .i64 many) := Kx.out.cell 0
  have Kx_1 : World.cell? u4 ⟨k3, 1, none⟩ = some (.int .i64 need) := Kx.out.cell 1
  have Kx_2 : World.cell? u4 ⟨k3, 2, none⟩ = some (.bool on) := Kx.out.cell 2
  have Kx_3 : World.cell? u4 ⟨k3, 3, none⟩ = some (.int .i64 at_) := Kx.out.cell 3
  have Kx_4 : World.cell? u4 ⟨k3, 4, none⟩ = some (.slice (some ⟨b3, 0, none⟩) n n) := Kx.out.cell 4
  have Kx_5 : World.cell? u4 ⟨k3, 5, none⟩ = some (.bool veto) := Kx.out.cell 5
  go_wp2_with fail
  refine (ictok _ many need on at_ (some ⟨b3, 0, none⟩) n n f veto OX.out.ints (by omega) (Nat.le_refl _) hnm).mono ?_
  rintro e v5 ⟨rfl, hg⟩
  rw [HK.out]
  clear Kx_0 Kx_1 Kx_2 Kx_3 Kx_4 Kx_5
  replace G := Lib.hid (gtr G.out hg)
  replace B := Lib.hid (B.out.keptN hg)
  replace OX := Lib.hid (OX.out.kept hg (fun g e => by cases e))
  replace Kx := Lib.hid (Kx.out.keptN hg)
  clear hg
  go_wp2_with fail
  refine wp_region_held_drew (S := (fun w' => w'.cell? ⟨k3, 0, none⟩ = some (.int .i64 many) ∧ w'.cell? ⟨k3, 1, none⟩ = some (.int .i64 need) ∧ w'.cell? ⟨k3, 2, none⟩ = some (.bool on) ∧ w'.cell? ⟨k3, 3, none⟩ = some (.int .i64 at_) ∧ w'.cell? ⟨k3, 4, none⟩ = some (.slice (some ⟨b3, 0, none⟩) n n) ∧ w'.cell? ⟨k3, 5, none⟩ = some (.bool veto) ∧ w'.cell? ⟨w.heap.size, 0, none⟩ = some (.int .i64 many) ∧ w'.cell? ⟨w.heap.size, 1, none⟩ = some (.int .i64 need) ∧ w'.cell? ⟨w.heap.size, 2, none⟩ = some (.bool on) ∧ w'.cell? ⟨w.heap.size, 3, none⟩ = some (.int .i64 at_) ∧ w'.cell? ⟨w.heap.size, 4, none⟩ = some (.slice a n c) ∧ w'.cell? ⟨w.heap.size, 5, none⟩ = some (.bool veto))) (by kernel_rfl) (⟨Kx.out.cell 0, Kx.out.cell 1, Kx.out.cell 2, Kx.out.cell 3, Kx.out.cell 4, Kx.out.cell 5, B.out.cell 0, B.out.cell 1, B.out.cell 2, B.out.cell 3, B.out.cell 4, B.out.cell 5⟩) (fun hHeld => ?_)
  have hg := gdrew v5
  replace G := Lib.hid (gtr G.out hg)
  replace B := Lib.hid (B.out.keptN hg)
  replace OX := Lib.hid (OX.out.kept hg (fun g e => by cases e))
  replace Kx := Lib.hid (Kx.out.keptN hg)
  clear hg
  generalize (v5).drew = W0 at *
  refine wpAnyH_take (i := 0) (oi := ⟨some 22, _, _, _, _, _⟩) (v := ?_) rfl (by kernel_rfl) (by kernel_rfl) (by kernel_rfl) (fun _ _ _ h => h) (Or.inl ⟨by rfl, ?_⟩) (by assumption) ?_
  rotate_left
  · intro w hSw; (try dsimp only at hSw); go_simp; try with_reducible rfl
  simp only [Act.put, List.setIfInBounds_toArray, List.set_cons_zero, List.set_cons_succ]
  refine wpAnyH_take (i := 1) (oi := ⟨some 23, _, _, _, _, _⟩) (v := ?_) rfl (by kernel_rfl) (by kernel_rfl) (by kernel_rfl) (fun _ _ _ h => h) (Or.inl ⟨by rfl, ?_⟩) (by assumption) ?_
  rotate_left
  · intro w hSw; (try dsimp only at hSw); go_simp; try with_reducible rfl
  simp only [Act.put, List.setIfInBounds_toArray, List.set_cons_zero, List.set_cons_succ]
  refine wpAnyH_ready (rs := [2]) (by kernel_rfl) (by simp) ?_
  refine AllReadyH.cons (o := ⟨some 24, _, _, _, _, _⟩) rfl (fun Kq hKq => ?_) AllReadyH.nil
  go_simp
  go_at_call 36
  refine (tocrt _ many need on at_ a n c f veto (HI.out.kept G.out) (by omega)).mono ?_
  rintro e v7 ⟨b6, rfl, hO, hg⟩
  have O6 := Lib.hid hO; clear hO
  replace G := Lib.hid (gtr G.out hg)
  replace B := Lib.hid (B.out.keptN hg)
  replace OX := Lib.hid (OX.out.kept hg (fun g e => by cases e))
  replace Kx := Lib.hid (Kx.out.keptN hg)
  clear hg
  refine hKq.out _ _ (⟨Kx.out.cell 0, Kx.out.cell 1, Kx.out.cell 2, Kx.out.cell 3, Kx.out.cell 4, Kx.out.cell 5, B.out.cell 0, B.out.cell 1, B.out.cell 2, B.out.cell 3, B.out.cell 4, B.out.cell 5⟩) (fun hHeld => ?_)
  clear hKq Kq
  refine wpAnyH_ready (rs := [3]) (by kernel_rfl) (by simp) ?_
  refine AllReadyH.cons (o := ⟨some 25, _, _, _, _, _⟩) rfl (fun Kq hKq => ?_) AllReadyH.nil
  go_simp
  go_at_call 37
  refine (eqcrt _ many need on at_ (some ⟨b3, 0, none⟩) (some ⟨b6, 0, none⟩) n n n f veto OX.out.ints O6.out.ints (by omega)).mono ?_
  rintro e v8 ⟨rfl, hg⟩
  clear O6
  replace G := Lib.hid (gtr G.out hg)
  replace B := Lib.hid (B.out.keptN hg)
  replace OX := Lib.hid (OX.out.kept hg (fun g e => by cases e))
  replace Kx := Lib.hid (Kx.out.keptN hg)
  clear hg
  refine hKq.out _ _ (⟨Kx.out.cell 0, Kx.out.cell 1, Kx.out.cell 2, Kx.out.cell 3, Kx.out.cell 4, Kx.out.cell 5, B.out.cell 0, B.out.cell 1, B.out.cell 2, B.out.cell 3, B.out.cell 4, B.out.cell 5⟩) (fun hHeld => ?_)
  clear hKq Kq
  refine wpAnyH_take (i := 4) (oi := ⟨some 26, _, _, _, _, _⟩) (v := ?_) rfl (by kernel_rfl) (by kernel_rfl) (by kernel_rfl) (fun _ _ _ h => h) (Or.inl ⟨by rfl, ?_⟩) (by assumption) ?_
  rotate_left
  · intro w hSw; (try dsimp only at hSw); go_simp; try with_reducible rfl
  simp only [Act.put, List.setIfInBounds_toArray, List.set_cons_zero, List.set_cons_succ]
  refine wpAnyH_done (by kernel_rfl) ?_ _
  go_wp2
  go_ret
  exact ⟨rfl, below_of G.out⟩
set_option maxRecDepth 100000 in
set_option maxHeartbeats 8000000 in
theorem FnExactCourtMay (many need : Int) (on : Bool) (at_ : Int) (a : Option Addr) (n c : Nat) (f : Nat → Int) (veto : Bool) (now : Int) (w : World) (hI : Ints w a n f) (hc : n ≤ c) (hm : c ≤ maxLen) :
    Calls Try.prog 16 #[.agg #[.int .i64 many, .int .i64 need, .bool on, .int .i64 at_, .slice a n c, .bool veto], .int .i64 now] w (Yes w) := by
  have G := Lib.hid (grown_alloc w (.cells #[.int .i64 many, .int .i64 need, .bool on, .int .i64 at_, .slice a n c, .bool veto] 43) none)
  have B := Lib.hid (Blk.new w #[.int .i64 many, .int .i64 need, .bool on, .int .i64 at_, .slice a n c, .bool veto] 43)
  have HI := Lib.hid hI; clear hI
  go_enter Try.func16, Try.ntmps16
  have B_0 : World.cell? (w.alloc (.cells #[.int .i64 many, .int .i64 need, .bool on, .int .i64 at_, .slice a n c, .bool veto] 43)) ⟨w.heap.size, 0, none⟩ = some (.int .i64 many) := B.out.cell 0
  have B_1 : World.cell? (w.alloc (.cells #[.int .i64 many, .int .i64 need, .bool on, .int .i64 at_, .slice a n c, .bool veto] 43)) ⟨w.heap.size, 1, none⟩ = some (.int .i64 need) := B.out.cell 1
  have B_2 : World.cell? (w.alloc (.cells #[.int .i64 many, .int .i64 need, .bool on, .int .i64 at_, .slice a n c, .bool veto] 43)) ⟨w.heap.size, 2, none⟩ = some (.bool on) := B.out.cell 2
  have B_3 : World.cell? (w.alloc (.cells #[.int .i64 many, .int .i64 need, .bool on, .int .i64 at_, .slice a n c, .bool veto] 43)) ⟨w.heap.size, 3, none⟩ = some (.int .i64 at_) := B.out.cell 3
  have B_4 : World.cell? (w.alloc (.cells #[.int .i64 many, .int .i64 need, .bool on, .int .i64 at_, .slice a n c, .bool veto] 43)) ⟨w.heap.size, 4, none⟩ = some (.slice a n c) := B.out.cell 4
  have B_5 : World.cell? (w.alloc (.cells #[.int .i64 many, .int .i64 need, .bool on, .int .i64 at_, .slice a n c, .bool veto] 43)) ⟨w.heap.size, 5, none⟩ = some (.bool veto) := B.out.cell 5
  go_wp2_with fail
  refine (szcrt _ many need on at_ a n c veto 1048576 (by omega) (by omega) (by omega)).mono ?_
  rintro e v1 ⟨⟨r, rfl, hr⟩, hg⟩
  clear B_0 B_1 B_2 B_3 B_4 B_5
  replace G := Lib.hid (gtr G.out hg)
  replace B := Lib.hid (B.out.keptN hg)
  clear hg
  rcases hr with rfl | ⟨r0, r1, hn⟩
  · go_wp2
    go_ret
    exact ⟨rfl, below_of G.out⟩
  have hnr : ¬ r < 0 := by omega
  have hnm : n ≤ maxLen := by unfold maxLen; omega
  clear r1
  obtain ⟨g, hg0⟩ : ∃ g, cmF ⟨many, need, on, at_, n, f, veto⟩ now = g := ⟨_, rfl⟩
  have HK := Lib.hid hg0
  clear hg0
  have hne : (g != g) = false := by simp
  have B_0 : World.cell? v1 ⟨w.heap.size, 0, none⟩ = some (.int .i64 many) := B.out.cell 0
  have B_1 : World.cell? v1 ⟨w.heap.size, 1, none⟩ = some (.int .i64 need) := B.out.cell 1
  have B_2 : World.cell? v1 ⟨w.heap.size, 2, none⟩ = some (.bool on) := B.out.cell 2
  have B_3 : World.cell? v1 ⟨w.heap.size, 3, none⟩ = some (.int .i64 at_) := B.out.cell 3
  have B_4 : World.cell? v1 ⟨w.heap.size, 4, none⟩ = some (.slice a n c) := B.out.cell 4
  have B_5 : World.cell? v1 ⟨w.heap.size, 5, none⟩ = some (.bool veto) := B.out.cell 5
  go_wp2_with fail
  refine (tocrt _ many need on at_ a n c f veto (HI.out.kept G.out) (by omega)).mono ?_
  rintro e v2 ⟨b1, rfl, hO, hg⟩
  have O1 := Lib.hid hO; clear hO
  clear B_0 B_1 B_2 B_3 B_4 B_5
  replace G := Lib.hid (gtr G.out hg)
  replace B := Lib.hid (B.out.keptN hg)
  clear hg
  go_wp2_with fail
  refine (smay _ many need on at_ _ n n f veto now O1.out.ints (by omega) (Nat.le_refl _) hnm).mono ?_
  rintro e v3 ⟨rfl, hg⟩
  rw [HK.out]
  replace G := Lib.hid (gtr G.out hg)
  replace B := Lib.hid (B.out.keptN hg)
  replace O1 := Lib.hid (O1.out.kept hg (fun g e => by cases e))
  clear hg
  clear O1
  have B_0 : World.cell? v3 ⟨w.heap.size, 0, none⟩ = some (.int .i64 many) := B.out.cell 0
  have B_1 : World.cell? v3 ⟨w.heap.size, 1, none⟩ = some (.int .i64 need) := B.out.cell 1
  have B_2 : World.cell? v3 ⟨w.heap.size, 2, none⟩ = some (.bool on) := B.out.cell 2
  have B_3 : World.cell? v3 ⟨w.heap.size, 3, none⟩ = some (.int .i64 at_) := B.out.cell 3
  have B_4 : World.cell? v3 ⟨w.heap.size, 4, none⟩ = some (.slice a n c) := B.out.cell 4
  have B_5 : World.cell? v3 ⟨w.heap.size, 5, none⟩ = some (.bool veto) := B.out.cell 5
  go_wp2_with fail
  refine (tocrt _ many need on at_ a n c f veto (HI.out.kept G.out) (by omega)).mono ?_
  rintro e v4 ⟨b3, rfl, hO, hg⟩
  have OX := Lib.hid hO; clear hO
  clear B_0 B_1 B_2 B_3 B_4 B_5
  replace G := Lib.hid (gtr G.out hg)
  replace B := Lib.hid (B.out.keptN hg)
  clear hg
  go_wp2_with (refine stop_store rfl ?_)
  refine ⟨trivial, ?_⟩
  refine wpList_store_atQ rfl 27 (.tmp 7) (.tmp 19) _ 0 _ _ _ #[.int .i64 many, .int .i64 need, .bool on, .int .i64 at_, .slice (some ⟨b3, 0, none⟩) n n, .bool veto] 27 (Blk.new v4 #[.int .i64 0, .int .i64 0, .bool false, .int .i64 0, .slice none 0 0, .bool false] 27) rfl rfl rfl rfl (Nat.le_of_ble_eq_true rfl) (by kernel_rfl) (by kernel_rfl) (by kernel_rfl) ?_
  intro u4 hgV hT
  have hg : (v4).grownBy u4 none := grown_new (grown_alloc (v4) (.cells #[.int .i64 0, .int .i64 0, .bool false, .int .i64 0, .slice none 0 0, .bool false] 27) none) (Nat.le_refl _) hgV
  have Kx := Lib.hid hT
  clear hgV hT
  replace G := Lib.hid (gtr G.out hg)
  replace B := Lib.hid (B.out.keptN hg)
  replace OX := Lib.hid (OX.out.kept hg (fun g e => by cases e))
  clear hg
  generalize (v4).heap.size = k3 at *
  have Kx_0 : World.cell? u4 ⟨k3, 0, none⟩ = some (.int .i64 many) := Kx.out.cell 0
  have Kx_1 : World.cell? u4 ⟨k3, 1, none⟩ = some (.int .i64 need) := Kx.out.cell 1
  have Kx_2 : World.cell? u4 ⟨k3, 2, none⟩ = some (.bool on) := Kx.out.cell 2
  have Kx_3 : World.cell? u4 ⟨k3, 3, none⟩ = some (.int .i64 at_) := Kx.out.cell 3
  have Kx_4 : World.cell? u4 ⟨k3, 4, none⟩ = some (.slice (some ⟨b3, 0, none⟩) n n) := Kx.out.cell 4
  have Kx_5 : World.cell? u4 ⟨k3, 5, none⟩ = some (.bool veto) := Kx.out.cell 5
  go_wp2_with fail
  refine (imay _ many need on at_ (some ⟨b3, 0, none⟩) n n f veto now OX.out.ints (by omega) (Nat.le_refl _) hnm).mono ?_
  rintro e v5 ⟨rfl, hg⟩
  rw [HK.out]
  clear Kx_0 Kx_1 Kx_2 Kx_3 Kx_4 Kx_5
  replace G := Lib.hid (gtr G.out hg)
  replace B := Lib.hid (B.out.keptN hg)
  replace OX := Lib.hid (OX.out.kept hg (fun g e => by cases e))
  replace Kx := Lib.hid (Kx.out.keptN hg)
  clear hg
  go_wp2_with fail
  refine wp_region_held_drew (S := (fun w' => w'.cell? ⟨k3, 0, none⟩ = some (.int .i64 many) ∧ w'.cell? ⟨k3, 1, none⟩ = some (.int .i64 need) ∧ w'.cell? ⟨k3, 2, none⟩ = some (.bool on) ∧ w'.cell? ⟨k3, 3, none⟩ = some (.int .i64 at_) ∧ w'.cell? ⟨k3, 4, none⟩ = some (.slice (some ⟨b3, 0, none⟩) n n) ∧ w'.cell? ⟨k3, 5, none⟩ = some (.bool veto) ∧ w'.cell? ⟨w.heap.size, 0, none⟩ = some (.int .i64 many) ∧ w'.cell? ⟨w.heap.size, 1, none⟩ = some (.int .i64 need) ∧ w'.cell? ⟨w.heap.size, 2, none⟩ = some (.bool on) ∧ w'.cell? ⟨w.heap.size, 3, none⟩ = some (.int .i64 at_) ∧ w'.cell? ⟨w.heap.size, 4, none⟩ = some (.slice a n c) ∧ w'.cell? ⟨w.heap.size, 5, none⟩ = some (.bool veto))) (by kernel_rfl) (⟨Kx.out.cell 0, Kx.out.cell 1, Kx.out.cell 2, Kx.out.cell 3, Kx.out.cell 4, Kx.out.cell 5, B.out.cell 0, B.out.cell 1, B.out.cell 2, B.out.cell 3, B.out.cell 4, B.out.cell 5⟩) (fun hHeld => ?_)
  have hg := gdrew v5
  replace G := Lib.hid (gtr G.out hg)
  replace B := Lib.hid (B.out.keptN hg)
  replace OX := Lib.hid (OX.out.kept hg (fun g e => by cases e))
  replace Kx := Lib.hid (Kx.out.keptN hg)
  clear hg
  generalize (v5).drew = W0 at *
  refine wpAnyH_take (i := 0) (oi := ⟨some 26, _, _, _, _, _⟩) (v := ?_) rfl (by kernel_rfl) (by kernel_rfl) (by kernel_rfl) (fun _ _ _ h => h) (Or.inl ⟨by rfl, ?_⟩) (by assumption) ?_
  rotate_left
  · intro w hSw; (try dsimp only at hSw); go_simp; try with_reducible rfl
  simp only [Act.put, List.setIfInBounds_toArray, List.set_cons_zero, List.set_cons_succ]
  refine wpAnyH_take (i := 1) (oi := ⟨some 27, _, _, _, _, _⟩) (v := ?_) rfl (by kernel_rfl) (by kernel_rfl) (by kernel_rfl) (fun _ _ _ h => h) (Or.inl ⟨by rfl, ?_⟩) (by assumption) ?_
  rotate_left
  · intro w hSw; (try dsimp only at hSw); go_simp; try with_reducible rfl
  simp only [Act.put, List.setIfInBounds_toArray, List.set_cons_zero, List.set_cons_succ]
  refine wpAnyH_ready (rs := [2]) (by kernel_rfl) (by simp) ?_
  refine AllReadyH.cons (o := ⟨some 28, _, _, _, _, _⟩) rfl (fun Kq hKq => ?_) AllReadyH.nil
  go_simp
  go_at_call 36
  refine (tocrt _ many need on at_ a n c f veto (HI.out.kept G.out) (by omega)).mono ?_
  rintro e v7 ⟨b6, rfl, hO, hg⟩
  have O6 := Lib.hid hO; clear hO
  replace G := Lib.hid (gtr G.out hg)
  replace B := Lib.hid (B.out.keptN hg)
  replace OX := Lib.hid (OX.out.kept hg (fun g e => by cases e))
  replace Kx := Lib.hid (Kx.out.keptN hg)
  clear hg
  refine hKq.out _ _ (⟨Kx.out.cell 0, Kx.out.cell 1, Kx.out.cell 2, Kx.out.cell 3, Kx.out.cell 4, Kx.out.cell 5, B.out.cell 0, B.out.cell 1, B.out.cell 2, B.out.cell 3, B.out.cell 4, B.out.cell 5⟩) (fun hHeld => ?_)
  clear hKq Kq
  refine wpAnyH_ready (rs := [3]) (by kernel_rfl) (by simp) ?_
  refine AllReadyH.cons (o := ⟨some 29, _, _, _, _, _⟩) rfl (fun Kq hKq => ?_) AllReadyH.nil
  go_simp
  go_at_call 37
  refine (eqcrt _ many need on at_ (some ⟨b3, 0, none⟩) (some ⟨b6, 0, none⟩) n n n f veto OX.out.ints O6.out.ints (by omega)).mono ?_
  rintro e v8 ⟨rfl, hg⟩
  clear O6
  replace G := Lib.hid (gtr G.out hg)
  replace B := Lib.hid (B.out.keptN hg)
  replace OX := Lib.hid (OX.out.kept hg (fun g e => by cases e))
  replace Kx := Lib.hid (Kx.out.keptN hg)
  clear hg
  refine hKq.out _ _ (⟨Kx.out.cell 0, Kx.out.cell 1, Kx.out.cell 2, Kx.out.cell 3, Kx.out.cell 4, Kx.out.cell 5, B.out.cell 0, B.out.cell 1, B.out.cell 2, B.out.cell 3, B.out.cell 4, B.out.cell 5⟩) (fun hHeld => ?_)
  clear hKq Kq
  refine wpAnyH_take (i := 4) (oi := ⟨some 30, _, _, _, _, _⟩) (v := ?_) rfl (by kernel_rfl) (by kernel_rfl) (by kernel_rfl) (fun _ _ _ h => h) (Or.inl ⟨by rfl, ?_⟩) (by assumption) ?_
  rotate_left
  · intro w hSw; (try dsimp only at hSw); go_simp; try with_reducible rfl
  simp only [Act.put, List.setIfInBounds_toArray, List.set_cons_zero, List.set_cons_succ]
  refine wpAnyH_done (by kernel_rfl) ?_ _
  go_wp2
  go_ret
  exact ⟨rfl, below_of G.out⟩
end Run
end Go.Proofs.Ytbfmigmhmjgdgaa
