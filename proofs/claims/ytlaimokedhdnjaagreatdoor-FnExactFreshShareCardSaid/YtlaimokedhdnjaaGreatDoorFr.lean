/-
  Shares made anew: which deals are of nothing; the program's function and the model's.
-/
import Derived.Test.YtlaimokedhdnjaaGreatDoorKc
import Derived.Test.YtlaimokedhdnjaaGreatDoorDo
import Derived.Test.YtlaimokedhdnjaaGreatDoorQa
import Derived.Deep.RegionHeld3
import Derived.Deep.RegionWith
namespace Go.Proofs.YtlaimokedhdnjaaGreatDoor
namespace Con
open Go.RowKit Alg Mem
set_option linter.unusedVariables false

/-- Is the deal one that makes shares of the key anew? -/
def frF (need many : Int) (ng : Nat) (zg : Nat → Int) (nc : Nat) (zc : Nat → Int) (f : Int) (n1 : Nat) (z1 : Nat → Int) (n2 : Nat) (z2 : Nat → Int) : Bool :=
  kyF need many ng zg nc zc && dlF f n1 z1 n2 z2 need many && decide (f ≤ many) && decide (z1 0 = 1) && decide ((bads f n1 z1 n2 z2 need many).length = 0)
theorem fr_iff {need many : Int} {ng : Nat} {zg : Nat → Int} {nc : Nat} {zc : Nat → Int} {f : Int} {n1 : Nat} {z1 : Nat → Int} {n2 : Nat} {z2 : Nat → Int} :
    frF need many ng zg nc zc f n1 z1 n2 z2 = true ↔ kyF need many ng zg nc zc = true ∧ dlF f n1 z1 n2 z2 need many = true ∧ f ≤ many ∧ z1 0 = 1 ∧ (bads f n1 z1 n2 z2 need many).length = 0 := by
  unfold frF; simp only [Bool.and_eq_true, decide_eq_true_eq, and_assoc]
theorem fr_not {need many : Int} {ng : Nat} {zg : Nat → Int} {nc : Nat} {zc : Nat → Int} {f : Int} {n1 : Nat} {z1 : Nat → Int} {n2 : Nat} {z2 : Nat → Int} (h : ¬ (kyF need many ng zg nc zc = true ∧ dlF f n1 z1 n2 z2 need many = true ∧ f ≤ many ∧ z1 0 = 1 ∧ (bads f n1 z1 n2 z2 need many).length = 0)) :
    frF need many ng zg nc zc f n1 z1 n2 z2 = false := by
  cases hh : frF need many ng zg nc zc f n1 z1 n2 z2 with
  | false => rfl
  | true => exact absurd (fr_iff.1 hh) h
theorem fr_last {need many : Int} {ng : Nat} {zg : Nat → Int} {nc : Nat} {zc : Nat → Int} {f : Int} {n1 : Nat} {z1 : Nat → Int} {n2 : Nat} {z2 : Nat → Int} (hk : kyF need many ng zg nc zc = true) (hd : dlF f n1 z1 n2 z2 need many = true) (hf : f ≤ many) (hz : z1 0 = 1) :
    frF need many ng zg nc zc f n1 z1 n2 z2 = (((bads f n1 z1 n2 z2 need many).length : Int) == 0) := by
  unfold frF; rw [hk, hd, decide_eq_true hf, decide_eq_true hz]
  apply Bool.eq_iff_iff.2; simp
set_option maxRecDepth 100000 in
set_option maxHeartbeats 4000000 in
theorem ifok (w : World) (need many : Int) (ag : Option Addr) (ng cg : Nat) (zg : Nat → Int) (ac : Option Addr) (nc cc : Nat) (zc : Nat → Int) (f : Int) (a1 : Option Addr) (n1 c1 : Nat) (z1 : Nat → Int) (a2 : Option Addr) (n2 c2 : Nat) (z2 : Nat → Int) (hG : Ints w ag ng zg) (hC : Ints w ac nc zc) (hA : Ints w a1 n1 z1) (hB : Ints w a2 n2 z2) (hl1 : ng ≤ 2000000) (hl2 : nc ≤ 2000000) (hl3 : n1 ≤ 2000000) (hl4 : n2 ≤ 2000000) (a0 : Addr) (hv : Sent w a0) :
    Calls Tryz.prog 33 #[.agg #[.int .i64 need, .int .i64 many, .slice ag ng cg, .slice ac nc cc], .agg #[.int .i64 f, .slice a1 n1 c1, .slice a2 n2 c2]] w fun e w' => e = .returned (.bool (frF need many ng zg nc zc f n1 z1 n2 z2)) ∧ w.grownBy w' none := by
  have G := Lib.hid (gtr (Draw.grown_alloc w (.cells #[.int .i64 need, .int .i64 many, .slice ag ng cg, .slice ac nc cc] 33) none) (Draw.grown_alloc _ (.cells #[.int .i64 f, .slice a1 n1 c1, .slice a2 n2 c2] 49) none))
  have K := Lib.hid ((Ky.new w need many (.slice ag ng cg) (.slice ac nc cc) 33).kept (Draw.grown_alloc _ (.cells #[.int .i64 f, .slice a1 n1 c1, .slice a2 n2 c2] 49) none))
  have D := Lib.hid (blk_new2 w (.cells #[.int .i64 need, .int .i64 many, .slice ag ng cg, .slice ac nc cc] 33) #[.int .i64 f, .slice a1 n1 c1, .slice a2 n2 c2] 49).dl
  have HG := Lib.hid (hG.kept G.out); have HC := Lib.hid (hC.kept G.out); have HA := Lib.hid (hA.kept G.out); have HB := Lib.hid (hB.kept G.out); have HV := Lib.hid (hv.kept G.out)
  clear hG hC hA hB hv
  go_enter Tryz.func33, Tryz.ntmps33
  obtain ⟨_, k0, k1, k2, k3⟩ := K.out
  obtain ⟨_, d0, d1, d2⟩ := D.out
  go_wp2_with fail
  refine (ikeyok _ need many _ _ _ zg _ _ _ zc HG.out HC.out hl1 hl2).mono ?_
  rintro e w1 ⟨rfl, hg⟩
  clear k0 k1 k2 k3
  clear d0 d1 d2
  replace G := Lib.hid (gtr G.out hg)
  replace K := Lib.hid (K.out.kept hg)
  replace D := Lib.hid (D.out.kept hg)
  replace HG := Lib.hid (HG.out.kept hg)
  replace HC := Lib.hid (HC.out.kept hg)
  replace HA := Lib.hid (HA.out.kept hg)
  replace HB := Lib.hid (HB.out.kept hg)
  replace HV := Lib.hid (HV.out.kept hg)
  clear hg
  obtain ⟨_, k0, k1, k2, k3⟩ := K.out
  obtain ⟨_, d0, d1, d2⟩ := D.out
  cases hk : kyF need many ng zg nc zc with
  | false =>
    have HR := Lib.hid (fr_not (need := need) (many := many) (ng := ng) (zg := zg) (nc := nc) (zc := zc) (f := f) (n1 := n1) (z1 := z1) (n2 := n2) (z2 := z2) (by simp [hk]))
    go_wp2
    go_ret
    exact ⟨by rw [HR.out]; rfl, G.out⟩
  | true =>
    go_wp2_with fail
    refine (idealok _ f _ n1 _ z1 _ n2 _ z2 need many HA.out HB.out hl3 hl4 a0 HV.out).mono ?_
    rintro e w2 ⟨rfl, hg⟩
    clear k0 k1 k2 k3
    clear d0 d1 d2
    replace G := Lib.hid (gtr G.out hg)
    replace K := Lib.hid (K.out.kept hg)
    replace D := Lib.hid (D.out.kept hg)
    replace HG := Lib.hid (HG.out.kept hg)
    replace HC := Lib.hid (HC.out.kept hg)
    replace HA := Lib.hid (HA.out.kept hg)
    replace HB := Lib.hid (HB.out.kept hg)
    replace HV := Lib.hid (HV.out.kept hg)
    clear hg
    obtain ⟨_, k0, k1, k2, k3⟩ := K.out
    obtain ⟨_, d0, d1, d2⟩ := D.out
    cases hd : dlF f n1 z1 n2 z2 need many with
    | false =>
      have HR := Lib.hid (fr_not (need := need) (many := many) (ng := ng) (zg := zg) (nc := nc) (zc := zc) (f := f) (n1 := n1) (z1 := z1) (n2 := n2) (z2 := z2) (by simp [hd]))
      go_wp2
      go_ret
      exact ⟨by rw [HR.out]; rfl, G.out⟩
    | true =>
      by_cases hf : many < f
      · have HR := Lib.hid (fr_not (need := need) (many := many) (ng := ng) (zg := zg) (nc := nc) (zc := zc) (f := f) (n1 := n1) (z1 := z1) (n2 := n2) (z2 := z2) (by intro h; omega))
        go_wp2
        go_ret
        exact ⟨by rw [HR.out]; rfl, G.out⟩
      · have hdd := dl_iff.1 hd
        have hn1 : (0 : Int) < (n1 : Int) := by omega
        have hn1' : 0 < n1 := by omega
        obtain ⟨b1, o1, rfl⟩ : ∃ b1 o1, a1 = some ⟨b1, o1, none⟩ := by
          rcases HA.out with h | ⟨b, off, h, _⟩
          · omega
          · exact ⟨b, off, h⟩
        obtain ⟨hb1, hcx⟩ : b1 < w2.heap.size ∧ w2.cell? ⟨b1, o1, none⟩ = some (.int .i64 (z1 0)) := by
          rcases HA.out with h | ⟨b, off, h, hb, hc⟩
          · omega
          · injection h with h; injection h with h1 h2; subst h1; subst h2
            exact ⟨hb, by simpa using hc 0 hn1'⟩
        have hFS : ∀ w', w2.grownBy w' none → (w'.cell? ⟨w.heap.size, 0, none⟩ = some (.int .i64 need) ∧ w'.cell? ⟨w.heap.size, 1, none⟩ = some (.int .i64 many) ∧ w'.cell? ⟨w.heap.size + 1, 0, none⟩ = some (.int .i64 f) ∧ w'.cell? ⟨w.heap.size + 1, 1, none⟩ = some (.slice (some ⟨b1, o1, none⟩) n1 c1) ∧ w'.cell? ⟨w.heap.size + 1, 2, none⟩ = some (.slice a2 n2 c2) ∧ w'.cell? ⟨b1, o1, none⟩ = some (.int .i64 (z1 0))) := fun w' Hg => ⟨(K.out.kept Hg).c0, (K.out.kept Hg).c1, (D.out.kept Hg).c0, (D.out.kept Hg).c1, (D.out.kept Hg).c2, (World.cell?_of_block (Hg.block b1 hb1 (by simp))).trans hcx⟩
        have HFS := Lib.hid hFS
        clear hFS
        by_cases hz : z1 0 = 1
        · have HF := Lib.hid (fr_last hk hd (by omega) hz)
          clear hd hk hdd k2 k3
          rw [hz] at hcx HFS
          go_wp2_with fail
          refine wp_region_held_drew (S := (fun w' => w'.cell? ⟨w.heap.size, 0, none⟩ = some (.int .i64 need) ∧ w'.cell? ⟨w.heap.size, 1, none⟩ = some (.int .i64 many) ∧ w'.cell? ⟨w.heap.size + 1, 0, none⟩ = some (.int .i64 f) ∧ w'.cell? ⟨w.heap.size + 1, 1, none⟩ = some (.slice (some ⟨b1, o1, none⟩) n1 c1) ∧ w'.cell? ⟨w.heap.size + 1, 2, none⟩ = some (.slice a2 n2 c2) ∧ w'.cell? ⟨b1, o1, none⟩ = some (.int .i64 1))) (by kernel_rfl) (⟨k0, k1, d0, d1, d2, hcx⟩) (fun hHeld => ?_)
          refine wpAnyH_take (i := 0) (oi := ⟨some 24, _, _, _, _, _⟩) (v := ?_) rfl (by kernel_rfl) (by kernel_rfl) (by kernel_rfl) (fun _ _ _ h => h) (Or.inl ⟨by rfl, ?_⟩) (by assumption) ?_
          rotate_left
          · intro w hSw; (try dsimp only at hSw); go_simp; try with_reducible rfl
          simp only [Act.put, List.setIfInBounds_toArray, List.set_cons_zero, List.set_cons_succ]
          refine wpAnyH_take (i := 1) (oi := ⟨some 25, _, _, _, _, _⟩) (v := ?_) rfl (by kernel_rfl) (by kernel_rfl) (by kernel_rfl) (fun _ _ _ h => h) (Or.inl ⟨by rfl, ?_⟩) (by assumption) ?_
          rotate_left
          · intro w hSw; (try dsimp only at hSw); go_simp; try with_reducible rfl
          simp only [Act.put, List.setIfInBounds_toArray, List.set_cons_zero, List.set_cons_succ]
          refine wpAnyH_take (i := 2) (oi := ⟨some 26, _, _, _, _, _⟩) (v := ?_) rfl (by kernel_rfl) (by kernel_rfl) (by kernel_rfl) (fun _ _ _ h => h) (Or.inl ⟨by rfl, ?_⟩) (by assumption) ?_
          rotate_left
          · intro w hSw; (try dsimp only at hSw); go_simp; try with_reducible rfl
          simp only [Act.put, List.setIfInBounds_toArray, List.set_cons_zero, List.set_cons_succ]
          refine wpAnyH_take (i := 3) (oi := ⟨some 27, _, _, _, _, _⟩) (v := ?_) rfl (by kernel_rfl) (by kernel_rfl) (by kernel_rfl) (fun _ _ _ h => h) (Or.inl ⟨by rfl, ?_⟩) (by assumption) ?_
          rotate_left
          · intro w hSw; (try dsimp only at hSw); go_simp; try with_reducible rfl
          simp only [Act.put, List.setIfInBounds_toArray, List.set_cons_zero, List.set_cons_succ]
          refine wpAnyH_ready (rs := [4]) (by kernel_rfl) (by simp) ?_
          refine AllReadyH.cons (o := ⟨some 28, _, _, _, _, _⟩) rfl (fun K hK => ?_) AllReadyH.nil
          go_simp
          go_at_call 48
          refine (igof 0 _).mono ?_
          rintro e w3 ⟨rfl, hg⟩
          rw [gof_zero]; have Hg := Lib.hid (show w2.grownBy w3 none from ⟨hg.os, hg.tape, hg.output, hg.size, hg.block⟩); clear hg
          refine hK.out _ _ (HFS.out _ Hg.out) (fun hHeld => ?_)
          clear hK K
          refine wpAnyH_take (i := 5) (oi := ⟨some 29, _, _, _, _, _⟩) (v := ?_) rfl (by kernel_rfl) (by kernel_rfl) (by kernel_rfl) (fun _ _ _ h => h) (Or.inl ⟨by rfl, ?_⟩) (by assumption) ?_
          rotate_left
          · intro w hSw; (try dsimp only at hSw); go_simp; try with_reducible rfl
          simp only [Act.put, List.setIfInBounds_toArray, List.set_cons_zero, List.set_cons_succ]
          refine wpAnyH_take (i := 6) (oi := ⟨some 30, _, _, _, _, _⟩) (v := ?_) rfl (by kernel_rfl) (by kernel_rfl) (by kernel_rfl) (fun _ _ _ h => h) (Or.inl ⟨by rfl, ?_⟩) (by assumption) ?_
          rotate_left
          · intro w hSw; (try dsimp only at hSw); go_simp; try with_reducible rfl
          simp only [Act.put, List.setIfInBounds_toArray, List.set_cons_zero, List.set_cons_succ]
          refine wpAnyH_take (i := 7) (oi := ⟨some 31, _, _, _, _, _⟩) (v := ?_) rfl (by kernel_rfl) (by kernel_rfl) (by kernel_rfl) (fun _ _ _ h => h) (Or.inl ⟨by rfl, ?_⟩) (by assumption) ?_
          rotate_left
          · intro w hSw; (try dsimp only at hSw); go_simp; try with_reducible rfl
          simp only [Act.put, List.setIfInBounds_toArray, List.set_cons_zero, List.set_cons_succ]
          refine wpAnyH_take (i := 8) (oi := ⟨some 32, _, _, _, _, _⟩) (v := ?_) rfl (by kernel_rfl) (by kernel_rfl) (by kernel_rfl) (fun _ _ _ h => h) (Or.inl ⟨by rfl, ?_⟩) (by assumption) ?_
          rotate_left
          · intro w hSw; (try dsimp only at hSw); go_simp; try with_reducible rfl
          simp only [Act.put, List.setIfInBounds_toArray, List.set_cons_zero, List.set_cons_succ]
          refine wpAnyH_take (i := 9) (oi := ⟨some 33, _, _, _, _, _⟩) (v := ?_) rfl (by kernel_rfl) (by kernel_rfl) (by kernel_rfl) (fun _ _ _ h => h) (Or.inl ⟨by rfl, ?_⟩) (by assumption) ?_
          rotate_left
          · intro w hSw; (try dsimp only at hSw); go_simp; try with_reducible rfl
          simp only [Act.put, List.setIfInBounds_toArray, List.set_cons_zero, List.set_cons_succ]
          refine wpAnyH_take (i := 10) (oi := ⟨some 34, _, _, _, _, _⟩) (v := ?_) rfl (by kernel_rfl) (by kernel_rfl) (by kernel_rfl) (fun _ _ _ h => h) (Or.inl ⟨by rfl, ?_⟩) (by assumption) ?_
          rotate_left
          · intro w hSw; (try dsimp only at hSw); go_simp; try with_reducible rfl
          simp only [Act.put, List.setIfInBounds_toArray, List.set_cons_zero, List.set_cons_succ]
          refine wpAnyH_take (i := 11) (oi := ⟨some 35, _, _, _, _, _⟩) (v := ?_) rfl (by kernel_rfl) (by kernel_rfl) (by kernel_rfl) (fun _ _ _ h => h) (Or.inl ⟨by rfl, ?_⟩) (by assumption) ?_
          rotate_left
          · intro w hSw; (try dsimp only at hSw); go_simp; try with_reducible rfl
          simp only [Act.put, List.setIfInBounds_toArray, List.set_cons_zero, List.set_cons_succ]
          refine wpAnyH_ready (rs := [12]) (by kernel_rfl) (by simp) ?_
          refine AllReadyH.cons (o := ⟨some 36, _, _, _, _, _⟩) rfl (fun K hK => ?_) AllReadyH.nil
          go_simp
          go_at_call 49
          refine (idealbad _ f _ n1 _ z1 _ n2 _ z2 need many (HA.out.kept Hg.out) (HB.out.kept Hg.out) hl3 hl4 a0 (HV.out.kept Hg.out)).mono ?_
          rintro e w4 ⟨v, rfl, hL, hg⟩
          obtain ⟨av, cv, rfl, _, _, _⟩ := hL.slice; have Hg4 := Lib.hid (gtr Hg.out hg); clear hg hL
          refine hK.out _ _ (HFS.out _ Hg4.out) (fun hHeld => ?_)
          clear hK K
          refine wpAnyH_take (i := 13) (oi := ⟨some 37, _, _, _, _, _⟩) (v := ?_) rfl (by kernel_rfl) (by kernel_rfl) (by kernel_rfl) (fun _ _ _ h => h) (Or.inl ⟨by rfl, ?_⟩) (by assumption) ?_
          rotate_left
          · intro w hSw; (try dsimp only at hSw); go_simp; try with_reducible rfl
          simp only [Act.put, List.setIfInBounds_toArray, List.set_cons_zero, List.set_cons_succ]
          refine wpAnyH_take (i := 14) (oi := ⟨some 38, _, _, _, _, _⟩) (v := ?_) rfl (by kernel_rfl) (by kernel_rfl) (by kernel_rfl) (fun _ _ _ h => h) (Or.inl ⟨by rfl, ?_⟩) (by assumption) ?_
          rotate_left
          · intro w hSw; (try dsimp only at hSw); go_simp; try with_reducible rfl
          simp only [Act.put, List.setIfInBounds_toArray, List.set_cons_zero, List.set_cons_succ]
          refine wpAnyH_take (i := 15) (oi := ⟨some 39, _, _, _, _, _⟩) (v := ?_) rfl (by kernel_rfl) (by kernel_rfl) (by kernel_rfl) (fun _ _ _ h => h) (Or.inl ⟨by rfl, ?_⟩) (by assumption) ?_
          rotate_left
          · intro w hSw; (try dsimp only at hSw); go_simp; try with_reducible rfl
          simp only [Act.put, List.setIfInBounds_toArray, List.set_cons_zero, List.set_cons_succ]
          refine wpAnyH_take (i := 16) (oi := ⟨some 4, _, _, _, _, _⟩) (v := ?_) rfl (by kernel_rfl) (by kernel_rfl) (by kernel_rfl) (fun _ _ _ h => h) (Or.inl ⟨by rfl, ?_⟩) (by assumption) ?_
          rotate_left
          · intro w hSw; (try dsimp only at hSw); go_simp; try with_reducible rfl
          simp only [Act.put, List.setIfInBounds_toArray, List.set_cons_zero, List.set_cons_succ]
          refine wpAnyH_done (by kernel_rfl) ?_ _
          go_wp2
          go_ret
          exact ⟨by rw [HF.out]; rfl, gtr G.out Hg4.out⟩
        · have ht : (z1 0 == 1) = false := by simpa using hz
          have HR := Lib.hid (fr_not (need := need) (many := many) (ng := ng) (zg := zg) (nc := nc) (zc := zc) (f := f) (n1 := n1) (z1 := z1) (n2 := n2) (z2 := z2) (by simp [hz]))
          clear hd hk hdd k2 k3
          go_wp2_with fail
          refine wp_region_held_drew (S := (fun w' => w'.cell? ⟨w.heap.size, 0, none⟩ = some (.int .i64 need) ∧ w'.cell? ⟨w.heap.size, 1, none⟩ = some (.int .i64 many) ∧ w'.cell? ⟨w.heap.size + 1, 0, none⟩ = some (.int .i64 f) ∧ w'.cell? ⟨w.heap.size + 1, 1, none⟩ = some (.slice (some ⟨b1, o1, none⟩) n1 c1) ∧ w'.cell? ⟨w.heap.size + 1, 2, none⟩ = some (.slice a2 n2 c2) ∧ w'.cell? ⟨b1, o1, none⟩ = some (.int .i64 (z1 0)))) (by kernel_rfl) (⟨k0, k1, d0, d1, d2, hcx⟩) (fun hHeld => ?_)
          refine wpAnyH_take (i := 0) (oi := ⟨some 24, _, _, _, _, _⟩) (v := ?_) rfl (by kernel_rfl) (by kernel_rfl) (by kernel_rfl) (fun _ _ _ h => h) (Or.inl ⟨by rfl, ?_⟩) (by assumption) ?_
          rotate_left
          · intro w hSw; (try dsimp only at hSw); go_simp; try with_reducible rfl
          simp only [Act.put, List.setIfInBounds_toArray, List.set_cons_zero, List.set_cons_succ]
          refine wpAnyH_take (i := 1) (oi := ⟨some 25, _, _, _, _, _⟩) (v := ?_) rfl (by kernel_rfl) (by kernel_rfl) (by kernel_rfl) (fun _ _ _ h => h) (Or.inl ⟨by rfl, ?_⟩) (by assumption) ?_
          rotate_left
          · intro w hSw; (try dsimp only at hSw); go_simp; try with_reducible rfl
          simp only [Act.put, List.setIfInBounds_toArray, List.set_cons_zero, List.set_cons_succ]
          refine wpAnyH_take (i := 2) (oi := ⟨some 26, _, _, _, _, _⟩) (v := ?_) rfl (by kernel_rfl) (by kernel_rfl) (by kernel_rfl) (fun _ _ _ h => h) (Or.inl ⟨by rfl, ?_⟩) (by assumption) ?_
          rotate_left
          · intro w hSw; (try dsimp only at hSw); go_simp; try with_reducible rfl
          simp only [Act.put, List.setIfInBounds_toArray, List.set_cons_zero, List.set_cons_succ]
          refine wpAnyH_take (i := 3) (oi := ⟨some 27, _, _, _, _, _⟩) (v := ?_) rfl (by kernel_rfl) (by kernel_rfl) (by kernel_rfl) (fun _ _ _ h => h) (Or.inl ⟨by rfl, ?_⟩) (by assumption) ?_
          rotate_left
          · intro w hSw; (try dsimp only at hSw); go_simp; try with_reducible rfl
          simp only [Act.put, List.setIfInBounds_toArray, List.set_cons_zero, List.set_cons_succ]
          refine wpAnyH_ready (rs := [4]) (by kernel_rfl) (by simp) ?_
          refine AllReadyH.cons (o := ⟨some 28, _, _, _, _, _⟩) rfl (fun K hK => ?_) AllReadyH.nil
          go_simp
          go_at_call 48
          refine (igof 0 _).mono ?_
          rintro e w3 ⟨rfl, hg⟩
          rw [gof_zero]; have Hg := Lib.hid (show w2.grownBy w3 none from ⟨hg.os, hg.tape, hg.output, hg.size, hg.block⟩); clear hg
          refine hK.out _ _ (HFS.out _ Hg.out) (fun hHeld => ?_)
          clear hK K
          refine wpAnyH_take (i := 5) (oi := ⟨some 29, _, _, _, _, _⟩) (v := ?_) rfl (by kernel_rfl) (by kernel_rfl) (by kernel_rfl) (fun _ _ _ h => h) (Or.inl ⟨by rfl, ?_⟩) (by assumption) ?_
          rotate_left
          · intro w hSw; (try dsimp only at hSw); go_simp; try with_reducible rfl
          simp only [Act.put, List.setIfInBounds_toArray, List.set_cons_zero, List.set_cons_succ]
          refine wpAnyH_take (i := 6) (oi := ⟨some 30, _, _, _, _, _⟩) (v := ?_) rfl (by kernel_rfl) (by kernel_rfl) (by kernel_rfl) (fun _ _ _ h => h) (Or.inl ⟨by rfl, ?_⟩) (by assumption) ?_
          rotate_left
          · intro w hSw; (try dsimp only at hSw); go_simp; try with_reducible rfl
          simp only [Act.put, List.setIfInBounds_toArray, List.set_cons_zero, List.set_cons_succ]
          refine wpAnyH_take (i := 7) (oi := ⟨some 31, _, _, _, _, _⟩) (v := undef) rfl (by kernel_rfl) (by kernel_rfl) (by kernel_rfl) (fun _ _ _ h => h) (Or.inr ⟨by rfl, rfl⟩) (by assumption) ?_
          simp only [Act.put, List.setIfInBounds_toArray, List.set_cons_zero, List.set_cons_succ]
          refine wpAnyH_take (i := 8) (oi := ⟨some 32, _, _, _, _, _⟩) (v := undef) rfl (by kernel_rfl) (by kernel_rfl) (by kernel_rfl) (fun _ _ _ h => h) (Or.inr ⟨by rfl, rfl⟩) (by assumption) ?_
          simp only [Act.put, List.setIfInBounds_toArray, List.set_cons_zero, List.set_cons_succ]
          refine wpAnyH_take (i := 9) (oi := ⟨some 33, _, _, _, _, _⟩) (v := undef) rfl (by kernel_rfl) (by kernel_rfl) (by kernel_rfl) (fun _ _ _ h => h) (Or.inr ⟨by rfl, rfl⟩) (by assumption) ?_
          simp only [Act.put, List.setIfInBounds_toArray, List.set_cons_zero, List.set_cons_succ]
          refine wpAnyH_take (i := 10) (oi := ⟨some 34, _, _, _, _, _⟩) (v := undef) rfl (by kernel_rfl) (by kernel_rfl) (by kernel_rfl) (fun _ _ _ h => h) (Or.inr ⟨by rfl, rfl⟩) (by assumption) ?_
          simp only [Act.put, List.setIfInBounds_toArray, List.set_cons_zero, List.set_cons_succ]
          refine wpAnyH_take (i := 11) (oi := ⟨some 35, _, _, _, _, _⟩) (v := undef) rfl (by kernel_rfl) (by kernel_rfl) (by kernel_rfl) (fun _ _ _ h => h) (Or.inr ⟨by rfl, rfl⟩) (by assumption) ?_
          simp only [Act.put, List.setIfInBounds_toArray, List.set_cons_zero, List.set_cons_succ]
          refine wpAnyH_take (i := 12) (oi := ⟨some 36, _, _, _, _, _⟩) (v := undef) rfl (by kernel_rfl) (by kernel_rfl) (by kernel_rfl) (fun _ _ _ h => h) (Or.inr ⟨by rfl, rfl⟩) (by assumption) ?_
          simp only [Act.put, List.setIfInBounds_toArray, List.set_cons_zero, List.set_cons_succ]
          refine wpAnyH_take (i := 13) (oi := ⟨some 37, _, _, _, _, _⟩) (v := undef) rfl (by kernel_rfl) (by kernel_rfl) (by kernel_rfl) (fun _ _ _ h => h) (Or.inr ⟨by rfl, rfl⟩) (by assumption) ?_
          simp only [Act.put, List.setIfInBounds_toArray, List.set_cons_zero, List.set_cons_succ]
          refine wpAnyH_take (i := 14) (oi := ⟨some 38, _, _, _, _, _⟩) (v := undef) rfl (by kernel_rfl) (by kernel_rfl) (by kernel_rfl) (fun _ _ _ h => h) (Or.inr ⟨by rfl, rfl⟩) (by assumption) ?_
          simp only [Act.put, List.setIfInBounds_toArray, List.set_cons_zero, List.set_cons_succ]
          refine wpAnyH_take (i := 15) (oi := ⟨some 39, _, _, _, _, _⟩) (v := ?_) rfl (by kernel_rfl) (by kernel_rfl) (by kernel_rfl) (fun _ _ _ h => h) (Or.inl ⟨by rfl, ?_⟩) (by assumption) ?_
          rotate_left
          · intro w hSw; (try dsimp only at hSw); go_simp; try with_reducible rfl
          simp only [Act.put, List.setIfInBounds_toArray, List.set_cons_zero, List.set_cons_succ]
          refine wpAnyH_take (i := 16) (oi := ⟨some 4, _, _, _, _, _⟩) (v := ?_) rfl (by kernel_rfl) (by kernel_rfl) (by kernel_rfl) (fun _ _ _ h => h) (Or.inl ⟨by rfl, ?_⟩) (by assumption) ?_
          rotate_left
          · intro w hSw; (try dsimp only at hSw); go_simp; try with_reducible rfl
          simp only [Act.put, List.setIfInBounds_toArray, List.set_cons_zero, List.set_cons_succ]
          refine wpAnyH_done (by kernel_rfl) ?_ _
          go_wp2
          go_ret
          exact ⟨by rw [HR.out]; rfl, gtr G.out Hg.out⟩
set_option maxRecDepth 100000 in
set_option maxHeartbeats 4000000 in
theorem sfok (w : World) (need many : Int) (ag : Option Addr) (ng cg : Nat) (zg : Nat → Int) (ac : Option Addr) (nc cc : Nat) (zc : Nat → Int) (f : Int) (a1 : Option Addr) (n1 c1 : Nat) (z1 : Nat → Int) (a2 : Option Addr) (n2 c2 : Nat) (z2 : Nat → Int) (hG : Ints w ag ng zg) (hC : Ints w ac nc zc) (hA : Ints w a1 n1 z1) (hB : Ints w a2 n2 z2) (hl1 : ng ≤ 2000000) (hl2 : nc ≤ 2000000) (hl3 : n1 ≤ 2000000) (hl4 : n2 ≤ 2000000) :
    Calls Tryz.prog 25 #[.agg #[.int .i64 need, .int .i64 many, .slice ag ng cg, .slice ac nc cc], .agg #[.int .i64 f, .slice a1 n1 c1, .slice a2 n2 c2]] w fun e w' => e = .returned (.bool (frF need many ng zg nc zc f n1 z1 n2 z2)) ∧ w.grownBy w' none := by
  have G := Lib.hid (gtr (Draw.grown_alloc w (.cells #[.int .i64 need, .int .i64 many, .slice ag ng cg, .slice ac nc cc] 33) none) (Draw.grown_alloc _ (.cells #[.int .i64 f, .slice a1 n1 c1, .slice a2 n2 c2] 49) none))
  have K := Lib.hid ((Ky.new w need many (.slice ag ng cg) (.slice ac nc cc) 33).kept (Draw.grown_alloc _ (.cells #[.int .i64 f, .slice a1 n1 c1, .slice a2 n2 c2] 49) none))
  have D := Lib.hid (blk_new2 w (.cells #[.int .i64 need, .int .i64 many, .slice ag ng cg, .slice ac nc cc] 33) #[.int .i64 f, .slice a1 n1 c1, .slice a2 n2 c2] 49).dl
  have HG := Lib.hid (hG.kept G.out); have HC := Lib.hid (hC.kept G.out); have HA := Lib.hid (hA.kept G.out); have HB := Lib.hid (hB.kept G.out)
  clear hG hC hA hB
  go_enter Tryz.func25, Tryz.ntmps25
  obtain ⟨_, k0, k1, k2, k3⟩ := K.out
  obtain ⟨_, d0, d1, d2⟩ := D.out
  go_wp2_with fail
  refine (skeyok _ need many _ _ _ zg _ _ _ zc HG.out HC.out hl1 hl2).mono ?_
  rintro e w1 ⟨rfl, hg⟩
  clear k0 k1 k2 k3
  clear d0 d1 d2
  replace G := Lib.hid (gtr G.out hg)
  replace K := Lib.hid (K.out.kept hg)
  replace D := Lib.hid (D.out.kept hg)
  replace HG := Lib.hid (HG.out.kept hg)
  replace HC := Lib.hid (HC.out.kept hg)
  replace HA := Lib.hid (HA.out.kept hg)
  replace HB := Lib.hid (HB.out.kept hg)
  clear hg
  obtain ⟨_, k0, k1, k2, k3⟩ := K.out
  obtain ⟨_, d0, d1, d2⟩ := D.out
  cases hk : kyF need many ng zg nc zc with
  | false =>
    have HR := Lib.hid (fr_not (need := need) (many := many) (ng := ng) (zg := zg) (nc := nc) (zc := zc) (f := f) (n1 := n1) (z1 := z1) (n2 := n2) (z2 := z2) (by simp [hk]))
    go_wp2
    go_ret
    exact ⟨by rw [HR.out]; rfl, G.out⟩
  | true =>
    go_wp2_with fail
    refine (sdealok _ f _ n1 _ z1 _ n2 _ z2 need many HA.out HB.out hl3 hl4).mono ?_
    rintro e w2 ⟨rfl, hg⟩
    clear k0 k1 k2 k3
    clear d0 d1 d2
    replace G := Lib.hid (gtr G.out hg)
    replace K := Lib.hid (K.out.kept hg)
    replace D := Lib.hid (D.out.kept hg)
    replace HG := Lib.hid (HG.out.kept hg)
    replace HC := Lib.hid (HC.out.kept hg)
    replace HA := Lib.hid (HA.out.kept hg)
    replace HB := Lib.hid (HB.out.kept hg)
    clear hg
    obtain ⟨_, k0, k1, k2, k3⟩ := K.out
    obtain ⟨_, d0, d1, d2⟩ := D.out
    cases hd : dlF f n1 z1 n2 z2 need many with
    | false =>
      have HR := Lib.hid (fr_not (need := need) (many := many) (ng := ng) (zg := zg) (nc := nc) (zc := zc) (f := f) (n1 := n1) (z1 := z1) (n2 := n2) (z2 := z2) (by simp [hd]))
      go_wp2
      go_ret
      exact ⟨by rw [HR.out]; rfl, G.out⟩
    | true =>
      have hdd := dl_iff.1 hd
      have hn1 : (0 : Int) < (n1 : Int) := by omega
      have hn1' : 0 < n1 := by omega
      obtain ⟨b1, o1, rfl⟩ : ∃ b1 o1, a1 = some ⟨b1, o1, none⟩ := by
        rcases HA.out with h | ⟨b, off, h, _⟩
        · omega
        · exact ⟨b, off, h⟩
      have hcx : w2.cell? ⟨b1, o1, none⟩ = some (.int .i64 (z1 0)) := by
        rcases HA.out with h | ⟨b, off, h, hb, hc⟩
        · omega
        · injection h with h; injection h with h1 h2; subst h1; subst h2
          simpa using hc 0 hn1'
      by_cases hf : f ≤ many
      · by_cases hz : z1 0 = 1
        · have HF := Lib.hid (fr_last hk hd hf hz)
          rw [bads_yes hd] at HF
          rw [hz] at hcx
          have hz0 := hz
          clear hz hk hd
          go_wp2_with fail
          refine (s11bad _ f _ n1 _ z1 _ n2 _ z2 need many HA.out HB.out hl3 hl4 (by omega) hdd.2.2.1.2 hdd.2.2.2.2).mono ?_
          rintro e w3 ⟨bb, cb, rfl, hr, hg⟩
          have G3 := Lib.hid (gtr G.out hg); clear hg hr
          go_wp2
          go_ret
          exact ⟨by rw [HF.out]; rfl, G3.out⟩
        · have ht : (z1 0 == 1) = false := by simpa using hz
          have HR := Lib.hid (fr_not (need := need) (many := many) (ng := ng) (zg := zg) (nc := nc) (zc := zc) (f := f) (n1 := n1) (z1 := z1) (n2 := n2) (z2 := z2) (by simp [hz]))
          clear hd hk hdd
          go_wp2
          go_ret
          exact ⟨by rw [HR.out]; rfl, G.out⟩
      · have hf' : decide (f ≤ many) = false := decide_eq_false hf
        have HR := Lib.hid (fr_not (need := need) (many := many) (ng := ng) (zg := zg) (nc := nc) (zc := zc) (f := f) (n1 := n1) (z1 := z1) (n2 := n2) (z2 := z2) (by simp [hf]))
        clear hd hk hdd
        go_wp2
        go_ret
        exact ⟨by rw [HR.out]; rfl, G.out⟩
end Con
end Go.Proofs.YtlaimokedhdnjaaGreatDoor
