/-
  The walk of the law on what is granted later.
-/
import Derived.Test.YtbfmigmhmjgdgaaZl
namespace Go.Proofs.Ytbfmigmhmjgdgaa
namespace Run
open Go.RowKit Alg Mem Con Draw Ct
set_option linter.unusedVariables false

theorem vtO_partsL {C : CV} {x : Int} (h : vtO C x = true) : cokF C = true ∧ mgF C.many x = true ∧ vtA C x = true := by
  rw [vtO_as] at h; simp only [Bool.and_eq_true] at h; exact ⟨h.1.1, h.1.2, h.2⟩
theorem vtV_ofL {C : CV} {x : Int} (h : vtO C x = true) : vtV C x = addC C x := vtV_nw (by rw [(vtO_partsL h).1, (vtO_partsL h).2.1]; rfl) (vtO_partsL h).2.2
theorem cok_ofL {C : CV} {x : Int} (h : vtO C x = true) : cokF (addC C x) = true := by rw [← vtV_ofL h]; exact (vtV_ok h).1
set_option maxRecDepth 100000 in
set_option maxHeartbeats 8000000 in
theorem FnCourtLater (a : Option Addr) (len cap : Nat) (ab : Option Addr) (lenb capb : Nat) (w : World) (hB : Bytes w w.heap.size a len) (hc : len ≤ cap) (hm : cap ≤ maxLen) (hcb : lenb ≤ capb) (hmb : capb ≤ maxLen) :
    Calls Try.prog 7 #[.slice a len cap, .slice ab lenb capb] w (Yes w) := by
  by_cases hbig : 1048576 < len
  · have hbig' : (1048576 : Int) < (len : Int) := by omega
    clear hB
    go_enter Try.func7, Try.ntmps7
    go_wp2
    go_ret
    exact ⟨rfl, Below.refl _ _⟩
  have hbig' : ¬ (1048576 : Int) < (len : Int) := by omega
  by_cases hbih : 1048576 < lenb
  · have hbih' : (1048576 : Int) < (lenb : Int) := by omega
    clear hB
    go_enter Try.func7, Try.ntmps7
    go_wp2
    go_ret
    exact ⟨rfl, Below.refl _ _⟩
  have hbih' : ¬ (1048576 : Int) < (lenb : Int) := by omega
  go_enter Try.func7, Try.ntmps7
  go_wp2_with fail
  refine (drawCtMay w a len cap hB hc hm).mono ?_
  rintro e v1 ⟨C, a1, c1, x, rfl, hO, hn7, hg⟩
  have G := Lib.hid hg; have Oc1 := Lib.hid hO
  clear hg hO hB
  go_wp2_with (refine stop_store rfl ?_)
  refine ⟨trivial, ?_⟩
  refine wpList_store_atQ rfl 27 (.tmp 5) (.tmp 24) _ 0 _ _ _ #[.int .i64 C.many, .int .i64 C.need, .bool C.on, .int .i64 C.at_, .slice a1 C.n c1, .bool C.veto] 27 (Blk.new v1 #[.int .i64 0, .int .i64 0, .bool false, .int .i64 0, .slice none 0 0, .bool false] 27) rfl rfl rfl rfl (Nat.le_of_ble_eq_true rfl) (by kernel_rfl) (by kernel_rfl) (by kernel_rfl) ?_
  intro u1 hgV hT
  have hg : (v1).grownBy u1 none := grown_new (grown_alloc (v1) (.cells #[.int .i64 0, .int .i64 0, .bool false, .int .i64 0, .slice none 0 0, .bool false] 27) none) (Nat.le_refl _) hgV
  have K1 := Lib.hid hT
  clear hgV hT
  replace G := Lib.hid (gtr G.out hg)
  replace Oc1 := Lib.hid (Oc1.out.kept hg (fun g e => by cases e))
  clear hg
  generalize (v1).heap.size = b1 at *
  obtain ⟨g, hg0⟩ : ∃ g, cmF C x = g := ⟨_, rfl⟩
  have HG := Lib.hid hg0; clear hg0
  have k1_0 : World.cell? u1 ⟨b1, 0, none⟩ = some (.int .i64 C.many) := K1.out.cell 0
  have k1_1 : World.cell? u1 ⟨b1, 1, none⟩ = some (.int .i64 C.need) := K1.out.cell 1
  have k1_2 : World.cell? u1 ⟨b1, 2, none⟩ = some (.bool C.on) := K1.out.cell 2
  have k1_3 : World.cell? u1 ⟨b1, 3, none⟩ = some (.int .i64 C.at_) := K1.out.cell 3
  have k1_4 : World.cell? u1 ⟨b1, 4, none⟩ = some (.slice a1 C.n c1) := K1.out.cell 4
  have k1_5 : World.cell? u1 ⟨b1, 5, none⟩ = some (.bool C.veto) := K1.out.cell 5
  go_wp2_with fail
  refine (imay _ C.many C.need C.on C.at_ a1 C.n c1 C.f C.veto x Oc1.out.ints (by omega) Oc1.out.le.1 Oc1.out.le.2).mono ?_
  rintro e v2 ⟨rfl, hg⟩
  rw [show cmF ⟨C.many, C.need, C.on, C.at_, C.n, C.f, C.veto⟩ x = g from HG.out]
  clear k1_0 k1_1 k1_2 k1_3 k1_4 k1_5
  replace G := Lib.hid (gtr G.out hg)
  replace Oc1 := Lib.hid (Oc1.out.kept hg (fun g e => by cases e))
  replace K1 := Lib.hid (K1.out.keptN hg)
  clear hg
  have k1_0 : World.cell? v2 ⟨b1, 0, none⟩ = some (.int .i64 C.many) := K1.out.cell 0
  have k1_1 : World.cell? v2 ⟨b1, 1, none⟩ = some (.int .i64 C.need) := K1.out.cell 1
  have k1_2 : World.cell? v2 ⟨b1, 2, none⟩ = some (.bool C.on) := K1.out.cell 2
  have k1_3 : World.cell? v2 ⟨b1, 3, none⟩ = some (.int .i64 C.at_) := K1.out.cell 3
  have k1_4 : World.cell? v2 ⟨b1, 4, none⟩ = some (.slice a1 C.n c1) := K1.out.cell 4
  have k1_5 : World.cell? v2 ⟨b1, 5, none⟩ = some (.bool C.veto) := K1.out.cell 5
  go_wp2_with fail
  refine (smay _ C.many C.need C.on C.at_ a1 C.n c1 C.f C.veto x Oc1.out.ints (by omega) Oc1.out.le.1 Oc1.out.le.2).mono ?_
  rintro e v3 ⟨rfl, hg⟩
  rw [show cmF ⟨C.many, C.need, C.on, C.at_, C.n, C.f, C.veto⟩ x = g from HG.out]
  clear k1_0 k1_1 k1_2 k1_3 k1_4 k1_5
  replace G := Lib.hid (gtr G.out hg)
  replace Oc1 := Lib.hid (Oc1.out.kept hg (fun g e => by cases e))
  replace K1 := Lib.hid (K1.out.keptN hg)
  clear hg
  have hne : (g != g) = false := by simp
  cases g with
  | false =>
    have k1_0 : World.cell? v3 ⟨b1, 0, none⟩ = some (.int .i64 C.many) := K1.out.cell 0
    have k1_1 : World.cell? v3 ⟨b1, 1, none⟩ = some (.int .i64 C.need) := K1.out.cell 1
    have k1_2 : World.cell? v3 ⟨b1, 2, none⟩ = some (.bool C.on) := K1.out.cell 2
    have k1_3 : World.cell? v3 ⟨b1, 3, none⟩ = some (.int .i64 C.at_) := K1.out.cell 3
    have k1_4 : World.cell? v3 ⟨b1, 4, none⟩ = some (.slice a1 C.n c1) := K1.out.cell 4
    have k1_5 : World.cell? v3 ⟨b1, 5, none⟩ = some (.bool C.veto) := K1.out.cell 5
    go_wp2_with fail
    refine (smay _ C.many C.need C.on C.at_ a1 C.n c1 C.f C.veto x Oc1.out.ints (by omega) Oc1.out.le.1 Oc1.out.le.2).mono ?_
    rintro e v4 ⟨rfl, hg⟩
    rw [show cmF ⟨C.many, C.need, C.on, C.at_, C.n, C.f, C.veto⟩ x = false from HG.out]
    clear k1_0 k1_1 k1_2 k1_3 k1_4 k1_5
    replace G := Lib.hid (gtr G.out hg)
    replace Oc1 := Lib.hid (Oc1.out.kept hg (fun g e => by cases e))
    replace K1 := Lib.hid (K1.out.keptN hg)
    clear hg
    go_wp2
    go_ret
    exact ⟨by simp, below_of G.out⟩
  | true =>
    have hP := cmF_iff.1 HG.out
    have ht := tmF_iff.1 hP.2.1
    have ha := tmF_iff.1 (cokF_iff.1 hP.1).2.1
    have hcr := crew_iff.1 (cokF_iff.1 hP.1).1
    have hm5 := hcr.2.2
    have hm1 : 1 ≤ C.many := by omega
    have hnd := hP.2.2.2.1
    have hlag := hP.2.2.2.2
    have HST := Lib.hid hP.2.2.1
    have HC := Lib.hid hP.1
    obtain ⟨X, rfl⟩ := Int.eq_ofNat_of_zero_le ht.1
    have hX9 : X ≤ 99 := by have := ht.2; omega
    have hX0 : C.at_ + 10 ≤ (X : Int) := by omega
    have ha0 : 0 ≤ C.at_ := ha.1
    clear hP ht ha hcr hlag
    obtain ⟨d, hd⟩ : ∃ d : Nat, ((lenb : Int)).tmod (99 - (X : Int) + 1) = (d : Int) := ⟨(((lenb : Int)).tmod (99 - (X : Int) + 1)).toNat, by have := Int.tmod_nonneg (a := (lenb : Int)) (99 - (X : Int) + 1) (by omega); omega⟩
    have hdl : (d : Int) < 99 - (X : Int) + 1 := by rw [← hd]; exact Int.tmod_lt_of_pos _ (by omega)
    have hnz : ¬ (99 - (X : Int) + 1) = 0 := by omega
    obtain ⟨f, hf⟩ : ∃ f : Nat, ((lenb : Int)).tmod C.many = (f : Int) := ⟨(((lenb : Int)).tmod C.many).toNat, by have := Int.tmod_nonneg (a := (lenb : Int)) C.many (by omega); omega⟩
    have hfl : (f : Int) < C.many := by rw [← hf]; exact Int.tmod_lt_of_pos _ (by omega)
    have hnm : ¬ C.many = 0 := by omega
    have hwf : IntKind.i64.wrap (1 + (f : Int)) = 1 + (f : Int) := IntWalk.i64_in _ (by omega)
    obtain ⟨D4, hD4⟩ : ∃ D4, vtV ⟨C.many, C.need, C.on, C.at_, C.n, C.f, C.veto⟩ (1 + (f : Int)) = D4 := ⟨_, rfl⟩
    obtain ⟨g4, hg4⟩ : ∃ g4, vtO ⟨C.many, C.need, C.on, C.at_, C.n, C.f, C.veto⟩ (1 + (f : Int)) = g4 := ⟨_, rfl⟩
    have HD4 := Lib.hid hD4; have HK4 := Lib.hid hg4
    have hD4n : D4.n ≤ 8 := by rw [← hD4]; exact Nat.le_trans (vtV_n _ _) (by show C.n + 1 ≤ 8; omega)
    clear hD4 hg4
    have hm5' : C.many ≤ 5 := hm5
    have k1_0 : World.cell? v3 ⟨b1, 0, none⟩ = some (.int .i64 C.many) := K1.out.cell 0
    go_wp2_with fail
    clear k1_0
    refine' (fun (hk : Later _) => ?main) (Later.mk ?rest)
    case main =>
      refine wp_region_held_drew (S := (fun w' => w'.cell? ⟨b1, 0, none⟩ = some (.int .i64 C.many) ∧ w'.cell? ⟨b1, 1, none⟩ = some (.int .i64 C.need) ∧ w'.cell? ⟨b1, 2, none⟩ = some (.bool C.on) ∧ w'.cell? ⟨b1, 3, none⟩ = some (.int .i64 C.at_) ∧ w'.cell? ⟨b1, 4, none⟩ = some (.slice a1 C.n c1) ∧ w'.cell? ⟨b1, 5, none⟩ = some (.bool C.veto))) (by kernel_rfl) (⟨K1.out.cell 0, K1.out.cell 1, K1.out.cell 2, K1.out.cell 3, K1.out.cell 4, K1.out.cell 5⟩) (fun hHeld => ?_)
      have hg := gdrew v3
      replace G := Lib.hid (gtr G.out hg)
      replace Oc1 := Lib.hid (Oc1.out.kept hg (fun g e => by cases e))
      replace K1 := Lib.hid (K1.out.keptN hg)
      clear hg
      generalize v3.drew = W0 at *
      refine wpAnyH_take (i := 0) (oi := ⟨some 52, _, _, _, _, _⟩) (v := ?_) rfl (by kernel_rfl) (by kernel_rfl) (by kernel_rfl) (fun _ _ _ h => h) (Or.inl ⟨by rfl, ?_⟩) (by assumption) ?_
      rotate_left
      · intro w hSw; (try dsimp only at hSw); go_simp; try with_reducible rfl
      simp only [Act.put, List.setIfInBounds_toArray, List.set_cons_zero, List.set_cons_succ]
      refine wpAnyH_take (i := 1) (oi := ⟨some 53, _, _, _, _, _⟩) (v := ?_) rfl (by kernel_rfl) (by kernel_rfl) (by kernel_rfl) (fun _ _ _ h => h) (Or.inl ⟨by rfl, ?_⟩) (by assumption) ?_
      rotate_left
      · intro w hSw; (try dsimp only at hSw); go_simp; try with_reducible rfl
      simp only [Act.put, List.setIfInBounds_toArray, List.set_cons_zero, List.set_cons_succ]
      refine wpAnyH_take (i := 2) (oi := ⟨some 54, _, _, _, _, _⟩) (v := ?_) rfl (by kernel_rfl) (by kernel_rfl) (by kernel_rfl) (fun _ _ _ h => h) (Or.inl ⟨by rfl, ?_⟩) (by assumption) ?_
      rotate_left
      · intro w hSw; (try dsimp only at hSw); go_simp; try with_reducible rfl
      simp only [Act.put, List.setIfInBounds_toArray, List.set_cons_zero, List.set_cons_succ]
      refine wpAnyH_take (i := 3) (oi := ⟨some 55, _, _, _, _, _⟩) (v := ?_) rfl (by kernel_rfl) (by kernel_rfl) (by kernel_rfl) (fun _ _ _ h => h) (Or.inl ⟨by rfl, ?_⟩) (by assumption) ?_
      rotate_left
      · intro w hSw; (try dsimp only at hSw); go_simp; try with_reducible rfl
      simp only [Act.put, List.setIfInBounds_toArray, List.set_cons_zero, List.set_cons_succ]
      refine wpAnyH_take (i := 4) (oi := ⟨some 56, _, _, _, _, _⟩) (v := ?_) rfl (by kernel_rfl) (by kernel_rfl) (by kernel_rfl) (fun _ _ _ h => h) (Or.inl ⟨by rfl, ?_⟩) (by assumption) ?_
      rotate_left
      · intro w hSw; (try dsimp only at hSw); go_simp; try with_reducible rfl
      simp only [Act.put, List.setIfInBounds_toArray, List.set_cons_zero, List.set_cons_succ]
      refine wpAnyH_take (i := 5) (oi := ⟨some 57, _, _, _, _, _⟩) (v := ?_) rfl (by kernel_rfl) (by kernel_rfl) (by kernel_rfl) (fun _ _ _ h => h) (Or.inl ⟨by rfl, ?_⟩) (by assumption) ?_
      rotate_left
      · intro w hSw; (try dsimp only at hSw); go_simp; try with_reducible rfl
      simp only [Act.put, List.setIfInBounds_toArray, List.set_cons_zero, List.set_cons_succ]
      refine wpAnyH_take (i := 6) (oi := ⟨some 58, _, _, _, _, _⟩) (v := ?_) rfl (by kernel_rfl) (by kernel_rfl) (by kernel_rfl) (fun _ _ _ h => h) (Or.inl ⟨by rfl, ?_⟩) (by assumption) ?_
      rotate_left
      · intro w hSw; (try dsimp only at hSw); go_simp; try with_reducible rfl
      simp only [Act.put, List.setIfInBounds_toArray, List.set_cons_zero, List.set_cons_succ]
      refine wpAnyH_ready (rs := [7, 11]) (by kernel_rfl) (by simp) ?_
      refine AllReadyH.cons (o := ⟨some 59, _, _, _, _, _⟩) rfl (fun Kq hKq => ?_) (AllReadyH.cons (o := ⟨some 9, _, _, _, _, _⟩) rfl (fun Kq hKq => ?_) AllReadyH.nil)
      · go_simp
        go_at_call 25
        refine (ivote _ C.many C.need C.on C.at_ a1 C.n c1 C.f C.veto (1 + (f : Int)) Oc1.out.ints (by omega) Oc1.out.le.1 Oc1.out.le.2).mono ?_
        rintro e v4 ⟨a4, c4, rfl, hO, hg⟩
        rw [HD4.out] at hO ⊢
        rw [HK4.out]
        have OX := Lib.hid (hO.lower (lo' := 0) (Nat.zero_le _))
        clear hO
        replace G := Lib.hid (gtr G.out hg)
        replace Oc1 := Lib.hid (Oc1.out.kept hg (fun g e => by cases e))
        replace K1 := Lib.hid (K1.out.keptN hg)
        clear hg
        refine hKq.out _ _ (⟨K1.out.cell 0, K1.out.cell 1, K1.out.cell 2, K1.out.cell 3, K1.out.cell 4, K1.out.cell 5⟩) (fun hHeld => ?_)
        clear hKq Kq
        refine wpAnyH_take (i := 8) (oi := ⟨some 51, _, _, _, _, _⟩) (v := ?_) rfl (by kernel_rfl) (by kernel_rfl) (by kernel_rfl) (fun _ _ _ h => h) (Or.inl ⟨by rfl, ?_⟩) (by assumption) ?_
        rotate_left
        · intro w hSw; (try dsimp only at hSw); go_simp; try with_reducible rfl
        simp only [Act.put, List.setIfInBounds_toArray, List.set_cons_zero, List.set_cons_succ]
        refine wpAnyH_take (i := 9) (oi := ⟨some 60, _, _, _, _, _⟩) (v := ?_) rfl (by kernel_rfl) (by kernel_rfl) (by kernel_rfl) (fun _ _ _ h => h) (Or.inl ⟨by rfl, ?_⟩) (by assumption) ?_
        rotate_left
        · intro w hSw; (try dsimp only at hSw); go_simp; try with_reducible rfl
        simp only [Act.put, List.setIfInBounds_toArray, List.set_cons_zero, List.set_cons_succ]
        refine wpAnyH_take (i := 10) (oi := ⟨some 61, _, _, _, _, _⟩) (v := ?_) rfl (by kernel_rfl) (by kernel_rfl) (by kernel_rfl) (fun _ _ _ h => h) (Or.inl ⟨by rfl, ?_⟩) (by assumption) ?_
        rotate_left
        · intro w hSw; (try dsimp only at hSw); go_simp; try with_reducible rfl
        simp only [Act.put, List.setIfInBounds_toArray, List.set_cons_zero, List.set_cons_succ]
        refine wpAnyH_ready (rs := [11]) (by kernel_rfl) (by simp) ?_
        refine AllReadyH.cons (o := ⟨some 9, _, _, _, _, _⟩) rfl (fun Kq hKq => ?_) AllReadyH.nil
        go_simp
        refine at_alloc ?_
        intro Wa hg hT
        have hxt : b1 < v4.heap.size := K1.out.lt
        have hxw : w.heap.size ≤ v4.heap.size := G.out.size
        generalize v4.heap.size = xb at *
        have X := Lib.hid hT
        replace G := Lib.hid (gtr G.out hg)
        replace Oc1 := Lib.hid (Oc1.out.kept hg (fun g e => by cases e))
        replace K1 := Lib.hid (K1.out.keptN hg)
        replace OX := Lib.hid (OX.out.kept hg (fun g e => by cases e))
        clear hg
        clear hT
        refine hKq.out _ _ (⟨K1.out.cell 0, K1.out.cell 1, K1.out.cell 2, K1.out.cell 3, K1.out.cell 4, K1.out.cell 5⟩) (fun hHeld => ?_)
        clear hKq Kq
        refine wpAnyH_ready (rs := [12]) (by kernel_rfl) (by simp) ?_
        refine AllReadyH.cons (o := ⟨none, _, _, _, _, _⟩) rfl (fun Kq hKq => ?_) AllReadyH.nil
        rw [if_pos (by rfl)]
        refine wp_store_atQ 27 (.tmp 9) (.tmp 60) xb 0 _ _ _ #[.int .i64 D4.many, .int .i64 D4.need, .bool D4.on, .int .i64 D4.at_, .slice a4 D4.n c4, .bool D4.veto] 27 X.out rfl rfl rfl rfl (Nat.le_of_ble_eq_true rfl) (by kernel_rfl) (by kernel_rfl) (by kernel_rfl) ?_
        intro v5 hg hT
        have OX' := OX.out.keptC X.out (by decide) hg
        have OW' := Oc1.out.keptC X.out (by decide) hg
        clear OX Oc1
        have OX := Lib.hid OX'
        have Oc1 := Lib.hid (OW'.lower (lo' := 0) (Nat.zero_le _))
        clear OX' OW' X
        have X := Lib.hid hT
        clear hT
        replace G := Lib.hid (grown_new G.out (by omega) hg)
        replace K1 := Lib.hid (K1.out.kept hg (by intro e; have e := Option.some.inj e; omega))
        clear hg
        refine hKq.out _ _ (⟨K1.out.cell 0, K1.out.cell 1, K1.out.cell 2, K1.out.cell 3, K1.out.cell 4, K1.out.cell 5⟩) (fun hHeld => ?_)
        clear hKq Kq
        refine wpAnyH_take (i := 13) (oi := ⟨some 10, _, _, _, _, _⟩) (v := ?_) rfl (by kernel_rfl) (by kernel_rfl) (by kernel_rfl) (fun _ _ _ h => h) (Or.inl ⟨by rfl, ?_⟩) (by assumption) ?_
        rotate_left
        · intro w hSw; (try dsimp only at hSw); go_simp; try with_reducible rfl
        simp only [Act.put, List.setIfInBounds_toArray, List.set_cons_zero, List.set_cons_succ]
        refine wpAnyH_done (by kernel_rfl) ?_ _
        clear hHeld
        revert hxt; revert hxw; revert OX; revert X; revert K1; revert Oc1; revert G; revert c4; revert a4; revert xb; revert v5
        exact hk.out
      · go_simp
        refine at_alloc ?_
        intro Wa hg hT
        have hxt : b1 < W0.heap.size := K1.out.lt
        have hxw : w.heap.size ≤ W0.heap.size := G.out.size
        generalize W0.heap.size = xb at *
        have X := Lib.hid hT
        replace G := Lib.hid (gtr G.out hg)
        replace Oc1 := Lib.hid (Oc1.out.kept hg (fun g e => by cases e))
        replace K1 := Lib.hid (K1.out.keptN hg)
        clear hg
        clear hT
        refine hKq.out _ _ (⟨K1.out.cell 0, K1.out.cell 1, K1.out.cell 2, K1.out.cell 3, K1.out.cell 4, K1.out.cell 5⟩) (fun hHeld => ?_)
        clear hKq Kq
        refine wpAnyH_ready (rs := [7]) (by kernel_rfl) (by simp) ?_
        refine AllReadyH.cons (o := ⟨some 59, _, _, _, _, _⟩) rfl (fun Kq hKq => ?_) AllReadyH.nil
        go_simp
        go_at_call 25
        refine (ivote _ C.many C.need C.on C.at_ a1 C.n c1 C.f C.veto (1 + (f : Int)) Oc1.out.ints (by omega) Oc1.out.le.1 Oc1.out.le.2).mono ?_
        rintro e v4 ⟨a4, c4, rfl, hO, hg⟩
        rw [HD4.out] at hO ⊢
        rw [HK4.out]
        have OX := Lib.hid (hO.lower (lo' := 0) (Nat.zero_le _))
        clear hO
        replace G := Lib.hid (gtr G.out hg)
        replace Oc1 := Lib.hid (Oc1.out.kept hg (fun g e => by cases e))
        replace K1 := Lib.hid (K1.out.keptN hg)
        replace X := Lib.hid (X.out.keptN hg)
        clear hg
        refine hKq.out _ _ (⟨K1.out.cell 0, K1.out.cell 1, K1.out.cell 2, K1.out.cell 3, K1.out.cell 4, K1.out.cell 5⟩) (fun hHeld => ?_)
        clear hKq Kq
        refine wpAnyH_take (i := 8) (oi := ⟨some 51, _, _, _, _, _⟩) (v := ?_) rfl (by kernel_rfl) (by kernel_rfl) (by kernel_rfl) (fun _ _ _ h => h) (Or.inl ⟨by rfl, ?_⟩) (by assumption) ?_
        rotate_left
        · intro w hSw; (try dsimp only at hSw); go_simp; try with_reducible rfl
        simp only [Act.put, List.setIfInBounds_toArray, List.set_cons_zero, List.set_cons_succ]
        refine wpAnyH_take (i := 9) (oi := ⟨some 60, _, _, _, _, _⟩) (v := ?_) rfl (by kernel_rfl) (by kernel_rfl) (by kernel_rfl) (fun _ _ _ h => h) (Or.inl ⟨by rfl, ?_⟩) (by assumption) ?_
        rotate_left
        · intro w hSw; (try dsimp only at hSw); go_simp; try with_reducible rfl
        simp only [Act.put, List.setIfInBounds_toArray, List.set_cons_zero, List.set_cons_succ]
        refine wpAnyH_take (i := 10) (oi := ⟨some 61, _, _, _, _, _⟩) (v := ?_) rfl (by kernel_rfl) (by kernel_rfl) (by kernel_rfl) (fun _ _ _ h => h) (Or.inl ⟨by rfl, ?_⟩) (by assumption) ?_
        rotate_left
        · intro w hSw; (try dsimp only at hSw); go_simp; try with_reducible rfl
        simp only [Act.put, List.setIfInBounds_toArray, List.set_cons_zero, List.set_cons_succ]
        refine wpAnyH_ready (rs := [12]) (by kernel_rfl) (by simp) ?_
        refine AllReadyH.cons (o := ⟨none, _, _, _, _, _⟩) rfl (fun Kq hKq => ?_) AllReadyH.nil
        rw [if_pos (by rfl)]
        refine wp_store_atQ 27 (.tmp 9) (.tmp 60) xb 0 _ _ _ #[.int .i64 D4.many, .int .i64 D4.need, .bool D4.on, .int .i64 D4.at_, .slice a4 D4.n c4, .bool D4.veto] 27 X.out rfl rfl rfl rfl (Nat.le_of_ble_eq_true rfl) (by kernel_rfl) (by kernel_rfl) (by kernel_rfl) ?_
        intro v5 hg hT
        have OX' := OX.out.keptC X.out (by decide) hg
        have OW' := Oc1.out.keptC X.out (by decide) hg
        clear OX Oc1
        have OX := Lib.hid OX'
        have Oc1 := Lib.hid (OW'.lower (lo' := 0) (Nat.zero_le _))
        clear OX' OW' X
        have X := Lib.hid hT
        clear hT
        replace G := Lib.hid (grown_new G.out (by omega) hg)
        replace K1 := Lib.hid (K1.out.kept hg (by intro e; have e := Option.some.inj e; omega))
        clear hg
        refine hKq.out _ _ (⟨K1.out.cell 0, K1.out.cell 1, K1.out.cell 2, K1.out.cell 3, K1.out.cell 4, K1.out.cell 5⟩) (fun hHeld => ?_)
        clear hKq Kq
        refine wpAnyH_take (i := 13) (oi := ⟨some 10, _, _, _, _, _⟩) (v := ?_) rfl (by kernel_rfl) (by kernel_rfl) (by kernel_rfl) (fun _ _ _ h => h) (Or.inl ⟨by rfl, ?_⟩) (by assumption) ?_
        rotate_left
        · intro w hSw; (try dsimp only at hSw); go_simp; try with_reducible rfl
        simp only [Act.put, List.setIfInBounds_toArray, List.set_cons_zero, List.set_cons_succ]
        refine wpAnyH_done (by kernel_rfl) ?_ _
        clear hHeld
        revert hxt; revert hxw; revert OX; revert X; revert K1; revert Oc1; revert G; revert c4; revert a4; revert xb; revert v5
        exact hk.out
    case rest =>
      clear G K1 Oc1
      intro v5 xb a4 c4 G Oc1 K1 X OX hxw hxt
      have K4 := X; have Oc4 := OX; clear X OX
      generalize xb = b4 at *
      have HV := Lib.hid (show veO C = true by unfold veO; rw [HC.out, HST.out]; rfl)
      have HD5 := Lib.hid (show veV ⟨C.many, C.need, C.on, C.at_, C.n, C.f, C.veto⟩ = endC C from veV_nw HC.out HST.out)
      have HK5 := Lib.hid (show veO ⟨C.many, C.need, C.on, C.at_, C.n, C.f, C.veto⟩ = true from HV.out)
      have k1_0 : World.cell? v5 ⟨b1, 0, none⟩ = some (.int .i64 C.many) := K1.out.cell 0
      have k1_1 : World.cell? v5 ⟨b1, 1, none⟩ = some (.int .i64 C.need) := K1.out.cell 1
      have k1_2 : World.cell? v5 ⟨b1, 2, none⟩ = some (.bool C.on) := K1.out.cell 2
      have k1_3 : World.cell? v5 ⟨b1, 3, none⟩ = some (.int .i64 C.at_) := K1.out.cell 3
      have k1_4 : World.cell? v5 ⟨b1, 4, none⟩ = some (.slice a1 C.n c1) := K1.out.cell 4
      have k1_5 : World.cell? v5 ⟨b1, 5, none⟩ = some (.bool C.veto) := K1.out.cell 5
      go_wp2_with fail
      refine (iveto _ C.many C.need C.on C.at_ a1 C.n c1 C.f C.veto  Oc1.out.ints (by omega) Oc1.out.le.1 Oc1.out.le.2).mono ?_
      rintro e v5 ⟨a5, c5, rfl, hO, hg⟩
      rw [HD5.out] at hO ⊢
      rw [HK5.out]
      clear k1_0 k1_1 k1_2 k1_3 k1_4 k1_5
      replace G := Lib.hid (gtr G.out hg)
      replace K1 := Lib.hid (K1.out.keptN hg)
      replace Oc1 := Lib.hid (Oc1.out.kept hg (fun g e => by cases e))
      replace K4 := Lib.hid (K4.out.keptN hg)
      replace Oc4 := Lib.hid (Oc4.out.kept hg (fun g e => by cases e))
      clear hg
      have Oc5 := Lib.hid hO
      clear hO
      go_wp2_with (refine stop_store rfl ?_)
      refine ⟨trivial, ?_⟩
      refine wpList_store_atQ rfl 27 (.tmp 11) (.tmp 65) _ 0 _ _ _ #[.int .i64 (endC C).many, .int .i64 (endC C).need, .bool (endC C).on, .int .i64 (endC C).at_, .slice a5 (endC C).n c5, .bool (endC C).veto] 27 (Blk.new v5 #[.int .i64 0, .int .i64 0, .bool false, .int .i64 0, .slice none 0 0, .bool false] 27) rfl rfl rfl rfl (Nat.le_of_ble_eq_true rfl) (by kernel_rfl) (by kernel_rfl) (by kernel_rfl) ?_
      intro u5 hgV hT
      have hg : (v5).grownBy u5 none := grown_new (grown_alloc (v5) (.cells #[.int .i64 0, .int .i64 0, .bool false, .int .i64 0, .slice none 0 0, .bool false] 27) none) (Nat.le_refl _) hgV
      have K5 := Lib.hid hT
      clear hgV hT
      replace G := Lib.hid (gtr G.out hg)
      replace K1 := Lib.hid (K1.out.keptN hg)
      replace Oc1 := Lib.hid (Oc1.out.kept hg (fun g e => by cases e))
      replace K4 := Lib.hid (K4.out.keptN hg)
      replace Oc4 := Lib.hid (Oc4.out.kept hg (fun g e => by cases e))
      replace Oc5 := Lib.hid (Oc5.out.kept hg (fun g e => by cases e))
      clear hg
      generalize (v5).heap.size = b5 at *
      have HL := Lib.hid (show cmF C ((X : Int) + (d : Int)) = true from cmF_iff.2 ⟨HC.out, tmF_iff.2 ⟨by omega, by omega⟩, HST.out, hnd, by omega⟩)
      have HE := Lib.hid (show cmF (endC C) ((X : Int) + (d : Int)) = false by unfold cmF; rw [show stF (endC C).on (endC C).veto = false by simp [stF, endC]]; simp)
      have k1_0 : World.cell? u5 ⟨b1, 0, none⟩ = some (.int .i64 C.many) := K1.out.cell 0
      have k1_1 : World.cell? u5 ⟨b1, 1, none⟩ = some (.int .i64 C.need) := K1.out.cell 1
      have k1_2 : World.cell? u5 ⟨b1, 2, none⟩ = some (.bool C.on) := K1.out.cell 2
      have k1_3 : World.cell? u5 ⟨b1, 3, none⟩ = some (.int .i64 C.at_) := K1.out.cell 3
      have k1_4 : World.cell? u5 ⟨b1, 4, none⟩ = some (.slice a1 C.n c1) := K1.out.cell 4
      have k1_5 : World.cell? u5 ⟨b1, 5, none⟩ = some (.bool C.veto) := K1.out.cell 5
      go_wp2_with fail
      refine (imay _ C.many C.need C.on C.at_ a1 C.n c1 C.f C.veto ((X : Int) + (d : Int)) Oc1.out.ints (by omega) Oc1.out.le.1 Oc1.out.le.2).mono ?_
      rintro e v6 ⟨rfl, hg⟩
      rw [show cmF ⟨C.many, C.need, C.on, C.at_, C.n, C.f, C.veto⟩ ((X : Int) + (d : Int)) = true from HL.out]
      clear k1_0 k1_1 k1_2 k1_3 k1_4 k1_5
      replace G := Lib.hid (gtr G.out hg)
      replace K1 := Lib.hid (K1.out.keptN hg)
      replace Oc1 := Lib.hid (Oc1.out.kept hg (fun g e => by cases e))
      replace K4 := Lib.hid (K4.out.keptN hg)
      replace Oc4 := Lib.hid (Oc4.out.kept hg (fun g e => by cases e))
      replace Oc5 := Lib.hid (Oc5.out.kept hg (fun g e => by cases e))
      replace K5 := Lib.hid (K5.out.keptN hg)
      clear hg
      cases g4 with
      | true =>
        have HO := Lib.hid (show vtO C (1 + (f : Int)) = true from HK4.out)
        obtain rfl : addC C (1 + (f : Int)) = D4 := by rw [← HD4.out]; exact (vtV_ofL HO.out).symm
        have HMX := Lib.hid (show cmF (addC C (1 + (f : Int))) (X : Int) = true from cmF_iff.2 ⟨cok_ofL HO.out, tmF_iff.2 ⟨by omega, by omega⟩, HST.out, by show C.need ≤ ((C.n + 1 : Nat) : Int); omega, by show 10 ≤ (X : Int) - C.at_; omega⟩)
        have k4_0 : World.cell? v6 ⟨b4, 0, none⟩ = some (.int .i64 (addC C (1 + (f : Int))).many) := K4.out.cell 0
        have k4_1 : World.cell? v6 ⟨b4, 1, none⟩ = some (.int .i64 (addC C (1 + (f : Int))).need) := K4.out.cell 1
        have k4_2 : World.cell? v6 ⟨b4, 2, none⟩ = some (.bool (addC C (1 + (f : Int))).on) := K4.out.cell 2
        have k4_3 : World.cell? v6 ⟨b4, 3, none⟩ = some (.int .i64 (addC C (1 + (f : Int))).at_) := K4.out.cell 3
        have k4_4 : World.cell? v6 ⟨b4, 4, none⟩ = some (.slice a4 (addC C (1 + (f : Int))).n c4) := K4.out.cell 4
        have k4_5 : World.cell? v6 ⟨b4, 5, none⟩ = some (.bool (addC C (1 + (f : Int))).veto) := K4.out.cell 5
        go_wp2_with fail
        refine (imay _ (addC C (1 + (f : Int))).many (addC C (1 + (f : Int))).need (addC C (1 + (f : Int))).on (addC C (1 + (f : Int))).at_ a4 (addC C (1 + (f : Int))).n c4 (addC C (1 + (f : Int))).f (addC C (1 + (f : Int))).veto (X : Int) Oc4.out.ints (by omega) Oc4.out.le.1 Oc4.out.le.2).mono ?_
        rintro e v7 ⟨rfl, hg⟩
        rw [show cmF ⟨(addC C (1 + (f : Int))).many, (addC C (1 + (f : Int))).need, (addC C (1 + (f : Int))).on, (addC C (1 + (f : Int))).at_, (addC C (1 + (f : Int))).n, (addC C (1 + (f : Int))).f, (addC C (1 + (f : Int))).veto⟩ (X : Int) = true from HMX.out]
        clear k4_0 k4_1 k4_2 k4_3 k4_4 k4_5
        replace G := Lib.hid (gtr G.out hg)
        replace K1 := Lib.hid (K1.out.keptN hg)
        replace Oc1 := Lib.hid (Oc1.out.kept hg (fun g e => by cases e))
        replace K4 := Lib.hid (K4.out.keptN hg)
        replace Oc4 := Lib.hid (Oc4.out.kept hg (fun g e => by cases e))
        replace Oc5 := Lib.hid (Oc5.out.kept hg (fun g e => by cases e))
        replace K5 := Lib.hid (K5.out.keptN hg)
        clear hg
        have hne5 : (endC C).n ≤ 7 := hn7
        have k5_0 : World.cell? v7 ⟨b5, 0, none⟩ = some (.int .i64 (endC C).many) := K5.out.cell 0
        have k5_1 : World.cell? v7 ⟨b5, 1, none⟩ = some (.int .i64 (endC C).need) := K5.out.cell 1
        have k5_2 : World.cell? v7 ⟨b5, 2, none⟩ = some (.bool (endC C).on) := K5.out.cell 2
        have k5_3 : World.cell? v7 ⟨b5, 3, none⟩ = some (.int .i64 (endC C).at_) := K5.out.cell 3
        have k5_4 : World.cell? v7 ⟨b5, 4, none⟩ = some (.slice a5 (endC C).n c5) := K5.out.cell 4
        have k5_5 : World.cell? v7 ⟨b5, 5, none⟩ = some (.bool (endC C).veto) := K5.out.cell 5
        go_wp2_with fail
        refine (imay _ (endC C).many (endC C).need (endC C).on (endC C).at_ a5 (endC C).n c5 (endC C).f (endC C).veto ((X : Int) + (d : Int)) Oc5.out.ints (by omega) Oc5.out.le.1 Oc5.out.le.2).mono ?_
        rintro e v8 ⟨rfl, hg⟩
        rw [show cmF ⟨(endC C).many, (endC C).need, (endC C).on, (endC C).at_, (endC C).n, (endC C).f, (endC C).veto⟩ ((X : Int) + (d : Int)) = false from HE.out]
        clear k5_0 k5_1 k5_2 k5_3 k5_4 k5_5
        replace G := Lib.hid (gtr G.out hg)
        replace K1 := Lib.hid (K1.out.keptN hg)
        replace Oc1 := Lib.hid (Oc1.out.kept hg (fun g e => by cases e))
        replace K4 := Lib.hid (K4.out.keptN hg)
        replace Oc4 := Lib.hid (Oc4.out.kept hg (fun g e => by cases e))
        replace Oc5 := Lib.hid (Oc5.out.kept hg (fun g e => by cases e))
        replace K5 := Lib.hid (K5.out.keptN hg)
        clear hg
        go_wp2
        go_ret
        exact ⟨by simp, below_of G.out⟩
      | false =>
        have hne5 : (endC C).n ≤ 7 := hn7
        have k5_0 : World.cell? v6 ⟨b5, 0, none⟩ = some (.int .i64 (endC C).many) := K5.out.cell 0
        have k5_1 : World.cell? v6 ⟨b5, 1, none⟩ = some (.int .i64 (endC C).need) := K5.out.cell 1
        have k5_2 : World.cell? v6 ⟨b5, 2, none⟩ = some (.bool (endC C).on) := K5.out.cell 2
        have k5_3 : World.cell? v6 ⟨b5, 3, none⟩ = some (.int .i64 (endC C).at_) := K5.out.cell 3
        have k5_4 : World.cell? v6 ⟨b5, 4, none⟩ = some (.slice a5 (endC C).n c5) := K5.out.cell 4
        have k5_5 : World.cell? v6 ⟨b5, 5, none⟩ = some (.bool (endC C).veto) := K5.out.cell 5
        go_wp2_with fail
        refine (imay _ (endC C).many (endC C).need (endC C).on (endC C).at_ a5 (endC C).n c5 (endC C).f (endC C).veto ((X : Int) + (d : Int)) Oc5.out.ints (by omega) Oc5.out.le.1 Oc5.out.le.2).mono ?_
        rintro e v8 ⟨rfl, hg⟩
        rw [show cmF ⟨(endC C).many, (endC C).need, (endC C).on, (endC C).at_, (endC C).n, (endC C).f, (endC C).veto⟩ ((X : Int) + (d : Int)) = false from HE.out]
        clear k5_0 k5_1 k5_2 k5_3 k5_4 k5_5
        replace G := Lib.hid (gtr G.out hg)
        replace K1 := Lib.hid (K1.out.keptN hg)
        replace Oc1 := Lib.hid (Oc1.out.kept hg (fun g e => by cases e))
        replace K4 := Lib.hid (K4.out.keptN hg)
        replace Oc4 := Lib.hid (Oc4.out.kept hg (fun g e => by cases e))
        replace Oc5 := Lib.hid (Oc5.out.kept hg (fun g e => by cases e))
        replace K5 := Lib.hid (K5.out.keptN hg)
        clear hg
        go_wp2
        go_ret
        exact ⟨by simp, below_of G.out⟩
end Run
end Go.Proofs.Ytbfmigmhmjgdgaa
