/-
  The walks of the laws on how much some may.
-/
import Derived.Test.YthbigmcklacbnaaRunYa
namespace Go.Proofs.Ythbigmcklacbnaa
namespace Run
open Go.RowKit Alg Mem Con Draw Po
set_option linter.unusedVariables false

theorem vl_most {n : Nat} {R : Nat → ByteArray} {m : Nat} {U : Nat → RV} {q : Nat} {z : Nat → Int} (h : plF n R m U = true) : ∀ j, j < m → -1 ≤ vlF n R U q z j ∧ vlF n R U q z j ≤ 99 := fun j hj => by
  have h1 := ruE_iff.1 ((plF_iff.1 h).2.2 j hj)
  unfold vlF; split <;> omega
theorem psF_in {n : Nat} {R : Nat → ByteArray} {m : Nat} {U : Nat → RV} {q : Nat} {z : Nat → Int} (h : plF n R m U = true) : psF n R m U q z = mx (vlF n R U q z) m := if_pos h
theorem psF_b {n : Nat} {R : Nat → ByteArray} {m : Nat} {U : Nat → RV} {q : Nat} {z : Nat → Int} (h : plF n R m U = true) : -1 ≤ psF n R m U q z ∧ psF n R m U q z ≤ 99 := by
  rw [psF_in h]
  exact ⟨mx_low _ _, mx_le.2 ⟨by decide, fun j hj => (vl_most h j hj).2⟩⟩
theorem psF_none {n : Nat} {R : Nat → ByteArray} {m : Nat} {U : Nat → RV} {z : Nat → Int} (h : plF n R m U = true) : psF n R m U 0 z = -1 := by
  rw [psF_in h]
  refine Int.le_antisymm (mx_le.2 ⟨by decide, fun j hj => ?_⟩) (mx_low _ _)
  have h1 := ruE_iff.1 ((plF_iff.1 h).2.2 j hj)
  unfold vlF; rw [mnF_zero, if_neg (by omega)]; exact Int.le_refl _
theorem psF_norule {n : Nat} {R : Nat → ByteArray} {U : Nat → RV} {q : Nat} {z : Nat → Int} : psF n R 0 U q z = -1 := by unfold psF; split <;> rfl
theorem myF_in {n : Nat} {R : Nat → ByteArray} {m : Nat} {U : Nat → RV} {q : Nat} {z : Nat → Int} {a : Int} (h : plF n R m U = true) : myF n R m U q z a = decide (0 ≤ a ∧ a ≤ 99 ∧ a ≤ psF n R m U q z) := by unfold myF; rw [h]; rfl
set_option maxRecDepth 100000 in
set_option maxHeartbeats 4000000 in
theorem FnMost (a : Option Addr) (len cap : Nat) (w : World) (hB : Bytes w w.heap.size a len) (hc : len ≤ cap) (hm : cap ≤ maxLen) :
    Calls Try.prog 7 #[.slice a len cap] w (Yes w) := by
  by_cases hbig : 1048576 < len
  · have hbig' : (1048576 : Int) < (len : Int) := by omega
    clear hB
    go_enter Try.func7, Try.ntmps7
    go_wp2
    go_ret
    exact ⟨rfl, Below.refl _ _⟩
  have hbig' : ¬ (1048576 : Int) < (len : Int) := by omega
  go_enter Try.func7, Try.ntmps7
  go_wp2_with fail
  refine (drawPoS _ a len cap hB hc hm).mono ?_
  rintro e w1 ⟨b, n, c, R, b2, m, c2, U, b3, q, c3, z, rfl, hn, hmm, hq, ho, hu, hz, hg⟩
  have hqc := (own_le hz).1
  have hmc := (own_le hu).1
  have hmc2 := (own_le hu).2
  have G := Lib.hid hg; have O := Lib.hid ho.str; have Z := Lib.hid hz; have P := Lib.hid hu
  clear hg ho hz hu hB
  go_wp2_with fail
  refine (ipmost _ _ n c R _ m c2 U _ q c3 z O.out P.out.rul Z.out.ints (by omega) (by omega) (by omega)).mono ?_
  rintro e v1 ⟨rfl, hg⟩
  replace G := Lib.hid (gtr G.out hg); replace O := Lib.hid (O.out.kept hg); replace Z := Lib.hid (Z.out.keptN hg); replace P := Lib.hid (P.out.keptN hg)
  clear hg
  go_wp2_with fail
  refine (spmost _ _ n c R _ m c2 U _ q c3 z O.out P.out.rul Z.out.ints (by omega) (by omega) (by omega) hqc).mono ?_
  rintro e v2 ⟨rfl, hg⟩
  replace G := Lib.hid (gtr G.out hg); replace O := Lib.hid (O.out.kept hg); replace Z := Lib.hid (Z.out.keptN hg); replace P := Lib.hid (P.out.keptN hg)
  clear hg
  go_wp2_with fail
  refine (spolok _ _ n c R _ m c2 U O.out P.out.rul (by omega) (by omega)).mono ?_
  rintro e w3 ⟨rfl, hg⟩
  have G3 := Lib.hid (gtr G.out hg); have O3 := Lib.hid (O.out.kept hg); have Z3 := Lib.hid (Z.out.keptN hg); have P3 := Lib.hid (P.out.keptN hg)
  clear hg G O Z P
  cases hp : plF n R m U with
  | false =>
    clear hp
    go_wp2_with fail
    refine (spmost _ _ n c R _ m c2 U _ q c3 z O3.out P3.out.rul Z3.out.ints (by omega) (by omega) (by omega) hqc).mono ?_
    rintro e w4 ⟨rfl, hg⟩
    have G4 := Lib.hid (gtr G3.out hg)
    clear hg
    go_wp2
    go_ret
    exact ⟨by simp, below_of G4.out⟩
  | true =>
    have HM := Lib.hid (fun x : Int => myF_in (q := q) (z := z) (a := x) hp)
    have hbb := psF_b (q := q) (z := z) hp
    clear hp
    obtain ⟨ps, hps⟩ : ∃ ps, psF n R m U q z = ps := ⟨_, rfl⟩
    rw [hps] at hbb ⊢
    have HPS := Lib.hid hps
    obtain ⟨hb1, hb2⟩ := hbb
    clear hps
    go_wp2
    go_loopw [7] (fun i wr => ∃ j : Nat, j ≤ 100 ∧ i = .int .i64 j ∧ w3.grownBy wr none) (fun i _ => 100 - (intOf i).toNat)
    case atStart => exact ⟨0, by omega, rfl, Draw.grown_refl _ _⟩
    case round =>
      obtain ⟨j, hj, rfl, hg⟩ := hrel
      have G4 := Lib.hid hg; have O4 := Lib.hid (O3.out.kept hg); have Z4 := Lib.hid (Z3.out.keptN hg); have P4 := Lib.hid (P3.out.keptN hg)
      clear hg
      by_cases h9 : j < 100
      · have h99 : (j : Int) ≤ 99 := by omega
        go_wp2_with fail
        refine (ipmay _ _ n c R _ m c2 U _ q c3 z j O4.out P4.out.rul Z4.out.ints (by omega) (by omega) (by omega)).mono ?_
        rintro e w5 ⟨rfl, hg⟩
        have G5 := Lib.hid (gtr G4.out hg)
        clear hg
        by_cases hle : (j : Int) ≤ ps
        · rw [show myF n R m U q z (j : Int) = true by rw [HM.out, HPS.out]; exact decide_eq_true ⟨by omega, h99, hle⟩]
          go_wp2
          go_roundw
          case rel => exact ⟨j + 1, by omega, by go_num, G5.out⟩
          case measure => simp [intOf]; omega
        · rw [show myF n R m U q z (j : Int) = false by rw [HM.out, HPS.out]; exact decide_eq_false fun h => hle h.2.2]
          go_wp2
          go_roundw
          case rel => exact ⟨j + 1, by omega, by go_num, G5.out⟩
          case measure => simp [intOf]; omega
      · obtain rfl : j = 100 := by omega
        go_wp2
        go_ret
        exact ⟨by simp, below_of (gtr G3.out G4.out)⟩
set_option maxRecDepth 100000 in
set_option maxHeartbeats 4000000 in
theorem FnMayNobody (a : Option Addr) (len cap : Nat) (w : World) (hB : Bytes w w.heap.size a len) (hc : len ≤ cap) (hm : cap ≤ maxLen) :
    Calls Try.prog 8 #[.slice a len cap] w (Yes w) := by
  by_cases hbig : 1048576 < len
  · have hbig' : (1048576 : Int) < (len : Int) := by omega
    clear hB
    go_enter Try.func8, Try.ntmps8
    go_wp2
    go_ret
    exact ⟨rfl, Below.refl _ _⟩
  have hbig' : ¬ (1048576 : Int) < (len : Int) := by omega
  go_enter Try.func8, Try.ntmps8
  go_wp2_with fail
  refine (drawPoS _ a len cap hB hc hm).mono ?_
  rintro e w1 ⟨b, n, c, R, b2, m, c2, U, b3, q, c3, z, rfl, hn, hmm, hq, ho, hu, hz, hg⟩
  have hqc := (own_le hz).1
  have hmc := (own_le hu).1
  have hmc2 := (own_le hu).2
  have G := Lib.hid hg; have O := Lib.hid ho.str; have Z := Lib.hid hz; have P := Lib.hid hu
  clear hg ho hz hu hB
  go_wp2_with fail
  refine (ipmost _ _ n c R _ m c2 U _ q c3 z O.out P.out.rul Z.out.ints (by omega) (by omega) (by omega)).mono ?_
  rintro e v1 ⟨rfl, hg⟩
  replace G := Lib.hid (gtr G.out hg); replace O := Lib.hid (O.out.kept hg); replace Z := Lib.hid (Z.out.keptN hg); replace P := Lib.hid (P.out.keptN hg)
  clear hg
  go_wp2_with fail
  refine (spmost _ _ n c R _ m c2 U _ q c3 z O.out P.out.rul Z.out.ints (by omega) (by omega) (by omega) hqc).mono ?_
  rintro e v2 ⟨rfl, hg⟩
  replace G := Lib.hid (gtr G.out hg); replace O := Lib.hid (O.out.kept hg); replace Z := Lib.hid (Z.out.keptN hg); replace P := Lib.hid (P.out.keptN hg)
  clear hg
  go_wp2_with fail
  refine (spolok _ _ n c R _ m c2 U O.out P.out.rul (by omega) (by omega)).mono ?_
  rintro e w3 ⟨rfl, hg⟩
  have G3 := Lib.hid (gtr G.out hg); have O3 := Lib.hid (O.out.kept hg); have Z3 := Lib.hid (Z.out.keptN hg); have P3 := Lib.hid (P.out.keptN hg)
  clear hg G O Z P
  cases hp : plF n R m U with
  | false =>
    clear hp
    go_wp2_with fail
    refine (spmost _ _ n c R _ m c2 U _ q c3 z O3.out P3.out.rul Z3.out.ints (by omega) (by omega) (by omega) hqc).mono ?_
    rintro e w4 ⟨rfl, hg⟩
    have G4 := Lib.hid (gtr G3.out hg)
    clear hg
    go_wp2
    go_ret
    exact ⟨by simp, below_of G4.out⟩
  | true =>
    have HP := Lib.hid hp
    clear hp
    go_wp2_with fail
    refine (ipmost _ _ n c R _ m c2 U none 0 0 (fun _ => 0) O3.out P3.out.rul (.inl rfl) (by omega) (by omega) (by omega)).mono ?_
    rintro e w4 ⟨rfl, hg⟩
    rw [psF_none HP.out]
    have G4 := Lib.hid (gtr G3.out hg); have O4 := Lib.hid (O3.out.kept hg); have Z4 := Lib.hid (Z3.out.keptN hg); have P4 := Lib.hid (P3.out.keptN hg)
    clear hg
    go_wp2_with fail
    refine (ipmost _ _ n c R none 0 0 (fun _ => ⟨noS, 0, 0⟩) _ q c3 z O4.out (.inl rfl) Z4.out.ints (by omega) (by omega) (by omega)).mono ?_
    rintro e w5 ⟨rfl, hg⟩
    rw [psF_norule]
    have G5 := Lib.hid (gtr G4.out hg); have O5 := Lib.hid (O4.out.kept hg); have P5 := Lib.hid (P4.out.keptN hg)
    clear hg
    go_wp2_with fail
    refine (ipmay _ _ n c R _ m c2 U none 0 0 (fun _ => 0) 0 O5.out P5.out.rul (.inl rfl) (by omega) (by omega) (by omega)).mono ?_
    rintro e w6 ⟨rfl, hg⟩
    rw [show myF n R m U 0 (fun _ => 0) 0 = false by rw [myF_in HP.out, psF_none HP.out]; rfl]
    have G6 := Lib.hid (gtr G5.out hg)
    clear hg
    go_wp2
    go_ret
    exact ⟨by first | rfl | simp, below_of G6.out⟩
/-! Whether any rule allows an amount. -/
def cany (n : Nat) (R : Nat → ByteArray) (U : Nat → RV) (q : Nat) (z : Nat → Int) (a : Int) : Nat → Bool
  | 0 => false
  | k + 1 => cany n R U q z a k || (decide (a ≤ (U k).most) && decide ((U k).many ≤ (mnF n R q z (U k).r : Int)))
theorem cany_iff {n : Nat} {R : Nat → ByteArray} {U : Nat → RV} {q : Nat} {z : Nat → Int} {a : Int} {m : Nat} : cany n R U q z a m = true ↔ ∃ j, j < m ∧ a ≤ (U j).most ∧ (U j).many ≤ (mnF n R q z (U j).r : Int) := by
  induction m with
  | zero => exact ⟨fun h => (by cases h), fun ⟨j, hj, _⟩ => by omega⟩
  | succ m ih =>
    have e : cany n R U q z a (m + 1) = (cany n R U q z a m || (decide (a ≤ (U m).most) && decide ((U m).many ≤ (mnF n R q z (U m).r : Int)))) := rfl
    rw [e, Bool.or_eq_true, ih, Bool.and_eq_true, decide_eq_true_eq, decide_eq_true_eq]
    constructor
    · intro h
      rcases h with h | h
      · obtain ⟨j, hj, h⟩ := h
        exact ⟨j, by omega, h⟩
      · exact ⟨m, by omega, h⟩
    · rintro ⟨j, hj, h⟩
      rcases (by omega : j < m ∨ j = m) with h1 | rfl
      · exact .inl ⟨j, h1, h⟩
      · exact .inr h
theorem myF_cany {n : Nat} {R : Nat → ByteArray} {m : Nat} {U : Nat → RV} {q : Nat} {z : Nat → Int} {a : Int} (h : plF n R m U = true) : myF n R m U q z a = (cany n R U q z a m && (decide (0 ≤ a) && decide (a ≤ 99))) := by
  rw [myF_in h, Bool.eq_iff_iff, Bool.and_eq_true, Bool.and_eq_true, decide_eq_true_eq, decide_eq_true_eq, decide_eq_true_eq, cany_iff, psF_in h]
  constructor
  · rintro ⟨h0, h9, hp⟩
    obtain ⟨j, hj, hv⟩ := (mx_ge (by omega)).1 hp
    refine ⟨⟨j, hj, ?_⟩, h0, h9⟩
    unfold vlF at hv
    split at hv
    · exact ⟨hv, by assumption⟩
    · omega
  · rintro ⟨⟨j, hj, h1, h2⟩, h0, h9⟩
    refine ⟨h0, h9, (mx_ge (by omega)).2 ⟨j, hj, ?_⟩⟩
    unfold vlF; rw [if_pos h2]; exact h1
set_option maxRecDepth 100000 in
set_option maxHeartbeats 8000000 in
theorem FnMay (a : Option Addr) (len cap : Nat) (w : World) (hB : Bytes w w.heap.size a len) (hc : len ≤ cap) (hm : cap ≤ maxLen) :
    Calls Try.prog 5 #[.slice a len cap] w (Yes w) := by
  by_cases hbig : 1048576 < len
  · have hbig' : (1048576 : Int) < (len : Int) := by omega
    clear hB
    go_enter Try.func5, Try.ntmps5
    go_wp2
    go_ret
    exact ⟨rfl, Below.refl _ _⟩
  have hbig' : ¬ (1048576 : Int) < (len : Int) := by omega
  go_enter Try.func5, Try.ntmps5
  go_wp2_with fail
  refine (drawPoY _ a len cap hB hc hm).mono ?_
  rintro e w1 ⟨b, n, c, R, b2, m, c2, U, b3, q, c3, z, am, rfl, hn, hmm, hq, ho, hu, hz, hg⟩
  have hqc := (own_le hz).1
  have G := Lib.hid hg; have O := Lib.hid ho.str; have Z := Lib.hid hz; have P := Lib.hid hu
  clear hg ho hz hu hB
  go_wp2_with fail
  refine (ipmay _ _ n c R _ m c2 U _ q c3 z am O.out P.out.rul Z.out.ints (by omega) (by omega) (by omega)).mono ?_
  rintro e v1 ⟨rfl, hg⟩
  replace G := Lib.hid (gtr G.out hg); replace O := Lib.hid (O.out.kept hg); replace Z := Lib.hid (Z.out.keptN hg); replace P := Lib.hid (P.out.keptN hg)
  clear hg
  go_wp2_with fail
  refine (spmay _ _ n c R _ m c2 U _ q c3 z am O.out P.out.rul Z.out.ints (by omega) (by omega) (by omega) hqc).mono ?_
  rintro e v2 ⟨rfl, hg⟩
  replace G := Lib.hid (gtr G.out hg); replace O := Lib.hid (O.out.kept hg); replace Z := Lib.hid (Z.out.keptN hg); replace P := Lib.hid (P.out.keptN hg)
  clear hg
  go_wp2_with fail
  refine (spolok _ _ n c R _ m c2 U O.out P.out.rul (by omega) (by omega)).mono ?_
  rintro e w3 ⟨rfl, hg⟩
  have G3 := Lib.hid (gtr G.out hg); have O3 := Lib.hid (O.out.kept hg); have Z3 := Lib.hid (Z.out.keptN hg); have P3 := Lib.hid (P.out.keptN hg)
  clear hg G O Z P
  cases hp : plF n R m U with
  | false =>
    clear hp
    go_wp2_with fail
    refine (spmay _ _ n c R _ m c2 U _ q c3 z am O3.out P3.out.rul Z3.out.ints (by omega) (by omega) (by omega) hqc).mono ?_
    rintro e w4 ⟨rfl, hg⟩
    have G4 := Lib.hid (gtr G3.out hg)
    clear hg
    go_wp2
    go_ret
    exact ⟨by simp, below_of G4.out⟩
  | true =>
    have HY := Lib.hid (myF_cany (q := q) (z := z) (a := am) hp)
    have HPL := Lib.hid (plF_iff.1 hp).1
    clear hp
    generalize myF n R m U q z am = my at *
    go_wp2
    go_loopw [8, 9] (fun v i wr => ∃ (j : Nat) (cb : Bool), j ≤ m ∧ i = .int .i64 j ∧ v = .bool cb ∧ cany n R U q z am j = cb ∧ w3.grownBy wr none) (fun _ i _ => m - (intOf i).toNat)
    case atStart => exact ⟨0, false, by omega, rfl, rfl, rfl, Draw.grown_refl _ _⟩
    case round =>
      obtain ⟨k, cb, hk, rfl, rfl, hcb, hg⟩ := hrel
      have HCB := Lib.hid hcb; have G4 := Lib.hid hg; have O4 := Lib.hid (O3.out.kept hg); have Z4 := Lib.hid (Z3.out.keptN hg)
      have P4 := Lib.hid (P3.out.keptN hg)
      clear hcb hg
      by_cases hlt : k < m
      · obtain ⟨b', off, hbe, hb, hcc⟩ := P4.out.rul.ptr (by omega)
        injection hbe with hbe; injection hbe with hb1 hb2 _
        subst hb1; subst hb2
        have hc1 := hcc k hlt
        rw [Nat.zero_add] at hc1
        clear hcc
        obtain ⟨ru, hu⟩ : ∃ u, U k = u := ⟨_, rfl⟩
        rw [hu] at hc1
        obtain ⟨pm, hpm⟩ : ∃ pm, mnF n R q z ru.r = pm := ⟨_, rfl⟩
        have HPM := Lib.hid (show pmF n R q z ru.r = pm by rw [pmF_all HPL.out, hpm])
        have HN := Lib.hid (show cany n R U q z am (k + 1) = (cb || (decide (am ≤ ru.most) && decide (ru.many ≤ (pm : Int)))) by rw [cany, HCB.out, hu, hpm])
        clear hu hpm
        obtain ⟨c0, c1, c2'⟩ := hc1
        cases cb with
        | true =>
          go_wp2_with fail
          refine wp_region_held_drew (S := (fun w' => w'.cell? ⟨b2, k * 3, none⟩ = some (.string ru.r) ∧ w'.cell? ⟨b2, k * 3 + 1, none⟩ = some (.int .i64 ru.many) ∧ w'.cell? ⟨b2, k * 3 + 2, none⟩ = some (.int .i64 ru.most))) (by kernel_rfl) (⟨c0, c1, c2'⟩) (fun hHeld => ?_)
          have hg := gdr wr
          have hq1 := hg.block b2 hb (by simp)
          replace c0 := (World.cell?_of_block hq1).trans c0
          replace c1 := (World.cell?_of_block hq1).trans c1
          replace c2' := (World.cell?_of_block hq1).trans c2'
          clear hq1
          replace O4 := Lib.hid (O4.out.kept hg); replace Z4 := Lib.hid (Z4.out.keptN hg); replace P4 := Lib.hid (P4.out.keptN hg); replace G4 := Lib.hid (gtr G4.out hg)
          clear hg
          generalize wr.drew = v3 at *
          refine wpAnyH_take (i := 0) (oi := ⟨some 51, _, _, _, _, _⟩) (v := ?_) rfl (by kernel_rfl) (by kernel_rfl) (by kernel_rfl) (fun _ _ _ h => h) (Or.inl ⟨by rfl, ?_⟩) (by assumption) ?_
          rotate_left
          · intro w hSw; (try dsimp only at hSw); go_simp; try with_reducible rfl
          simp only [Act.put, List.setIfInBounds_toArray, List.set_cons_zero, List.set_cons_succ]
          refine wpAnyH_take (i := 1) (oi := ⟨some 52, _, _, _, _, _⟩) (v := ?_) rfl (by kernel_rfl) (by kernel_rfl) (by kernel_rfl) (fun _ _ _ h => h) (Or.inl ⟨by rfl, ?_⟩) (by assumption) ?_
          rotate_left
          · intro w hSw; (try dsimp only at hSw); go_simp; try with_reducible rfl
          simp only [Act.put, List.setIfInBounds_toArray, List.set_cons_zero, List.set_cons_succ]
          refine wpAnyH_take (i := 2) (oi := ⟨some 53, _, _, _, _, _⟩) (v := undef) rfl (by kernel_rfl) (by kernel_rfl) (by kernel_rfl) (fun _ _ _ h => h) (Or.inr ⟨by rfl, rfl⟩) (by assumption) ?_
          simp only [Act.put, List.setIfInBounds_toArray, List.set_cons_zero, List.set_cons_succ]
          refine wpAnyH_take (i := 3) (oi := ⟨some 54, _, _, _, _, _⟩) (v := undef) rfl (by kernel_rfl) (by kernel_rfl) (by kernel_rfl) (fun _ _ _ h => h) (Or.inr ⟨by rfl, rfl⟩) (by assumption) ?_
          simp only [Act.put, List.setIfInBounds_toArray, List.set_cons_zero, List.set_cons_succ]
          refine wpAnyH_take (i := 4) (oi := ⟨some 55, _, _, _, _, _⟩) (v := undef) rfl (by kernel_rfl) (by kernel_rfl) (by kernel_rfl) (fun _ _ _ h => h) (Or.inr ⟨by rfl, rfl⟩) (by assumption) ?_
          simp only [Act.put, List.setIfInBounds_toArray, List.set_cons_zero, List.set_cons_succ]
          refine wpAnyH_take (i := 5) (oi := ⟨some 56, _, _, _, _, _⟩) (v := undef) rfl (by kernel_rfl) (by kernel_rfl) (by kernel_rfl) (fun _ _ _ h => h) (Or.inr ⟨by rfl, rfl⟩) (by assumption) ?_
          simp only [Act.put, List.setIfInBounds_toArray, List.set_cons_zero, List.set_cons_succ]
          refine wpAnyH_take (i := 6) (oi := ⟨some 57, _, _, _, _, _⟩) (v := undef) rfl (by kernel_rfl) (by kernel_rfl) (by kernel_rfl) (fun _ _ _ h => h) (Or.inr ⟨by rfl, rfl⟩) (by assumption) ?_
          simp only [Act.put, List.setIfInBounds_toArray, List.set_cons_zero, List.set_cons_succ]
          refine wpAnyH_take (i := 7) (oi := ⟨some 58, _, _, _, _, _⟩) (v := undef) rfl (by kernel_rfl) (by kernel_rfl) (by kernel_rfl) (fun _ _ _ h => h) (Or.inr ⟨by rfl, rfl⟩) (by assumption) ?_
          simp only [Act.put, List.setIfInBounds_toArray, List.set_cons_zero, List.set_cons_succ]
          refine wpAnyH_take (i := 8) (oi := ⟨some 59, _, _, _, _, _⟩) (v := undef) rfl (by kernel_rfl) (by kernel_rfl) (by kernel_rfl) (fun _ _ _ h => h) (Or.inr ⟨by rfl, rfl⟩) (by assumption) ?_
          simp only [Act.put, List.setIfInBounds_toArray, List.set_cons_zero, List.set_cons_succ]
          refine wpAnyH_take (i := 9) (oi := ⟨some 60, _, _, _, _, _⟩) (v := undef) rfl (by kernel_rfl) (by kernel_rfl) (by kernel_rfl) (fun _ _ _ h => h) (Or.inr ⟨by rfl, rfl⟩) (by assumption) ?_
          simp only [Act.put, List.setIfInBounds_toArray, List.set_cons_zero, List.set_cons_succ]
          refine wpAnyH_take (i := 10) (oi := ⟨some 61, _, _, _, _, _⟩) (v := undef) rfl (by kernel_rfl) (by kernel_rfl) (by kernel_rfl) (fun _ _ _ h => h) (Or.inr ⟨by rfl, rfl⟩) (by assumption) ?_
          simp only [Act.put, List.setIfInBounds_toArray, List.set_cons_zero, List.set_cons_succ]
          refine wpAnyH_take (i := 11) (oi := ⟨some 62, _, _, _, _, _⟩) (v := undef) rfl (by kernel_rfl) (by kernel_rfl) (by kernel_rfl) (fun _ _ _ h => h) (Or.inr ⟨by rfl, rfl⟩) (by assumption) ?_
          simp only [Act.put, List.setIfInBounds_toArray, List.set_cons_zero, List.set_cons_succ]
          refine wpAnyH_take (i := 12) (oi := ⟨some 63, _, _, _, _, _⟩) (v := undef) rfl (by kernel_rfl) (by kernel_rfl) (by kernel_rfl) (fun _ _ _ h => h) (Or.inr ⟨by rfl, rfl⟩) (by assumption) ?_
          simp only [Act.put, List.setIfInBounds_toArray, List.set_cons_zero, List.set_cons_succ]
          refine wpAnyH_take (i := 13) (oi := ⟨some 64, _, _, _, _, _⟩) (v := undef) rfl (by kernel_rfl) (by kernel_rfl) (by kernel_rfl) (fun _ _ _ h => h) (Or.inr ⟨by rfl, rfl⟩) (by assumption) ?_
          simp only [Act.put, List.setIfInBounds_toArray, List.set_cons_zero, List.set_cons_succ]
          refine wpAnyH_take (i := 14) (oi := ⟨some 65, _, _, _, _, _⟩) (v := undef) rfl (by kernel_rfl) (by kernel_rfl) (by kernel_rfl) (fun _ _ _ h => h) (Or.inr ⟨by rfl, rfl⟩) (by assumption) ?_
          simp only [Act.put, List.setIfInBounds_toArray, List.set_cons_zero, List.set_cons_succ]
          refine wpAnyH_take (i := 15) (oi := ⟨some 66, _, _, _, _, _⟩) (v := undef) rfl (by kernel_rfl) (by kernel_rfl) (by kernel_rfl) (fun _ _ _ h => h) (Or.inr ⟨by rfl, rfl⟩) (by assumption) ?_
          simp only [Act.put, List.setIfInBounds_toArray, List.set_cons_zero, List.set_cons_succ]
          refine wpAnyH_take (i := 16) (oi := ⟨some 67, _, _, _, _, _⟩) (v := undef) rfl (by kernel_rfl) (by kernel_rfl) (by kernel_rfl) (fun _ _ _ h => h) (Or.inr ⟨by rfl, rfl⟩) (by assumption) ?_
          simp only [Act.put, List.setIfInBounds_toArray, List.set_cons_zero, List.set_cons_succ]
          refine wpAnyH_take (i := 17) (oi := ⟨some 68, _, _, _, _, _⟩) (v := undef) rfl (by kernel_rfl) (by kernel_rfl) (by kernel_rfl) (fun _ _ _ h => h) (Or.inr ⟨by rfl, rfl⟩) (by assumption) ?_
          simp only [Act.put, List.setIfInBounds_toArray, List.set_cons_zero, List.set_cons_succ]
          refine wpAnyH_take (i := 18) (oi := ⟨some 69, _, _, _, _, _⟩) (v := undef) rfl (by kernel_rfl) (by kernel_rfl) (by kernel_rfl) (fun _ _ _ h => h) (Or.inr ⟨by rfl, rfl⟩) (by assumption) ?_
          simp only [Act.put, List.setIfInBounds_toArray, List.set_cons_zero, List.set_cons_succ]
          refine wpAnyH_take (i := 19) (oi := ⟨some 70, _, _, _, _, _⟩) (v := undef) rfl (by kernel_rfl) (by kernel_rfl) (by kernel_rfl) (fun _ _ _ h => h) (Or.inr ⟨by rfl, rfl⟩) (by assumption) ?_
          simp only [Act.put, List.setIfInBounds_toArray, List.set_cons_zero, List.set_cons_succ]
          refine wpAnyH_take (i := 20) (oi := ⟨some 71, _, _, _, _, _⟩) (v := undef) rfl (by kernel_rfl) (by kernel_rfl) (by kernel_rfl) (fun _ _ _ h => h) (Or.inr ⟨by rfl, rfl⟩) (by assumption) ?_
          simp only [Act.put, List.setIfInBounds_toArray, List.set_cons_zero, List.set_cons_succ]
          refine wpAnyH_take (i := 21) (oi := ⟨some 72, _, _, _, _, _⟩) (v := undef) rfl (by kernel_rfl) (by kernel_rfl) (by kernel_rfl) (fun _ _ _ h => h) (Or.inr ⟨by rfl, rfl⟩) (by assumption) ?_
          simp only [Act.put, List.setIfInBounds_toArray, List.set_cons_zero, List.set_cons_succ]
          refine wpAnyH_take (i := 22) (oi := ⟨some 73, _, _, _, _, _⟩) (v := undef) rfl (by kernel_rfl) (by kernel_rfl) (by kernel_rfl) (fun _ _ _ h => h) (Or.inr ⟨by rfl, rfl⟩) (by assumption) ?_
          simp only [Act.put, List.setIfInBounds_toArray, List.set_cons_zero, List.set_cons_succ]
          refine wpAnyH_take (i := 23) (oi := ⟨some 74, _, _, _, _, _⟩) (v := undef) rfl (by kernel_rfl) (by kernel_rfl) (by kernel_rfl) (fun _ _ _ h => h) (Or.inr ⟨by rfl, rfl⟩) (by assumption) ?_
          simp only [Act.put, List.setIfInBounds_toArray, List.set_cons_zero, List.set_cons_succ]
          refine wpAnyH_take (i := 24) (oi := ⟨some 75, _, _, _, _, _⟩) (v := undef) rfl (by kernel_rfl) (by kernel_rfl) (by kernel_rfl) (fun _ _ _ h => h) (Or.inr ⟨by rfl, rfl⟩) (by assumption) ?_
          simp only [Act.put, List.setIfInBounds_toArray, List.set_cons_zero, List.set_cons_succ]
          refine wpAnyH_take (i := 25) (oi := ⟨some 76, _, _, _, _, _⟩) (v := ?_) rfl (by kernel_rfl) (by kernel_rfl) (by kernel_rfl) (fun _ _ _ h => h) (Or.inl ⟨by rfl, ?_⟩) (by assumption) ?_
          rotate_left
          · intro w hSw; (try dsimp only at hSw); go_simp; try with_reducible rfl
          simp only [Act.put, List.setIfInBounds_toArray, List.set_cons_zero, List.set_cons_succ]
          refine wpAnyH_take (i := 26) (oi := ⟨some 8, _, _, _, _, _⟩) (v := ?_) rfl (by kernel_rfl) (by kernel_rfl) (by kernel_rfl) (fun _ _ _ h => h) (Or.inl ⟨by rfl, ?_⟩) (by assumption) ?_
          rotate_left
          · intro w hSw; (try dsimp only at hSw); go_simp; try with_reducible rfl
          simp only [Act.put, List.setIfInBounds_toArray, List.set_cons_zero, List.set_cons_succ]
          refine wpAnyH_done (by kernel_rfl) ?_ _
          go_wp2
          go_roundw
          case rel => exact ⟨k + 1, true, by omega, by go_num, rfl, by rw [HN.out]; rfl, G4.out⟩
          case measure => simp [intOf]; omega
        | false =>
          by_cases h1 : am ≤ ru.most
          · have h1' : ru.most ≥ am := h1
            have hd1 := decide_eq_true h1
            have HD := Lib.hid hd1
            go_wp2_with fail
            refine wp_region_held_drew (S := (fun w' => w'.cell? ⟨b2, k * 3, none⟩ = some (.string ru.r) ∧ w'.cell? ⟨b2, k * 3 + 1, none⟩ = some (.int .i64 ru.many) ∧ w'.cell? ⟨b2, k * 3 + 2, none⟩ = some (.int .i64 ru.most))) (by kernel_rfl) (⟨c0, c1, c2'⟩) (fun hHeld => ?_)
            have hg := gdr wr
            have hq1 := hg.block b2 hb (by simp)
            replace c0 := (World.cell?_of_block hq1).trans c0
            replace c1 := (World.cell?_of_block hq1).trans c1
            replace c2' := (World.cell?_of_block hq1).trans c2'
            clear hq1
            replace O4 := Lib.hid (O4.out.kept hg); replace Z4 := Lib.hid (Z4.out.keptN hg); replace P4 := Lib.hid (P4.out.keptN hg); replace G4 := Lib.hid (gtr G4.out hg)
            clear hg
            generalize wr.drew = v3 at *
            refine wpAnyH_take (i := 0) (oi := ⟨some 51, _, _, _, _, _⟩) (v := ?_) rfl (by kernel_rfl) (by kernel_rfl) (by kernel_rfl) (fun _ _ _ h => h) (Or.inl ⟨by rfl, ?_⟩) (by assumption) ?_
            rotate_left
            · intro w hSw; (try dsimp only at hSw); go_simp; try with_reducible rfl
            simp only [Act.put, List.setIfInBounds_toArray, List.set_cons_zero, List.set_cons_succ]
            refine wpAnyH_take (i := 1) (oi := ⟨some 52, _, _, _, _, _⟩) (v := ?_) rfl (by kernel_rfl) (by kernel_rfl) (by kernel_rfl) (fun _ _ _ h => h) (Or.inl ⟨by rfl, ?_⟩) (by assumption) ?_
            rotate_left
            · intro w hSw; (try dsimp only at hSw); go_simp; try with_reducible rfl
            simp only [Act.put, List.setIfInBounds_toArray, List.set_cons_zero, List.set_cons_succ]
            refine wpAnyH_take (i := 2) (oi := ⟨some 53, _, _, _, _, _⟩) (v := ?_) rfl (by kernel_rfl) (by kernel_rfl) (by kernel_rfl) (fun _ _ _ h => h) (Or.inl ⟨by rfl, ?_⟩) (by assumption) ?_
            rotate_left
            · intro w hSw; (try dsimp only at hSw); go_simp; try with_reducible rfl
            simp only [Act.put, List.setIfInBounds_toArray, List.set_cons_zero, List.set_cons_succ]
            refine wpAnyH_take (i := 3) (oi := ⟨some 54, _, _, _, _, _⟩) (v := ?_) rfl (by kernel_rfl) (by kernel_rfl) (by kernel_rfl) (fun _ _ _ h => h) (Or.inl ⟨by rfl, ?_⟩) (by assumption) ?_
            rotate_left
            · intro w hSw; (try dsimp only at hSw); go_simp; try with_reducible rfl
            simp only [Act.put, List.setIfInBounds_toArray, List.set_cons_zero, List.set_cons_succ]
            refine wpAnyH_take (i := 4) (oi := ⟨some 55, _, _, _, _, _⟩) (v := ?_) rfl (by kernel_rfl) (by kernel_rfl) (by kernel_rfl) (fun _ _ _ h => h) (Or.inl ⟨by rfl, ?_⟩) (by assumption) ?_
            rotate_left
            · intro w hSw; (try dsimp only at hSw); go_simp; try with_reducible rfl
            simp only [Act.put, List.setIfInBounds_toArray, List.set_cons_zero, List.set_cons_succ]
            refine wpAnyH_take (i := 5) (oi := ⟨some 56, _, _, _, _, _⟩) (v := ?_) rfl (by kernel_rfl) (by kernel_rfl) (by kernel_rfl) (fun _ _ _ h => h) (Or.inl ⟨by rfl, ?_⟩) (by assumption) ?_
            rotate_left
            · intro w hSw; (try dsimp only at hSw); go_simp; try with_reducible rfl
            simp only [Act.put, List.setIfInBounds_toArray, List.set_cons_zero, List.set_cons_succ]
            refine wpAnyH_take (i := 6) (oi := ⟨some 57, _, _, _, _, _⟩) (v := ?_) rfl (by kernel_rfl) (by kernel_rfl) (by kernel_rfl) (fun _ _ _ h => h) (Or.inl ⟨by rfl, ?_⟩) (by assumption) ?_
            rotate_left
            · intro w hSw; (try dsimp only at hSw); go_simp; try with_reducible rfl
            simp only [Act.put, List.setIfInBounds_toArray, List.set_cons_zero, List.set_cons_succ]
            refine wpAnyH_take (i := 7) (oi := ⟨some 58, _, _, _, _, _⟩) (v := ?_) rfl (by kernel_rfl) (by kernel_rfl) (by kernel_rfl) (fun _ _ _ h => h) (Or.inl ⟨by rfl, ?_⟩) (by assumption) ?_
            rotate_left
            · intro w hSw; (try dsimp only at hSw); go_simp; try with_reducible rfl
            simp only [Act.put, List.setIfInBounds_toArray, List.set_cons_zero, List.set_cons_succ]
            refine wpAnyH_take (i := 8) (oi := ⟨some 59, _, _, _, _, _⟩) (v := ?_) rfl (by kernel_rfl) (by kernel_rfl) (by kernel_rfl) (fun _ _ _ h => h) (Or.inl ⟨by rfl, ?_⟩) (by assumption) ?_
            rotate_left
            · intro w hSw; (try dsimp only at hSw); go_simp; try with_reducible rfl
            simp only [Act.put, List.setIfInBounds_toArray, List.set_cons_zero, List.set_cons_succ]
            refine wpAnyH_take (i := 9) (oi := ⟨some 60, _, _, _, _, _⟩) (v := ?_) rfl (by kernel_rfl) (by kernel_rfl) (by kernel_rfl) (fun _ _ _ h => h) (Or.inl ⟨by rfl, ?_⟩) (by assumption) ?_
            rotate_left
            · intro w hSw; (try dsimp only at hSw); go_simp; try with_reducible rfl
            simp only [Act.put, List.setIfInBounds_toArray, List.set_cons_zero, List.set_cons_succ]
            refine wpAnyH_take (i := 10) (oi := ⟨some 61, _, _, _, _, _⟩) (v := ?_) rfl (by kernel_rfl) (by kernel_rfl) (by kernel_rfl) (fun _ _ _ h => h) (Or.inl ⟨by rfl, ?_⟩) (by assumption) ?_
            rotate_left
            · intro w hSw; (try dsimp only at hSw); go_simp; try with_reducible rfl
            simp only [Act.put, List.setIfInBounds_toArray, List.set_cons_zero, List.set_cons_succ]
            refine wpAnyH_take (i := 11) (oi := ⟨some 62, _, _, _, _, _⟩) (v := ?_) rfl (by kernel_rfl) (by kernel_rfl) (by kernel_rfl) (fun _ _ _ h => h) (Or.inl ⟨by rfl, ?_⟩) (by assumption) ?_
            rotate_left
            · intro w hSw; (try dsimp only at hSw); go_simp; try with_reducible rfl
            simp only [Act.put, List.setIfInBounds_toArray, List.set_cons_zero, List.set_cons_succ]
            refine wpAnyH_take (i := 12) (oi := ⟨some 63, _, _, _, _, _⟩) (v := ?_) rfl (by kernel_rfl) (by kernel_rfl) (by kernel_rfl) (fun _ _ _ h => h) (Or.inl ⟨by rfl, ?_⟩) (by assumption) ?_
            rotate_left
            · intro w hSw; (try dsimp only at hSw); go_simp; try with_reducible rfl
            simp only [Act.put, List.setIfInBounds_toArray, List.set_cons_zero, List.set_cons_succ]
            refine wpAnyH_take (i := 13) (oi := ⟨some 64, _, _, _, _, _⟩) (v := ?_) rfl (by kernel_rfl) (by kernel_rfl) (by kernel_rfl) (fun _ _ _ h => h) (Or.inl ⟨by rfl, ?_⟩) (by assumption) ?_
            rotate_left
            · intro w hSw; (try dsimp only at hSw); go_simp; try with_reducible rfl
            simp only [Act.put, List.setIfInBounds_toArray, List.set_cons_zero, List.set_cons_succ]
            refine wpAnyH_take (i := 14) (oi := ⟨some 65, _, _, _, _, _⟩) (v := ?_) rfl (by kernel_rfl) (by kernel_rfl) (by kernel_rfl) (fun _ _ _ h => h) (Or.inl ⟨by rfl, ?_⟩) (by assumption) ?_
            rotate_left
            · intro w hSw; (try dsimp only at hSw); go_simp; try with_reducible rfl
            simp only [Act.put, List.setIfInBounds_toArray, List.set_cons_zero, List.set_cons_succ]
            refine wpAnyH_take (i := 15) (oi := ⟨some 66, _, _, _, _, _⟩) (v := ?_) rfl (by kernel_rfl) (by kernel_rfl) (by kernel_rfl) (fun _ _ _ h => h) (Or.inl ⟨by rfl, ?_⟩) (by assumption) ?_
            rotate_left
            · intro w hSw; (try dsimp only at hSw); go_simp; try with_reducible rfl
            simp only [Act.put, List.setIfInBounds_toArray, List.set_cons_zero, List.set_cons_succ]
            refine wpAnyH_take (i := 16) (oi := ⟨some 67, _, _, _, _, _⟩) (v := ?_) rfl (by kernel_rfl) (by kernel_rfl) (by kernel_rfl) (fun _ _ _ h => h) (Or.inl ⟨by rfl, ?_⟩) (by assumption) ?_
            rotate_left
            · intro w hSw; (try dsimp only at hSw); go_simp; try with_reducible rfl
            simp only [Act.put, List.setIfInBounds_toArray, List.set_cons_zero, List.set_cons_succ]
            refine wpAnyH_take (i := 18) (oi := ⟨some 69, _, _, _, _, _⟩) (v := ?_) rfl (by kernel_rfl) (by kernel_rfl) (by kernel_rfl) (fun _ _ _ h => h) (Or.inl ⟨by rfl, ?_⟩) (by assumption) ?_
            rotate_left
            · intro w hSw; (try dsimp only at hSw); go_simp; try with_reducible rfl
            simp only [Act.put, List.setIfInBounds_toArray, List.set_cons_zero, List.set_cons_succ]
            refine wpAnyH_take (i := 19) (oi := ⟨some 70, _, _, _, _, _⟩) (v := ?_) rfl (by kernel_rfl) (by kernel_rfl) (by kernel_rfl) (fun _ _ _ h => h) (Or.inl ⟨by rfl, ?_⟩) (by assumption) ?_
            rotate_left
            · intro w hSw; (try dsimp only at hSw); go_simp; try with_reducible rfl
            simp only [Act.put, List.setIfInBounds_toArray, List.set_cons_zero, List.set_cons_succ]
            refine wpAnyH_take (i := 20) (oi := ⟨some 71, _, _, _, _, _⟩) (v := ?_) rfl (by kernel_rfl) (by kernel_rfl) (by kernel_rfl) (fun _ _ _ h => h) (Or.inl ⟨by rfl, ?_⟩) (by assumption) ?_
            rotate_left
            · intro w hSw; (try dsimp only at hSw); go_simp; try with_reducible rfl
            simp only [Act.put, List.setIfInBounds_toArray, List.set_cons_zero, List.set_cons_succ]
            refine wpAnyH_take (i := 21) (oi := ⟨some 72, _, _, _, _, _⟩) (v := ?_) rfl (by kernel_rfl) (by kernel_rfl) (by kernel_rfl) (fun _ _ _ h => h) (Or.inl ⟨by rfl, ?_⟩) (by assumption) ?_
            rotate_left
            · intro w hSw; (try dsimp only at hSw); go_simp; try with_reducible rfl
            simp only [Act.put, List.setIfInBounds_toArray, List.set_cons_zero, List.set_cons_succ]
            refine wpAnyH_take (i := 22) (oi := ⟨some 73, _, _, _, _, _⟩) (v := ?_) rfl (by kernel_rfl) (by kernel_rfl) (by kernel_rfl) (fun _ _ _ h => h) (Or.inl ⟨by rfl, ?_⟩) (by assumption) ?_
            rotate_left
            · intro w hSw; (try dsimp only at hSw); go_simp; try with_reducible rfl
            simp only [Act.put, List.setIfInBounds_toArray, List.set_cons_zero, List.set_cons_succ]
            refine wpAnyH_ready (rs := [17]) (by kernel_rfl) (by simp) ?_
            refine AllReadyH.cons (o := ⟨some 68, _, _, _, _, _⟩) rfl (fun Kq hKq => ?_) AllReadyH.nil
            go_simp
            go_at_call 25
            refine (ipmany _ _ n c R _ q c3 z ru.r O4.out Z4.out.ints (by omega) (by omega)).mono ?_
            rintro e w' ⟨rfl, rfl⟩
            rw [HPM.out]
            refine hKq.out _ _ (⟨c0, c1, c2'⟩) (fun hHeld => ?_)
            clear hKq Kq
            by_cases h2 : ru.many ≤ (pm : Int)
            · have h2' : (pm : Int) ≥ ru.many := h2
              have hd2 := decide_eq_true h2
              have HE := Lib.hid hd2
              refine wpAnyH_take (i := 23) (oi := ⟨some 74, _, _, _, _, _⟩) (v := ?_) rfl (by kernel_rfl) (by kernel_rfl) (by kernel_rfl) (fun _ _ _ h => h) (Or.inl ⟨by rfl, ?_⟩) (by assumption) ?_
              rotate_left
              · intro w hSw; (try dsimp only at hSw); go_simp; try with_reducible rfl
              simp only [Act.put, List.setIfInBounds_toArray, List.set_cons_zero, List.set_cons_succ]
              refine wpAnyH_take (i := 24) (oi := ⟨some 75, _, _, _, _, _⟩) (v := ?_) rfl (by kernel_rfl) (by kernel_rfl) (by kernel_rfl) (fun _ _ _ h => h) (Or.inl ⟨by rfl, ?_⟩) (by assumption) ?_
              rotate_left
              · intro w hSw; (try dsimp only at hSw); go_simp; try with_reducible rfl
              simp only [Act.put, List.setIfInBounds_toArray, List.set_cons_zero, List.set_cons_succ]
              refine wpAnyH_take (i := 25) (oi := ⟨some 76, _, _, _, _, _⟩) (v := ?_) rfl (by kernel_rfl) (by kernel_rfl) (by kernel_rfl) (fun _ _ _ h => h) (Or.inl ⟨by rfl, ?_⟩) (by assumption) ?_
              rotate_left
              · intro w hSw; (try dsimp only at hSw); go_simp; try with_reducible rfl
              simp only [Act.put, List.setIfInBounds_toArray, List.set_cons_zero, List.set_cons_succ]
              refine wpAnyH_take (i := 26) (oi := ⟨some 8, _, _, _, _, _⟩) (v := ?_) rfl (by kernel_rfl) (by kernel_rfl) (by kernel_rfl) (fun _ _ _ h => h) (Or.inl ⟨by rfl, ?_⟩) (by assumption) ?_
              rotate_left
              · intro w hSw; (try dsimp only at hSw); go_simp; try with_reducible rfl
              simp only [Act.put, List.setIfInBounds_toArray, List.set_cons_zero, List.set_cons_succ]
              refine wpAnyH_done (by kernel_rfl) ?_ _
              go_wp2
              go_roundw
              case rel => exact ⟨k + 1, true, by omega, by go_num, by simp, by rw [HN.out, HD.out, HE.out]; rfl, G4.out⟩
              case measure => simp [intOf]; omega
            · have h2' : ¬ (pm : Int) ≥ ru.many := h2
              have hd2 := decide_eq_false h2
              have HE := Lib.hid hd2
              refine wpAnyH_take (i := 23) (oi := ⟨some 74, _, _, _, _, _⟩) (v := ?_) rfl (by kernel_rfl) (by kernel_rfl) (by kernel_rfl) (fun _ _ _ h => h) (Or.inl ⟨by rfl, ?_⟩) (by assumption) ?_
              rotate_left
              · intro w hSw; (try dsimp only at hSw); go_simp; try with_reducible rfl
              simp only [Act.put, List.setIfInBounds_toArray, List.set_cons_zero, List.set_cons_succ]
              refine wpAnyH_take (i := 24) (oi := ⟨some 75, _, _, _, _, _⟩) (v := ?_) rfl (by kernel_rfl) (by kernel_rfl) (by kernel_rfl) (fun _ _ _ h => h) (Or.inl ⟨by rfl, ?_⟩) (by assumption) ?_
              rotate_left
              · intro w hSw; (try dsimp only at hSw); go_simp; try with_reducible rfl
              simp only [Act.put, List.setIfInBounds_toArray, List.set_cons_zero, List.set_cons_succ]
              refine wpAnyH_take (i := 25) (oi := ⟨some 76, _, _, _, _, _⟩) (v := ?_) rfl (by kernel_rfl) (by kernel_rfl) (by kernel_rfl) (fun _ _ _ h => h) (Or.inl ⟨by rfl, ?_⟩) (by assumption) ?_
              rotate_left
              · intro w hSw; (try dsimp only at hSw); go_simp; try with_reducible rfl
              simp only [Act.put, List.setIfInBounds_toArray, List.set_cons_zero, List.set_cons_succ]
              refine wpAnyH_take (i := 26) (oi := ⟨some 8, _, _, _, _, _⟩) (v := ?_) rfl (by kernel_rfl) (by kernel_rfl) (by kernel_rfl) (fun _ _ _ h => h) (Or.inl ⟨by rfl, ?_⟩) (by assumption) ?_
              rotate_left
              · intro w hSw; (try dsimp only at hSw); go_simp; try with_reducible rfl
              simp only [Act.put, List.setIfInBounds_toArray, List.set_cons_zero, List.set_cons_succ]
              refine wpAnyH_done (by kernel_rfl) ?_ _
              go_wp2
              go_roundw
              case rel => exact ⟨k + 1, false, by omega, by go_num, by simp, by rw [HN.out, HE.out, Bool.and_false]; rfl, G4.out⟩
              case measure => simp [intOf]; omega
          · have h1' : ¬ ru.most ≥ am := h1
            have hd1 := decide_eq_false h1
            have HD := Lib.hid hd1
            go_wp2_with fail
            refine wp_region_held_drew (S := (fun w' => w'.cell? ⟨b2, k * 3, none⟩ = some (.string ru.r) ∧ w'.cell? ⟨b2, k * 3 + 1, none⟩ = some (.int .i64 ru.many) ∧ w'.cell? ⟨b2, k * 3 + 2, none⟩ = some (.int .i64 ru.most))) (by kernel_rfl) (⟨c0, c1, c2'⟩) (fun hHeld => ?_)
            have hg := gdr wr
            have hq1 := hg.block b2 hb (by simp)
            replace c0 := (World.cell?_of_block hq1).trans c0
            replace c1 := (World.cell?_of_block hq1).trans c1
            replace c2' := (World.cell?_of_block hq1).trans c2'
            clear hq1
            replace O4 := Lib.hid (O4.out.kept hg); replace Z4 := Lib.hid (Z4.out.keptN hg); replace P4 := Lib.hid (P4.out.keptN hg); replace G4 := Lib.hid (gtr G4.out hg)
            clear hg
            generalize wr.drew = v3 at *
            refine wpAnyH_take (i := 0) (oi := ⟨some 51, _, _, _, _, _⟩) (v := ?_) rfl (by kernel_rfl) (by kernel_rfl) (by kernel_rfl) (fun _ _ _ h => h) (Or.inl ⟨by rfl, ?_⟩) (by assumption) ?_
            rotate_left
            · intro w hSw; (try dsimp only at hSw); go_simp; try with_reducible rfl
            simp only [Act.put, List.setIfInBounds_toArray, List.set_cons_zero, List.set_cons_succ]
            refine wpAnyH_take (i := 1) (oi := ⟨some 52, _, _, _, _, _⟩) (v := ?_) rfl (by kernel_rfl) (by kernel_rfl) (by kernel_rfl) (fun _ _ _ h => h) (Or.inl ⟨by rfl, ?_⟩) (by assumption) ?_
            rotate_left
            · intro w hSw; (try dsimp only at hSw); go_simp; try with_reducible rfl
            simp only [Act.put, List.setIfInBounds_toArray, List.set_cons_zero, List.set_cons_succ]
            refine wpAnyH_take (i := 2) (oi := ⟨some 53, _, _, _, _, _⟩) (v := ?_) rfl (by kernel_rfl) (by kernel_rfl) (by kernel_rfl) (fun _ _ _ h => h) (Or.inl ⟨by rfl, ?_⟩) (by assumption) ?_
            rotate_left
            · intro w hSw; (try dsimp only at hSw); go_simp; try with_reducible rfl
            simp only [Act.put, List.setIfInBounds_toArray, List.set_cons_zero, List.set_cons_succ]
            refine wpAnyH_take (i := 3) (oi := ⟨some 54, _, _, _, _, _⟩) (v := ?_) rfl (by kernel_rfl) (by kernel_rfl) (by kernel_rfl) (fun _ _ _ h => h) (Or.inl ⟨by rfl, ?_⟩) (by assumption) ?_
            rotate_left
            · intro w hSw; (try dsimp only at hSw); go_simp; try with_reducible rfl
            simp only [Act.put, List.setIfInBounds_toArray, List.set_cons_zero, List.set_cons_succ]
            refine wpAnyH_take (i := 4) (oi := ⟨some 55, _, _, _, _, _⟩) (v := ?_) rfl (by kernel_rfl) (by kernel_rfl) (by kernel_rfl) (fun _ _ _ h => h) (Or.inl ⟨by rfl, ?_⟩) (by assumption) ?_
            rotate_left
            · intro w hSw; (try dsimp only at hSw); go_simp; try with_reducible rfl
            simp only [Act.put, List.setIfInBounds_toArray, List.set_cons_zero, List.set_cons_succ]
            refine wpAnyH_take (i := 5) (oi := ⟨some 56, _, _, _, _, _⟩) (v := ?_) rfl (by kernel_rfl) (by kernel_rfl) (by kernel_rfl) (fun _ _ _ h => h) (Or.inl ⟨by rfl, ?_⟩) (by assumption) ?_
            rotate_left
            · intro w hSw; (try dsimp only at hSw); go_simp; try with_reducible rfl
            simp only [Act.put, List.setIfInBounds_toArray, List.set_cons_zero, List.set_cons_succ]
            refine wpAnyH_take (i := 6) (oi := ⟨some 57, _, _, _, _, _⟩) (v := ?_) rfl (by kernel_rfl) (by kernel_rfl) (by kernel_rfl) (fun _ _ _ h => h) (Or.inl ⟨by rfl, ?_⟩) (by assumption) ?_
            rotate_left
            · intro w hSw; (try dsimp only at hSw); go_simp; try with_reducible rfl
            simp only [Act.put, List.setIfInBounds_toArray, List.set_cons_zero, List.set_cons_succ]
            refine wpAnyH_take (i := 7) (oi := ⟨some 58, _, _, _, _, _⟩) (v := ?_) rfl (by kernel_rfl) (by kernel_rfl) (by kernel_rfl) (fun _ _ _ h => h) (Or.inl ⟨by rfl, ?_⟩) (by assumption) ?_
            rotate_left
            · intro w hSw; (try dsimp only at hSw); go_simp; try with_reducible rfl
            simp only [Act.put, List.setIfInBounds_toArray, List.set_cons_zero, List.set_cons_succ]
            refine wpAnyH_take (i := 8) (oi := ⟨some 59, _, _, _, _, _⟩) (v := ?_) rfl (by kernel_rfl) (by kernel_rfl) (by kernel_rfl) (fun _ _ _ h => h) (Or.inl ⟨by rfl, ?_⟩) (by assumption) ?_
            rotate_left
            · intro w hSw; (try dsimp only at hSw); go_simp; try with_reducible rfl
            simp only [Act.put, List.setIfInBounds_toArray, List.set_cons_zero, List.set_cons_succ]
            refine wpAnyH_take (i := 9) (oi := ⟨some 60, _, _, _, _, _⟩) (v := ?_) rfl (by kernel_rfl) (by kernel_rfl) (by kernel_rfl) (fun _ _ _ h => h) (Or.inl ⟨by rfl, ?_⟩) (by assumption) ?_
            rotate_left
            · intro w hSw; (try dsimp only at hSw); go_simp; try with_reducible rfl
            simp only [Act.put, List.setIfInBounds_toArray, List.set_cons_zero, List.set_cons_succ]
            refine wpAnyH_take (i := 10) (oi := ⟨some 61, _, _, _, _, _⟩) (v := undef) rfl (by kernel_rfl) (by kernel_rfl) (by kernel_rfl) (fun _ _ _ h => h) (Or.inr ⟨by rfl, rfl⟩) (by assumption) ?_
            simp only [Act.put, List.setIfInBounds_toArray, List.set_cons_zero, List.set_cons_succ]
            refine wpAnyH_take (i := 11) (oi := ⟨some 62, _, _, _, _, _⟩) (v := undef) rfl (by kernel_rfl) (by kernel_rfl) (by kernel_rfl) (fun _ _ _ h => h) (Or.inr ⟨by rfl, rfl⟩) (by assumption) ?_
            simp only [Act.put, List.setIfInBounds_toArray, List.set_cons_zero, List.set_cons_succ]
            refine wpAnyH_take (i := 12) (oi := ⟨some 63, _, _, _, _, _⟩) (v := undef) rfl (by kernel_rfl) (by kernel_rfl) (by kernel_rfl) (fun _ _ _ h => h) (Or.inr ⟨by rfl, rfl⟩) (by assumption) ?_
            simp only [Act.put, List.setIfInBounds_toArray, List.set_cons_zero, List.set_cons_succ]
            refine wpAnyH_take (i := 13) (oi := ⟨some 64, _, _, _, _, _⟩) (v := undef) rfl (by kernel_rfl) (by kernel_rfl) (by kernel_rfl) (fun _ _ _ h => h) (Or.inr ⟨by rfl, rfl⟩) (by assumption) ?_
            simp only [Act.put, List.setIfInBounds_toArray, List.set_cons_zero, List.set_cons_succ]
            refine wpAnyH_take (i := 14) (oi := ⟨some 65, _, _, _, _, _⟩) (v := undef) rfl (by kernel_rfl) (by kernel_rfl) (by kernel_rfl) (fun _ _ _ h => h) (Or.inr ⟨by rfl, rfl⟩) (by assumption) ?_
            simp only [Act.put, List.setIfInBounds_toArray, List.set_cons_zero, List.set_cons_succ]
            refine wpAnyH_take (i := 15) (oi := ⟨some 66, _, _, _, _, _⟩) (v := undef) rfl (by kernel_rfl) (by kernel_rfl) (by kernel_rfl) (fun _ _ _ h => h) (Or.inr ⟨by rfl, rfl⟩) (by assumption) ?_
            simp only [Act.put, List.setIfInBounds_toArray, List.set_cons_zero, List.set_cons_succ]
            refine wpAnyH_take (i := 16) (oi := ⟨some 67, _, _, _, _, _⟩) (v := undef) rfl (by kernel_rfl) (by kernel_rfl) (by kernel_rfl) (fun _ _ _ h => h) (Or.inr ⟨by rfl, rfl⟩) (by assumption) ?_
            simp only [Act.put, List.setIfInBounds_toArray, List.set_cons_zero, List.set_cons_succ]
            refine wpAnyH_take (i := 17) (oi := ⟨some 68, _, _, _, _, _⟩) (v := undef) rfl (by kernel_rfl) (by kernel_rfl) (by kernel_rfl) (fun _ _ _ h => h) (Or.inr ⟨by rfl, rfl⟩) (by assumption) ?_
            simp only [Act.put, List.setIfInBounds_toArray, List.set_cons_zero, List.set_cons_succ]
            refine wpAnyH_take (i := 18) (oi := ⟨some 69, _, _, _, _, _⟩) (v := undef) rfl (by kernel_rfl) (by kernel_rfl) (by kernel_rfl) (fun _ _ _ h => h) (Or.inr ⟨by rfl, rfl⟩) (by assumption) ?_
            simp only [Act.put, List.setIfInBounds_toArray, List.set_cons_zero, List.set_cons_succ]
            refine wpAnyH_take (i := 19) (oi := ⟨some 70, _, _, _, _, _⟩) (v := undef) rfl (by kernel_rfl) (by kernel_rfl) (by kernel_rfl) (fun _ _ _ h => h) (Or.inr ⟨by rfl, rfl⟩) (by assumption) ?_
            simp only [Act.put, List.setIfInBounds_toArray, List.set_cons_zero, List.set_cons_succ]
            refine wpAnyH_take (i := 20) (oi := ⟨some 71, _, _, _, _, _⟩) (v := undef) rfl (by kernel_rfl) (by kernel_rfl) (by kernel_rfl) (fun _ _ _ h => h) (Or.inr ⟨by rfl, rfl⟩) (by assumption) ?_
            simp only [Act.put, List.setIfInBounds_toArray, List.set_cons_zero, List.set_cons_succ]
            refine wpAnyH_take (i := 21) (oi := ⟨some 72, _, _, _, _, _⟩) (v := undef) rfl (by kernel_rfl) (by kernel_rfl) (by kernel_rfl) (fun _ _ _ h => h) (Or.inr ⟨by rfl, rfl⟩) (by assumption) ?_
            simp only [Act.put, List.setIfInBounds_toArray, List.set_cons_zero, List.set_cons_succ]
            refine wpAnyH_take (i := 22) (oi := ⟨some 73, _, _, _, _, _⟩) (v := undef) rfl (by kernel_rfl) (by kernel_rfl) (by kernel_rfl) (fun _ _ _ h => h) (Or.inr ⟨by rfl, rfl⟩) (by assumption) ?_
            simp only [Act.put, List.setIfInBounds_toArray, List.set_cons_zero, List.set_cons_succ]
            refine wpAnyH_take (i := 23) (oi := ⟨some 74, _, _, _, _, _⟩) (v := undef) rfl (by kernel_rfl) (by kernel_rfl) (by kernel_rfl) (fun _ _ _ h => h) (Or.inr ⟨by rfl, rfl⟩) (by assumption) ?_
            simp only [Act.put, List.setIfInBounds_toArray, List.set_cons_zero, List.set_cons_succ]
            refine wpAnyH_take (i := 24) (oi := ⟨some 75, _, _, _, _, _⟩) (v := ?_) rfl (by kernel_rfl) (by kernel_rfl) (by kernel_rfl) (fun _ _ _ h => h) (Or.inl ⟨by rfl, ?_⟩) (by assumption) ?_
            rotate_left
            · intro w hSw; (try dsimp only at hSw); go_simp; try with_reducible rfl
            simp only [Act.put, List.setIfInBounds_toArray, List.set_cons_zero, List.set_cons_succ]
            refine wpAnyH_take (i := 25) (oi := ⟨some 76, _, _, _, _, _⟩) (v := ?_) rfl (by kernel_rfl) (by kernel_rfl) (by kernel_rfl) (fun _ _ _ h => h) (Or.inl ⟨by rfl, ?_⟩) (by assumption) ?_
            rotate_left
            · intro w hSw; (try dsimp only at hSw); go_simp; try with_reducible rfl
            simp only [Act.put, List.setIfInBounds_toArray, List.set_cons_zero, List.set_cons_succ]
            refine wpAnyH_take (i := 26) (oi := ⟨some 8, _, _, _, _, _⟩) (v := ?_) rfl (by kernel_rfl) (by kernel_rfl) (by kernel_rfl) (fun _ _ _ h => h) (Or.inl ⟨by rfl, ?_⟩) (by assumption) ?_
            rotate_left
            · intro w hSw; (try dsimp only at hSw); go_simp; try with_reducible rfl
            simp only [Act.put, List.setIfInBounds_toArray, List.set_cons_zero, List.set_cons_succ]
            refine wpAnyH_done (by kernel_rfl) ?_ _
            go_wp2
            go_roundw
            case rel => exact ⟨k + 1, false, by omega, by go_num, rfl, by rw [HN.out, HD.out]; rfl, G4.out⟩
            case measure => simp [intOf]; omega
      · obtain rfl : k = m := by omega
        have hmy : my = (cb && (decide (0 ≤ am) && decide (am ≤ 99))) := by rw [HY.out, HCB.out]
        have HMY := Lib.hid hmy
        clear hmy
        cases cb with
        | true =>
          by_cases h0 : 0 ≤ am
          · by_cases h9 : am ≤ 99
            · go_wp2
              go_ret
              exact ⟨Mem.ret_b (by rw [HMY.out]; simp [h0, h9]), below_of (gtr G3.out G4.out)⟩
            · go_wp2
              go_ret
              exact ⟨Mem.ret_b (by rw [HMY.out]; simp [h0, h9]), below_of (gtr G3.out G4.out)⟩
          · go_wp2
            go_ret
            exact ⟨Mem.ret_b (by rw [HMY.out]; simp [h0]), below_of (gtr G3.out G4.out)⟩
        | false =>
          go_wp2
          go_ret
          exact ⟨Mem.ret_b (by rw [HMY.out]; simp), below_of (gtr G3.out G4.out)⟩
end Run
end Go.Proofs.Ythbigmcklacbnaa
