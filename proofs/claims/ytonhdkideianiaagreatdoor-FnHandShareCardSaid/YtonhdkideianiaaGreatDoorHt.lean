/-
  Handed on: the program's functions on the linked list of the selected deals, and a member's share.
-/
import Derived.Test.YtonhdkideianiaaGreatDoorHs
import Derived.Test.YtonhdkideianiaaGreatDoorWk
import Derived.Deep.RegionHeld3
import Derived.Deep.RegionWith
namespace Go.Proofs.YtonhdkideianiaaGreatDoor
namespace Con
open Go.RowKit Alg Mem Mp Hd Draw
set_option linter.unusedVariables false

theorem vals_succ (z : Nat → Int) (k : Nat) : vals z (k + 1) = vals z k ++ [.int .i64 (z k)] := by simp [vals, List.range_succ]
set_option maxRecDepth 100000 in
set_option maxHeartbeats 4000000 in
theorem idealers (w : World) (lo : Nat) (D : Nat → DV) (S : List Nat) (B : Nat → Nat) (wt : Nat → Int) (hC : Chn w lo D S B wt) (h5 : S.length ≤ 5) :
    Calls Tryz.prog 70 #[lnk B S.length 0] w fun e w' => ∃ v, e = .returned v ∧ w'.ownsRow w.heap.size 3 1 v S.length (vals (hsP D S) S.length) ∧ w.grownBy w' none := by
  obtain ⟨i0, hi, hz0, hz1, hz2⟩ := info_parts info_int
  have C := Lib.hid hC; have HNE := Lib.hid hC.ne; clear hC
  generalize hp0 : lnk B S.length 0 = p0
  have HP0 := Lib.hid hp0; clear hp0
  go_enter Tryz.func70, Tryz.ntmps70
  go_wp2
  go_loopw [3, 4] (fun v p W => ∃ k : Nat, k ≤ S.length ∧ p = lnk B S.length k ∧ W.ownsRow w.heap.size 3 1 v k (vals (hsP D S) k) ∧ w.grownBy W none) (fun _ p _ => S.length - lidx B S.length p)
  case atStart => exact ⟨0, by omega, HP0.out.symm, World.ownsRow_nil _ _ _ _, Draw.grown_refl _ _⟩
  case round =>
    obtain ⟨k, hk, hp, hO, hg⟩ := hrel
    have O := Lib.hid hO; have CW := Lib.hid (C.out.keptN hg); have G := Lib.hid hg
    have hws := hg.size
    clear hO hg
    by_cases hlt : k < S.length
    · rw [lnk_yes hlt] at hp
      subst hp
      have c0 : wr.cell? ⟨B k, 0, none⟩ = some (.int .i64 (D (at0 S k)).f) := (CW.out.box k hlt).cell 0
      have hb := (CW.out.box k hlt).lt
      go_wp2_with (at_builtin; refine wpList_append_own _ rfl _ _ 23 rfl w.heap.size 3 i0 (.int .i64 0) 1 8 und_ints hi hz0 hz1 hz2 rfl (by decide) _ _ (vals (hsP D S) k) rfl (O.out.alloc _) ⟨wr.heap.size, 0, none⟩ 1 1 [.int .i64 (D (at0 S k)).f] rfl rfl (cell_one_new _ _ _) (by simp [Value.oneCell']) (by unfold maxLen; omega) (by omega) (by simp; omega) ?_; intro v' W1 hown hgrow _; have O2 := Lib.hid (show W1.ownsRow w.heap.size 3 1 v' (k + 1) (vals (hsP D S) (k + 1)) from (vals_succ (hsP D S) k).symm ▸ hown); have G2 := Lib.hid (own_gr G.out O.out (Nat.le_refl _) hgrow); clear hown hgrow; have c4 : W1.cell? ⟨B k, 4, none⟩ = some (lnk B S.length (k + 1)) := ((C.out.keptN G2.out).box k hlt).cell 4; have hb2 := ((C.out.keptN G2.out).box k hlt).lt; generalize hpn : lnk B S.length (k + 1) = pn at c4; have HPN := Lib.hid hpn; clear hpn)
      try clear c0 hb
      go_wp2
      go_roundw
      case rel => exact ⟨k + 1, by omega, HPN.out.symm, O2.out, G2.out⟩
      case measure =>
        rw [← HPN.out, ← lnk_yes hlt, lidx_eq HNE.out (by omega), lidx_eq HNE.out hk]; omega
    · obtain rfl : k = S.length := by omega
      rw [lnk_no (Nat.le_refl _)] at hp
      subst hp
      go_wp2
      go_ret
      exact ⟨_, rfl, O.out, G.out⟩
set_option maxRecDepth 100000 in
set_option maxHeartbeats 4000000 in
theorem iweigh (w0 w : World) (hg0 : w0.grownBy w none) (lo : Nat) (D : Nat → DV) (S : List Nat) (B : Nat → Nat) (wt : Nat → Int) (hC : Chn w lo D S B wt) (hlo : w0.heap.size ≤ lo) (h1 : 1 ≤ S.length) (hp : plok S.length (hsP D S) = true) (F : Nat) (V : Array Value) (T : TypeId) (hF : Blk w F V T) (hFl : F < lo) :
    Calls Tryz.prog 43 #[.pointer (some ⟨B 0, 0, none⟩)] w fun e w' => (∃ v, e = .returned v) ∧ Chn w' lo D S B (hsL D S) ∧ w0.grownBy w' none ∧ Blk w' F V T := by
  have h5 := (plok_iff.1 hp).1
  have HNE := Lib.hid hC.ne; have HFR := Lib.hid hC.from_
  have hB : ∀ j, j < S.length → B j < w.heap.size := fun j hj => (hC.box j hj).lt
  have HB := Lib.hid hB; have C := Lib.hid hC; have HF := Lib.hid hF; have HP := Lib.hid hp; have G := Lib.hid hg0
  clear hC hF hp hB hg0
  have hw0 := G.out.size
  go_enter Tryz.func43, Tryz.ntmps43
  go_wp2_with fail
  refine Calls.mono (by have h := idealers _ lo D S B wt C.out h5; rw [lnk_yes (by omega)] at h; exact h) ?_
  rintro e w1 ⟨v, rfl, hO, hg⟩
  obtain ⟨b1, c1, rfl, hr⟩ := row_of_owns hO (by omega) fun j hj => vals_get (hsP D S) hj
  have R1 := Lib.hid hr; clear hO hr
  have hs1 := hg.size
  replace G := Lib.hid (gtr G.out hg)
  replace C := Lib.hid (C.out.keptN hg)
  replace HF := Lib.hid (HF.out.keptN hg)
  clear hg
  go_wp2_with fail
  refine (ipline_yes _ _ S.length _ (hsP D S) 0 R1.out.ints R1.out.le R1.out.most HP.out rfl).mono ?_
  rintro e w2 ⟨b2, rfl, hr, hg⟩
  have R := Lib.hid (hr.lower hs1); clear hr
  replace G := Lib.hid (gtr G.out hg)
  replace C := Lib.hid (C.out.keptN hg)
  replace HF := Lib.hid (HF.out.keptN hg)
  clear hg
  clear R1
  go_wp2
  go_loopw [2, 10] (fun p i W => ∃ k : Nat, k ≤ S.length ∧ i = .int .i64 k ∧ p = lnk B S.length k ∧ Chn W lo D S B (fun j => if j < k then hsL D S j else wt j) ∧ w0.grownBy W none ∧ Blk W F V T ∧ Row W w.heap.size 3 b2 S.length S.length (zline S.length (hsP D S) 0)) (fun _ i _ => S.length - (intOf i).toNat)
  case atStart => exact ⟨0, by omega, rfl, (lnk_yes (by omega)).symm, C.out.congr fun j hj => by simp, G.out, HF.out, R.out⟩
  case round =>
    clear C G HF R
    obtain ⟨k, hk, rfl, hp, hC, hg, hF, hR⟩ := hrel
    have C := Lib.hid hC; have G := Lib.hid hg; have HF := Lib.hid hF; have R := Lib.hid hR
    clear hC hg hF hR
    by_cases hlt : k < S.length
    · rw [lnk_yes hlt] at hp
      subst hp
      have hlt' : (k : Int) < (S.length : Int) := by omega
      have hk0 : (0 : Int) ≤ (k : Int) := by omega
      have hbk := HB.out k hlt; have hfr := HFR.out k hlt; have hrf := R.out.from_
      have x0 := R.out.cell hlt
      have c3 : wr.cell? ⟨B k, 3, none⟩ = some (.int .i64 (if k < k then hsL D S k else wt k)) := (C.out.box k hlt).cell 3
      have c4 : wr.cell? ⟨B k, 4, none⟩ = some (lnk B S.length (k + 1)) := (C.out.box k hlt).cell 4
      have f3 := (C.out.box k hlt).free 3
      have hg := Mem.grown_set wr (B k) 3 (.int .i64 (zline S.length (hsP D S) 0 k))
      have hC2 := C.out.set hlt (zline S.length (hsP D S) 0 k)
      replace HF := Lib.hid (HF.out.kept hg (by intro e; have e := Option.some.inj e; omega))
      replace R := Lib.hid (R.out.kept hg (by intro e; have e := Option.some.inj e; omega))
      replace G := Lib.hid (grown_new G.out (by omega) hg)
      replace C := Lib.hid (show Chn (wr.setCell ⟨B k, 3, none⟩ (.int .i64 (zline S.length (hsP D S) 0 k))) lo D S B (fun j => if j < k + 1 then hsL D S j else wt j) from hC2.congr fun j hj => by
        by_cases e : j = k
        · subst e; simp [hsL]
        · by_cases e2 : j < k
          · simp [e, e2, show j < k + 1 by omega]
          · simp [e, e2, show ¬ j < k + 1 by omega])
      clear hg hC2
      generalize hpn : lnk B S.length (k + 1) = pn at c4
      have HPN := Lib.hid hpn; clear hpn
      go_wp2
      go_roundw
      case rel => exact ⟨k + 1, by omega, by go_num, HPN.out.symm, C.out, G.out, HF.out, R.out⟩
      case measure => simp [intOf]; omega
    · obtain rfl : k = S.length := by omega
      rw [lnk_no (Nat.le_refl _)] at hp
      subst hp
      go_wp2
      (try simp only [Exit.inBlock, Exit.then])
      refine bodyPost_end (results_none rfl _ _ _) rfl ?_
      exact ⟨⟨_, rfl⟩, C.out.congr fun j hj => by simp [hj], G.out, HF.out⟩
set_option maxRecDepth 100000 in
set_option maxHeartbeats 4000000 in
theorem ihandings (w : World) (need many : Int) (ag : Option Addr) (ng cg : Nat) (zg : Nat → Int) (ac : Option Addr) (nc cc : Nat) (zc : Nat → Int) (ad : Option Addr) (nd cd : Nat) (D : Nat → DV) (dn dm : Int) (hG : Ints w ag ng zg) (hC : Ints w ac nc zc) (hD : DealsIn w ad nd D) (hl1 : ng ≤ 2000000) (hl2 : nc ≤ 2000000) (hl3 : nd ≤ 2000000) (hL : ∀ j, j < nd → (D j).n1 ≤ 2000000 ∧ (D j).n2 ≤ 2000000) (a0 : Addr) (hv : Sent w a0) :
    Calls Tryz.prog 20 #[.agg #[.int .i64 need, .int .i64 many, .slice ag ng cg, .slice ac nc cc], .slice ad nd cd, .int .i64 dn, .int .i64 dm] w fun e w' => (∃ v, e = .returned (.tuple #[v, .bool (hsB need many ng zg nc zc D dn dm nd)]) ∧ (hsB need many ng zg nc zc D dn dm nd = true → ∃ B, v = lnk B (hsel need many ng zg nc zc D dn dm nd).length 0 ∧ Chn w' w.heap.size D (hsel need many ng zg nc zc D dn dm nd) B (hsL D (hsel need many ng zg nc zc D dn dm nd)))) ∧ w.grownBy w' none := by
  have hg := Draw.grown_alloc w (.cells #[.int .i64 need, .int .i64 many, .slice ag ng cg, .slice ac nc cc] 25) none
  have G := Lib.hid hg
  have K := Lib.hid (Ky.new w need many (.slice ag ng cg) (.slice ac nc cc) 25)
  have HG := Lib.hid (hG.kept hg); have HC := Lib.hid (hC.kept hg); have HD := Lib.hid (hD.kept hg); have HL := Lib.hid hL; have HV := Lib.hid (hv.kept hg)
  have HG0 := Lib.hid hG; have HC0 := Lib.hid hC; have HD0 := Lib.hid hD; have HV0 := Lib.hid hv
  clear hG hC hD hL hg hv
  go_enter Tryz.func20, Tryz.ntmps20
  obtain ⟨_, k0, k1, k2, k3⟩ := K.out
  go_wp2_with fail
  refine (ikeyok _ need many _ ng _ zg _ nc _ zc HG.out HC.out hl1 hl2).mono ?_
  rintro e w1 ⟨rfl, hg⟩
  clear k0 k1 k2 k3
  replace G := Lib.hid (gtr G.out hg)
  replace K := Lib.hid (K.out.kept hg)
  replace HG := Lib.hid (HG.out.kept hg)
  replace HC := Lib.hid (HC.out.kept hg)
  replace HD := Lib.hid (HD.out.kept hg)
  replace HV := Lib.hid (HV.out.kept hg)
  clear hg
  obtain ⟨_, k0, k1, k2, k3⟩ := K.out
  cases hk : kyF need many ng zg nc zc with
  | false =>
    have HN := Lib.hid (hsB_not (dn := dn) (dm := dm) (D := D) (nd := nd) (need := need) (many := many) (ng := ng) (zg := zg) (nc := nc) (zc := zc) (by simp [hk]))
    go_wp2
    go_ret2
    exact ⟨⟨.pointer none, by rw [HN.out]; rfl, fun h => by rw [HN.out] at h; cases h⟩, G.out⟩
  | true =>
    go_wp2_with fail
    refine (icrew _ dn dm).mono ?_
    rintro e w' ⟨rfl, rfl⟩
    cases hcr : crewF dn dm with
    | false =>
      have HN := Lib.hid (hsB_not (dn := dn) (dm := dm) (D := D) (nd := nd) (need := need) (many := many) (ng := ng) (zg := zg) (nc := nc) (zc := zc) (by simp [hcr]))
      go_wp2
      go_ret2
      exact ⟨⟨.pointer none, by rw [HN.out]; rfl, fun h => by rw [HN.out] at h; cases h⟩, G.out⟩
    | true =>
      go_wp2_with fail
      refine (iords _ _ nd _ D HD.out hl3).mono ?_
      rintro e w2 ⟨rfl, hg⟩
      clear k0 k1 k2 k3
      replace G := Lib.hid (gtr G.out hg)
      replace K := Lib.hid (K.out.kept hg)
      replace HG := Lib.hid (HG.out.kept hg)
      replace HC := Lib.hid (HC.out.kept hg)
      replace HD := Lib.hid (HD.out.kept hg)
      replace HV := Lib.hid (HV.out.kept hg)
      clear hg
      obtain ⟨_, k0, k1, k2, k3⟩ := K.out
      cases hds : dsF D nd with
      | false =>
        have HN := Lib.hid (hsB_not (dn := dn) (dm := dm) (D := D) (nd := nd) (need := need) (many := many) (ng := ng) (zg := zg) (nc := nc) (zc := zc) (by simp [hds]))
        go_wp2
        go_ret2
        exact ⟨⟨.pointer none, by rw [HN.out]; rfl, fun h => by rw [HN.out] at h; cases h⟩, G.out⟩
      | true =>
        have hn5 := (ds_iff.1 hds).1
        have hkk := (ky_iff.1 hk).1
        have HK := Lib.hid hk; have HCR := Lib.hid hcr; have HDS := Lib.hid hds
        clear hk hcr hds
        go_wp2_with fail
        have hg := Draw.grown_alloc w2 (.cells #[.pointer none] 51) none
        have F := Lib.hid (Blk.new w2 #[.pointer none] 51)
        have hs2 := G.out.size
        clear k0 k1 k2 k3
        replace G := Lib.hid (gtr G.out hg)
        replace K := Lib.hid (K.out.kept hg)
        replace HG := Lib.hid (HG.out.kept hg)
        replace HC := Lib.hid (HC.out.kept hg)
        replace HD := Lib.hid (HD.out.kept hg)
        replace HV := Lib.hid (HV.out.kept hg)
        clear hg
        obtain ⟨_, k0, k1, k2, k3⟩ := K.out
        refine wp_region_held_drew (S := (fun w' => w'.cell? ⟨w.heap.size, 0, none⟩ = some (.int .i64 need))) (by kernel_rfl) (K.out.c0) (fun hHeld => ?_)
        have hg := gdrew (w2.alloc (.cells #[.pointer none] 51))
        clear k0 k1 k2 k3
        replace G := Lib.hid (gtr G.out hg)
        replace K := Lib.hid (K.out.kept hg)
        replace HG := Lib.hid (HG.out.kept hg)
        replace HC := Lib.hid (HC.out.kept hg)
        replace HD := Lib.hid (HD.out.kept hg)
        replace HV := Lib.hid (HV.out.kept hg)
        replace F := Lib.hid (F.out.keptN hg)
        clear hg
        obtain ⟨_, k0, k1, k2, k3⟩ := K.out
        generalize (w2.alloc (.cells #[.pointer none] 51)).drew = W0 at *
        refine wpAnyH_take (i := 0) (oi := ⟨some 29, _, _, _, _, _⟩) (v := ?_) rfl (by kernel_rfl) (by kernel_rfl) (by kernel_rfl) (fun _ _ _ h => h) (Or.inl ⟨by rfl, ?_⟩) (by assumption) ?_
        rotate_left
        · intro w hSw; (try dsimp only at hSw); go_simp; try with_reducible rfl
        simp only [Act.put, List.setIfInBounds_toArray, List.set_cons_zero, List.set_cons_succ]
        refine wpAnyH_take (i := 1) (oi := ⟨some 30, _, _, _, _, _⟩) (v := ?_) rfl (by kernel_rfl) (by kernel_rfl) (by kernel_rfl) (fun _ _ _ h => h) (Or.inl ⟨by rfl, ?_⟩) (by assumption) ?_
        rotate_left
        · intro w hSw; (try dsimp only at hSw); go_simp; try with_reducible rfl
        simp only [Act.put, List.setIfInBounds_toArray, List.set_cons_zero, List.set_cons_succ]
        refine wpAnyH_take (i := 2) (oi := ⟨some 11, _, _, _, _, _⟩) (v := ?_) rfl (by kernel_rfl) (by kernel_rfl) (by kernel_rfl) (fun _ _ _ h => h) (Or.inl ⟨by rfl, ?_⟩) (by assumption) ?_
        rotate_left
        · intro w hSw; (try dsimp only at hSw); go_simp; try with_reducible rfl
        simp only [Act.put, List.setIfInBounds_toArray, List.set_cons_zero, List.set_cons_succ]
        refine wpAnyH_take (i := 3) (oi := ⟨some 12, _, _, _, _, _⟩) (v := ?_) rfl (by kernel_rfl) (by kernel_rfl) (by kernel_rfl) (fun _ _ _ h => h) (Or.inl ⟨by rfl, ?_⟩) (by assumption) ?_
        rotate_left
        · intro w hSw; (try dsimp only at hSw); go_simp; try with_reducible rfl
        simp only [Act.put, List.setIfInBounds_toArray, List.set_cons_zero, List.set_cons_succ]
        refine wpAnyH_done (by kernel_rfl) ?_ _
        have GW := Lib.hid G.out
        have hsF := F.out.lt
        generalize hX : w2.heap.size = X at *
        clear k0 k1 k2 k3
        go_wp2
        go_loopw [11, 12, 33] (fun e m i W => ∃ (k : Nat) (B : Nat → Nat), k ≤ nd ∧ i = .int .i64 k ∧ m = .int .i64 (need - ((hsel need many ng zg nc zc D dn dm k).length : Int)) ∧ e = .pointer (some (endp X B (hsel need many ng zg nc zc D dn dm k).length)) ∧ Chn W (X + 1) D (hsel need many ng zg nc zc D dn dm k) B (fun _ => 0) ∧ Blk W X #[lnk B (hsel need many ng zg nc zc D dn dm k).length 0] 51 ∧ w.grownBy W none ∧ Ky W w.heap.size need many (.slice ag ng cg) (.slice ac nc cc)) (fun _ _ i _ => nd - (intOf i).toNat)
        case atStart => exact ⟨0, fun _ => 0, by omega, rfl, by simp [hsel, selF], rfl, Chn.nil _ _ _ _ _, by rw [lnk_no (by simp [hsel, selF])]; exact F.out, G.out, K.out⟩
        case round =>
          obtain ⟨k, B, hk, rfl, rfl, hep, hC9, hF9, hg9, hK9⟩ := hrel
          clear G K HG HC HD HV F
          have G := Lib.hid hg9; have K := Lib.hid hK9; have C := Lib.hid hC9; have F := Lib.hid hF9
          have HG := Lib.hid (HG0.out.kept hg9); have HC := Lib.hid (HC0.out.kept hg9); have HD := Lib.hid (HD0.out.kept hg9); have HV := Lib.hid (HV0.out.kept hg9)
          clear hg9 hK9 hC9 hF9
          have hFX := F.out.lt
          have hXw : w.heap.size ≤ X := by omega
          by_cases hlt : k < nd
          · skip
            have hlt' : (k : Int) < (nd : Int) := by omega
            have hk0 : (0 : Int) ≤ (k : Int) := by omega
            rcases HD.out with h | ⟨b, off, rfl, hb, hcc⟩
            · omega
            obtain ⟨⟨d0, d1, d2⟩, hr⟩ := hcc k hlt
            clear hcc
            have HR := Lib.hid hr; clear hr
            by_cases hm : ((hsel need many ng zg nc zc D dn dm k).length : Int) < need
            · skip
              have hm' : (0 : Int) < need - ((hsel need many ng zg nc zc D dn dm k).length : Int) := by omega
              have hg := Draw.grown_alloc wr (.cells #[.int .i64 (D k).f, .slice (D k).a1 (D k).n1 (D k).c1, .slice (D k).a2 (D k).n2 (D k).c2] 35) none
              have DX := Lib.hid (Blk.new wr #[.int .i64 (D k).f, .slice (D k).a1 (D k).n1 (D k).c1, .slice (D k).a2 (D k).n2 (D k).c2] 35)
              replace G := Lib.hid (gtr G.out hg)
              replace K := Lib.hid (K.out.kept hg)
              replace C := Lib.hid (C.out.keptN hg)
              replace F := Lib.hid (F.out.keptN hg)
              replace HG := Lib.hid (HG.out.kept hg)
              replace HC := Lib.hid (HC.out.kept hg)
              replace HD := Lib.hid (HD.out.kept hg)
              replace HV := Lib.hid (HV.out.kept hg)
              replace HR := Lib.hid (HR.out.kept hg)
              clear hg
              obtain ⟨_, k0, k1, k2, k3⟩ := K.out
              have hwX := DX.out.lt
              have x0 : World.cell? _ ⟨wr.heap.size, 0, none⟩ = some (.int .i64 (D k).f) := DX.out.cell 0
              have x1 : World.cell? _ ⟨wr.heap.size, 1, none⟩ = some (.slice (D k).a1 (D k).n1 (D k).c1) := DX.out.cell 1
              have x2 : World.cell? _ ⟨wr.heap.size, 2, none⟩ = some (.slice (D k).a2 (D k).n2 (D k).c2) := DX.out.cell 2
              go_wp2_with fail
              refine (ihand _ need many _ ng _ zg _ nc _ zc (D k).f _ (D k).n1 _ (D k).z1 _ (D k).n2 _ (D k).z2 dn dm HG.out HC.out HR.out.i1 HR.out.i2 hl1 hl2 (HL.out k hlt).1 (HL.out k hlt).2 a0 HV.out).mono ?_
              rintro e W2 ⟨rfl, hg⟩
              clear x0 x1 x2 d0 d1 d2 hwX
              clear k0 k1 k2 k3
              replace G := Lib.hid (gtr G.out hg)
              replace K := Lib.hid (K.out.kept hg)
              replace C := Lib.hid (C.out.keptN hg)
              replace F := Lib.hid (F.out.keptN hg)
              replace HG := Lib.hid (HG.out.kept hg)
              replace HC := Lib.hid (HC.out.kept hg)
              replace HD := Lib.hid (HD.out.kept hg)
              replace HV := Lib.hid (HV.out.kept hg)
              replace HR := Lib.hid (HR.out.kept hg)
              replace DX := Lib.hid (DX.out.keptN hg)
              clear hg
              obtain ⟨_, k0, k1, k2, k3⟩ := K.out
              have hwX := DX.out.lt
              clear k0 k1 k2 k3
              cases hh : hoF need many ng zg nc zc (D k).f (D k).n1 (D k).z1 (D k).n2 (D k).z2 dn dm with
              | false =>
                have HS := Lib.hid (hsel_no (need := need) (many := many) (ng := ng) (zg := zg) (nc := nc) (zc := zc) (D := D) (dn := dn) (dm := dm) (n := k) hh)
                clear hh
                go_wp2
                go_roundw
                case rel => exact ⟨k + 1, B, by omega, by go_num, by rw [HS.out], by first | (rw [HS.out]; exact hep) | rw [HS.out], by rw [HS.out]; exact C.out, by rw [HS.out]; exact F.out, G.out, K.out⟩
                case measure => simp [intOf] <;> omega
              | true =>
                have HS := Lib.hid (hsel_yes (need := need) (many := many) (ng := ng) (zg := zg) (nc := nc) (zc := zc) (D := D) (dn := dn) (dm := dm) (n := k) hm hh)
                have HSL := Lib.hid (show (hsel need many ng zg nc zc D dn dm (k + 1)).length = (hsel need many ng zg nc zc D dn dm k).length + 1 by rw [HS.out]; simp)
                have HPU := Lib.hid (C.out.push (k := k) F.out (by omega) (by omega))
                clear hh
                have x0 : W2.cell? ⟨wr.heap.size, 0, none⟩ = some (.int .i64 (D k).f) := DX.out.cell 0
                have x1 : W2.cell? ⟨wr.heap.size, 1, none⟩ = some (.slice (D k).a1 (D k).n1 (D k).c1) := DX.out.cell 1
                have x2 : W2.cell? ⟨wr.heap.size, 2, none⟩ = some (.slice (D k).a2 (D k).n2 (D k).c2) := DX.out.cell 2
                rcases hq : (hsel need many ng zg nc zc D dn dm k).length with _ | q
                · rw [hq] at hep
                  have hep : u11 = .pointer (some ⟨X, 0, none⟩) := hep
                  subst hep
                  rw [hq] at HPU HSL
                  have HQ := Lib.hid hq; clear hq
                  obtain ⟨vF, e0⟩ : ∃ v, W2.cell? ⟨X, 0, none⟩ = some v := ⟨_, F.out.cell 0⟩
                  have e1 := F.out.free 0
                  have e2 := F.out.lt
                  go_wp2
                  go_roundw
                  case rel =>
                    have hg := HPU.out.2.2
                    exact ⟨k + 1, bput B 0 W2.heap.size, by omega, by go_num, by rw [HSL.out]; simp, by rw [HSL.out]; simp [endp, bput], by rw [HS.out]; exact HPU.out.1, by rw [HS.out]; exact HPU.out.2.1, grown_new G.out (by show w.heap.size ≤ X; omega) hg, K.out.keptB (hg.block _ K.out.lt (by show _ ≠ some X; intro e; have e := Option.some.inj e; omega)) hg.size⟩
                  case measure => simp [intOf] <;> omega
                · rw [hq] at hep
                  have hep : u11 = .pointer (some ⟨B q, 4, none⟩) := hep
                  subst hep
                  have hbq := C.out.from_ q (by omega)
                  obtain ⟨vF, e0⟩ : ∃ v, W2.cell? ⟨B q, 4, none⟩ = some v := ⟨_, (C.out.box q (by omega)).cell 4⟩
                  have e1 := (C.out.box q (by omega)).free 4
                  have e2 := (C.out.box q (by omega)).lt
                  rw [hq] at HPU HSL
                  have hm2 : (0 : Int) < need - ((q : Int) + 1) := by omega
                  have hwq : IntKind.i64.wrap (need - ((q : Int) + 1) - 1) = need - ((q : Int) + 1) - 1 := by rw [IntKind.wrap_i64]; omega
                  have HQ := Lib.hid hq; clear hq
                  go_wp2
                  go_roundw
                  case rel =>
                    have hg := HPU.out.2.2
                    exact ⟨k + 1, bput B (q + 1) W2.heap.size, by omega, by go_num, by rw [HSL.out]; go_num, by rw [HSL.out]; simp [endp, bput], by rw [HS.out]; exact HPU.out.1, by rw [HS.out]; exact HPU.out.2.1, grown_new G.out (by show w.heap.size ≤ B q; omega) hg, K.out.keptB (hg.block _ K.out.lt (by show _ ≠ some (B q); intro e; have e := Option.some.inj e; omega)) hg.size⟩
                  case measure => simp [intOf] <;> omega
            · skip
              have hm' : ¬ (0 : Int) < need - ((hsel need many ng zg nc zc D dn dm k).length : Int) := by omega
              have HS := Lib.hid (hsel_stop (many := many) (ng := ng) (zg := zg) (nc := nc) (zc := zc) (D := D) (dn := dn) (dm := dm) (n := k) (nd := k + 1) (need := need) (by omega) (by omega))
              have hg := Draw.grown_alloc wr (.cells #[.int .i64 (D k).f, .slice (D k).a1 (D k).n1 (D k).c1, .slice (D k).a2 (D k).n2 (D k).c2] 35) none
              replace G := Lib.hid (gtr G.out hg)
              replace K := Lib.hid (K.out.kept hg)
              replace C := Lib.hid (C.out.keptN hg)
              replace F := Lib.hid (F.out.keptN hg)
              replace HG := Lib.hid (HG.out.kept hg)
              replace HC := Lib.hid (HC.out.kept hg)
              replace HD := Lib.hid (HD.out.kept hg)
              replace HV := Lib.hid (HV.out.kept hg)
              clear hg
              have hwX : wr.heap.size < (wr.alloc (.cells #[.int .i64 (D k).f, .slice (D k).a1 (D k).n1 (D k).c1, .slice (D k).a2 (D k).n2 (D k).c2] 35)).heap.size := (Blk.new wr #[.int .i64 (D k).f, .slice (D k).a1 (D k).n1 (D k).c1, .slice (D k).a2 (D k).n2 (D k).c2] 35).lt
              go_wp2
              go_roundw
              case rel => exact ⟨k + 1, B, by omega, by go_num, by rw [HS.out], by first | (rw [HS.out]; exact hep) | rw [HS.out], by rw [HS.out]; exact C.out, by rw [HS.out]; exact F.out, G.out, K.out⟩
              case measure => simp [intOf] <;> omega
          · obtain rfl : k = nd := by omega
            by_cases hm : ((hsel need many ng zg nc zc D dn dm k).length : Int) < need
            · have HN := Lib.hid (hsB_not (dn := dn) (dm := dm) (D := D) (nd := k) (need := need) (many := many) (ng := ng) (zg := zg) (nc := nc) (zc := zc) (by intro h; omega))
              have hm' : (0 : Int) < need - ((hsel need many ng zg nc zc D dn dm k).length : Int) := by omega
              go_wp2
              go_ret2
              exact ⟨⟨.pointer none, by rw [HN.out]; rfl, fun h => by rw [HN.out] at h; cases h⟩, G.out⟩
            · have HY := Lib.hid (hsB_iff.2 ⟨HK.out, HCR.out, HDS.out, by omega⟩ : hsB need many ng zg nc zc D dn dm k = true)
              have hm' : ¬ (0 : Int) < need - ((hsel need many ng zg nc zc D dn dm k).length : Int) := by omega
              have HPL := Lib.hid (hsel_plok (dn := dn) (dm := dm) (D := D) HK.out HDS.out)
              have hS1 : 1 ≤ (hsel need many ng zg nc zc D dn dm k).length := by omega
              have e0 : wr.cell? ⟨X, 0, none⟩ = some (.pointer (some ⟨B 0, 0, none⟩)) := by have := F.out.cell 0; rw [lnk_yes (by omega)] at this; exact this
              go_wp2_with fail
              refine (iweigh w _ G.out (X + 1) D _ B _ C.out (by omega) hS1 HPL.out X _ _ F.out (by omega)).mono ?_
              rintro e W2 ⟨⟨v, rfl⟩, hC2, hg2, hF2⟩
              have HC2 := Lib.hid hC2; have HG2 := Lib.hid hg2
              have e2 : W2.cell? ⟨X, 0, none⟩ = some (.pointer (some ⟨B 0, 0, none⟩)) := by have := hF2.cell 0; rw [lnk_yes (by omega)] at this; exact this
              clear hC2 hg2 e0
              go_wp2
              go_ret2
              exact ⟨⟨_, by rw [HY.out]; rfl, fun _ => ⟨B, (lnk_yes (by omega)).symm, ⟨fun j hj => by have := HC2.out.from_ j hj; omega, HC2.out.box, HC2.out.ne⟩⟩⟩, HG2.out⟩
set_option maxRecDepth 100000 in
set_option maxHeartbeats 4000000 in
theorem ihandshare (w : World) (need many : Int) (ag : Option Addr) (ng cg : Nat) (zg : Nat → Int) (ac : Option Addr) (nc cc : Nat) (zc : Nat → Int) (ad : Option Addr) (nd cd : Nat) (D : Nat → DV) (dn dm : Int) (m : Int) (hG : Ints w ag ng zg) (hC : Ints w ac nc zc) (hD : DealsIn w ad nd D) (hl1 : ng ≤ 2000000) (hl2 : nc ≤ 2000000) (hl3 : nd ≤ 2000000) (hL : ∀ j, j < nd → (D j).n1 ≤ 2000000 ∧ (D j).n2 ≤ 2000000) (a0 : Addr) (hv : Sent w a0) :
    Calls Tryz.prog 6 #[.agg #[.int .i64 need, .int .i64 many, .slice ag ng cg, .slice ac nc cc], .slice ad nd cd, .int .i64 dn, .int .i64 dm, .int .i64 m] w fun e w' => e = .returned (hsV need many ng zg nc zc D dn dm nd m) ∧ w.grownBy w' none := by
  have hs0 : w.heap.size + 2 ≤ ((w.alloc (.cells #[.int .i64 need, .int .i64 many, .slice ag ng cg, .slice ac nc cc] 25)).alloc (.cells #[.int .i64 0, .int .i64 0] 30)).heap.size := by show _ ≤ ((w.heap.push _).push _).size; simp
  have hg := gtr (Draw.grown_alloc w (.cells #[.int .i64 need, .int .i64 many, .slice ag ng cg, .slice ac nc cc] 25) none) (Draw.grown_alloc _ (.cells #[.int .i64 0, .int .i64 0] 30) none)
  have G := Lib.hid hg
  have K := Lib.hid ((Ky.new w need many (.slice ag ng cg) (.slice ac nc cc) 25).kept (Draw.grown_alloc _ (.cells #[.int .i64 0, .int .i64 0] 30) none))
  have R := Lib.hid (blk_new2 w (.cells #[.int .i64 need, .int .i64 many, .slice ag ng cg, .slice ac nc cc] 25) #[.int .i64 0, .int .i64 0] 30)
  have HG := Lib.hid (hG.kept hg); have HC := Lib.hid (hC.kept hg); have HD := Lib.hid (hD.kept hg); have HL := Lib.hid hL; have HV := Lib.hid (hv.kept hg)
  have HD0 := Lib.hid hD
  clear hG hC hD hL hg hv
  go_enter Tryz.func6, Tryz.ntmps6
  obtain ⟨_, k0, k1, k2, k3⟩ := K.out
  go_wp2_with fail
  refine (ihandings _ need many _ ng _ zg _ nc _ zc _ nd _ D dn dm HG.out HC.out HD.out hl1 hl2 hl3 HL.out a0 HV.out).mono ?_
  rintro e w1 ⟨⟨v, rfl, hok⟩, hg⟩
  have HOK := Lib.hid hok; clear hok
  clear HG HC HD
  clear k0 k1 k2 k3
  replace G := Lib.hid (gtr G.out hg)
  replace K := Lib.hid (K.out.kept hg)
  replace R := Lib.hid (R.out.keptN hg)
  clear hg
  obtain ⟨_, k0, k1, k2, k3⟩ := K.out
  clear k0 k1 k2 k3
  clear K
  have hlR := R.out.lt
  cases hb : hsB need many ng zg nc zc D dn dm nd with
  | false =>
    have HN := Lib.hid (hsV_no (m := m) (.inl hb))
    clear hb
    go_wp2_with (first
      | (refine wpList_store_blk rfl 30 (.tmp 10) (.tmp 35) _ _ _ 30 R.out rfl rfl rfl rfl (by kernel_rfl) (by simp [Value.oneCell']) rfl ?_; intro V hgV hRV; have HGV := Lib.hid hgV; have HRV := Lib.hid hRV; clear hgV hRV))
    (try simp only [Exit.inBlock, Exit.then])
    refine bodyPost_ret (ret_hb rfl _ rfl HRV.out) rfl ?_
    exact ⟨by rw [HN.out]; rfl, grown_new G.out (by omega) HGV.out⟩
  | true =>
    by_cases hm1 : m < 1
    · have HN := Lib.hid (hsV_no (need := need) (many := many) (ng := ng) (zg := zg) (nc := nc) (zc := zc) (D := D) (dn := dn) (nd := nd) (dm := dm) (m := m) (.inr (by simp [mbF]; omega)))
      clear hb
      go_wp2_with (first
        | (refine wpList_store_blk rfl 30 (.tmp 10) (.tmp 35) _ _ _ 30 R.out rfl rfl rfl rfl (by kernel_rfl) (by simp [Value.oneCell']) rfl ?_; intro V hgV hRV; have HGV := Lib.hid hgV; have HRV := Lib.hid hRV; clear hgV hRV))
      (try simp only [Exit.inBlock, Exit.then])
      refine bodyPost_ret (ret_hb rfl _ rfl HRV.out) rfl ?_
      exact ⟨by rw [HN.out]; rfl, grown_new G.out (by omega) HGV.out⟩
    by_cases hm2 : dm < m
    · have HN := Lib.hid (hsV_no (need := need) (many := many) (ng := ng) (zg := zg) (nc := nc) (zc := zc) (D := D) (dn := dn) (nd := nd) (dm := dm) (m := m) (.inr (by simp [mbF]; omega)))
      clear hb
      go_wp2_with (first
        | (refine wpList_store_blk rfl 30 (.tmp 10) (.tmp 35) _ _ _ 30 R.out rfl rfl rfl rfl (by kernel_rfl) (by simp [Value.oneCell']) rfl ?_; intro V hgV hRV; have HGV := Lib.hid hgV; have HRV := Lib.hid hRV; clear hgV hRV))
      (try simp only [Exit.inBlock, Exit.then])
      refine bodyPost_ret (ret_hb rfl _ rfl HRV.out) rfl ?_
      exact ⟨by rw [HN.out]; rfl, grown_new G.out (by omega) HGV.out⟩
    have HY := Lib.hid (hsV_yes hb (mb_iff.2 ⟨by omega, by omega⟩ : mbF dm m = true))
    obtain ⟨B, hv0, hC⟩ := HOK.out hb
    have hbb := hsB_iff.1 hb
    have hm5 := (crew_iff.1 hbb.2.1).2.2
    have HIX := Lib.hid (fun (i : Nat) (hi : i < (hsel need many ng zg nc zc D dn dm nd).length) => hsel_ok (need := need) (many := many) (ng := ng) (zg := zg) (nc := nc) (zc := zc) (D := D) (dn := dn) (dm := dm) hi)
    clear hb hbb HOK
    subst hv0
    have C := Lib.hid hC; have HNE := Lib.hid hC.ne; clear hC
    obtain ⟨mn, hmn⟩ : ∃ mn : Nat, m - 1 = mn := ⟨(m - 1).toNat, by omega⟩
    have hwk : (m - 1).toNat = mn := by omega
    generalize hp0 : lnk B (hsel need many ng zg nc zc D dn dm nd).length 0 = p0
    have HP0 := Lib.hid hp0; clear hp0
    have HSM := Lib.hid (show ∀ k, hsM D (hsel need many ng zg nc zc D dn dm nd) m (k + 1) = sumF (hsM D (hsel need many ng zg nc zc D dn dm nd) m k) (mulF (hsL D (hsel need many ng zg nc zc D dn dm nd) k) ((D (at0 (hsel need many ng zg nc zc D dn dm nd) k)).z2 mn)) from fun k => by rw [← hwk]; rfl)
    clear hlR hwk
    go_wp2
    go_loopw [14, 15] (fun s p W => ∃ k : Nat, k ≤ (hsel need many ng zg nc zc D dn dm nd).length ∧ s = .int .i64 (hsM D (hsel need many ng zg nc zc D dn dm nd) m k) ∧ p = lnk B (hsel need many ng zg nc zc D dn dm nd).length k ∧ Chn W ((w.alloc (.cells #[.int .i64 need, .int .i64 many, .slice ag ng cg, .slice ac nc cc] 25)).alloc (.cells #[.int .i64 0, .int .i64 0] 30)).heap.size D (hsel need many ng zg nc zc D dn dm nd) B (hsL D (hsel need many ng zg nc zc D dn dm nd)) ∧ Blk W (w.heap.size + 1) #[.int .i64 0, .int .i64 0] 30 ∧ w.grownBy W none) (fun _ p _ => (hsel need many ng zg nc zc D dn dm nd).length - lidx B (hsel need many ng zg nc zc D dn dm nd).length p)
    case atStart => exact ⟨0, by omega, rfl, HP0.out.symm, C.out, R.out, G.out⟩
    case round =>
      clear C R G
      obtain ⟨k, hk, rfl, hp, hC, hR, hg⟩ := hrel
      have C := Lib.hid hC; have R := Lib.hid hR; have G := Lib.hid hg
      clear hC hR hg
      by_cases hlt : k < (hsel need many ng zg nc zc D dn dm nd).length
      · rw [lnk_yes hlt] at hp
        subst hp
        obtain ⟨hix, hdl⟩ := HIX.out k hlt
        obtain ⟨J, hJ⟩ : ∃ J, J = at0 (hsel need many ng zg nc zc D dn dm nd) k := ⟨_, rfl⟩
        have HSK := Lib.hid (HSM.out k)
        rw [← hJ] at hix hdl HSK
        have hn2 := (dl_iff.1 hdl).2.2.2.1
        rcases HD0.out with h | ⟨bd, off, hado, hbd, hcc⟩
        · omega
        clear hado
        obtain ⟨_, hr⟩ := hcc J hix
        clear hcc hdl
        have hmn2 : mn < (D J).n2 := by omega
        obtain ⟨b2, o2, ha2, hb2, hc2⟩ := hr.i2.ptr (by omega)
        have HX := Lib.hid (show ∀ W : World, w.grownBy W none → W.cell? ⟨b2, o2 + mn, none⟩ = some (.int .i64 ((D J).z2 mn)) from fun W hg => (World.cell?_of_block (hg.block b2 hb2 (by simp))).trans (hc2 mn hmn2))
        clear hc2 hr
        have HB3 := Lib.hid (show ∀ W : World, Chn W ((w.alloc (.cells #[.int .i64 need, .int .i64 many, .slice ag ng cg, .slice ac nc cc] 25)).alloc (.cells #[.int .i64 0, .int .i64 0] 30)).heap.size D (hsel need many ng zg nc zc D dn dm nd) B (hsL D (hsel need many ng zg nc zc D dn dm nd)) → W.cell? ⟨B k, 2, none⟩ = some (.slice (some ⟨b2, o2, none⟩) (D J).n2 (D J).c2) ∧ W.cell? ⟨B k, 3, none⟩ = some (.int .i64 (hsL D (hsel need many ng zg nc zc D dn dm nd) k)) ∧ W.cell? ⟨B k, 4, none⟩ = some (lnk B (hsel need many ng zg nc zc D dn dm nd).length (k + 1)) from fun W hC => by
          have h := hC.box k hlt
          rw [← hJ, ha2] at h
          exact ⟨h.cell 2, h.cell 3, h.cell 4⟩)
        have hmn0 : (0 : Int) ≤ (mn : Int) := by omega
        have hmn' : (mn : Int) < ((D J).n2 : Int) := by omega
        have hwm : IntKind.i64.wrap (mn : Int) = (mn : Int) := by rw [IntKind.wrap_i64]; omega
        clear hJ hn2 hmn2
        go_wp2_with fail
        refine wp_region_held_drew (S := (fun w' => w'.cell? ⟨B k, 2, none⟩ = some (.slice (some ⟨b2, o2, none⟩) (D J).n2 (D J).c2) ∧ w'.cell? ⟨B k, 3, none⟩ = some (.int .i64 (hsL D (hsel need many ng zg nc zc D dn dm nd) k)) ∧ w'.cell? ⟨b2, o2 + mn, none⟩ = some (.int .i64 ((D J).z2 mn)))) (by kernel_rfl) (⟨(HB3.out _ C.out).1, (HB3.out _ C.out).2.1, HX.out wr G.out⟩) (fun hHeld => ?_)
        have hg := gdrew wr
        replace G := Lib.hid (gtr G.out hg)
        replace C := Lib.hid (C.out.keptN hg)
        replace R := Lib.hid (R.out.keptN hg)
        clear hg
        generalize wr.drew = W at *
        refine wpAnyH_take (i := 0) (oi := ⟨some 43, _, _, _, _, _⟩) (v := ?_) rfl (by kernel_rfl) (by kernel_rfl) (by kernel_rfl) (fun _ _ _ h => h) (Or.inl ⟨by rfl, ?_⟩) (by assumption) ?_
        rotate_left
        · intro w hSw; (try dsimp only at hSw); go_simp; try with_reducible rfl
        simp only [Act.put, List.setIfInBounds_toArray, List.set_cons_zero, List.set_cons_succ]
        refine wpAnyH_take (i := 1) (oi := ⟨some 44, _, _, _, _, _⟩) (v := ?_) rfl (by kernel_rfl) (by kernel_rfl) (by kernel_rfl) (fun _ _ _ h => h) (Or.inl ⟨by rfl, ?_⟩) (by assumption) ?_
        rotate_left
        · intro w hSw; (try dsimp only at hSw); go_simp; try with_reducible rfl
        simp only [Act.put, List.setIfInBounds_toArray, List.set_cons_zero, List.set_cons_succ]
        refine wpAnyH_take (i := 2) (oi := ⟨some 45, _, _, _, _, _⟩) (v := ?_) rfl (by kernel_rfl) (by kernel_rfl) (by kernel_rfl) (fun _ _ _ h => h) (Or.inl ⟨by rfl, ?_⟩) (by assumption) ?_
        rotate_left
        · intro w hSw; (try dsimp only at hSw); go_simp; try with_reducible rfl
        simp only [Act.put, List.setIfInBounds_toArray, List.set_cons_zero, List.set_cons_succ]
        refine wpAnyH_take (i := 3) (oi := ⟨some 46, _, _, _, _, _⟩) (v := ?_) rfl (by kernel_rfl) (by kernel_rfl) (by kernel_rfl) (fun _ _ _ h => h) (Or.inl ⟨by rfl, ?_⟩) (by assumption) ?_
        rotate_left
        · intro w hSw; (try dsimp only at hSw); go_simp; try with_reducible rfl
        simp only [Act.put, List.setIfInBounds_toArray, List.set_cons_zero, List.set_cons_succ]
        refine wpAnyH_take (i := 4) (oi := ⟨some 47, _, _, _, _, _⟩) (v := ?_) rfl (by kernel_rfl) (by kernel_rfl) (by kernel_rfl) (fun _ _ _ h => h) (Or.inl ⟨by rfl, ?_⟩) (by assumption) ?_
        rotate_left
        · intro w hSw; (try dsimp only at hSw); go_simp; try with_reducible rfl
        simp only [Act.put, List.setIfInBounds_toArray, List.set_cons_zero, List.set_cons_succ]
        refine wpAnyH_take (i := 5) (oi := ⟨some 48, _, _, _, _, _⟩) (v := ?_) rfl (by kernel_rfl) (by kernel_rfl) (by kernel_rfl) (fun _ _ _ h => h) (Or.inl ⟨by rfl, ?_⟩) (by assumption) ?_
        rotate_left
        · intro w hSw; (try dsimp only at hSw); go_simp; try with_reducible rfl
        simp only [Act.put, List.setIfInBounds_toArray, List.set_cons_zero, List.set_cons_succ]
        refine wpAnyH_take (i := 6) (oi := ⟨some 49, _, _, _, _, _⟩) (v := ?_) rfl (by kernel_rfl) (by kernel_rfl) (by kernel_rfl) (fun _ _ _ h => h) (Or.inl ⟨by rfl, ?_⟩) (by assumption) ?_
        rotate_left
        · intro w hSw; (try dsimp only at hSw); go_simp; try with_reducible rfl
        simp only [Act.put, List.setIfInBounds_toArray, List.set_cons_zero, List.set_cons_succ]
        refine wpAnyH_take (i := 7) (oi := ⟨some 50, _, _, _, _, _⟩) (v := ?_) rfl (by kernel_rfl) (by kernel_rfl) (by kernel_rfl) (fun _ _ _ h => h) (Or.inl ⟨by rfl, ?_⟩) (by assumption) ?_
        rotate_left
        · intro w hSw; (try dsimp only at hSw); go_simp; try with_reducible rfl
        simp only [Act.put, List.setIfInBounds_toArray, List.set_cons_zero, List.set_cons_succ]
        refine wpAnyH_take (i := 8) (oi := ⟨some 51, _, _, _, _, _⟩) (v := ?_) rfl (by kernel_rfl) (by kernel_rfl) (by kernel_rfl) (fun _ _ _ h => h) (Or.inl ⟨by rfl, ?_⟩) (by assumption) ?_
        rotate_left
        · intro w hSw; (try dsimp only at hSw); go_simp; try with_reducible rfl
        simp only [Act.put, List.setIfInBounds_toArray, List.set_cons_zero, List.set_cons_succ]
        refine wpAnyH_take (i := 9) (oi := ⟨some 52, _, _, _, _, _⟩) (v := ?_) rfl (by kernel_rfl) (by kernel_rfl) (by kernel_rfl) (fun _ _ _ h => h) (Or.inl ⟨by rfl, ?_⟩) (by assumption) ?_
        rotate_left
        · intro w hSw; (try dsimp only at hSw); go_simp; try with_reducible rfl
        simp only [Act.put, List.setIfInBounds_toArray, List.set_cons_zero, List.set_cons_succ]
        refine wpAnyH_take (i := 10) (oi := ⟨some 53, _, _, _, _, _⟩) (v := ?_) rfl (by kernel_rfl) (by kernel_rfl) (by kernel_rfl) (fun _ _ _ h => h) (Or.inl ⟨by rfl, ?_⟩) (by assumption) ?_
        rotate_left
        · intro w hSw; (try dsimp only at hSw); go_simp; try with_reducible rfl
        simp only [Act.put, List.setIfInBounds_toArray, List.set_cons_zero, List.set_cons_succ]
        refine wpAnyH_take (i := 11) (oi := ⟨some 54, _, _, _, _, _⟩) (v := ?_) rfl (by kernel_rfl) (by kernel_rfl) (by kernel_rfl) (fun _ _ _ h => h) (Or.inl ⟨by rfl, ?_⟩) (by assumption) ?_
        rotate_left
        · intro w hSw; (try dsimp only at hSw); go_simp; try with_reducible rfl
        simp only [Act.put, List.setIfInBounds_toArray, List.set_cons_zero, List.set_cons_succ]
        refine wpAnyH_take (i := 12) (oi := ⟨some 55, _, _, _, _, _⟩) (v := ?_) rfl (by kernel_rfl) (by kernel_rfl) (by kernel_rfl) (fun _ _ _ h => h) (Or.inl ⟨by rfl, ?_⟩) (by assumption) ?_
        rotate_left
        · intro w hSw; (try dsimp only at hSw); go_simp; try with_reducible rfl
        simp only [Act.put, List.setIfInBounds_toArray, List.set_cons_zero, List.set_cons_succ]
        refine wpAnyH_take (i := 13) (oi := ⟨some 56, _, _, _, _, _⟩) (v := ?_) rfl (by kernel_rfl) (by kernel_rfl) (by kernel_rfl) (fun _ _ _ h => h) (Or.inl ⟨by rfl, ?_⟩) (by assumption) ?_
        rotate_left
        · intro w hSw; (try dsimp only at hSw); go_simp; try with_reducible rfl
        simp only [Act.put, List.setIfInBounds_toArray, List.set_cons_zero, List.set_cons_succ]
        refine wpAnyH_ready (rs := [14]) (by kernel_rfl) (by simp) ?_
        refine AllReadyH.cons (o := ⟨some 57, _, _, _, _, _⟩) rfl (fun Kq hKq => ?_) AllReadyH.nil
        go_simp
        go_at_call 10
        refine (imul _ _ _).mono ?_
        rintro e w2 ⟨rfl, rfl⟩
        refine hKq.out _ _ (⟨(HB3.out _ C.out).1, (HB3.out _ C.out).2.1, HX.out _ G.out⟩) (fun hHeld => ?_)
        clear hKq Kq
        refine wpAnyH_ready (rs := [15]) (by kernel_rfl) (by simp) ?_
        refine AllReadyH.cons (o := ⟨some 58, _, _, _, _, _⟩) rfl (fun Kq hKq => ?_) AllReadyH.nil
        go_simp
        go_at_call 9
        refine (isum _ _ _).mono ?_
        rintro e w2 ⟨rfl, rfl⟩
        refine hKq.out _ _ (⟨(HB3.out _ C.out).1, (HB3.out _ C.out).2.1, HX.out _ G.out⟩) (fun hHeld => ?_)
        clear hKq Kq
        refine wpAnyH_take (i := 16) (oi := ⟨some 14, _, _, _, _, _⟩) (v := ?_) rfl (by kernel_rfl) (by kernel_rfl) (by kernel_rfl) (fun _ _ _ h => h) (Or.inl ⟨by rfl, ?_⟩) (by assumption) ?_
        rotate_left
        · intro w hSw; (try dsimp only at hSw); go_simp; try with_reducible rfl
        simp only [Act.put, List.setIfInBounds_toArray, List.set_cons_zero, List.set_cons_succ]
        refine wpAnyH_done (by kernel_rfl) ?_ _
        rw [← HSK.out]
        have c4 := (HB3.out _ C.out).2.2
        generalize hpn : lnk B (hsel need many ng zg nc zc D dn dm nd).length (k + 1) = pn at c4
        have HPN := Lib.hid hpn; clear hpn
        go_wp2
        go_roundw
        case rel => exact ⟨k + 1, by omega, rfl, by first | exact HPN.out.symm | rfl, C.out, R.out, G.out⟩
        case measure =>
          have hm1 := lidx_eq (m := (hsel need many ng zg nc zc D dn dm nd).length) (k := k + 1) HNE.out (by omega)
          have hm0 := lidx_eq (m := (hsel need many ng zg nc zc D dn dm nd).length) HNE.out hk
          rw [lnk_yes hlt] at hm0
          try rw [← HPN.out]
          simp [hm1, hm0] <;> omega
      · obtain rfl : k = (hsel need many ng zg nc zc D dn dm nd).length := by omega
        rw [lnk_no (Nat.le_refl _)] at hp
        subst hp
        have hlR := R.out.lt
        go_wp2_with (first
          | (refine wpList_store_blk rfl 30 (.tmp 10) (.tmp 61) _ _ _ 30 R.out rfl rfl rfl rfl (by kernel_rfl) (by simp [Value.oneCell']) rfl ?_; intro V hgV hRV; have HGV := Lib.hid hgV; have HRV := Lib.hid hRV; clear hgV hRV))
        (try simp only [Exit.inBlock, Exit.then])
        refine bodyPost_ret (ret_hb rfl _ rfl HRV.out) rfl ?_
        exact ⟨by rw [HY.out]; rfl, grown_new G.out (by omega) HGV.out⟩
end Con
end Go.Proofs.YtonhdkideianiaaGreatDoor
