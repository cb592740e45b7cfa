/-
  The walk of the law on a part that is mended.
-/
import Derived.Test.YteibklnonlapoaaGreatDoorUd
import Derived.Test.YteibklnonlapoaaGreatDoorUz
import Derived.Test.YteibklnonlapoaaGreatDoorUc
import Derived.Test.YteibklnonlapoaaGreatDoorTd
import Derived.Deep.RegionHeld3
namespace Go.Proofs.YteibklnonlapoaaGreatDoor
namespace Run
open Go.RowKit Alg Mem Con Mp Hd Draw
set_option linter.unusedVariables false
theorem pt_atM {need many : Int} {ng : Nat} {zg : Nat → Int} {nc : Nat} {zc : Nat → Int} {msg : Int} {n : Nat} {S : Nat → SV} (h : tsF need many ng zg nc zc msg n S = true) {q : Nat} (hq : q < n) (z : Int) : ptS S (S q).m n z = putS S q z := by
  rw [ptS_yes (ts_has h hq), ts_pos h hq]

theorem lpinB (w : World) (a : Option Addr) (len cap : Nat) (z : Nat → Int) (n : Int) (hI : Ints w a len z) (hl : len ≤ 2000000) :
    Calls Tryz.prog 22 #[.slice a len cap, .int .i64 n] w fun e w' => e = .returned (.bool (hasz z n len)) ∧ w = w' := by
  go_enter Tryz.func22, Tryz.ntmps22
  go_wp2
  go_loop [5] (fun i => ∃ k : Nat, k ≤ len ∧ i = .int .i64 k ∧ hasz z n k = false) (fun i => len - (intOf i).toNat)
  case atStart => exact ⟨0, by omega, rfl, rfl⟩
  case round =>
    obtain ⟨k, hk, rfl, hz⟩ := hrel
    have HZ := Lib.hid hz; clear hz
    by_cases hlt : k < len
    · rcases hI with h | ⟨b, off, rfl, hb, hc⟩
      · omega
      have hcx := hc k hlt
      clear hc
      by_cases he : z k = n
      · have HR := Lib.hid (hasz_yes hlt he)
        have ht : (z k == n) = true := by simpa using he
        clear he
        go_wp2
        go_ret
        exact ⟨Mem.ret_b HR.out.symm, rfl⟩
      · have HR := Lib.hid (hasz_next HZ.out he)
        have ht : (z k == n) = false := by simpa using he
        clear he
        go_wp2
        go_round
        case rel => exact ⟨k + 1, by omega, by go_num, HR.out⟩
        case measure => simp [intOf]; omega
    · obtain rfl : k = len := by omega
      clear hI
      go_wp2
      go_ret
      exact ⟨Mem.ret_b HZ.out.symm, rfl⟩
/-- How many there were by then. -/
def cntP (p : Int) (k : Nat) : Int := if p < (k : Int) then 1 else 0
theorem cntP_b (p : Int) (k : Nat) : 0 ≤ cntP p k ∧ cntP p k ≤ 1 := by unfold cntP; split <;> omega
theorem cntP_at {p : Int} {k : Nat} (h : (k : Int) = p) : cntP p (k + 1) = cntP p k + 1 := by unfold cntP; rw [if_pos (by omega), if_neg (by omega)]; rfl
theorem cntP_ne {p : Int} {k : Nat} (h : ¬ (k : Int) = p) : cntP p (k + 1) = cntP p k := by
  unfold cntP
  by_cases h' : p < (k : Int)
  · rw [if_pos h', if_pos (by omega)]
  · rw [if_neg h', if_neg (by omega)]
theorem hasz_li (l : List Int) (x : Int) : hasz (li l) x l.length = decide (x ∈ l) := by
  apply Bool.eq_iff_iff.2
  rw [hasz_iff, decide_eq_true_eq]
  constructor
  · rintro ⟨j, hj, e⟩
    have h : li l j = l[j] := by unfold li; simp [hj]
    rw [← e, h]; exact List.getElem_mem hj
  · intro h
    obtain ⟨j, hj, e⟩ := List.getElem_of_mem h
    exact ⟨j, hj, by unfold li; simp [hj, e]⟩
theorem has_bad {need many : Int} {ng : Nat} {zg : Nat → Int} {nc : Nat} {zc : Nat → Int} {msg : Int} {n : Nat} {S : Nat → SV} (h : tsF need many ng zg nc zc msg n S = true) {q : Nat} (hq : q < n) {z : Int} (hz : fok z = true) :
    hasz (li (tbL need many ng zg nc zc msg n (putS S q z) n)) (S q).m (tbL need many ng zg nc zc msg n (putS S q z) n).length = !decide (z = onePart nc zc msg n S q) := by
  rw [hasz_li]
  have h1 := tb_in (S := putS S q z) (ts_put h hz) hq
  rw [put_m, tb_put_at h hq hz] at h1
  apply Bool.eq_iff_iff.2
  rw [decide_eq_true_eq]
  exact h1
set_option maxRecDepth 100000 in
set_option maxHeartbeats 8000000 in
theorem FnSessionMend (a : Option Addr) (len cap : Nat) (a1 : Option Addr) (len1 cap1 : Nat) (w : World) (hB : Draw.Bytes w w.heap.size a len) (hc : len ≤ cap) (hm : cap ≤ maxLen) (hc1 : len1 ≤ cap1) (hm1 : cap1 ≤ maxLen) (ad : Addr) (hv : Np w ad) (he : Et w) :
    Calls Tryz.prog 7 #[.slice a len cap, .slice a1 len1 cap1] w (Yes w) := by
  have HN := Lib.hid hv; have HT := Lib.hid he; clear hv he
  have HM := hm; unfold maxLen at HM
  have HM1 := hm1; unfold maxLen at HM1
  by_cases hL : (1048576 : Int) < (len : Int)
  · have HB := Lib.hid hB; clear hB
    go_enter Tryz.func7, Tryz.ntmps7
    go_wp2
    go_ret
    exact ⟨rfl, Below.refl _ _⟩
  by_cases hL1 : (1048576 : Int) < (len1 : Int)
  · have HB := Lib.hid hB; clear hB
    have hL0 : ¬ (1048576 : Int) < (len : Int) := hL
    go_enter Tryz.func7, Tryz.ntmps7
    go_wp2
    go_ret
    exact ⟨rfl, Below.refl _ _⟩
  have hL0 : ¬ (1048576 : Int) < (len : Int) := hL
  have hL2 : ¬ (1048576 : Int) < (len1 : Int) := hL1
  go_enter Tryz.func7, Tryz.ntmps7
  go_wp2_with fail
  refine (Draw.drawSesBad _ a len cap hB hc hm).mono ?_
  rintro e w1 ⟨need, many, ag, ng, cg, zg, ac, nc, cc, zc, msg, a3, n, c3, S, rfl, hq1, hq2, hq3, ⟨hb1, hb2, hb3⟩, hg⟩
  have G := Lib.hid hg; have I1 := Lib.hid hq1.ints; have I2 := Lib.hid hq2.ints; have A3 := Lib.hid (sh_own hq3)
  have HN0 := HN; have HT0 := HT
  clear HN HT
  have HN := Lib.hid (HN0.out.kept G.out); have HT := Lib.hid (HT0.out.kept G.out)
  clear hg hq1 hq2 hq3 hB
  have hg := Draw.grown_alloc w1 (.cells #[.int .i64 need, .int .i64 many, .slice ag ng cg, .slice ac nc cc, .int .i64 msg, .slice a3 n c3] 30) none
  have B := Lib.hid (Ss.of_blk (Blk.new w1 #[.int .i64 need, .int .i64 many, .slice ag ng cg, .slice ac nc cc, .int .i64 msg, .slice a3 n c3] 30))
  replace G := Lib.hid (gtr G.out hg)
  replace I1 := Lib.hid (I1.out.kept hg)
  replace I2 := Lib.hid (I2.out.kept hg)
  replace A3 := Lib.hid (A3.out.kept hg)
  replace HN := Lib.hid (HN0.out.kept G.out)
  replace HT := Lib.hid (HT0.out.kept G.out)
  clear hg
  have hl1 : ng ≤ 2000000 := by omega
  have hl2 : nc ≤ 2000000 := by omega
  have hl3 : n ≤ 2000000 := by omega
  obtain ⟨_, k0, k1, k2, k3, k4, k5⟩ := B.out
  go_wp2_with fail
  clear k0 k1 k2 k3 k4 k5
  refine (isesBad _ need many _ ng _ zg _ nc _ zc msg _ n _ S ad I1.out I2.out A3.out hl1 hl2 hl3 HN.out HT.out).mono ?_
  rintro e w2 ⟨v, rfl, hL, hg⟩
  have htl : (tbF need many ng zg nc zc msg n S).length ≤ n := by unfold tbF; split; exact tbL_len; simp
  obtain ⟨av, cv, rfl, hI, _, _⟩ := hL.slice
  have J := Lib.hid hI
  clear hI hL
  replace G := Lib.hid (gtr G.out hg)
  replace I1 := Lib.hid (I1.out.kept hg)
  replace I2 := Lib.hid (I2.out.kept hg)
  replace A3 := Lib.hid (A3.out.kept hg)
  replace HN := Lib.hid (HN0.out.kept G.out)
  replace HT := Lib.hid (HT0.out.kept G.out)
  replace B := Lib.hid (B.out.kept hg)
  clear hg
  obtain ⟨_, k0, k1, k2, k3, k4, k5⟩ := B.out
  go_wp2_with fail
  clear k0 k1 k2 k3 k4 k5
  refine (ssesBad _ need many _ ng _ zg _ nc _ zc msg _ n _ S I1.out I2.out A3.out hl1 hl2 hl3).mono ?_
  rintro e w3 ⟨v2, rfl, hL, hg⟩
  obtain ⟨aw, cw, rfl, hI, _, _⟩ := hL.slice
  have K := Lib.hid hI
  clear hI hL
  replace G := Lib.hid (gtr G.out hg)
  replace I1 := Lib.hid (I1.out.kept hg)
  replace I2 := Lib.hid (I2.out.kept hg)
  replace A3 := Lib.hid (A3.out.kept hg)
  replace HN := Lib.hid (HN0.out.kept G.out)
  replace HT := Lib.hid (HT0.out.kept G.out)
  replace B := Lib.hid (B.out.kept hg)
  replace J := Lib.hid (J.out.kept hg)
  clear hg
  go_wp2_with fail
  refine (lpints _ av aw _ cv cw (li (tbF need many ng zg nc zc msg n S)) J.out K.out (by omega)).mono ?_
  rintro e w4 ⟨rfl, hg⟩
  clear K
  replace G := Lib.hid (gtr G.out hg)
  replace I1 := Lib.hid (I1.out.kept hg)
  replace I2 := Lib.hid (I2.out.kept hg)
  replace A3 := Lib.hid (A3.out.kept hg)
  replace HN := Lib.hid (HN0.out.kept G.out)
  replace HT := Lib.hid (HT0.out.kept G.out)
  replace B := Lib.hid (B.out.kept hg)
  replace J := Lib.hid (J.out.kept hg)
  clear hg
  obtain ⟨_, k0, k1, k2, k3, k4, k5⟩ := B.out
  go_wp2_with fail
  clear k0 k1 k2 k3 k4 k5
  refine (s32ok _ need many _ ng _ zg _ nc _ zc msg _ n _ S I1.out I2.out A3.out hl1 hl2 hl3).mono ?_
  rintro e w5 ⟨rfl, hg⟩
  replace G := Lib.hid (gtr G.out hg)
  replace I1 := Lib.hid (I1.out.kept hg)
  replace I2 := Lib.hid (I2.out.kept hg)
  replace A3 := Lib.hid (A3.out.kept hg)
  replace HN := Lib.hid (HN0.out.kept G.out)
  replace HT := Lib.hid (HT0.out.kept G.out)
  replace B := Lib.hid (B.out.kept hg)
  replace J := Lib.hid (J.out.kept hg)
  clear hg
  cases h1 : tsF need many ng zg nc zc msg n S with
  | false =>
    obtain ⟨_, k0, k1, k2, k3, k4, k5⟩ := B.out
    go_wp2_with fail
    clear k0 k1 k2 k3 k4 k5
    refine (ssesBad _ need many _ ng _ zg _ nc _ zc msg _ n _ S I1.out I2.out A3.out hl1 hl2 hl3).mono ?_
    rintro e w6 ⟨v2, rfl, hL, hg⟩
    obtain ⟨aw, cw, rfl, hI, _, _⟩ := hL.slice
    have K := Lib.hid hI
    clear hI hL
    replace G := Lib.hid (gtr G.out hg)
    replace I1 := Lib.hid (I1.out.kept hg)
    replace I2 := Lib.hid (I2.out.kept hg)
    replace A3 := Lib.hid (A3.out.kept hg)
    replace HN := Lib.hid (HN0.out.kept G.out)
    replace HT := Lib.hid (HT0.out.kept G.out)
    replace B := Lib.hid (B.out.kept hg)
    replace J := Lib.hid (J.out.kept hg)
    clear hg
    go_wp2_with fail
    refine (lpints _ av aw _ cv cw (li (tbF need many ng zg nc zc msg n S)) J.out K.out (by omega)).mono ?_
    rintro e w7 ⟨rfl, hg⟩
    clear K
    replace G := Lib.hid (gtr G.out hg)
    replace I1 := Lib.hid (I1.out.kept hg)
    replace I2 := Lib.hid (I2.out.kept hg)
    replace A3 := Lib.hid (A3.out.kept hg)
    replace HN := Lib.hid (HN0.out.kept G.out)
    replace HT := Lib.hid (HT0.out.kept G.out)
    replace B := Lib.hid (B.out.kept hg)
    replace J := Lib.hid (J.out.kept hg)
    clear hg
    go_wp2
    go_ret
    exact ⟨rfl, Draw.below_of G.out⟩
  | true =>
    have HTS := Lib.hid h1
    have hfa := ts_facts h1
    have hn1 : 1 ≤ n := by omega
    have hn5 : n ≤ 5 := hfa.2.2.2.2.1
    clear hfa h1
    clear J
    obtain ⟨q, hq⟩ : ∃ q : Nat, q = len1 % n := ⟨_, rfl⟩
    have hqn : q < n := by rw [hq]; exact Nat.mod_lt _ hn1
    have hmod : (len1 : Int).tmod (n : Int) = (q : Int) := by rw [hq, Int.tmod_eq_emod_of_nonneg (by omega)]; exact (Int.natCast_emod len1 n).symm
    have hnz : ¬ (n : Int) = 0 := by omega
    have hnz' : ¬ n = 0 := by omega
    have hq5 : q < 5 := by omega
    clear hq
    have HOK := Lib.hid (ts_has HTS.out hqn)
    obtain ⟨p, hp⟩ : ∃ p : Int, p = onePart nc zc msg n S q := ⟨_, rfl⟩
    have hpf := fok_iff.1 (show fok p = true by rw [hp]; exact one_ok HTS.out hqn)
    have HP := Lib.hid hp.symm
    clear hp
    obtain ⟨b3, o3, rfl, hb3, hcc⟩ := A3.out.ptr hn1
    obtain ⟨hcm, _, _, _⟩ := hcc q hqn
    clear hcc
    have HO := Lib.hid (show ∀ V, World.grownBy w5 V none → V.cell? ⟨b3, o3 + q * 4, none⟩ = some (.int .i64 (S q).m) from fun V hg => (World.cell?_of_block (hg.block b3 hb3 (by simp))).trans hcm)
    clear hcm hb3
    generalize w1.heap.size = bb at *
    obtain ⟨_, k0, k1, k2, k3, k4, k5⟩ := B.out
    go_wp2
    clear k0 k1 k2 k3 k4 k5
    go_loopw [8, 9] (fun c i W => ∃ k : Nat, k ≤ 23 ∧ i = .int .i64 k ∧ c = .int .i64 (cntP p k) ∧ w5.grownBy W none) (fun _ i _ => 23 - (intOf i).toNat)
    case atStart => exact ⟨0, by omega, rfl, by unfold cntP; rw [if_neg (by omega)], Draw.grown_refl _ _⟩
    case round =>
      obtain ⟨k, hk, rfl, rfl, hg⟩ := hrel
      obtain ⟨W1, hW⟩ : ∃ W, W = wr := ⟨_, rfl⟩; subst hW
      have C := Lib.hid hg
      replace G := Lib.hid (gtr G.out hg)
      replace I1 := Lib.hid (I1.out.kept hg)
      replace I2 := Lib.hid (I2.out.kept hg)
      replace A3 := Lib.hid (A3.out.kept hg)
      replace HN := Lib.hid (HN0.out.kept G.out)
      replace HT := Lib.hid (HT0.out.kept G.out)
      replace B := Lib.hid (B.out.kept hg)
      clear hg
      by_cases hlt : k < 23
      · skip
        have HFY := Lib.hid (fok_iff.2 (show 0 ≤ (k : Int) ∧ (k : Int) < 23 by omega))
        have HPS := Lib.hid (pt_atM HTS.out hqn (k : Int))
        have HTP := Lib.hid (ts_put (q := q) HTS.out HFY.out)
        have HBH := Lib.hid (has_bad HTS.out hqn HFY.out)
        have hbl : (tbL need many ng zg nc zc msg n (putS S q k) n).length ≤ n := tbL_len
        rw [HP.out] at HBH
        have hkI : (k : Int) < 23 := by omega
        obtain ⟨_, k0, k1, k2, k3, k4, k5⟩ := B.out
        go_wp2_with fail
        clear k0 k1 k2 k3 k4 k5
        refine wp_region_held_drew (S := (fun w' => (w'.cell? ⟨bb, 0, none⟩ = some (.int .i64 need) ∧ w'.cell? ⟨bb, 1, none⟩ = some (.int .i64 many) ∧ w'.cell? ⟨bb, 2, none⟩ = some (.slice ag ng cg) ∧ w'.cell? ⟨bb, 3, none⟩ = some (.slice ac nc cc) ∧ w'.cell? ⟨bb, 4, none⟩ = some (.int .i64 msg) ∧ w'.cell? ⟨bb, 5, none⟩ = some (.slice (some ⟨b3, o3, none⟩) n c3)) ∧ w'.cell? ⟨b3, o3 + q * 4, none⟩ = some (.int .i64 (S q).m))) (by kernel_rfl) (⟨⟨B.out.c0, B.out.c1, B.out.c2, B.out.c3, B.out.c4, B.out.c5⟩, HO.out _ (gtr C.out (Draw.gdrew _))⟩) (fun hHeld => ?_)
        have hg := Draw.gdrew W1
        replace G := Lib.hid (gtr G.out hg)
        replace I1 := Lib.hid (I1.out.kept hg)
        replace I2 := Lib.hid (I2.out.kept hg)
        replace A3 := Lib.hid (A3.out.kept hg)
        replace HN := Lib.hid (HN0.out.kept G.out)
        replace HT := Lib.hid (HT0.out.kept G.out)
        replace B := Lib.hid (B.out.kept hg)
        replace C := Lib.hid (gtr C.out hg)
        clear hg
        generalize (W1).drew = V7 at *
        refine wpAnyH_take (i := 0) (oi := ⟨some 49, _, _, _, _, _⟩) (v := ?_) rfl (by kernel_rfl) (by kernel_rfl) (by kernel_rfl) (fun _ _ _ h => h) (Or.inl ⟨by rfl, ?_⟩) (by assumption) ?_
        rotate_left
        · intro w hSw; (try dsimp only at hSw); go_simp; try with_reducible rfl
        simp only [Act.put, List.setIfInBounds_toArray, List.set_cons_zero, List.set_cons_succ]
        refine wpAnyH_take (i := 1) (oi := ⟨some 50, _, _, _, _, _⟩) (v := ?_) rfl (by kernel_rfl) (by kernel_rfl) (by kernel_rfl) (fun _ _ _ h => h) (Or.inl ⟨by rfl, ?_⟩) (by assumption) ?_
        rotate_left
        · intro w hSw; (try dsimp only at hSw); go_simp; try with_reducible rfl
        simp only [Act.put, List.setIfInBounds_toArray, List.set_cons_zero, List.set_cons_succ]
        refine wpAnyH_take (i := 2) (oi := ⟨some 51, _, _, _, _, _⟩) (v := ?_) rfl (by kernel_rfl) (by kernel_rfl) (by kernel_rfl) (fun _ _ _ h => h) (Or.inl ⟨by rfl, ?_⟩) (by assumption) ?_
        rotate_left
        · intro w hSw; (try dsimp only at hSw); go_simp; try with_reducible rfl
        simp only [Act.put, List.setIfInBounds_toArray, List.set_cons_zero, List.set_cons_succ]
        refine wpAnyH_take (i := 3) (oi := ⟨some 52, _, _, _, _, _⟩) (v := ?_) rfl (by kernel_rfl) (by kernel_rfl) (by kernel_rfl) (fun _ _ _ h => h) (Or.inl ⟨by rfl, ?_⟩) (by assumption) ?_
        rotate_left
        · intro w hSw; (try dsimp only at hSw); go_simp; try with_reducible rfl
        simp only [Act.put, List.setIfInBounds_toArray, List.set_cons_zero, List.set_cons_succ]
        refine wpAnyH_take (i := 4) (oi := ⟨some 53, _, _, _, _, _⟩) (v := ?_) rfl (by kernel_rfl) (by kernel_rfl) (by kernel_rfl) (fun _ _ _ h => h) (Or.inl ⟨by rfl, ?_⟩) (by assumption) ?_
        rotate_left
        · intro w hSw; (try dsimp only at hSw); go_simp; try with_reducible rfl
        simp only [Act.put, List.setIfInBounds_toArray, List.set_cons_zero, List.set_cons_succ]
        refine wpAnyH_take (i := 5) (oi := ⟨some 54, _, _, _, _, _⟩) (v := ?_) rfl (by kernel_rfl) (by kernel_rfl) (by kernel_rfl) (fun _ _ _ h => h) (Or.inl ⟨by rfl, ?_⟩) (by assumption) ?_
        rotate_left
        · intro w hSw; (try dsimp only at hSw); go_simp; try with_reducible rfl
        simp only [Act.put, List.setIfInBounds_toArray, List.set_cons_zero, List.set_cons_succ]
        refine wpAnyH_take (i := 6) (oi := ⟨some 55, _, _, _, _, _⟩) (v := ?_) rfl (by kernel_rfl) (by kernel_rfl) (by kernel_rfl) (fun _ _ _ h => h) (Or.inl ⟨by rfl, ?_⟩) (by assumption) ?_
        rotate_left
        · intro w hSw; (try dsimp only at hSw); go_simp; try with_reducible rfl
        simp only [Act.put, List.setIfInBounds_toArray, List.set_cons_zero, List.set_cons_succ]
        refine wpAnyH_take (i := 7) (oi := ⟨some 56, _, _, _, _, _⟩) (v := ?_) rfl (by kernel_rfl) (by kernel_rfl) (by kernel_rfl) (fun _ _ _ h => h) (Or.inl ⟨by rfl, ?_⟩) (by assumption) ?_
        rotate_left
        · intro w hSw; (try dsimp only at hSw); go_simp; try with_reducible rfl
        simp only [Act.put, List.setIfInBounds_toArray, List.set_cons_zero, List.set_cons_succ]
        refine wpAnyH_ready (rs := [8, 12]) (by kernel_rfl) (by simp) ?_
        refine AllReadyH.cons (o := ⟨some 57, _, _, _, _, _⟩) rfl (fun Kq hKq => ?_) (AllReadyH.cons (o := ⟨some 10, _, _, _, _, _⟩) rfl (fun Kq hKq => ?_) AllReadyH.nil)
        · go_simp
          go_at_call 28
          refine (i32put _ need many _ ng _ zg _ nc _ zc msg _ n _ S (S q).m (k : Int) I1.out I2.out A3.out (ints_sl I1.out) (ints_sl I2.out) (sh_sl A3.out) hl1 hl2 hl3).mono ?_
          rintro e V9 hsp
          obtain ⟨a1', c1', a2', c2', a3', c3', rfl, hi1, hi2, hO3, hap, hg⟩ := sesPQ_get HTS.out HFY.out hsp
          clear hsp hap
          rw [HPS.out] at hO3
          rw [HOK.out]
          have N1 := Lib.hid (hi1.lower (Nat.zero_le _)); have N2 := Lib.hid (hi2.lower (Nat.zero_le _)); have N3 := Lib.hid (hO3.lower (Nat.zero_le _))
          clear hi1 hi2 hO3
          clear I1 I2 A3
          replace G := Lib.hid (gtr G.out hg)
          replace HN := Lib.hid (HN0.out.kept G.out)
          replace HT := Lib.hid (HT0.out.kept G.out)
          replace B := Lib.hid (B.out.kept hg)
          replace C := Lib.hid (gtr C.out hg)
          clear hg
          refine hKq.out _ _ (⟨⟨B.out.c0, B.out.c1, B.out.c2, B.out.c3, B.out.c4, B.out.c5⟩, HO.out _ C.out⟩) (fun hHeld => ?_)
          clear hKq Kq
          refine wpAnyH_take (i := 9) (oi := ⟨some 48, _, _, _, _, _⟩) (v := ?_) rfl (by kernel_rfl) (by kernel_rfl) (by kernel_rfl) (fun _ _ _ h => h) (Or.inl ⟨by rfl, ?_⟩) (by assumption) ?_
          rotate_left
          · intro w hSw; (try dsimp only at hSw); go_simp; try with_reducible rfl
          simp only [Act.put, List.setIfInBounds_toArray, List.set_cons_zero, List.set_cons_succ]
          refine wpAnyH_take (i := 10) (oi := ⟨some 58, _, _, _, _, _⟩) (v := ?_) rfl (by kernel_rfl) (by kernel_rfl) (by kernel_rfl) (fun _ _ _ h => h) (Or.inl ⟨by rfl, ?_⟩) (by assumption) ?_
          rotate_left
          · intro w hSw; (try dsimp only at hSw); go_simp; try with_reducible rfl
          simp only [Act.put, List.setIfInBounds_toArray, List.set_cons_zero, List.set_cons_succ]
          refine wpAnyH_take (i := 11) (oi := ⟨some 59, _, _, _, _, _⟩) (v := ?_) rfl (by kernel_rfl) (by kernel_rfl) (by kernel_rfl) (fun _ _ _ h => h) (Or.inl ⟨by rfl, ?_⟩) (by assumption) ?_
          rotate_left
          · intro w hSw; (try dsimp only at hSw); go_simp; try with_reducible rfl
          simp only [Act.put, List.setIfInBounds_toArray, List.set_cons_zero, List.set_cons_succ]
          refine wpAnyH_ready (rs := [12]) (by kernel_rfl) (by simp) ?_
          refine AllReadyH.cons (o := ⟨some 10, _, _, _, _, _⟩) rfl (fun Kq hKq => ?_) AllReadyH.nil
          go_simp
          refine at_alloc ?_
          intro Va hg hT
          have hxb : bb < V9.heap.size := B.out.lt
          have hxw : w.heap.size ≤ V9.heap.size := G.out.size
          have hxz := C.out.size
          generalize V9.heap.size = xb at *
          have X := Lib.hid hT
          clear hT
          replace G := Lib.hid (gtr G.out hg)
          replace HN := Lib.hid (HN0.out.kept G.out)
          replace HT := Lib.hid (HT0.out.kept G.out)
          replace B := Lib.hid (B.out.kept hg)
          replace C := Lib.hid (gtr C.out hg)
          replace N1 := Lib.hid (N1.out.kept hg (fun g e => by cases e))
          replace N2 := Lib.hid (N2.out.kept hg (fun g e => by cases e))
          replace N3 := Lib.hid (N3.out.kept hg (fun g e => by cases e))
          clear hg
          refine hKq.out _ _ (⟨⟨B.out.c0, B.out.c1, B.out.c2, B.out.c3, B.out.c4, B.out.c5⟩, HO.out _ C.out⟩) (fun hHeld => ?_)
          clear hKq Kq
          refine wpAnyH_ready (rs := [13]) (by kernel_rfl) (by simp) ?_
          refine AllReadyH.cons (o := ⟨none, _, _, _, _, _⟩) rfl (fun Kq hKq => ?_) AllReadyH.nil
          rw [if_pos (by rfl)]
          refine wp_store_blk 30 (.tmp 10) (.tmp 58) xb _ _ 30 X.out rfl rfl rfl rfl (by kernel_rfl) (by simp [Value.oneCell']) rfl ?_
          intro Vs hg hT
          have N1' := N1.out.keptBlk X.out hg; have N2' := N2.out.keptBlk X.out hg; have N3' := N3.out.keptBlk X.out hg
          clear X N1 N2 N3
          have X := Lib.hid hT; have N1 := Lib.hid N1'; have N2 := Lib.hid N2'; have N3 := Lib.hid N3'
          clear hT N1' N2' N3'
          replace G := Lib.hid (grown_new G.out (by omega) hg)
          replace HN := Lib.hid (HN0.out.kept G.out)
          replace HT := Lib.hid (HT0.out.kept G.out)
          replace B := Lib.hid (B.out.keptB (hg.block _ B.out.lt (by intro e; have e := Option.some.inj e; omega)) hg.size)
          replace C := Lib.hid (grown_new C.out (by omega) hg)
          clear hg
          refine hKq.out _ _ (⟨⟨B.out.c0, B.out.c1, B.out.c2, B.out.c3, B.out.c4, B.out.c5⟩, HO.out _ C.out⟩) (fun hHeld => ?_)
          clear hKq Kq
          refine wpAnyH_take (i := 14) (oi := ⟨some 11, _, _, _, _, _⟩) (v := ?_) rfl (by kernel_rfl) (by kernel_rfl) (by kernel_rfl) (fun _ _ _ h => h) (Or.inl ⟨by rfl, ?_⟩) (by assumption) ?_
          rotate_left
          · intro w hSw; (try dsimp only at hSw); go_simp; try with_reducible rfl
          simp only [Act.put, List.setIfInBounds_toArray, List.set_cons_zero, List.set_cons_succ]
          refine wpAnyH_done (by kernel_rfl) ?_ _
          clear hHeld
          go_wp2_with fail
          refine wp_region_held_drew (S := (fun w' => (w'.cell? ⟨xb, 0, none⟩ = some (.int .i64 need) ∧ w'.cell? ⟨xb, 1, none⟩ = some (.int .i64 many) ∧ w'.cell? ⟨xb, 2, none⟩ = some (.slice a1' ng c1') ∧ w'.cell? ⟨xb, 3, none⟩ = some (.slice a2' nc c2') ∧ w'.cell? ⟨xb, 4, none⟩ = some (.int .i64 msg) ∧ w'.cell? ⟨xb, 5, none⟩ = some (.slice a3' n c3')) ∧ w'.cell? ⟨bb, 5, none⟩ = some (.slice (some ⟨b3, o3, none⟩) n c3) ∧ w'.cell? ⟨b3, o3 + q * 4, none⟩ = some (.int .i64 (S q).m))) (by kernel_rfl) (⟨⟨X.out.cell 0, X.out.cell 1, X.out.cell 2, X.out.cell 3, X.out.cell 4, X.out.cell 5⟩, B.out.c5, HO.out _ (gtr C.out (Draw.gdrew _))⟩) (fun hHeld => ?_)
          have hg := Draw.gdrew Vs
          replace G := Lib.hid (gtr G.out hg)
          replace HN := Lib.hid (HN0.out.kept G.out)
          replace HT := Lib.hid (HT0.out.kept G.out)
          replace B := Lib.hid (B.out.kept hg)
          replace C := Lib.hid (gtr C.out hg)
          replace X := Lib.hid (X.out.keptN hg)
          replace N1 := Lib.hid (N1.out.kept hg (fun g e => by cases e))
          replace N2 := Lib.hid (N2.out.kept hg (fun g e => by cases e))
          replace N3 := Lib.hid (N3.out.kept hg (fun g e => by cases e))
          clear hg
          generalize (Vs).drew = V2 at *
          refine wpAnyH_take (i := 0) (oi := ⟨some 62, _, _, _, _, _⟩) (v := ?_) rfl (by kernel_rfl) (by kernel_rfl) (by kernel_rfl) (fun _ _ _ h => h) (Or.inl ⟨by rfl, ?_⟩) (by assumption) ?_
          rotate_left
          · intro w hSw; (try dsimp only at hSw); go_simp; try with_reducible rfl
          simp only [Act.put, List.setIfInBounds_toArray, List.set_cons_zero, List.set_cons_succ]
          refine wpAnyH_take (i := 2) (oi := ⟨some 64, _, _, _, _, _⟩) (v := ?_) rfl (by kernel_rfl) (by kernel_rfl) (by kernel_rfl) (fun _ _ _ h => h) (Or.inl ⟨by rfl, ?_⟩) (by assumption) ?_
          rotate_left
          · intro w hSw; (try dsimp only at hSw); go_simp; try with_reducible rfl
          simp only [Act.put, List.setIfInBounds_toArray, List.set_cons_zero, List.set_cons_succ]
          refine wpAnyH_take (i := 3) (oi := ⟨some 65, _, _, _, _, _⟩) (v := ?_) rfl (by kernel_rfl) (by kernel_rfl) (by kernel_rfl) (fun _ _ _ h => h) (Or.inl ⟨by rfl, ?_⟩) (by assumption) ?_
          rotate_left
          · intro w hSw; (try dsimp only at hSw); go_simp; try with_reducible rfl
          simp only [Act.put, List.setIfInBounds_toArray, List.set_cons_zero, List.set_cons_succ]
          refine wpAnyH_take (i := 4) (oi := ⟨some 66, _, _, _, _, _⟩) (v := ?_) rfl (by kernel_rfl) (by kernel_rfl) (by kernel_rfl) (fun _ _ _ h => h) (Or.inl ⟨by rfl, ?_⟩) (by assumption) ?_
          rotate_left
          · intro w hSw; (try dsimp only at hSw); go_simp; try with_reducible rfl
          simp only [Act.put, List.setIfInBounds_toArray, List.set_cons_zero, List.set_cons_succ]
          refine wpAnyH_take (i := 5) (oi := ⟨some 67, _, _, _, _, _⟩) (v := ?_) rfl (by kernel_rfl) (by kernel_rfl) (by kernel_rfl) (fun _ _ _ h => h) (Or.inl ⟨by rfl, ?_⟩) (by assumption) ?_
          rotate_left
          · intro w hSw; (try dsimp only at hSw); go_simp; try with_reducible rfl
          simp only [Act.put, List.setIfInBounds_toArray, List.set_cons_zero, List.set_cons_succ]
          refine wpAnyH_take (i := 6) (oi := ⟨some 68, _, _, _, _, _⟩) (v := ?_) rfl (by kernel_rfl) (by kernel_rfl) (by kernel_rfl) (fun _ _ _ h => h) (Or.inl ⟨by rfl, ?_⟩) (by assumption) ?_
          rotate_left
          · intro w hSw; (try dsimp only at hSw); go_simp; try with_reducible rfl
          simp only [Act.put, List.setIfInBounds_toArray, List.set_cons_zero, List.set_cons_succ]
          refine wpAnyH_take (i := 7) (oi := ⟨some 69, _, _, _, _, _⟩) (v := ?_) rfl (by kernel_rfl) (by kernel_rfl) (by kernel_rfl) (fun _ _ _ h => h) (Or.inl ⟨by rfl, ?_⟩) (by assumption) ?_
          rotate_left
          · intro w hSw; (try dsimp only at hSw); go_simp; try with_reducible rfl
          simp only [Act.put, List.setIfInBounds_toArray, List.set_cons_zero, List.set_cons_succ]
          refine wpAnyH_ready (rs := [1]) (by kernel_rfl) (by simp) ?_
          refine AllReadyH.cons (o := ⟨some 63, _, _, _, _, _⟩) rfl (fun Kq hKq => ?_) AllReadyH.nil
          go_simp
          go_at_call 14
          refine (isesBad _ need many _ ng _ zg _ nc _ zc msg _ n _ (putS S q (k : Int)) ad N1.out.ints N2.out.ints (sh_own N3.out) hl1 hl2 hl3 HN.out HT.out).mono ?_
          rintro e Vc ⟨vb, rfl, hL, hg⟩
          rw [tbF_yes HTP.out] at hL
          obtain ⟨ab, cb, rfl, hIb, _, _⟩ := hL.slice
          have IB := Lib.hid hIb
          clear hL hIb
          replace G := Lib.hid (gtr G.out hg)
          replace HN := Lib.hid (HN0.out.kept G.out)
          replace HT := Lib.hid (HT0.out.kept G.out)
          replace B := Lib.hid (B.out.kept hg)
          replace C := Lib.hid (gtr C.out hg)
          replace X := Lib.hid (X.out.keptN hg)
          replace N1 := Lib.hid (N1.out.kept hg (fun g e => by cases e))
          replace N2 := Lib.hid (N2.out.kept hg (fun g e => by cases e))
          replace N3 := Lib.hid (N3.out.kept hg (fun g e => by cases e))
          clear hg
          refine hKq.out _ _ (⟨⟨X.out.cell 0, X.out.cell 1, X.out.cell 2, X.out.cell 3, X.out.cell 4, X.out.cell 5⟩, B.out.c5, HO.out _ C.out⟩) (fun hHeld => ?_)
          clear hKq Kq
          refine wpAnyH_ready (rs := [8]) (by kernel_rfl) (by simp) ?_
          refine AllReadyH.cons (o := ⟨some 70, _, _, _, _, _⟩) rfl (fun Kq hKq => ?_) AllReadyH.nil
          go_simp
          go_at_call 22
          refine (lpinB _ ab _ cb _ (S q).m IB.out (by omega)).mono ?_
          rintro e Vd ⟨rfl, rfl⟩
          rw [HBH.out]
          refine hKq.out _ _ (⟨⟨X.out.cell 0, X.out.cell 1, X.out.cell 2, X.out.cell 3, X.out.cell 4, X.out.cell 5⟩, B.out.c5, HO.out _ C.out⟩) (fun hHeld => ?_)
          clear hKq Kq
          by_cases hkp : (k : Int) = p
          · rw [decide_eq_true hkp]
            have HKP := Lib.hid (cntP_at hkp)
            have hcb := cntP_b p k
            clear hkp
            refine wpAnyH_take (i := 9) (oi := ⟨some 71, _, _, _, _, _⟩) (v := ?_) rfl (by kernel_rfl) (by kernel_rfl) (by kernel_rfl) (fun _ _ _ h => h) (Or.inl ⟨by rfl, ?_⟩) (by assumption) ?_
            rotate_left
            · intro w hSw; (try dsimp only at hSw); go_simp; try with_reducible rfl
            simp only [Act.put, List.setIfInBounds_toArray, List.set_cons_zero, List.set_cons_succ]
            refine wpAnyH_done (by kernel_rfl) ?_ _
            go_wp2
            go_roundw
            case rel => exact ⟨k + 1, by omega, by go_num, by rw [HKP.out], C.out⟩
            case measure => simp [intOf]; omega
          · rw [decide_eq_false hkp]
            have HKP := Lib.hid (cntP_ne hkp)
            clear hkp
            refine wpAnyH_take (i := 9) (oi := ⟨some 71, _, _, _, _, _⟩) (v := ?_) rfl (by kernel_rfl) (by kernel_rfl) (by kernel_rfl) (fun _ _ _ h => h) (Or.inl ⟨by rfl, ?_⟩) (by assumption) ?_
            rotate_left
            · intro w hSw; (try dsimp only at hSw); go_simp; try with_reducible rfl
            simp only [Act.put, List.setIfInBounds_toArray, List.set_cons_zero, List.set_cons_succ]
            refine wpAnyH_done (by kernel_rfl) ?_ _
            go_wp2
            go_roundw
            case rel => exact ⟨k + 1, by omega, by go_num, by rw [HKP.out], C.out⟩
            case measure => simp [intOf]; omega
        · go_simp
          refine at_alloc ?_
          intro Va hg hT
          have hxb : bb < V7.heap.size := B.out.lt
          have hxw : w.heap.size ≤ V7.heap.size := G.out.size
          have hxz := C.out.size
          generalize V7.heap.size = xb at *
          have X := Lib.hid hT
          clear hT
          replace G := Lib.hid (gtr G.out hg)
          replace I1 := Lib.hid (I1.out.kept hg)
          replace I2 := Lib.hid (I2.out.kept hg)
          replace A3 := Lib.hid (A3.out.kept hg)
          replace HN := Lib.hid (HN0.out.kept G.out)
          replace HT := Lib.hid (HT0.out.kept G.out)
          replace B := Lib.hid (B.out.kept hg)
          replace C := Lib.hid (gtr C.out hg)
          clear hg
          refine hKq.out _ _ (⟨⟨B.out.c0, B.out.c1, B.out.c2, B.out.c3, B.out.c4, B.out.c5⟩, HO.out _ C.out⟩) (fun hHeld => ?_)
          clear hKq Kq
          refine wpAnyH_ready (rs := [8]) (by kernel_rfl) (by simp) ?_
          refine AllReadyH.cons (o := ⟨some 57, _, _, _, _, _⟩) rfl (fun Kq hKq => ?_) AllReadyH.nil
          go_simp
          go_at_call 28
          refine (i32put _ need many _ ng _ zg _ nc _ zc msg _ n _ S (S q).m (k : Int) I1.out I2.out A3.out (ints_sl I1.out) (ints_sl I2.out) (sh_sl A3.out) hl1 hl2 hl3).mono ?_
          rintro e V9 hsp
          obtain ⟨a1', c1', a2', c2', a3', c3', rfl, hi1, hi2, hO3, hap, hg⟩ := sesPQ_get HTS.out HFY.out hsp
          clear hsp hap
          rw [HPS.out] at hO3
          rw [HOK.out]
          have N1 := Lib.hid (hi1.lower (Nat.zero_le _)); have N2 := Lib.hid (hi2.lower (Nat.zero_le _)); have N3 := Lib.hid (hO3.lower (Nat.zero_le _))
          clear hi1 hi2 hO3
          clear I1 I2 A3
          replace G := Lib.hid (gtr G.out hg)
          replace HN := Lib.hid (HN0.out.kept G.out)
          replace HT := Lib.hid (HT0.out.kept G.out)
          replace B := Lib.hid (B.out.kept hg)
          replace C := Lib.hid (gtr C.out hg)
          replace X := Lib.hid (X.out.keptN hg)
          clear hg
          refine hKq.out _ _ (⟨⟨B.out.c0, B.out.c1, B.out.c2, B.out.c3, B.out.c4, B.out.c5⟩, HO.out _ C.out⟩) (fun hHeld => ?_)
          clear hKq Kq
          refine wpAnyH_take (i := 9) (oi := ⟨some 48, _, _, _, _, _⟩) (v := ?_) rfl (by kernel_rfl) (by kernel_rfl) (by kernel_rfl) (fun _ _ _ h => h) (Or.inl ⟨by rfl, ?_⟩) (by assumption) ?_
          rotate_left
          · intro w hSw; (try dsimp only at hSw); go_simp; try with_reducible rfl
          simp only [Act.put, List.setIfInBounds_toArray, List.set_cons_zero, List.set_cons_succ]
          refine wpAnyH_take (i := 10) (oi := ⟨some 58, _, _, _, _, _⟩) (v := ?_) rfl (by kernel_rfl) (by kernel_rfl) (by kernel_rfl) (fun _ _ _ h => h) (Or.inl ⟨by rfl, ?_⟩) (by assumption) ?_
          rotate_left
          · intro w hSw; (try dsimp only at hSw); go_simp; try with_reducible rfl
          simp only [Act.put, List.setIfInBounds_toArray, List.set_cons_zero, List.set_cons_succ]
          refine wpAnyH_take (i := 11) (oi := ⟨some 59, _, _, _, _, _⟩) (v := ?_) rfl (by kernel_rfl) (by kernel_rfl) (by kernel_rfl) (fun _ _ _ h => h) (Or.inl ⟨by rfl, ?_⟩) (by assumption) ?_
          rotate_left
          · intro w hSw; (try dsimp only at hSw); go_simp; try with_reducible rfl
          simp only [Act.put, List.setIfInBounds_toArray, List.set_cons_zero, List.set_cons_succ]
          refine wpAnyH_ready (rs := [13]) (by kernel_rfl) (by simp) ?_
          refine AllReadyH.cons (o := ⟨none, _, _, _, _, _⟩) rfl (fun Kq hKq => ?_) AllReadyH.nil
          rw [if_pos (by rfl)]
          refine wp_store_blk 30 (.tmp 10) (.tmp 58) xb _ _ 30 X.out rfl rfl rfl rfl (by kernel_rfl) (by simp [Value.oneCell']) rfl ?_
          intro Vs hg hT
          have N1' := N1.out.keptBlk X.out hg; have N2' := N2.out.keptBlk X.out hg; have N3' := N3.out.keptBlk X.out hg
          clear X N1 N2 N3
          have X := Lib.hid hT; have N1 := Lib.hid N1'; have N2 := Lib.hid N2'; have N3 := Lib.hid N3'
          clear hT N1' N2' N3'
          replace G := Lib.hid (grown_new G.out (by omega) hg)
          replace HN := Lib.hid (HN0.out.kept G.out)
          replace HT := Lib.hid (HT0.out.kept G.out)
          replace B := Lib.hid (B.out.keptB (hg.block _ B.out.lt (by intro e; have e := Option.some.inj e; omega)) hg.size)
          replace C := Lib.hid (grown_new C.out (by omega) hg)
          clear hg
          refine hKq.out _ _ (⟨⟨B.out.c0, B.out.c1, B.out.c2, B.out.c3, B.out.c4, B.out.c5⟩, HO.out _ C.out⟩) (fun hHeld => ?_)
          clear hKq Kq
          refine wpAnyH_take (i := 14) (oi := ⟨some 11, _, _, _, _, _⟩) (v := ?_) rfl (by kernel_rfl) (by kernel_rfl) (by kernel_rfl) (fun _ _ _ h => h) (Or.inl ⟨by rfl, ?_⟩) (by assumption) ?_
          rotate_left
          · intro w hSw; (try dsimp only at hSw); go_simp; try with_reducible rfl
          simp only [Act.put, List.setIfInBounds_toArray, List.set_cons_zero, List.set_cons_succ]
          refine wpAnyH_done (by kernel_rfl) ?_ _
          clear hHeld
          go_wp2_with fail
          refine wp_region_held_drew (S := (fun w' => (w'.cell? ⟨xb, 0, none⟩ = some (.int .i64 need) ∧ w'.cell? ⟨xb, 1, none⟩ = some (.int .i64 many) ∧ w'.cell? ⟨xb, 2, none⟩ = some (.slice a1' ng c1') ∧ w'.cell? ⟨xb, 3, none⟩ = some (.slice a2' nc c2') ∧ w'.cell? ⟨xb, 4, none⟩ = some (.int .i64 msg) ∧ w'.cell? ⟨xb, 5, none⟩ = some (.slice a3' n c3')) ∧ w'.cell? ⟨bb, 5, none⟩ = some (.slice (some ⟨b3, o3, none⟩) n c3) ∧ w'.cell? ⟨b3, o3 + q * 4, none⟩ = some (.int .i64 (S q).m))) (by kernel_rfl) (⟨⟨X.out.cell 0, X.out.cell 1, X.out.cell 2, X.out.cell 3, X.out.cell 4, X.out.cell 5⟩, B.out.c5, HO.out _ (gtr C.out (Draw.gdrew _))⟩) (fun hHeld => ?_)
          have hg := Draw.gdrew Vs
          replace G := Lib.hid (gtr G.out hg)
          replace HN := Lib.hid (HN0.out.kept G.out)
          replace HT := Lib.hid (HT0.out.kept G.out)
          replace B := Lib.hid (B.out.kept hg)
          replace C := Lib.hid (gtr C.out hg)
          replace X := Lib.hid (X.out.keptN hg)
          replace N1 := Lib.hid (N1.out.kept hg (fun g e => by cases e))
          replace N2 := Lib.hid (N2.out.kept hg (fun g e => by cases e))
          replace N3 := Lib.hid (N3.out.kept hg (fun g e => by cases e))
          clear hg
          generalize (Vs).drew = V2 at *
          refine wpAnyH_take (i := 0) (oi := ⟨some 62, _, _, _, _, _⟩) (v := ?_) rfl (by kernel_rfl) (by kernel_rfl) (by kernel_rfl) (fun _ _ _ h => h) (Or.inl ⟨by rfl, ?_⟩) (by assumption) ?_
          rotate_left
          · intro w hSw; (try dsimp only at hSw); go_simp; try with_reducible rfl
          simp only [Act.put, List.setIfInBounds_toArray, List.set_cons_zero, List.set_cons_succ]
          refine wpAnyH_take (i := 2) (oi := ⟨some 64, _, _, _, _, _⟩) (v := ?_) rfl (by kernel_rfl) (by kernel_rfl) (by kernel_rfl) (fun _ _ _ h => h) (Or.inl ⟨by rfl, ?_⟩) (by assumption) ?_
          rotate_left
          · intro w hSw; (try dsimp only at hSw); go_simp; try with_reducible rfl
          simp only [Act.put, List.setIfInBounds_toArray, List.set_cons_zero, List.set_cons_succ]
          refine wpAnyH_take (i := 3) (oi := ⟨some 65, _, _, _, _, _⟩) (v := ?_) rfl (by kernel_rfl) (by kernel_rfl) (by kernel_rfl) (fun _ _ _ h => h) (Or.inl ⟨by rfl, ?_⟩) (by assumption) ?_
          rotate_left
          · intro w hSw; (try dsimp only at hSw); go_simp; try with_reducible rfl
          simp only [Act.put, List.setIfInBounds_toArray, List.set_cons_zero, List.set_cons_succ]
          refine wpAnyH_take (i := 4) (oi := ⟨some 66, _, _, _, _, _⟩) (v := ?_) rfl (by kernel_rfl) (by kernel_rfl) (by kernel_rfl) (fun _ _ _ h => h) (Or.inl ⟨by rfl, ?_⟩) (by assumption) ?_
          rotate_left
          · intro w hSw; (try dsimp only at hSw); go_simp; try with_reducible rfl
          simp only [Act.put, List.setIfInBounds_toArray, List.set_cons_zero, List.set_cons_succ]
          refine wpAnyH_take (i := 5) (oi := ⟨some 67, _, _, _, _, _⟩) (v := ?_) rfl (by kernel_rfl) (by kernel_rfl) (by kernel_rfl) (fun _ _ _ h => h) (Or.inl ⟨by rfl, ?_⟩) (by assumption) ?_
          rotate_left
          · intro w hSw; (try dsimp only at hSw); go_simp; try with_reducible rfl
          simp only [Act.put, List.setIfInBounds_toArray, List.set_cons_zero, List.set_cons_succ]
          refine wpAnyH_take (i := 6) (oi := ⟨some 68, _, _, _, _, _⟩) (v := ?_) rfl (by kernel_rfl) (by kernel_rfl) (by kernel_rfl) (fun _ _ _ h => h) (Or.inl ⟨by rfl, ?_⟩) (by assumption) ?_
          rotate_left
          · intro w hSw; (try dsimp only at hSw); go_simp; try with_reducible rfl
          simp only [Act.put, List.setIfInBounds_toArray, List.set_cons_zero, List.set_cons_succ]
          refine wpAnyH_take (i := 7) (oi := ⟨some 69, _, _, _, _, _⟩) (v := ?_) rfl (by kernel_rfl) (by kernel_rfl) (by kernel_rfl) (fun _ _ _ h => h) (Or.inl ⟨by rfl, ?_⟩) (by assumption) ?_
          rotate_left
          · intro w hSw; (try dsimp only at hSw); go_simp; try with_reducible rfl
          simp only [Act.put, List.setIfInBounds_toArray, List.set_cons_zero, List.set_cons_succ]
          refine wpAnyH_ready (rs := [1]) (by kernel_rfl) (by simp) ?_
          refine AllReadyH.cons (o := ⟨some 63, _, _, _, _, _⟩) rfl (fun Kq hKq => ?_) AllReadyH.nil
          go_simp
          go_at_call 14
          refine (isesBad _ need many _ ng _ zg _ nc _ zc msg _ n _ (putS S q (k : Int)) ad N1.out.ints N2.out.ints (sh_own N3.out) hl1 hl2 hl3 HN.out HT.out).mono ?_
          rintro e Vc ⟨vb, rfl, hL, hg⟩
          rw [tbF_yes HTP.out] at hL
          obtain ⟨ab, cb, rfl, hIb, _, _⟩ := hL.slice
          have IB := Lib.hid hIb
          clear hL hIb
          replace G := Lib.hid (gtr G.out hg)
          replace HN := Lib.hid (HN0.out.kept G.out)
          replace HT := Lib.hid (HT0.out.kept G.out)
          replace B := Lib.hid (B.out.kept hg)
          replace C := Lib.hid (gtr C.out hg)
          replace X := Lib.hid (X.out.keptN hg)
          replace N1 := Lib.hid (N1.out.kept hg (fun g e => by cases e))
          replace N2 := Lib.hid (N2.out.kept hg (fun g e => by cases e))
          replace N3 := Lib.hid (N3.out.kept hg (fun g e => by cases e))
          clear hg
          refine hKq.out _ _ (⟨⟨X.out.cell 0, X.out.cell 1, X.out.cell 2, X.out.cell 3, X.out.cell 4, X.out.cell 5⟩, B.out.c5, HO.out _ C.out⟩) (fun hHeld => ?_)
          clear hKq Kq
          refine wpAnyH_ready (rs := [8]) (by kernel_rfl) (by simp) ?_
          refine AllReadyH.cons (o := ⟨some 70, _, _, _, _, _⟩) rfl (fun Kq hKq => ?_) AllReadyH.nil
          go_simp
          go_at_call 22
          refine (lpinB _ ab _ cb _ (S q).m IB.out (by omega)).mono ?_
          rintro e Vd ⟨rfl, rfl⟩
          rw [HBH.out]
          refine hKq.out _ _ (⟨⟨X.out.cell 0, X.out.cell 1, X.out.cell 2, X.out.cell 3, X.out.cell 4, X.out.cell 5⟩, B.out.c5, HO.out _ C.out⟩) (fun hHeld => ?_)
          clear hKq Kq
          by_cases hkp : (k : Int) = p
          · rw [decide_eq_true hkp]
            have HKP := Lib.hid (cntP_at hkp)
            have hcb := cntP_b p k
            clear hkp
            refine wpAnyH_take (i := 9) (oi := ⟨some 71, _, _, _, _, _⟩) (v := ?_) rfl (by kernel_rfl) (by kernel_rfl) (by kernel_rfl) (fun _ _ _ h => h) (Or.inl ⟨by rfl, ?_⟩) (by assumption) ?_
            rotate_left
            · intro w hSw; (try dsimp only at hSw); go_simp; try with_reducible rfl
            simp only [Act.put, List.setIfInBounds_toArray, List.set_cons_zero, List.set_cons_succ]
            refine wpAnyH_done (by kernel_rfl) ?_ _
            go_wp2
            go_roundw
            case rel => exact ⟨k + 1, by omega, by go_num, by rw [HKP.out], C.out⟩
            case measure => simp [intOf]; omega
          · rw [decide_eq_false hkp]
            have HKP := Lib.hid (cntP_ne hkp)
            clear hkp
            refine wpAnyH_take (i := 9) (oi := ⟨some 71, _, _, _, _, _⟩) (v := ?_) rfl (by kernel_rfl) (by kernel_rfl) (by kernel_rfl) (fun _ _ _ h => h) (Or.inl ⟨by rfl, ?_⟩) (by assumption) ?_
            rotate_left
            · intro w hSw; (try dsimp only at hSw); go_simp; try with_reducible rfl
            simp only [Act.put, List.setIfInBounds_toArray, List.set_cons_zero, List.set_cons_succ]
            refine wpAnyH_done (by kernel_rfl) ?_ _
            go_wp2
            go_roundw
            case rel => exact ⟨k + 1, by omega, by go_num, by rw [HKP.out], C.out⟩
            case measure => simp [intOf]; omega
      · obtain rfl : k = 23 := by omega
        have hc1 : cntP p 23 = 1 := by unfold cntP; rw [if_pos (by omega)]
        rw [hc1]
        go_wp2
        go_ret
        exact ⟨rfl, Draw.below_of G.out⟩
end Run
end Go.Proofs.YteibklnonlapoaaGreatDoor
