/-
  The walks of the laws on letters: done one behind the other.
-/
import Derived.Test.YteibklnonlapoaaRunBd
namespace Go.Proofs.Yteibklnonlapoaa
namespace Run
open Go.RowKit Alg Mem Con Draw Bk
set_option linter.unusedVariables false

def cutR (Q : BS) : BS := Bk.T (Bk.T (Bk.K (Bk.F Q)))
theorem all_cut (st : ByteArray) : bkAll (st ++ ⟨#[102, 107, 116, 116]⟩) = cutR (bkAll st) := by
  rw [bkAll_app]
  show List.foldl stp (bkAll st) [102, 107, 116, 116] = _
  simp only [List.foldl_cons, List.foldl_nil]
  rw [stp_t (by decide), stp_t (by decide), stp_k (by decide), stp_f (by decide)]
  rfl
theorem t_out (b : BS) : (Bk.T b).out = b.out ∨ (Bk.T b).out = b.out ++ [b.n] := by unfold Bk.T; split <;> simp
theorem cut_same {Q : BS} (h : Q.s = 60) : (cutR Q).out = Q.out := by
  have e : kS Q.s Q.s = 60 := by unfold kS; rw [h]; decide
  unfold cutR Bk.F Bk.K
  simp only
  rw [e, h]
  have e2 : Bk.T ⟨60, 60, Q.out⟩ = ⟨60, 60, Q.out⟩ := by unfold Bk.T; simp
  rw [e2, e2]
theorem cut_more {Q : BS} (h : Ok Q.n Q.s) (h6 : Q.s < 60) : ∃ r, (cutR Q).out = Q.out ++ (Q.s :: r) := by
  unfold Ok at h
  have e : Q.s < kS Q.s Q.s := by unfold kS; rw [if_neg (by omega)]; split <;> omega
  have e1 : Bk.T (Bk.K (Bk.F Q)) = ⟨Q.s + 1, kS Q.s Q.s, Q.out ++ [Q.s]⟩ := by
    unfold Bk.F Bk.K Bk.T
    simp only
    rw [if_pos e]
  unfold cutR
  rw [e1]
  rcases t_out ⟨Q.s + 1, kS Q.s Q.s, Q.out ++ [Q.s]⟩ with h1 | h1
  · exact ⟨[], by rw [h1]⟩
  · exact ⟨[Q.s + 1], by rw [h1]; simp⟩
theorem li_pre {l r : List Int} {j : Nat} (h : j < l.length) : li (l ++ r) j = li l j := by simp [li, List.getElem?_append_left h]
theorem li_at (l r : List Int) (x : Int) : li (l ++ (x :: r)) l.length = x := by simp [li]
set_option maxRecDepth 100000 in
set_option maxHeartbeats 4000000 in
theorem FnBookCut (a : Option Addr) (len cap : Nat) (w : World) (hB : Draw.Bytes w w.heap.size a len) (hc : len ≤ cap) (hm : cap ≤ maxLen) :
    Calls Try.prog 7 #[.slice a len cap] w (Yes w) := by
  by_cases hbig : 1048576 < len
  · have hbig' : (1048576 : Int) < (len : Int) := by omega
    clear hB
    go_enter Try.func7, Try.ntmps7
    go_wp2
    go_ret
    exact ⟨rfl, Below.refl _ _⟩
  have hbig' : ¬ (1048576 : Int) < (len : Int) := by omega
  go_enter Try.func7, Try.ntmps7
  go_wp2_with fail
  refine (drawBkP _ a len cap hB hc hm).mono ?_
  rintro e w1 ⟨st, rfl, hst, hg⟩
  have G := Lib.hid hg
  clear hg hB
  by_cases h6 : 60 < st.size
  · have H6 := Lib.hid h6; clear h6
    go_wp2_with fail
    refine (sbplay_long _ st H6.out).mono ?_
    rintro e w2 ⟨v, rfl, hL, hg⟩
    obtain ⟨av, cv, rfl, hI, _, _⟩ := hL.slice
    have I := Lib.hid hI
    clear hI hL
    replace G := Lib.hid (gtr G.out hg)
    clear hg
    go_wp2_with (refine stop_store rfl ?_)
    refine ⟨trivial, ?_⟩
    refine wpList_store_blk rfl 24 (.tmp 5) (.tmp 22) _ _ _ 24 (Blk.new w2 #[.int .i64 0, .int .i64 0] 24) rfl rfl rfl rfl (by kernel_rfl) (by simp [Value.oneCell']) rfl ?_
    intro w3 hgV hT
    have hg : (w2).grownBy w3 none := grown_new (Draw.grown_alloc w2 (.cells #[.int .i64 0, .int .i64 0] 24) none) (Nat.le_refl _) hgV
    have M := Lib.hid (Bv.of hT)
    clear hgV hT
    replace G := Lib.hid (gtr G.out hg)
    replace I := Lib.hid (I.out.kept hg)
    clear hg
    generalize (w2).heap.size = mb at *
    go_wp2_with fail
    refine (ibplay_long _ st H6.out).mono ?_
    rintro e w4 ⟨rfl, hg⟩
    replace G := Lib.hid (gtr G.out hg)
    replace I := Lib.hid (I.out.kept hg)
    replace M := Lib.hid (M.out.kept hg)
    clear hg
    go_wp2_with (refine stop_store rfl ?_)
    refine ⟨trivial, ?_⟩
    refine wpList_store_blk rfl 24 (.tmp 8) (.tmp 28) _ _ _ 24 (Blk.new w4 #[.int .i64 0, .int .i64 0] 24) rfl rfl rfl rfl (by kernel_rfl) (by simp [Value.oneCell']) rfl ?_
    intro w5 hgV hT
    have hg : (w4).grownBy w5 none := grown_new (Draw.grown_alloc w4 (.cells #[.int .i64 0, .int .i64 0] 24) none) (Nat.le_refl _) hgV
    have X := Lib.hid (Bv.of hT)
    clear hgV hT
    replace G := Lib.hid (gtr G.out hg)
    replace I := Lib.hid (I.out.kept hg)
    replace M := Lib.hid (M.out.kept hg)
    clear hg
    generalize (w4).heap.size = xb at *
    obtain ⟨_, x0, x1⟩ := X.out
    obtain ⟨_, m0, m1⟩ := M.out
    go_wp2_with fail
    clear x0 x1
    clear m0 m1
    refine (lpints _ none av 0 0 cv (li []) (.inl rfl) I.out (by omega)).mono ?_
    rintro e w6 ⟨rfl, hg⟩
    replace G := Lib.hid (gtr G.out hg)
    replace I := Lib.hid (I.out.kept hg)
    replace M := Lib.hid (M.out.kept hg)
    replace X := Lib.hid (X.out.kept hg)
    clear hg
    obtain ⟨_, x0, x1⟩ := X.out
    obtain ⟨_, m0, m1⟩ := M.out
    go_wp2_with fail
    clear x0 x1
    clear m0 m1
    refine (lpints _ none av 0 0 cv (li []) (.inl rfl) I.out (by omega)).mono ?_
    rintro e w7 ⟨rfl, hg⟩
    replace G := Lib.hid (gtr G.out hg)
    replace I := Lib.hid (I.out.kept hg)
    replace M := Lib.hid (M.out.kept hg)
    replace X := Lib.hid (X.out.kept hg)
    clear hg
    obtain ⟨_, x0, x1⟩ := X.out
    obtain ⟨_, m0, m1⟩ := M.out
    go_wp2
    go_ret
    exact ⟨Mem.ret_b (by simp), Draw.below_of G.out⟩
  have H6 := Lib.hid (show st.size ≤ 60 by omega); clear h6
  have h60 := H6.out
  have hlen := len_all st
  have HQ := Lib.hid (good_all st)
  go_wp2_with fail
  refine (sbplay _ st H6.out).mono ?_
  rintro e w2 ⟨v, rfl, hL, hg⟩
  obtain ⟨av, cv, rfl, hI, _, _⟩ := hL.slice
  have I := Lib.hid hI
  clear hI hL
  replace G := Lib.hid (gtr G.out hg)
  clear hg
  go_wp2_with (refine stop_store rfl ?_)
  refine ⟨trivial, ?_⟩
  refine wpList_store_blk rfl 24 (.tmp 5) (.tmp 22) _ _ _ 24 (Blk.new w2 #[.int .i64 0, .int .i64 0] 24) rfl rfl rfl rfl (by kernel_rfl) (by simp [Value.oneCell']) rfl ?_
  intro w3 hgV hT
  have hg : (w2).grownBy w3 none := grown_new (Draw.grown_alloc w2 (.cells #[.int .i64 0, .int .i64 0] 24) none) (Nat.le_refl _) hgV
  have M := Lib.hid (Bv.of hT)
  clear hgV hT
  replace G := Lib.hid (gtr G.out hg)
  replace I := Lib.hid (I.out.kept hg)
  clear hg
  generalize (w2).heap.size = mb at *
  go_wp2_with fail
  refine (ibplay _ st H6.out).mono ?_
  rintro e w4 ⟨u, rfl, hL, hg⟩
  obtain ⟨au, cu, rfl, hI, hcu, hmu⟩ := hL.slice
  have J := Lib.hid hI
  clear hI hL
  replace G := Lib.hid (gtr G.out hg)
  replace I := Lib.hid (I.out.kept hg)
  replace M := Lib.hid (M.out.kept hg)
  clear hg
  go_wp2_with (refine stop_store rfl ?_)
  refine ⟨trivial, ?_⟩
  refine wpList_store_blk rfl 24 (.tmp 8) (.tmp 28) _ _ _ 24 (Blk.new w4 #[.int .i64 0, .int .i64 0] 24) rfl rfl rfl rfl (by kernel_rfl) (by simp [Value.oneCell']) rfl ?_
  intro w5 hgV hT
  have hg : (w4).grownBy w5 none := grown_new (Draw.grown_alloc w4 (.cells #[.int .i64 0, .int .i64 0] 24) none) (Nat.le_refl _) hgV
  have X := Lib.hid (Bv.of hT)
  clear hgV hT
  replace G := Lib.hid (gtr G.out hg)
  replace I := Lib.hid (I.out.kept hg)
  replace M := Lib.hid (M.out.kept hg)
  replace J := Lib.hid (J.out.kept hg)
  clear hg
  generalize (w4).heap.size = xb at *
  obtain ⟨_, x0, x1⟩ := X.out
  obtain ⟨_, m0, m1⟩ := M.out
  go_wp2_with fail
  clear x0 x1
  clear m0 m1
  refine (lpints _ au av _ cu cv (li (bkAll st).out) J.out I.out (by omega)).mono ?_
  rintro e w6 ⟨rfl, hg⟩
  replace G := Lib.hid (gtr G.out hg)
  replace I := Lib.hid (I.out.kept hg)
  replace M := Lib.hid (M.out.kept hg)
  replace J := Lib.hid (J.out.kept hg)
  replace X := Lib.hid (X.out.kept hg)
  clear hg
  by_cases h5 : 50 < st.size
  · have h5' : (50 : Int) < (st.size : Int) := by omega
    obtain ⟨_, x0, x1⟩ := X.out
    obtain ⟨_, m0, m1⟩ := M.out
    go_wp2_with fail
    clear x0 x1
    clear m0 m1
    refine (lpints _ au av _ cu cv (li (bkAll st).out) J.out I.out (by omega)).mono ?_
    rintro e w8 ⟨rfl, hg⟩
    replace G := Lib.hid (gtr G.out hg)
    replace I := Lib.hid (I.out.kept hg)
    replace M := Lib.hid (M.out.kept hg)
    replace J := Lib.hid (J.out.kept hg)
    replace X := Lib.hid (X.out.kept hg)
    clear hg
    obtain ⟨_, x0, x1⟩ := X.out
    obtain ⟨_, m0, m1⟩ := M.out
    go_wp2
    go_ret
    exact ⟨Mem.ret_b (by simp), Draw.below_of G.out⟩
  have h5' : ¬ (50 : Int) < (st.size : Int) := by omega
  have hq : ¬ 9223372036854775807 < st.size + 4 := by omega
  have hu : (st ++ (⟨#[102, 107, 116, 116]⟩ : ByteArray)).size ≤ 60 := by rw [ByteArray.size_append]; show st.size + 4 ≤ 60; omega
  have hrl := len_all (st ++ (⟨#[102, 107, 116, 116]⟩ : ByteArray))
  have HU := Lib.hid hu
  have HR := Lib.hid (good_all (st ++ (⟨#[102, 107, 116, 116]⟩ : ByteArray)))
  have HE := Lib.hid (all_cut st)
  have hrl' : (bkAll (st ++ (⟨#[102, 107, 116, 116]⟩ : ByteArray))).out.length ≤ 60 := by omega
  clear hrl hu
  obtain ⟨_, x0, x1⟩ := X.out
  obtain ⟨_, m0, m1⟩ := M.out
  go_wp2_with fail
  clear x0 x1
  clear m0 m1
  clear M
  refine (ibplay _ (st ++ (⟨#[102, 107, 116, 116]⟩ : ByteArray)) HU.out).mono ?_
  rintro e w8 ⟨vm, rfl, hL, hg⟩
  replace G := Lib.hid (gtr G.out hg)
  replace I := Lib.hid (I.out.kept hg)
  replace J := Lib.hid (J.out.kept hg)
  replace X := Lib.hid (X.out.kept hg)
  clear hg
  generalize bkAll (st ++ (⟨#[102, 107, 116, 116]⟩ : ByteArray)) = R at *
  generalize bkAll st = Q at *
  have hos := HQ.out.ok
  unfold Ok at hos
  by_cases hs : Q.s < 60
  · obtain ⟨r, hr⟩ := cut_more HQ.out.ok hs
    rw [← HE.out] at hr
    have hlt : Q.out.length < R.out.length := by rw [hr]; simp
    have hat : li R.out Q.out.length = Q.s := by rw [hr]; exact li_at _ _ _
    have hpre : ∀ j, j < Q.out.length → li R.out j = li Q.out j := fun j hj => by rw [hr]; exact li_pre hj
    rcases hL with ⟨rfl, hl⟩ | ⟨bm, cm, rfl, hrw⟩
    · rw [hl] at hlt; simp at hlt
    have HLT := Lib.hid hlt; have HAT := Lib.hid hat; have HPRE := Lib.hid hpre; clear hlt hos hat hpre hr
    have HSS := Lib.hid hs; clear hs
    have hcm := hrw.le
    have hmm := hrw.most
    have K := Lib.hid hrw.ints
    clear hrw
    go_wp2_with (refine stop_store rfl ?_)
    refine ⟨trivial, ?_⟩
    refine wpList_store_blk rfl 24 (.tmp 11) (.tmp 71) _ _ _ 24 (Blk.new w8 #[.int .i64 0, .int .i64 0] 24) rfl rfl rfl rfl (by kernel_rfl) (by simp [Value.oneCell']) rfl ?_
    intro w9 hgV hT
    have hg : (w8).grownBy w9 none := grown_new (Draw.grown_alloc w8 (.cells #[.int .i64 0, .int .i64 0] 24) none) (Nat.le_refl _) hgV
    have Y := Lib.hid (Bv.of hT)
    clear hgV hT
    replace G := Lib.hid (gtr G.out hg)
    replace I := Lib.hid (I.out.kept hg)
    replace J := Lib.hid (J.out.kept hg)
    replace X := Lib.hid (X.out.kept hg)
    replace K := Lib.hid (K.out.kept hg)
    clear hg
    generalize (w8).heap.size = yb at *
    go_wp2_with fail
    have hs := HSS.out; have hlt := HLT.out; have hat := HAT.out; have hpre := HPRE.out
    have K2 := Lib.hid ((K.out.less (k := Q.out.length) (by omega)).congr hpre)
    have hce := ints_cell K.out hlt
    rw [Nat.zero_add, hat] at hce
    have HC := Lib.hid hce
    clear hpre hat hce
    have d6 : decide ((Q.out.length : Int) ≤ (R.out.length : Int)) = true := decide_eq_true (by omega)
    have d21 : ((R.out.length : Int) == (Q.out.length : Int)) = false := by simp; omega
    have hqc : Q.out.length ≤ cm := by omega
    have d6' : decide (Q.out.length ≤ R.out.length) = true := decide_eq_true (by omega)
    have d21' : (R.out.length == Q.out.length) = false := by simp; omega
    have hbm := hlt
    have d30 : decide (Q.s ≤ Q.s) = true := by simp
    have HB := Lib.hid (show bm < w9.heap.size from (by obtain ⟨b', o', e', hb', _⟩ := K.out.ptr (by omega); injection e' with e'; injection e' with e1 _; omega))
    refine wp_region_held_drew (S := (fun w' => w'.cell? ⟨xb, 1, none⟩ = some (.int .i64 Q.s) ∧ w'.cell? ⟨yb, 0, none⟩ = some (.int .i64 R.n) ∧ w'.cell? ⟨yb, 1, none⟩ = some (.int .i64 R.s) ∧ w'.cell? ⟨bm, Q.out.length, none⟩ = some (.int .i64 Q.s))) (by kernel_rfl) (⟨X.out.c1, Y.out.c0, Y.out.c1, HC.out⟩) (fun hHeld => ?_)
    have hg := Draw.gdrew w9
    replace HC := Lib.hid ((World.cell?_of_block (w := w9) (hg.block _ HB.out (by simp))).trans HC.out)
    replace HB := Lib.hid (Nat.lt_of_lt_of_le HB.out hg.size)
    replace G := Lib.hid (gtr G.out hg)
    replace I := Lib.hid (I.out.kept hg)
    replace J := Lib.hid (J.out.kept hg)
    replace X := Lib.hid (X.out.kept hg)
    replace K := Lib.hid (K.out.kept hg)
    replace Y := Lib.hid (Y.out.kept hg)
    replace K2 := Lib.hid (K2.out.kept hg)
    clear hg
    generalize w9.drew = v1 at *
    refine wpAnyH_take (i := 0) (oi := ⟨some 73, _, _, _, _, _⟩) (v := ?_) rfl (by kernel_rfl) (by kernel_rfl) (by kernel_rfl) (fun _ _ _ h => h) (Or.inl ⟨by rfl, ?_⟩) (by assumption) ?_
    rotate_left
    · intro w hSw; (try dsimp only at hSw); go_simp; try with_reducible rfl
    simp only [Act.put, List.setIfInBounds_toArray, List.set_cons_zero, List.set_cons_succ]
    refine wpAnyH_take (i := 1) (oi := ⟨some 74, _, _, _, _, _⟩) (v := ?_) rfl (by kernel_rfl) (by kernel_rfl) (by kernel_rfl) (fun _ _ _ h => h) (Or.inl ⟨by rfl, ?_⟩) (by assumption) ?_
    rotate_left
    · intro w hSw; (try dsimp only at hSw); go_simp; try with_reducible rfl
    simp only [Act.put, List.setIfInBounds_toArray, List.set_cons_zero, List.set_cons_succ]
    refine wpAnyH_take (i := 2) (oi := ⟨some 75, _, _, _, _, _⟩) (v := ?_) rfl (by kernel_rfl) (by kernel_rfl) (by kernel_rfl) (fun _ _ _ h => h) (Or.inl ⟨by rfl, ?_⟩) (by assumption) ?_
    rotate_left
    · intro w hSw; (try dsimp only at hSw); go_simp; try with_reducible rfl
    simp only [Act.put, List.setIfInBounds_toArray, List.set_cons_zero, List.set_cons_succ]
    refine wpAnyH_take (i := 3) (oi := ⟨some 76, _, _, _, _, _⟩) (v := ?_) rfl (by kernel_rfl) (by kernel_rfl) (by kernel_rfl) (fun _ _ _ h => h) (Or.inl ⟨by rfl, ?_⟩) (by assumption) ?_
    rotate_left
    · intro w hSw; (try dsimp only at hSw); go_simp; try with_reducible rfl
    simp only [Act.put, List.setIfInBounds_toArray, List.set_cons_zero, List.set_cons_succ]
    refine wpAnyH_take (i := 4) (oi := ⟨some 77, _, _, _, _, _⟩) (v := ?_) rfl (by kernel_rfl) (by kernel_rfl) (by kernel_rfl) (fun _ _ _ h => h) (Or.inl ⟨by rfl, ?_⟩) (by assumption) ?_
    rotate_left
    · intro w hSw; (try dsimp only at hSw); go_simp; try with_reducible rfl
    simp only [Act.put, List.setIfInBounds_toArray, List.set_cons_zero, List.set_cons_succ]
    refine wpAnyH_take (i := 5) (oi := ⟨some 78, _, _, _, _, _⟩) (v := ?_) rfl (by kernel_rfl) (by kernel_rfl) (by kernel_rfl) (fun _ _ _ h => h) (Or.inl ⟨by rfl, ?_⟩) (by assumption) ?_
    rotate_left
    · intro w hSw; (try dsimp only at hSw); go_simp; try with_reducible rfl
    simp only [Act.put, List.setIfInBounds_toArray, List.set_cons_zero, List.set_cons_succ]
    refine wpAnyH_take (i := 6) (oi := ⟨some 79, _, _, _, _, _⟩) (v := ?_) rfl (by kernel_rfl) (by kernel_rfl) (by kernel_rfl) (fun _ _ _ h => h) (Or.inl ⟨by rfl, ?_⟩) (by assumption) ?_
    rotate_left
    · intro w hSw; (try dsimp only at hSw); go_simp; try with_reducible rfl
    simp only [Act.put, List.setIfInBounds_toArray, List.set_cons_zero, List.set_cons_succ]
    refine wpAnyH_take (i := 7) (oi := ⟨some 80, _, _, _, _, _⟩) (v := ?_) rfl (by kernel_rfl) (by kernel_rfl) (by kernel_rfl) (fun _ _ _ h => h) (Or.inl ⟨by rfl, ?_⟩) (by assumption) ?_
    rotate_left
    · intro w hSw; (try dsimp only at hSw); go_simp; try with_reducible rfl
    simp only [Act.put, List.setIfInBounds_toArray, List.set_cons_zero, List.set_cons_succ]
    refine wpAnyH_take (i := 8) (oi := ⟨some 81, _, _, _, _, _⟩) (v := ?_) rfl (by kernel_rfl) (by kernel_rfl) (by kernel_rfl) (fun _ _ _ h => h) (Or.inl ⟨by rfl, ?_⟩) (by assumption) ?_
    rotate_left
    · intro w hSw; (try dsimp only at hSw); go_simp; try with_reducible rfl
    simp only [Act.put, List.setIfInBounds_toArray, List.set_cons_zero, List.set_cons_succ]
    refine wpAnyH_take (i := 9) (oi := ⟨some 82, _, _, _, _, _⟩) (v := ?_) rfl (by kernel_rfl) (by kernel_rfl) (by kernel_rfl) (fun _ _ _ h => h) (Or.inl ⟨by rfl, ?_⟩) (by assumption) ?_
    rotate_left
    · intro w hSw; (try dsimp only at hSw); go_simp; try with_reducible rfl
    simp only [Act.put, List.setIfInBounds_toArray, List.set_cons_zero, List.set_cons_succ]
    refine wpAnyH_take (i := 10) (oi := ⟨some 83, _, _, _, _, _⟩) (v := ?_) rfl (by kernel_rfl) (by kernel_rfl) (by kernel_rfl) (fun _ _ _ h => h) (Or.inl ⟨by rfl, ?_⟩) (by assumption) ?_
    rotate_left
    · intro w hSw; (try dsimp only at hSw); go_simp; try with_reducible rfl
    simp only [Act.put, List.setIfInBounds_toArray, List.set_cons_zero, List.set_cons_succ]
    refine wpAnyH_take (i := 11) (oi := ⟨some 84, _, _, _, _, _⟩) (v := ?_) rfl (by kernel_rfl) (by kernel_rfl) (by kernel_rfl) (fun _ _ _ h => h) (Or.inl ⟨by rfl, ?_⟩) (by assumption) ?_
    rotate_left
    · intro w hSw; (try dsimp only at hSw); go_simp; try with_reducible rfl
    simp only [Act.put, List.setIfInBounds_toArray, List.set_cons_zero, List.set_cons_succ]
    refine wpAnyH_take (i := 12) (oi := ⟨some 85, _, _, _, _, _⟩) (v := ?_) rfl (by kernel_rfl) (by kernel_rfl) (by kernel_rfl) (fun _ _ _ h => h) (Or.inl ⟨by rfl, ?_⟩) (by assumption) ?_
    rotate_left
    · intro w hSw; (try dsimp only at hSw); go_simp; try with_reducible rfl
    simp only [Act.put, List.setIfInBounds_toArray, List.set_cons_zero, List.set_cons_succ]
    refine wpAnyH_take (i := 13) (oi := ⟨some 86, _, _, _, _, _⟩) (v := ?_) rfl (by kernel_rfl) (by kernel_rfl) (by kernel_rfl) (fun _ _ _ h => h) (Or.inl ⟨by rfl, ?_⟩) (by assumption) ?_
    rotate_left
    · intro w hSw; (try dsimp only at hSw); go_simp; try with_reducible rfl
    simp only [Act.put, List.setIfInBounds_toArray, List.set_cons_zero, List.set_cons_succ]
    refine wpAnyH_ready (rs := [14]) (by kernel_rfl) (by simp) ?_
    refine AllReadyH.cons (o := ⟨some 87, _, _, _, _, _⟩) rfl (fun Kq hKq => ?_) AllReadyH.nil
    go_simp
    go_at_call 34
    refine (lpints _ _ au _ _ cu (li Q.out) K2.out J.out (by omega)).mono ?_
    rintro e v2 ⟨rfl, hg⟩
    replace HC := Lib.hid ((World.cell?_of_block (w := v1) (hg.block _ HB.out (by simp))).trans HC.out)
    replace HB := Lib.hid (Nat.lt_of_lt_of_le HB.out hg.size)
    replace G := Lib.hid (gtr G.out hg)
    replace I := Lib.hid (I.out.kept hg)
    replace J := Lib.hid (J.out.kept hg)
    replace X := Lib.hid (X.out.kept hg)
    replace K := Lib.hid (K.out.kept hg)
    replace Y := Lib.hid (Y.out.kept hg)
    replace K2 := Lib.hid (K2.out.kept hg)
    clear hg
    refine hKq.out _ _ (⟨X.out.c1, Y.out.c0, Y.out.c1, HC.out⟩) (fun hHeld => ?_)
    clear hKq Kq
    refine wpAnyH_take (i := 15) (oi := ⟨some 88, _, _, _, _, _⟩) (v := ?_) rfl (by kernel_rfl) (by kernel_rfl) (by kernel_rfl) (fun _ _ _ h => h) (Or.inl ⟨by rfl, ?_⟩) (by assumption) ?_
    rotate_left
    · intro w hSw; (try dsimp only at hSw); go_simp; try with_reducible rfl
    simp only [Act.put, List.setIfInBounds_toArray, List.set_cons_zero, List.set_cons_succ]
    refine wpAnyH_take (i := 16) (oi := ⟨some 89, _, _, _, _, _⟩) (v := ?_) rfl (by kernel_rfl) (by kernel_rfl) (by kernel_rfl) (fun _ _ _ h => h) (Or.inl ⟨by rfl, ?_⟩) (by assumption) ?_
    rotate_left
    · intro w hSw; (try dsimp only at hSw); go_simp; try with_reducible rfl
    simp only [Act.put, List.setIfInBounds_toArray, List.set_cons_zero, List.set_cons_succ]
    refine wpAnyH_take (i := 17) (oi := ⟨some 90, _, _, _, _, _⟩) (v := ?_) rfl (by kernel_rfl) (by kernel_rfl) (by kernel_rfl) (fun _ _ _ h => h) (Or.inl ⟨by rfl, ?_⟩) (by assumption) ?_
    rotate_left
    · intro w hSw; (try dsimp only at hSw); go_simp; try with_reducible rfl
    simp only [Act.put, List.setIfInBounds_toArray, List.set_cons_zero, List.set_cons_succ]
    refine wpAnyH_take (i := 18) (oi := ⟨some 91, _, _, _, _, _⟩) (v := ?_) rfl (by kernel_rfl) (by kernel_rfl) (by kernel_rfl) (fun _ _ _ h => h) (Or.inl ⟨by rfl, ?_⟩) (by assumption) ?_
    rotate_left
    · intro w hSw; (try dsimp only at hSw); go_simp; try with_reducible rfl
    simp only [Act.put, List.setIfInBounds_toArray, List.set_cons_zero, List.set_cons_succ]
    refine wpAnyH_take (i := 19) (oi := ⟨some 92, _, _, _, _, _⟩) (v := ?_) rfl (by kernel_rfl) (by kernel_rfl) (by kernel_rfl) (fun _ _ _ h => h) (Or.inl ⟨by rfl, ?_⟩) (by assumption) ?_
    rotate_left
    · intro w hSw; (try dsimp only at hSw); go_simp; try with_reducible rfl
    simp only [Act.put, List.setIfInBounds_toArray, List.set_cons_zero, List.set_cons_succ]
    refine wpAnyH_take (i := 20) (oi := ⟨some 93, _, _, _, _, _⟩) (v := ?_) rfl (by kernel_rfl) (by kernel_rfl) (by kernel_rfl) (fun _ _ _ h => h) (Or.inl ⟨by rfl, ?_⟩) (by assumption) ?_
    rotate_left
    · intro w hSw; (try dsimp only at hSw); go_simp; try with_reducible rfl
    simp only [Act.put, List.setIfInBounds_toArray, List.set_cons_zero, List.set_cons_succ]
    refine wpAnyH_take (i := 21) (oi := ⟨some 94, _, _, _, _, _⟩) (v := ?_) rfl (by kernel_rfl) (by kernel_rfl) (by kernel_rfl) (fun _ _ _ h => h) (Or.inl ⟨by rfl, ?_⟩) (by assumption) ?_
    rotate_left
    · intro w hSw; (try dsimp only at hSw); go_simp; try with_reducible rfl
    simp only [Act.put, List.setIfInBounds_toArray, List.set_cons_zero, List.set_cons_succ]
    refine wpAnyH_take (i := 22) (oi := ⟨some 95, _, _, _, _, _⟩) (v := ?_) rfl (by kernel_rfl) (by kernel_rfl) (by kernel_rfl) (fun _ _ _ h => h) (Or.inl ⟨by rfl, ?_⟩) (by assumption) ?_
    rotate_left
    · intro w hSw; (try dsimp only at hSw); go_simp; try with_reducible rfl
    simp only [Act.put, List.setIfInBounds_toArray, List.set_cons_zero, List.set_cons_succ]
    refine wpAnyH_take (i := 23) (oi := ⟨some 96, _, _, _, _, _⟩) (v := ?_) rfl (by kernel_rfl) (by kernel_rfl) (by kernel_rfl) (fun _ _ _ h => h) (Or.inl ⟨by rfl, ?_⟩) (by assumption) ?_
    rotate_left
    · intro w hSw; (try dsimp only at hSw); go_simp; try with_reducible rfl
    simp only [Act.put, List.setIfInBounds_toArray, List.set_cons_zero, List.set_cons_succ]
    refine wpAnyH_take (i := 24) (oi := ⟨some 97, _, _, _, _, _⟩) (v := ?_) rfl (by kernel_rfl) (by kernel_rfl) (by kernel_rfl) (fun _ _ _ h => h) (Or.inl ⟨by rfl, ?_⟩) (by assumption) ?_
    rotate_left
    · intro w hSw; (try dsimp only at hSw); go_simp; try with_reducible rfl
    simp only [Act.put, List.setIfInBounds_toArray, List.set_cons_zero, List.set_cons_succ]
    refine wpAnyH_take (i := 25) (oi := ⟨some 98, _, _, _, _, _⟩) (v := ?_) rfl (by kernel_rfl) (by kernel_rfl) (by kernel_rfl) (fun _ _ _ h => h) (Or.inl ⟨by rfl, ?_⟩) (by assumption) ?_
    rotate_left
    · intro w hSw; (try dsimp only at hSw); go_simp; try with_reducible rfl
    simp only [Act.put, List.setIfInBounds_toArray, List.set_cons_zero, List.set_cons_succ]
    refine wpAnyH_take (i := 26) (oi := ⟨some 99, _, _, _, _, _⟩) (v := ?_) rfl (by kernel_rfl) (by kernel_rfl) (by kernel_rfl) (fun _ _ _ h => h) (Or.inl ⟨by rfl, ?_⟩) (by assumption) ?_
    rotate_left
    · intro w hSw; (try dsimp only at hSw); go_simp; try with_reducible rfl
    simp only [Act.put, List.setIfInBounds_toArray, List.set_cons_zero, List.set_cons_succ]
    refine wpAnyH_take (i := 27) (oi := ⟨some 100, _, _, _, _, _⟩) (v := ?_) rfl (by kernel_rfl) (by kernel_rfl) (by kernel_rfl) (fun _ _ _ h => h) (Or.inl ⟨by rfl, ?_⟩) (by assumption) ?_
    rotate_left
    · intro w hSw; (try dsimp only at hSw); go_simp; try with_reducible rfl
    simp only [Act.put, List.setIfInBounds_toArray, List.set_cons_zero, List.set_cons_succ]
    refine wpAnyH_take (i := 28) (oi := ⟨some 101, _, _, _, _, _⟩) (v := ?_) rfl (by kernel_rfl) (by kernel_rfl) (by kernel_rfl) (fun _ _ _ h => h) (Or.inl ⟨by rfl, ?_⟩) (by assumption) ?_
    rotate_left
    · intro w hSw; (try dsimp only at hSw); go_simp; try with_reducible rfl
    simp only [Act.put, List.setIfInBounds_toArray, List.set_cons_zero, List.set_cons_succ]
    refine wpAnyH_take (i := 29) (oi := ⟨some 102, _, _, _, _, _⟩) (v := ?_) rfl (by kernel_rfl) (by kernel_rfl) (by kernel_rfl) (fun _ _ _ h => h) (Or.inl ⟨by rfl, ?_⟩) (by assumption) ?_
    rotate_left
    · intro w hSw; (try dsimp only at hSw); go_simp; try with_reducible rfl
    simp only [Act.put, List.setIfInBounds_toArray, List.set_cons_zero, List.set_cons_succ]
    refine wpAnyH_take (i := 30) (oi := ⟨some 103, _, _, _, _, _⟩) (v := ?_) rfl (by kernel_rfl) (by kernel_rfl) (by kernel_rfl) (fun _ _ _ h => h) (Or.inl ⟨by rfl, ?_⟩) (by assumption) ?_
    rotate_left
    · intro w hSw; (try dsimp only at hSw); go_simp; try with_reducible rfl
    simp only [Act.put, List.setIfInBounds_toArray, List.set_cons_zero, List.set_cons_succ]
    refine wpAnyH_take (i := 31) (oi := ⟨some 104, _, _, _, _, _⟩) (v := ?_) rfl (by kernel_rfl) (by kernel_rfl) (by kernel_rfl) (fun _ _ _ h => h) (Or.inl ⟨by rfl, ?_⟩) (by assumption) ?_
    rotate_left
    · intro w hSw; (try dsimp only at hSw); go_simp; try with_reducible rfl
    simp only [Act.put, List.setIfInBounds_toArray, List.set_cons_zero, List.set_cons_succ]
    refine wpAnyH_take (i := 32) (oi := ⟨some 105, _, _, _, _, _⟩) (v := ?_) rfl (by kernel_rfl) (by kernel_rfl) (by kernel_rfl) (fun _ _ _ h => h) (Or.inl ⟨by rfl, ?_⟩) (by assumption) ?_
    rotate_left
    · intro w hSw; (try dsimp only at hSw); go_simp; try with_reducible rfl
    simp only [Act.put, List.setIfInBounds_toArray, List.set_cons_zero, List.set_cons_succ]
    refine wpAnyH_take (i := 33) (oi := ⟨some 106, _, _, _, _, _⟩) (v := ?_) rfl (by kernel_rfl) (by kernel_rfl) (by kernel_rfl) (fun _ _ _ h => h) (Or.inl ⟨by rfl, ?_⟩) (by assumption) ?_
    rotate_left
    · intro w hSw; (try dsimp only at hSw); go_simp; try with_reducible rfl
    simp only [Act.put, List.setIfInBounds_toArray, List.set_cons_zero, List.set_cons_succ]
    refine wpAnyH_take (i := 34) (oi := ⟨some 107, _, _, _, _, _⟩) (v := ?_) rfl (by kernel_rfl) (by kernel_rfl) (by kernel_rfl) (fun _ _ _ h => h) (Or.inl ⟨by rfl, ?_⟩) (by assumption) ?_
    rotate_left
    · intro w hSw; (try dsimp only at hSw); go_simp; try with_reducible rfl
    simp only [Act.put, List.setIfInBounds_toArray, List.set_cons_zero, List.set_cons_succ]
    refine wpAnyH_ready (rs := [35]) (by kernel_rfl) (by simp) ?_
    refine AllReadyH.cons (o := ⟨some 108, _, _, _, _, _⟩) rfl (fun Kq hKq => ?_) AllReadyH.nil
    go_simp
    go_at_call 24
    refine (ibok _ R.n R.s).mono ?_
    rintro e v3 ⟨rfl, hg⟩
    rw [bkB_t HR.out.ok]
    replace HC := Lib.hid ((World.cell?_of_block (w := v2) (hg.block _ HB.out (by simp))).trans HC.out)
    replace HB := Lib.hid (Nat.lt_of_lt_of_le HB.out hg.size)
    replace G := Lib.hid (gtr G.out hg)
    replace I := Lib.hid (I.out.kept hg)
    replace J := Lib.hid (J.out.kept hg)
    replace X := Lib.hid (X.out.kept hg)
    replace K := Lib.hid (K.out.kept hg)
    replace Y := Lib.hid (Y.out.kept hg)
    replace K2 := Lib.hid (K2.out.kept hg)
    clear hg
    refine hKq.out _ _ (⟨X.out.c1, Y.out.c0, Y.out.c1, HC.out⟩) (fun hHeld => ?_)
    clear hKq Kq
    refine wpAnyH_take (i := 36) (oi := ⟨some 109, _, _, _, _, _⟩) (v := ?_) rfl (by kernel_rfl) (by kernel_rfl) (by kernel_rfl) (fun _ _ _ h => h) (Or.inl ⟨by rfl, ?_⟩) (by assumption) ?_
    rotate_left
    · intro w hSw; (try dsimp only at hSw); go_simp; try with_reducible rfl
    simp only [Act.put, List.setIfInBounds_toArray, List.set_cons_zero, List.set_cons_succ]
    refine wpAnyH_take (i := 37) (oi := ⟨some 2, _, _, _, _, _⟩) (v := ?_) rfl (by kernel_rfl) (by kernel_rfl) (by kernel_rfl) (fun _ _ _ h => h) (Or.inl ⟨by rfl, ?_⟩) (by assumption) ?_
    rotate_left
    · intro w hSw; (try dsimp only at hSw); go_simp; try with_reducible rfl
    simp only [Act.put, List.setIfInBounds_toArray, List.set_cons_zero, List.set_cons_succ]
    refine wpAnyH_done (by kernel_rfl) ?_ _
    go_wp2
    go_ret
    exact ⟨Mem.ret_b (by simp), Draw.below_of G.out⟩
  have hr := cut_same (Q := Q) (by omega)
  rw [← HE.out] at hr
  have hrl : R.out.length = Q.out.length := by rw [hr]
  rcases hL with ⟨rfl, hl⟩ | ⟨bm, cm, rfl, hrw⟩
  · have hq0 : Q.out.length = 0 := by rw [← hr, hl]; rfl
    clear hr hrl hrl' hl hlen
    generalize Q.out.length = q at *
    subst hq0
    go_wp2_with (refine stop_store rfl ?_)
    refine ⟨trivial, ?_⟩
    refine wpList_store_blk rfl 24 (.tmp 11) (.tmp 71) _ _ _ 24 (Blk.new w8 #[.int .i64 0, .int .i64 0] 24) rfl rfl rfl rfl (by kernel_rfl) (by simp [Value.oneCell']) rfl ?_
    intro w9 hgV hT
    have hg : (w8).grownBy w9 none := grown_new (Draw.grown_alloc w8 (.cells #[.int .i64 0, .int .i64 0] 24) none) (Nat.le_refl _) hgV
    have Y := Lib.hid (Bv.of hT)
    clear hgV hT
    replace G := Lib.hid (gtr G.out hg)
    replace I := Lib.hid (I.out.kept hg)
    replace J := Lib.hid (J.out.kept hg)
    replace X := Lib.hid (X.out.kept hg)
    clear hg
    generalize (w8).heap.size = yb at *
    go_wp2_with fail
    refine wp_region_held_drew (S := (fun w' => w'.cell? ⟨xb, 1, none⟩ = some (.int .i64 Q.s) ∧ w'.cell? ⟨yb, 0, none⟩ = some (.int .i64 R.n) ∧ w'.cell? ⟨yb, 1, none⟩ = some (.int .i64 R.s))) (by kernel_rfl) (⟨X.out.c1, Y.out.c0, Y.out.c1⟩) (fun hHeld => ?_)
    have hg := Draw.gdrew w9
    replace G := Lib.hid (gtr G.out hg)
    replace I := Lib.hid (I.out.kept hg)
    replace J := Lib.hid (J.out.kept hg)
    replace X := Lib.hid (X.out.kept hg)
    replace Y := Lib.hid (Y.out.kept hg)
    clear hg
    generalize w9.drew = v1 at *
    refine wpAnyH_take (i := 0) (oi := ⟨some 73, _, _, _, _, _⟩) (v := ?_) rfl (by kernel_rfl) (by kernel_rfl) (by kernel_rfl) (fun _ _ _ h => h) (Or.inl ⟨by rfl, ?_⟩) (by assumption) ?_
    rotate_left
    · intro w hSw; (try dsimp only at hSw); go_simp; try with_reducible rfl
    simp only [Act.put, List.setIfInBounds_toArray, List.set_cons_zero, List.set_cons_succ]
    refine wpAnyH_take (i := 1) (oi := ⟨some 74, _, _, _, _, _⟩) (v := ?_) rfl (by kernel_rfl) (by kernel_rfl) (by kernel_rfl) (fun _ _ _ h => h) (Or.inl ⟨by rfl, ?_⟩) (by assumption) ?_
    rotate_left
    · intro w hSw; (try dsimp only at hSw); go_simp; try with_reducible rfl
    simp only [Act.put, List.setIfInBounds_toArray, List.set_cons_zero, List.set_cons_succ]
    refine wpAnyH_take (i := 2) (oi := ⟨some 75, _, _, _, _, _⟩) (v := ?_) rfl (by kernel_rfl) (by kernel_rfl) (by kernel_rfl) (fun _ _ _ h => h) (Or.inl ⟨by rfl, ?_⟩) (by assumption) ?_
    rotate_left
    · intro w hSw; (try dsimp only at hSw); go_simp; try with_reducible rfl
    simp only [Act.put, List.setIfInBounds_toArray, List.set_cons_zero, List.set_cons_succ]
    refine wpAnyH_take (i := 3) (oi := ⟨some 76, _, _, _, _, _⟩) (v := ?_) rfl (by kernel_rfl) (by kernel_rfl) (by kernel_rfl) (fun _ _ _ h => h) (Or.inl ⟨by rfl, ?_⟩) (by assumption) ?_
    rotate_left
    · intro w hSw; (try dsimp only at hSw); go_simp; try with_reducible rfl
    simp only [Act.put, List.setIfInBounds_toArray, List.set_cons_zero, List.set_cons_succ]
    refine wpAnyH_take (i := 4) (oi := ⟨some 77, _, _, _, _, _⟩) (v := ?_) rfl (by kernel_rfl) (by kernel_rfl) (by kernel_rfl) (fun _ _ _ h => h) (Or.inl ⟨by rfl, ?_⟩) (by assumption) ?_
    rotate_left
    · intro w hSw; (try dsimp only at hSw); go_simp; try with_reducible rfl
    simp only [Act.put, List.setIfInBounds_toArray, List.set_cons_zero, List.set_cons_succ]
    refine wpAnyH_take (i := 5) (oi := ⟨some 78, _, _, _, _, _⟩) (v := ?_) rfl (by kernel_rfl) (by kernel_rfl) (by kernel_rfl) (fun _ _ _ h => h) (Or.inl ⟨by rfl, ?_⟩) (by assumption) ?_
    rotate_left
    · intro w hSw; (try dsimp only at hSw); go_simp; try with_reducible rfl
    simp only [Act.put, List.setIfInBounds_toArray, List.set_cons_zero, List.set_cons_succ]
    refine wpAnyH_take (i := 6) (oi := ⟨some 79, _, _, _, _, _⟩) (v := ?_) rfl (by kernel_rfl) (by kernel_rfl) (by kernel_rfl) (fun _ _ _ h => h) (Or.inl ⟨by rfl, ?_⟩) (by assumption) ?_
    rotate_left
    · intro w hSw; (try dsimp only at hSw); go_simp; try with_reducible rfl
    simp only [Act.put, List.setIfInBounds_toArray, List.set_cons_zero, List.set_cons_succ]
    refine wpAnyH_take (i := 7) (oi := ⟨some 80, _, _, _, _, _⟩) (v := ?_) rfl (by kernel_rfl) (by kernel_rfl) (by kernel_rfl) (fun _ _ _ h => h) (Or.inl ⟨by rfl, ?_⟩) (by assumption) ?_
    rotate_left
    · intro w hSw; (try dsimp only at hSw); go_simp; try with_reducible rfl
    simp only [Act.put, List.setIfInBounds_toArray, List.set_cons_zero, List.set_cons_succ]
    refine wpAnyH_take (i := 8) (oi := ⟨some 81, _, _, _, _, _⟩) (v := ?_) rfl (by kernel_rfl) (by kernel_rfl) (by kernel_rfl) (fun _ _ _ h => h) (Or.inl ⟨by rfl, ?_⟩) (by assumption) ?_
    rotate_left
    · intro w hSw; (try dsimp only at hSw); go_simp; try with_reducible rfl
    simp only [Act.put, List.setIfInBounds_toArray, List.set_cons_zero, List.set_cons_succ]
    refine wpAnyH_take (i := 9) (oi := ⟨some 82, _, _, _, _, _⟩) (v := ?_) rfl (by kernel_rfl) (by kernel_rfl) (by kernel_rfl) (fun _ _ _ h => h) (Or.inl ⟨by rfl, ?_⟩) (by assumption) ?_
    rotate_left
    · intro w hSw; (try dsimp only at hSw); go_simp; try with_reducible rfl
    simp only [Act.put, List.setIfInBounds_toArray, List.set_cons_zero, List.set_cons_succ]
    refine wpAnyH_take (i := 10) (oi := ⟨some 83, _, _, _, _, _⟩) (v := ?_) rfl (by kernel_rfl) (by kernel_rfl) (by kernel_rfl) (fun _ _ _ h => h) (Or.inl ⟨by rfl, ?_⟩) (by assumption) ?_
    rotate_left
    · intro w hSw; (try dsimp only at hSw); go_simp; try with_reducible rfl
    simp only [Act.put, List.setIfInBounds_toArray, List.set_cons_zero, List.set_cons_succ]
    refine wpAnyH_take (i := 11) (oi := ⟨some 84, _, _, _, _, _⟩) (v := ?_) rfl (by kernel_rfl) (by kernel_rfl) (by kernel_rfl) (fun _ _ _ h => h) (Or.inl ⟨by rfl, ?_⟩) (by assumption) ?_
    rotate_left
    · intro w hSw; (try dsimp only at hSw); go_simp; try with_reducible rfl
    simp only [Act.put, List.setIfInBounds_toArray, List.set_cons_zero, List.set_cons_succ]
    refine wpAnyH_take (i := 12) (oi := ⟨some 85, _, _, _, _, _⟩) (v := ?_) rfl (by kernel_rfl) (by kernel_rfl) (by kernel_rfl) (fun _ _ _ h => h) (Or.inl ⟨by rfl, ?_⟩) (by assumption) ?_
    rotate_left
    · intro w hSw; (try dsimp only at hSw); go_simp; try with_reducible rfl
    simp only [Act.put, List.setIfInBounds_toArray, List.set_cons_zero, List.set_cons_succ]
    refine wpAnyH_take (i := 13) (oi := ⟨some 86, _, _, _, _, _⟩) (v := ?_) rfl (by kernel_rfl) (by kernel_rfl) (by kernel_rfl) (fun _ _ _ h => h) (Or.inl ⟨by rfl, ?_⟩) (by assumption) ?_
    rotate_left
    · intro w hSw; (try dsimp only at hSw); go_simp; try with_reducible rfl
    simp only [Act.put, List.setIfInBounds_toArray, List.set_cons_zero, List.set_cons_succ]
    refine wpAnyH_ready (rs := [14]) (by kernel_rfl) (by simp) ?_
    refine AllReadyH.cons (o := ⟨some 87, _, _, _, _, _⟩) rfl (fun Kq hKq => ?_) AllReadyH.nil
    go_simp
    go_at_call 34
    refine (lpints _ none au 0 0 cu (li Q.out) (.inl rfl) J.out (by omega)).mono ?_
    rintro e v2 ⟨rfl, hg⟩
    replace G := Lib.hid (gtr G.out hg)
    replace I := Lib.hid (I.out.kept hg)
    replace J := Lib.hid (J.out.kept hg)
    replace X := Lib.hid (X.out.kept hg)
    replace Y := Lib.hid (Y.out.kept hg)
    clear hg
    refine hKq.out _ _ (⟨X.out.c1, Y.out.c0, Y.out.c1⟩) (fun hHeld => ?_)
    clear hKq Kq
    refine wpAnyH_take (i := 15) (oi := ⟨some 88, _, _, _, _, _⟩) (v := ?_) rfl (by kernel_rfl) (by kernel_rfl) (by kernel_rfl) (fun _ _ _ h => h) (Or.inl ⟨by rfl, ?_⟩) (by assumption) ?_
    rotate_left
    · intro w hSw; (try dsimp only at hSw); go_simp; try with_reducible rfl
    simp only [Act.put, List.setIfInBounds_toArray, List.set_cons_zero, List.set_cons_succ]
    refine wpAnyH_take (i := 16) (oi := ⟨some 89, _, _, _, _, _⟩) (v := ?_) rfl (by kernel_rfl) (by kernel_rfl) (by kernel_rfl) (fun _ _ _ h => h) (Or.inl ⟨by rfl, ?_⟩) (by assumption) ?_
    rotate_left
    · intro w hSw; (try dsimp only at hSw); go_simp; try with_reducible rfl
    simp only [Act.put, List.setIfInBounds_toArray, List.set_cons_zero, List.set_cons_succ]
    refine wpAnyH_take (i := 17) (oi := ⟨some 90, _, _, _, _, _⟩) (v := ?_) rfl (by kernel_rfl) (by kernel_rfl) (by kernel_rfl) (fun _ _ _ h => h) (Or.inl ⟨by rfl, ?_⟩) (by assumption) ?_
    rotate_left
    · intro w hSw; (try dsimp only at hSw); go_simp; try with_reducible rfl
    simp only [Act.put, List.setIfInBounds_toArray, List.set_cons_zero, List.set_cons_succ]
    refine wpAnyH_take (i := 18) (oi := ⟨some 91, _, _, _, _, _⟩) (v := ?_) rfl (by kernel_rfl) (by kernel_rfl) (by kernel_rfl) (fun _ _ _ h => h) (Or.inl ⟨by rfl, ?_⟩) (by assumption) ?_
    rotate_left
    · intro w hSw; (try dsimp only at hSw); go_simp; try with_reducible rfl
    simp only [Act.put, List.setIfInBounds_toArray, List.set_cons_zero, List.set_cons_succ]
    refine wpAnyH_take (i := 19) (oi := ⟨some 92, _, _, _, _, _⟩) (v := ?_) rfl (by kernel_rfl) (by kernel_rfl) (by kernel_rfl) (fun _ _ _ h => h) (Or.inl ⟨by rfl, ?_⟩) (by assumption) ?_
    rotate_left
    · intro w hSw; (try dsimp only at hSw); go_simp; try with_reducible rfl
    simp only [Act.put, List.setIfInBounds_toArray, List.set_cons_zero, List.set_cons_succ]
    refine wpAnyH_take (i := 20) (oi := ⟨some 93, _, _, _, _, _⟩) (v := ?_) rfl (by kernel_rfl) (by kernel_rfl) (by kernel_rfl) (fun _ _ _ h => h) (Or.inl ⟨by rfl, ?_⟩) (by assumption) ?_
    rotate_left
    · intro w hSw; (try dsimp only at hSw); go_simp; try with_reducible rfl
    simp only [Act.put, List.setIfInBounds_toArray, List.set_cons_zero, List.set_cons_succ]
    refine wpAnyH_take (i := 21) (oi := ⟨some 94, _, _, _, _, _⟩) (v := ?_) rfl (by kernel_rfl) (by kernel_rfl) (by kernel_rfl) (fun _ _ _ h => h) (Or.inl ⟨by rfl, ?_⟩) (by assumption) ?_
    rotate_left
    · intro w hSw; (try dsimp only at hSw); go_simp; try with_reducible rfl
    simp only [Act.put, List.setIfInBounds_toArray, List.set_cons_zero, List.set_cons_succ]
    refine wpAnyH_take (i := 22) (oi := ⟨some 95, _, _, _, _, _⟩) (v := ?_) rfl (by kernel_rfl) (by kernel_rfl) (by kernel_rfl) (fun _ _ _ h => h) (Or.inl ⟨by rfl, ?_⟩) (by assumption) ?_
    rotate_left
    · intro w hSw; (try dsimp only at hSw); go_simp; try with_reducible rfl
    simp only [Act.put, List.setIfInBounds_toArray, List.set_cons_zero, List.set_cons_succ]
    refine wpAnyH_take (i := 23) (oi := ⟨some 96, _, _, _, _, _⟩) (v := undef) rfl (by kernel_rfl) (by kernel_rfl) (by kernel_rfl) (fun _ _ _ h => h) (Or.inr ⟨by rfl, rfl⟩) (by assumption) ?_
    simp only [Act.put, List.setIfInBounds_toArray, List.set_cons_zero, List.set_cons_succ]
    refine wpAnyH_take (i := 24) (oi := ⟨some 97, _, _, _, _, _⟩) (v := undef) rfl (by kernel_rfl) (by kernel_rfl) (by kernel_rfl) (fun _ _ _ h => h) (Or.inr ⟨by rfl, rfl⟩) (by assumption) ?_
    simp only [Act.put, List.setIfInBounds_toArray, List.set_cons_zero, List.set_cons_succ]
    refine wpAnyH_take (i := 25) (oi := ⟨some 98, _, _, _, _, _⟩) (v := undef) rfl (by kernel_rfl) (by kernel_rfl) (by kernel_rfl) (fun _ _ _ h => h) (Or.inr ⟨by rfl, rfl⟩) (by assumption) ?_
    simp only [Act.put, List.setIfInBounds_toArray, List.set_cons_zero, List.set_cons_succ]
    refine wpAnyH_take (i := 26) (oi := ⟨some 99, _, _, _, _, _⟩) (v := undef) rfl (by kernel_rfl) (by kernel_rfl) (by kernel_rfl) (fun _ _ _ h => h) (Or.inr ⟨by rfl, rfl⟩) (by assumption) ?_
    simp only [Act.put, List.setIfInBounds_toArray, List.set_cons_zero, List.set_cons_succ]
    refine wpAnyH_take (i := 27) (oi := ⟨some 100, _, _, _, _, _⟩) (v := undef) rfl (by kernel_rfl) (by kernel_rfl) (by kernel_rfl) (fun _ _ _ h => h) (Or.inr ⟨by rfl, rfl⟩) (by assumption) ?_
    simp only [Act.put, List.setIfInBounds_toArray, List.set_cons_zero, List.set_cons_succ]
    refine wpAnyH_take (i := 28) (oi := ⟨some 101, _, _, _, _, _⟩) (v := undef) rfl (by kernel_rfl) (by kernel_rfl) (by kernel_rfl) (fun _ _ _ h => h) (Or.inr ⟨by rfl, rfl⟩) (by assumption) ?_
    simp only [Act.put, List.setIfInBounds_toArray, List.set_cons_zero, List.set_cons_succ]
    refine wpAnyH_take (i := 29) (oi := ⟨some 102, _, _, _, _, _⟩) (v := undef) rfl (by kernel_rfl) (by kernel_rfl) (by kernel_rfl) (fun _ _ _ h => h) (Or.inr ⟨by rfl, rfl⟩) (by assumption) ?_
    simp only [Act.put, List.setIfInBounds_toArray, List.set_cons_zero, List.set_cons_succ]
    refine wpAnyH_take (i := 30) (oi := ⟨some 103, _, _, _, _, _⟩) (v := undef) rfl (by kernel_rfl) (by kernel_rfl) (by kernel_rfl) (fun _ _ _ h => h) (Or.inr ⟨by rfl, rfl⟩) (by assumption) ?_
    simp only [Act.put, List.setIfInBounds_toArray, List.set_cons_zero, List.set_cons_succ]
    refine wpAnyH_take (i := 31) (oi := ⟨some 104, _, _, _, _, _⟩) (v := ?_) rfl (by kernel_rfl) (by kernel_rfl) (by kernel_rfl) (fun _ _ _ h => h) (Or.inl ⟨by rfl, ?_⟩) (by assumption) ?_
    rotate_left
    · intro w hSw; (try dsimp only at hSw); go_simp; try with_reducible rfl
    simp only [Act.put, List.setIfInBounds_toArray, List.set_cons_zero, List.set_cons_succ]
    refine wpAnyH_take (i := 32) (oi := ⟨some 105, _, _, _, _, _⟩) (v := ?_) rfl (by kernel_rfl) (by kernel_rfl) (by kernel_rfl) (fun _ _ _ h => h) (Or.inl ⟨by rfl, ?_⟩) (by assumption) ?_
    rotate_left
    · intro w hSw; (try dsimp only at hSw); go_simp; try with_reducible rfl
    simp only [Act.put, List.setIfInBounds_toArray, List.set_cons_zero, List.set_cons_succ]
    refine wpAnyH_take (i := 33) (oi := ⟨some 106, _, _, _, _, _⟩) (v := ?_) rfl (by kernel_rfl) (by kernel_rfl) (by kernel_rfl) (fun _ _ _ h => h) (Or.inl ⟨by rfl, ?_⟩) (by assumption) ?_
    rotate_left
    · intro w hSw; (try dsimp only at hSw); go_simp; try with_reducible rfl
    simp only [Act.put, List.setIfInBounds_toArray, List.set_cons_zero, List.set_cons_succ]
    refine wpAnyH_take (i := 34) (oi := ⟨some 107, _, _, _, _, _⟩) (v := ?_) rfl (by kernel_rfl) (by kernel_rfl) (by kernel_rfl) (fun _ _ _ h => h) (Or.inl ⟨by rfl, ?_⟩) (by assumption) ?_
    rotate_left
    · intro w hSw; (try dsimp only at hSw); go_simp; try with_reducible rfl
    simp only [Act.put, List.setIfInBounds_toArray, List.set_cons_zero, List.set_cons_succ]
    refine wpAnyH_ready (rs := [35]) (by kernel_rfl) (by simp) ?_
    refine AllReadyH.cons (o := ⟨some 108, _, _, _, _, _⟩) rfl (fun Kq hKq => ?_) AllReadyH.nil
    go_simp
    go_at_call 24
    refine (ibok _ R.n R.s).mono ?_
    rintro e v3 ⟨rfl, hg⟩
    rw [bkB_t HR.out.ok]
    replace G := Lib.hid (gtr G.out hg)
    replace I := Lib.hid (I.out.kept hg)
    replace J := Lib.hid (J.out.kept hg)
    replace X := Lib.hid (X.out.kept hg)
    replace Y := Lib.hid (Y.out.kept hg)
    clear hg
    refine hKq.out _ _ (⟨X.out.c1, Y.out.c0, Y.out.c1⟩) (fun hHeld => ?_)
    clear hKq Kq
    refine wpAnyH_take (i := 36) (oi := ⟨some 109, _, _, _, _, _⟩) (v := ?_) rfl (by kernel_rfl) (by kernel_rfl) (by kernel_rfl) (fun _ _ _ h => h) (Or.inl ⟨by rfl, ?_⟩) (by assumption) ?_
    rotate_left
    · intro w hSw; (try dsimp only at hSw); go_simp; try with_reducible rfl
    simp only [Act.put, List.setIfInBounds_toArray, List.set_cons_zero, List.set_cons_succ]
    refine wpAnyH_take (i := 37) (oi := ⟨some 2, _, _, _, _, _⟩) (v := ?_) rfl (by kernel_rfl) (by kernel_rfl) (by kernel_rfl) (fun _ _ _ h => h) (Or.inl ⟨by rfl, ?_⟩) (by assumption) ?_
    rotate_left
    · intro w hSw; (try dsimp only at hSw); go_simp; try with_reducible rfl
    simp only [Act.put, List.setIfInBounds_toArray, List.set_cons_zero, List.set_cons_succ]
    refine wpAnyH_done (by kernel_rfl) ?_ _
    go_wp2
    go_ret
    exact ⟨Mem.ret_b (by simp), Draw.below_of G.out⟩
  · have hcm := hrw.le
    have hmm := hrw.most
    have hII := hrw.ints
    rw [hr] at hII hcm
    have K := Lib.hid hII
    clear hrw hII hr
    rw [hrl]
    clear hrl hrl'
    go_wp2_with (refine stop_store rfl ?_)
    refine ⟨trivial, ?_⟩
    refine wpList_store_blk rfl 24 (.tmp 11) (.tmp 71) _ _ _ 24 (Blk.new w8 #[.int .i64 0, .int .i64 0] 24) rfl rfl rfl rfl (by kernel_rfl) (by simp [Value.oneCell']) rfl ?_
    intro w9 hgV hT
    have hg : (w8).grownBy w9 none := grown_new (Draw.grown_alloc w8 (.cells #[.int .i64 0, .int .i64 0] 24) none) (Nat.le_refl _) hgV
    have Y := Lib.hid (Bv.of hT)
    clear hgV hT
    replace G := Lib.hid (gtr G.out hg)
    replace I := Lib.hid (I.out.kept hg)
    replace J := Lib.hid (J.out.kept hg)
    replace X := Lib.hid (X.out.kept hg)
    replace K := Lib.hid (K.out.kept hg)
    clear hg
    generalize (w8).heap.size = yb at *
    go_wp2_with fail
    have d6' : decide (Q.out.length ≤ Q.out.length) = true := decide_eq_true (by omega)
    have d21' : (Q.out.length == Q.out.length) = true := by simp
    refine wp_region_held_drew (S := (fun w' => w'.cell? ⟨xb, 1, none⟩ = some (.int .i64 Q.s) ∧ w'.cell? ⟨yb, 0, none⟩ = some (.int .i64 R.n) ∧ w'.cell? ⟨yb, 1, none⟩ = some (.int .i64 R.s))) (by kernel_rfl) (⟨X.out.c1, Y.out.c0, Y.out.c1⟩) (fun hHeld => ?_)
    have hg := Draw.gdrew w9
    replace G := Lib.hid (gtr G.out hg)
    replace I := Lib.hid (I.out.kept hg)
    replace J := Lib.hid (J.out.kept hg)
    replace X := Lib.hid (X.out.kept hg)
    replace K := Lib.hid (K.out.kept hg)
    replace Y := Lib.hid (Y.out.kept hg)
    clear hg
    generalize w9.drew = v1 at *
    refine wpAnyH_take (i := 0) (oi := ⟨some 73, _, _, _, _, _⟩) (v := ?_) rfl (by kernel_rfl) (by kernel_rfl) (by kernel_rfl) (fun _ _ _ h => h) (Or.inl ⟨by rfl, ?_⟩) (by assumption) ?_
    rotate_left
    · intro w hSw; (try dsimp only at hSw); go_simp; try with_reducible rfl
    simp only [Act.put, List.setIfInBounds_toArray, List.set_cons_zero, List.set_cons_succ]
    refine wpAnyH_take (i := 1) (oi := ⟨some 74, _, _, _, _, _⟩) (v := ?_) rfl (by kernel_rfl) (by kernel_rfl) (by kernel_rfl) (fun _ _ _ h => h) (Or.inl ⟨by rfl, ?_⟩) (by assumption) ?_
    rotate_left
    · intro w hSw; (try dsimp only at hSw); go_simp; try with_reducible rfl
    simp only [Act.put, List.setIfInBounds_toArray, List.set_cons_zero, List.set_cons_succ]
    refine wpAnyH_take (i := 2) (oi := ⟨some 75, _, _, _, _, _⟩) (v := ?_) rfl (by kernel_rfl) (by kernel_rfl) (by kernel_rfl) (fun _ _ _ h => h) (Or.inl ⟨by rfl, ?_⟩) (by assumption) ?_
    rotate_left
    · intro w hSw; (try dsimp only at hSw); go_simp; try with_reducible rfl
    simp only [Act.put, List.setIfInBounds_toArray, List.set_cons_zero, List.set_cons_succ]
    refine wpAnyH_take (i := 3) (oi := ⟨some 76, _, _, _, _, _⟩) (v := ?_) rfl (by kernel_rfl) (by kernel_rfl) (by kernel_rfl) (fun _ _ _ h => h) (Or.inl ⟨by rfl, ?_⟩) (by assumption) ?_
    rotate_left
    · intro w hSw; (try dsimp only at hSw); go_simp; try with_reducible rfl
    simp only [Act.put, List.setIfInBounds_toArray, List.set_cons_zero, List.set_cons_succ]
    refine wpAnyH_take (i := 4) (oi := ⟨some 77, _, _, _, _, _⟩) (v := ?_) rfl (by kernel_rfl) (by kernel_rfl) (by kernel_rfl) (fun _ _ _ h => h) (Or.inl ⟨by rfl, ?_⟩) (by assumption) ?_
    rotate_left
    · intro w hSw; (try dsimp only at hSw); go_simp; try with_reducible rfl
    simp only [Act.put, List.setIfInBounds_toArray, List.set_cons_zero, List.set_cons_succ]
    refine wpAnyH_take (i := 5) (oi := ⟨some 78, _, _, _, _, _⟩) (v := ?_) rfl (by kernel_rfl) (by kernel_rfl) (by kernel_rfl) (fun _ _ _ h => h) (Or.inl ⟨by rfl, ?_⟩) (by assumption) ?_
    rotate_left
    · intro w hSw; (try dsimp only at hSw); go_simp; try with_reducible rfl
    simp only [Act.put, List.setIfInBounds_toArray, List.set_cons_zero, List.set_cons_succ]
    refine wpAnyH_take (i := 6) (oi := ⟨some 79, _, _, _, _, _⟩) (v := ?_) rfl (by kernel_rfl) (by kernel_rfl) (by kernel_rfl) (fun _ _ _ h => h) (Or.inl ⟨by rfl, ?_⟩) (by assumption) ?_
    rotate_left
    · intro w hSw; (try dsimp only at hSw); go_simp; try with_reducible rfl
    simp only [Act.put, List.setIfInBounds_toArray, List.set_cons_zero, List.set_cons_succ]
    refine wpAnyH_take (i := 7) (oi := ⟨some 80, _, _, _, _, _⟩) (v := ?_) rfl (by kernel_rfl) (by kernel_rfl) (by kernel_rfl) (fun _ _ _ h => h) (Or.inl ⟨by rfl, ?_⟩) (by assumption) ?_
    rotate_left
    · intro w hSw; (try dsimp only at hSw); go_simp; try with_reducible rfl
    simp only [Act.put, List.setIfInBounds_toArray, List.set_cons_zero, List.set_cons_succ]
    refine wpAnyH_take (i := 8) (oi := ⟨some 81, _, _, _, _, _⟩) (v := ?_) rfl (by kernel_rfl) (by kernel_rfl) (by kernel_rfl) (fun _ _ _ h => h) (Or.inl ⟨by rfl, ?_⟩) (by assumption) ?_
    rotate_left
    · intro w hSw; (try dsimp only at hSw); go_simp; try with_reducible rfl
    simp only [Act.put, List.setIfInBounds_toArray, List.set_cons_zero, List.set_cons_succ]
    refine wpAnyH_take (i := 9) (oi := ⟨some 82, _, _, _, _, _⟩) (v := ?_) rfl (by kernel_rfl) (by kernel_rfl) (by kernel_rfl) (fun _ _ _ h => h) (Or.inl ⟨by rfl, ?_⟩) (by assumption) ?_
    rotate_left
    · intro w hSw; (try dsimp only at hSw); go_simp; try with_reducible rfl
    simp only [Act.put, List.setIfInBounds_toArray, List.set_cons_zero, List.set_cons_succ]
    refine wpAnyH_take (i := 10) (oi := ⟨some 83, _, _, _, _, _⟩) (v := ?_) rfl (by kernel_rfl) (by kernel_rfl) (by kernel_rfl) (fun _ _ _ h => h) (Or.inl ⟨by rfl, ?_⟩) (by assumption) ?_
    rotate_left
    · intro w hSw; (try dsimp only at hSw); go_simp; try with_reducible rfl
    simp only [Act.put, List.setIfInBounds_toArray, List.set_cons_zero, List.set_cons_succ]
    refine wpAnyH_take (i := 11) (oi := ⟨some 84, _, _, _, _, _⟩) (v := ?_) rfl (by kernel_rfl) (by kernel_rfl) (by kernel_rfl) (fun _ _ _ h => h) (Or.inl ⟨by rfl, ?_⟩) (by assumption) ?_
    rotate_left
    · intro w hSw; (try dsimp only at hSw); go_simp; try with_reducible rfl
    simp only [Act.put, List.setIfInBounds_toArray, List.set_cons_zero, List.set_cons_succ]
    refine wpAnyH_take (i := 12) (oi := ⟨some 85, _, _, _, _, _⟩) (v := ?_) rfl (by kernel_rfl) (by kernel_rfl) (by kernel_rfl) (fun _ _ _ h => h) (Or.inl ⟨by rfl, ?_⟩) (by assumption) ?_
    rotate_left
    · intro w hSw; (try dsimp only at hSw); go_simp; try with_reducible rfl
    simp only [Act.put, List.setIfInBounds_toArray, List.set_cons_zero, List.set_cons_succ]
    refine wpAnyH_take (i := 13) (oi := ⟨some 86, _, _, _, _, _⟩) (v := ?_) rfl (by kernel_rfl) (by kernel_rfl) (by kernel_rfl) (fun _ _ _ h => h) (Or.inl ⟨by rfl, ?_⟩) (by assumption) ?_
    rotate_left
    · intro w hSw; (try dsimp only at hSw); go_simp; try with_reducible rfl
    simp only [Act.put, List.setIfInBounds_toArray, List.set_cons_zero, List.set_cons_succ]
    refine wpAnyH_ready (rs := [14]) (by kernel_rfl) (by simp) ?_
    refine AllReadyH.cons (o := ⟨some 87, _, _, _, _, _⟩) rfl (fun Kq hKq => ?_) AllReadyH.nil
    go_simp
    go_at_call 34
    refine (lpints _ _ au _ _ cu (li Q.out) K.out J.out (by omega)).mono ?_
    rintro e v2 ⟨rfl, hg⟩
    replace G := Lib.hid (gtr G.out hg)
    replace I := Lib.hid (I.out.kept hg)
    replace J := Lib.hid (J.out.kept hg)
    replace X := Lib.hid (X.out.kept hg)
    replace K := Lib.hid (K.out.kept hg)
    replace Y := Lib.hid (Y.out.kept hg)
    clear hg
    refine hKq.out _ _ (⟨X.out.c1, Y.out.c0, Y.out.c1⟩) (fun hHeld => ?_)
    clear hKq Kq
    refine wpAnyH_take (i := 15) (oi := ⟨some 88, _, _, _, _, _⟩) (v := ?_) rfl (by kernel_rfl) (by kernel_rfl) (by kernel_rfl) (fun _ _ _ h => h) (Or.inl ⟨by rfl, ?_⟩) (by assumption) ?_
    rotate_left
    · intro w hSw; (try dsimp only at hSw); go_simp; try with_reducible rfl
    simp only [Act.put, List.setIfInBounds_toArray, List.set_cons_zero, List.set_cons_succ]
    refine wpAnyH_take (i := 16) (oi := ⟨some 89, _, _, _, _, _⟩) (v := ?_) rfl (by kernel_rfl) (by kernel_rfl) (by kernel_rfl) (fun _ _ _ h => h) (Or.inl ⟨by rfl, ?_⟩) (by assumption) ?_
    rotate_left
    · intro w hSw; (try dsimp only at hSw); go_simp; try with_reducible rfl
    simp only [Act.put, List.setIfInBounds_toArray, List.set_cons_zero, List.set_cons_succ]
    refine wpAnyH_take (i := 17) (oi := ⟨some 90, _, _, _, _, _⟩) (v := ?_) rfl (by kernel_rfl) (by kernel_rfl) (by kernel_rfl) (fun _ _ _ h => h) (Or.inl ⟨by rfl, ?_⟩) (by assumption) ?_
    rotate_left
    · intro w hSw; (try dsimp only at hSw); go_simp; try with_reducible rfl
    simp only [Act.put, List.setIfInBounds_toArray, List.set_cons_zero, List.set_cons_succ]
    refine wpAnyH_take (i := 18) (oi := ⟨some 91, _, _, _, _, _⟩) (v := ?_) rfl (by kernel_rfl) (by kernel_rfl) (by kernel_rfl) (fun _ _ _ h => h) (Or.inl ⟨by rfl, ?_⟩) (by assumption) ?_
    rotate_left
    · intro w hSw; (try dsimp only at hSw); go_simp; try with_reducible rfl
    simp only [Act.put, List.setIfInBounds_toArray, List.set_cons_zero, List.set_cons_succ]
    refine wpAnyH_take (i := 19) (oi := ⟨some 92, _, _, _, _, _⟩) (v := ?_) rfl (by kernel_rfl) (by kernel_rfl) (by kernel_rfl) (fun _ _ _ h => h) (Or.inl ⟨by rfl, ?_⟩) (by assumption) ?_
    rotate_left
    · intro w hSw; (try dsimp only at hSw); go_simp; try with_reducible rfl
    simp only [Act.put, List.setIfInBounds_toArray, List.set_cons_zero, List.set_cons_succ]
    refine wpAnyH_take (i := 20) (oi := ⟨some 93, _, _, _, _, _⟩) (v := ?_) rfl (by kernel_rfl) (by kernel_rfl) (by kernel_rfl) (fun _ _ _ h => h) (Or.inl ⟨by rfl, ?_⟩) (by assumption) ?_
    rotate_left
    · intro w hSw; (try dsimp only at hSw); go_simp; try with_reducible rfl
    simp only [Act.put, List.setIfInBounds_toArray, List.set_cons_zero, List.set_cons_succ]
    refine wpAnyH_take (i := 21) (oi := ⟨some 94, _, _, _, _, _⟩) (v := ?_) rfl (by kernel_rfl) (by kernel_rfl) (by kernel_rfl) (fun _ _ _ h => h) (Or.inl ⟨by rfl, ?_⟩) (by assumption) ?_
    rotate_left
    · intro w hSw; (try dsimp only at hSw); go_simp; try with_reducible rfl
    simp only [Act.put, List.setIfInBounds_toArray, List.set_cons_zero, List.set_cons_succ]
    refine wpAnyH_take (i := 22) (oi := ⟨some 95, _, _, _, _, _⟩) (v := ?_) rfl (by kernel_rfl) (by kernel_rfl) (by kernel_rfl) (fun _ _ _ h => h) (Or.inl ⟨by rfl, ?_⟩) (by assumption) ?_
    rotate_left
    · intro w hSw; (try dsimp only at hSw); go_simp; try with_reducible rfl
    simp only [Act.put, List.setIfInBounds_toArray, List.set_cons_zero, List.set_cons_succ]
    refine wpAnyH_take (i := 23) (oi := ⟨some 96, _, _, _, _, _⟩) (v := undef) rfl (by kernel_rfl) (by kernel_rfl) (by kernel_rfl) (fun _ _ _ h => h) (Or.inr ⟨by rfl, rfl⟩) (by assumption) ?_
    simp only [Act.put, List.setIfInBounds_toArray, List.set_cons_zero, List.set_cons_succ]
    refine wpAnyH_take (i := 24) (oi := ⟨some 97, _, _, _, _, _⟩) (v := undef) rfl (by kernel_rfl) (by kernel_rfl) (by kernel_rfl) (fun _ _ _ h => h) (Or.inr ⟨by rfl, rfl⟩) (by assumption) ?_
    simp only [Act.put, List.setIfInBounds_toArray, List.set_cons_zero, List.set_cons_succ]
    refine wpAnyH_take (i := 25) (oi := ⟨some 98, _, _, _, _, _⟩) (v := undef) rfl (by kernel_rfl) (by kernel_rfl) (by kernel_rfl) (fun _ _ _ h => h) (Or.inr ⟨by rfl, rfl⟩) (by assumption) ?_
    simp only [Act.put, List.setIfInBounds_toArray, List.set_cons_zero, List.set_cons_succ]
    refine wpAnyH_take (i := 26) (oi := ⟨some 99, _, _, _, _, _⟩) (v := undef) rfl (by kernel_rfl) (by kernel_rfl) (by kernel_rfl) (fun _ _ _ h => h) (Or.inr ⟨by rfl, rfl⟩) (by assumption) ?_
    simp only [Act.put, List.setIfInBounds_toArray, List.set_cons_zero, List.set_cons_succ]
    refine wpAnyH_take (i := 27) (oi := ⟨some 100, _, _, _, _, _⟩) (v := undef) rfl (by kernel_rfl) (by kernel_rfl) (by kernel_rfl) (fun _ _ _ h => h) (Or.inr ⟨by rfl, rfl⟩) (by assumption) ?_
    simp only [Act.put, List.setIfInBounds_toArray, List.set_cons_zero, List.set_cons_succ]
    refine wpAnyH_take (i := 28) (oi := ⟨some 101, _, _, _, _, _⟩) (v := undef) rfl (by kernel_rfl) (by kernel_rfl) (by kernel_rfl) (fun _ _ _ h => h) (Or.inr ⟨by rfl, rfl⟩) (by assumption) ?_
    simp only [Act.put, List.setIfInBounds_toArray, List.set_cons_zero, List.set_cons_succ]
    refine wpAnyH_take (i := 29) (oi := ⟨some 102, _, _, _, _, _⟩) (v := undef) rfl (by kernel_rfl) (by kernel_rfl) (by kernel_rfl) (fun _ _ _ h => h) (Or.inr ⟨by rfl, rfl⟩) (by assumption) ?_
    simp only [Act.put, List.setIfInBounds_toArray, List.set_cons_zero, List.set_cons_succ]
    refine wpAnyH_take (i := 30) (oi := ⟨some 103, _, _, _, _, _⟩) (v := undef) rfl (by kernel_rfl) (by kernel_rfl) (by kernel_rfl) (fun _ _ _ h => h) (Or.inr ⟨by rfl, rfl⟩) (by assumption) ?_
    simp only [Act.put, List.setIfInBounds_toArray, List.set_cons_zero, List.set_cons_succ]
    refine wpAnyH_take (i := 31) (oi := ⟨some 104, _, _, _, _, _⟩) (v := ?_) rfl (by kernel_rfl) (by kernel_rfl) (by kernel_rfl) (fun _ _ _ h => h) (Or.inl ⟨by rfl, ?_⟩) (by assumption) ?_
    rotate_left
    · intro w hSw; (try dsimp only at hSw); go_simp; try with_reducible rfl
    simp only [Act.put, List.setIfInBounds_toArray, List.set_cons_zero, List.set_cons_succ]
    refine wpAnyH_take (i := 32) (oi := ⟨some 105, _, _, _, _, _⟩) (v := ?_) rfl (by kernel_rfl) (by kernel_rfl) (by kernel_rfl) (fun _ _ _ h => h) (Or.inl ⟨by rfl, ?_⟩) (by assumption) ?_
    rotate_left
    · intro w hSw; (try dsimp only at hSw); go_simp; try with_reducible rfl
    simp only [Act.put, List.setIfInBounds_toArray, List.set_cons_zero, List.set_cons_succ]
    refine wpAnyH_take (i := 33) (oi := ⟨some 106, _, _, _, _, _⟩) (v := ?_) rfl (by kernel_rfl) (by kernel_rfl) (by kernel_rfl) (fun _ _ _ h => h) (Or.inl ⟨by rfl, ?_⟩) (by assumption) ?_
    rotate_left
    · intro w hSw; (try dsimp only at hSw); go_simp; try with_reducible rfl
    simp only [Act.put, List.setIfInBounds_toArray, List.set_cons_zero, List.set_cons_succ]
    refine wpAnyH_take (i := 34) (oi := ⟨some 107, _, _, _, _, _⟩) (v := ?_) rfl (by kernel_rfl) (by kernel_rfl) (by kernel_rfl) (fun _ _ _ h => h) (Or.inl ⟨by rfl, ?_⟩) (by assumption) ?_
    rotate_left
    · intro w hSw; (try dsimp only at hSw); go_simp; try with_reducible rfl
    simp only [Act.put, List.setIfInBounds_toArray, List.set_cons_zero, List.set_cons_succ]
    refine wpAnyH_ready (rs := [35]) (by kernel_rfl) (by simp) ?_
    refine AllReadyH.cons (o := ⟨some 108, _, _, _, _, _⟩) rfl (fun Kq hKq => ?_) AllReadyH.nil
    go_simp
    go_at_call 24
    refine (ibok _ R.n R.s).mono ?_
    rintro e v3 ⟨rfl, hg⟩
    rw [bkB_t HR.out.ok]
    replace G := Lib.hid (gtr G.out hg)
    replace I := Lib.hid (I.out.kept hg)
    replace J := Lib.hid (J.out.kept hg)
    replace X := Lib.hid (X.out.kept hg)
    replace K := Lib.hid (K.out.kept hg)
    replace Y := Lib.hid (Y.out.kept hg)
    clear hg
    refine hKq.out _ _ (⟨X.out.c1, Y.out.c0, Y.out.c1⟩) (fun hHeld => ?_)
    clear hKq Kq
    refine wpAnyH_take (i := 36) (oi := ⟨some 109, _, _, _, _, _⟩) (v := ?_) rfl (by kernel_rfl) (by kernel_rfl) (by kernel_rfl) (fun _ _ _ h => h) (Or.inl ⟨by rfl, ?_⟩) (by assumption) ?_
    rotate_left
    · intro w hSw; (try dsimp only at hSw); go_simp; try with_reducible rfl
    simp only [Act.put, List.setIfInBounds_toArray, List.set_cons_zero, List.set_cons_succ]
    refine wpAnyH_take (i := 37) (oi := ⟨some 2, _, _, _, _, _⟩) (v := ?_) rfl (by kernel_rfl) (by kernel_rfl) (by kernel_rfl) (fun _ _ _ h => h) (Or.inl ⟨by rfl, ?_⟩) (by assumption) ?_
    rotate_left
    · intro w hSw; (try dsimp only at hSw); go_simp; try with_reducible rfl
    simp only [Act.put, List.setIfInBounds_toArray, List.set_cons_zero, List.set_cons_succ]
    refine wpAnyH_done (by kernel_rfl) ?_ _
    go_wp2
    go_ret
    exact ⟨Mem.ret_b (by simp), Draw.below_of G.out⟩
end Run
end Go.Proofs.Yteibklnonlapoaa
