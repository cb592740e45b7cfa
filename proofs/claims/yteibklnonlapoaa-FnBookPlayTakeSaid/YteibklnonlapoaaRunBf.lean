/-
  The walks of the laws on letters: they do what a book does.
-/
import Derived.Test.YteibklnonlapoaaRunBe
import Derived.Test.YteibklnonlapoaaTe
namespace Go.Proofs.Yteibklnonlapoaa
namespace Run
open Go.RowKit Alg Mem Con Draw Bk
set_option linter.unusedVariables false

theorem all_one (st : ByteArray) (c : UInt8) : bkAll (st ++ ⟨#[c]⟩) = stp (bkAll st) c := by
  rw [bkAll_app]; rfl
theorem all_k (st : ByteArray) {Q : BS} (h : bkAll st = Q) : bkAll (st ++ ⟨#[107]⟩) = ⟨Q.n, kS Q.n Q.s, Q.out⟩ := by rw [all_one, h, stp_k (by decide)]; rfl
theorem all_f (st : ByteArray) {Q : BS} (h : bkAll st = Q) : bkAll (st ++ ⟨#[102]⟩) = ⟨Q.s, Q.s, Q.out⟩ := by rw [all_one, h, stp_f (by decide)]; rfl
theorem all_x (st : ByteArray) {Q : BS} (h : bkAll st = Q) : bkAll (st ++ ⟨#[120]⟩) = ⟨Q.n, Q.s, Q.out⟩ := by rw [all_one, h, stp_x (by decide) (by decide) (by decide)]
theorem all_t (st : ByteArray) {Q : BS} (h : bkAll st = Q) (hl : Q.n < Q.s) {o : List Int} (ho : o = Q.out ++ [Q.n]) : bkAll (st ++ ⟨#[116]⟩) = ⟨Q.n + 1, Q.s, o⟩ := by rw [all_one, h, stp_t (by decide), ho]; unfold Bk.T; rw [if_pos hl]
theorem all_t0 (st : ByteArray) {Q : BS} (h : bkAll st = Q) (hl : ¬ Q.n < Q.s) {o : List Int} (ho : o = Q.out) : bkAll (st ++ ⟨#[116]⟩) = ⟨Q.n, Q.s, o⟩ := by rw [all_one, h, stp_t (by decide), ho]; unfold Bk.T; rw [if_neg hl]
theorem ibplay3 (w : World) (st u : ByteArray) (n s : Int) (out : List Int) (h : bkAll (st ++ u) = ⟨n, s, out⟩) (hu : (st ++ u).size ≤ 60) :
    Calls Try.prog 33 #[.string (st ++ u)] w fun e w' => ∃ a c, e = .returned (.tuple #[.slice a out.length c, .agg #[.int .i64 n, .int .i64 s], .bool true]) ∧ Ints w' a out.length (li out) ∧ w.grownBy w' none := by
  refine (ibplay w (st ++ u) hu).mono ?_
  rintro e w' ⟨v, rfl, hL, hg⟩
  rw [h] at hL ⊢
  obtain ⟨a, c, rfl, hI, _, _⟩ := hL.slice
  exact ⟨a, c, rfl, hI, hg⟩
theorem ibkeep_ok (w : World) (n s : Int) (ho : Ok n s) : Calls Try.prog 27 #[.agg #[.int .i64 n, .int .i64 s]] w fun e w' => ∃ t, e = .returned (.tuple #[.agg #[.int .i64 n, .int .i64 (kS n s)], .bool t]) ∧ w.grownBy w' none := by
  by_cases hf : Full n s
  · refine (ibkeep_full w n s ho hf).mono ?_
    rintro e w' ⟨rfl, hg⟩
    exact ⟨false, by rw [kS_full hf], hg⟩
  · refine (ibkeep_yes w n s ho hf).mono ?_
    rintro e w' ⟨rfl, hg⟩
    exact ⟨true, rfl, hg⟩
set_option maxRecDepth 100000 in
set_option maxHeartbeats 8000000 in
theorem FnBookPlayTake (a : Option Addr) (len cap : Nat) (w : World) (hB : Draw.Bytes w w.heap.size a len) (hc : len ≤ cap) (hm : cap ≤ maxLen) :
    Calls Try.prog 11 #[.slice a len cap] w (Yes w) := by
  by_cases hbig : 1048576 < len
  · have hbig' : (1048576 : Int) < (len : Int) := by omega
    clear hB
    go_enter Try.func11, Try.ntmps11
    go_wp2
    go_ret
    exact ⟨rfl, Below.refl _ _⟩
  have hbig' : ¬ (1048576 : Int) < (len : Int) := by omega
  go_enter Try.func11, Try.ntmps11
  go_wp2_with fail
  refine (drawBkP _ a len cap hB hc hm).mono ?_
  rintro e w1 ⟨st, rfl, hst, hg⟩
  have G := Lib.hid hg
  clear hg hB
  by_cases h6 : 60 < st.size
  · have H6 := Lib.hid h6; clear h6
    go_wp2_with fail
    refine (sbplay_long _ st H6.out).mono ?_
    rintro e w2 ⟨v, rfl, hL, hg⟩
    obtain ⟨av, cv, rfl, hI, _, _⟩ := hL.slice
    have I := Lib.hid hI
    clear hI hL
    replace G := Lib.hid (gtr G.out hg)
    clear hg
    go_wp2_with (refine stop_store rfl ?_)
    refine ⟨trivial, ?_⟩
    refine wpList_store_blk rfl 24 (.tmp 5) (.tmp 36) _ _ _ 24 (Blk.new w2 #[.int .i64 0, .int .i64 0] 24) rfl rfl rfl rfl (by kernel_rfl) (by simp [Value.oneCell']) rfl ?_
    intro w3 hgV hT
    have hg : (w2).grownBy w3 none := grown_new (Draw.grown_alloc w2 (.cells #[.int .i64 0, .int .i64 0] 24) none) (Nat.le_refl _) hgV
    have M := Lib.hid (Bv.of hT)
    clear hgV hT
    replace G := Lib.hid (gtr G.out hg)
    replace I := Lib.hid (I.out.kept hg)
    clear hg
    generalize (w2).heap.size = mb at *
    go_wp2_with fail
    refine (ibplay_long _ st H6.out).mono ?_
    rintro e w4 ⟨rfl, hg⟩
    replace G := Lib.hid (gtr G.out hg)
    replace I := Lib.hid (I.out.kept hg)
    replace M := Lib.hid (M.out.kept hg)
    clear hg
    go_wp2_with (refine stop_store rfl ?_)
    refine ⟨trivial, ?_⟩
    refine wpList_store_blk rfl 24 (.tmp 8) (.tmp 42) _ _ _ 24 (Blk.new w4 #[.int .i64 0, .int .i64 0] 24) rfl rfl rfl rfl (by kernel_rfl) (by simp [Value.oneCell']) rfl ?_
    intro w5 hgV hT
    have hg : (w4).grownBy w5 none := grown_new (Draw.grown_alloc w4 (.cells #[.int .i64 0, .int .i64 0] 24) none) (Nat.le_refl _) hgV
    have X := Lib.hid (Bv.of hT)
    clear hgV hT
    replace G := Lib.hid (gtr G.out hg)
    replace I := Lib.hid (I.out.kept hg)
    replace M := Lib.hid (M.out.kept hg)
    clear hg
    generalize (w4).heap.size = xb at *
    obtain ⟨_, x0, x1⟩ := X.out
    obtain ⟨_, m0, m1⟩ := M.out
    go_wp2_with fail
    clear x0 x1
    clear m0 m1
    refine (lpints _ none av 0 0 cv (li []) (.inl rfl) I.out (by omega)).mono ?_
    rintro e w6 ⟨rfl, hg⟩
    replace G := Lib.hid (gtr G.out hg)
    replace I := Lib.hid (I.out.kept hg)
    replace M := Lib.hid (M.out.kept hg)
    replace X := Lib.hid (X.out.kept hg)
    clear hg
    obtain ⟨_, x0, x1⟩ := X.out
    obtain ⟨_, m0, m1⟩ := M.out
    go_wp2_with fail
    clear x0 x1
    clear m0 m1
    refine (lpints _ none av 0 0 cv (li []) (.inl rfl) I.out (by omega)).mono ?_
    rintro e w7 ⟨rfl, hg⟩
    replace G := Lib.hid (gtr G.out hg)
    replace I := Lib.hid (I.out.kept hg)
    replace M := Lib.hid (M.out.kept hg)
    replace X := Lib.hid (X.out.kept hg)
    clear hg
    obtain ⟨_, x0, x1⟩ := X.out
    obtain ⟨_, m0, m1⟩ := M.out
    go_wp2
    go_ret
    exact ⟨Mem.ret_b (by simp), Draw.below_of G.out⟩
  have H6 := Lib.hid (show st.size ≤ 60 by omega); clear h6
  have h60 := H6.out
  have hlen := len_all st
  have HQ := Lib.hid (good_all st)
  go_wp2_with fail
  refine (sbplay _ st H6.out).mono ?_
  rintro e w2 ⟨v, rfl, hL, hg⟩
  obtain ⟨av, cv, rfl, hI, _, _⟩ := hL.slice
  have I := Lib.hid hI
  clear hI hL
  replace G := Lib.hid (gtr G.out hg)
  clear hg
  go_wp2_with (refine stop_store rfl ?_)
  refine ⟨trivial, ?_⟩
  refine wpList_store_blk rfl 24 (.tmp 5) (.tmp 36) _ _ _ 24 (Blk.new w2 #[.int .i64 0, .int .i64 0] 24) rfl rfl rfl rfl (by kernel_rfl) (by simp [Value.oneCell']) rfl ?_
  intro w3 hgV hT
  have hg : (w2).grownBy w3 none := grown_new (Draw.grown_alloc w2 (.cells #[.int .i64 0, .int .i64 0] 24) none) (Nat.le_refl _) hgV
  have M := Lib.hid (Bv.of hT)
  clear hgV hT
  replace G := Lib.hid (gtr G.out hg)
  replace I := Lib.hid (I.out.kept hg)
  clear hg
  generalize (w2).heap.size = mb at *
  go_wp2_with fail
  refine (ibplay _ st H6.out).mono ?_
  rintro e w4 ⟨u, rfl, hL, hg⟩
  obtain ⟨au, cu, rfl, hI, hcu, hmu⟩ := hL.slice
  have J := Lib.hid hI
  clear hI hL
  replace G := Lib.hid (gtr G.out hg)
  replace I := Lib.hid (I.out.kept hg)
  replace M := Lib.hid (M.out.kept hg)
  clear hg
  go_wp2_with (refine stop_store rfl ?_)
  refine ⟨trivial, ?_⟩
  refine wpList_store_blk rfl 24 (.tmp 8) (.tmp 42) _ _ _ 24 (Blk.new w4 #[.int .i64 0, .int .i64 0] 24) rfl rfl rfl rfl (by kernel_rfl) (by simp [Value.oneCell']) rfl ?_
  intro w5 hgV hT
  have hg : (w4).grownBy w5 none := grown_new (Draw.grown_alloc w4 (.cells #[.int .i64 0, .int .i64 0] 24) none) (Nat.le_refl _) hgV
  have X := Lib.hid (Bv.of hT)
  clear hgV hT
  replace G := Lib.hid (gtr G.out hg)
  replace I := Lib.hid (I.out.kept hg)
  replace M := Lib.hid (M.out.kept hg)
  replace J := Lib.hid (J.out.kept hg)
  clear hg
  generalize (w4).heap.size = xb at *
  obtain ⟨_, x0, x1⟩ := X.out
  obtain ⟨_, m0, m1⟩ := M.out
  go_wp2_with fail
  clear x0 x1
  clear m0 m1
  refine (lpints _ au av _ cu cv (li (bkAll st).out) J.out I.out (by omega)).mono ?_
  rintro e w6 ⟨rfl, hg⟩
  replace G := Lib.hid (gtr G.out hg)
  replace I := Lib.hid (I.out.kept hg)
  replace M := Lib.hid (M.out.kept hg)
  replace J := Lib.hid (J.out.kept hg)
  replace X := Lib.hid (X.out.kept hg)
  clear hg
  by_cases h5 : 58 < st.size
  · have h5' : (58 : Int) < (st.size : Int) := by omega
    obtain ⟨_, x0, x1⟩ := X.out
    obtain ⟨_, m0, m1⟩ := M.out
    go_wp2_with fail
    clear x0 x1
    clear m0 m1
    refine (lpints _ au av _ cu cv (li (bkAll st).out) J.out I.out (by omega)).mono ?_
    rintro e w8 ⟨rfl, hg⟩
    replace G := Lib.hid (gtr G.out hg)
    replace I := Lib.hid (I.out.kept hg)
    replace M := Lib.hid (M.out.kept hg)
    replace J := Lib.hid (J.out.kept hg)
    replace X := Lib.hid (X.out.kept hg)
    clear hg
    obtain ⟨_, x0, x1⟩ := X.out
    obtain ⟨_, m0, m1⟩ := M.out
    go_wp2
    go_ret
    exact ⟨Mem.ret_b (by simp), Draw.below_of G.out⟩
  have h5' : ¬ (58 : Int) < (st.size : Int) := by omega
  have hq : ¬ 9223372036854775807 < st.size + 1 := by omega
  have HU := Lib.hid (show st.size + 1 ≤ 60 by omega)
  obtain ⟨_, x0, x1⟩ := X.out
  obtain ⟨_, m0, m1⟩ := M.out
  go_wp2_with fail
  clear x0 x1
  clear m0 m1
  clear M
  clear h5
  obtain ⟨Q, hQE⟩ : ∃ Q, bkAll st = Q := ⟨_, rfl⟩
  rw [hQE] at hlen HQ X J I ⊢
  have HQE := Lib.hid hQE; clear hQE
  refine (ibkeep_ok _ Q.n Q.s HQ.out.ok).mono ?_
  rintro e w8 ⟨kt, rfl, hg⟩
  replace G := Lib.hid (gtr G.out hg)
  replace I := Lib.hid (I.out.kept hg)
  replace J := Lib.hid (J.out.kept hg)
  replace X := Lib.hid (X.out.kept hg)
  clear hg
  go_wp2_with (refine stop_store rfl ?_)
  refine ⟨trivial, ?_⟩
  refine wpList_store_blk rfl 24 (.tmp 10) (.tmp 83) _ _ _ 24 (Blk.new w8 #[.int .i64 0, .int .i64 0] 24) rfl rfl rfl rfl (by kernel_rfl) (by simp [Value.oneCell']) rfl ?_
  intro w9 hgV hT
  have hg : (w8).grownBy w9 none := grown_new (Draw.grown_alloc w8 (.cells #[.int .i64 0, .int .i64 0] 24) none) (Nat.le_refl _) hgV
  have Y := Lib.hid (Bv.of hT)
  clear hgV hT
  replace G := Lib.hid (gtr G.out hg)
  replace I := Lib.hid (I.out.kept hg)
  replace J := Lib.hid (J.out.kept hg)
  replace X := Lib.hid (X.out.kept hg)
  clear hg
  generalize (w8).heap.size = yb at *
  obtain ⟨_, x0, x1⟩ := X.out
  go_wp2_with fail
  clear x0 x1
  have hos := HQ.out.ok
  by_cases hne : Q.n = Q.s
  · have HNE := Lib.hid hne
    have HLT := Lib.hid (show ¬ Q.n < Q.s by omega)
    clear hne hos
    refine (ibtake_no _ Q.n Q.s HQ.out.ok HNE.out).mono ?_
    rintro e v1 ⟨rfl, hg⟩
    replace G := Lib.hid (gtr G.out hg)
    replace I := Lib.hid (I.out.kept hg)
    replace J := Lib.hid (J.out.kept hg)
    replace X := Lib.hid (X.out.kept hg)
    replace Y := Lib.hid (Y.out.kept hg)
    clear hg
    go_wp2_with (refine stop_store rfl ?_)
    refine ⟨trivial, ?_⟩
    refine wpList_store_blk rfl 24 (.tmp 13) (.tmp 89) _ _ _ 24 (Blk.new v1 #[.int .i64 0, .int .i64 0] 24) rfl rfl rfl rfl (by kernel_rfl) (by simp [Value.oneCell']) rfl ?_
    intro v2 hgV hT
    have hg : (v1).grownBy v2 none := grown_new (Draw.grown_alloc v1 (.cells #[.int .i64 0, .int .i64 0] 24) none) (Nat.le_refl _) hgV
    have T := Lib.hid (Bv.of hT)
    clear hgV hT
    replace G := Lib.hid (gtr G.out hg)
    replace I := Lib.hid (I.out.kept hg)
    replace J := Lib.hid (J.out.kept hg)
    replace X := Lib.hid (X.out.kept hg)
    replace Y := Lib.hid (Y.out.kept hg)
    clear hg
    generalize (v1).heap.size = tb at *
    go_wp2_with fail
    refine (ibplay3 _ st ⟨#[107]⟩ _ _ _ (all_k st HQE.out) (by rw [ByteArray.size_append]; exact HU.out)).mono ?_
    rintro e p1 ⟨a1, c1, rfl, hI, hg⟩
    have I1 := Lib.hid hI
    clear hI
    replace G := Lib.hid (gtr G.out hg)
    replace I := Lib.hid (I.out.kept hg)
    replace J := Lib.hid (J.out.kept hg)
    replace X := Lib.hid (X.out.kept hg)
    replace Y := Lib.hid (Y.out.kept hg)
    replace T := Lib.hid (T.out.kept hg)
    clear hg
    go_wp2_with (refine stop_store rfl ?_)
    refine ⟨trivial, ?_⟩
    refine wpList_store_blk rfl 24 (.tmp 16) (.tmp 96) _ _ _ 24 (Blk.new p1 #[.int .i64 0, .int .i64 0] 24) rfl rfl rfl rfl (by kernel_rfl) (by simp [Value.oneCell']) rfl ?_
    intro p2 hgV hT
    have hg : (p1).grownBy p2 none := grown_new (Draw.grown_alloc p1 (.cells #[.int .i64 0, .int .i64 0] 24) none) (Nat.le_refl _) hgV
    have Z1 := Lib.hid (Bv.of hT)
    clear hgV hT
    replace G := Lib.hid (gtr G.out hg)
    replace I := Lib.hid (I.out.kept hg)
    replace J := Lib.hid (J.out.kept hg)
    replace X := Lib.hid (X.out.kept hg)
    replace Y := Lib.hid (Y.out.kept hg)
    replace T := Lib.hid (T.out.kept hg)
    replace I1 := Lib.hid (I1.out.kept hg)
    clear hg
    generalize (p1).heap.size = z1 at *
    go_wp2_with fail
    refine (ibplay3 _ st ⟨#[116]⟩ _ _ _ (all_t0 st HQE.out (by have := HLT.out; omega) rfl) (by rw [ByteArray.size_append]; exact HU.out)).mono ?_
    rintro e p3 ⟨a2, c2, rfl, hI, hg⟩
    have I2 := Lib.hid hI
    clear hI
    replace G := Lib.hid (gtr G.out hg)
    replace I := Lib.hid (I.out.kept hg)
    replace J := Lib.hid (J.out.kept hg)
    replace X := Lib.hid (X.out.kept hg)
    replace Y := Lib.hid (Y.out.kept hg)
    replace T := Lib.hid (T.out.kept hg)
    replace I1 := Lib.hid (I1.out.kept hg)
    replace Z1 := Lib.hid (Z1.out.kept hg)
    clear hg
    go_wp2_with (refine stop_store rfl ?_)
    refine ⟨trivial, ?_⟩
    refine wpList_store_blk rfl 24 (.tmp 19) (.tmp 103) _ _ _ 24 (Blk.new p3 #[.int .i64 0, .int .i64 0] 24) rfl rfl rfl rfl (by kernel_rfl) (by simp [Value.oneCell']) rfl ?_
    intro p4 hgV hT
    have hg : (p3).grownBy p4 none := grown_new (Draw.grown_alloc p3 (.cells #[.int .i64 0, .int .i64 0] 24) none) (Nat.le_refl _) hgV
    have Z2 := Lib.hid (Bv.of hT)
    clear hgV hT
    replace G := Lib.hid (gtr G.out hg)
    replace I := Lib.hid (I.out.kept hg)
    replace J := Lib.hid (J.out.kept hg)
    replace X := Lib.hid (X.out.kept hg)
    replace Y := Lib.hid (Y.out.kept hg)
    replace T := Lib.hid (T.out.kept hg)
    replace I1 := Lib.hid (I1.out.kept hg)
    replace Z1 := Lib.hid (Z1.out.kept hg)
    replace I2 := Lib.hid (I2.out.kept hg)
    clear hg
    generalize (p3).heap.size = z2 at *
    go_wp2_with fail
    refine (ibplay3 _ st ⟨#[102]⟩ _ _ _ (all_f st HQE.out) (by rw [ByteArray.size_append]; exact HU.out)).mono ?_
    rintro e p5 ⟨a3, c3, rfl, hI, hg⟩
    have I3 := Lib.hid hI
    clear hI
    replace G := Lib.hid (gtr G.out hg)
    replace I := Lib.hid (I.out.kept hg)
    replace J := Lib.hid (J.out.kept hg)
    replace X := Lib.hid (X.out.kept hg)
    replace Y := Lib.hid (Y.out.kept hg)
    replace T := Lib.hid (T.out.kept hg)
    replace I1 := Lib.hid (I1.out.kept hg)
    replace Z1 := Lib.hid (Z1.out.kept hg)
    replace I2 := Lib.hid (I2.out.kept hg)
    replace Z2 := Lib.hid (Z2.out.kept hg)
    clear hg
    go_wp2_with (refine stop_store rfl ?_)
    refine ⟨trivial, ?_⟩
    refine wpList_store_blk rfl 24 (.tmp 22) (.tmp 110) _ _ _ 24 (Blk.new p5 #[.int .i64 0, .int .i64 0] 24) rfl rfl rfl rfl (by kernel_rfl) (by simp [Value.oneCell']) rfl ?_
    intro p6 hgV hT
    have hg : (p5).grownBy p6 none := grown_new (Draw.grown_alloc p5 (.cells #[.int .i64 0, .int .i64 0] 24) none) (Nat.le_refl _) hgV
    have Z3 := Lib.hid (Bv.of hT)
    clear hgV hT
    replace G := Lib.hid (gtr G.out hg)
    replace I := Lib.hid (I.out.kept hg)
    replace J := Lib.hid (J.out.kept hg)
    replace X := Lib.hid (X.out.kept hg)
    replace Y := Lib.hid (Y.out.kept hg)
    replace T := Lib.hid (T.out.kept hg)
    replace I1 := Lib.hid (I1.out.kept hg)
    replace Z1 := Lib.hid (Z1.out.kept hg)
    replace I2 := Lib.hid (I2.out.kept hg)
    replace Z2 := Lib.hid (Z2.out.kept hg)
    replace I3 := Lib.hid (I3.out.kept hg)
    clear hg
    generalize (p5).heap.size = z3 at *
    go_wp2_with fail
    refine (ibplay3 _ st ⟨#[120]⟩ _ _ _ (all_x st HQE.out) (by rw [ByteArray.size_append]; exact HU.out)).mono ?_
    rintro e p7 ⟨a4, c4, rfl, hI, hg⟩
    have I4 := Lib.hid hI
    clear hI
    replace G := Lib.hid (gtr G.out hg)
    replace I := Lib.hid (I.out.kept hg)
    replace J := Lib.hid (J.out.kept hg)
    replace X := Lib.hid (X.out.kept hg)
    replace Y := Lib.hid (Y.out.kept hg)
    replace T := Lib.hid (T.out.kept hg)
    replace I1 := Lib.hid (I1.out.kept hg)
    replace Z1 := Lib.hid (Z1.out.kept hg)
    replace I2 := Lib.hid (I2.out.kept hg)
    replace Z2 := Lib.hid (Z2.out.kept hg)
    replace I3 := Lib.hid (I3.out.kept hg)
    replace Z3 := Lib.hid (Z3.out.kept hg)
    clear hg
    go_wp2_with (refine stop_store rfl ?_)
    refine ⟨trivial, ?_⟩
    refine wpList_store_blk rfl 24 (.tmp 25) (.tmp 117) _ _ _ 24 (Blk.new p7 #[.int .i64 0, .int .i64 0] 24) rfl rfl rfl rfl (by kernel_rfl) (by simp [Value.oneCell']) rfl ?_
    intro p8 hgV hT
    have hg : (p7).grownBy p8 none := grown_new (Draw.grown_alloc p7 (.cells #[.int .i64 0, .int .i64 0] 24) none) (Nat.le_refl _) hgV
    have Z4 := Lib.hid (Bv.of hT)
    clear hgV hT
    replace G := Lib.hid (gtr G.out hg)
    replace I := Lib.hid (I.out.kept hg)
    replace J := Lib.hid (J.out.kept hg)
    replace X := Lib.hid (X.out.kept hg)
    replace Y := Lib.hid (Y.out.kept hg)
    replace T := Lib.hid (T.out.kept hg)
    replace I1 := Lib.hid (I1.out.kept hg)
    replace Z1 := Lib.hid (Z1.out.kept hg)
    replace I2 := Lib.hid (I2.out.kept hg)
    replace Z2 := Lib.hid (Z2.out.kept hg)
    replace I3 := Lib.hid (I3.out.kept hg)
    replace Z3 := Lib.hid (Z3.out.kept hg)
    replace I4 := Lib.hid (I4.out.kept hg)
    clear hg
    generalize (p7).heap.size = z4 at *
    go_wp2_with fail
    have HOL2 := Lib.hid (rfl : Q.out.length = Q.out.length)
    have hw0 : IntKind.i64.wrap 0 = 0 := IntWalk.i64_in _ (by omega)
    refine wp_region_held_drew (S := (fun w' => w'.cell? ⟨z1, 0, none⟩ = some (.int .i64 Q.n) ∧ w'.cell? ⟨z1, 1, none⟩ = some (.int .i64 (kS Q.n Q.s)) ∧ w'.cell? ⟨yb, 0, none⟩ = some (.int .i64 Q.n) ∧ w'.cell? ⟨yb, 1, none⟩ = some (.int .i64 (kS Q.n Q.s)) ∧ w'.cell? ⟨z2, 0, none⟩ = some (.int .i64 Q.n) ∧ w'.cell? ⟨z2, 1, none⟩ = some (.int .i64 Q.s) ∧ w'.cell? ⟨tb, 0, none⟩ = some (.int .i64 Q.n) ∧ w'.cell? ⟨tb, 1, none⟩ = some (.int .i64 Q.s) ∧ w'.cell? ⟨z3, 0, none⟩ = some (.int .i64 Q.s) ∧ w'.cell? ⟨z3, 1, none⟩ = some (.int .i64 Q.s) ∧ w'.cell? ⟨xb, 0, none⟩ = some (.int .i64 Q.n) ∧ w'.cell? ⟨xb, 1, none⟩ = some (.int .i64 Q.s) ∧ w'.cell? ⟨z4, 0, none⟩ = some (.int .i64 Q.n) ∧ w'.cell? ⟨z4, 1, none⟩ = some (.int .i64 Q.s))) (by kernel_rfl) (⟨Z1.out.c0, Z1.out.c1, Y.out.c0, Y.out.c1, Z2.out.c0, Z2.out.c1, T.out.c0, T.out.c1, Z3.out.c0, Z3.out.c1, X.out.c0, X.out.c1, Z4.out.c0, Z4.out.c1⟩) (fun hHeld => ?_)
    have hg := Draw.gdrew p8
    replace G := Lib.hid (gtr G.out hg)
    replace I := Lib.hid (I.out.kept hg)
    replace J := Lib.hid (J.out.kept hg)
    replace X := Lib.hid (X.out.kept hg)
    replace Y := Lib.hid (Y.out.kept hg)
    replace T := Lib.hid (T.out.kept hg)
    replace I1 := Lib.hid (I1.out.kept hg)
    replace Z1 := Lib.hid (Z1.out.kept hg)
    replace I2 := Lib.hid (I2.out.kept hg)
    replace Z2 := Lib.hid (Z2.out.kept hg)
    replace I3 := Lib.hid (I3.out.kept hg)
    replace Z3 := Lib.hid (Z3.out.kept hg)
    replace I4 := Lib.hid (I4.out.kept hg)
    replace Z4 := Lib.hid (Z4.out.kept hg)
    clear hg
    generalize (p8).drew = q1 at *
    refine wpAnyH_take (i := 0) (oi := ⟨some 126, _, _, _, _, _⟩) (v := ?_) rfl (by kernel_rfl) (by kernel_rfl) (by kernel_rfl) (fun _ _ _ h => h) (Or.inl ⟨by rfl, ?_⟩) (by assumption) ?_
    rotate_left
    · intro w hSw; (try dsimp only at hSw); go_simp; try with_reducible rfl
    simp only [Act.put, List.setIfInBounds_toArray, List.set_cons_zero, List.set_cons_succ]
    refine wpAnyH_take (i := 1) (oi := ⟨some 127, _, _, _, _, _⟩) (v := ?_) rfl (by kernel_rfl) (by kernel_rfl) (by kernel_rfl) (fun _ _ _ h => h) (Or.inl ⟨by rfl, ?_⟩) (by assumption) ?_
    rotate_left
    · intro w hSw; (try dsimp only at hSw); go_simp; try with_reducible rfl
    simp only [Act.put, List.setIfInBounds_toArray, List.set_cons_zero, List.set_cons_succ]
    refine wpAnyH_take (i := 2) (oi := ⟨some 128, _, _, _, _, _⟩) (v := ?_) rfl (by kernel_rfl) (by kernel_rfl) (by kernel_rfl) (fun _ _ _ h => h) (Or.inl ⟨by rfl, ?_⟩) (by assumption) ?_
    rotate_left
    · intro w hSw; (try dsimp only at hSw); go_simp; try with_reducible rfl
    simp only [Act.put, List.setIfInBounds_toArray, List.set_cons_zero, List.set_cons_succ]
    refine wpAnyH_take (i := 3) (oi := ⟨some 129, _, _, _, _, _⟩) (v := ?_) rfl (by kernel_rfl) (by kernel_rfl) (by kernel_rfl) (fun _ _ _ h => h) (Or.inl ⟨by rfl, ?_⟩) (by assumption) ?_
    rotate_left
    · intro w hSw; (try dsimp only at hSw); go_simp; try with_reducible rfl
    simp only [Act.put, List.setIfInBounds_toArray, List.set_cons_zero, List.set_cons_succ]
    refine wpAnyH_take (i := 4) (oi := ⟨some 130, _, _, _, _, _⟩) (v := ?_) rfl (by kernel_rfl) (by kernel_rfl) (by kernel_rfl) (fun _ _ _ h => h) (Or.inl ⟨by rfl, ?_⟩) (by assumption) ?_
    rotate_left
    · intro w hSw; (try dsimp only at hSw); go_simp; try with_reducible rfl
    simp only [Act.put, List.setIfInBounds_toArray, List.set_cons_zero, List.set_cons_succ]
    refine wpAnyH_take (i := 5) (oi := ⟨some 131, _, _, _, _, _⟩) (v := ?_) rfl (by kernel_rfl) (by kernel_rfl) (by kernel_rfl) (fun _ _ _ h => h) (Or.inl ⟨by rfl, ?_⟩) (by assumption) ?_
    rotate_left
    · intro w hSw; (try dsimp only at hSw); go_simp; try with_reducible rfl
    simp only [Act.put, List.setIfInBounds_toArray, List.set_cons_zero, List.set_cons_succ]
    refine wpAnyH_take (i := 6) (oi := ⟨some 132, _, _, _, _, _⟩) (v := ?_) rfl (by kernel_rfl) (by kernel_rfl) (by kernel_rfl) (fun _ _ _ h => h) (Or.inl ⟨by rfl, ?_⟩) (by assumption) ?_
    rotate_left
    · intro w hSw; (try dsimp only at hSw); go_simp; try with_reducible rfl
    simp only [Act.put, List.setIfInBounds_toArray, List.set_cons_zero, List.set_cons_succ]
    refine wpAnyH_take (i := 7) (oi := ⟨some 133, _, _, _, _, _⟩) (v := ?_) rfl (by kernel_rfl) (by kernel_rfl) (by kernel_rfl) (fun _ _ _ h => h) (Or.inl ⟨by rfl, ?_⟩) (by assumption) ?_
    rotate_left
    · intro w hSw; (try dsimp only at hSw); go_simp; try with_reducible rfl
    simp only [Act.put, List.setIfInBounds_toArray, List.set_cons_zero, List.set_cons_succ]
    refine wpAnyH_take (i := 8) (oi := ⟨some 134, _, _, _, _, _⟩) (v := ?_) rfl (by kernel_rfl) (by kernel_rfl) (by kernel_rfl) (fun _ _ _ h => h) (Or.inl ⟨by rfl, ?_⟩) (by assumption) ?_
    rotate_left
    · intro w hSw; (try dsimp only at hSw); go_simp; try with_reducible rfl
    simp only [Act.put, List.setIfInBounds_toArray, List.set_cons_zero, List.set_cons_succ]
    refine wpAnyH_take (i := 9) (oi := ⟨some 135, _, _, _, _, _⟩) (v := ?_) rfl (by kernel_rfl) (by kernel_rfl) (by kernel_rfl) (fun _ _ _ h => h) (Or.inl ⟨by rfl, ?_⟩) (by assumption) ?_
    rotate_left
    · intro w hSw; (try dsimp only at hSw); go_simp; try with_reducible rfl
    simp only [Act.put, List.setIfInBounds_toArray, List.set_cons_zero, List.set_cons_succ]
    refine wpAnyH_take (i := 10) (oi := ⟨some 136, _, _, _, _, _⟩) (v := ?_) rfl (by kernel_rfl) (by kernel_rfl) (by kernel_rfl) (fun _ _ _ h => h) (Or.inl ⟨by rfl, ?_⟩) (by assumption) ?_
    rotate_left
    · intro w hSw; (try dsimp only at hSw); go_simp; try with_reducible rfl
    simp only [Act.put, List.setIfInBounds_toArray, List.set_cons_zero, List.set_cons_succ]
    refine wpAnyH_ready (rs := [11]) (by kernel_rfl) (by simp) ?_
    refine AllReadyH.cons (o := ⟨some 137, _, _, _, _, _⟩) rfl (fun Kq hKq => ?_) AllReadyH.nil
    go_simp
    go_at_call 29
    refine (ibfall_yes _ Q.n Q.s HQ.out.ok).mono ?_
    rintro e q2 ⟨rfl, hg⟩
    replace G := Lib.hid (gtr G.out hg)
    replace I := Lib.hid (I.out.kept hg)
    replace J := Lib.hid (J.out.kept hg)
    replace X := Lib.hid (X.out.kept hg)
    replace Y := Lib.hid (Y.out.kept hg)
    replace T := Lib.hid (T.out.kept hg)
    replace I1 := Lib.hid (I1.out.kept hg)
    replace Z1 := Lib.hid (Z1.out.kept hg)
    replace I2 := Lib.hid (I2.out.kept hg)
    replace Z2 := Lib.hid (Z2.out.kept hg)
    replace I3 := Lib.hid (I3.out.kept hg)
    replace Z3 := Lib.hid (Z3.out.kept hg)
    replace I4 := Lib.hid (I4.out.kept hg)
    replace Z4 := Lib.hid (Z4.out.kept hg)
    clear hg
    refine hKq.out _ _ (⟨Z1.out.c0, Z1.out.c1, Y.out.c0, Y.out.c1, Z2.out.c0, Z2.out.c1, T.out.c0, T.out.c1, Z3.out.c0, Z3.out.c1, X.out.c0, X.out.c1, Z4.out.c0, Z4.out.c1⟩) (fun hHeld => ?_)
    clear hKq Kq
    refine wpAnyH_take (i := 12) (oi := ⟨some 138, _, _, _, _, _⟩) (v := ?_) rfl (by kernel_rfl) (by kernel_rfl) (by kernel_rfl) (fun _ _ _ h => h) (Or.inl ⟨by rfl, ?_⟩) (by assumption) ?_
    rotate_left
    · intro w hSw; (try dsimp only at hSw); go_simp; try with_reducible rfl
    simp only [Act.put, List.setIfInBounds_toArray, List.set_cons_zero, List.set_cons_succ]
    refine wpAnyH_take (i := 13) (oi := ⟨some 139, _, _, _, _, _⟩) (v := ?_) rfl (by kernel_rfl) (by kernel_rfl) (by kernel_rfl) (fun _ _ _ h => h) (Or.inl ⟨by rfl, ?_⟩) (by assumption) ?_
    rotate_left
    · intro w hSw; (try dsimp only at hSw); go_simp; try with_reducible rfl
    simp only [Act.put, List.setIfInBounds_toArray, List.set_cons_zero, List.set_cons_succ]
    refine wpAnyH_take (i := 14) (oi := ⟨some 140, _, _, _, _, _⟩) (v := ?_) rfl (by kernel_rfl) (by kernel_rfl) (by kernel_rfl) (fun _ _ _ h => h) (Or.inl ⟨by rfl, ?_⟩) (by assumption) ?_
    rotate_left
    · intro w hSw; (try dsimp only at hSw); go_simp; try with_reducible rfl
    simp only [Act.put, List.setIfInBounds_toArray, List.set_cons_zero, List.set_cons_succ]
    refine wpAnyH_take (i := 15) (oi := ⟨some 141, _, _, _, _, _⟩) (v := ?_) rfl (by kernel_rfl) (by kernel_rfl) (by kernel_rfl) (fun _ _ _ h => h) (Or.inl ⟨by rfl, ?_⟩) (by assumption) ?_
    rotate_left
    · intro w hSw; (try dsimp only at hSw); go_simp; try with_reducible rfl
    simp only [Act.put, List.setIfInBounds_toArray, List.set_cons_zero, List.set_cons_succ]
    refine wpAnyH_take (i := 16) (oi := ⟨some 142, _, _, _, _, _⟩) (v := ?_) rfl (by kernel_rfl) (by kernel_rfl) (by kernel_rfl) (fun _ _ _ h => h) (Or.inl ⟨by rfl, ?_⟩) (by assumption) ?_
    rotate_left
    · intro w hSw; (try dsimp only at hSw); go_simp; try with_reducible rfl
    simp only [Act.put, List.setIfInBounds_toArray, List.set_cons_zero, List.set_cons_succ]
    refine wpAnyH_take (i := 17) (oi := ⟨some 143, _, _, _, _, _⟩) (v := ?_) rfl (by kernel_rfl) (by kernel_rfl) (by kernel_rfl) (fun _ _ _ h => h) (Or.inl ⟨by rfl, ?_⟩) (by assumption) ?_
    rotate_left
    · intro w hSw; (try dsimp only at hSw); go_simp; try with_reducible rfl
    simp only [Act.put, List.setIfInBounds_toArray, List.set_cons_zero, List.set_cons_succ]
    refine wpAnyH_take (i := 18) (oi := ⟨some 144, _, _, _, _, _⟩) (v := ?_) rfl (by kernel_rfl) (by kernel_rfl) (by kernel_rfl) (fun _ _ _ h => h) (Or.inl ⟨by rfl, ?_⟩) (by assumption) ?_
    rotate_left
    · intro w hSw; (try dsimp only at hSw); go_simp; try with_reducible rfl
    simp only [Act.put, List.setIfInBounds_toArray, List.set_cons_zero, List.set_cons_succ]
    refine wpAnyH_take (i := 19) (oi := ⟨some 145, _, _, _, _, _⟩) (v := ?_) rfl (by kernel_rfl) (by kernel_rfl) (by kernel_rfl) (fun _ _ _ h => h) (Or.inl ⟨by rfl, ?_⟩) (by assumption) ?_
    rotate_left
    · intro w hSw; (try dsimp only at hSw); go_simp; try with_reducible rfl
    simp only [Act.put, List.setIfInBounds_toArray, List.set_cons_zero, List.set_cons_succ]
    refine wpAnyH_take (i := 20) (oi := ⟨some 146, _, _, _, _, _⟩) (v := ?_) rfl (by kernel_rfl) (by kernel_rfl) (by kernel_rfl) (fun _ _ _ h => h) (Or.inl ⟨by rfl, ?_⟩) (by assumption) ?_
    rotate_left
    · intro w hSw; (try dsimp only at hSw); go_simp; try with_reducible rfl
    simp only [Act.put, List.setIfInBounds_toArray, List.set_cons_zero, List.set_cons_succ]
    refine wpAnyH_take (i := 21) (oi := ⟨some 147, _, _, _, _, _⟩) (v := ?_) rfl (by kernel_rfl) (by kernel_rfl) (by kernel_rfl) (fun _ _ _ h => h) (Or.inl ⟨by rfl, ?_⟩) (by assumption) ?_
    rotate_left
    · intro w hSw; (try dsimp only at hSw); go_simp; try with_reducible rfl
    simp only [Act.put, List.setIfInBounds_toArray, List.set_cons_zero, List.set_cons_succ]
    refine wpAnyH_ready (rs := [22]) (by kernel_rfl) (by simp) ?_
    refine AllReadyH.cons (o := ⟨some 148, _, _, _, _, _⟩) rfl (fun Kq hKq => ?_) AllReadyH.nil
    go_simp
    go_at_call 34
    refine (lpints _ a2 au Q.out.length c2 cu (li Q.out) I2.out J.out (by have := HOL2.out; omega)).mono ?_
    rintro e q3 ⟨rfl, hg⟩
    replace G := Lib.hid (gtr G.out hg)
    replace I := Lib.hid (I.out.kept hg)
    replace J := Lib.hid (J.out.kept hg)
    replace X := Lib.hid (X.out.kept hg)
    replace Y := Lib.hid (Y.out.kept hg)
    replace T := Lib.hid (T.out.kept hg)
    replace I1 := Lib.hid (I1.out.kept hg)
    replace Z1 := Lib.hid (Z1.out.kept hg)
    replace I2 := Lib.hid (I2.out.kept hg)
    replace Z2 := Lib.hid (Z2.out.kept hg)
    replace I3 := Lib.hid (I3.out.kept hg)
    replace Z3 := Lib.hid (Z3.out.kept hg)
    replace I4 := Lib.hid (I4.out.kept hg)
    replace Z4 := Lib.hid (Z4.out.kept hg)
    clear hg
    refine hKq.out _ _ (⟨Z1.out.c0, Z1.out.c1, Y.out.c0, Y.out.c1, Z2.out.c0, Z2.out.c1, T.out.c0, T.out.c1, Z3.out.c0, Z3.out.c1, X.out.c0, X.out.c1, Z4.out.c0, Z4.out.c1⟩) (fun hHeld => ?_)
    clear hKq Kq
    refine wpAnyH_take (i := 23) (oi := ⟨some 149, _, _, _, _, _⟩) (v := ?_) rfl (by kernel_rfl) (by kernel_rfl) (by kernel_rfl) (fun _ _ _ h => h) (Or.inl ⟨by rfl, ?_⟩) (by assumption) ?_
    rotate_left
    · intro w hSw; (try dsimp only at hSw); go_simp; try with_reducible rfl
    simp only [Act.put, List.setIfInBounds_toArray, List.set_cons_zero, List.set_cons_succ]
    refine wpAnyH_take (i := 24) (oi := ⟨some 150, _, _, _, _, _⟩) (v := ?_) rfl (by kernel_rfl) (by kernel_rfl) (by kernel_rfl) (fun _ _ _ h => h) (Or.inl ⟨by rfl, ?_⟩) (by assumption) ?_
    rotate_left
    · intro w hSw; (try dsimp only at hSw); go_simp; try with_reducible rfl
    simp only [Act.put, List.setIfInBounds_toArray, List.set_cons_zero, List.set_cons_succ]
    refine wpAnyH_take (i := 25) (oi := ⟨some 151, _, _, _, _, _⟩) (v := ?_) rfl (by kernel_rfl) (by kernel_rfl) (by kernel_rfl) (fun _ _ _ h => h) (Or.inl ⟨by rfl, ?_⟩) (by assumption) ?_
    rotate_left
    · intro w hSw; (try dsimp only at hSw); go_simp; try with_reducible rfl
    simp only [Act.put, List.setIfInBounds_toArray, List.set_cons_zero, List.set_cons_succ]
    refine wpAnyH_take (i := 26) (oi := ⟨some 152, _, _, _, _, _⟩) (v := ?_) rfl (by kernel_rfl) (by kernel_rfl) (by kernel_rfl) (fun _ _ _ h => h) (Or.inl ⟨by rfl, ?_⟩) (by assumption) ?_
    rotate_left
    · intro w hSw; (try dsimp only at hSw); go_simp; try with_reducible rfl
    simp only [Act.put, List.setIfInBounds_toArray, List.set_cons_zero, List.set_cons_succ]
    refine wpAnyH_ready (rs := [27]) (by kernel_rfl) (by simp) ?_
    refine AllReadyH.cons (o := ⟨some 153, _, _, _, _, _⟩) rfl (fun Kq hKq => ?_) AllReadyH.nil
    go_simp
    go_at_call 34
    refine (lpints _ a1 a3 Q.out.length c1 c3 (li Q.out) I1.out I3.out (by omega)).mono ?_
    rintro e q4 ⟨rfl, hg⟩
    replace G := Lib.hid (gtr G.out hg)
    replace I := Lib.hid (I.out.kept hg)
    replace J := Lib.hid (J.out.kept hg)
    replace X := Lib.hid (X.out.kept hg)
    replace Y := Lib.hid (Y.out.kept hg)
    replace T := Lib.hid (T.out.kept hg)
    replace I1 := Lib.hid (I1.out.kept hg)
    replace Z1 := Lib.hid (Z1.out.kept hg)
    replace I2 := Lib.hid (I2.out.kept hg)
    replace Z2 := Lib.hid (Z2.out.kept hg)
    replace I3 := Lib.hid (I3.out.kept hg)
    replace Z3 := Lib.hid (Z3.out.kept hg)
    replace I4 := Lib.hid (I4.out.kept hg)
    replace Z4 := Lib.hid (Z4.out.kept hg)
    clear hg
    refine hKq.out _ _ (⟨Z1.out.c0, Z1.out.c1, Y.out.c0, Y.out.c1, Z2.out.c0, Z2.out.c1, T.out.c0, T.out.c1, Z3.out.c0, Z3.out.c1, X.out.c0, X.out.c1, Z4.out.c0, Z4.out.c1⟩) (fun hHeld => ?_)
    clear hKq Kq
    refine wpAnyH_take (i := 28) (oi := ⟨some 154, _, _, _, _, _⟩) (v := ?_) rfl (by kernel_rfl) (by kernel_rfl) (by kernel_rfl) (fun _ _ _ h => h) (Or.inl ⟨by rfl, ?_⟩) (by assumption) ?_
    rotate_left
    · intro w hSw; (try dsimp only at hSw); go_simp; try with_reducible rfl
    simp only [Act.put, List.setIfInBounds_toArray, List.set_cons_zero, List.set_cons_succ]
    refine wpAnyH_take (i := 29) (oi := ⟨some 155, _, _, _, _, _⟩) (v := ?_) rfl (by kernel_rfl) (by kernel_rfl) (by kernel_rfl) (fun _ _ _ h => h) (Or.inl ⟨by rfl, ?_⟩) (by assumption) ?_
    rotate_left
    · intro w hSw; (try dsimp only at hSw); go_simp; try with_reducible rfl
    simp only [Act.put, List.setIfInBounds_toArray, List.set_cons_zero, List.set_cons_succ]
    refine wpAnyH_take (i := 30) (oi := ⟨some 156, _, _, _, _, _⟩) (v := ?_) rfl (by kernel_rfl) (by kernel_rfl) (by kernel_rfl) (fun _ _ _ h => h) (Or.inl ⟨by rfl, ?_⟩) (by assumption) ?_
    rotate_left
    · intro w hSw; (try dsimp only at hSw); go_simp; try with_reducible rfl
    simp only [Act.put, List.setIfInBounds_toArray, List.set_cons_zero, List.set_cons_succ]
    refine wpAnyH_take (i := 31) (oi := ⟨some 157, _, _, _, _, _⟩) (v := ?_) rfl (by kernel_rfl) (by kernel_rfl) (by kernel_rfl) (fun _ _ _ h => h) (Or.inl ⟨by rfl, ?_⟩) (by assumption) ?_
    rotate_left
    · intro w hSw; (try dsimp only at hSw); go_simp; try with_reducible rfl
    simp only [Act.put, List.setIfInBounds_toArray, List.set_cons_zero, List.set_cons_succ]
    refine wpAnyH_ready (rs := [32]) (by kernel_rfl) (by simp) ?_
    refine AllReadyH.cons (o := ⟨some 158, _, _, _, _, _⟩) rfl (fun Kq hKq => ?_) AllReadyH.nil
    go_simp
    go_at_call 34
    refine (lpints _ a3 a4 Q.out.length c3 c4 (li Q.out) I3.out I4.out (by omega)).mono ?_
    rintro e q5 ⟨rfl, hg⟩
    replace G := Lib.hid (gtr G.out hg)
    replace I := Lib.hid (I.out.kept hg)
    replace J := Lib.hid (J.out.kept hg)
    replace X := Lib.hid (X.out.kept hg)
    replace Y := Lib.hid (Y.out.kept hg)
    replace T := Lib.hid (T.out.kept hg)
    replace I1 := Lib.hid (I1.out.kept hg)
    replace Z1 := Lib.hid (Z1.out.kept hg)
    replace I2 := Lib.hid (I2.out.kept hg)
    replace Z2 := Lib.hid (Z2.out.kept hg)
    replace I3 := Lib.hid (I3.out.kept hg)
    replace Z3 := Lib.hid (Z3.out.kept hg)
    replace I4 := Lib.hid (I4.out.kept hg)
    replace Z4 := Lib.hid (Z4.out.kept hg)
    clear hg
    refine hKq.out _ _ (⟨Z1.out.c0, Z1.out.c1, Y.out.c0, Y.out.c1, Z2.out.c0, Z2.out.c1, T.out.c0, T.out.c1, Z3.out.c0, Z3.out.c1, X.out.c0, X.out.c1, Z4.out.c0, Z4.out.c1⟩) (fun hHeld => ?_)
    clear hKq Kq
    refine wpAnyH_take (i := 33) (oi := ⟨some 159, _, _, _, _, _⟩) (v := ?_) rfl (by kernel_rfl) (by kernel_rfl) (by kernel_rfl) (fun _ _ _ h => h) (Or.inl ⟨by rfl, ?_⟩) (by assumption) ?_
    rotate_left
    · intro w hSw; (try dsimp only at hSw); go_simp; try with_reducible rfl
    simp only [Act.put, List.setIfInBounds_toArray, List.set_cons_zero, List.set_cons_succ]
    refine wpAnyH_take (i := 34) (oi := ⟨some 160, _, _, _, _, _⟩) (v := ?_) rfl (by kernel_rfl) (by kernel_rfl) (by kernel_rfl) (fun _ _ _ h => h) (Or.inl ⟨by rfl, ?_⟩) (by assumption) ?_
    rotate_left
    · intro w hSw; (try dsimp only at hSw); go_simp; try with_reducible rfl
    simp only [Act.put, List.setIfInBounds_toArray, List.set_cons_zero, List.set_cons_succ]
    refine wpAnyH_take (i := 35) (oi := ⟨some 161, _, _, _, _, _⟩) (v := ?_) rfl (by kernel_rfl) (by kernel_rfl) (by kernel_rfl) (fun _ _ _ h => h) (Or.inl ⟨by rfl, ?_⟩) (by assumption) ?_
    rotate_left
    · intro w hSw; (try dsimp only at hSw); go_simp; try with_reducible rfl
    simp only [Act.put, List.setIfInBounds_toArray, List.set_cons_zero, List.set_cons_succ]
    refine wpAnyH_take (i := 36) (oi := ⟨some 162, _, _, _, _, _⟩) (v := ?_) rfl (by kernel_rfl) (by kernel_rfl) (by kernel_rfl) (fun _ _ _ h => h) (Or.inl ⟨by rfl, ?_⟩) (by assumption) ?_
    rotate_left
    · intro w hSw; (try dsimp only at hSw); go_simp; try with_reducible rfl
    simp only [Act.put, List.setIfInBounds_toArray, List.set_cons_zero, List.set_cons_succ]
    refine wpAnyH_take (i := 37) (oi := ⟨some 163, _, _, _, _, _⟩) (v := ?_) rfl (by kernel_rfl) (by kernel_rfl) (by kernel_rfl) (fun _ _ _ h => h) (Or.inl ⟨by rfl, ?_⟩) (by assumption) ?_
    rotate_left
    · intro w hSw; (try dsimp only at hSw); go_simp; try with_reducible rfl
    simp only [Act.put, List.setIfInBounds_toArray, List.set_cons_zero, List.set_cons_succ]
    refine wpAnyH_take (i := 38) (oi := ⟨some 164, _, _, _, _, _⟩) (v := ?_) rfl (by kernel_rfl) (by kernel_rfl) (by kernel_rfl) (fun _ _ _ h => h) (Or.inl ⟨by rfl, ?_⟩) (by assumption) ?_
    rotate_left
    · intro w hSw; (try dsimp only at hSw); go_simp; try with_reducible rfl
    simp only [Act.put, List.setIfInBounds_toArray, List.set_cons_zero, List.set_cons_succ]
    refine wpAnyH_take (i := 39) (oi := ⟨some 165, _, _, _, _, _⟩) (v := ?_) rfl (by kernel_rfl) (by kernel_rfl) (by kernel_rfl) (fun _ _ _ h => h) (Or.inl ⟨by rfl, ?_⟩) (by assumption) ?_
    rotate_left
    · intro w hSw; (try dsimp only at hSw); go_simp; try with_reducible rfl
    simp only [Act.put, List.setIfInBounds_toArray, List.set_cons_zero, List.set_cons_succ]
    refine wpAnyH_take (i := 40) (oi := ⟨some 166, _, _, _, _, _⟩) (v := ?_) rfl (by kernel_rfl) (by kernel_rfl) (by kernel_rfl) (fun _ _ _ h => h) (Or.inl ⟨by rfl, ?_⟩) (by assumption) ?_
    rotate_left
    · intro w hSw; (try dsimp only at hSw); go_simp; try with_reducible rfl
    simp only [Act.put, List.setIfInBounds_toArray, List.set_cons_zero, List.set_cons_succ]
    refine wpAnyH_take (i := 41) (oi := ⟨some 167, _, _, _, _, _⟩) (v := ?_) rfl (by kernel_rfl) (by kernel_rfl) (by kernel_rfl) (fun _ _ _ h => h) (Or.inl ⟨by rfl, ?_⟩) (by assumption) ?_
    rotate_left
    · intro w hSw; (try dsimp only at hSw); go_simp; try with_reducible rfl
    simp only [Act.put, List.setIfInBounds_toArray, List.set_cons_zero, List.set_cons_succ]
    refine wpAnyH_take (i := 42) (oi := ⟨some 2, _, _, _, _, _⟩) (v := ?_) rfl (by kernel_rfl) (by kernel_rfl) (by kernel_rfl) (fun _ _ _ h => h) (Or.inl ⟨by rfl, ?_⟩) (by assumption) ?_
    rotate_left
    · intro w hSw; (try dsimp only at hSw); go_simp; try with_reducible rfl
    simp only [Act.put, List.setIfInBounds_toArray, List.set_cons_zero, List.set_cons_succ]
    refine wpAnyH_done (by kernel_rfl) ?_ _
    go_wp2
    go_ret
    exact ⟨Mem.ret_b (by have := HOL2.out; simp <;> omega), Draw.below_of G.out⟩
  · have HNE := Lib.hid hne
    unfold Ok at hos
    have HLT := Lib.hid (show Q.n < Q.s by omega)
    clear hne hos
    refine (ibtake_yes _ Q.n Q.s HQ.out.ok HNE.out).mono ?_
    rintro e v1 ⟨rfl, hg⟩
    replace G := Lib.hid (gtr G.out hg)
    replace I := Lib.hid (I.out.kept hg)
    replace J := Lib.hid (J.out.kept hg)
    replace X := Lib.hid (X.out.kept hg)
    replace Y := Lib.hid (Y.out.kept hg)
    clear hg
    go_wp2_with (refine stop_store rfl ?_)
    refine ⟨trivial, ?_⟩
    refine wpList_store_blk rfl 24 (.tmp 13) (.tmp 89) _ _ _ 24 (Blk.new v1 #[.int .i64 0, .int .i64 0] 24) rfl rfl rfl rfl (by kernel_rfl) (by simp [Value.oneCell']) rfl ?_
    intro v2 hgV hT
    have hg : (v1).grownBy v2 none := grown_new (Draw.grown_alloc v1 (.cells #[.int .i64 0, .int .i64 0] 24) none) (Nat.le_refl _) hgV
    have T := Lib.hid (Bv.of hT)
    clear hgV hT
    replace G := Lib.hid (gtr G.out hg)
    replace I := Lib.hid (I.out.kept hg)
    replace J := Lib.hid (J.out.kept hg)
    replace X := Lib.hid (X.out.kept hg)
    replace Y := Lib.hid (Y.out.kept hg)
    clear hg
    generalize (v1).heap.size = tb at *
    obtain ⟨o2, ho2⟩ : ∃ o, o = Q.out ++ [Q.n] := ⟨_, rfl⟩
    have hol : o2.length = Q.out.length + 1 := by rw [ho2]; simp
    have HO2 := Lib.hid ho2; have HOL := Lib.hid hol
    clear ho2 hol
    go_wp2_with fail
    refine (ibplay3 _ st ⟨#[107]⟩ _ _ _ (all_k st HQE.out) (by rw [ByteArray.size_append]; exact HU.out)).mono ?_
    rintro e p1 ⟨a1, c1, rfl, hI, hg⟩
    have I1 := Lib.hid hI
    clear hI
    replace G := Lib.hid (gtr G.out hg)
    replace I := Lib.hid (I.out.kept hg)
    replace J := Lib.hid (J.out.kept hg)
    replace X := Lib.hid (X.out.kept hg)
    replace Y := Lib.hid (Y.out.kept hg)
    replace T := Lib.hid (T.out.kept hg)
    clear hg
    go_wp2_with (refine stop_store rfl ?_)
    refine ⟨trivial, ?_⟩
    refine wpList_store_blk rfl 24 (.tmp 16) (.tmp 96) _ _ _ 24 (Blk.new p1 #[.int .i64 0, .int .i64 0] 24) rfl rfl rfl rfl (by kernel_rfl) (by simp [Value.oneCell']) rfl ?_
    intro p2 hgV hT
    have hg : (p1).grownBy p2 none := grown_new (Draw.grown_alloc p1 (.cells #[.int .i64 0, .int .i64 0] 24) none) (Nat.le_refl _) hgV
    have Z1 := Lib.hid (Bv.of hT)
    clear hgV hT
    replace G := Lib.hid (gtr G.out hg)
    replace I := Lib.hid (I.out.kept hg)
    replace J := Lib.hid (J.out.kept hg)
    replace X := Lib.hid (X.out.kept hg)
    replace Y := Lib.hid (Y.out.kept hg)
    replace T := Lib.hid (T.out.kept hg)
    replace I1 := Lib.hid (I1.out.kept hg)
    clear hg
    generalize (p1).heap.size = z1 at *
    go_wp2_with fail
    refine (ibplay3 _ st ⟨#[116]⟩ _ _ _ (all_t st HQE.out (by have := HLT.out; omega) HO2.out) (by rw [ByteArray.size_append]; exact HU.out)).mono ?_
    rintro e p3 ⟨a2, c2, rfl, hI, hg⟩
    have I2 := Lib.hid hI
    clear hI
    replace G := Lib.hid (gtr G.out hg)
    replace I := Lib.hid (I.out.kept hg)
    replace J := Lib.hid (J.out.kept hg)
    replace X := Lib.hid (X.out.kept hg)
    replace Y := Lib.hid (Y.out.kept hg)
    replace T := Lib.hid (T.out.kept hg)
    replace I1 := Lib.hid (I1.out.kept hg)
    replace Z1 := Lib.hid (Z1.out.kept hg)
    clear hg
    go_wp2_with (refine stop_store rfl ?_)
    refine ⟨trivial, ?_⟩
    refine wpList_store_blk rfl 24 (.tmp 19) (.tmp 103) _ _ _ 24 (Blk.new p3 #[.int .i64 0, .int .i64 0] 24) rfl rfl rfl rfl (by kernel_rfl) (by simp [Value.oneCell']) rfl ?_
    intro p4 hgV hT
    have hg : (p3).grownBy p4 none := grown_new (Draw.grown_alloc p3 (.cells #[.int .i64 0, .int .i64 0] 24) none) (Nat.le_refl _) hgV
    have Z2 := Lib.hid (Bv.of hT)
    clear hgV hT
    replace G := Lib.hid (gtr G.out hg)
    replace I := Lib.hid (I.out.kept hg)
    replace J := Lib.hid (J.out.kept hg)
    replace X := Lib.hid (X.out.kept hg)
    replace Y := Lib.hid (Y.out.kept hg)
    replace T := Lib.hid (T.out.kept hg)
    replace I1 := Lib.hid (I1.out.kept hg)
    replace Z1 := Lib.hid (Z1.out.kept hg)
    replace I2 := Lib.hid (I2.out.kept hg)
    clear hg
    generalize (p3).heap.size = z2 at *
    go_wp2_with fail
    refine (ibplay3 _ st ⟨#[102]⟩ _ _ _ (all_f st HQE.out) (by rw [ByteArray.size_append]; exact HU.out)).mono ?_
    rintro e p5 ⟨a3, c3, rfl, hI, hg⟩
    have I3 := Lib.hid hI
    clear hI
    replace G := Lib.hid (gtr G.out hg)
    replace I := Lib.hid (I.out.kept hg)
    replace J := Lib.hid (J.out.kept hg)
    replace X := Lib.hid (X.out.kept hg)
    replace Y := Lib.hid (Y.out.kept hg)
    replace T := Lib.hid (T.out.kept hg)
    replace I1 := Lib.hid (I1.out.kept hg)
    replace Z1 := Lib.hid (Z1.out.kept hg)
    replace I2 := Lib.hid (I2.out.kept hg)
    replace Z2 := Lib.hid (Z2.out.kept hg)
    clear hg
    go_wp2_with (refine stop_store rfl ?_)
    refine ⟨trivial, ?_⟩
    refine wpList_store_blk rfl 24 (.tmp 22) (.tmp 110) _ _ _ 24 (Blk.new p5 #[.int .i64 0, .int .i64 0] 24) rfl rfl rfl rfl (by kernel_rfl) (by simp [Value.oneCell']) rfl ?_
    intro p6 hgV hT
    have hg : (p5).grownBy p6 none := grown_new (Draw.grown_alloc p5 (.cells #[.int .i64 0, .int .i64 0] 24) none) (Nat.le_refl _) hgV
    have Z3 := Lib.hid (Bv.of hT)
    clear hgV hT
    replace G := Lib.hid (gtr G.out hg)
    replace I := Lib.hid (I.out.kept hg)
    replace J := Lib.hid (J.out.kept hg)
    replace X := Lib.hid (X.out.kept hg)
    replace Y := Lib.hid (Y.out.kept hg)
    replace T := Lib.hid (T.out.kept hg)
    replace I1 := Lib.hid (I1.out.kept hg)
    replace Z1 := Lib.hid (Z1.out.kept hg)
    replace I2 := Lib.hid (I2.out.kept hg)
    replace Z2 := Lib.hid (Z2.out.kept hg)
    replace I3 := Lib.hid (I3.out.kept hg)
    clear hg
    generalize (p5).heap.size = z3 at *
    go_wp2_with fail
    refine (ibplay3 _ st ⟨#[120]⟩ _ _ _ (all_x st HQE.out) (by rw [ByteArray.size_append]; exact HU.out)).mono ?_
    rintro e p7 ⟨a4, c4, rfl, hI, hg⟩
    have I4 := Lib.hid hI
    clear hI
    replace G := Lib.hid (gtr G.out hg)
    replace I := Lib.hid (I.out.kept hg)
    replace J := Lib.hid (J.out.kept hg)
    replace X := Lib.hid (X.out.kept hg)
    replace Y := Lib.hid (Y.out.kept hg)
    replace T := Lib.hid (T.out.kept hg)
    replace I1 := Lib.hid (I1.out.kept hg)
    replace Z1 := Lib.hid (Z1.out.kept hg)
    replace I2 := Lib.hid (I2.out.kept hg)
    replace Z2 := Lib.hid (Z2.out.kept hg)
    replace I3 := Lib.hid (I3.out.kept hg)
    replace Z3 := Lib.hid (Z3.out.kept hg)
    clear hg
    go_wp2_with (refine stop_store rfl ?_)
    refine ⟨trivial, ?_⟩
    refine wpList_store_blk rfl 24 (.tmp 25) (.tmp 117) _ _ _ 24 (Blk.new p7 #[.int .i64 0, .int .i64 0] 24) rfl rfl rfl rfl (by kernel_rfl) (by simp [Value.oneCell']) rfl ?_
    intro p8 hgV hT
    have hg : (p7).grownBy p8 none := grown_new (Draw.grown_alloc p7 (.cells #[.int .i64 0, .int .i64 0] 24) none) (Nat.le_refl _) hgV
    have Z4 := Lib.hid (Bv.of hT)
    clear hgV hT
    replace G := Lib.hid (gtr G.out hg)
    replace I := Lib.hid (I.out.kept hg)
    replace J := Lib.hid (J.out.kept hg)
    replace X := Lib.hid (X.out.kept hg)
    replace Y := Lib.hid (Y.out.kept hg)
    replace T := Lib.hid (T.out.kept hg)
    replace I1 := Lib.hid (I1.out.kept hg)
    replace Z1 := Lib.hid (Z1.out.kept hg)
    replace I2 := Lib.hid (I2.out.kept hg)
    replace Z2 := Lib.hid (Z2.out.kept hg)
    replace I3 := Lib.hid (I3.out.kept hg)
    replace Z3 := Lib.hid (Z3.out.kept hg)
    replace I4 := Lib.hid (I4.out.kept hg)
    clear hg
    generalize (p7).heap.size = z4 at *
    have hsl := ints_sl (c := cu) J.out
    have HE := Lib.hid (row_empty p8 3 (li [])).owns
    have HJ := Lib.hid (J.out.kept (Draw.grown_alloc p8 (.cells #[] 3) none))
    have hw8 := G.out.size
    obtain ⟨i0, hi, hz0, hz1, hz2⟩ := info_parts info_int
    go_wp2_with (at_builtin; refine stop_here ?_)
    refine ⟨trivial, ?_⟩
    refine wpList_append_whole rfl (.tmp 120) (.tmp 121) rfl p8.heap.size p8.heap.size rfl HE.out au Q.out.length cu (li Q.out) rfl HJ.out hsl (by omega) (by rw [World.size_alloc]; omega) ?_
    intro bA cA q0 hIA hgA
    have hg0 := grown_new (Draw.grown_alloc p8 (.cells #[] 3) none) (Nat.le_refl _) hgA
    have hqs : p8.heap.size ≤ q0.heap.size := hg0.size
    have hla := hIA.le
    have HIA := Lib.hid hIA
    have HG0 := Lib.hid hg0
    clear hgA hIA HE HJ hsl hg0
    have HZ := Lib.hid (HIA.out.keptN (Draw.grown_alloc q0 (.cells #[.int .i64 Q.n] 3) none))
    go_wp2_with (at_builtin; refine stop_here ?_)
    refine ⟨trivial, ?_⟩
    refine wpList_append_own _ rfl _ _ 34 rfl p8.heap.size 3 i0 (.int .i64 0) 1 8 und_ints hi hz0 hz1 hz2 rfl (by decide) _ _ (vals (li Q.out) Q.out.length) rfl HZ.out ⟨q0.heap.size, 0, none⟩ 1 1 [.int .i64 Q.n] rfl rfl (cell_one_new _ _ _) (by simp [Value.oneCell']) (by unfold maxLen; omega) (by omega) (by simp; omega) ?_
    intro v' q6 hown' hgrow _
    have hLs := Lst.app hown'
    rw [← HO2.out] at hLs
    obtain ⟨a9, c9, rfl, hI9, _, _⟩ := hLs.slice
    have I9 := Lib.hid hI9
    have hg := own_grownW (gtr HG0.out (Draw.grown_alloc q0 (.cells #[.int .i64 Q.n] 3) none)) HZ.out (Nat.le_refl _) hgrow
    clear hLs hI9 hown' hgrow HZ HIA HG0 hqs
    replace G := Lib.hid (gtr G.out hg)
    replace I := Lib.hid (I.out.kept hg)
    replace J := Lib.hid (J.out.kept hg)
    replace X := Lib.hid (X.out.kept hg)
    replace Y := Lib.hid (Y.out.kept hg)
    replace T := Lib.hid (T.out.kept hg)
    replace I1 := Lib.hid (I1.out.kept hg)
    replace Z1 := Lib.hid (Z1.out.kept hg)
    replace I2 := Lib.hid (I2.out.kept hg)
    replace Z2 := Lib.hid (Z2.out.kept hg)
    replace I3 := Lib.hid (I3.out.kept hg)
    replace Z3 := Lib.hid (Z3.out.kept hg)
    replace I4 := Lib.hid (I4.out.kept hg)
    replace Z4 := Lib.hid (Z4.out.kept hg)
    clear hg
    go_wp2_with fail
    have hol := HOL.out
    have hw1 : IntKind.i64.wrap ((o2.length : Int) - (Q.out.length : Int)) = (o2.length : Int) - (Q.out.length : Int) := IntWalk.i64_in _ (by omega)
    have HOL2 := Lib.hid hol; clear hol
    refine wp_region_held_drew (S := (fun w' => w'.cell? ⟨z1, 0, none⟩ = some (.int .i64 Q.n) ∧ w'.cell? ⟨z1, 1, none⟩ = some (.int .i64 (kS Q.n Q.s)) ∧ w'.cell? ⟨yb, 0, none⟩ = some (.int .i64 Q.n) ∧ w'.cell? ⟨yb, 1, none⟩ = some (.int .i64 (kS Q.n Q.s)) ∧ w'.cell? ⟨z2, 0, none⟩ = some (.int .i64 (Q.n + 1)) ∧ w'.cell? ⟨z2, 1, none⟩ = some (.int .i64 Q.s) ∧ w'.cell? ⟨tb, 0, none⟩ = some (.int .i64 (Q.n + 1)) ∧ w'.cell? ⟨tb, 1, none⟩ = some (.int .i64 Q.s) ∧ w'.cell? ⟨z3, 0, none⟩ = some (.int .i64 Q.s) ∧ w'.cell? ⟨z3, 1, none⟩ = some (.int .i64 Q.s) ∧ w'.cell? ⟨xb, 0, none⟩ = some (.int .i64 Q.n) ∧ w'.cell? ⟨xb, 1, none⟩ = some (.int .i64 Q.s) ∧ w'.cell? ⟨z4, 0, none⟩ = some (.int .i64 Q.n) ∧ w'.cell? ⟨z4, 1, none⟩ = some (.int .i64 Q.s))) (by kernel_rfl) (⟨Z1.out.c0, Z1.out.c1, Y.out.c0, Y.out.c1, Z2.out.c0, Z2.out.c1, T.out.c0, T.out.c1, Z3.out.c0, Z3.out.c1, X.out.c0, X.out.c1, Z4.out.c0, Z4.out.c1⟩) (fun hHeld => ?_)
    have hg := Draw.gdrew q6
    replace G := Lib.hid (gtr G.out hg)
    replace I := Lib.hid (I.out.kept hg)
    replace J := Lib.hid (J.out.kept hg)
    replace X := Lib.hid (X.out.kept hg)
    replace Y := Lib.hid (Y.out.kept hg)
    replace T := Lib.hid (T.out.kept hg)
    replace I1 := Lib.hid (I1.out.kept hg)
    replace Z1 := Lib.hid (Z1.out.kept hg)
    replace I2 := Lib.hid (I2.out.kept hg)
    replace Z2 := Lib.hid (Z2.out.kept hg)
    replace I3 := Lib.hid (I3.out.kept hg)
    replace Z3 := Lib.hid (Z3.out.kept hg)
    replace I4 := Lib.hid (I4.out.kept hg)
    replace Z4 := Lib.hid (Z4.out.kept hg)
    replace I9 := Lib.hid (I9.out.kept hg)
    clear hg
    generalize (q6).drew = q1 at *
    refine wpAnyH_take (i := 0) (oi := ⟨some 126, _, _, _, _, _⟩) (v := ?_) rfl (by kernel_rfl) (by kernel_rfl) (by kernel_rfl) (fun _ _ _ h => h) (Or.inl ⟨by rfl, ?_⟩) (by assumption) ?_
    rotate_left
    · intro w hSw; (try dsimp only at hSw); go_simp; try with_reducible rfl
    simp only [Act.put, List.setIfInBounds_toArray, List.set_cons_zero, List.set_cons_succ]
    refine wpAnyH_take (i := 1) (oi := ⟨some 127, _, _, _, _, _⟩) (v := ?_) rfl (by kernel_rfl) (by kernel_rfl) (by kernel_rfl) (fun _ _ _ h => h) (Or.inl ⟨by rfl, ?_⟩) (by assumption) ?_
    rotate_left
    · intro w hSw; (try dsimp only at hSw); go_simp; try with_reducible rfl
    simp only [Act.put, List.setIfInBounds_toArray, List.set_cons_zero, List.set_cons_succ]
    refine wpAnyH_take (i := 2) (oi := ⟨some 128, _, _, _, _, _⟩) (v := ?_) rfl (by kernel_rfl) (by kernel_rfl) (by kernel_rfl) (fun _ _ _ h => h) (Or.inl ⟨by rfl, ?_⟩) (by assumption) ?_
    rotate_left
    · intro w hSw; (try dsimp only at hSw); go_simp; try with_reducible rfl
    simp only [Act.put, List.setIfInBounds_toArray, List.set_cons_zero, List.set_cons_succ]
    refine wpAnyH_take (i := 3) (oi := ⟨some 129, _, _, _, _, _⟩) (v := ?_) rfl (by kernel_rfl) (by kernel_rfl) (by kernel_rfl) (fun _ _ _ h => h) (Or.inl ⟨by rfl, ?_⟩) (by assumption) ?_
    rotate_left
    · intro w hSw; (try dsimp only at hSw); go_simp; try with_reducible rfl
    simp only [Act.put, List.setIfInBounds_toArray, List.set_cons_zero, List.set_cons_succ]
    refine wpAnyH_take (i := 4) (oi := ⟨some 130, _, _, _, _, _⟩) (v := ?_) rfl (by kernel_rfl) (by kernel_rfl) (by kernel_rfl) (fun _ _ _ h => h) (Or.inl ⟨by rfl, ?_⟩) (by assumption) ?_
    rotate_left
    · intro w hSw; (try dsimp only at hSw); go_simp; try with_reducible rfl
    simp only [Act.put, List.setIfInBounds_toArray, List.set_cons_zero, List.set_cons_succ]
    refine wpAnyH_take (i := 5) (oi := ⟨some 131, _, _, _, _, _⟩) (v := ?_) rfl (by kernel_rfl) (by kernel_rfl) (by kernel_rfl) (fun _ _ _ h => h) (Or.inl ⟨by rfl, ?_⟩) (by assumption) ?_
    rotate_left
    · intro w hSw; (try dsimp only at hSw); go_simp; try with_reducible rfl
    simp only [Act.put, List.setIfInBounds_toArray, List.set_cons_zero, List.set_cons_succ]
    refine wpAnyH_take (i := 6) (oi := ⟨some 132, _, _, _, _, _⟩) (v := ?_) rfl (by kernel_rfl) (by kernel_rfl) (by kernel_rfl) (fun _ _ _ h => h) (Or.inl ⟨by rfl, ?_⟩) (by assumption) ?_
    rotate_left
    · intro w hSw; (try dsimp only at hSw); go_simp; try with_reducible rfl
    simp only [Act.put, List.setIfInBounds_toArray, List.set_cons_zero, List.set_cons_succ]
    refine wpAnyH_take (i := 7) (oi := ⟨some 133, _, _, _, _, _⟩) (v := ?_) rfl (by kernel_rfl) (by kernel_rfl) (by kernel_rfl) (fun _ _ _ h => h) (Or.inl ⟨by rfl, ?_⟩) (by assumption) ?_
    rotate_left
    · intro w hSw; (try dsimp only at hSw); go_simp; try with_reducible rfl
    simp only [Act.put, List.setIfInBounds_toArray, List.set_cons_zero, List.set_cons_succ]
    refine wpAnyH_take (i := 8) (oi := ⟨some 134, _, _, _, _, _⟩) (v := ?_) rfl (by kernel_rfl) (by kernel_rfl) (by kernel_rfl) (fun _ _ _ h => h) (Or.inl ⟨by rfl, ?_⟩) (by assumption) ?_
    rotate_left
    · intro w hSw; (try dsimp only at hSw); go_simp; try with_reducible rfl
    simp only [Act.put, List.setIfInBounds_toArray, List.set_cons_zero, List.set_cons_succ]
    refine wpAnyH_take (i := 9) (oi := ⟨some 135, _, _, _, _, _⟩) (v := ?_) rfl (by kernel_rfl) (by kernel_rfl) (by kernel_rfl) (fun _ _ _ h => h) (Or.inl ⟨by rfl, ?_⟩) (by assumption) ?_
    rotate_left
    · intro w hSw; (try dsimp only at hSw); go_simp; try with_reducible rfl
    simp only [Act.put, List.setIfInBounds_toArray, List.set_cons_zero, List.set_cons_succ]
    refine wpAnyH_take (i := 10) (oi := ⟨some 136, _, _, _, _, _⟩) (v := ?_) rfl (by kernel_rfl) (by kernel_rfl) (by kernel_rfl) (fun _ _ _ h => h) (Or.inl ⟨by rfl, ?_⟩) (by assumption) ?_
    rotate_left
    · intro w hSw; (try dsimp only at hSw); go_simp; try with_reducible rfl
    simp only [Act.put, List.setIfInBounds_toArray, List.set_cons_zero, List.set_cons_succ]
    refine wpAnyH_ready (rs := [11]) (by kernel_rfl) (by simp) ?_
    refine AllReadyH.cons (o := ⟨some 137, _, _, _, _, _⟩) rfl (fun Kq hKq => ?_) AllReadyH.nil
    go_simp
    go_at_call 29
    refine (ibfall_yes _ Q.n Q.s HQ.out.ok).mono ?_
    rintro e q2 ⟨rfl, hg⟩
    replace G := Lib.hid (gtr G.out hg)
    replace I := Lib.hid (I.out.kept hg)
    replace J := Lib.hid (J.out.kept hg)
    replace X := Lib.hid (X.out.kept hg)
    replace Y := Lib.hid (Y.out.kept hg)
    replace T := Lib.hid (T.out.kept hg)
    replace I1 := Lib.hid (I1.out.kept hg)
    replace Z1 := Lib.hid (Z1.out.kept hg)
    replace I2 := Lib.hid (I2.out.kept hg)
    replace Z2 := Lib.hid (Z2.out.kept hg)
    replace I3 := Lib.hid (I3.out.kept hg)
    replace Z3 := Lib.hid (Z3.out.kept hg)
    replace I4 := Lib.hid (I4.out.kept hg)
    replace Z4 := Lib.hid (Z4.out.kept hg)
    replace I9 := Lib.hid (I9.out.kept hg)
    clear hg
    refine hKq.out _ _ (⟨Z1.out.c0, Z1.out.c1, Y.out.c0, Y.out.c1, Z2.out.c0, Z2.out.c1, T.out.c0, T.out.c1, Z3.out.c0, Z3.out.c1, X.out.c0, X.out.c1, Z4.out.c0, Z4.out.c1⟩) (fun hHeld => ?_)
    clear hKq Kq
    refine wpAnyH_take (i := 12) (oi := ⟨some 138, _, _, _, _, _⟩) (v := ?_) rfl (by kernel_rfl) (by kernel_rfl) (by kernel_rfl) (fun _ _ _ h => h) (Or.inl ⟨by rfl, ?_⟩) (by assumption) ?_
    rotate_left
    · intro w hSw; (try dsimp only at hSw); go_simp; try with_reducible rfl
    simp only [Act.put, List.setIfInBounds_toArray, List.set_cons_zero, List.set_cons_succ]
    refine wpAnyH_take (i := 13) (oi := ⟨some 139, _, _, _, _, _⟩) (v := ?_) rfl (by kernel_rfl) (by kernel_rfl) (by kernel_rfl) (fun _ _ _ h => h) (Or.inl ⟨by rfl, ?_⟩) (by assumption) ?_
    rotate_left
    · intro w hSw; (try dsimp only at hSw); go_simp; try with_reducible rfl
    simp only [Act.put, List.setIfInBounds_toArray, List.set_cons_zero, List.set_cons_succ]
    refine wpAnyH_take (i := 14) (oi := ⟨some 140, _, _, _, _, _⟩) (v := ?_) rfl (by kernel_rfl) (by kernel_rfl) (by kernel_rfl) (fun _ _ _ h => h) (Or.inl ⟨by rfl, ?_⟩) (by assumption) ?_
    rotate_left
    · intro w hSw; (try dsimp only at hSw); go_simp; try with_reducible rfl
    simp only [Act.put, List.setIfInBounds_toArray, List.set_cons_zero, List.set_cons_succ]
    refine wpAnyH_take (i := 15) (oi := ⟨some 141, _, _, _, _, _⟩) (v := ?_) rfl (by kernel_rfl) (by kernel_rfl) (by kernel_rfl) (fun _ _ _ h => h) (Or.inl ⟨by rfl, ?_⟩) (by assumption) ?_
    rotate_left
    · intro w hSw; (try dsimp only at hSw); go_simp; try with_reducible rfl
    simp only [Act.put, List.setIfInBounds_toArray, List.set_cons_zero, List.set_cons_succ]
    refine wpAnyH_take (i := 16) (oi := ⟨some 142, _, _, _, _, _⟩) (v := ?_) rfl (by kernel_rfl) (by kernel_rfl) (by kernel_rfl) (fun _ _ _ h => h) (Or.inl ⟨by rfl, ?_⟩) (by assumption) ?_
    rotate_left
    · intro w hSw; (try dsimp only at hSw); go_simp; try with_reducible rfl
    simp only [Act.put, List.setIfInBounds_toArray, List.set_cons_zero, List.set_cons_succ]
    refine wpAnyH_take (i := 17) (oi := ⟨some 143, _, _, _, _, _⟩) (v := ?_) rfl (by kernel_rfl) (by kernel_rfl) (by kernel_rfl) (fun _ _ _ h => h) (Or.inl ⟨by rfl, ?_⟩) (by assumption) ?_
    rotate_left
    · intro w hSw; (try dsimp only at hSw); go_simp; try with_reducible rfl
    simp only [Act.put, List.setIfInBounds_toArray, List.set_cons_zero, List.set_cons_succ]
    refine wpAnyH_take (i := 18) (oi := ⟨some 144, _, _, _, _, _⟩) (v := ?_) rfl (by kernel_rfl) (by kernel_rfl) (by kernel_rfl) (fun _ _ _ h => h) (Or.inl ⟨by rfl, ?_⟩) (by assumption) ?_
    rotate_left
    · intro w hSw; (try dsimp only at hSw); go_simp; try with_reducible rfl
    simp only [Act.put, List.setIfInBounds_toArray, List.set_cons_zero, List.set_cons_succ]
    refine wpAnyH_take (i := 19) (oi := ⟨some 145, _, _, _, _, _⟩) (v := ?_) rfl (by kernel_rfl) (by kernel_rfl) (by kernel_rfl) (fun _ _ _ h => h) (Or.inl ⟨by rfl, ?_⟩) (by assumption) ?_
    rotate_left
    · intro w hSw; (try dsimp only at hSw); go_simp; try with_reducible rfl
    simp only [Act.put, List.setIfInBounds_toArray, List.set_cons_zero, List.set_cons_succ]
    refine wpAnyH_take (i := 20) (oi := ⟨some 146, _, _, _, _, _⟩) (v := ?_) rfl (by kernel_rfl) (by kernel_rfl) (by kernel_rfl) (fun _ _ _ h => h) (Or.inl ⟨by rfl, ?_⟩) (by assumption) ?_
    rotate_left
    · intro w hSw; (try dsimp only at hSw); go_simp; try with_reducible rfl
    simp only [Act.put, List.setIfInBounds_toArray, List.set_cons_zero, List.set_cons_succ]
    refine wpAnyH_take (i := 21) (oi := ⟨some 147, _, _, _, _, _⟩) (v := ?_) rfl (by kernel_rfl) (by kernel_rfl) (by kernel_rfl) (fun _ _ _ h => h) (Or.inl ⟨by rfl, ?_⟩) (by assumption) ?_
    rotate_left
    · intro w hSw; (try dsimp only at hSw); go_simp; try with_reducible rfl
    simp only [Act.put, List.setIfInBounds_toArray, List.set_cons_zero, List.set_cons_succ]
    refine wpAnyH_ready (rs := [22]) (by kernel_rfl) (by simp) ?_
    refine AllReadyH.cons (o := ⟨some 148, _, _, _, _, _⟩) rfl (fun Kq hKq => ?_) AllReadyH.nil
    go_simp
    go_at_call 34
    refine (lpints _ a2 a9 o2.length c2 c9 (li o2) I2.out I9.out (by have := HOL2.out; omega)).mono ?_
    rintro e q3 ⟨rfl, hg⟩
    replace G := Lib.hid (gtr G.out hg)
    replace I := Lib.hid (I.out.kept hg)
    replace J := Lib.hid (J.out.kept hg)
    replace X := Lib.hid (X.out.kept hg)
    replace Y := Lib.hid (Y.out.kept hg)
    replace T := Lib.hid (T.out.kept hg)
    replace I1 := Lib.hid (I1.out.kept hg)
    replace Z1 := Lib.hid (Z1.out.kept hg)
    replace I2 := Lib.hid (I2.out.kept hg)
    replace Z2 := Lib.hid (Z2.out.kept hg)
    replace I3 := Lib.hid (I3.out.kept hg)
    replace Z3 := Lib.hid (Z3.out.kept hg)
    replace I4 := Lib.hid (I4.out.kept hg)
    replace Z4 := Lib.hid (Z4.out.kept hg)
    replace I9 := Lib.hid (I9.out.kept hg)
    clear hg
    refine hKq.out _ _ (⟨Z1.out.c0, Z1.out.c1, Y.out.c0, Y.out.c1, Z2.out.c0, Z2.out.c1, T.out.c0, T.out.c1, Z3.out.c0, Z3.out.c1, X.out.c0, X.out.c1, Z4.out.c0, Z4.out.c1⟩) (fun hHeld => ?_)
    clear hKq Kq
    refine wpAnyH_take (i := 23) (oi := ⟨some 149, _, _, _, _, _⟩) (v := ?_) rfl (by kernel_rfl) (by kernel_rfl) (by kernel_rfl) (fun _ _ _ h => h) (Or.inl ⟨by rfl, ?_⟩) (by assumption) ?_
    rotate_left
    · intro w hSw; (try dsimp only at hSw); go_simp; try with_reducible rfl
    simp only [Act.put, List.setIfInBounds_toArray, List.set_cons_zero, List.set_cons_succ]
    refine wpAnyH_take (i := 24) (oi := ⟨some 150, _, _, _, _, _⟩) (v := ?_) rfl (by kernel_rfl) (by kernel_rfl) (by kernel_rfl) (fun _ _ _ h => h) (Or.inl ⟨by rfl, ?_⟩) (by assumption) ?_
    rotate_left
    · intro w hSw; (try dsimp only at hSw); go_simp; try with_reducible rfl
    simp only [Act.put, List.setIfInBounds_toArray, List.set_cons_zero, List.set_cons_succ]
    refine wpAnyH_take (i := 25) (oi := ⟨some 151, _, _, _, _, _⟩) (v := ?_) rfl (by kernel_rfl) (by kernel_rfl) (by kernel_rfl) (fun _ _ _ h => h) (Or.inl ⟨by rfl, ?_⟩) (by assumption) ?_
    rotate_left
    · intro w hSw; (try dsimp only at hSw); go_simp; try with_reducible rfl
    simp only [Act.put, List.setIfInBounds_toArray, List.set_cons_zero, List.set_cons_succ]
    refine wpAnyH_take (i := 26) (oi := ⟨some 152, _, _, _, _, _⟩) (v := ?_) rfl (by kernel_rfl) (by kernel_rfl) (by kernel_rfl) (fun _ _ _ h => h) (Or.inl ⟨by rfl, ?_⟩) (by assumption) ?_
    rotate_left
    · intro w hSw; (try dsimp only at hSw); go_simp; try with_reducible rfl
    simp only [Act.put, List.setIfInBounds_toArray, List.set_cons_zero, List.set_cons_succ]
    refine wpAnyH_ready (rs := [27]) (by kernel_rfl) (by simp) ?_
    refine AllReadyH.cons (o := ⟨some 153, _, _, _, _, _⟩) rfl (fun Kq hKq => ?_) AllReadyH.nil
    go_simp
    go_at_call 34
    refine (lpints _ a1 a3 Q.out.length c1 c3 (li Q.out) I1.out I3.out (by omega)).mono ?_
    rintro e q4 ⟨rfl, hg⟩
    replace G := Lib.hid (gtr G.out hg)
    replace I := Lib.hid (I.out.kept hg)
    replace J := Lib.hid (J.out.kept hg)
    replace X := Lib.hid (X.out.kept hg)
    replace Y := Lib.hid (Y.out.kept hg)
    replace T := Lib.hid (T.out.kept hg)
    replace I1 := Lib.hid (I1.out.kept hg)
    replace Z1 := Lib.hid (Z1.out.kept hg)
    replace I2 := Lib.hid (I2.out.kept hg)
    replace Z2 := Lib.hid (Z2.out.kept hg)
    replace I3 := Lib.hid (I3.out.kept hg)
    replace Z3 := Lib.hid (Z3.out.kept hg)
    replace I4 := Lib.hid (I4.out.kept hg)
    replace Z4 := Lib.hid (Z4.out.kept hg)
    replace I9 := Lib.hid (I9.out.kept hg)
    clear hg
    refine hKq.out _ _ (⟨Z1.out.c0, Z1.out.c1, Y.out.c0, Y.out.c1, Z2.out.c0, Z2.out.c1, T.out.c0, T.out.c1, Z3.out.c0, Z3.out.c1, X.out.c0, X.out.c1, Z4.out.c0, Z4.out.c1⟩) (fun hHeld => ?_)
    clear hKq Kq
    refine wpAnyH_take (i := 28) (oi := ⟨some 154, _, _, _, _, _⟩) (v := ?_) rfl (by kernel_rfl) (by kernel_rfl) (by kernel_rfl) (fun _ _ _ h => h) (Or.inl ⟨by rfl, ?_⟩) (by assumption) ?_
    rotate_left
    · intro w hSw; (try dsimp only at hSw); go_simp; try with_reducible rfl
    simp only [Act.put, List.setIfInBounds_toArray, List.set_cons_zero, List.set_cons_succ]
    refine wpAnyH_take (i := 29) (oi := ⟨some 155, _, _, _, _, _⟩) (v := ?_) rfl (by kernel_rfl) (by kernel_rfl) (by kernel_rfl) (fun _ _ _ h => h) (Or.inl ⟨by rfl, ?_⟩) (by assumption) ?_
    rotate_left
    · intro w hSw; (try dsimp only at hSw); go_simp; try with_reducible rfl
    simp only [Act.put, List.setIfInBounds_toArray, List.set_cons_zero, List.set_cons_succ]
    refine wpAnyH_take (i := 30) (oi := ⟨some 156, _, _, _, _, _⟩) (v := ?_) rfl (by kernel_rfl) (by kernel_rfl) (by kernel_rfl) (fun _ _ _ h => h) (Or.inl ⟨by rfl, ?_⟩) (by assumption) ?_
    rotate_left
    · intro w hSw; (try dsimp only at hSw); go_simp; try with_reducible rfl
    simp only [Act.put, List.setIfInBounds_toArray, List.set_cons_zero, List.set_cons_succ]
    refine wpAnyH_take (i := 31) (oi := ⟨some 157, _, _, _, _, _⟩) (v := ?_) rfl (by kernel_rfl) (by kernel_rfl) (by kernel_rfl) (fun _ _ _ h => h) (Or.inl ⟨by rfl, ?_⟩) (by assumption) ?_
    rotate_left
    · intro w hSw; (try dsimp only at hSw); go_simp; try with_reducible rfl
    simp only [Act.put, List.setIfInBounds_toArray, List.set_cons_zero, List.set_cons_succ]
    refine wpAnyH_ready (rs := [32]) (by kernel_rfl) (by simp) ?_
    refine AllReadyH.cons (o := ⟨some 158, _, _, _, _, _⟩) rfl (fun Kq hKq => ?_) AllReadyH.nil
    go_simp
    go_at_call 34
    refine (lpints _ a3 a4 Q.out.length c3 c4 (li Q.out) I3.out I4.out (by omega)).mono ?_
    rintro e q5 ⟨rfl, hg⟩
    replace G := Lib.hid (gtr G.out hg)
    replace I := Lib.hid (I.out.kept hg)
    replace J := Lib.hid (J.out.kept hg)
    replace X := Lib.hid (X.out.kept hg)
    replace Y := Lib.hid (Y.out.kept hg)
    replace T := Lib.hid (T.out.kept hg)
    replace I1 := Lib.hid (I1.out.kept hg)
    replace Z1 := Lib.hid (Z1.out.kept hg)
    replace I2 := Lib.hid (I2.out.kept hg)
    replace Z2 := Lib.hid (Z2.out.kept hg)
    replace I3 := Lib.hid (I3.out.kept hg)
    replace Z3 := Lib.hid (Z3.out.kept hg)
    replace I4 := Lib.hid (I4.out.kept hg)
    replace Z4 := Lib.hid (Z4.out.kept hg)
    replace I9 := Lib.hid (I9.out.kept hg)
    clear hg
    refine hKq.out _ _ (⟨Z1.out.c0, Z1.out.c1, Y.out.c0, Y.out.c1, Z2.out.c0, Z2.out.c1, T.out.c0, T.out.c1, Z3.out.c0, Z3.out.c1, X.out.c0, X.out.c1, Z4.out.c0, Z4.out.c1⟩) (fun hHeld => ?_)
    clear hKq Kq
    refine wpAnyH_take (i := 33) (oi := ⟨some 159, _, _, _, _, _⟩) (v := ?_) rfl (by kernel_rfl) (by kernel_rfl) (by kernel_rfl) (fun _ _ _ h => h) (Or.inl ⟨by rfl, ?_⟩) (by assumption) ?_
    rotate_left
    · intro w hSw; (try dsimp only at hSw); go_simp; try with_reducible rfl
    simp only [Act.put, List.setIfInBounds_toArray, List.set_cons_zero, List.set_cons_succ]
    refine wpAnyH_take (i := 34) (oi := ⟨some 160, _, _, _, _, _⟩) (v := ?_) rfl (by kernel_rfl) (by kernel_rfl) (by kernel_rfl) (fun _ _ _ h => h) (Or.inl ⟨by rfl, ?_⟩) (by assumption) ?_
    rotate_left
    · intro w hSw; (try dsimp only at hSw); go_simp; try with_reducible rfl
    simp only [Act.put, List.setIfInBounds_toArray, List.set_cons_zero, List.set_cons_succ]
    refine wpAnyH_take (i := 35) (oi := ⟨some 161, _, _, _, _, _⟩) (v := ?_) rfl (by kernel_rfl) (by kernel_rfl) (by kernel_rfl) (fun _ _ _ h => h) (Or.inl ⟨by rfl, ?_⟩) (by assumption) ?_
    rotate_left
    · intro w hSw; (try dsimp only at hSw); go_simp; try with_reducible rfl
    simp only [Act.put, List.setIfInBounds_toArray, List.set_cons_zero, List.set_cons_succ]
    refine wpAnyH_take (i := 36) (oi := ⟨some 162, _, _, _, _, _⟩) (v := ?_) rfl (by kernel_rfl) (by kernel_rfl) (by kernel_rfl) (fun _ _ _ h => h) (Or.inl ⟨by rfl, ?_⟩) (by assumption) ?_
    rotate_left
    · intro w hSw; (try dsimp only at hSw); go_simp; try with_reducible rfl
    simp only [Act.put, List.setIfInBounds_toArray, List.set_cons_zero, List.set_cons_succ]
    refine wpAnyH_take (i := 37) (oi := ⟨some 163, _, _, _, _, _⟩) (v := ?_) rfl (by kernel_rfl) (by kernel_rfl) (by kernel_rfl) (fun _ _ _ h => h) (Or.inl ⟨by rfl, ?_⟩) (by assumption) ?_
    rotate_left
    · intro w hSw; (try dsimp only at hSw); go_simp; try with_reducible rfl
    simp only [Act.put, List.setIfInBounds_toArray, List.set_cons_zero, List.set_cons_succ]
    refine wpAnyH_take (i := 38) (oi := ⟨some 164, _, _, _, _, _⟩) (v := ?_) rfl (by kernel_rfl) (by kernel_rfl) (by kernel_rfl) (fun _ _ _ h => h) (Or.inl ⟨by rfl, ?_⟩) (by assumption) ?_
    rotate_left
    · intro w hSw; (try dsimp only at hSw); go_simp; try with_reducible rfl
    simp only [Act.put, List.setIfInBounds_toArray, List.set_cons_zero, List.set_cons_succ]
    refine wpAnyH_take (i := 39) (oi := ⟨some 165, _, _, _, _, _⟩) (v := ?_) rfl (by kernel_rfl) (by kernel_rfl) (by kernel_rfl) (fun _ _ _ h => h) (Or.inl ⟨by rfl, ?_⟩) (by assumption) ?_
    rotate_left
    · intro w hSw; (try dsimp only at hSw); go_simp; try with_reducible rfl
    simp only [Act.put, List.setIfInBounds_toArray, List.set_cons_zero, List.set_cons_succ]
    refine wpAnyH_take (i := 40) (oi := ⟨some 166, _, _, _, _, _⟩) (v := ?_) rfl (by kernel_rfl) (by kernel_rfl) (by kernel_rfl) (fun _ _ _ h => h) (Or.inl ⟨by rfl, ?_⟩) (by assumption) ?_
    rotate_left
    · intro w hSw; (try dsimp only at hSw); go_simp; try with_reducible rfl
    simp only [Act.put, List.setIfInBounds_toArray, List.set_cons_zero, List.set_cons_succ]
    refine wpAnyH_take (i := 41) (oi := ⟨some 167, _, _, _, _, _⟩) (v := ?_) rfl (by kernel_rfl) (by kernel_rfl) (by kernel_rfl) (fun _ _ _ h => h) (Or.inl ⟨by rfl, ?_⟩) (by assumption) ?_
    rotate_left
    · intro w hSw; (try dsimp only at hSw); go_simp; try with_reducible rfl
    simp only [Act.put, List.setIfInBounds_toArray, List.set_cons_zero, List.set_cons_succ]
    refine wpAnyH_take (i := 42) (oi := ⟨some 2, _, _, _, _, _⟩) (v := ?_) rfl (by kernel_rfl) (by kernel_rfl) (by kernel_rfl) (fun _ _ _ h => h) (Or.inl ⟨by rfl, ?_⟩) (by assumption) ?_
    rotate_left
    · intro w hSw; (try dsimp only at hSw); go_simp; try with_reducible rfl
    simp only [Act.put, List.setIfInBounds_toArray, List.set_cons_zero, List.set_cons_succ]
    refine wpAnyH_done (by kernel_rfl) ?_ _
    go_wp2
    go_ret
    exact ⟨Mem.ret_b (by have := HOL2.out; simp <;> omega), Draw.below_of G.out⟩
end Run
end Go.Proofs.Yteibklnonlapoaa
