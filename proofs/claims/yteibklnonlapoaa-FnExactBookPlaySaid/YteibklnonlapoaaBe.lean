/-
  Books: letters done one behind the other, the program's and the model's.
-/
import Derived.Test.YteibklnonlapoaaBc
namespace Go.Proofs.Yteibklnonlapoaa
namespace Con
open Go.RowKit Alg Mem Draw Bk
set_option linter.unusedVariables false

theorem own_grownX {w0 a b : World} {cb lo k n : Nat} {T : TypeId} {v : Value} {xs : List Value} (hg : w0.grownBy a (some cb)) (ho : a.ownsRow lo T k v n xs) (hlo : w0.heap.size ≤ lo) (h : a.grownBy b v.ownBlock) : w0.grownBy b (some cb) := by
  cases hv : v.ownBlock with
  | none => rw [hv] at h; exact gtr' hg (Draw.grown_some h)
  | some g => rw [hv] at h; exact grown_anyB hg h (.inr (Nat.le_trans hlo (ho.lt g hv).1))
/-- What letters done leave. -/
def Pl (w : World) (t : ByteArray) (e : Ending) (w' : World) : Prop :=
  ∃ v, e = .returned (.tuple #[v, .agg #[.int .i64 (bkAll t).n, .int .i64 (bkAll t).s], .bool true]) ∧ Lst w' w.heap.size v (bkAll t).out ∧ w.grownBy w' none
set_option maxHeartbeats 1000000 in
theorem ibplay_long (w : World) (t : ByteArray) (ht : 60 < t.size) : Calls Try.prog 33 #[.string t] w fun e w' => e = .returned (.tuple #[.slice none 0 0, .agg #[.int .i64 0, .int .i64 0], .bool false]) ∧ w.grownBy w' none := by
  have G := Lib.hid (Draw.grown_alloc w (.cells #[.int .i64 0, .int .i64 0] 24) none)
  have R := Lib.hid (Blk.new w #[.int .i64 0, .int .i64 0] 24)
  have ht' : (60 : Int) < (t.size : Int) := by omega
  go_enter Try.func33, Try.ntmps33
  go_wp2_with (first
    | (refine wpList_store_blk rfl 24 (.tmp 3) (.tmp 13) _ _ _ 24 R.out rfl rfl rfl rfl (by kernel_rfl) (by simp [Value.oneCell']) rfl ?_; intro V hgV hRV; have HGV := Lib.hid hgV; have HRV := Lib.hid hRV; clear hgV hRV))
  try simp only [Exit.inBlock, Exit.then]
  refine bodyPost_ret (ret_nbb rfl _ rfl HRV.out) rfl ?_
  exact ⟨rfl, grown_new G.out (by omega) HGV.out⟩
set_option maxRecDepth 100000 in
set_option maxHeartbeats 4000000 in
theorem ibplay (w : World) (t : ByteArray) (ht : t.size ≤ 60) : Calls Try.prog 33 #[.string t] w (Pl w t) := by
  have G := Lib.hid (gtr (Draw.grown_alloc w (.cells #[.int .i64 0, .int .i64 0] 24) none) (Draw.grown_alloc _ (.cells #[.int .i32 0, .int .u32 0, .int .i64 0, .int .i64 0] 94) none))
  have R := Lib.hid ((Blk.new w #[.int .i64 0, .int .i64 0] 24).keptN (Draw.grown_alloc _ (.cells #[.int .i32 0, .int .u32 0, .int .i64 0, .int .i64 0] 94) none))
  have C0 := Lib.hid (show Ctr ((w.alloc (.cells #[.int .i64 0, .int .i64 0] 24)).alloc (.cells #[.int .i32 0, .int .u32 0, .int .i64 0, .int .i64 0] 94)) (w.heap.size + 1) 0 0 from blk_new2 w (.cells #[.int .i64 0, .int .i64 0] 24) #[.int .i32 0, .int .u32 0, .int .i64 0, .int .i64 0] 94)
  have hs0 : ((w.alloc (.cells #[.int .i64 0, .int .i64 0] 24)).alloc (.cells #[.int .i32 0, .int .u32 0, .int .i64 0, .int .i64 0] 94)).heap.size = w.heap.size + 1 + 1 := by show ((w.heap.push _).push _).size = _; simp
  have ht' : ¬ (60 : Int) < (t.size : Int) := by omega
  obtain ⟨i0, hi, hz0, hz1, hz2⟩ := info_parts info_int
  go_enter Try.func33, Try.ntmps33
  go_wp2_with fail
  generalize (w.alloc (.cells #[.int .i64 0, .int .i64 0] 24)).alloc (.cells #[.int .i32 0, .int .u32 0, .int .i64 0, .int .i64 0] 94) = W0 at *
  have HS0 := Lib.hid hs0; clear hs0
  go_loopw [6, 16] (fun v i wr => ∃ k : Nat, k ≤ t.size ∧ i = .int .i64 k ∧ Lst wr (w.heap.size + 1 + 1) v (bkUp t k).out ∧ Ctr wr (w.heap.size + 1) (bkUp t k).n (bkUp t k).s ∧ W0.grownBy wr (some (w.heap.size + 1))) (fun _ i _ => t.size - (intOf i).toNat)
  case atStart => exact ⟨0, by omega, rfl, by rw [bkUp_zero]; exact .inl ⟨rfl, rfl⟩, by rw [bkUp_zero]; exact C0.out, Draw.grown_refl _ _⟩
  case round =>
    obtain ⟨k, hk, rfl, hL, hC, hg⟩ := hrel
    have L := Lib.hid hL; have C := Lib.hid hC; have K := Lib.hid hg; clear hL hC hg
    by_cases hlt : k < t.size
    · have HS := Lib.hid (bkUp_step t hlt)
      have HK := len_bkUp t k
      have HG := Lib.hid (good_bkUp t k)
      obtain ⟨c, hc⟩ : ∃ c, t[k] = c := ⟨_, rfl⟩
      rw [hc] at HS
      generalize bkUp t k = B at *
      obtain ⟨n, s, out⟩ := B
      have ho := HG.out.ok
      have HO := Lib.hid ho; clear ho
      simp only at HK HO
      have L' : Lst wr (w.heap.size + 1 + 1) _ out := L.out
      have C' : Ctr wr (w.heap.size + 1) n s := C.out
      clear L C
      have L := Lib.hid L'; have C := Lib.hid C'; clear L' C'
      by_cases h1 : c.toNat = 107
      · have HC := Lib.hid (stp_k (b := ⟨n, s, out⟩) h1)
        have e1 : ((c.toNat : Int) == 107) = true := by simp; omega
        clear h1
        by_cases hf : Full n s
        · have HF := Lib.hid hf
          unfold Bk.K at HC
          rw [kS_full hf] at HC
          clear hf
          go_wp2_with fail
          refine (ikeep_full _ _ n s C.out HO.out HF.out).mono ?_
          rintro e w2 ⟨rfl, hc, hg⟩
          have L2 := L.out.keptB hg (by omega)
          have K2 := gtr' K.out hg
          clear C L K hg
          have C := Lib.hid hc; have L := Lib.hid L2; have K := Lib.hid K2
          clear hc L2 K2
          go_wp2
          go_roundw
          case rel => exact ⟨k + 1, by omega, by go_num, by rw [HS.out, HC.out]; exact L.out, by rw [HS.out, HC.out]; exact C.out, K.out⟩
          case measure => simp [intOf]; omega
        · have HF := Lib.hid hf; clear hf
          go_wp2_with fail
          refine (ikeep_yes _ _ n s C.out HO.out HF.out).mono ?_
          rintro e w2 ⟨rfl, hc, hg⟩
          have L2 := L.out.keptB hg (by omega)
          have K2 := gtr' K.out hg
          clear C L K hg
          have C := Lib.hid hc; have L := Lib.hid L2; have K := Lib.hid K2
          clear hc L2 K2
          go_wp2
          go_roundw
          case rel => exact ⟨k + 1, by omega, by go_num, by rw [HS.out, HC.out]; exact L.out, by rw [HS.out, HC.out]; exact C.out, K.out⟩
          case measure => simp [intOf]; omega
      by_cases h2 : c.toNat = 116
      · have HC := Lib.hid (stp_t (b := ⟨n, s, out⟩) h2)
        have e1 : ((c.toNat : Int) == 107) = false := by simp; omega
        have e2 : ((c.toNat : Int) == 116) = true := by simp; omega
        clear h1 h2
        by_cases hf : n = s
        · have HF := Lib.hid hf
          unfold Bk.T at HC
          rw [if_neg (by simp only; omega)] at HC
          clear hf
          go_wp2_with fail
          refine (itake_no _ _ n s C.out HF.out).mono ?_
          rintro e w2 ⟨rfl, hc, hg⟩
          have L2 := L.out.keptB hg (by omega)
          have K2 := gtr' K.out hg
          clear C L K hg
          have C := Lib.hid hc; have L := Lib.hid L2; have K := Lib.hid K2
          clear hc L2 K2
          go_wp2
          go_roundw
          case rel => exact ⟨k + 1, by omega, by go_num, by rw [HS.out, HC.out]; exact L.out, by rw [HS.out, HC.out]; exact C.out, K.out⟩
          case measure => simp [intOf]; omega
        · have HF := Lib.hid hf
          have hos := HO.out
          unfold Bk.T at HC
          rw [if_pos (by unfold Ok at hos; simp only; omega)] at HC
          clear hf hos
          go_wp2_with fail
          refine (itake_yes _ _ n s C.out HO.out HF.out).mono ?_
          rintro e w2 ⟨rfl, hc, hg⟩
          have L2 := L.out.keptB hg (by omega)
          have K2 := gtr' K.out hg
          clear C L K hg
          have C := Lib.hid hc; have L := Lib.hid L2; have K := Lib.hid K2
          clear hc L2 K2
          have hw2 := K.out.size
          rw [HS0.out] at hw2
          obtain ⟨av, cv, rfl, _, hvc, hvm⟩ := L.out.slice
          have HZ := Lib.hid (L.out.alloc (.cells #[.int .i64 n] 3)).owns
          go_wp2_with (at_builtin; refine stop_here ?_)
          refine ⟨trivial, ?_⟩
          refine wpList_append_own _ rfl _ _ 34 rfl (w.heap.size + 1 + 1) 3 i0 (.int .i64 0) 1 8 und_ints hi hz0 hz1 hz2 rfl (by decide) _ _ (vals (li out) out.length) rfl HZ.out ⟨w2.heap.size, 0, none⟩ 1 1 [.int .i64 n] rfl rfl (cell_one_new _ _ _) (by simp [Value.oneCell']) (by unfold maxLen; omega) (by omega) (by simp; omega) ?_
          intro v' w6 hown' hgrow _
          have L6 := Lib.hid (Lst.app hown'); have K6 := Lib.hid (own_grownX (gtr' K.out (Draw.grown_some (Draw.grown_alloc _ _ none))) HZ.out (by rw [HS0.out]; exact Nat.le_refl _) hgrow); have C6 := Lib.hid ((C.out.keptN (Draw.grown_alloc _ (.cells #[.int .i64 n] 3) none)).kept hgrow ((L.out.alloc (.cells #[.int .i64 n] 3)).own_ne (by omega)))
          clear hown' hgrow
          clear L K C
          have L := L6; have K := K6; have C := C6
          go_wp2
          go_roundw
          case rel => exact ⟨k + 1, by omega, by go_num, by rw [HS.out, HC.out]; exact L.out, by rw [HS.out, HC.out]; exact C.out, K.out⟩
          case measure => simp [intOf]; omega
      by_cases h3 : c.toNat = 102
      · have HC := Lib.hid (stp_f (b := ⟨n, s, out⟩) h3)
        have e1 : ((c.toNat : Int) == 107) = false := by simp; omega
        have e2 : ((c.toNat : Int) == 116) = false := by simp; omega
        have e3 : ((c.toNat : Int) == 102) = true := by simp; omega
        clear h1 h2 h3
        go_wp2_with fail
        refine (ifall _ _ n s C.out).mono ?_
        rintro e w2 ⟨rfl, hc, hg⟩
        have L2 := L.out.keptB hg (by omega)
        have K2 := gtr' K.out hg
        clear C L K hg
        have C := Lib.hid hc; have L := Lib.hid L2; have K := Lib.hid K2
        clear hc L2 K2
        go_wp2
        go_roundw
        case rel => exact ⟨k + 1, by omega, by go_num, by rw [HS.out, HC.out]; exact L.out, by rw [HS.out, HC.out]; exact C.out, K.out⟩
        case measure => simp [intOf]; omega
      · have HC := Lib.hid (stp_x (b := ⟨n, s, out⟩) h1 h2 h3)
        have e1 : ((c.toNat : Int) == 107) = false := by simp; omega
        have e2 : ((c.toNat : Int) == 116) = false := by simp; omega
        have e3 : ((c.toNat : Int) == 102) = false := by simp; omega
        clear h1 h2 h3
        go_wp2
        go_roundw
        case rel => exact ⟨k + 1, by omega, by go_num, by rw [HS.out, HC.out]; exact L.out, by rw [HS.out, HC.out]; exact C.out, K.out⟩
        case measure => simp [intOf]; omega
    · obtain rfl : k = t.size := by omega
      rw [bkUp_all] at L C
      go_wp2_with fail
      refine (istate _ _ _ _ C.out).mono ?_
      rintro e w3 ⟨rfl, hc, hg⟩
      have hR := (R.out.kept K.out (by intro e; have e := Option.some.inj e; omega)).kept hg (by intro e; have e := Option.some.inj e; omega)
      have L2 := L.out.keptB hg (by omega)
      have K2 := gtr' K.out hg
      clear C L K hg hc R
      have R := Lib.hid hR; have L := Lib.hid L2; have K := Lib.hid K2
      clear hR L2 K2
      go_wp2_with (first
        | (refine wpList_store_blk rfl 24 (.tmp 3) (.tmp 41) _ _ _ 24 R.out rfl rfl rfl rfl (by kernel_rfl) (by simp [Value.oneCell']) rfl ?_; intro V hgV hRV; have HGV := Lib.hid hgV; have HRV := Lib.hid hRV; clear hgV hRV))
      try simp only [Exit.inBlock, Exit.then]
      refine bodyPost_ret (ret_nbb rfl _ rfl HRV.out) rfl ?_
      exact ⟨_, rfl, (L.out.keptB HGV.out (by omega)).lower (by omega), grown_new (grown_new G.out (by omega) K.out) (by omega) HGV.out⟩
theorem Lst.keptBk {w w' : World} {lo b : Nat} {v : Value} {l : List Int} {vs : Array Value} {T : TypeId} (h : Lst w lo v l) (hb : Blk w b vs T) (hne : 3 ≠ T) (hg : w.grownBy w' (some b)) : Lst w' lo v l := by
  have o := own_ne_b h.owns hb hne
  rcases h with h | ⟨b', c, rfl, hr⟩
  · exact .inl h
  · exact .inr ⟨b', c, rfl, hr.kept hg (by first | exact o | exact fun e => o e.symm)⟩
theorem lst_emptyB (w : World) : Lst (w.alloc (.cells #[] 3)) w.heap.size (.slice (some ⟨w.heap.size, 0, none⟩) 0 0) [] := .inr ⟨_, 0, rfl, row_empty w _ _⟩
set_option maxRecDepth 100000 in
set_option maxHeartbeats 4000000 in
theorem sbplay_long (w : World) (t : ByteArray) (ht : 60 < t.size) : Calls Try.prog 32 #[.string t] w fun e w' => ∃ v, e = .returned (.tuple #[v, .agg #[.int .i64 0, .int .i64 0], .bool false]) ∧ Lst w' w.heap.size v [] ∧ w.grownBy w' none := by
  have ht' : (60 : Int) < (t.size : Int) := by omega
  have hs1 : (w.alloc (.cells #[.int .i64 0, .int .i64 0] 24)).heap.size = w.heap.size + 1 := by show (w.heap.push _).size = _; simp
  have hs2 : ((w.alloc (.cells #[.int .i64 0, .int .i64 0] 24)).alloc (.cells #[] 3)).heap.size = w.heap.size + 1 + 1 := by show ((w.heap.push _).push _).size = _; simp
  have hL0 := lst_emptyB (w.alloc (.cells #[.int .i64 0, .int .i64 0] 24))
  rw [hs1] at hL0
  have hB0 := Blk.new ((w.alloc (.cells #[.int .i64 0, .int .i64 0] 24)).alloc (.cells #[] 3)) #[.int .i64 0, .int .i64 0] 24
  rw [hs2] at hB0
  have hg1 := Draw.grown_alloc (w.alloc (.cells #[.int .i64 0, .int .i64 0] 24)) (.cells #[] 3) none
  have hg2 := Draw.grown_alloc ((w.alloc (.cells #[.int .i64 0, .int .i64 0] 24)).alloc (.cells #[] 3)) (.cells #[.int .i64 0, .int .i64 0] 24) none
  have G := Lib.hid (gtr (gtr (Draw.grown_alloc w (.cells #[.int .i64 0, .int .i64 0] 24) none) hg1) hg2)
  have R := Lib.hid (((Blk.new w #[.int .i64 0, .int .i64 0] 24).keptN hg1).keptN hg2)
  have L := Lib.hid (hL0.kept hg2)
  have B := Lib.hid hB0
  clear hs1 hs2 hL0 hB0 hg1 hg2
  go_enter Try.func32, Try.ntmps32
  go_wp2_with (refine stop_store rfl ?_)
  refine ⟨trivial, ?_⟩
  refine wpList_store_blk rfl 24 (.tmp 6) (.tmp 14) _ _ _ 24 B.out rfl rfl rfl rfl (by kernel_rfl) (by simp [Value.oneCell']) rfl ?_
  intro W hg hT
  have R2 := Lib.hid (R.out.kept hg (by intro e; have e := Option.some.inj e; omega))
  have L2 := Lib.hid (Lst.keptBk L.out B.out (by decide) hg)
  have G2 := Lib.hid (grown_new G.out (by omega) hg)
  clear R L G B hg
  have B := Lib.hid hT; have R := R2; have L := L2; have G := G2
  clear hT R2 L2 G2
  go_wp2_with fail
  refine wp_region_held_drew (S := (fun w' => w'.cell? ⟨w.heap.size + 1 + 1, 0, none⟩ = some (.int .i64 0) ∧ w'.cell? ⟨w.heap.size + 1 + 1, 1, none⟩ = some (.int .i64 0))) (by kernel_rfl) (⟨B.out.cell 0, B.out.cell 1⟩) (fun hHeld => ?_)
  have hg := Draw.gdrew W
  replace G := Lib.hid (gtr G.out hg)
  replace R := Lib.hid (R.out.keptN hg)
  replace B := Lib.hid (B.out.keptN hg)
  replace L := Lib.hid (L.out.kept hg)
  clear hg
  generalize W.drew = w2 at *
  refine wpAnyH_take (i := 0) (oi := ⟨some 18, _, _, _, _, _⟩) (v := ?_) rfl (by kernel_rfl) (by kernel_rfl) (by kernel_rfl) (fun _ _ _ h => h) (Or.inl ⟨by rfl, ?_⟩) (by assumption) ?_
  rotate_left
  · intro w hSw; (try dsimp only at hSw); go_simp; try with_reducible rfl
  simp only [Act.put, List.setIfInBounds_toArray, List.set_cons_zero, List.set_cons_succ]
  refine wpAnyH_take (i := 1) (oi := ⟨some 19, _, _, _, _, _⟩) (v := ?_) rfl (by kernel_rfl) (by kernel_rfl) (by kernel_rfl) (fun _ _ _ h => h) (Or.inl ⟨by rfl, ?_⟩) (by assumption) ?_
  rotate_left
  · intro w hSw; (try dsimp only at hSw); go_simp; try with_reducible rfl
  simp only [Act.put, List.setIfInBounds_toArray, List.set_cons_zero, List.set_cons_succ]
  refine wpAnyH_take (i := 2) (oi := ⟨some 2, _, _, _, _, _⟩) (v := ?_) rfl (by kernel_rfl) (by kernel_rfl) (by kernel_rfl) (fun _ _ _ h => h) (Or.inl ⟨by rfl, ?_⟩) (by assumption) ?_
  rotate_left
  · intro w hSw; (try dsimp only at hSw); go_simp; try with_reducible rfl
  simp only [Act.put, List.setIfInBounds_toArray, List.set_cons_zero, List.set_cons_succ]
  refine wpAnyH_ready (rs := [3]) (by kernel_rfl) (by simp) ?_
  refine AllReadyH.cons (o := ⟨none, _, _, _, _, _⟩) rfl (fun Kq hKq => ?_) AllReadyH.nil
  skip
  refine wp_store_blk 24 (.tmp 3) (.tmp 19) _ _ _ 24 R.out rfl rfl rfl rfl (by kernel_rfl) (by simp [Value.oneCell']) rfl ?_
  intro V hg hT
  have L2 := Lib.hid (Lst.keptBk L.out R.out (by decide) hg)
  replace R := Lib.hid hT
  clear L
  replace G := Lib.hid (grown_new G.out (by omega) hg)
  replace B := Lib.hid (B.out.kept hg (by intro e; have e := Option.some.inj e; omega))
  clear hg
  clear hT
  have L := L2
  clear L2
  refine hKq.out _ _ (⟨B.out.cell 0, B.out.cell 1⟩) (fun hHeld => ?_)
  clear hKq Kq
  refine wpAnyH_take (i := 4) (oi := ⟨some 4, _, _, _, _, _⟩) (v := ?_) rfl (by kernel_rfl) (by kernel_rfl) (by kernel_rfl) (fun _ _ _ h => h) (Or.inl ⟨by rfl, ?_⟩) (by assumption) ?_
  rotate_left
  · intro w hSw; (try dsimp only at hSw); go_simp; try with_reducible rfl
  simp only [Act.put, List.setIfInBounds_toArray, List.set_cons_zero, List.set_cons_succ]
  refine wpAnyH_done (by kernel_rfl) ?_ _
  go_wp2
  try simp only [Exit.inBlock, Exit.then]
  refine bodyPost_ret (ret_nbb rfl _ rfl R.out) rfl ?_
  exact ⟨_, rfl, L.out.lower (by omega), G.out⟩
set_option maxRecDepth 100000 in
set_option maxHeartbeats 4000000 in
theorem sbplay (w : World) (t : ByteArray) (ht : t.size ≤ 60) : Calls Try.prog 32 #[.string t] w (Pl w t) := by
  have ht' : ¬ (60 : Int) < (t.size : Int) := by omega
  obtain ⟨i0, hi, hz0, hz1, hz2⟩ := info_parts info_int
  have hs1 : (w.alloc (.cells #[.int .i64 0, .int .i64 0] 24)).heap.size = w.heap.size + 1 := by show (w.heap.push _).size = _; simp
  have hs2 : ((w.alloc (.cells #[.int .i64 0, .int .i64 0] 24)).alloc (.cells #[] 3)).heap.size = w.heap.size + 1 + 1 := by show ((w.heap.push _).push _).size = _; simp
  have hL0 := lst_emptyB (w.alloc (.cells #[.int .i64 0, .int .i64 0] 24))
  rw [hs1] at hL0
  have hB0 := Blk.new ((w.alloc (.cells #[.int .i64 0, .int .i64 0] 24)).alloc (.cells #[] 3)) #[.int .i64 0, .int .i64 0] 24
  rw [hs2] at hB0
  have hg1 := Draw.grown_alloc (w.alloc (.cells #[.int .i64 0, .int .i64 0] 24)) (.cells #[] 3) none
  have hg2 := Draw.grown_alloc ((w.alloc (.cells #[.int .i64 0, .int .i64 0] 24)).alloc (.cells #[] 3)) (.cells #[.int .i64 0, .int .i64 0] 24) none
  have G := Lib.hid (gtr (gtr (Draw.grown_alloc w (.cells #[.int .i64 0, .int .i64 0] 24) none) hg1) hg2)
  have R := Lib.hid (((Blk.new w #[.int .i64 0, .int .i64 0] 24).keptN hg1).keptN hg2)
  have L := Lib.hid (hL0.kept hg2)
  have B := Lib.hid hB0
  clear hs1 hs2 hL0 hB0 hg1 hg2
  go_enter Try.func32, Try.ntmps32
  go_wp2_with (refine stop_store rfl ?_)
  refine ⟨trivial, ?_⟩
  refine wpList_store_blk rfl 24 (.tmp 6) (.tmp 14) _ _ _ 24 B.out rfl rfl rfl rfl (by kernel_rfl) (by simp [Value.oneCell']) rfl ?_
  intro W hg hT
  have R2 := Lib.hid (R.out.kept hg (by intro e; have e := Option.some.inj e; omega))
  have L2 := Lib.hid (Lst.keptBk L.out B.out (by decide) hg)
  have G2 := Lib.hid (grown_new G.out (by omega) hg)
  clear R L G B hg
  have B := Lib.hid hT; have R := R2; have L := L2; have G := G2
  clear hT R2 L2 G2
  go_wp2_with fail
  go_loopw [5, 7] (fun v i wr => ∃ k : Nat, k ≤ t.size ∧ i = .int .i64 k ∧ Lst wr (w.heap.size + 1) v (bkUp t k).out ∧ Blk wr w.heap.size #[.int .i64 0, .int .i64 0] 24 ∧ Blk wr (w.heap.size + 1 + 1) #[.int .i64 (bkUp t k).n, .int .i64 (bkUp t k).s] 24 ∧ w.grownBy wr none) (fun _ i _ => t.size - (intOf i).toNat)
  case atStart => exact ⟨0, by omega, rfl, by rw [bkUp_zero]; exact L.out, R.out, by rw [bkUp_zero]; exact B.out, G.out⟩
  case round =>
    clear G R B L
    obtain ⟨k, hk, rfl, hL, hR, hB, hg⟩ := hrel
    have L := Lib.hid hL; have R := Lib.hid hR; have B := Lib.hid hB; have G := Lib.hid hg; clear hL hR hB hg
    by_cases hlt : k < t.size
    · have HS := Lib.hid (bkUp_step t hlt)
      have HK := len_bkUp t k
      have HG := Lib.hid (good_bkUp t k)
      obtain ⟨c, hc⟩ : ∃ c, t[k] = c := ⟨_, rfl⟩
      rw [hc] at HS
      generalize bkUp t k = B1 at *
      obtain ⟨n, s, out⟩ := B1
      have ho := HG.out.ok
      have HO := Lib.hid ho; clear ho
      simp only at HK HO
      have L' : Lst wr (w.heap.size + 1) _ out := L.out
      have B' : Blk wr (w.heap.size + 1 + 1) #[.int .i64 n, .int .i64 s] 24 := B.out
      clear L B
      have L := Lib.hid L'; have B := Lib.hid B'; clear L' B'
      by_cases h1 : c.toNat = 107
      · have HC := Lib.hid (stp_k (b := ⟨n, s, out⟩) h1)
        have e1 : ((c.toNat : Int) == 107) = true := by simp; omega
        clear h1
        have b0 : World.cell? _ ⟨w.heap.size + 1 + 1, 0, none⟩ = some (.int .i64 n) := B.out.cell 0
        have b1 : World.cell? _ ⟨w.heap.size + 1 + 1, 1, none⟩ = some (.int .i64 s) := B.out.cell 1
        by_cases hf : Full n s
        · have HF := Lib.hid hf
          unfold Bk.K at HC
          rw [kS_full hf] at HC
          clear hf
          go_wp2_with fail
          refine (skeep_full _ n s HO.out HF.out).mono ?_
          rintro e w2 ⟨rfl, hg⟩
          clear b0 b1
          have G2 := gtr G.out hg; have R2 := R.out.keptN hg; have B2 := B.out.keptN hg; have L2 := L.out.kept hg
          clear G R B L hg
          have G := Lib.hid G2; have R := Lib.hid R2; have B := Lib.hid B2; have L := Lib.hid L2
          clear G2 R2 B2 L2
          go_wp2_with (refine stop_store rfl ?_)
          refine ⟨trivial, ?_⟩
          refine wpList_store_blk rfl 24 (.tmp 8) (.tmp 34) _ _ _ 24 (Blk.new w2 #[.int .i64 0, .int .i64 0] 24) rfl rfl rfl rfl (by kernel_rfl) (by simp [Value.oneCell']) rfl ?_
          intro V hgV hT
          have hg : w2.grownBy V none := grown_new (Draw.grown_alloc w2 (.cells #[.int .i64 0, .int .i64 0] 24) none) (Nat.le_refl _) hgV
          have X := Lib.hid hT
          clear hgV hT
          have G2 := gtr G.out hg; have R2 := R.out.keptN hg; have B2 := B.out.keptN hg; have L2 := L.out.kept hg
          clear G R B L hg
          have G := Lib.hid G2; have R := Lib.hid R2; have B := Lib.hid B2; have L := Lib.hid L2
          clear G2 R2 B2 L2
          have x0 : World.cell? _ ⟨w2.heap.size, 0, none⟩ = some (.int .i64 n) := X.out.cell 0
          have x1 : World.cell? _ ⟨w2.heap.size, 1, none⟩ = some (.int .i64 s) := X.out.cell 1
          go_wp2_with (refine stop_store rfl ?_)
          refine ⟨trivial, ?_⟩
          refine wpList_store_blk rfl 24 (.tmp 6) (.tmp 36) _ _ _ 24 B.out rfl rfl rfl rfl (by kernel_rfl) (by simp [Value.oneCell']) rfl ?_
          intro V2 hg hT
          have G2 := grown_new G.out (by omega) hg; have R2 := R.out.kept hg (by intro e; have e := Option.some.inj e; omega); have L2 := Lst.keptBk L.out B.out (by decide) hg
          clear G R B L hg
          have G := Lib.hid G2; have R := Lib.hid R2; have B := Lib.hid hT; have L := Lib.hid L2
          clear G2 R2 L2 hT
          clear x0 x1 X
          go_wp2
          go_roundw
          case rel => exact ⟨k + 1, by omega, by go_num, by rw [HS.out, HC.out]; exact L.out, R.out, by rw [HS.out, HC.out]; exact B.out, G.out⟩
          case measure => simp [intOf]; omega
        · have HF := Lib.hid hf; clear hf
          go_wp2_with fail
          refine (skeep_yes _ n s HO.out HF.out).mono ?_
          rintro e w2 ⟨rfl, hg⟩
          clear b0 b1
          have G2 := gtr G.out hg; have R2 := R.out.keptN hg; have B2 := B.out.keptN hg; have L2 := L.out.kept hg
          clear G R B L hg
          have G := Lib.hid G2; have R := Lib.hid R2; have B := Lib.hid B2; have L := Lib.hid L2
          clear G2 R2 B2 L2
          go_wp2_with (refine stop_store rfl ?_)
          refine ⟨trivial, ?_⟩
          refine wpList_store_blk rfl 24 (.tmp 8) (.tmp 34) _ _ _ 24 (Blk.new w2 #[.int .i64 0, .int .i64 0] 24) rfl rfl rfl rfl (by kernel_rfl) (by simp [Value.oneCell']) rfl ?_
          intro V hgV hT
          have hg : w2.grownBy V none := grown_new (Draw.grown_alloc w2 (.cells #[.int .i64 0, .int .i64 0] 24) none) (Nat.le_refl _) hgV
          have X := Lib.hid hT
          clear hgV hT
          have G2 := gtr G.out hg; have R2 := R.out.keptN hg; have B2 := B.out.keptN hg; have L2 := L.out.kept hg
          clear G R B L hg
          have G := Lib.hid G2; have R := Lib.hid R2; have B := Lib.hid B2; have L := Lib.hid L2
          clear G2 R2 B2 L2
          have x0 : World.cell? _ ⟨w2.heap.size, 0, none⟩ = some (.int .i64 n) := X.out.cell 0
          have x1 : World.cell? _ ⟨w2.heap.size, 1, none⟩ = some (.int .i64 (kS n s)) := X.out.cell 1
          go_wp2_with (refine stop_store rfl ?_)
          refine ⟨trivial, ?_⟩
          refine wpList_store_blk rfl 24 (.tmp 6) (.tmp 36) _ _ _ 24 B.out rfl rfl rfl rfl (by kernel_rfl) (by simp [Value.oneCell']) rfl ?_
          intro V2 hg hT
          have G2 := grown_new G.out (by omega) hg; have R2 := R.out.kept hg (by intro e; have e := Option.some.inj e; omega); have L2 := Lst.keptBk L.out B.out (by decide) hg
          clear G R B L hg
          have G := Lib.hid G2; have R := Lib.hid R2; have B := Lib.hid hT; have L := Lib.hid L2
          clear G2 R2 L2 hT
          clear x0 x1 X
          go_wp2
          go_roundw
          case rel => exact ⟨k + 1, by omega, by go_num, by rw [HS.out, HC.out]; exact L.out, R.out, by rw [HS.out, HC.out]; exact B.out, G.out⟩
          case measure => simp [intOf]; omega
      by_cases h2 : c.toNat = 116
      · have HC := Lib.hid (stp_t (b := ⟨n, s, out⟩) h2)
        have e1 : ((c.toNat : Int) == 107) = false := by simp; omega
        have e2 : ((c.toNat : Int) == 116) = true := by simp; omega
        clear h1 h2
        have b0 : World.cell? _ ⟨w.heap.size + 1 + 1, 0, none⟩ = some (.int .i64 n) := B.out.cell 0
        have b1 : World.cell? _ ⟨w.heap.size + 1 + 1, 1, none⟩ = some (.int .i64 s) := B.out.cell 1
        by_cases hf : n = s
        · have HF := Lib.hid hf
          unfold Bk.T at HC
          rw [if_neg (by simp only; omega)] at HC
          clear hf
          go_wp2_with fail
          refine (sbtake_no _ n s HO.out HF.out).mono ?_
          rintro e w2 ⟨rfl, hg⟩
          clear b0 b1
          have G2 := gtr G.out hg; have R2 := R.out.keptN hg; have B2 := B.out.keptN hg; have L2 := L.out.kept hg
          clear G R B L hg
          have G := Lib.hid G2; have R := Lib.hid R2; have B := Lib.hid B2; have L := Lib.hid L2
          clear G2 R2 B2 L2
          go_wp2_with (refine stop_store rfl ?_)
          refine ⟨trivial, ?_⟩
          refine wpList_store_blk rfl 24 (.tmp 11) (.tmp 43) _ _ _ 24 (Blk.new w2 #[.int .i64 0, .int .i64 0] 24) rfl rfl rfl rfl (by kernel_rfl) (by simp [Value.oneCell']) rfl ?_
          intro V hgV hT
          have hg : w2.grownBy V none := grown_new (Draw.grown_alloc w2 (.cells #[.int .i64 0, .int .i64 0] 24) none) (Nat.le_refl _) hgV
          have X := Lib.hid hT
          clear hgV hT
          have G2 := gtr G.out hg; have R2 := R.out.keptN hg; have B2 := B.out.keptN hg; have L2 := L.out.kept hg
          clear G R B L hg
          have G := Lib.hid G2; have R := Lib.hid R2; have B := Lib.hid B2; have L := Lib.hid L2
          clear G2 R2 B2 L2
          have x0 : World.cell? _ ⟨w2.heap.size, 0, none⟩ = some (.int .i64 n) := X.out.cell 0
          have x1 : World.cell? _ ⟨w2.heap.size, 1, none⟩ = some (.int .i64 s) := X.out.cell 1
          go_wp2_with (refine stop_store rfl ?_)
          refine ⟨trivial, ?_⟩
          refine wpList_store_blk rfl 24 (.tmp 6) (.tmp 50) _ _ _ 24 B.out rfl rfl rfl rfl (by kernel_rfl) (by simp [Value.oneCell']) rfl ?_
          intro V2 hg hT
          have G2 := grown_new G.out (by omega) hg; have R2 := R.out.kept hg (by intro e; have e := Option.some.inj e; omega); have L2 := Lst.keptBk L.out B.out (by decide) hg
          clear G R B L hg
          have G := Lib.hid G2; have R := Lib.hid R2; have B := Lib.hid hT; have L := Lib.hid L2
          clear G2 R2 L2 hT
          clear x0 x1 X
          go_wp2
          go_roundw
          case rel => exact ⟨k + 1, by omega, by go_num, by rw [HS.out, HC.out]; exact L.out, R.out, by rw [HS.out, HC.out]; exact B.out, G.out⟩
          case measure => simp [intOf]; omega
        · have HF := Lib.hid hf
          have hos := HO.out
          unfold Bk.T at HC
          rw [if_pos (by unfold Ok at hos; simp only; omega)] at HC
          clear hf hos
          go_wp2_with fail
          refine (sbtake_yes _ n s HO.out HF.out).mono ?_
          rintro e w2 ⟨rfl, hg⟩
          clear b0 b1
          have G2 := gtr G.out hg; have R2 := R.out.keptN hg; have B2 := B.out.keptN hg; have L2 := L.out.kept hg
          clear G R B L hg
          have G := Lib.hid G2; have R := Lib.hid R2; have B := Lib.hid B2; have L := Lib.hid L2
          clear G2 R2 B2 L2
          go_wp2_with (refine stop_store rfl ?_)
          refine ⟨trivial, ?_⟩
          refine wpList_store_blk rfl 24 (.tmp 11) (.tmp 43) _ _ _ 24 (Blk.new w2 #[.int .i64 0, .int .i64 0] 24) rfl rfl rfl rfl (by kernel_rfl) (by simp [Value.oneCell']) rfl ?_
          intro V hgV hT
          have hg : w2.grownBy V none := grown_new (Draw.grown_alloc w2 (.cells #[.int .i64 0, .int .i64 0] 24) none) (Nat.le_refl _) hgV
          have X := Lib.hid hT
          clear hgV hT
          have G2 := gtr G.out hg; have R2 := R.out.keptN hg; have B2 := B.out.keptN hg; have L2 := L.out.kept hg
          clear G R B L hg
          have G := Lib.hid G2; have R := Lib.hid R2; have B := Lib.hid B2; have L := Lib.hid L2
          clear G2 R2 B2 L2
          have hw2 := G.out.size
          obtain ⟨av, cv, rfl, _, hvc, hvm⟩ := L.out.slice
          have HZ := Lib.hid (L.out.alloc (.cells #[.int .i64 n] 3)).owns
          go_wp2_with (at_builtin; refine stop_here ?_)
          refine ⟨trivial, ?_⟩
          refine wpList_append_own _ rfl _ _ 34 rfl (w.heap.size + 1) 3 i0 (.int .i64 0) 1 8 und_ints hi hz0 hz1 hz2 rfl (by decide) _ _ (vals (li out) out.length) rfl HZ.out ⟨V.heap.size, 0, none⟩ 1 1 [.int .i64 n] rfl rfl (cell_one_new _ _ _) (by simp [Value.oneCell']) (by unfold maxLen; omega) (by omega) (by simp; omega) ?_
          intro v' w6 hown' hgrow _
          have hga := Draw.grown_alloc V (.cells #[.int .i64 n] 3) none
          have G6 := own_grownW (gtr G.out hga) HZ.out (by omega) hgrow
          have R6 := (R.out.keptN hga).kept hgrow (own_ne_b HZ.out (R.out.keptN hga) (by decide))
          have B6 := (B.out.keptN hga).kept hgrow (own_ne_b HZ.out (B.out.keptN hga) (by decide))
          have X6 := (X.out.keptN hga).kept hgrow (own_ne_b HZ.out (X.out.keptN hga) (by decide))
          have L6 := Lst.app hown'
          clear G R B X L hga hgrow hown' HZ
          have G := Lib.hid G6; have R := Lib.hid R6; have B := Lib.hid B6; have X := Lib.hid X6; have L := Lib.hid L6
          clear G6 R6 B6 X6 L6
          have x0 : World.cell? _ ⟨w2.heap.size, 0, none⟩ = some (.int .i64 (n + 1)) := X.out.cell 0
          have x1 : World.cell? _ ⟨w2.heap.size, 1, none⟩ = some (.int .i64 s) := X.out.cell 1
          go_wp2_with (refine stop_store rfl ?_)
          refine ⟨trivial, ?_⟩
          refine wpList_store_blk rfl 24 (.tmp 6) (.tmp 50) _ _ _ 24 B.out rfl rfl rfl rfl (by kernel_rfl) (by simp [Value.oneCell']) rfl ?_
          intro V2 hg hT
          have G2 := grown_new G.out (by omega) hg; have R2 := R.out.kept hg (by intro e; have e := Option.some.inj e; omega); have L2 := Lst.keptBk L.out B.out (by decide) hg
          clear G R B L hg
          have G := Lib.hid G2; have R := Lib.hid R2; have B := Lib.hid hT; have L := Lib.hid L2
          clear G2 R2 L2 hT
          clear x0 x1 X
          go_wp2
          go_roundw
          case rel => exact ⟨k + 1, by omega, by go_num, by rw [HS.out, HC.out]; exact L.out, R.out, by rw [HS.out, HC.out]; exact B.out, G.out⟩
          case measure => simp [intOf]; omega
      by_cases h3 : c.toNat = 102
      · have HC := Lib.hid (stp_f (b := ⟨n, s, out⟩) h3)
        have e1 : ((c.toNat : Int) == 107) = false := by simp; omega
        have e2 : ((c.toNat : Int) == 116) = false := by simp; omega
        have e3 : ((c.toNat : Int) == 102) = true := by simp; omega
        clear h1 h2 h3
        have b0 : World.cell? _ ⟨w.heap.size + 1 + 1, 0, none⟩ = some (.int .i64 n) := B.out.cell 0
        have b1 : World.cell? _ ⟨w.heap.size + 1 + 1, 1, none⟩ = some (.int .i64 s) := B.out.cell 1
        go_wp2_with fail
        refine (sbfall_yes _ n s HO.out).mono ?_
        rintro e w2 ⟨rfl, hg⟩
        clear b0 b1
        have G2 := gtr G.out hg; have R2 := R.out.keptN hg; have B2 := B.out.keptN hg; have L2 := L.out.kept hg
        clear G R B L hg
        have G := Lib.hid G2; have R := Lib.hid R2; have B := Lib.hid B2; have L := Lib.hid L2
        clear G2 R2 B2 L2
        go_wp2_with (refine stop_store rfl ?_)
        refine ⟨trivial, ?_⟩
        refine wpList_store_blk rfl 24 (.tmp 6) (.tmp 54) _ _ _ 24 B.out rfl rfl rfl rfl (by kernel_rfl) (by simp [Value.oneCell']) rfl ?_
        intro V2 hg hT
        have G2 := grown_new G.out (by omega) hg; have R2 := R.out.kept hg (by intro e; have e := Option.some.inj e; omega); have L2 := Lst.keptBk L.out B.out (by decide) hg
        clear G R B L hg
        have G := Lib.hid G2; have R := Lib.hid R2; have B := Lib.hid hT; have L := Lib.hid L2
        clear G2 R2 L2 hT
        go_wp2
        go_roundw
        case rel => exact ⟨k + 1, by omega, by go_num, by rw [HS.out, HC.out]; exact L.out, R.out, by rw [HS.out, HC.out]; exact B.out, G.out⟩
        case measure => simp [intOf]; omega
      · have HC := Lib.hid (stp_x (b := ⟨n, s, out⟩) h1 h2 h3)
        have e1 : ((c.toNat : Int) == 107) = false := by simp; omega
        have e2 : ((c.toNat : Int) == 116) = false := by simp; omega
        have e3 : ((c.toNat : Int) == 102) = false := by simp; omega
        clear h1 h2 h3
        go_wp2
        go_roundw
        case rel => exact ⟨k + 1, by omega, by go_num, by rw [HS.out, HC.out]; exact L.out, R.out, by rw [HS.out, HC.out]; exact B.out, G.out⟩
        case measure => simp [intOf]; omega
    · obtain rfl : k = t.size := by omega
      rw [bkUp_all] at L B
      go_wp2_with fail
      refine wp_region_held_drew (S := (fun w' => w'.cell? ⟨w.heap.size + 1 + 1, 0, none⟩ = some (.int .i64 (bkAll t).n) ∧ w'.cell? ⟨w.heap.size + 1 + 1, 1, none⟩ = some (.int .i64 (bkAll t).s))) (by kernel_rfl) (⟨B.out.cell 0, B.out.cell 1⟩) (fun hHeld => ?_)
      have hg := Draw.gdrew wr
      replace G := Lib.hid (gtr G.out hg)
      replace R := Lib.hid (R.out.keptN hg)
      replace B := Lib.hid (B.out.keptN hg)
      replace L := Lib.hid (L.out.kept hg)
      clear hg
      generalize wr.drew = w2 at *
      refine wpAnyH_take (i := 0) (oi := ⟨some 55, _, _, _, _, _⟩) (v := ?_) rfl (by kernel_rfl) (by kernel_rfl) (by kernel_rfl) (fun _ _ _ h => h) (Or.inl ⟨by rfl, ?_⟩) (by assumption) ?_
      rotate_left
      · intro w hSw; (try dsimp only at hSw); go_simp; try with_reducible rfl
      simp only [Act.put, List.setIfInBounds_toArray, List.set_cons_zero, List.set_cons_succ]
      refine wpAnyH_take (i := 1) (oi := ⟨some 56, _, _, _, _, _⟩) (v := ?_) rfl (by kernel_rfl) (by kernel_rfl) (by kernel_rfl) (fun _ _ _ h => h) (Or.inl ⟨by rfl, ?_⟩) (by assumption) ?_
      rotate_left
      · intro w hSw; (try dsimp only at hSw); go_simp; try with_reducible rfl
      simp only [Act.put, List.setIfInBounds_toArray, List.set_cons_zero, List.set_cons_succ]
      refine wpAnyH_take (i := 2) (oi := ⟨some 2, _, _, _, _, _⟩) (v := ?_) rfl (by kernel_rfl) (by kernel_rfl) (by kernel_rfl) (fun _ _ _ h => h) (Or.inl ⟨by rfl, ?_⟩) (by assumption) ?_
      rotate_left
      · intro w hSw; (try dsimp only at hSw); go_simp; try with_reducible rfl
      simp only [Act.put, List.setIfInBounds_toArray, List.set_cons_zero, List.set_cons_succ]
      refine wpAnyH_ready (rs := [3]) (by kernel_rfl) (by simp) ?_
      refine AllReadyH.cons (o := ⟨none, _, _, _, _, _⟩) rfl (fun Kq hKq => ?_) AllReadyH.nil
      skip
      refine wp_store_blk 24 (.tmp 3) (.tmp 56) _ _ _ 24 R.out rfl rfl rfl rfl (by kernel_rfl) (by simp [Value.oneCell']) rfl ?_
      intro V hg hT
      have L2 := Lib.hid (Lst.keptBk L.out R.out (by decide) hg)
      replace R := Lib.hid hT
      clear L
      replace G := Lib.hid (grown_new G.out (by omega) hg)
      replace B := Lib.hid (B.out.kept hg (by intro e; have e := Option.some.inj e; omega))
      clear hg
      clear hT
      have L := L2
      clear L2
      refine hKq.out _ _ (⟨B.out.cell 0, B.out.cell 1⟩) (fun hHeld => ?_)
      clear hKq Kq
      refine wpAnyH_take (i := 4) (oi := ⟨some 4, _, _, _, _, _⟩) (v := ?_) rfl (by kernel_rfl) (by kernel_rfl) (by kernel_rfl) (fun _ _ _ h => h) (Or.inl ⟨by rfl, ?_⟩) (by assumption) ?_
      rotate_left
      · intro w hSw; (try dsimp only at hSw); go_simp; try with_reducible rfl
      simp only [Act.put, List.setIfInBounds_toArray, List.set_cons_zero, List.set_cons_succ]
      refine wpAnyH_done (by kernel_rfl) ?_ _
      go_wp2
      try simp only [Exit.inBlock, Exit.then]
      refine bodyPost_ret (ret_nbb rfl _ rfl R.out) rfl ?_
      exact ⟨_, rfl, L.out.lower (by omega), G.out⟩
end Con
end Go.Proofs.Yteibklnonlapoaa
