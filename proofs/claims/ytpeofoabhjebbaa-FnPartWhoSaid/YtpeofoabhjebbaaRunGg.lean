/-
  The walk of the law on a part of another member.
-/
import Derived.Test.YtpeofoabhjebbaaRunGe
namespace Go.Proofs.Ytpeofoabhjebbaa
namespace Run
open Go.RowKit Alg Mem Con Mp Draw Hd
set_option linter.unusedVariables false



set_option maxRecDepth 100000 in
set_option maxHeartbeats 4000000 in
theorem FnPartWho (a : Option Addr) (len cap : Nat) (w : World) (hB : Draw.Bytes w w.heap.size a len) (hc : len ≤ cap) (hm : cap ≤ maxLen) :
    Calls Try.prog 10 #[.slice a len cap] w (Yes w) := by
  by_cases hbig : 1048576 < len
  · have hbig' : (1048576 : Int) < (len : Int) := by omega
    clear hB
    go_enter Try.func10, Try.ntmps10
    go_wp2
    go_ret
    exact ⟨rfl, Below.refl _ _⟩
  have hbig' : ¬ (1048576 : Int) < (len : Int) := by omega
  obtain ⟨i0, hi, hz0, hz1, hz2⟩ := info_parts info_int
  go_enter Try.func10, Try.ntmps10
  go_wp2_with fail
  refine (drawSP _ a len cap hB hc hm).mono ?_
  rintro e w1 ⟨need, many, ag, ng, cg, zg, ac, nc, cc, zc, am, nm, cm, zm, m, s, r, msg, d, rfl, b1, b2, b3, hmc, hcm, i1, i2, i3, hg⟩
  have g1 := gtr (Draw.grown_alloc w1 (.cells #[.int .i64 need, .int .i64 many, .slice ag ng cg, .slice ac nc cc] 42) none) (Draw.grown_alloc _ (.cells #[.int .i64 m, .int .i64 s] 44) none)
  have G := Lib.hid (gtr hg g1)
  have K := Lib.hid ((Ky.new w1 need many (.slice ag ng cg) (.slice ac nc cc) 42).kept (Draw.grown_alloc _ (.cells #[.int .i64 m, .int .i64 s] 44) none))
  have H := Lib.hid (Du.of_blk (blk_new2 w1 (.cells #[.int .i64 need, .int .i64 many, .slice ag ng cg, .slice ac nc cc] 42) #[.int .i64 m, .int .i64 s] 44))
  have I1 := Lib.hid (i1.kept g1); have I2 := Lib.hid (i2.kept g1); have I3 := Lib.hid (i3.kept g1)
  clear i1 i2 i3 g1 hg hB
  obtain ⟨_, k0, k1, k2, k3⟩ := K.out
  obtain ⟨_, x0, x1⟩ := H.out
  go_wp2_with fail
  refine (spart _ need many _ ng _ zg _ nc _ zc _ nm _ zm m s r msg d I1.out I2.out I3.out (by omega) (by omega) (by omega)).mono ?_
  rintro e w2 ⟨rfl, hg⟩
  clear k0 k1 k2 k3
  clear x0 x1
  replace G := Lib.hid (gtr G.out hg)
  replace K := Lib.hid (K.out.kept hg)
  replace H := Lib.hid (H.out.kept hg)
  replace I1 := Lib.hid (I1.out.kept hg)
  replace I2 := Lib.hid (I2.out.kept hg)
  replace I3 := Lib.hid (I3.out.kept hg)
  clear hg
  obtain ⟨_, k0, k1, k2, k3⟩ := K.out
  obtain ⟨_, x0, x1⟩ := H.out
  unfold spV
  go_wp2_with fail
  refine (ipart _ need many _ ng _ zg _ nc _ zc _ nm _ zm m s r msg d I1.out I2.out I3.out (by omega) (by omega) (by omega) hmc hcm).mono ?_
  rintro e w3 ⟨rfl, hg⟩
  clear k0 k1 k2 k3
  clear x0 x1
  replace G := Lib.hid (gtr G.out hg)
  replace K := Lib.hid (K.out.kept hg)
  replace H := Lib.hid (H.out.kept hg)
  replace I1 := Lib.hid (I1.out.kept hg)
  replace I2 := Lib.hid (I2.out.kept hg)
  replace I3 := Lib.hid (I3.out.kept hg)
  clear hg
  obtain ⟨_, k0, k1, k2, k3⟩ := K.out
  obtain ⟨_, x0, x1⟩ := H.out
  unfold spV
  have hzz : (spZ need many ng zg nc zc nm zm m s r msg d != spZ need many ng zg nc zc nm zm m s r msg d) = false := by simp
  have hzq : (spZ need many ng zg nc zc nm zm m s r msg d == spZ need many ng zg nc zc nm zm m s r msg d) = true := by simp
  cases hok : spOk need many ng zg nc zc nm zm m s r msg d with
  | false =>
    go_wp2
    go_ret
    exact ⟨rfl, Draw.below_of G.out⟩
  | true =>
    obtain ⟨hga, hs, hd, hr, hms⟩ := sp_iff.1 hok
    have hz0 : spZ need many ng zg nc zc nm zm m s r msg d = sumF d (mulF (gW zc nm zm m r msg) s) := by unfold spZ; rw [if_pos hok]
    rw [hz0] at hzz hzq ⊢
    clear hz0 hok
    have hf := ga_facts hga
    obtain ⟨q, rfl⟩ : ∃ q, need = q + 1 := ⟨need - 1, by omega⟩
    have hqn : q + 1 ≤ nm := by omega
    have hn5 : nm ≤ 5 := hf.2.2.2.2.1
    clear hf hga hs hd hr hms
    clear k0 k1 k2 k3
    clear x0 x1
    have LE := Lib.hid (lst_empty w3)
    go_wp2
    clear hzz hzq
    go_loopw [13, 14] (fun v i W => ∃ (k : Nat) (l : List Int), k ≤ nm ∧ i = .int .i64 k ∧ Lst W w3.heap.size v l ∧ (∀ j, j < l.length → li l j ≠ m) ∧ l.length ≤ k ∧ w3.grownBy W none) (fun _ i _ => nm - (intOf i).toNat)
    case atStart => exact ⟨0, [], by omega, rfl, LE.out, (fun j hj => by simp at hj), by simp, Draw.grown_alloc _ _ _⟩
    case round =>
      obtain ⟨k, l, hk, rfl, hL, hne, hlk, hg⟩ := hrel
      obtain ⟨W1, hW⟩ : ∃ W, W = wr := ⟨_, rfl⟩; subst hW
      obtain ⟨v1, hW⟩ : ∃ W, W = u13 := ⟨_, rfl⟩; subst hW
      have C := Lib.hid hg
      have LS := Lib.hid hL; have NE := Lib.hid hne
      clear hL hne
      replace G := Lib.hid (gtr G.out hg)
      replace K := Lib.hid (K.out.kept hg)
      replace H := Lib.hid (H.out.kept hg)
      replace I1 := Lib.hid (I1.out.kept hg)
      replace I2 := Lib.hid (I2.out.kept hg)
      replace I3 := Lib.hid (I3.out.kept hg)
      clear hg
      by_cases hlt : k < nm
      · skip
        have hlt' : (k : Int) < (nm : Int) := by omega
        have hk0 : (0 : Int) ≤ (k : Int) := by omega
        obtain ⟨bm, om, rfl, hbm, hmcel⟩ := I3.out.ptr (by omega)
        have hcx := hmcel k hlt
        clear hmcel
        have HCX := Lib.hid hcx; clear hcx
        have HMC : ∀ V : World, W1.grownBy V none → V.cell? ⟨bm, om + k, none⟩ = some (.int .i64 (zm k)) := fun V hg => (World.cell?_of_block (hg.block bm hbm (by simp))).trans HCX.out
        have HMC := Lib.hid HMC
        have D9 := Lib.hid (Draw.grown_refl W1 none)
        go_wp2_with fail
        refine wp_region_held_drew (S := (fun w' => w'.cell? ⟨bm, om + k, none⟩ = some (.int .i64 (zm k)) ∧ w'.cell? ⟨w1.heap.size + 1, 0, none⟩ = some (.int .i64 m))) (by kernel_rfl) (⟨HMC.out _ (Draw.gdrew _), H.out.c0⟩) (fun hHeld => ?_)
        have hg := Draw.gdrew W1
        replace G := Lib.hid (gtr G.out hg)
        replace K := Lib.hid (K.out.kept hg)
        replace H := Lib.hid (H.out.kept hg)
        replace I1 := Lib.hid (I1.out.kept hg)
        replace I2 := Lib.hid (I2.out.kept hg)
        replace I3 := Lib.hid (I3.out.kept hg)
        replace C := Lib.hid (gtr C.out hg)
        replace LS := Lib.hid (LS.out.kept hg)
        replace D9 := Lib.hid (gtr D9.out hg)
        clear hg
        generalize W1.drew = V1 at *
        refine wpAnyH_take (i := 0) (oi := ⟨some 78, _, _, _, _, _⟩) (v := ?_) rfl (by kernel_rfl) (by kernel_rfl) (by kernel_rfl) (fun _ _ _ h => h) (Or.inl ⟨by rfl, ?_⟩) (by assumption) ?_
        rotate_left
        · intro w hSw; (try dsimp only at hSw); go_simp; try with_reducible rfl
        simp only [Act.put, List.setIfInBounds_toArray, List.set_cons_zero, List.set_cons_succ]
        refine wpAnyH_take (i := 1) (oi := ⟨some 79, _, _, _, _, _⟩) (v := ?_) rfl (by kernel_rfl) (by kernel_rfl) (by kernel_rfl) (fun _ _ _ h => h) (Or.inl ⟨by rfl, ?_⟩) (by assumption) ?_
        rotate_left
        · intro w hSw; (try dsimp only at hSw); go_simp; try with_reducible rfl
        simp only [Act.put, List.setIfInBounds_toArray, List.set_cons_zero, List.set_cons_succ]
        refine wpAnyH_take (i := 2) (oi := ⟨some 80, _, _, _, _, _⟩) (v := ?_) rfl (by kernel_rfl) (by kernel_rfl) (by kernel_rfl) (fun _ _ _ h => h) (Or.inl ⟨by rfl, ?_⟩) (by assumption) ?_
        rotate_left
        · intro w hSw; (try dsimp only at hSw); go_simp; try with_reducible rfl
        simp only [Act.put, List.setIfInBounds_toArray, List.set_cons_zero, List.set_cons_succ]
        refine wpAnyH_take (i := 3) (oi := ⟨some 81, _, _, _, _, _⟩) (v := ?_) rfl (by kernel_rfl) (by kernel_rfl) (by kernel_rfl) (fun _ _ _ h => h) (Or.inl ⟨by rfl, ?_⟩) (by assumption) ?_
        rotate_left
        · intro w hSw; (try dsimp only at hSw); go_simp; try with_reducible rfl
        simp only [Act.put, List.setIfInBounds_toArray, List.set_cons_zero, List.set_cons_succ]
        refine wpAnyH_take (i := 4) (oi := ⟨some 82, _, _, _, _, _⟩) (v := ?_) rfl (by kernel_rfl) (by kernel_rfl) (by kernel_rfl) (fun _ _ _ h => h) (Or.inl ⟨by rfl, ?_⟩) (by assumption) ?_
        rotate_left
        · intro w hSw; (try dsimp only at hSw); go_simp; try with_reducible rfl
        simp only [Act.put, List.setIfInBounds_toArray, List.set_cons_zero, List.set_cons_succ]
        refine wpAnyH_take (i := 5) (oi := ⟨some 83, _, _, _, _, _⟩) (v := ?_) rfl (by kernel_rfl) (by kernel_rfl) (by kernel_rfl) (fun _ _ _ h => h) (Or.inl ⟨by rfl, ?_⟩) (by assumption) ?_
        rotate_left
        · intro w hSw; (try dsimp only at hSw); go_simp; try with_reducible rfl
        simp only [Act.put, List.setIfInBounds_toArray, List.set_cons_zero, List.set_cons_succ]
        refine wpAnyH_take (i := 6) (oi := ⟨some 84, _, _, _, _, _⟩) (v := ?_) rfl (by kernel_rfl) (by kernel_rfl) (by kernel_rfl) (fun _ _ _ h => h) (Or.inl ⟨by rfl, ?_⟩) (by assumption) ?_
        rotate_left
        · intro w hSw; (try dsimp only at hSw); go_simp; try with_reducible rfl
        simp only [Act.put, List.setIfInBounds_toArray, List.set_cons_zero, List.set_cons_succ]
        refine wpAnyH_done (by kernel_rfl) ?_ _
        by_cases he : zm k = m
        · have ht : (zm k != m) = false := by simpa using he
          clear he
          go_wp2
          go_roundw
          case rel => exact ⟨k + 1, l, by omega, by go_num, LS.out, NE.out, by omega, C.out⟩
          case measure => simp [intOf]; omega
        · have ht : (zm k != m) = true := by simpa using he
          have hcy := HMC.out _ D9.out
          have HNE := Lib.hid he
          have hl5 : l.length ≤ 5 := by omega
          have hwv := C.out.size
          obtain ⟨av, cv, rfl, _, hvc, hvm⟩ := LS.out.slice
          clear he
          go_wp2_with (at_builtin; refine wpList_append_own _ rfl _ _ 40 rfl w3.heap.size 3 i0 (.int .i64 0) 1 8 und_ints hi hz0 hz1 hz2 rfl (by decide) _ _ (vals (li l) l.length) rfl (LS.out.alloc _).owns ⟨V1.heap.size, 0, none⟩ 1 1 [.int .i64 (zm k)] rfl rfl (cell_one_new _ _ _) (by simp [Value.oneCell']) (by unfold maxLen; omega) (by omega) (by simp; omega) ?_; intro v' w5 hown' hgrow _)
          have HL3 := Lib.hid (Lst.app hown'); have HG3 := Lib.hid (Lst.app_grown LS.out C.out hgrow)
          clear hown' hgrow
          go_wp2
          go_roundw
          case rel => exact ⟨k + 1, l ++ [zm k], by omega, by go_num, HL3.out, (fun j hj => by
            simp at hj
            by_cases e : j = l.length
            · subst e; rw [li_last]; exact HNE.out
            · rw [li_app (by omega)]; exact NE.out j (by omega)), by simp; omega, HG3.out⟩
          case measure => simp [intOf]; omega
      · obtain rfl : k = nm := by omega
        have hlt' : ¬ (k : Int) < (k : Int) := by omega
        obtain ⟨av, cv, rfl, hLI, hvc, hvm⟩ := LS.out.slice
        have LI := Lib.hid hLI; clear hLI
        have HO := Lib.hid (show spOk ((q + 1 : Nat) : Int) many ng zg nc zc l.length (li l) m s r msg d = false from sp_not (fun h => by
          have h3 := (ga_iff.1 h.1).2.2
          obtain ⟨j, hj, he⟩ := hasz_iff.1 h3
          exact NE.out j hj he))
        have HF := Lib.hid (show spOk ((q + 1 : Nat) : Int) many ng zg nc zc q zm m s r msg d = false from sp_not (fun h => by
          have h3 := (crw_iff.1 (ga_iff.1 h.1).2.1).1
          omega))
        clear LS
        obtain ⟨_, k0, k1, k2, k3⟩ := K.out
        obtain ⟨_, x0, x1⟩ := H.out
        go_wp2_with fail
        refine (ipart _ ((q + 1 : Nat) : Int) many _ ng _ zg _ nc _ zc _ l.length _ (li l) m s r msg d I1.out I2.out LI.out (by omega) (by omega) (by omega) hvc hvm).mono ?_
        rintro e w6 ⟨rfl, hg⟩
        clear k0 k1 k2 k3
        clear x0 x1
        replace G := Lib.hid (gtr G.out hg)
        replace K := Lib.hid (K.out.kept hg)
        replace H := Lib.hid (H.out.kept hg)
        replace I1 := Lib.hid (I1.out.kept hg)
        replace I2 := Lib.hid (I2.out.kept hg)
        replace I3 := Lib.hid (I3.out.kept hg)
        replace C := Lib.hid (gtr C.out hg)
        replace LI := Lib.hid (LI.out.kept hg)
        clear hg
        obtain ⟨_, k0, k1, k2, k3⟩ := K.out
        obtain ⟨_, x0, x1⟩ := H.out
        rw [spV_no HO.out]
        clear k0 k1 k2 k3
        clear x0 x1
        go_wp2_with fail
        refine wp_region_held_drew (S := (fun w' => w'.cell? ⟨w1.heap.size, 0, none⟩ = some (.int .i64 ((q + 1 : Nat) : Int)) ∧ w'.cell? ⟨w1.heap.size, 1, none⟩ = some (.int .i64 (many : Int)) ∧ w'.cell? ⟨w1.heap.size, 2, none⟩ = some (.slice ag ng cg) ∧ w'.cell? ⟨w1.heap.size, 3, none⟩ = some (.slice ac nc cc) ∧ w'.cell? ⟨w1.heap.size + 1, 0, none⟩ = some (.int .i64 m) ∧ w'.cell? ⟨w1.heap.size + 1, 1, none⟩ = some (.int .i64 s))) (by kernel_rfl) (⟨K.out.c0, K.out.c1, K.out.c2, K.out.c3, H.out.c0, H.out.c1⟩) (fun hHeld => ?_)
        have hg := Draw.gdrew w6
        replace G := Lib.hid (gtr G.out hg)
        replace K := Lib.hid (K.out.kept hg)
        replace H := Lib.hid (H.out.kept hg)
        replace I1 := Lib.hid (I1.out.kept hg)
        replace I2 := Lib.hid (I2.out.kept hg)
        replace I3 := Lib.hid (I3.out.kept hg)
        replace C := Lib.hid (gtr C.out hg)
        replace LI := Lib.hid (LI.out.kept hg)
        clear hg
        generalize w6.drew = V3 at *
        refine wpAnyH_take (i := 0) (oi := ⟨some 103, _, _, _, _, _⟩) (v := ?_) rfl (by kernel_rfl) (by kernel_rfl) (by kernel_rfl) (fun _ _ _ h => h) (Or.inl ⟨by rfl, ?_⟩) (by assumption) ?_
        rotate_left
        · intro w hSw; (try dsimp only at hSw); go_simp; try with_reducible rfl
        simp only [Act.put, List.setIfInBounds_toArray, List.set_cons_zero, List.set_cons_succ]
        refine wpAnyH_take (i := 1) (oi := ⟨some 104, _, _, _, _, _⟩) (v := ?_) rfl (by kernel_rfl) (by kernel_rfl) (by kernel_rfl) (fun _ _ _ h => h) (Or.inl ⟨by rfl, ?_⟩) (by assumption) ?_
        rotate_left
        · intro w hSw; (try dsimp only at hSw); go_simp; try with_reducible rfl
        simp only [Act.put, List.setIfInBounds_toArray, List.set_cons_zero, List.set_cons_succ]
        refine wpAnyH_take (i := 2) (oi := ⟨some 105, _, _, _, _, _⟩) (v := ?_) rfl (by kernel_rfl) (by kernel_rfl) (by kernel_rfl) (fun _ _ _ h => h) (Or.inl ⟨by rfl, ?_⟩) (by assumption) ?_
        rotate_left
        · intro w hSw; (try dsimp only at hSw); go_simp; try with_reducible rfl
        simp only [Act.put, List.setIfInBounds_toArray, List.set_cons_zero, List.set_cons_succ]
        refine wpAnyH_take (i := 3) (oi := ⟨some 106, _, _, _, _, _⟩) (v := ?_) rfl (by kernel_rfl) (by kernel_rfl) (by kernel_rfl) (fun _ _ _ h => h) (Or.inl ⟨by rfl, ?_⟩) (by assumption) ?_
        rotate_left
        · intro w hSw; (try dsimp only at hSw); go_simp; try with_reducible rfl
        simp only [Act.put, List.setIfInBounds_toArray, List.set_cons_zero, List.set_cons_succ]
        refine wpAnyH_take (i := 4) (oi := ⟨some 107, _, _, _, _, _⟩) (v := ?_) rfl (by kernel_rfl) (by kernel_rfl) (by kernel_rfl) (fun _ _ _ h => h) (Or.inl ⟨by rfl, ?_⟩) (by assumption) ?_
        rotate_left
        · intro w hSw; (try dsimp only at hSw); go_simp; try with_reducible rfl
        simp only [Act.put, List.setIfInBounds_toArray, List.set_cons_zero, List.set_cons_succ]
        refine wpAnyH_take (i := 6) (oi := ⟨some 109, _, _, _, _, _⟩) (v := ?_) rfl (by kernel_rfl) (by kernel_rfl) (by kernel_rfl) (fun _ _ _ h => h) (Or.inl ⟨by rfl, ?_⟩) (by assumption) ?_
        rotate_left
        · intro w hSw; (try dsimp only at hSw); go_simp; try with_reducible rfl
        simp only [Act.put, List.setIfInBounds_toArray, List.set_cons_zero, List.set_cons_succ]
        refine wpAnyH_take (i := 7) (oi := ⟨some 110, _, _, _, _, _⟩) (v := ?_) rfl (by kernel_rfl) (by kernel_rfl) (by kernel_rfl) (fun _ _ _ h => h) (Or.inl ⟨by rfl, ?_⟩) (by assumption) ?_
        rotate_left
        · intro w hSw; (try dsimp only at hSw); go_simp; try with_reducible rfl
        simp only [Act.put, List.setIfInBounds_toArray, List.set_cons_zero, List.set_cons_succ]
        refine wpAnyH_take (i := 8) (oi := ⟨some 111, _, _, _, _, _⟩) (v := ?_) rfl (by kernel_rfl) (by kernel_rfl) (by kernel_rfl) (fun _ _ _ h => h) (Or.inl ⟨by rfl, ?_⟩) (by assumption) ?_
        rotate_left
        · intro w hSw; (try dsimp only at hSw); go_simp; try with_reducible rfl
        simp only [Act.put, List.setIfInBounds_toArray, List.set_cons_zero, List.set_cons_succ]
        refine wpAnyH_take (i := 9) (oi := ⟨some 112, _, _, _, _, _⟩) (v := ?_) rfl (by kernel_rfl) (by kernel_rfl) (by kernel_rfl) (fun _ _ _ h => h) (Or.inl ⟨by rfl, ?_⟩) (by assumption) ?_
        rotate_left
        · intro w hSw; (try dsimp only at hSw); go_simp; try with_reducible rfl
        simp only [Act.put, List.setIfInBounds_toArray, List.set_cons_zero, List.set_cons_succ]
        have hsub : IntKind.i64.wrap (q : Int) = (q : Int) := IntWalk.i64_in _ (by omega)
        have hq0 : (0 : Int) ≤ (q : Int) := by omega
        have hqc : (q : Int) ≤ (cm : Int) := by omega
        rw [hsub]
        clear hsub
        refine wpAnyH_ready (rs := [5]) (by kernel_rfl) (by simp) ?_
        refine AllReadyH.cons (o := ⟨some 108, _, _, _, _, _⟩) rfl (fun Kq hKq => ?_) AllReadyH.nil
        go_simp
        refine hKq.out _ _ (⟨K.out.c0, K.out.c1, K.out.c2, K.out.c3, H.out.c0, H.out.c1⟩) (fun hHeld => ?_)
        clear hKq Kq
        refine wpAnyH_ready (rs := [10]) (by kernel_rfl) (by simp) ?_
        refine AllReadyH.cons (o := ⟨some 113, _, _, _, _, _⟩) rfl (fun Kq hKq => ?_) AllReadyH.nil
        go_simp
        go_at_call 37
        refine (ipart _ ((q + 1 : Nat) : Int) many _ ng _ zg _ nc _ zc _ q _ zm m s r msg d I1.out I2.out (I3.out.less (by omega)) (by omega) (by omega) (by omega) (by omega) hcm).mono ?_
        rintro e v9 ⟨rfl, hg⟩
        rw [spV_no HF.out]
        replace G := Lib.hid (gtr G.out hg)
        replace K := Lib.hid (K.out.kept hg)
        replace H := Lib.hid (H.out.kept hg)
        replace I1 := Lib.hid (I1.out.kept hg)
        replace I2 := Lib.hid (I2.out.kept hg)
        replace I3 := Lib.hid (I3.out.kept hg)
        replace C := Lib.hid (gtr C.out hg)
        replace LI := Lib.hid (LI.out.kept hg)
        clear hg
        refine hKq.out _ _ (⟨K.out.c0, K.out.c1, K.out.c2, K.out.c3, H.out.c0, H.out.c1⟩) (fun hHeld => ?_)
        clear hKq Kq
        refine wpAnyH_take (i := 11) (oi := ⟨some 102, _, _, _, _, _⟩) (v := ?_) rfl (by kernel_rfl) (by kernel_rfl) (by kernel_rfl) (fun _ _ _ h => h) (Or.inl ⟨by rfl, ?_⟩) (by assumption) ?_
        rotate_left
        · intro w hSw; (try dsimp only at hSw); go_simp; try with_reducible rfl
        simp only [Act.put, List.setIfInBounds_toArray, List.set_cons_zero, List.set_cons_succ]
        refine wpAnyH_take (i := 12) (oi := ⟨some 114, _, _, _, _, _⟩) (v := ?_) rfl (by kernel_rfl) (by kernel_rfl) (by kernel_rfl) (fun _ _ _ h => h) (Or.inl ⟨by rfl, ?_⟩) (by assumption) ?_
        rotate_left
        · intro w hSw; (try dsimp only at hSw); go_simp; try with_reducible rfl
        simp only [Act.put, List.setIfInBounds_toArray, List.set_cons_zero, List.set_cons_succ]
        refine wpAnyH_take (i := 13) (oi := ⟨some 115, _, _, _, _, _⟩) (v := ?_) rfl (by kernel_rfl) (by kernel_rfl) (by kernel_rfl) (fun _ _ _ h => h) (Or.inl ⟨by rfl, ?_⟩) (by assumption) ?_
        rotate_left
        · intro w hSw; (try dsimp only at hSw); go_simp; try with_reducible rfl
        simp only [Act.put, List.setIfInBounds_toArray, List.set_cons_zero, List.set_cons_succ]
        refine wpAnyH_take (i := 14) (oi := ⟨some 17, _, _, _, _, _⟩) (v := ?_) rfl (by kernel_rfl) (by kernel_rfl) (by kernel_rfl) (fun _ _ _ h => h) (Or.inl ⟨by rfl, ?_⟩) (by assumption) ?_
        rotate_left
        · intro w hSw; (try dsimp only at hSw); go_simp; try with_reducible rfl
        simp only [Act.put, List.setIfInBounds_toArray, List.set_cons_zero, List.set_cons_succ]
        refine wpAnyH_take (i := 15) (oi := ⟨some 18, _, _, _, _, _⟩) (v := ?_) rfl (by kernel_rfl) (by kernel_rfl) (by kernel_rfl) (fun _ _ _ h => h) (Or.inl ⟨by rfl, ?_⟩) (by assumption) ?_
        rotate_left
        · intro w hSw; (try dsimp only at hSw); go_simp; try with_reducible rfl
        simp only [Act.put, List.setIfInBounds_toArray, List.set_cons_zero, List.set_cons_succ]
        refine wpAnyH_done (by kernel_rfl) ?_ _
        obtain ⟨_, k0, k1, k2, k3⟩ := K.out
        have hge : ((q : Int) + 1) ≤ (k : Int) := by omega
        go_wp2
        go_ret
        exact ⟨by first | rfl | simp, Draw.below_of G.out⟩
end Run
end Go.Proofs.Ytpeofoabhjebbaa
