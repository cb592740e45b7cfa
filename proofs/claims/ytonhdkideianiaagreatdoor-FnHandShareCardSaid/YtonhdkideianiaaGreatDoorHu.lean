/-
  Handed on: the model's functions: the selected deals, and a member's share.
-/
import Derived.Test.YtonhdkideianiaaGreatDoorHs
import Derived.Test.YtonhdkideianiaaGreatDoorWk
import Derived.Deep.RegionHeld3
import Derived.Deep.RegionWith
namespace Go.Proofs.YtonhdkideianiaaGreatDoor
namespace Con
open Go.RowKit Alg Mem Mp Hd Draw
set_option linter.unusedVariables false

theorem vals_one (z : Nat → Int) (k : Nat) : vals z (k + 1) = vals z k ++ [.int .i64 (z k)] := by simp [vals, List.range_succ]
theorem own_shape {w : World} {lo k n : Nat} {T : TypeId} {v : Value} {xs : List Value} (h : w.ownsRow lo T k v n xs) : ∃ a c, v = .slice a n c ∧ n ≤ c ∧ c ≤ maxLen := by
  rcases h.2 with ⟨hv, h0⟩ | ⟨g, c, cur, hv, _, _, h1, h2, _⟩
  · exact ⟨none, 0, by rw [hv, h0], by omega, by unfold maxLen; omega⟩
  · exact ⟨_, c, hv, h1, h2⟩
theorem own_empty (w : World) (T : TypeId) (k : Nat) : (w.alloc (.cells #[] T)).ownsRow w.heap.size T k (.slice (some ⟨w.heap.size, 0, none⟩) 0 0) 0 [] :=
  ⟨by simp, .inr ⟨_, 0, #[], rfl, Nat.le_refl _, Blk.new w #[] T, Nat.le_refl _, by decide, by simp, by simp⟩⟩
theorem own_apart {W : World} {lo lo' k k' n n' : Nat} {T U : TypeId} {v v' : Value} {xs xs' : List Value} (h : W.ownsRow lo T k v n xs) (h' : W.ownsRow lo' U k' v' n' xs') (hne : T ≠ U) : v'.ownBlock = none ∨ v'.ownBlock ≠ v.ownBlock := by
  rcases h'.2 with ⟨rfl, _⟩ | ⟨g', c', cur', rfl, _, hg', _⟩
  · exact .inl rfl
  · right
    rcases h.2 with ⟨rfl, _⟩ | ⟨g, c, cur, rfl, _, hg, _⟩
    · intro e; cases e
    · intro e
      have e : g' = g := Option.some.inj e
      subst e
      rw [hg] at hg'
      injection hg' with hg'
      injection hg' with _ k2 _
      exact hne k2
theorem own_ky {W : World} {lo k n b : Nat} {T : TypeId} {v : Value} {xs : List Value} (h : W.ownsRow lo T k v n xs) (hb : b < lo) : some b ≠ v.ownBlock := by
  intro e
  have h1 := (h.lt b e.symm).1
  omega
theorem own_other {W W' : World} {lo lo' k k' n n' : Nat} {T U : TypeId} {v v' : Value} {xs xs' : List Value} {o : Obj} (h : W.ownsRow lo T k v n xs) (h' : W.ownsRow lo' U k' v' n' xs') (hg : (W.alloc o).grownBy W' v.ownBlock) (hne : T ≠ U) : W'.ownsRow lo' U k' v' n' xs' :=
  (h'.alloc o).kept hg (own_apart (h.alloc o) (h'.alloc o) hne)
theorem ky_other {W W' : World} {lo k n b : Nat} {T : TypeId} {v : Value} {xs : List Value} {o : Obj} {need many : Int} {s1 s2 : Value} (h : W.ownsRow lo T k v n xs) (hK : Ky W b need many s1 s2) (hb : b < lo) (hg : (W.alloc o).grownBy W' v.ownBlock) : Ky W' b need many s1 s2 :=
  have g := Draw.grown_alloc W o none
  (hK.kept g).keptB (hg.block _ (hK.kept g).lt (own_ky (h.alloc o) hb)) hg.size
theorem info_of' {P : Program} {T : TypeId} {z : Value} {s b : Nat} (h : (P.info? T).map (fun i => (i.zero, i.size, i.bytes)) = some (some z, s, b)) : ∃ i, P.info? T = some i ∧ i.zero = some z ∧ i.size = s ∧ i.bytes = b := by
  obtain ⟨i, hi, hz⟩ := Option.map_eq_some_iff.1 h
  simp only [Prod.mk.injEq] at hz
  exact ⟨i, hi, hz.1, hz.2.1, hz.2.2⟩
theorem und_dls' : Tryz.prog.underlying 26 = some (.slice 35) := by kernel_rfl
theorem info_dl' : (Tryz.prog.info? 35).map (fun i => (i.zero, i.size, i.bytes)) = some (some (.agg #[.int .i64 0, .slice none 0 0, .slice none 0 0]), 3, 56) := by kernel_rfl
/-- The selected deals with how often each is taken, the call's own. -/
def Fst (W : World) (lo : Nat) (D : Nat → DV) (S : List Nat) (v1 v2 : Value) : Prop :=
  W.ownsRow lo 35 3 v1 S.length (cellsD (S.map D)) ∧ ∃ b c, v2 = .slice (some ⟨b, 0, none⟩) S.length c ∧ Row W lo 3 b S.length c (hsL D S)
set_option maxRecDepth 100000 in
set_option maxHeartbeats 4000000 in
theorem s22first (w : World) (need many : Int) (ag : Option Addr) (ng cg : Nat) (zg : Nat → Int) (ac : Option Addr) (nc cc : Nat) (zc : Nat → Int) (ad : Option Addr) (nd cd : Nat) (D : Nat → DV) (dn dm : Int) (hG : Ints w ag ng zg) (hC : Ints w ac nc zc) (hD : DealsIn w ad nd D) (hl1 : ng ≤ 2000000) (hl2 : nc ≤ 2000000) (hl3 : nd ≤ 2000000) (hL : ∀ j, j < nd → (D j).n1 ≤ 2000000 ∧ (D j).n2 ≤ 2000000) :
    Calls Tryz.prog 16 #[.agg #[.int .i64 need, .int .i64 many, .slice ag ng cg, .slice ac nc cc], .slice ad nd cd, .int .i64 dn, .int .i64 dm] w fun e w' => (∃ v1 v2, e = .returned (.tuple #[v1, v2, .bool (hsB need many ng zg nc zc D dn dm nd)]) ∧ (hsB need many ng zg nc zc D dn dm nd = true → Fst w' w.heap.size D (hsel need many ng zg nc zc D dn dm nd) v1 v2)) ∧ w.grownBy w' none := by
  obtain ⟨i0, hi, hz0, hz1, hz2⟩ := info_parts info_int
  obtain ⟨j0, hj, hy0, hy1, hy2⟩ := info_of' info_dl'
  have hg := Draw.grown_alloc w (.cells #[.int .i64 need, .int .i64 many, .slice ag ng cg, .slice ac nc cc] 25) none
  have G := Lib.hid hg
  have K := Lib.hid (Ky.new w need many (.slice ag ng cg) (.slice ac nc cc) 25)
  have HL := Lib.hid hL
  have HG0 := Lib.hid hG; have HC0 := Lib.hid hC; have HD0 := Lib.hid hD
  clear hG hC hD hL hg
  go_enter Tryz.func16, Tryz.ntmps16
  have e1 : (w.alloc (.cells #[.int .i64 need, .int .i64 many, .slice ag ng cg, .slice ac nc cc] 25)).heap.size = w.heap.size + 1 := by show (w.heap.push _).size = _; simp
  have e2 : ((w.alloc (.cells #[.int .i64 need, .int .i64 many, .slice ag ng cg, .slice ac nc cc] 25)).alloc (.cells #[] 35)).heap.size = w.heap.size + 1 + 1 := by show ((w.heap.push _).push _).size = _; simp
  have o0 := own_empty (w.alloc (.cells #[.int .i64 need, .int .i64 many, .slice ag ng cg, .slice ac nc cc] 25)) 35 3
  have gd := Draw.grown_alloc (w.alloc (.cells #[.int .i64 need, .int .i64 many, .slice ag ng cg, .slice ac nc cc] 25)) (.cells #[] 35) none
  have p0 := own_lo (own_empty ((w.alloc (.cells #[.int .i64 need, .int .i64 many, .slice ag ng cg, .slice ac nc cc] 25)).alloc (.cells #[] 35)) 3 1) gd.size
  have gp := Draw.grown_alloc ((w.alloc (.cells #[.int .i64 need, .int .i64 many, .slice ag ng cg, .slice ac nc cc] 25)).alloc (.cells #[] 35)) (.cells #[] 3) none
  rw [e1] at o0
  rw [e2, e1] at p0
  have O1 := Lib.hid (o0.kept gp (by right; intro e; cases e)); have P0 := Lib.hid p0
  have G1 := Lib.hid (gtr (gtr G.out gd) gp); have K1 := Lib.hid (K.out.kept (gtr gd gp))
  clear gd gp G K o0 p0 e1 e2
  go_wp2
  go_loopw [11, 12, 13] (fun o p i W => ∃ k : Nat, k ≤ nd ∧ i = .int .i64 k ∧ W.ownsRow (w.heap.size + 1) 35 3 o (hsel need many ng zg nc zc D dn dm k).length (cellsD ((hsel need many ng zg nc zc D dn dm k).map D)) ∧ W.ownsRow (w.heap.size + 1) 3 1 p (hsel need many ng zg nc zc D dn dm k).length (vals (hsP D (hsel need many ng zg nc zc D dn dm k)) (hsel need many ng zg nc zc D dn dm k).length) ∧ Ky W w.heap.size need many (.slice ag ng cg) (.slice ac nc cc) ∧ w.grownBy W none) (fun _ _ i _ => nd - (intOf i).toNat)
  case atStart => exact ⟨0, by omega, rfl, O1.out, P0.out, K1.out, G1.out⟩
  case round =>
    obtain ⟨k, hk, rfl, hO, hP, hK, hg⟩ := hrel
    have O := Lib.hid hO; have PL := Lib.hid hP; have K := Lib.hid hK; have G := Lib.hid hg
    have HG := Lib.hid (HG0.out.kept hg); have HC := Lib.hid (HC0.out.kept hg); have HD := Lib.hid (HD0.out.kept hg)
    obtain ⟨ao, co, rfl, hoc, hom⟩ := own_shape hO
    obtain ⟨ap, cp, rfl, hpc, hpm⟩ := own_shape hP
    clear hO hP hK hg O1 P0 G1 K1
    generalize hSL : (hsel need many ng zg nc zc D dn dm k).length = sl at *
    have HSLe := Lib.hid hSL; clear hSL
    have hwG := G.out.size
    by_cases hlt : k < nd
    · by_cases hm : (sl : Int) < need
      · skip
        have hlt' : (k : Int) < (nd : Int) := by omega
        have hk0 : (0 : Int) ≤ (k : Int) := by omega
        rcases HD.out with h | ⟨b, off, had, hb, hcc⟩
        · omega
        obtain ⟨⟨d0, d1, d2⟩, hr⟩ := hcc k hlt
        clear hcc
        have HR := Lib.hid hr; clear hr
        subst had
        have HDC := Lib.hid (show ∀ W : World, DealsIn W (some ⟨b, off, none⟩) nd D → W.cell? ⟨b, off + k * 3, none⟩ = some (.int .i64 (D k).f) ∧ W.cell? ⟨b, off + k * 3 + 1, none⟩ = some (.slice (D k).a1 (D k).n1 (D k).c1) ∧ W.cell? ⟨b, off + k * 3 + 2, none⟩ = some (.slice (D k).a2 (D k).n2 (D k).c2) from fun W hD => by
          rcases hD with h | ⟨b', off', had, hb, hcc⟩
          · omega
          · injection had with had; injection had with h1 h2; subst h1; subst h2
            exact (hcc k hlt).1)
        clear d0 d1 d2
        obtain ⟨_, k0, k1, k2, k3⟩ := K.out
        go_wp2_with fail
        refine wp_region_held_drew (S := (fun w' => w'.cell? ⟨w.heap.size, 0, none⟩ = some (.int .i64 need) ∧ w'.cell? ⟨w.heap.size, 1, none⟩ = some (.int .i64 many) ∧ w'.cell? ⟨w.heap.size, 2, none⟩ = some (.slice ag ng cg) ∧ w'.cell? ⟨w.heap.size, 3, none⟩ = some (.slice ac nc cc) ∧ w'.cell? ⟨b, off + k * 3, none⟩ = some (.int .i64 (D k).f) ∧ w'.cell? ⟨b, off + k * 3 + 1, none⟩ = some (.slice (D k).a1 (D k).n1 (D k).c1) ∧ w'.cell? ⟨b, off + k * 3 + 2, none⟩ = some (.slice (D k).a2 (D k).n2 (D k).c2))) (by kernel_rfl) (⟨K.out.c0, K.out.c1, K.out.c2, K.out.c3, (HDC.out wr HD.out).1, (HDC.out wr HD.out).2.1, (HDC.out wr HD.out).2.2⟩) (fun hHeld => ?_)
        have hg := gdrew wr
        clear k0 k1 k2 k3
        replace G := Lib.hid (gtr G.out hg)
        replace K := Lib.hid (K.out.kept hg)
        replace HG := Lib.hid (HG.out.kept hg)
        replace HC := Lib.hid (HC.out.kept hg)
        replace HD := Lib.hid (HD.out.kept hg)
        replace O := Lib.hid (O.out.kept hg (own_dis _))
        replace PL := Lib.hid (PL.out.kept hg (own_dis _))
        replace HR := Lib.hid (HR.out.kept hg)
        clear hg
        generalize wr.drew = W at *
        refine wpAnyH_take (i := 0) (oi := ⟨some 29, _, _, _, _, _⟩) (v := ?_) rfl (by kernel_rfl) (by kernel_rfl) (by kernel_rfl) (fun _ _ _ h => h) (Or.inl ⟨by rfl, ?_⟩) (by assumption) ?_
        rotate_left
        · intro w hSw; (try dsimp only at hSw); go_simp; try with_reducible rfl
        simp only [Act.put, List.setIfInBounds_toArray, List.set_cons_zero, List.set_cons_succ]
        refine wpAnyH_take (i := 1) (oi := ⟨some 30, _, _, _, _, _⟩) (v := ?_) rfl (by kernel_rfl) (by kernel_rfl) (by kernel_rfl) (fun _ _ _ h => h) (Or.inl ⟨by rfl, ?_⟩) (by assumption) ?_
        rotate_left
        · intro w hSw; (try dsimp only at hSw); go_simp; try with_reducible rfl
        simp only [Act.put, List.setIfInBounds_toArray, List.set_cons_zero, List.set_cons_succ]
        refine wpAnyH_take (i := 2) (oi := ⟨some 31, _, _, _, _, _⟩) (v := ?_) rfl (by kernel_rfl) (by kernel_rfl) (by kernel_rfl) (fun _ _ _ h => h) (Or.inl ⟨by rfl, ?_⟩) (by assumption) ?_
        rotate_left
        · intro w hSw; (try dsimp only at hSw); go_simp; try with_reducible rfl
        simp only [Act.put, List.setIfInBounds_toArray, List.set_cons_zero, List.set_cons_succ]
        refine wpAnyH_take (i := 3) (oi := ⟨some 32, _, _, _, _, _⟩) (v := ?_) rfl (by kernel_rfl) (by kernel_rfl) (by kernel_rfl) (fun _ _ _ h => h) (Or.inl ⟨by rfl, ?_⟩) (by assumption) ?_
        rotate_left
        · intro w hSw; (try dsimp only at hSw); go_simp; try with_reducible rfl
        simp only [Act.put, List.setIfInBounds_toArray, List.set_cons_zero, List.set_cons_succ]
        refine wpAnyH_take (i := 4) (oi := ⟨some 33, _, _, _, _, _⟩) (v := ?_) rfl (by kernel_rfl) (by kernel_rfl) (by kernel_rfl) (fun _ _ _ h => h) (Or.inl ⟨by rfl, ?_⟩) (by assumption) ?_
        rotate_left
        · intro w hSw; (try dsimp only at hSw); go_simp; try with_reducible rfl
        simp only [Act.put, List.setIfInBounds_toArray, List.set_cons_zero, List.set_cons_succ]
        refine wpAnyH_take (i := 5) (oi := ⟨some 34, _, _, _, _, _⟩) (v := ?_) rfl (by kernel_rfl) (by kernel_rfl) (by kernel_rfl) (fun _ _ _ h => h) (Or.inl ⟨by rfl, ?_⟩) (by assumption) ?_
        rotate_left
        · intro w hSw; (try dsimp only at hSw); go_simp; try with_reducible rfl
        simp only [Act.put, List.setIfInBounds_toArray, List.set_cons_zero, List.set_cons_succ]
        refine wpAnyH_take (i := 6) (oi := ⟨some 35, _, _, _, _, _⟩) (v := ?_) rfl (by kernel_rfl) (by kernel_rfl) (by kernel_rfl) (fun _ _ _ h => h) (Or.inl ⟨by rfl, ?_⟩) (by assumption) ?_
        rotate_left
        · intro w hSw; (try dsimp only at hSw); go_simp; try with_reducible rfl
        simp only [Act.put, List.setIfInBounds_toArray, List.set_cons_zero, List.set_cons_succ]
        refine wpAnyH_ready (rs := [7]) (by kernel_rfl) (by simp) ?_
        refine AllReadyH.cons (o := ⟨some 36, _, _, _, _, _⟩) rfl (fun Kq hKq => ?_) AllReadyH.nil
        go_simp
        go_at_call 35
        refine (shand _ need many _ ng _ zg _ nc _ zc (D k).f _ (D k).n1 _ (D k).z1 _ (D k).n2 _ (D k).z2 dn dm HG.out HC.out HR.out.i1 HR.out.i2 hl1 hl2 (HL.out k hlt).1 (HL.out k hlt).2).mono ?_
        rintro e w2 ⟨rfl, hg⟩
        replace G := Lib.hid (gtr G.out hg)
        replace K := Lib.hid (K.out.kept hg)
        replace HG := Lib.hid (HG.out.kept hg)
        replace HC := Lib.hid (HC.out.kept hg)
        replace HD := Lib.hid (HD.out.kept hg)
        replace O := Lib.hid (O.out.kept hg (own_dis _))
        replace PL := Lib.hid (PL.out.kept hg (own_dis _))
        replace HR := Lib.hid (HR.out.kept hg)
        clear hg
        refine hKq.out _ _ (⟨K.out.c0, K.out.c1, K.out.c2, K.out.c3, (HDC.out _ HD.out).1, (HDC.out _ HD.out).2.1, (HDC.out _ HD.out).2.2⟩) (fun hHeld => ?_)
        clear hKq Kq
        refine wpAnyH_done (by kernel_rfl) ?_ _
        cases hh : hoF need many ng zg nc zc (D k).f (D k).n1 (D k).z1 (D k).n2 (D k).z2 dn dm with
        | false =>
          have HS := Lib.hid (hsel_no (need := need) (many := many) (ng := ng) (zg := zg) (nc := nc) (zc := zc) (D := D) (dn := dn) (dm := dm) (n := k) hh)
          clear hh
          go_wp2
          go_roundw
          case rel => exact ⟨k + 1, by omega, by go_num, by rw [HS.out, HSLe.out]; exact O.out, by rw [HS.out, HSLe.out]; exact PL.out, K.out, G.out⟩
          case measure => simp [intOf] <;> omega
        | true =>
          have HS := Lib.hid (hsel_yes (need := need) (many := many) (ng := ng) (zg := zg) (nc := nc) (zc := zc) (D := D) (dn := dn) (dm := dm) (n := k) (by rw [HSLe.out]; exact hm) hh)
          have hk5 : sl ≤ 2000000 := by have h := sel_le (hnF need many ng zg nc zc D dn dm) need.toNat k; have h2 := HSLe.out; unfold hsel at h2; omega
          clear hh
          have d0 : w2.cell? ⟨b, off + k * 3, none⟩ = _ := (HDC.out w2 HD.out).1
          have d1 : w2.cell? ⟨b, off + k * 3 + 1, none⟩ = _ := (HDC.out w2 HD.out).2.1
          have d2 : w2.cell? ⟨b, off + k * 3 + 2, none⟩ = _ := (HDC.out w2 HD.out).2.2
          have hw2 := G.out.size
          have E1 := Lib.hid (show cellsD ((hsel need many ng zg nc zc D dn dm (k + 1)).map D) = cellsD ((hsel need many ng zg nc zc D dn dm k).map D) ++ [.int .i64 (D k).f, .slice (D k).a1 (D k).n1 (D k).c1, .slice (D k).a2 (D k).n2 (D k).c2] by rw [HS.out, List.map_append, List.map_cons, List.map_nil, cellsD_app])
          have E2 := Lib.hid (show vals (hsP D (hsel need many ng zg nc zc D dn dm (k + 1))) (sl + 1) = vals (hsP D (hsel need many ng zg nc zc D dn dm k)) sl ++ [.int .i64 (D k).f] by
            rw [vals_one, HS.out, ← HSLe.out]
            congr 1
            · exact vals_congr fun j hj => by unfold hsP; rw [at0_app hj]
            · unfold hsP; rw [at0_last])
          have HSL1 := Lib.hid (show (hsel need many ng zg nc zc D dn dm (k + 1)).length = sl + 1 by rw [HS.out, List.length_append, HSLe.out]; rfl)
          go_wp2_with (first
            | (at_builtin; refine wpList_append_own _ rfl _ _ 26 rfl (w.heap.size + 1) 35 j0 (.agg #[.int .i64 0, .slice none 0 0, .slice none 0 0]) 3 56 und_dls' hj hy0 hy1 hy2 rfl (by decide) (.slice ao sl co) sl (cellsD ((hsel need many ng zg nc zc D dn dm k).map D)) rfl (O.out.alloc _) ⟨w2.heap.size, 0, none⟩ 1 1 [.int .i64 (D k).f, .slice (D k).a1 (D k).n1 (D k).c1, .slice (D k).a2 (D k).n2 (D k).c2] rfl rfl (World.news_of_block (cs := #[.int .i64 (D k).f, .slice (D k).a1 (D k).n1 (D k).c1, .slice (D k).a2 (D k).n2 (D k).c2]) (t := 35) (fr := (0, 0)) (heap_alloc_new w2 _)) (by simp [Value.oneCell']) (by unfold maxLen; omega) (by omega) (by simp; omega) ?_; intro v' W3 hown hgrow _; have O3 := Lib.hid (E1.out.symm ▸ hown); have g9 := own_gr G.out O.out (Nat.le_succ _) hgrow; have G3 := Lib.hid g9; have PL3 := Lib.hid (own_other O.out PL.out hgrow (by decide)); have K3 := Lib.hid (ky_other O.out K.out (by omega) hgrow); clear d0 d1 d2; have d0 : W3.cell? ⟨b, off + k * 3, none⟩ = some (.int .i64 (D k).f) := (HDC.out W3 (HD0.out.kept g9)).1; have hw3 := g9.size; clear g9 hown hgrow)
            | (at_builtin; refine wpList_append_own _ rfl _ _ 23 rfl (w.heap.size + 1) 3 i0 (.int .i64 0) 1 8 und_ints hi hz0 hz1 hz2 rfl (by decide) (.slice ap sl cp) sl (vals (hsP D (hsel need many ng zg nc zc D dn dm k)) sl) rfl (PL3.out.alloc _) ⟨W3.heap.size, 0, none⟩ 1 1 [.int .i64 (D k).f] rfl rfl (cell_one_new _ _ _) (by simp [Value.oneCell']) (by unfold maxLen; omega) (by omega) (by simp; omega) ?_; intro p' W4 hown hgrow _; have P4 := Lib.hid (E2.out.symm ▸ hown); have G4 := Lib.hid (own_gr G3.out PL3.out (Nat.le_succ _) hgrow); have O4 := Lib.hid (own_other PL3.out O3.out hgrow (by decide)); have K4 := Lib.hid (ky_other PL3.out K3.out (by omega) hgrow); clear hown hgrow)
            | fail)
          go_roundw
          case rel => exact ⟨k + 1, by omega, by go_num, by rw [HSL1.out]; exact O4.out, by rw [HSL1.out]; exact P4.out, K4.out, G4.out⟩
          case measure => simp [intOf] <;> omega
      · have hlt' : (k : Int) < (nd : Int) := by omega
        have HE := Lib.hid (hsel_stop (many := many) (ng := ng) (zg := zg) (nc := nc) (zc := zc) (D := D) (dn := dn) (dm := dm) (n := k) (nd := nd) (need := need) (by rw [HSLe.out]; omega) hk)
        obtain ⟨_, k0, k1, k2, k3⟩ := K.out
        go_wp2_with fail
        refine (skeyok _ need many _ ng _ zg _ nc _ zc HG.out HC.out hl1 hl2).mono ?_
        rintro e w2 ⟨rfl, hg⟩
        clear k0 k1 k2 k3
        replace G := Lib.hid (gtr G.out hg)
        replace K := Lib.hid (K.out.kept hg)
        replace HG := Lib.hid (HG.out.kept hg)
        replace HC := Lib.hid (HC.out.kept hg)
        replace HD := Lib.hid (HD.out.kept hg)
        replace O := Lib.hid (O.out.kept hg (own_dis _))
        replace PL := Lib.hid (PL.out.kept hg (own_dis _))
        clear hg
        obtain ⟨_, k0, k1, k2, k3⟩ := K.out
        cases hky : kyF need many ng zg nc zc with
        | false =>
          have HN := Lib.hid (hsB_not (dn := dn) (dm := dm) (D := D) (nd := nd) (need := need) (many := many) (ng := ng) (zg := zg) (nc := nc) (zc := zc) (by simp [hky]))
          clear k0 k1 k2 k3
          go_wp2
          go_ret3
          exact ⟨⟨_, _, by rw [HN.out]; rfl, fun h => by rw [HN.out] at h; cases h⟩, gtr G.out (Draw.grown_alloc _ _ _)⟩
        | true =>
          go_wp2_with fail
          refine (screw _ dn dm).mono ?_
          rintro e w' ⟨rfl, rfl⟩
          cases hcr : crewF dn dm with
          | false =>
            have HN := Lib.hid (hsB_not (dn := dn) (dm := dm) (D := D) (nd := nd) (need := need) (many := many) (ng := ng) (zg := zg) (nc := nc) (zc := zc) (by simp [hcr]))
            clear k0 k1 k2 k3
            go_wp2
            go_ret3
            exact ⟨⟨_, _, by rw [HN.out]; rfl, fun h => by rw [HN.out] at h; cases h⟩, gtr G.out (Draw.grown_alloc _ _ _)⟩
          | true =>
            go_wp2_with fail
            refine (s12deals _ _ nd _ D HD.out hl3).mono ?_
            rintro e w3 ⟨rfl, hg⟩
            clear k0 k1 k2 k3
            replace G := Lib.hid (gtr G.out hg)
            replace K := Lib.hid (K.out.kept hg)
            replace HG := Lib.hid (HG.out.kept hg)
            replace HC := Lib.hid (HC.out.kept hg)
            replace HD := Lib.hid (HD.out.kept hg)
            replace O := Lib.hid (O.out.kept hg (own_dis _))
            replace PL := Lib.hid (PL.out.kept hg (own_dis _))
            clear hg
            obtain ⟨_, k0, k1, k2, k3⟩ := K.out
            cases hds : dsF D nd with
            | false =>
              have HN := Lib.hid (hsB_not (dn := dn) (dm := dm) (D := D) (nd := nd) (need := need) (many := many) (ng := ng) (zg := zg) (nc := nc) (zc := zc) (by simp [hds]))
              clear k0 k1 k2 k3
              go_wp2
              go_ret3
              exact ⟨⟨_, _, by rw [HN.out]; rfl, fun h => by rw [HN.out] at h; cases h⟩, gtr G.out (Draw.grown_alloc _ _ _)⟩
            | true =>
              by_cases hm2 : (sl : Int) < need
              · omega
              · have hY : hsB need many ng zg nc zc D dn dm nd = true := hsB_iff.2 ⟨hky, hcr, hds, by rw [HE.out, HSLe.out]; omega⟩
                have hpl := hsel_plok (dn := dn) (dm := dm) (D := D) hky hds
                rw [HE.out, HSLe.out] at hpl
                have hn1 := (ky_iff.1 hky).1.1
                have hs5 := (plok_iff.1 hpl).1
                have hs1 : 1 ≤ sl := by omega
                obtain ⟨bp, cp', hvp, hrp⟩ := row_of_owns PL.out (by omega) fun j hj => vals_get (hsP D (hsel need many ng zg nc zc D dn dm k)) hj
                have HRP := Lib.hid hrp; have HPL := Lib.hid hpl; have HY := Lib.hid hY
                clear hY hpl hrp hky hcr hds hn1
                clear PL
                injection hvp with e1 _ e3
                subst e1; subst e3
                have k0' := K.out.c0
                go_wp2_with fail
                refine (s3line _ _ sl _ (hsP D (hsel need many ng zg nc zc D dn dm k)) 0 HRP.out.ints hs5 (fun j hj => ((plok_iff.1 HPL.out).2 j hj).1) (fun i j hi hj hij => plok_apart HPL.out i j hi hj hij) rfl).mono ?_
                rintro e w4 ⟨bl, cl, rfl, hr, hg⟩
                clear k0'
                have R := Lib.hid (hr.lower (lo' := w.heap.size) (by have := G.out.size; omega))
                clear hr HRP
                clear k0 k1 k2 k3
                replace G := Lib.hid (gtr G.out hg)
                replace K := Lib.hid (K.out.kept hg)
                replace HG := Lib.hid (HG.out.kept hg)
                replace HC := Lib.hid (HC.out.kept hg)
                replace HD := Lib.hid (HD.out.kept hg)
                replace O := Lib.hid (O.out.kept hg (own_dis _))
                clear hg
                obtain ⟨_, k0, k1, k2, k3⟩ := K.out
                go_wp2
                go_ret3
                refine ⟨⟨_, _, by rw [HY.out]; rfl, fun _ => ?_⟩, G.out⟩
                rw [HE.out]
                refine ⟨by rw [HSLe.out]; exact own_lo O.out (Nat.le_succ _), bl, cl, by rw [HSLe.out]; rfl, ?_⟩
                have hL2 : hsL D (hsel need many ng zg nc zc D dn dm k) = zline sl (hsP D (hsel need many ng zg nc zc D dn dm k)) 0 := by funext i; unfold hsL; rw [HSLe.out]
                rw [HSLe.out, hL2]
                exact R.out
    · obtain rfl : k = nd := by omega
      have hlt' : ¬ (k : Int) < (k : Int) := by omega
      obtain ⟨_, k0, k1, k2, k3⟩ := K.out
      go_wp2_with fail
      refine (skeyok _ need many _ ng _ zg _ nc _ zc HG.out HC.out hl1 hl2).mono ?_
      rintro e w2 ⟨rfl, hg⟩
      clear k0 k1 k2 k3
      replace G := Lib.hid (gtr G.out hg)
      replace K := Lib.hid (K.out.kept hg)
      replace HG := Lib.hid (HG.out.kept hg)
      replace HC := Lib.hid (HC.out.kept hg)
      replace HD := Lib.hid (HD.out.kept hg)
      replace O := Lib.hid (O.out.kept hg (own_dis _))
      replace PL := Lib.hid (PL.out.kept hg (own_dis _))
      clear hg
      obtain ⟨_, k0, k1, k2, k3⟩ := K.out
      cases hky : kyF need many ng zg nc zc with
      | false =>
        have HN := Lib.hid (hsB_not (dn := dn) (dm := dm) (D := D) (nd := k) (need := need) (many := many) (ng := ng) (zg := zg) (nc := nc) (zc := zc) (by simp [hky]))
        clear k0 k1 k2 k3
        go_wp2
        go_ret3
        exact ⟨⟨_, _, by rw [HN.out]; rfl, fun h => by rw [HN.out] at h; cases h⟩, gtr G.out (Draw.grown_alloc _ _ _)⟩
      | true =>
        go_wp2_with fail
        refine (screw _ dn dm).mono ?_
        rintro e w' ⟨rfl, rfl⟩
        cases hcr : crewF dn dm with
        | false =>
          have HN := Lib.hid (hsB_not (dn := dn) (dm := dm) (D := D) (nd := k) (need := need) (many := many) (ng := ng) (zg := zg) (nc := nc) (zc := zc) (by simp [hcr]))
          clear k0 k1 k2 k3
          go_wp2
          go_ret3
          exact ⟨⟨_, _, by rw [HN.out]; rfl, fun h => by rw [HN.out] at h; cases h⟩, gtr G.out (Draw.grown_alloc _ _ _)⟩
        | true =>
          go_wp2_with fail
          refine (s12deals _ _ k _ D HD.out hl3).mono ?_
          rintro e w3 ⟨rfl, hg⟩
          clear k0 k1 k2 k3
          replace G := Lib.hid (gtr G.out hg)
          replace K := Lib.hid (K.out.kept hg)
          replace HG := Lib.hid (HG.out.kept hg)
          replace HC := Lib.hid (HC.out.kept hg)
          replace HD := Lib.hid (HD.out.kept hg)
          replace O := Lib.hid (O.out.kept hg (own_dis _))
          replace PL := Lib.hid (PL.out.kept hg (own_dis _))
          clear hg
          obtain ⟨_, k0, k1, k2, k3⟩ := K.out
          cases hds : dsF D k with
          | false =>
            have HN := Lib.hid (hsB_not (dn := dn) (dm := dm) (D := D) (nd := k) (need := need) (many := many) (ng := ng) (zg := zg) (nc := nc) (zc := zc) (by simp [hds]))
            clear k0 k1 k2 k3
            go_wp2
            go_ret3
            exact ⟨⟨_, _, by rw [HN.out]; rfl, fun h => by rw [HN.out] at h; cases h⟩, gtr G.out (Draw.grown_alloc _ _ _)⟩
          | true =>
            by_cases hm2 : (sl : Int) < need
            · skip
              have HN := Lib.hid (hsB_not (dn := dn) (dm := dm) (D := D) (nd := k) (need := need) (many := many) (ng := ng) (zg := zg) (nc := nc) (zc := zc) (by rw [HSLe.out]; intro h; omega))
              clear k0 k1 k2 k3
              have k0 := K.out.c0
              go_wp2
              go_ret3
              exact ⟨⟨_, _, by rw [HN.out]; rfl, fun h => by rw [HN.out] at h; cases h⟩, gtr G.out (Draw.grown_alloc _ _ _)⟩
            · have hY : hsB need many ng zg nc zc D dn dm k = true := hsB_iff.2 ⟨hky, hcr, hds, by rw [HSLe.out]; omega⟩
              have hpl := hsel_plok (dn := dn) (dm := dm) (D := D) hky hds
              rw [HSLe.out] at hpl
              have hn1 := (ky_iff.1 hky).1.1
              have hs5 := (plok_iff.1 hpl).1
              have hs1 : 1 ≤ sl := by omega
              obtain ⟨bp, cp', hvp, hrp⟩ := row_of_owns PL.out (by omega) fun j hj => vals_get (hsP D (hsel need many ng zg nc zc D dn dm k)) hj
              have HRP := Lib.hid hrp; have HPL := Lib.hid hpl; have HY := Lib.hid hY
              clear hY hpl hrp hky hcr hds hn1
              clear PL
              injection hvp with e1 _ e3
              subst e1; subst e3
              have k0' := K.out.c0
              go_wp2_with fail
              refine (s3line _ _ sl _ (hsP D (hsel need many ng zg nc zc D dn dm k)) 0 HRP.out.ints hs5 (fun j hj => ((plok_iff.1 HPL.out).2 j hj).1) (fun i j hi hj hij => plok_apart HPL.out i j hi hj hij) rfl).mono ?_
              rintro e w4 ⟨bl, cl, rfl, hr, hg⟩
              clear k0'
              have R := Lib.hid (hr.lower (lo' := w.heap.size) (by have := G.out.size; omega))
              clear hr HRP
              clear k0 k1 k2 k3
              replace G := Lib.hid (gtr G.out hg)
              replace K := Lib.hid (K.out.kept hg)
              replace HG := Lib.hid (HG.out.kept hg)
              replace HC := Lib.hid (HC.out.kept hg)
              replace HD := Lib.hid (HD.out.kept hg)
              replace O := Lib.hid (O.out.kept hg (own_dis _))
              clear hg
              obtain ⟨_, k0, k1, k2, k3⟩ := K.out
              go_wp2
              go_ret3
              refine ⟨⟨_, _, by rw [HY.out]; rfl, fun _ => ?_⟩, G.out⟩
              refine ⟨by rw [HSLe.out]; exact own_lo O.out (Nat.le_succ _), bl, cl, by rw [HSLe.out]; rfl, ?_⟩
              have hL2 : hsL D (hsel need many ng zg nc zc D dn dm k) = zline sl (hsP D (hsel need many ng zg nc zc D dn dm k)) 0 := by funext i; unfold hsL; rw [HSLe.out]
              rw [HSLe.out, hL2]
              exact R.out
theorem dAt_map (D : Nat → DV) {S : List Nat} {j : Nat} (h : j < S.length) : dAt (S.map D) j = D (at0 S j) := by simp [dAt, at0, h]
set_option maxRecDepth 100000 in
set_option maxHeartbeats 4000000 in
theorem shandshare (w : World) (need many : Int) (ag : Option Addr) (ng cg : Nat) (zg : Nat → Int) (ac : Option Addr) (nc cc : Nat) (zc : Nat → Int) (ad : Option Addr) (nd cd : Nat) (D : Nat → DV) (dn dm : Int) (m : Int) (hG : Ints w ag ng zg) (hC : Ints w ac nc zc) (hD : DealsIn w ad nd D) (hl1 : ng ≤ 2000000) (hl2 : nc ≤ 2000000) (hl3 : nd ≤ 2000000) (hL : ∀ j, j < nd → (D j).n1 ≤ 2000000 ∧ (D j).n2 ≤ 2000000) :
    Calls Tryz.prog 5 #[.agg #[.int .i64 need, .int .i64 many, .slice ag ng cg, .slice ac nc cc], .slice ad nd cd, .int .i64 dn, .int .i64 dm, .int .i64 m] w fun e w' => e = .returned (hsV need many ng zg nc zc D dn dm nd m) ∧ w.grownBy w' none := by
  have hg := gtr (Draw.grown_alloc w (.cells #[.int .i64 need, .int .i64 many, .slice ag ng cg, .slice ac nc cc] 25) none) (Draw.grown_alloc _ (.cells #[.int .i64 0, .int .i64 0] 30) none)
  have G := Lib.hid hg
  have K := Lib.hid ((Ky.new w need many (.slice ag ng cg) (.slice ac nc cc) 25).kept (Draw.grown_alloc _ (.cells #[.int .i64 0, .int .i64 0] 30) none))
  have R := Lib.hid (blk_new2 w (.cells #[.int .i64 need, .int .i64 many, .slice ag ng cg, .slice ac nc cc] 25) #[.int .i64 0, .int .i64 0] 30)
  have HG := Lib.hid (hG.kept hg); have HC := Lib.hid (hC.kept hg); have HD := Lib.hid (hD.kept hg); have HL := Lib.hid hL
  have HD0 := Lib.hid hD
  clear hG hC hD hL hg
  go_enter Tryz.func5, Tryz.ntmps5
  obtain ⟨_, k0, k1, k2, k3⟩ := K.out
  go_wp2_with fail
  refine (s22first _ need many _ ng _ zg _ nc _ zc _ nd _ D dn dm HG.out HC.out HD.out hl1 hl2 hl3 HL.out).mono ?_
  rintro e w1 ⟨⟨v1, v2, rfl, hok⟩, hg⟩
  have HOK := Lib.hid hok; clear hok
  clear HG HC HD
  clear k0 k1 k2 k3
  replace G := Lib.hid (gtr G.out hg)
  replace K := Lib.hid (K.out.kept hg)
  replace R := Lib.hid (R.out.keptN hg)
  clear hg
  obtain ⟨_, k0, k1, k2, k3⟩ := K.out
  clear k0 k1 k2 k3
  clear K
  have hlR := R.out.lt
  cases hb : hsB need many ng zg nc zc D dn dm nd with
  | false =>
    have HN := Lib.hid (hsV_no (m := m) (.inl hb))
    clear hb
    go_wp2_with (first
      | (refine wpList_store_blk rfl 30 (.tmp 10) (.tmp 34) _ _ _ 30 R.out rfl rfl rfl rfl (by kernel_rfl) (by simp [Value.oneCell']) rfl ?_; intro V hgV hRV; have HGV := Lib.hid hgV; have HRV := Lib.hid hRV; clear hgV hRV))
    (try simp only [Exit.inBlock, Exit.then])
    refine bodyPost_ret (ret_hb rfl _ rfl HRV.out) rfl ?_
    exact ⟨by rw [HN.out]; rfl, grown_new G.out (by omega) HGV.out⟩
  | true =>
    by_cases hmm : 1 ≤ m ∧ m ≤ dm
    · have HY := Lib.hid (hsV_yes hb (mb_iff.2 hmm : mbF dm m = true))
      have hF := HOK.out hb
      have hbb := hsB_iff.1 hb
      have hm5 := (crew_iff.1 hbb.2.1).2.2
      have hn1 := (ky_iff.1 hbb.1).1.1
      have hs1 : 1 ≤ (hsel need many ng zg nc zc D dn dm nd).length := by omega
      have hs5 := hsel_k5 (dn := dn) (dm := dm) (D := D) hbb.1 nd
      have HIX := Lib.hid (fun (i : Nat) (hi : i < (hsel need many ng zg nc zc D dn dm nd).length) => hsel_ok (need := need) (many := many) (ng := ng) (zg := zg) (nc := nc) (zc := zc) (D := D) (dn := dn) (dm := dm) hi)
      clear hb hbb HOK hn1
      obtain ⟨hO, bl, cl, rfl, hRL⟩ := hF
      obtain ⟨_, h0⟩ | ⟨gd, cd', cur, rfl, _, hgd, hcd⟩ := hO.2
      · omega
      have O := Lib.hid hO; have RL := Lib.hid hRL
      clear hO hRL hgd hcd
      obtain ⟨mn, hmn⟩ : ∃ mn : Nat, m - 1 = mn := ⟨(m - 1).toNat, by omega⟩
      have hwk : (m - 1).toNat = mn := by omega
      have HSM := Lib.hid (show ∀ k, hsM D (hsel need many ng zg nc zc D dn dm nd) m (k + 1) = sumF (hsM D (hsel need many ng zg nc zc D dn dm nd) m k) (mulF (hsL D (hsel need many ng zg nc zc D dn dm nd) k) ((D (at0 (hsel need many ng zg nc zc D dn dm nd) k)).z2 mn)) from fun k => by rw [← hwk]; rfl)
      clear hlR hwk
      go_wp2_with fail
      refine (s6in_yes _ m 1 dm hmm.1 hmm.2).mono ?_
      rintro e w' ⟨rfl, rfl⟩
      have hg := Draw.grown_alloc w1 (.cells #[.int .i64 m, .int .i64 0] 30) none
      have H := Lib.hid (Blk.new w1 #[.int .i64 m, .int .i64 0] 30)
      have hwR := R.out.lt
      have hgl : gd < w1.heap.size := (O.out.lt gd rfl).2
      have hbl' := RL.out.lt
      have hwG1 := G.out.size
      replace G := Lib.hid (gtr G.out hg)
      replace R := Lib.hid (R.out.keptN hg)
      replace O := Lib.hid (O.out.kept hg (own_dis _))
      replace RL := Lib.hid (RL.out.keptN hg)
      clear hg
      generalize hsl : (hsel need many ng zg nc zc D dn dm nd).length = sl at *
      have HSL := Lib.hid hsl; clear hsl
      go_wp2
      go_loopw [16] (fun i W => ∃ k : Nat, k ≤ sl ∧ i = .int .i64 k ∧ Blk W w1.heap.size #[.int .i64 m, .int .i64 (hsM D (hsel need many ng zg nc zc D dn dm nd) m k)] 30 ∧ Blk W (w.heap.size + 1) #[.int .i64 0, .int .i64 0] 30 ∧ W.ownsRow (w.alloc (.cells #[.int .i64 need, .int .i64 many, .slice ag ng cg, .slice ac nc cc] 25) |>.alloc (.cells #[.int .i64 0, .int .i64 0] 30)).heap.size 35 3 (.slice (some ⟨gd, 0, none⟩) sl cd') sl (cellsD ((hsel need many ng zg nc zc D dn dm nd).map D)) ∧ Row W (w.alloc (.cells #[.int .i64 need, .int .i64 many, .slice ag ng cg, .slice ac nc cc] 25) |>.alloc (.cells #[.int .i64 0, .int .i64 0] 30)).heap.size 3 bl sl cl (hsL D (hsel need many ng zg nc zc D dn dm nd)) ∧ w.grownBy W none) (fun i _ => sl - (intOf i).toNat)
      case atStart => exact ⟨0, by omega, rfl, H.out, R.out, O.out, RL.out, G.out⟩
      case round =>
        clear G R O RL H
        obtain ⟨k, hk, rfl, hH, hR, hO, hRL, hg⟩ := hrel
        have H := Lib.hid hH; have R := Lib.hid hR; have O := Lib.hid hO; have RL := Lib.hid hRL; have G := Lib.hid hg
        clear hH hR hO hRL hg
        by_cases hlt : k < sl
        · have hlt' : (k : Int) < (sl : Int) := by omega
          have hk0 : (0 : Int) ≤ (k : Int) := by omega
          obtain ⟨hix, hdl⟩ := HIX.out k hlt
          obtain ⟨J, hJ⟩ : ∃ J, J = at0 (hsel need many ng zg nc zc D dn dm nd) k := ⟨_, rfl⟩
          have HSK := Lib.hid (HSM.out k)
          have hdk : dAt ((hsel need many ng zg nc zc D dn dm nd).map D) k = D J := by rw [hJ]; exact dAt_map D (by rw [HSL.out]; exact hlt)
          rw [← hJ] at hix hdl HSK
          have hn2 := (dl_iff.1 hdl).2.2.2.1
          rcases HD0.out with h | ⟨bd, off, hado, hbd, hcc⟩
          · omega
          clear hado
          obtain ⟨_, hr⟩ := hcc J hix
          clear hcc hdl
          have hmn2 : mn < (D J).n2 := by omega
          obtain ⟨b2, o2, ha2, hb2, hc2⟩ := hr.i2.ptr (by omega)
          have HX := Lib.hid (show ∀ W : World, w.grownBy W none → W.cell? ⟨b2, o2 + mn, none⟩ = some (.int .i64 ((D J).z2 mn)) from fun W hg => (World.cell?_of_block (hg.block b2 hb2 (by simp))).trans (hc2 mn hmn2))
          clear hc2 hr
          have HOD := Lib.hid (show ∀ W : World, W.ownsRow (w.alloc (.cells #[.int .i64 need, .int .i64 many, .slice ag ng cg, .slice ac nc cc] 25) |>.alloc (.cells #[.int .i64 0, .int .i64 0] 30)).heap.size 35 3 (.slice (some ⟨gd, 0, none⟩) sl cd') sl (cellsD ((hsel need many ng zg nc zc D dn dm nd).map D)) → W.cell? ⟨gd, k * 3 + 2, none⟩ = some (.slice (some ⟨b2, o2, none⟩) (D J).n2 (D J).c2) from fun W hO => by
            have h := (hO.cellAt (k * 3 + 2) (by omega)).trans (cellsD_get ((hsel need many ng zg nc zc D dn dm nd).map D) k (by simp [HSL.out]; exact hlt)).2.2
            rw [hdk, ha2] at h; exact h)
          have hmn0 : (0 : Int) ≤ (mn : Int) := by omega
          have hmn' : (mn : Int) < ((D J).n2 : Int) := by omega
          have hwm : IntKind.i64.wrap (mn : Int) = (mn : Int) := by rw [IntKind.wrap_i64]; omega
          clear hJ hn2 hmn2 hdk
          go_wp2_with fail
          refine wp_region_held_drew (S := (fun w' => w'.cell? ⟨bl, k, none⟩ = some (.int .i64 (hsL D (hsel need many ng zg nc zc D dn dm nd) k)) ∧ w'.cell? ⟨gd, k * 3 + 2, none⟩ = some (.slice (some ⟨b2, o2, none⟩) (D J).n2 (D J).c2) ∧ w'.cell? ⟨b2, o2 + mn, none⟩ = some (.int .i64 ((D J).z2 mn)))) (by kernel_rfl) (⟨RL.out.cell hlt, HOD.out wr O.out, HX.out wr G.out⟩) (fun hHeld => ?_)
          have hg := gdrew wr
          replace G := Lib.hid (gtr G.out hg)
          replace H := Lib.hid (H.out.keptN hg)
          replace R := Lib.hid (R.out.keptN hg)
          replace O := Lib.hid (O.out.kept hg (own_dis _))
          replace RL := Lib.hid (RL.out.keptN hg)
          clear hg
          generalize wr.drew = W at *
          have t0 : W.cell? ⟨w1.heap.size, 1, none⟩ = some (.int .i64 (hsM D (hsel need many ng zg nc zc D dn dm nd) m k)) := H.out.cell 1
          have t1 := H.out.free 1
          refine wpAnyH_take (i := 0) (oi := ⟨some 43, _, _, _, _, _⟩) (v := ?_) rfl (by kernel_rfl) (by kernel_rfl) (by kernel_rfl) (fun _ _ _ h => h) (Or.inl ⟨by rfl, ?_⟩) (by assumption) ?_
          rotate_left
          · intro w hSw; (try dsimp only at hSw); go_simp; try with_reducible rfl
          simp only [Act.put, List.setIfInBounds_toArray, List.set_cons_zero, List.set_cons_succ]
          refine wpAnyH_take (i := 2) (oi := ⟨some 45, _, _, _, _, _⟩) (v := ?_) rfl (by kernel_rfl) (by kernel_rfl) (by kernel_rfl) (fun _ _ _ h => h) (Or.inl ⟨by rfl, ?_⟩) (by assumption) ?_
          rotate_left
          · intro w hSw; (try dsimp only at hSw); go_simp; try with_reducible rfl
          simp only [Act.put, List.setIfInBounds_toArray, List.set_cons_zero, List.set_cons_succ]
          refine wpAnyH_take (i := 3) (oi := ⟨some 46, _, _, _, _, _⟩) (v := ?_) rfl (by kernel_rfl) (by kernel_rfl) (by kernel_rfl) (fun _ _ _ h => h) (Or.inl ⟨by rfl, ?_⟩) (by assumption) ?_
          rotate_left
          · intro w hSw; (try dsimp only at hSw); go_simp; try with_reducible rfl
          simp only [Act.put, List.setIfInBounds_toArray, List.set_cons_zero, List.set_cons_succ]
          refine wpAnyH_take (i := 4) (oi := ⟨some 47, _, _, _, _, _⟩) (v := ?_) rfl (by kernel_rfl) (by kernel_rfl) (by kernel_rfl) (fun _ _ _ h => h) (Or.inl ⟨by rfl, ?_⟩) (by assumption) ?_
          rotate_left
          · intro w hSw; (try dsimp only at hSw); go_simp; try with_reducible rfl
          simp only [Act.put, List.setIfInBounds_toArray, List.set_cons_zero, List.set_cons_succ]
          refine wpAnyH_take (i := 5) (oi := ⟨some 48, _, _, _, _, _⟩) (v := ?_) rfl (by kernel_rfl) (by kernel_rfl) (by kernel_rfl) (fun _ _ _ h => h) (Or.inl ⟨by rfl, ?_⟩) (by assumption) ?_
          rotate_left
          · intro w hSw; (try dsimp only at hSw); go_simp; try with_reducible rfl
          simp only [Act.put, List.setIfInBounds_toArray, List.set_cons_zero, List.set_cons_succ]
          refine wpAnyH_take (i := 6) (oi := ⟨some 49, _, _, _, _, _⟩) (v := ?_) rfl (by kernel_rfl) (by kernel_rfl) (by kernel_rfl) (fun _ _ _ h => h) (Or.inl ⟨by rfl, ?_⟩) (by assumption) ?_
          rotate_left
          · intro w hSw; (try dsimp only at hSw); go_simp; try with_reducible rfl
          simp only [Act.put, List.setIfInBounds_toArray, List.set_cons_zero, List.set_cons_succ]
          refine wpAnyH_take (i := 7) (oi := ⟨some 50, _, _, _, _, _⟩) (v := ?_) rfl (by kernel_rfl) (by kernel_rfl) (by kernel_rfl) (fun _ _ _ h => h) (Or.inl ⟨by rfl, ?_⟩) (by assumption) ?_
          rotate_left
          · intro w hSw; (try dsimp only at hSw); go_simp; try with_reducible rfl
          simp only [Act.put, List.setIfInBounds_toArray, List.set_cons_zero, List.set_cons_succ]
          refine wpAnyH_take (i := 8) (oi := ⟨some 51, _, _, _, _, _⟩) (v := ?_) rfl (by kernel_rfl) (by kernel_rfl) (by kernel_rfl) (fun _ _ _ h => h) (Or.inl ⟨by rfl, ?_⟩) (by assumption) ?_
          rotate_left
          · intro w hSw; (try dsimp only at hSw); go_simp; try with_reducible rfl
          simp only [Act.put, List.setIfInBounds_toArray, List.set_cons_zero, List.set_cons_succ]
          refine wpAnyH_take (i := 9) (oi := ⟨some 52, _, _, _, _, _⟩) (v := ?_) rfl (by kernel_rfl) (by kernel_rfl) (by kernel_rfl) (fun _ _ _ h => h) (Or.inl ⟨by rfl, ?_⟩) (by assumption) ?_
          rotate_left
          · intro w hSw; (try dsimp only at hSw); go_simp; try with_reducible rfl
          simp only [Act.put, List.setIfInBounds_toArray, List.set_cons_zero, List.set_cons_succ]
          refine wpAnyH_take (i := 10) (oi := ⟨some 53, _, _, _, _, _⟩) (v := ?_) rfl (by kernel_rfl) (by kernel_rfl) (by kernel_rfl) (fun _ _ _ h => h) (Or.inl ⟨by rfl, ?_⟩) (by assumption) ?_
          rotate_left
          · intro w hSw; (try dsimp only at hSw); go_simp; try with_reducible rfl
          simp only [Act.put, List.setIfInBounds_toArray, List.set_cons_zero, List.set_cons_succ]
          refine wpAnyH_take (i := 11) (oi := ⟨some 54, _, _, _, _, _⟩) (v := ?_) rfl (by kernel_rfl) (by kernel_rfl) (by kernel_rfl) (fun _ _ _ h => h) (Or.inl ⟨by rfl, ?_⟩) (by assumption) ?_
          rotate_left
          · intro w hSw; (try dsimp only at hSw); go_simp; try with_reducible rfl
          simp only [Act.put, List.setIfInBounds_toArray, List.set_cons_zero, List.set_cons_succ]
          refine wpAnyH_take (i := 12) (oi := ⟨some 55, _, _, _, _, _⟩) (v := ?_) rfl (by kernel_rfl) (by kernel_rfl) (by kernel_rfl) (fun _ _ _ h => h) (Or.inl ⟨by rfl, ?_⟩) (by assumption) ?_
          rotate_left
          · intro w hSw; (try dsimp only at hSw); go_simp; try with_reducible rfl
          simp only [Act.put, List.setIfInBounds_toArray, List.set_cons_zero, List.set_cons_succ]
          refine wpAnyH_take (i := 13) (oi := ⟨some 56, _, _, _, _, _⟩) (v := ?_) rfl (by kernel_rfl) (by kernel_rfl) (by kernel_rfl) (fun _ _ _ h => h) (Or.inl ⟨by rfl, ?_⟩) (by assumption) ?_
          rotate_left
          · intro w hSw; (try dsimp only at hSw); go_simp; try with_reducible rfl
          simp only [Act.put, List.setIfInBounds_toArray, List.set_cons_zero, List.set_cons_succ]
          refine wpAnyH_take (i := 14) (oi := ⟨some 57, _, _, _, _, _⟩) (v := ?_) rfl (by kernel_rfl) (by kernel_rfl) (by kernel_rfl) (fun _ _ _ h => h) (Or.inl ⟨by rfl, ?_⟩) (by assumption) ?_
          rotate_left
          · intro w hSw; (try dsimp only at hSw); go_simp; try with_reducible rfl
          simp only [Act.put, List.setIfInBounds_toArray, List.set_cons_zero, List.set_cons_succ]
          refine wpAnyH_ready (rs := [1, 15]) (by kernel_rfl) (by simp) ?_
          refine AllReadyH.cons (o := ⟨some 44, _, _, _, _, _⟩) rfl (fun Kq hKq => ?_) (AllReadyH.cons (o := ⟨some 58, _, _, _, _, _⟩) rfl (fun Kq hKq => ?_) AllReadyH.nil)
          · go_simp
            refine hKq.out _ _ (⟨RL.out.cell hlt, HOD.out _ O.out, HX.out _ G.out⟩) (fun hHeld => ?_)
            clear hKq Kq
            refine wpAnyH_ready (rs := [15]) (by kernel_rfl) (by simp) ?_
            refine AllReadyH.cons (o := ⟨some 58, _, _, _, _, _⟩) rfl (fun Kq hKq => ?_) AllReadyH.nil
            go_simp
            go_at_call 19
            refine (smul _ _ _).mono ?_
            rintro e w2 ⟨rfl, rfl⟩
            refine hKq.out _ _ (⟨RL.out.cell hlt, HOD.out _ O.out, HX.out _ G.out⟩) (fun hHeld => ?_)
            clear hKq Kq
            refine wpAnyH_ready (rs := [16]) (by kernel_rfl) (by simp) ?_
            refine AllReadyH.cons (o := ⟨some 59, _, _, _, _, _⟩) rfl (fun Kq hKq => ?_) AllReadyH.nil
            go_simp
            go_at_call 18
            refine (ssum _ _ _).mono ?_
            rintro e w2 ⟨rfl, rfl⟩
            refine hKq.out _ _ (⟨RL.out.cell hlt, HOD.out _ O.out, HX.out _ G.out⟩) (fun hHeld => ?_)
            clear hKq Kq
            refine wpAnyH_take (i := 17) (oi := ⟨some 60, _, _, _, _, _⟩) (v := ?_) rfl (by kernel_rfl) (by kernel_rfl) (by kernel_rfl) (fun _ _ _ h => h) (Or.inl ⟨by rfl, ?_⟩) (by assumption) ?_
            rotate_left
            · intro w hSw; (try dsimp only at hSw); go_simp; try with_reducible rfl
            simp only [Act.put, List.setIfInBounds_toArray, List.set_cons_zero, List.set_cons_succ]
            refine wpAnyH_ready (rs := [18]) (by kernel_rfl) (by simp) ?_
            refine AllReadyH.cons (o := ⟨none, _, _, _, _, _⟩) rfl (fun Kq hKq => ?_) AllReadyH.nil
            rw [← HSK.out]
            go_simp
            have hg := Mem.grown_set W w1.heap.size 1 (.int .i64 (hsM D (hsel need many ng zg nc zc D dn dm nd) m (k + 1)))
            have hH2 := H.out.set 1 (.int .i64 (hsM D (hsel need many ng zg nc zc D dn dm nd) m (k + 1)))
            replace O := Lib.hid (O.out.kept hg (.inr (by intro e; have e : gd = w1.heap.size := Option.some.inj e; omega)))
            replace G := Lib.hid (grown_new G.out (by omega) hg)
            replace R := Lib.hid (R.out.kept hg (by intro e; have e := Option.some.inj e; omega))
            replace RL := Lib.hid (RL.out.kept hg (by intro e; have e := Option.some.inj e; omega))
            clear hg
            replace H := Lib.hid hH2
            clear hH2 t0 t1
            generalize W.setCell ⟨w1.heap.size, 1, none⟩ (.int .i64 (hsM D (hsel need many ng zg nc zc D dn dm nd) m (k + 1))) = W2 at *
            refine hKq.out _ _ (⟨RL.out.cell hlt, HOD.out _ O.out, HX.out _ G.out⟩) (fun hHeld => ?_)
            clear hKq Kq
            refine wpAnyH_done (by kernel_rfl) ?_ _
            go_wp2
            go_roundw
            case rel => exact ⟨k + 1, by omega, by go_num, H.out, R.out, O.out, RL.out, G.out⟩
            case measure => simp [intOf] <;> omega
          · go_simp
            go_at_call 19
            refine (smul _ _ _).mono ?_
            rintro e w2 ⟨rfl, rfl⟩
            refine hKq.out _ _ (⟨RL.out.cell hlt, HOD.out _ O.out, HX.out _ G.out⟩) (fun hHeld => ?_)
            clear hKq Kq
            refine wpAnyH_ready (rs := [1]) (by kernel_rfl) (by simp) ?_
            refine AllReadyH.cons (o := ⟨some 44, _, _, _, _, _⟩) rfl (fun Kq hKq => ?_) AllReadyH.nil
            go_simp
            refine hKq.out _ _ (⟨RL.out.cell hlt, HOD.out _ O.out, HX.out _ G.out⟩) (fun hHeld => ?_)
            clear hKq Kq
            refine wpAnyH_ready (rs := [16]) (by kernel_rfl) (by simp) ?_
            refine AllReadyH.cons (o := ⟨some 59, _, _, _, _, _⟩) rfl (fun Kq hKq => ?_) AllReadyH.nil
            go_simp
            go_at_call 18
            refine (ssum _ _ _).mono ?_
            rintro e w2 ⟨rfl, rfl⟩
            refine hKq.out _ _ (⟨RL.out.cell hlt, HOD.out _ O.out, HX.out _ G.out⟩) (fun hHeld => ?_)
            clear hKq Kq
            refine wpAnyH_take (i := 17) (oi := ⟨some 60, _, _, _, _, _⟩) (v := ?_) rfl (by kernel_rfl) (by kernel_rfl) (by kernel_rfl) (fun _ _ _ h => h) (Or.inl ⟨by rfl, ?_⟩) (by assumption) ?_
            rotate_left
            · intro w hSw; (try dsimp only at hSw); go_simp; try with_reducible rfl
            simp only [Act.put, List.setIfInBounds_toArray, List.set_cons_zero, List.set_cons_succ]
            refine wpAnyH_ready (rs := [18]) (by kernel_rfl) (by simp) ?_
            refine AllReadyH.cons (o := ⟨none, _, _, _, _, _⟩) rfl (fun Kq hKq => ?_) AllReadyH.nil
            rw [← HSK.out]
            go_simp
            have hg := Mem.grown_set W w1.heap.size 1 (.int .i64 (hsM D (hsel need many ng zg nc zc D dn dm nd) m (k + 1)))
            have hH2 := H.out.set 1 (.int .i64 (hsM D (hsel need many ng zg nc zc D dn dm nd) m (k + 1)))
            replace O := Lib.hid (O.out.kept hg (.inr (by intro e; have e : gd = w1.heap.size := Option.some.inj e; omega)))
            replace G := Lib.hid (grown_new G.out (by omega) hg)
            replace R := Lib.hid (R.out.kept hg (by intro e; have e := Option.some.inj e; omega))
            replace RL := Lib.hid (RL.out.kept hg (by intro e; have e := Option.some.inj e; omega))
            clear hg
            replace H := Lib.hid hH2
            clear hH2 t0 t1
            generalize W.setCell ⟨w1.heap.size, 1, none⟩ (.int .i64 (hsM D (hsel need many ng zg nc zc D dn dm nd) m (k + 1))) = W2 at *
            refine hKq.out _ _ (⟨RL.out.cell hlt, HOD.out _ O.out, HX.out _ G.out⟩) (fun hHeld => ?_)
            clear hKq Kq
            refine wpAnyH_done (by kernel_rfl) ?_ _
            go_wp2
            go_roundw
            case rel => exact ⟨k + 1, by omega, by go_num, H.out, R.out, O.out, RL.out, G.out⟩
            case measure => simp [intOf] <;> omega
        · obtain rfl : k = sl := by omega
          have hlR := R.out.lt; have hlH := H.out.lt
          have q0 : wr.cell? ⟨w1.heap.size, 0, none⟩ = some (.int .i64 m) := H.out.cell 0
          have q1 : wr.cell? ⟨w1.heap.size, 1, none⟩ = some (.int .i64 (hsM D (hsel need many ng zg nc zc D dn dm nd) m k)) := H.out.cell 1
          go_wp2_with (first
            | (refine wpList_store_blk rfl 30 (.tmp 10) (.tmp 61) _ _ _ 30 R.out rfl rfl rfl rfl (by kernel_rfl) (by simp [Value.oneCell']) rfl ?_; intro V hgV hRV; have HGV := Lib.hid hgV; have HRV := Lib.hid hRV; clear hgV hRV))
          (try simp only [Exit.inBlock, Exit.then])
          refine bodyPost_ret (ret_hb rfl _ rfl HRV.out) rfl ?_
          exact ⟨by rw [HY.out]; rfl, grown_new G.out (by omega) HGV.out⟩
    · have HN := Lib.hid (hsV_no (need := need) (many := many) (ng := ng) (zg := zg) (nc := nc) (zc := zc) (D := D) (dn := dn) (nd := nd) (dm := dm) (m := m) (.inr (by simp only [mbF, decide_eq_false_iff_not]; exact hmm)))
      clear hb
      go_wp2_with fail
      refine (s6in_no _ m 1 dm hmm).mono ?_
      rintro e w' ⟨rfl, rfl⟩
      go_wp2_with (first
        | (refine wpList_store_blk rfl 30 (.tmp 10) (.tmp 34) _ _ _ 30 R.out rfl rfl rfl rfl (by kernel_rfl) (by simp [Value.oneCell']) rfl ?_; intro V hgV hRV; have HGV := Lib.hid hgV; have HRV := Lib.hid hRV; clear hgV hRV))
      (try simp only [Exit.inBlock, Exit.then])
      refine bodyPost_ret (ret_hb rfl _ rfl HRV.out) rfl ?_
      exact ⟨by rw [HN.out]; rfl, grown_new G.out (by omega) HGV.out⟩
end Con
end Go.Proofs.YtonhdkideianiaaGreatDoor
