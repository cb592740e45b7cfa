/-
  Sessions: the model's SessionNew.
-/
import Derived.Test.YthbigmcklacbnaaGreatDoorTe
import Derived.Test.YthbigmcklacbnaaGreatDoorTg
namespace Go.Proofs.YthbigmcklacbnaaGreatDoor
namespace Con
open Go.RowKit Alg Mem Draw Hd
set_option linter.unusedVariables false

theorem own_ne_b {W : World} {lo k : Nat} {T U : TypeId} {v : Value} {n b : Nat} {xs : List Value} {vs : Array Value} (h : W.ownsRow lo T k v n xs) (hb : Blk W b vs U) (hne : T ≠ U) : some b ≠ v.ownBlock := by
  rcases h with ⟨_, ⟨rfl, _⟩ | ⟨g, cap, cur, rfl, _, hg, _⟩⟩
  · intro e; cases e
  · intro e
    have e : b = g := Option.some.inj e
    subst e
    unfold Blk at hb
    rw [hg] at hb
    injection hb with hb
    injection hb with _ k2 _
    exact hne k2
theorem OwnSh.keptBlk {w w' : World} {lo : Nat} {v : Value} {n b : Nat} {S : Nat → SV} {vs : Array Value} (h : OwnSh w lo v n S) (hb : Blk w b vs 30) (hg : w.grownBy w' (some b)) : OwnSh w' lo v n S :=
  World.ownsRow.kept h hg (.inr fun e => own_ne_b h hb (by decide) e.symm)
theorem own_grownW {w0 wr w1 : World} {lo k n : Nat} {T : TypeId} {v : Value} {xs : List Value} (hg : w0.grownBy wr none) (ho : wr.ownsRow lo T k v n xs) (hlo : w0.heap.size ≤ lo) (h : wr.grownBy w1 v.ownBlock) : w0.grownBy w1 none := by
  cases hv : v.ownBlock with
  | none => rw [hv] at h; exact gtr hg h
  | some g => rw [hv] at h; exact grown_new hg (Nat.le_trans hlo (ho.lt g hv).1) h
theorem ints_cell {w : World} {b off n : Nat} {z : Nat → Int} (h : Ints w (some ⟨b, off, none⟩) n z) {j : Nat} (hj : j < n) : w.cell? ⟨b, off + j, none⟩ = some (.int .i64 (z j)) := by
  obtain ⟨b', off', e, _, hc⟩ := h.ptr (by omega)
  injection e with e; injection e with e1 e2; subst e1; subst e2
  exact hc j hj
theorem blk_news {w : World} {b : Nat} {vs : List Value} {T : TypeId} (h : Blk w b vs.toArray T) : ∀ j u, vs[j]? = some u → w.cell? ((⟨b, 0, none⟩ : Addr).add j) = some u := by
  intro j u hu
  have e : (⟨b, 0, none⟩ : Addr).add j = ⟨b, j, none⟩ := by
    by_cases h0 : j = 0
    · subst h0; simp [Addr.add]
    · simp [Addr.add, h0]
  rw [e, h.cell]
  simpa using hu
theorem ret_ses2 {fn : Func} {p u : Tmp} (h : fn.results = #[.cell p 30, .tmp u]) (tmps : Array Value) {w : World} {b : Nat} {v0 v1 v2 v3 v4 v5 : Value} {T : TypeId} (hp : tmps.getD p undef = .pointer (some ⟨b, 0, none⟩)) (hb : Blk w b #[v0, v1, v2, v3, v4, v5] T) :
    (results fn tmps).run Tryz.prog w = .ok (.tuple #[.agg #[v0, v1, v2, v3, v4, v5], tmps.getD u undef]) w := by
  have hp' : tmps[p]?.getD undef = .pointer (some ⟨b, 0, none⟩) := by simpa using hp
  simp [results, h, hp', asAddr, run_loadVar_row w b T 30 #[v0, v1, v2, v3, v4, v5] (0, 0) _ hb Tryz.underlying30 rfl size_ses, Result.andThen]
/-- What new members showed. -/
def nwS (zm zs : Nat → Int) (j : Nat) : SV := ⟨zm j, zs j, false, 0⟩
/-- A session of the call's own, and whether there is one. -/
def SesC (w : World) (need many : Int) (ng : Nat) (zg : Nat → Int) (nc : Nat) (zc : Nat → Int) (msg : Int) (n : Nat) (S : Nat → SV) (ok : Bool) (e : Ending) (w' : World) : Prop :=
  ∃ b1 c1 b2 c2 a3 c3, e = .returned (.tuple #[.agg #[.int .i64 need, .int .i64 many, .slice (some ⟨b1, 0, none⟩) ng c1, .slice (some ⟨b2, 0, none⟩) nc c2, .int .i64 msg, .slice a3 n c3], .bool ok]) ∧ OI w' w.heap.size b1 ng c1 zg ∧ OI w' w.heap.size b2 nc c2 zc ∧ OwnSh w' w.heap.size (.slice a3 n c3) n S ∧ w.grownBy w' none
def SesZ (w : World) (e : Ending) (w' : World) : Prop := e = .returned (.tuple #[.agg #[.int .i64 0, .int .i64 0, .slice none 0 0, .slice none 0 0, .int .i64 0, .slice none 0 0], .bool false]) ∧ w.grownBy w' none
/-- What SessionNew answers. -/
def SesN (w : World) (need many : Int) (ng : Nat) (zg : Nat → Int) (nc : Nat) (zc : Nat → Int) (msg : Int) (nm ns : Nat) (zm zs : Nat → Int) (e : Ending) (w' : World) : Prop :=
  if nm = ns ∧ tsF need many ng zg nc zc msg nm (nwS zm zs) = true then SesC w need many ng zg nc zc msg nm (nwS zm zs) true e w' else SesZ w e w'
theorem sesN_yes {w : World} {need many : Int} {ng : Nat} {zg : Nat → Int} {nc : Nat} {zc : Nat → Int} {msg : Int} {nm ns : Nat} {zm zs : Nat → Int} {e : Ending} {w' : World} (h1 : nm = ns) (h2 : tsF need many ng zg nc zc msg nm (nwS zm zs) = true) (h : SesC w need many ng zg nc zc msg nm (nwS zm zs) true e w') : SesN w need many ng zg nc zc msg nm ns zm zs e w' := by unfold SesN; rw [if_pos ⟨h1, h2⟩]; exact h
theorem sesN_no {w : World} {need many : Int} {ng : Nat} {zg : Nat → Int} {nc : Nat} {zc : Nat → Int} {msg : Int} {nm ns : Nat} {zm zs : Nat → Int} {e : Ending} {w' : World} (h1 : ¬ (nm = ns ∧ tsF need many ng zg nc zc msg nm (nwS zm zs) = true)) (h : SesZ w e w') : SesN w need many ng zg nc zc msg nm ns zm zs e w' := by unfold SesN; rw [if_neg h1]; exact h
set_option maxRecDepth 100000 in
set_option maxHeartbeats 4000000 in
theorem s32new (w : World) (need many : Int) (ag : Option Addr) (ng cg : Nat) (zg : Nat → Int) (ac : Option Addr) (nc cc : Nat) (zc : Nat → Int) (msg : Int) (am : Option Addr) (nm cm : Nat) (zm : Nat → Int) (ae : Option Addr) (ns cs : Nat) (zs : Nat → Int) (hG : Ints w ag ng zg) (hC : Ints w ac nc zc) (hsg : Sl ag ng cg) (hsc : Sl ac nc cc) (hM : Ints w am nm zm) (hN : Ints w ae ns zs) (hl1 : ng ≤ 2000000) (hl2 : nc ≤ 2000000) (hl3 : nm ≤ 2000000) :
    Calls Tryz.prog 5 #[.agg #[.int .i64 need, .int .i64 many, .slice ag ng cg, .slice ac nc cc], .int .i64 msg, .slice am nm cm, .slice ae ns cs] w (SesN w need many ng zg nc zc msg nm ns zm zs) := by
  have G0 := Lib.hid (gtr (Draw.grown_alloc w (.cells #[.int .i64 need, .int .i64 many, .slice ag ng cg, .slice ac nc cc] 25) none) (Draw.grown_alloc _ (.cells #[.int .i64 0, .int .i64 0, .slice none 0 0, .slice none 0 0, .int .i64 0, .slice none 0 0] 30) none))
  have K0 := Lib.hid ((Ky.new w need many (.slice ag ng cg) (.slice ac nc cc) 25).kept (Draw.grown_alloc _ (.cells #[.int .i64 0, .int .i64 0, .slice none 0 0, .slice none 0 0, .int .i64 0, .slice none 0 0] 30) none))
  have R0 := Lib.hid (blk_new2 w (.cells #[.int .i64 need, .int .i64 many, .slice ag ng cg, .slice ac nc cc] 25) #[.int .i64 0, .int .i64 0, .slice none 0 0, .slice none 0 0, .int .i64 0, .slice none 0 0] 30)
  have HG := Lib.hid (hG.kept G0.out); have HC := Lib.hid (hC.kept G0.out); have HM0 := Lib.hid (hM.kept G0.out); have HN0 := Lib.hid (hN.kept G0.out)
  clear hG hC hM hN
  by_cases hmn : nm = ns
  case neg =>
    have HQ := Lib.hid (show ¬ (nm = ns ∧ tsF need many ng zg nc zc msg nm (nwS zm zs) = true) from fun h => hmn h.1)
    have hb : ((nm : Int) != (ns : Int)) = true := by simp; omega
    clear hmn
    go_enter Tryz.func5, Tryz.ntmps5
    go_wp2_with (first
      | (refine wpList_store_blk rfl 30 (.tmp 8) (.tmp 17) _ _ _ 30 R0.out rfl rfl rfl rfl (by kernel_rfl) (by simp [Value.oneCell']) rfl ?_; intro V hgV hRV; have HGV := Lib.hid hgV; have HRV := Lib.hid hRV; clear hgV hRV))
    (try simp only [Exit.inBlock, Exit.then])
    refine bodyPost_ret (ret_ses2 rfl _ rfl HRV.out) rfl ?_
    exact sesN_no HQ.out ⟨rfl, grown_new G0.out (by omega) HGV.out⟩
  subst hmn
  have hb : ((nm : Int) != (nm : Int)) = false := by simp
  go_enter Tryz.func5, Tryz.ntmps5
  obtain ⟨_, k0, k1, k2, k3⟩ := K0.out
  go_wp2_with fail
  refine (s12copy _ need many _ ng _ zg _ nc _ zc HG.out HC.out hsg hsc hl1 hl2).mono ?_
  rintro e w1 ⟨b1, c1, b2, c2, rfl, hi1, hi2, hg⟩
  have hsz := hg.size
  have hs2 : ((w.alloc (.cells #[.int .i64 need, .int .i64 many, .slice ag ng cg, .slice ac nc cc] 25)).alloc (.cells #[.int .i64 0, .int .i64 0, .slice none 0 0, .slice none 0 0, .int .i64 0, .slice none 0 0] 30)).heap.size = w.heap.size + 1 + 1 := by show ((w.heap.push _).push _).size = _; simp
  rw [hs2] at hi1 hi2 hsz
  have I1 := Lib.hid hi1; have I2 := Lib.hid hi2
  have G1 := Lib.hid (gtr G0.out hg); have R1 := Lib.hid (R0.out.keptN hg); have HM := Lib.hid (HM0.out.kept hg); have HN := Lib.hid (HN0.out.kept hg)
  clear hi1 hi2 hg hs2 k0 k1 k2 k3 HG HC HM0 HN0 K0 R0 G0
  have hE := sh_empty w1 (nwS zm zs)
  have hBn := blk_new2 w1 (.cells #[] 35) #[.int .i64 0, .int .i64 0, .slice none 0 0, .slice none 0 0, .int .i64 0, .slice none 0 0] 30
  have hgA := gtr (Draw.grown_alloc w1 (.cells #[] 35) none) (Draw.grown_alloc _ (.cells #[.int .i64 0, .int .i64 0, .slice none 0 0, .slice none 0 0, .int .i64 0, .slice none 0 0] 30) none)
  have hE2 := hE.kept (r := none) (Draw.grown_alloc _ (.cells #[.int .i64 0, .int .i64 0, .slice none 0 0, .slice none 0 0, .int .i64 0, .slice none 0 0] 30) none) (fun g e => by cases e)
  go_wp2_with (refine stop_store rfl ?_)
  refine ⟨trivial, ?_⟩
  refine wpList_store_blk rfl 30 (.tmp 10) (.tmp 22) _ #[.int .i64 need, .int .i64 many, .slice (some ⟨b1, 0, none⟩) ng c1, .slice (some ⟨b2, 0, none⟩) nc c2, .int .i64 msg, .slice (some ⟨w1.heap.size, 0, none⟩) 0 0] _ 30 hBn rfl rfl rfl rfl (by kernel_rfl) (by simp [Value.oneCell']) rfl ?_
  intro W0 hg hB0
  have O0 := Lib.hid (hE2.keptBlk hBn hg)
  have B0 := Lib.hid hB0
  have C0 := Lib.hid (grown_new hgA (by omega) hg)
  clear hE hBn hgA hE2 hg hB0
  go_wp2
  go_loopw [11] (fun i wr => ∃ (k : Nat) (v : Value), k ≤ nm ∧ i = .int .i64 k ∧ Blk wr (w1.heap.size + 1) #[.int .i64 need, .int .i64 many, .slice (some ⟨b1, 0, none⟩) ng c1, .slice (some ⟨b2, 0, none⟩) nc c2, .int .i64 msg, v] 30 ∧ OwnSh wr w1.heap.size v k (nwS zm zs) ∧ w1.grownBy wr none) (fun i _ => nm - (intOf i).toNat)
  case atStart => exact ⟨0, _, by omega, rfl, B0.out, O0.out, C0.out⟩
  case round =>
    clear B0 O0 C0
    obtain ⟨k, v, hk, rfl, hB, hO, hg⟩ := hrel
    obtain ⟨W, hW⟩ : ∃ W, W = wr := ⟨_, rfl⟩; subst hW
    have B := Lib.hid hB; have O := Lib.hid hO; have C := Lib.hid hg
    clear hB hO hg
    have hw1 := C.out.size
    by_cases hlt : k < nm
    · obtain ⟨bm, om, rfl, hbm, hcm⟩ := (HM.out.kept C.out).ptr (by omega)
      obtain ⟨bs, os, rfl, hbs, hcs⟩ := (HN.out.kept C.out).ptr (by omega)
      have hx := hcm k hlt
      have hy := hcs k hlt
      clear hcm hcs
      obtain ⟨i0, hi, hz0, hz1, hz2⟩ := info_parts info_shn
      go_wp2_with fail
      refine wp_region_held_drew (S := (fun w' => w'.cell? ⟨bm, om + k, none⟩ = some (.int .i64 (zm k)) ∧ w'.cell? ⟨bs, os + k, none⟩ = some (.int .i64 (zs k)))) (by kernel_rfl) (⟨ints_cell (HM.out.kept C.out) hlt, ints_cell (HN.out.kept C.out) hlt⟩) (fun hHeld => ?_)
      have hg := Draw.gdrew W
      replace C := Lib.hid (gtr C.out hg)
      replace B := Lib.hid (B.out.keptN hg)
      replace O := Lib.hid (O.out.kept hg (fun g e => by cases e))
      clear hg
      clear hx hy hw1
      generalize (W).drew = W2 at *
      have hw2 := C.out.size
      refine wpAnyH_take (i := 0) (oi := ⟨some 29, _, _, _, _, _⟩) (v := ?_) rfl (by kernel_rfl) (by kernel_rfl) (by kernel_rfl) (fun _ _ _ h => h) (Or.inl ⟨by rfl, ?_⟩) (by assumption) ?_
      rotate_left
      · intro w hSw; (try dsimp only at hSw); go_simp; try with_reducible rfl
      simp only [Act.put, List.setIfInBounds_toArray, List.set_cons_zero, List.set_cons_succ]
      refine wpAnyH_take (i := 2) (oi := ⟨some 31, _, _, _, _, _⟩) (v := ?_) rfl (by kernel_rfl) (by kernel_rfl) (by kernel_rfl) (fun _ _ _ h => h) (Or.inl ⟨by rfl, ?_⟩) (by assumption) ?_
      rotate_left
      · intro w hSw; (try dsimp only at hSw); go_simp; try with_reducible rfl
      simp only [Act.put, List.setIfInBounds_toArray, List.set_cons_zero, List.set_cons_succ]
      refine wpAnyH_take (i := 3) (oi := ⟨some 32, _, _, _, _, _⟩) (v := ?_) rfl (by kernel_rfl) (by kernel_rfl) (by kernel_rfl) (fun _ _ _ h => h) (Or.inl ⟨by rfl, ?_⟩) (by assumption) ?_
      rotate_left
      · intro w hSw; (try dsimp only at hSw); go_simp; try with_reducible rfl
      simp only [Act.put, List.setIfInBounds_toArray, List.set_cons_zero, List.set_cons_succ]
      refine wpAnyH_take (i := 4) (oi := ⟨some 33, _, _, _, _, _⟩) (v := ?_) rfl (by kernel_rfl) (by kernel_rfl) (by kernel_rfl) (fun _ _ _ h => h) (Or.inl ⟨by rfl, ?_⟩) (by assumption) ?_
      rotate_left
      · intro w hSw; (try dsimp only at hSw); go_simp; try with_reducible rfl
      simp only [Act.put, List.setIfInBounds_toArray, List.set_cons_zero, List.set_cons_succ]
      refine wpAnyH_take (i := 5) (oi := ⟨some 34, _, _, _, _, _⟩) (v := ?_) rfl (by kernel_rfl) (by kernel_rfl) (by kernel_rfl) (fun _ _ _ h => h) (Or.inl ⟨by rfl, ?_⟩) (by assumption) ?_
      rotate_left
      · intro w hSw; (try dsimp only at hSw); go_simp; try with_reducible rfl
      simp only [Act.put, List.setIfInBounds_toArray, List.set_cons_zero, List.set_cons_succ]
      refine wpAnyH_take (i := 6) (oi := ⟨some 35, _, _, _, _, _⟩) (v := ?_) rfl (by kernel_rfl) (by kernel_rfl) (by kernel_rfl) (fun _ _ _ h => h) (Or.inl ⟨by rfl, ?_⟩) (by assumption) ?_
      rotate_left
      · intro w hSw; (try dsimp only at hSw); go_simp; try with_reducible rfl
      simp only [Act.put, List.setIfInBounds_toArray, List.set_cons_zero, List.set_cons_succ]
      refine wpAnyH_take (i := 7) (oi := ⟨some 36, _, _, _, _, _⟩) (v := ?_) rfl (by kernel_rfl) (by kernel_rfl) (by kernel_rfl) (fun _ _ _ h => h) (Or.inl ⟨by rfl, ?_⟩) (by assumption) ?_
      rotate_left
      · intro w hSw; (try dsimp only at hSw); go_simp; try with_reducible rfl
      simp only [Act.put, List.setIfInBounds_toArray, List.set_cons_zero, List.set_cons_succ]
      refine wpAnyH_take (i := 8) (oi := ⟨some 37, _, _, _, _, _⟩) (v := ?_) rfl (by kernel_rfl) (by kernel_rfl) (by kernel_rfl) (fun _ _ _ h => h) (Or.inl ⟨by rfl, ?_⟩) (by assumption) ?_
      rotate_left
      · intro w hSw; (try dsimp only at hSw); go_simp; try with_reducible rfl
      simp only [Act.put, List.setIfInBounds_toArray, List.set_cons_zero, List.set_cons_succ]
      refine wpAnyH_take (i := 9) (oi := ⟨some 38, _, _, _, _, _⟩) (v := ?_) rfl (by kernel_rfl) (by kernel_rfl) (by kernel_rfl) (fun _ _ _ h => h) (Or.inl ⟨by rfl, ?_⟩) (by assumption) ?_
      rotate_left
      · intro w hSw; (try dsimp only at hSw); go_simp; try with_reducible rfl
      simp only [Act.put, List.setIfInBounds_toArray, List.set_cons_zero, List.set_cons_succ]
      refine wpAnyH_take (i := 10) (oi := ⟨some 39, _, _, _, _, _⟩) (v := ?_) rfl (by kernel_rfl) (by kernel_rfl) (by kernel_rfl) (fun _ _ _ h => h) (Or.inl ⟨by rfl, ?_⟩) (by assumption) ?_
      rotate_left
      · intro w hSw; (try dsimp only at hSw); go_simp; try with_reducible rfl
      simp only [Act.put, List.setIfInBounds_toArray, List.set_cons_zero, List.set_cons_succ]
      refine wpAnyH_ready (rs := [1, 11]) (by kernel_rfl) (by simp) ?_
      refine AllReadyH.cons (o := ⟨some 30, _, _, _, _, _⟩) rfl (fun Kq hKq => ?_) (AllReadyH.cons (o := ⟨some 40, _, _, _, _, _⟩) rfl (fun Kq hKq => ?_) AllReadyH.nil)
      · have q5 : W2.cell? ⟨w1.heap.size + 1, 5, none⟩ = some v := B.out.cell 5
        go_simp
        clear q5
        refine hKq.out _ _ (⟨ints_cell (HM.out.kept C.out) hlt, ints_cell (HN.out.kept C.out) hlt⟩) (fun hHeld => ?_)
        clear hKq Kq
        refine wpAnyH_ready (rs := [11]) (by kernel_rfl) (by simp) ?_
        refine AllReadyH.cons (o := ⟨some 40, _, _, _, _, _⟩) rfl (fun Kq hKq => ?_) AllReadyH.nil
        go_simp
        refine at_alloc ?_
        intro Wa hg hT
        have hx5 : w1.heap.size ≤ W2.heap.size := C.out.size
        generalize W2.heap.size = x5 at *
        have T := Lib.hid hT
        replace C := Lib.hid (gtr C.out hg)
        replace B := Lib.hid (B.out.keptN hg)
        replace O := Lib.hid (O.out.kept hg (fun g e => by cases e))
        clear hg
        clear hT
        refine hKq.out _ _ (⟨ints_cell (HM.out.kept C.out) hlt, ints_cell (HN.out.kept C.out) hlt⟩) (fun hHeld => ?_)
        clear hKq Kq
        refine wpAnyH_ready (rs := [12]) (by kernel_rfl) (by simp) ?_
        refine AllReadyH.cons (o := ⟨some 41, _, _, _, _, _⟩) rfl (fun Kq hKq => ?_) AllReadyH.nil
        rw [if_pos (by rfl)]
        refine wp_append_own _ (.tmp 30) (.tmp 40) 28 rfl w1.heap.size 35 i0 (.agg #[.int .i64 0, .int .i64 0, .bool false, .int .i64 0]) 4 32 und_shns hi hz0 hz1 hz2 rfl (by decide) v k (cellsS (nwS zm zs) k) rfl O.out ⟨x5, 0, none⟩ 1 1 (cell4 (nwS zm zs k)) rfl rfl (blk_news T.out) (by simp [cell4, Value.oneCell']) (by unfold maxLen; omega) (by omega) C.out.size ?_
        intro v' W4 hown hgrow _
        have hB4 := B.out.kept hgrow (own_ne_b O.out B.out (by decide))
        have hC4 := own_grownW C.out O.out (Nat.le_refl _) hgrow
        have hO4 : OwnSh W4 w1.heap.size v' (k + 1) (nwS zm zs) := by unfold OwnSh; rw [cellsS_succ]; exact hown
        clear hown
        obtain ⟨a', c', rfl, _, _, _, _⟩ := hO4.sh
        clear T
        clear B O C hgrow
        have B := Lib.hid hB4; have O := Lib.hid hO4; have C := Lib.hid hC4
        clear hB4 hO4 hC4
        refine hKq.out _ _ (⟨ints_cell (HM.out.kept C.out) hlt, ints_cell (HN.out.kept C.out) hlt⟩) (fun hHeld => ?_)
        clear hKq Kq
        refine wpAnyH_take (i := 13) (oi := ⟨some 42, _, _, _, _, _⟩) (v := ?_) rfl (by kernel_rfl) (by kernel_rfl) (by kernel_rfl) (fun _ _ _ h => h) (Or.inl ⟨by rfl, ?_⟩) (by assumption) ?_
        rotate_left
        · intro w hSw; (try dsimp only at hSw); go_simp; try with_reducible rfl
        simp only [Act.put, List.setIfInBounds_toArray, List.set_cons_zero, List.set_cons_succ]
        refine wpAnyH_ready (rs := [14]) (by kernel_rfl) (by simp) ?_
        refine AllReadyH.cons (o := ⟨none, _, _, _, _, _⟩) rfl (fun Kq hKq => ?_) AllReadyH.nil
        have q5 : W4.cell? ⟨w1.heap.size + 1, 5, none⟩ = some v := B.out.cell 5
        have g5 := B.out.free 5
        go_simp
        have hg := grown_set W4 (w1.heap.size + 1) 5 (.slice a' (k + 1) c')
        have hO5 := O.out.keptBlk B.out hg
        have hB5 := B.out.set 5 (.slice a' (k + 1) c')
        have hC5 := grown_new C.out (by omega) hg
        clear q5 g5 hg
        clear B O C
        generalize W4.setCell ⟨w1.heap.size + 1, 5, none⟩ (.slice a' (k + 1) c') = W5 at *
        have B := Lib.hid hB5; have O := Lib.hid hO5; have C := Lib.hid hC5
        clear hB5 hO5 hC5
        refine hKq.out _ _ (⟨ints_cell (HM.out.kept C.out) hlt, ints_cell (HN.out.kept C.out) hlt⟩) (fun hHeld => ?_)
        clear hKq Kq
        refine wpAnyH_done (by kernel_rfl) ?_ _
        go_wp2
        go_roundw
        case rel => exact ⟨k + 1, _, by omega, by go_num, B.out, O.out, C.out⟩
        case measure => simp [intOf]; omega
      · go_simp
        refine at_alloc ?_
        intro Wa hg hT
        have hx5 : w1.heap.size ≤ W2.heap.size := C.out.size
        generalize W2.heap.size = x5 at *
        have T := Lib.hid hT
        replace C := Lib.hid (gtr C.out hg)
        replace B := Lib.hid (B.out.keptN hg)
        replace O := Lib.hid (O.out.kept hg (fun g e => by cases e))
        clear hg
        clear hT
        refine hKq.out _ _ (⟨ints_cell (HM.out.kept C.out) hlt, ints_cell (HN.out.kept C.out) hlt⟩) (fun hHeld => ?_)
        clear hKq Kq
        refine wpAnyH_ready (rs := [1]) (by kernel_rfl) (by simp) ?_
        refine AllReadyH.cons (o := ⟨some 30, _, _, _, _, _⟩) rfl (fun Kq hKq => ?_) AllReadyH.nil
        have q5 : Wa.cell? ⟨w1.heap.size + 1, 5, none⟩ = some v := B.out.cell 5
        go_simp
        clear q5
        refine hKq.out _ _ (⟨ints_cell (HM.out.kept C.out) hlt, ints_cell (HN.out.kept C.out) hlt⟩) (fun hHeld => ?_)
        clear hKq Kq
        refine wpAnyH_ready (rs := [12]) (by kernel_rfl) (by simp) ?_
        refine AllReadyH.cons (o := ⟨some 41, _, _, _, _, _⟩) rfl (fun Kq hKq => ?_) AllReadyH.nil
        rw [if_pos (by rfl)]
        refine wp_append_own _ (.tmp 30) (.tmp 40) 28 rfl w1.heap.size 35 i0 (.agg #[.int .i64 0, .int .i64 0, .bool false, .int .i64 0]) 4 32 und_shns hi hz0 hz1 hz2 rfl (by decide) v k (cellsS (nwS zm zs) k) rfl O.out ⟨x5, 0, none⟩ 1 1 (cell4 (nwS zm zs k)) rfl rfl (blk_news T.out) (by simp [cell4, Value.oneCell']) (by unfold maxLen; omega) (by omega) C.out.size ?_
        intro v' W4 hown hgrow _
        have hB4 := B.out.kept hgrow (own_ne_b O.out B.out (by decide))
        have hC4 := own_grownW C.out O.out (Nat.le_refl _) hgrow
        have hO4 : OwnSh W4 w1.heap.size v' (k + 1) (nwS zm zs) := by unfold OwnSh; rw [cellsS_succ]; exact hown
        clear hown
        obtain ⟨a', c', rfl, _, _, _, _⟩ := hO4.sh
        clear T
        clear B O C hgrow
        have B := Lib.hid hB4; have O := Lib.hid hO4; have C := Lib.hid hC4
        clear hB4 hO4 hC4
        refine hKq.out _ _ (⟨ints_cell (HM.out.kept C.out) hlt, ints_cell (HN.out.kept C.out) hlt⟩) (fun hHeld => ?_)
        clear hKq Kq
        refine wpAnyH_take (i := 13) (oi := ⟨some 42, _, _, _, _, _⟩) (v := ?_) rfl (by kernel_rfl) (by kernel_rfl) (by kernel_rfl) (fun _ _ _ h => h) (Or.inl ⟨by rfl, ?_⟩) (by assumption) ?_
        rotate_left
        · intro w hSw; (try dsimp only at hSw); go_simp; try with_reducible rfl
        simp only [Act.put, List.setIfInBounds_toArray, List.set_cons_zero, List.set_cons_succ]
        refine wpAnyH_ready (rs := [14]) (by kernel_rfl) (by simp) ?_
        refine AllReadyH.cons (o := ⟨none, _, _, _, _, _⟩) rfl (fun Kq hKq => ?_) AllReadyH.nil
        have q5 : W4.cell? ⟨w1.heap.size + 1, 5, none⟩ = some v := B.out.cell 5
        have g5 := B.out.free 5
        go_simp
        have hg := grown_set W4 (w1.heap.size + 1) 5 (.slice a' (k + 1) c')
        have hO5 := O.out.keptBlk B.out hg
        have hB5 := B.out.set 5 (.slice a' (k + 1) c')
        have hC5 := grown_new C.out (by omega) hg
        clear q5 g5 hg
        clear B O C
        generalize W4.setCell ⟨w1.heap.size + 1, 5, none⟩ (.slice a' (k + 1) c') = W5 at *
        have B := Lib.hid hB5; have O := Lib.hid hO5; have C := Lib.hid hC5
        clear hB5 hO5 hC5
        refine hKq.out _ _ (⟨ints_cell (HM.out.kept C.out) hlt, ints_cell (HN.out.kept C.out) hlt⟩) (fun hHeld => ?_)
        clear hKq Kq
        refine wpAnyH_done (by kernel_rfl) ?_ _
        go_wp2
        go_roundw
        case rel => exact ⟨k + 1, _, by omega, by go_num, B.out, O.out, C.out⟩
        case measure => simp [intOf]; omega
    · obtain rfl : k = nm := by omega
      obtain ⟨a3, c3, rfl, hsh, _, _, _⟩ := O.out.sh
      have HSH := Lib.hid hsh; clear hsh
      have q := B.out.all6
      obtain ⟨q0, q1, q2, q3, q4, q5, _, _, _, _, _, _⟩ := q
      go_wp2_with fail
      refine (s32ok _ need many _ ng _ zg _ nc _ zc msg _ k _ (nwS zm zs) (I1.out.ints.kept C.out) (I2.out.ints.kept C.out) HSH.out hl1 hl2 hl3).mono ?_
      rintro e w8 ⟨rfl, hg⟩
      clear q0 q1 q2 q3 q4 q5
      have HB := Lib.hid (B.out.keptN hg); have HO := Lib.hid (O.out.kept hg (fun g e => by cases e)); have HCC := Lib.hid (gtr C.out hg)
      have HR := Lib.hid (R1.out.keptN HCC.out); have HGG := Lib.hid (gtr G1.out HCC.out)
      clear hg
      cases hq : tsF need many ng zg nc zc msg k (nwS zm zs) with
      | false =>
        have HQ := Lib.hid hq
        go_wp2_with (first
          | (refine wpList_store_blk rfl 30 (.tmp 8) (.tmp 46) _ _ _ 30 HR.out rfl rfl rfl rfl (by kernel_rfl) (by simp [Value.oneCell']) rfl ?_; intro V hgV hRV; have HGV := Lib.hid hgV; have HRV := Lib.hid hRV; clear hgV hRV))
        (try simp only [Exit.inBlock, Exit.then])
        refine bodyPost_ret (ret_ses2 rfl _ rfl HRV.out) rfl ?_
        exact sesN_no (fun h => by have h2 := h.2; rw [HQ.out] at h2; cases h2) ⟨rfl, grown_new HGG.out (by omega) HGV.out⟩
      | true =>
        have HQ := Lib.hid hq
        obtain ⟨q0, q1, q2, q3, q4, q5, _, _, _, _, _, _⟩ := HB.out.all6
        go_wp2_with (first
          | (refine wpList_store_blk rfl 30 (.tmp 8) (.tmp 47) _ _ _ 30 HR.out rfl rfl rfl rfl (by kernel_rfl) (by simp [Value.oneCell']) rfl ?_; intro V hgV hRV; have HGV := Lib.hid hgV; have HRV := Lib.hid hRV; clear hgV hRV))
        (try simp only [Exit.inBlock, Exit.then])
        refine bodyPost_ret (ret_ses2 rfl _ rfl HRV.out) rfl ?_
        have hwz := gtr HCC.out (grown_refl _ none)
        have hz8 := HCC.out.size
        have hzV := HGV.out.size
        have hlq1 := I1.out.lt; have hlq2 := I2.out.lt
        exact sesN_yes rfl HQ.out ⟨b1, c1, b2, c2, a3, c3, rfl, ((I1.out.keptN HCC.out).kept HGV.out (by intro e; have e := Option.some.inj e; omega)).lower (by omega), ((I2.out.keptN HCC.out).kept HGV.out (by intro e; have e := Option.some.inj e; omega)).lower (by omega), (HO.out.kept HGV.out (fun g e => by have e := Option.some.inj e; omega)).lower (by omega), grown_new HGG.out (by omega) HGV.out⟩
end Con
end Go.Proofs.YthbigmcklacbnaaGreatDoor
