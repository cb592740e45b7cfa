/-
  Signatures: the program's functions on a part, of one of a group.
-/
import Derived.Test.YthbigmcklacbnaaGreatDoorGk
import Derived.Test.YthbigmcklacbnaaGreatDoorGj
import Derived.Handy
namespace Go.Proofs.YthbigmcklacbnaaGreatDoor
namespace Con
open Go.RowKit Alg Mem Draw
set_option linter.unusedVariables false

/-- One of a group, as a signer. -/
def gpV (need many : Int) (ag : Option Addr) (ng cg : Nat) (ac : Option Addr) (nc cc : Nat) (am : Option Addr) (nm cm : Nat) (i : Nat) : Value := .agg #[.int .i64 need, .int .i64 many, .slice ag ng cg, .slice ac nc cc, .slice am nm cm, .int .i64 (i : Int)]
def gp1 (need many : Int) (ag : Option Addr) (ng cg : Nat) (ac : Option Addr) (nc cc : Nat) (am : Option Addr) (nm cm : Nat) (i : Nat) : Value := .iface 118 (gpV need many ag ng cg ac nc cc am nm cm i)
theorem gppub (w : World) (need many : Int) (ag : Option Addr) (ng cg : Nat) (zg : Nat → Int) (ac : Option Addr) (nc cc : Nat) (zc : Nat → Int) (am : Option Addr) (nm cm : Nat) (zm : Nat → Int) (i : Nat) (hG : Ints w ag ng zg) (hC : Ints w ac nc zc) (hM : Ints w am nm zm) (hl1 : ng ≤ 2000000) (hl2 : nc ≤ 2000000) :
    Calls Tryz.prog 129 #[.agg #[.int .i64 need, .int .i64 many, .slice ag ng cg, .slice ac nc cc, .slice am nm cm, .int .i64 (i : Int)]] w fun e w' => e = .returned (.int .i64 (kpub need many ng zg nc zc)) ∧ w.grownBy w' none := by
  have G := Lib.hid (Draw.grown_alloc w (.cells #[.int .i64 need, .int .i64 many, .slice ag ng cg, .slice ac nc cc, .slice am nm cm, .int .i64 (i : Int)] 118) none)
  have B := Lib.hid (Blk.new w #[.int .i64 need, .int .i64 many, .slice ag ng cg, .slice ac nc cc, .slice am nm cm, .int .i64 (i : Int)] 118)
  have HG := Lib.hid (hG.kept G.out); have HC := Lib.hid (hC.kept G.out)
  clear hG hC hM
  have b0 : World.cell? _ ⟨w.heap.size, 0, none⟩ = some (.int .i64 need) := B.out.cell 0
  have b1 : World.cell? _ ⟨w.heap.size, 1, none⟩ = some (.int .i64 many) := B.out.cell 1
  have b2 : World.cell? _ ⟨w.heap.size, 2, none⟩ = some (.slice ag ng cg) := B.out.cell 2
  have b3 : World.cell? _ ⟨w.heap.size, 3, none⟩ = some (.slice ac nc cc) := B.out.cell 3
  go_enter Tryz.func129, Tryz.ntmps129
  go_wp2_with fail
  refine (ikeypub _ need many _ ng _ zg _ nc _ zc HG.out HC.out hl1 hl2).mono ?_
  rintro e w1 ⟨rfl, hg⟩
  replace G := Lib.hid (gtr G.out hg)
  clear hg
  go_wp2
  go_ret
  exact ⟨rfl, G.out⟩
set_option maxHeartbeats 1000000 in
theorem gpcom (w : World) (need many : Int) (ag : Option Addr) (ng cg : Nat) (zg : Nat → Int) (ac : Option Addr) (nc cc : Nat) (zc : Nat → Int) (am : Option Addr) (nm cm : Nat) (zm : Nat → Int) (i : Nat) (hG : Ints w ag ng zg) (hC : Ints w ac nc zc) (hM : Ints w am nm zm) (hl1 : ng ≤ 2000000) (hl2 : nc ≤ 2000000) (hi : i < nm) :
    Calls Tryz.prog 128 #[.agg #[.int .i64 need, .int .i64 many, .slice ag ng cg, .slice ac nc cc, .slice am nm cm, .int .i64 (i : Int)]] w fun e w' => e = .returned (.int .i64 (catz nc zc (zm i))) ∧ w.grownBy w' none := by
  have G := Lib.hid (Draw.grown_alloc w (.cells #[.int .i64 need, .int .i64 many, .slice ag ng cg, .slice ac nc cc, .slice am nm cm, .int .i64 (i : Int)] 118) none)
  have B := Lib.hid (Blk.new w #[.int .i64 need, .int .i64 many, .slice ag ng cg, .slice ac nc cc, .slice am nm cm, .int .i64 (i : Int)] 118)
  have HC := Lib.hid (hC.kept G.out); have HM := Lib.hid (hM.kept G.out)
  clear hG hC hM
  obtain ⟨b, off, rfl, hb, hcc⟩ := HM.out.ptr (by omega)
  have hx := hcc i hi
  have HX := Lib.hid hx
  have hiI : (i : Int) < (nm : Int) := by omega
  clear hcc hx
  have HE : ∀ W : World, (w.alloc (.cells #[.int .i64 need, .int .i64 many, .slice ag ng cg, .slice ac nc cc, .slice (some ⟨b, off, none⟩) nm cm, .int .i64 (i : Int)] 118)).grownBy W none → W.cell? ⟨b, off + i, none⟩ = some (.int .i64 (zm i)) := fun W hg => (World.cell?_of_block (hg.block b hb (by simp))).trans HX.out
  have HE := Lib.hid HE
  have C := Lib.hid (Draw.grown_refl (w.alloc (.cells #[.int .i64 need, .int .i64 many, .slice ag ng cg, .slice ac nc cc, .slice (some ⟨b, off, none⟩) nm cm, .int .i64 (i : Int)] 118)) none)
  go_enter Tryz.func128, Tryz.ntmps128
  go_wp2_with fail
  refine wp_region_held_drew (S := (fun w' => w'.cell? ⟨w.heap.size, 3, none⟩ = some (.slice ac nc cc) ∧ w'.cell? ⟨w.heap.size, 4, none⟩ = some (.slice (some ⟨b, off, none⟩) nm cm) ∧ w'.cell? ⟨w.heap.size, 5, none⟩ = some (.int .i64 (i : Int)) ∧ w'.cell? ⟨b, off + i, none⟩ = some (.int .i64 (zm i)))) (by kernel_rfl) (⟨B.out.cell 3, B.out.cell 4, B.out.cell 5, HE.out _ (Draw.gdrew _)⟩) (fun hHeld => ?_)
  have hg := Draw.gdrew (w.alloc (.cells #[.int .i64 need, .int .i64 many, .slice ag ng cg, .slice ac nc cc, .slice (some ⟨b, off, none⟩) nm cm, .int .i64 (i : Int)] 118))
  replace G := Lib.hid (gtr G.out hg)
  replace C := Lib.hid (gtr C.out hg)
  replace B := Lib.hid (B.out.keptN hg)
  replace HC := Lib.hid (HC.out.kept hg)
  clear hg
  generalize (w.alloc (.cells #[.int .i64 need, .int .i64 many, .slice ag ng cg, .slice ac nc cc, .slice (some ⟨b, off, none⟩) nm cm, .int .i64 (i : Int)] 118)).drew = W at *
  refine wpAnyH_take (i := 0) (oi := ⟨some 3, _, _, _, _, _⟩) (v := ?_) rfl (by kernel_rfl) (by kernel_rfl) (by kernel_rfl) (fun _ _ _ h => h) (Or.inl ⟨by rfl, ?_⟩) (by assumption) ?_
  rotate_left
  · intro w hSw; (try dsimp only at hSw); go_simp; try with_reducible rfl
  simp only [Act.put, List.setIfInBounds_toArray, List.set_cons_zero, List.set_cons_succ]
  refine wpAnyH_take (i := 1) (oi := ⟨some 4, _, _, _, _, _⟩) (v := ?_) rfl (by kernel_rfl) (by kernel_rfl) (by kernel_rfl) (fun _ _ _ h => h) (Or.inl ⟨by rfl, ?_⟩) (by assumption) ?_
  rotate_left
  · intro w hSw; (try dsimp only at hSw); go_simp; try with_reducible rfl
  simp only [Act.put, List.setIfInBounds_toArray, List.set_cons_zero, List.set_cons_succ]
  refine wpAnyH_take (i := 2) (oi := ⟨some 5, _, _, _, _, _⟩) (v := ?_) rfl (by kernel_rfl) (by kernel_rfl) (by kernel_rfl) (fun _ _ _ h => h) (Or.inl ⟨by rfl, ?_⟩) (by assumption) ?_
  rotate_left
  · intro w hSw; (try dsimp only at hSw); go_simp; try with_reducible rfl
  simp only [Act.put, List.setIfInBounds_toArray, List.set_cons_zero, List.set_cons_succ]
  refine wpAnyH_take (i := 3) (oi := ⟨some 6, _, _, _, _, _⟩) (v := ?_) rfl (by kernel_rfl) (by kernel_rfl) (by kernel_rfl) (fun _ _ _ h => h) (Or.inl ⟨by rfl, ?_⟩) (by assumption) ?_
  rotate_left
  · intro w hSw; (try dsimp only at hSw); go_simp; try with_reducible rfl
  simp only [Act.put, List.setIfInBounds_toArray, List.set_cons_zero, List.set_cons_succ]
  refine wpAnyH_take (i := 4) (oi := ⟨some 7, _, _, _, _, _⟩) (v := ?_) rfl (by kernel_rfl) (by kernel_rfl) (by kernel_rfl) (fun _ _ _ h => h) (Or.inl ⟨by rfl, ?_⟩) (by assumption) ?_
  rotate_left
  · intro w hSw; (try dsimp only at hSw); go_simp; try with_reducible rfl
  simp only [Act.put, List.setIfInBounds_toArray, List.set_cons_zero, List.set_cons_succ]
  refine wpAnyH_take (i := 5) (oi := ⟨some 8, _, _, _, _, _⟩) (v := ?_) rfl (by kernel_rfl) (by kernel_rfl) (by kernel_rfl) (fun _ _ _ h => h) (Or.inl ⟨by rfl, ?_⟩) (by assumption) ?_
  rotate_left
  · intro w hSw; (try dsimp only at hSw); go_simp; try with_reducible rfl
  simp only [Act.put, List.setIfInBounds_toArray, List.set_cons_zero, List.set_cons_succ]
  refine wpAnyH_take (i := 6) (oi := ⟨some 9, _, _, _, _, _⟩) (v := ?_) rfl (by kernel_rfl) (by kernel_rfl) (by kernel_rfl) (fun _ _ _ h => h) (Or.inl ⟨by rfl, ?_⟩) (by assumption) ?_
  rotate_left
  · intro w hSw; (try dsimp only at hSw); go_simp; try with_reducible rfl
  simp only [Act.put, List.setIfInBounds_toArray, List.set_cons_zero, List.set_cons_succ]
  refine wpAnyH_take (i := 7) (oi := ⟨some 10, _, _, _, _, _⟩) (v := ?_) rfl (by kernel_rfl) (by kernel_rfl) (by kernel_rfl) (fun _ _ _ h => h) (Or.inl ⟨by rfl, ?_⟩) (by assumption) ?_
  rotate_left
  · intro w hSw; (try dsimp only at hSw); go_simp; try with_reducible rfl
  simp only [Act.put, List.setIfInBounds_toArray, List.set_cons_zero, List.set_cons_succ]
  refine wpAnyH_take (i := 8) (oi := ⟨some 11, _, _, _, _, _⟩) (v := ?_) rfl (by kernel_rfl) (by kernel_rfl) (by kernel_rfl) (fun _ _ _ h => h) (Or.inl ⟨by rfl, ?_⟩) (by assumption) ?_
  rotate_left
  · intro w hSw; (try dsimp only at hSw); go_simp; try with_reducible rfl
  simp only [Act.put, List.setIfInBounds_toArray, List.set_cons_zero, List.set_cons_succ]
  refine wpAnyH_ready (rs := [9]) (by kernel_rfl) (by simp) ?_
  refine AllReadyH.cons (o := ⟨some 12, _, _, _, _, _⟩) rfl (fun Kq hKq => ?_) AllReadyH.nil
  go_simp
  go_at_call 130
  refine (icat _ _ nc _ zc (zm i) HC.out hl2).mono ?_
  rintro e w3 ⟨rfl, hg⟩
  replace G := Lib.hid (gtr G.out hg)
  replace C := Lib.hid (gtr C.out hg)
  replace B := Lib.hid (B.out.keptN hg)
  replace HC := Lib.hid (HC.out.kept hg)
  clear hg
  refine hKq.out _ _ (⟨B.out.cell 3, B.out.cell 4, B.out.cell 5, HE.out _ C.out⟩) (fun hHeld => ?_)
  clear hKq Kq
  refine wpAnyH_take (i := 10) (oi := ⟨some 2, _, _, _, _, _⟩) (v := ?_) rfl (by kernel_rfl) (by kernel_rfl) (by kernel_rfl) (fun _ _ _ h => h) (Or.inl ⟨by rfl, ?_⟩) (by assumption) ?_
  rotate_left
  · intro w hSw; (try dsimp only at hSw); go_simp; try with_reducible rfl
  simp only [Act.put, List.setIfInBounds_toArray, List.set_cons_zero, List.set_cons_succ]
  refine wpAnyH_done (by kernel_rfl) ?_ _
  go_wp2
  go_ret
  exact ⟨rfl, G.out⟩
set_option maxRecDepth 100000 in
set_option maxHeartbeats 2000000 in
theorem gpcoef (w : World) (need many : Int) (ag : Option Addr) (ng cg : Nat) (zg : Nat → Int) (ac : Option Addr) (nc cc : Nat) (zc : Nat → Int) (am : Option Addr) (nm cm : Nat) (zm : Nat → Int) (i : Nat) (hM : Ints w am nm zm) (hi : i < nm) (hp : plok nm zm = true) (hc : nm ≤ cm) (hm : cm ≤ maxLen) :
    Calls Tryz.prog 95 #[gp1 need many ag ng cg ac nc cc am nm cm i] w fun e w' => e = .returned (.int .i64 (zline nm zm 0 i)) ∧ w.grownBy w' none := by
  unfold gp1 gpV
  have hA := as_gg (.agg #[.int .i64 need, .int .i64 many, .slice ag ng cg, .slice ac nc cc, .slice am nm cm, .int .i64 (i : Int)])
  have hiI : (i : Int) < (nm : Int) := by omega
  have hf0 : fok 0 = true := rfl
  have HF := Lib.hid hf0; have HP := Lib.hid hp
  have HM0 := Lib.hid hM
  clear hM hf0 hp
  go_enter Tryz.func95, Tryz.ntmps95
  go_wp2_with (first
    | (refine wpList_store_blk rfl 118 (.tmp 3) (.tmp 8) _ _ _ 118 (Blk.new w #[.int .i64 0, .int .i64 0, .slice none 0 0, .slice none 0 0, .slice none 0 0, .int .i64 0] 118) rfl rfl rfl rfl (by kernel_rfl) (by simp [Value.oneCell']) rfl ?_; intro V hgV hTV; have hg : w.grownBy V none := grown_new (grown_alloc w (.cells #[.int .i64 0, .int .i64 0, .slice none 0 0, .slice none 0 0, .slice none 0 0, .int .i64 0] 118) none) (Nat.le_refl _) hgV; have HM := Lib.hid (HM0.out.kept hg); have G := Lib.hid hg; have B := Lib.hid hTV; clear hg hgV hTV HM0))
  refine wp_region_held_drew (S := (fun w' => w'.cell? ⟨w.heap.size, 4, none⟩ = some (.slice am nm cm) ∧ w'.cell? ⟨w.heap.size, 5, none⟩ = some (.int .i64 (i : Int)))) (by kernel_rfl) (⟨B.out.cell 4, B.out.cell 5⟩) (fun hHeld => ?_)
  have hg := Draw.gdrew V
  replace G := Lib.hid (gtr G.out hg)
  replace B := Lib.hid (B.out.keptN hg)
  replace HM := Lib.hid (HM.out.kept hg)
  clear hg
  generalize V.drew = W at *
  refine wpAnyH_take (i := 0) (oi := ⟨some 9, _, _, _, _, _⟩) (v := ?_) rfl (by kernel_rfl) (by kernel_rfl) (by kernel_rfl) (fun _ _ _ h => h) (Or.inl ⟨by rfl, ?_⟩) (by assumption) ?_
  rotate_left
  · intro w hSw; (try dsimp only at hSw); go_simp; try with_reducible rfl
  simp only [Act.put, List.setIfInBounds_toArray, List.set_cons_zero, List.set_cons_succ]
  refine wpAnyH_take (i := 1) (oi := ⟨some 10, _, _, _, _, _⟩) (v := ?_) rfl (by kernel_rfl) (by kernel_rfl) (by kernel_rfl) (fun _ _ _ h => h) (Or.inl ⟨by rfl, ?_⟩) (by assumption) ?_
  rotate_left
  · intro w hSw; (try dsimp only at hSw); go_simp; try with_reducible rfl
  simp only [Act.put, List.setIfInBounds_toArray, List.set_cons_zero, List.set_cons_succ]
  refine wpAnyH_take (i := 3) (oi := ⟨some 12, _, _, _, _, _⟩) (v := ?_) rfl (by kernel_rfl) (by kernel_rfl) (by kernel_rfl) (fun _ _ _ h => h) (Or.inl ⟨by rfl, ?_⟩) (by assumption) ?_
  rotate_left
  · intro w hSw; (try dsimp only at hSw); go_simp; try with_reducible rfl
  simp only [Act.put, List.setIfInBounds_toArray, List.set_cons_zero, List.set_cons_succ]
  refine wpAnyH_take (i := 4) (oi := ⟨some 13, _, _, _, _, _⟩) (v := ?_) rfl (by kernel_rfl) (by kernel_rfl) (by kernel_rfl) (fun _ _ _ h => h) (Or.inl ⟨by rfl, ?_⟩) (by assumption) ?_
  rotate_left
  · intro w hSw; (try dsimp only at hSw); go_simp; try with_reducible rfl
  simp only [Act.put, List.setIfInBounds_toArray, List.set_cons_zero, List.set_cons_succ]
  refine wpAnyH_ready (rs := [2]) (by kernel_rfl) (by simp) ?_
  refine AllReadyH.cons (o := ⟨some 11, _, _, _, _, _⟩) rfl (fun Kq hKq => ?_) AllReadyH.nil
  go_simp
  go_at_call 98
  refine (ipline_yes _ _ nm _ zm 0 HM.out hc hm HP.out HF.out).mono ?_
  rintro e w3 ⟨b, rfl, hr, hg⟩
  have hcel := hr.cell hi
  replace G := Lib.hid (gtr G.out hg)
  replace B := Lib.hid (B.out.keptN hg)
  replace HM := Lib.hid (HM.out.kept hg)
  clear hg
  clear hr
  refine hKq.out _ _ (⟨B.out.cell 4, B.out.cell 5⟩) (fun hHeld => ?_)
  clear hKq Kq
  refine wpAnyH_take (i := 5) (oi := ⟨some 14, _, _, _, _, _⟩) (v := ?_) rfl (by kernel_rfl) (by kernel_rfl) (by kernel_rfl) (fun _ _ _ h => h) (Or.inl ⟨by rfl, ?_⟩) (by assumption) ?_
  rotate_left
  · intro w hSw; (try dsimp only at hSw); go_simp; try with_reducible rfl
  simp only [Act.put, List.setIfInBounds_toArray, List.set_cons_zero, List.set_cons_succ]
  refine wpAnyH_ready (rs := [6]) (by kernel_rfl) (by simp) ?_
  refine AllReadyH.cons (o := ⟨some 15, _, _, _, _, _⟩) rfl (fun Kq hKq => ?_) AllReadyH.nil
  go_simp
  refine hKq.out _ _ (⟨B.out.cell 4, B.out.cell 5⟩) (fun hHeld => ?_)
  clear hKq Kq
  refine wpAnyH_take (i := 7) (oi := ⟨some 2, _, _, _, _, _⟩) (v := ?_) rfl (by kernel_rfl) (by kernel_rfl) (by kernel_rfl) (fun _ _ _ h => h) (Or.inl ⟨by rfl, ?_⟩) (by assumption) ?_
  rotate_left
  · intro w hSw; (try dsimp only at hSw); go_simp; try with_reducible rfl
  simp only [Act.put, List.setIfInBounds_toArray, List.set_cons_zero, List.set_cons_succ]
  refine wpAnyH_done (by kernel_rfl) ?_ _
  go_wp2
  go_ret
  exact ⟨rfl, G.out⟩
end Con
end Go.Proofs.YthbigmcklacbnaaGreatDoor
