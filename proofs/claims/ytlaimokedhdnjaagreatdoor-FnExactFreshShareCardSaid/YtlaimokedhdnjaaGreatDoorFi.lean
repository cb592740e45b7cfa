/-
  Shares made anew: the program's functions on a member's share, with what each deal adds as two closures over it.
-/
import Derived.Test.YtlaimokedhdnjaaGreatDoorFs
import Derived.Deep.RegionWith
namespace Go.Proofs.YtlaimokedhdnjaaGreatDoor
namespace Con
open Go.RowKit Alg Mem Mp Hd Draw
set_option linter.unusedVariables false

/-- What a deal adds, as the program holds it: two functions over the deal's box. -/
def clo1 (b : Nat) : Value := .func (.func 50) #[] #[.pointer (some ⟨b, 0, none⟩)]
def clo2 (b : Nat) : Value := .func (.func 52) #[] #[.pointer (some ⟨b, 0, none⟩)]
def clos (B : Nat → Nat) : Nat → List Value
  | 0 => []
  | k + 1 => clos B k ++ [clo1 (B k), clo2 (B k)]
theorem clos_len (B : Nat → Nat) : ∀ k, (clos B k).length = k * 2
  | 0 => rfl
  | k + 1 => by simp only [clos, List.length_append, clos_len B k]; simp; omega
theorem clos_get (B : Nat → Nat) : ∀ {n j : Nat}, j < n → (clos B n)[j * 2]? = some (clo1 (B j)) ∧ (clos B n)[j * 2 + 1]? = some (clo2 (B j))
  | 0, j, h => by omega
  | n + 1, j, h => by
    have hl := clos_len B n
    rcases (by omega : j < n ∨ j = n) with h' | rfl
    · have h1 := clos_get B h'
      exact ⟨by rw [clos, List.getElem?_append_left (by omega)]; exact h1.1, by rw [clos, List.getElem?_append_left (by omega)]; exact h1.2⟩
    · exact ⟨by rw [clos, List.getElem?_append_right (by omega), hl]; simp, by rw [clos, List.getElem?_append_right (by omega), hl]; simp⟩
theorem clos_congr {B B' : Nat → Nat} : ∀ {k : Nat}, (∀ j, j < k → B j = B' j) → clos B k = clos B' k
  | 0, _ => rfl
  | k + 1, h => by rw [clos, clos, clos_congr (k := k) fun j hj => h j (by omega), h k (by omega)]
theorem own_ne_blk {W : World} {lo k : Nat} {T U : TypeId} {v : Value} {n b : Nat} {xs : List Value} {vs : Array Value} (h : W.ownsRow lo T k v n xs) (hb : Blk W b vs U) (hne : T ≠ U) : some b ≠ v.ownBlock := by
  rcases h with ⟨_, ⟨rfl, _⟩ | ⟨g, cap, cur, rfl, _, hg, _⟩⟩
  · intro e; cases e
  · intro e
    have e : b = g := Option.some.inj e
    subst e
    unfold Blk at hb
    rw [hg] at hb
    injection hb with hb
    injection hb with _ k2 _
    exact hne k2
theorem size_add : (Tryz.prog.info? 57).map (·.size) = some 2 := by kernel_rfl
theorem ret_add {fn : Func} {p : Tmp} (h : fn.results = #[.cell p 57]) (tmps : Array Value) {w : World} {b : Nat} {v0 v1 : Value} {T : TypeId} (hp : tmps.getD p undef = .pointer (some ⟨b, 0, none⟩)) (hb : Blk w b #[v0, v1] T) :
    (results fn tmps).run Tryz.prog w = .ok (.agg #[v0, v1]) w :=
  results_cell_row h tmps w b T #[v0, v1] (0, 0) _ hp hb Tryz.underlying57 rfl size_add
theorem ret_held1 {fn : Func} {p : Tmp} (h : fn.results = #[.cell p 30]) (tmps : Array Value) {w : World} {b : Nat} {v0 v1 : Value} {T : TypeId} (hp : tmps.getD p undef = .pointer (some ⟨b, 0, none⟩)) (hb : Blk w b #[v0, v1] T) :
    (results fn tmps).run Tryz.prog w = .ok (.agg #[v0, v1]) w :=
  results_cell_row h tmps w b T #[v0, v1] (0, 0) _ hp hb Tryz.underlying30 rfl size_held2
/-- One deal's two functions. -/
theorem iaddOf (w : World) (f : Int) (a1 : Option Addr) (n1 c1 : Nat) (a2 : Option Addr) (n2 c2 : Nat) :
    Calls Tryz.prog 34 #[.agg #[.int .i64 f, .slice a1 n1 c1, .slice a2 n2 c2]] w fun e w' => ∃ b, e = .returned (.agg #[clo1 b, clo2 b]) ∧ Blk w' b #[.int .i64 f, .slice a1 n1 c1, .slice a2 n2 c2] 49 ∧ w.heap.size ≤ b ∧ w.grownBy w' none := by
  have G := Lib.hid (gtr (Draw.grown_alloc w (.cells #[.int .i64 f, .slice a1 n1 c1, .slice a2 n2 c2] 49) none) (Draw.grown_alloc _ (.cells #[.nilFunc, .nilFunc] 57) none))
  have D := Lib.hid ((Blk.new w #[.int .i64 f, .slice a1 n1 c1, .slice a2 n2 c2] 49).keptN (Draw.grown_alloc _ (.cells #[.nilFunc, .nilFunc] 57) none))
  have R := Lib.hid (blk_new2 w (.cells #[.int .i64 f, .slice a1 n1 c1, .slice a2 n2 c2] 49) #[.nilFunc, .nilFunc] 57)
  go_enter Tryz.func34, Tryz.ntmps34
  go_wp2_with (first
    | (refine wpList_store_blk rfl 57 (.tmp 2) (.tmp 5) _ _ _ 57 R.out rfl rfl rfl rfl (by kernel_rfl) (by simp [Value.oneCell']) rfl ?_; intro V hgV hRV; have HGV := Lib.hid hgV; have HRV := Lib.hid hRV; clear hgV hRV))
  (try simp only [Exit.inBlock, Exit.then])
  refine bodyPost_ret (ret_add rfl _ rfl HRV.out) rfl ?_
  exact ⟨w.heap.size, rfl, D.out.kept HGV.out (by intro e; have e := Option.some.inj e; omega), Nat.le_refl _, grown_new G.out (by omega) HGV.out⟩
set_option maxRecDepth 100000 in
set_option maxHeartbeats 4000000 in
/-- A share with what one deal gives. -/
theorem iaddS (w : World) (m s f : Int) (bd : Nat) (a1 : Option Addr) (n1 c1 : Nat) (a2 : Option Addr) (n2 c2 : Nat) (z2 : Nat → Int) (mn : Nat) (hD : Blk w bd #[.int .i64 f, .slice a1 n1 c1, .slice a2 n2 c2] 49) (hA : Ints w a2 n2 z2) (hm : m - 1 = (mn : Int)) (hn : mn < n2) (h5 : mn ≤ 1000) :
    Calls Tryz.prog 52 #[.agg #[.int .i64 m, .int .i64 s], .pointer (some ⟨bd, 0, none⟩)] w fun e w' => e = .returned (.agg #[.int .i64 m, .int .i64 (sumF s (z2 mn))]) ∧ w.grownBy w' none := by
  have g0 := gtr (Draw.grown_alloc w (.cells #[.int .i64 m, .int .i64 s] 30) none) (Draw.grown_alloc _ (.cells #[.int .i64 0, .int .i64 0] 30) none)
  have H := Lib.hid ((Blk.new w #[.int .i64 m, .int .i64 s] 30).keptN (Draw.grown_alloc _ (.cells #[.int .i64 0, .int .i64 0] 30) none))
  have R := Lib.hid (blk_new2 w (.cells #[.int .i64 m, .int .i64 s] 30) #[.int .i64 0, .int .i64 0] 30)
  have D := Lib.hid (hD.keptN g0); have G := Lib.hid g0
  have hwm : IntKind.i64.wrap (mn : Int) = (mn : Int) := by rw [IntKind.wrap_i64]; omega
  have hmn0 : (0 : Int) ≤ (mn : Int) := by omega
  have hn' : (mn : Int) < (n2 : Int) := by omega
  obtain ⟨b2, o2, rfl, hb2, hc2⟩ := hA.ptr (by omega)
  have dd := (World.cell?_of_block (g0.block b2 hb2 (by simp))).trans (hc2 mn hn)
  have hb2' : b2 < ((w.alloc (.cells #[.int .i64 m, .int .i64 s] 30)).alloc (.cells #[.int .i64 0, .int .i64 0] 30)).heap.size := Nat.lt_of_lt_of_le hb2 g0.size
  have hbd := hD.lt
  clear hc2 g0 hA hD
  go_enter Tryz.func52, Tryz.ntmps52
  go_wp2_with fail
  refine wp_region_held_drew (S := (fun w' => w'.cell? ⟨w.heap.size, 0, none⟩ = some (.int .i64 m) ∧ w'.cell? ⟨w.heap.size, 1, none⟩ = some (.int .i64 s) ∧ w'.cell? ⟨bd, 2, none⟩ = some (.slice (some ⟨b2, o2, none⟩) n2 c2) ∧ w'.cell? ⟨b2, o2 + mn, none⟩ = some (.int .i64 (z2 mn)))) (by kernel_rfl) (⟨H.out.cell 0, H.out.cell 1, D.out.cell 2, dd⟩) (fun hHeld => ?_)
  have hg := gdrew ((w.alloc (.cells #[.int .i64 m, .int .i64 s] 30)).alloc (.cells #[.int .i64 0, .int .i64 0] 30))
  replace dd := (World.cell?_of_block (hg.block b2 hb2' (by simp))).trans dd
  replace hb2' := Nat.lt_of_lt_of_le hb2' hg.size
  replace G := Lib.hid (gtr G.out hg)
  replace H := Lib.hid (H.out.keptN hg)
  replace R := Lib.hid (R.out.keptN hg)
  replace D := Lib.hid (D.out.keptN hg)
  clear hg
  generalize ((w.alloc (.cells #[.int .i64 m, .int .i64 s] 30)).alloc (.cells #[.int .i64 0, .int .i64 0] 30)).drew = W at *
  refine wpAnyH_take (i := 0) (oi := ⟨some 4, _, _, _, _, _⟩) (v := ?_) rfl (by kernel_rfl) (by kernel_rfl) (by kernel_rfl) (fun _ _ _ h => h) (Or.inl ⟨by rfl, ?_⟩) (by assumption) ?_
  rotate_left
  · intro w hSw; (try dsimp only at hSw); go_simp; try with_reducible rfl
  simp only [Act.put, List.setIfInBounds_toArray, List.set_cons_zero, List.set_cons_succ]
  refine wpAnyH_take (i := 1) (oi := ⟨some 5, _, _, _, _, _⟩) (v := ?_) rfl (by kernel_rfl) (by kernel_rfl) (by kernel_rfl) (fun _ _ _ h => h) (Or.inl ⟨by rfl, ?_⟩) (by assumption) ?_
  rotate_left
  · intro w hSw; (try dsimp only at hSw); go_simp; try with_reducible rfl
  simp only [Act.put, List.setIfInBounds_toArray, List.set_cons_zero, List.set_cons_succ]
  refine wpAnyH_take (i := 2) (oi := ⟨some 6, _, _, _, _, _⟩) (v := ?_) rfl (by kernel_rfl) (by kernel_rfl) (by kernel_rfl) (fun _ _ _ h => h) (Or.inl ⟨by rfl, ?_⟩) (by assumption) ?_
  rotate_left
  · intro w hSw; (try dsimp only at hSw); go_simp; try with_reducible rfl
  simp only [Act.put, List.setIfInBounds_toArray, List.set_cons_zero, List.set_cons_succ]
  refine wpAnyH_take (i := 3) (oi := ⟨some 7, _, _, _, _, _⟩) (v := ?_) rfl (by kernel_rfl) (by kernel_rfl) (by kernel_rfl) (fun _ _ _ h => h) (Or.inl ⟨by rfl, ?_⟩) (by assumption) ?_
  rotate_left
  · intro w hSw; (try dsimp only at hSw); go_simp; try with_reducible rfl
  simp only [Act.put, List.setIfInBounds_toArray, List.set_cons_zero, List.set_cons_succ]
  refine wpAnyH_take (i := 4) (oi := ⟨some 8, _, _, _, _, _⟩) (v := ?_) rfl (by kernel_rfl) (by kernel_rfl) (by kernel_rfl) (fun _ _ _ h => h) (Or.inl ⟨by rfl, ?_⟩) (by assumption) ?_
  rotate_left
  · intro w hSw; (try dsimp only at hSw); go_simp; try with_reducible rfl
  simp only [Act.put, List.setIfInBounds_toArray, List.set_cons_zero, List.set_cons_succ]
  refine wpAnyH_take (i := 5) (oi := ⟨some 9, _, _, _, _, _⟩) (v := ?_) rfl (by kernel_rfl) (by kernel_rfl) (by kernel_rfl) (fun _ _ _ h => h) (Or.inl ⟨by rfl, ?_⟩) (by assumption) ?_
  rotate_left
  · intro w hSw; (try dsimp only at hSw); go_simp; try with_reducible rfl
  simp only [Act.put, List.setIfInBounds_toArray, List.set_cons_zero, List.set_cons_succ]
  refine wpAnyH_take (i := 6) (oi := ⟨some 10, _, _, _, _, _⟩) (v := ?_) rfl (by kernel_rfl) (by kernel_rfl) (by kernel_rfl) (fun _ _ _ h => h) (Or.inl ⟨by rfl, ?_⟩) (by assumption) ?_
  rotate_left
  · intro w hSw; (try dsimp only at hSw); go_simp; try with_reducible rfl
  simp only [Act.put, List.setIfInBounds_toArray, List.set_cons_zero, List.set_cons_succ]
  refine wpAnyH_take (i := 7) (oi := ⟨some 11, _, _, _, _, _⟩) (v := ?_) rfl (by kernel_rfl) (by kernel_rfl) (by kernel_rfl) (fun _ _ _ h => h) (Or.inl ⟨by rfl, ?_⟩) (by assumption) ?_
  rotate_left
  · intro w hSw; (try dsimp only at hSw); go_simp; try with_reducible rfl
  simp only [Act.put, List.setIfInBounds_toArray, List.set_cons_zero, List.set_cons_succ]
  refine wpAnyH_take (i := 8) (oi := ⟨some 12, _, _, _, _, _⟩) (v := ?_) rfl (by kernel_rfl) (by kernel_rfl) (by kernel_rfl) (fun _ _ _ h => h) (Or.inl ⟨by rfl, ?_⟩) (by assumption) ?_
  rotate_left
  · intro w hSw; (try dsimp only at hSw); go_simp; try with_reducible rfl
  simp only [Act.put, List.setIfInBounds_toArray, List.set_cons_zero, List.set_cons_succ]
  refine wpAnyH_take (i := 9) (oi := ⟨some 13, _, _, _, _, _⟩) (v := ?_) rfl (by kernel_rfl) (by kernel_rfl) (by kernel_rfl) (fun _ _ _ h => h) (Or.inl ⟨by rfl, ?_⟩) (by assumption) ?_
  rotate_left
  · intro w hSw; (try dsimp only at hSw); go_simp; try with_reducible rfl
  simp only [Act.put, List.setIfInBounds_toArray, List.set_cons_zero, List.set_cons_succ]
  refine wpAnyH_take (i := 10) (oi := ⟨some 14, _, _, _, _, _⟩) (v := ?_) rfl (by kernel_rfl) (by kernel_rfl) (by kernel_rfl) (fun _ _ _ h => h) (Or.inl ⟨by rfl, ?_⟩) (by assumption) ?_
  rotate_left
  · intro w hSw; (try dsimp only at hSw); go_simp; try with_reducible rfl
  simp only [Act.put, List.setIfInBounds_toArray, List.set_cons_zero, List.set_cons_succ]
  refine wpAnyH_ready (rs := [11]) (by kernel_rfl) (by simp) ?_
  refine AllReadyH.cons (o := ⟨some 15, _, _, _, _, _⟩) rfl (fun Kq hKq => ?_) AllReadyH.nil
  go_simp
  go_at_call 53
  refine (isum _ _ _).mono ?_
  rintro e w' ⟨rfl, rfl⟩
  refine hKq.out _ _ (⟨H.out.cell 0, H.out.cell 1, D.out.cell 2, dd⟩) (fun hHeld => ?_)
  clear hKq Kq
  refine wpAnyH_take (i := 12) (oi := ⟨some 16, _, _, _, _, _⟩) (v := ?_) rfl (by kernel_rfl) (by kernel_rfl) (by kernel_rfl) (fun _ _ _ h => h) (Or.inl ⟨by rfl, ?_⟩) (by assumption) ?_
  rotate_left
  · intro w hSw; (try dsimp only at hSw); go_simp; try with_reducible rfl
  simp only [Act.put, List.setIfInBounds_toArray, List.set_cons_zero, List.set_cons_succ]
  refine wpAnyH_ready (rs := [13]) (by kernel_rfl) (by simp) ?_
  refine AllReadyH.cons (o := ⟨none, _, _, _, _, _⟩) rfl (fun Kq hKq => ?_) AllReadyH.nil
  rw [if_pos (by rfl)]
  refine wp_store_blk 30 (.tmp 3) (.tmp 16) _ _ _ 30 R.out rfl rfl rfl rfl (by kernel_rfl) (by simp [Value.oneCell']) rfl ?_
  intro W2 hg hT
  replace dd := (World.cell?_of_block (hg.block b2 hb2' (by intro e; have e := Option.some.inj e; omega))).trans dd
  replace R := Lib.hid hT
  clear hT
  replace G := Lib.hid (grown_new G.out (by omega) hg)
  replace H := Lib.hid (H.out.kept hg (by intro e; have e := Option.some.inj e; omega))
  replace D := Lib.hid (D.out.kept hg (by intro e; have e := Option.some.inj e; omega))
  clear hg
  refine hKq.out _ _ (⟨H.out.cell 0, H.out.cell 1, D.out.cell 2, dd⟩) (fun hHeld => ?_)
  clear hKq Kq
  refine wpAnyH_done (by kernel_rfl) ?_ _
  go_wp2
  (try simp only [Exit.inBlock, Exit.then])
  refine bodyPost_ret (ret_held1 rfl _ rfl R.out) rfl ?_
  exact ⟨rfl, G.out⟩
/-- The deals' boxes. -/
def BoxD (W : World) (lo : Nat) (D : Nat → DV) (B : Nat → Nat) (k : Nat) : Prop := ∀ j, j < k → lo ≤ B j ∧ Blk W (B j) #[.int .i64 (D j).f, .slice (D j).a1 (D j).n1 (D j).c1, .slice (D j).a2 (D j).n2 (D j).c2] 49
theorem BoxD.kept {W W' : World} {lo : Nat} {D : Nat → DV} {B : Nat → Nat} {k : Nat} (h : BoxD W lo D B k) (hg : W.grownBy W' none) : BoxD W' lo D B k := fun j hj => ⟨(h j hj).1, (h j hj).2.keptN hg⟩
theorem own_lower {w : World} {lo lo' k n : Nat} {T : TypeId} {v : Value} {xs : List Value} (h : w.ownsRow lo T k v n xs) (hl : lo' ≤ lo) : w.ownsRow lo' T k v n xs :=
  ⟨h.1, h.2.imp id fun ⟨g, cap, cur, a, b, c⟩ => ⟨g, cap, cur, a, by omega, c⟩⟩
theorem own_grown' {w0 wr w1 : World} {lo k n : Nat} {T : TypeId} {v : Value} {xs : List Value} {o : Obj} (hg : w0.grownBy wr none) (ho : wr.ownsRow lo T k v n xs) (hlo : w0.heap.size ≤ lo) (h : (wr.alloc o).grownBy w1 v.ownBlock) : w0.grownBy w1 none := by
  cases hv : v.ownBlock with
  | none => rw [hv] at h; exact gtr (gtr hg (Draw.grown_alloc _ _ _)) h
  | some g => rw [hv] at h; exact grown_new (gtr hg (Draw.grown_alloc _ _ _)) (Nat.le_trans hlo (ho.lt g hv).1) h
theorem stop_store {P : Program} {ops : Array Oper} {rest : List Oper} {op : Oper} {a : Act} {w : World} {Q : Exit → Act → World → Prop} {ty : TypeId} {x y : Operand} (ho : op.op = .store ty x y) (h : True ∧ wpList P ops Q (op :: rest) a w) : wpList P ops Q (op :: rest) a w := h.2
theorem stop_here {p : Prop} (h : True ∧ p) : p := h.2
def adB (need many : Int) (ng : Nat) (zg : Nat → Int) (nc : Nat) (zc : Nat → Int) (D : Nat → DV) (nd : Nat) : Bool := kyF need many ng zg nc zc && dsF D nd && alF need many ng zg nc zc D nd
/-- What all deals add. -/
def Adds (W : World) (lo : Nat) (D : Nat → DV) (k : Nat) (v : Value) : Prop := ∃ B, W.ownsRow lo 57 2 v k (clos B k) ∧ BoxD W lo D B k
theorem und_adds : Tryz.prog.underlying 52 = some (.slice 57) := by kernel_rfl
theorem info_add : (Tryz.prog.info? 57).map (fun i => (i.zero, i.size, i.bytes)) = some (some (.agg #[.nilFunc, .nilFunc]), 2, 16) := by kernel_rfl
theorem info_of {P : Program} {T : TypeId} {z : Value} {s b : Nat} (h : (P.info? T).map (fun i => (i.zero, i.size, i.bytes)) = some (some z, s, b)) : ∃ i, P.info? T = some i ∧ i.zero = some z ∧ i.size = s ∧ i.bytes = b := by
  obtain ⟨i, hi, hz⟩ := Option.map_eq_some_iff.1 h
  simp only [Prod.mk.injEq] at hz
  exact ⟨i, hi, hz.1, hz.2.1, hz.2.2⟩
set_option maxRecDepth 100000 in
set_option maxHeartbeats 4000000 in
theorem iadds (w : World) (need many : Int) (ag : Option Addr) (ng cg : Nat) (zg : Nat → Int) (ac : Option Addr) (nc cc : Nat) (zc : Nat → Int) (ad : Option Addr) (nd cd : Nat) (D : Nat → DV) (hG : Ints w ag ng zg) (hC : Ints w ac nc zc) (hD : DealsIn w ad nd D) (hl1 : ng ≤ 2000000) (hl2 : nc ≤ 2000000) (hl3 : nd ≤ 2000000) (hL : ∀ j, j < nd → (D j).n1 ≤ 2000000 ∧ (D j).n2 ≤ 2000000) (a0 : Addr) (hv : Sent w a0) :
    Calls Tryz.prog 21 #[.agg #[.int .i64 need, .int .i64 many, .slice ag ng cg, .slice ac nc cc], .slice ad nd cd] w fun e w' => (∃ v, e = .returned (.tuple #[v, .bool (adB need many ng zg nc zc D nd)]) ∧ ((adB need many ng zg nc zc D nd) = true → Adds w' w.heap.size D nd v)) ∧ w.grownBy w' none := by
  obtain ⟨i0, hi, hz0, hz1, hz2⟩ := info_of info_add
  have hg := Draw.grown_alloc w (.cells #[.int .i64 need, .int .i64 many, .slice ag ng cg, .slice ac nc cc] 33) none
  have G := Lib.hid hg
  have K := Lib.hid (Ky.new w need many (.slice ag ng cg) (.slice ac nc cc) 33)
  have HG := Lib.hid (hG.kept hg); have HC := Lib.hid (hC.kept hg); have HD := Lib.hid (hD.kept hg); have HL := Lib.hid hL; have HV := Lib.hid (hv.kept hg)
  clear hG hC hD hL hg hv
  go_enter Tryz.func21, Tryz.ntmps21
  obtain ⟨_, k0, k1, k2, k3⟩ := K.out
  go_wp2_with fail
  refine (ikeyok _ need many _ ng _ zg _ nc _ zc HG.out HC.out hl1 hl2).mono ?_
  rintro e w1 ⟨rfl, hg⟩
  clear k0 k1 k2 k3
  replace G := Lib.hid (gtr G.out hg)
  replace K := Lib.hid (K.out.kept hg)
  replace HG := Lib.hid (HG.out.kept hg)
  replace HC := Lib.hid (HC.out.kept hg)
  replace HD := Lib.hid (HD.out.kept hg)
  replace HV := Lib.hid (HV.out.kept hg)
  clear hg
  obtain ⟨_, k0, k1, k2, k3⟩ := K.out
  cases hk : kyF need many ng zg nc zc with
  | false =>
    have HN := Lib.hid (show adB need many ng zg nc zc D nd = false by simp [adB, hk])
    go_wp2
    go_ret2
    exact ⟨⟨.slice none 0 0, by rw [HN.out]; rfl, fun h => by rw [HN.out] at h; cases h⟩, G.out⟩
  | true =>
    go_wp2_with fail
    refine (iords _ _ nd _ D HD.out hl3).mono ?_
    rintro e w2 ⟨rfl, hg⟩
    clear k0 k1 k2 k3
    replace G := Lib.hid (gtr G.out hg)
    replace K := Lib.hid (K.out.kept hg)
    replace HG := Lib.hid (HG.out.kept hg)
    replace HC := Lib.hid (HC.out.kept hg)
    replace HD := Lib.hid (HD.out.kept hg)
    replace HV := Lib.hid (HV.out.kept hg)
    clear hg
    obtain ⟨_, k0, k1, k2, k3⟩ := K.out
    cases hds : dsF D nd with
    | false =>
      have HN := Lib.hid (show adB need many ng zg nc zc D nd = false by simp [adB, hds])
      go_wp2
      go_ret2
      exact ⟨⟨.slice none 0 0, by rw [HN.out]; rfl, fun h => by rw [HN.out] at h; cases h⟩, G.out⟩
    | true =>
      have hn5 := (ds_iff.1 hds).1
      have HKD := Lib.hid (show ∀ b, alF need many ng zg nc zc D nd = b → adB need many ng zg nc zc D nd = b by intro b h; simp [adB, hk, hds, h])
      clear hk hds
      have C := Lib.hid (Draw.grown_refl w2 none); have GW := Lib.hid G.out
      go_wp2
      go_loopw [6, 19] (fun v i W => ∃ (k : Nat) (B : Nat → Nat), k ≤ nd ∧ i = .int .i64 k ∧ alF need many ng zg nc zc D k = true ∧ W.ownsRow w2.heap.size 57 2 v k (clos B k) ∧ BoxD W w.heap.size D B k ∧ w2.grownBy W none) (fun _ i _ => nd - (intOf i).toNat)
      case atStart => exact ⟨0, fun _ => 0, by omega, rfl, rfl, World.ownsRow_nil _ _ _ _, fun j hj => by omega, Draw.grown_refl _ _⟩
      case round =>
        obtain ⟨k, B, hk, rfl, hz, hO, hB, hg⟩ := hrel
        have HZ := Lib.hid hz; have O := Lib.hid hO; have BX := Lib.hid hB; clear hz hO hB
        clear k0 k1 k2 k3
        replace G := Lib.hid (gtr G.out hg)
        replace K := Lib.hid (K.out.kept hg)
        replace HG := Lib.hid (HG.out.kept hg)
        replace HC := Lib.hid (HC.out.kept hg)
        replace HD := Lib.hid (HD.out.kept hg)
        replace HV := Lib.hid (HV.out.kept hg)
        replace C := Lib.hid (gtr C.out hg)
        clear hg
        obtain ⟨_, k0, k1, k2, k3⟩ := K.out
        by_cases hlt : k < nd
        · skip
          have hlt' : (k : Int) < (nd : Int) := by omega
          have hk0 : (0 : Int) ≤ (k : Int) := by omega
          rcases HD.out with h | ⟨b, off, rfl, hb, hcc⟩
          · omega
          obtain ⟨⟨d0, d1, d2⟩, hr⟩ := hcc k hlt
          clear hcc
          have HR := Lib.hid hr; clear hr
          have hg := Draw.grown_alloc wr (.cells #[.int .i64 (D k).f, .slice (D k).a1 (D k).n1 (D k).c1, .slice (D k).a2 (D k).n2 (D k).c2] 49) none
          have X := Lib.hid (Blk.new wr #[.int .i64 (D k).f, .slice (D k).a1 (D k).n1 (D k).c1, .slice (D k).a2 (D k).n2 (D k).c2] 49).dl
          replace O := Lib.hid (O.out.alloc (.cells #[.int .i64 (D k).f, .slice (D k).a1 (D k).n1 (D k).c1, .slice (D k).a2 (D k).n2 (D k).c2] 49))
          clear k0 k1 k2 k3
          replace G := Lib.hid (gtr G.out hg)
          replace K := Lib.hid (K.out.kept hg)
          replace HG := Lib.hid (HG.out.kept hg)
          replace HC := Lib.hid (HC.out.kept hg)
          replace HD := Lib.hid (HD.out.kept hg)
          replace HV := Lib.hid (HV.out.kept hg)
          replace C := Lib.hid (gtr C.out hg)
          replace HR := Lib.hid (HR.out.kept hg)
          replace BX := Lib.hid (BX.out.kept hg)
          clear hg
          obtain ⟨_, k0, k1, k2, k3⟩ := K.out
          have hwl := G.out.size
          have hX := X.out.lt
          have x0 : World.cell? _ ⟨wr.heap.size, 0, none⟩ = some (.int .i64 (D k).f) := X.out.c0
          have x1 : World.cell? _ ⟨wr.heap.size, 1, none⟩ = some (.slice (D k).a1 (D k).n1 (D k).c1) := X.out.c1
          have x2 : World.cell? _ ⟨wr.heap.size, 2, none⟩ = some (.slice (D k).a2 (D k).n2 (D k).c2) := X.out.c2
          go_wp2_with fail
          refine (ifok _ need many _ ng _ zg _ nc _ zc (D k).f _ (D k).n1 _ (D k).z1 _ (D k).n2 _ (D k).z2 HG.out HC.out HR.out.i1 HR.out.i2 hl1 hl2 (HL.out k hlt).1 (HL.out k hlt).2 a0 HV.out).mono ?_
          rintro e W2 ⟨rfl, hg⟩
          replace O := Lib.hid (O.out.kept hg (by cases u6.ownBlock <;> simp))
          clear x0 x1 x2 d0 d1 d2 hX
          clear k0 k1 k2 k3
          replace G := Lib.hid (gtr G.out hg)
          replace K := Lib.hid (K.out.kept hg)
          replace HG := Lib.hid (HG.out.kept hg)
          replace HC := Lib.hid (HC.out.kept hg)
          replace HD := Lib.hid (HD.out.kept hg)
          replace HV := Lib.hid (HV.out.kept hg)
          replace C := Lib.hid (gtr C.out hg)
          replace HR := Lib.hid (HR.out.kept hg)
          replace BX := Lib.hid (BX.out.kept hg)
          replace X := Lib.hid (X.out.kept hg)
          clear hg
          obtain ⟨_, k0, k1, k2, k3⟩ := K.out
          cases hfr : frF need many ng zg nc zc (D k).f (D k).n1 (D k).z1 (D k).n2 (D k).z2 with
          | false =>
            have HN := Lib.hid (HKD.out _ (al_no (need := need) (many := many) (ng := ng) (zg := zg) (nc := nc) (zc := zc) (D := D) hlt hfr))
            go_wp2
            go_ret2
            exact ⟨⟨.slice none 0 0, by rw [HN.out]; rfl, fun h => by rw [HN.out] at h; cases h⟩, G.out⟩
          | true =>
            have HZ1 := Lib.hid (al_next HZ.out hfr)
            clear hfr
            have x0 : World.cell? _ ⟨wr.heap.size, 0, none⟩ = some (.int .i64 (D k).f) := X.out.c0
            have x1 : World.cell? _ ⟨wr.heap.size, 1, none⟩ = some (.slice (D k).a1 (D k).n1 (D k).c1) := X.out.c1
            have x2 : World.cell? _ ⟨wr.heap.size, 2, none⟩ = some (.slice (D k).a2 (D k).n2 (D k).c2) := X.out.c2
            clear k0 k1 k2 k3
            go_wp2_with fail
            refine (iaddOf _ (D k).f _ (D k).n1 _ _ (D k).n2 _).mono ?_
            rintro e W3 ⟨bk, rfl, hbk, hble, hg⟩
            replace O := Lib.hid (O.out.kept hg (by cases u6.ownBlock <;> simp))
            have hble' : w.heap.size ≤ bk := by have := G.out.size; omega
            clear x0 x1 x2 hble
            replace G := Lib.hid (gtr G.out hg)
            replace K := Lib.hid (K.out.kept hg)
            replace HG := Lib.hid (HG.out.kept hg)
            replace HC := Lib.hid (HC.out.kept hg)
            replace HD := Lib.hid (HD.out.kept hg)
            replace HV := Lib.hid (HV.out.kept hg)
            replace C := Lib.hid (gtr C.out hg)
            replace HR := Lib.hid (HR.out.kept hg)
            replace BX := Lib.hid (BX.out.kept hg)
            replace X := Lib.hid (X.out.kept hg)
            clear hg
            have HBK := Lib.hid hbk; clear hbk
            go_wp2_with (at_builtin; refine wpList_append_own _ rfl _ _ 52 rfl w2.heap.size 57 i0 (.agg #[.nilFunc, .nilFunc]) 2 16 und_adds hi hz0 hz1 hz2 rfl (by decide) u6 k (clos B k) rfl (O.out.alloc _) ⟨W3.heap.size, 0, none⟩ 1 1 [clo1 bk, clo2 bk] rfl rfl (World.news_of_block (cs := #[clo1 bk, clo2 bk]) (t := 57) (fr := (0, 0)) (heap_alloc_new W3 _)) (by simp [Value.oneCell', clo1, clo2]) (by unfold maxLen; omega) (by omega) (by have := C.out.size; simp; omega) ?_; intro v' W4 hown hgrow _; have hg1 := Draw.grown_alloc W3 (.cells #[clo1 bk, clo2 bk] 57) none; have hne : ∀ (b : Nat) (vs : Array Value), Blk W3 b vs 49 → Blk W4 b vs 49 := (fun b vs h => (h.keptN hg1).kept hgrow (own_ne_blk (O.out.alloc _) (h.keptN hg1) (by decide))); have HNE := Lib.hid hne; have HOW := Lib.hid hown; have HGR := Lib.hid (own_grown' C.out O.out (Nat.le_refl _) hgrow); clear hown hgrow hg1 hne)
            have BX2 := Lib.hid (show BoxD W4 w.heap.size D (fun j => if j = k then bk else B j) (k + 1) from fun j hj => by
              by_cases e : j = k
              · subst e; simp only [if_true]; exact ⟨hble', HNE.out _ _ HBK.out⟩
              · simp only [if_neg e]; exact ⟨(BX.out j (by omega)).1, HNE.out _ _ (BX.out j (by omega)).2⟩)
            have O2 := Lib.hid (show W4.ownsRow w2.heap.size 57 2 v' (k + 1) (clos (fun j => if j = k then bk else B j) (k + 1)) by
              have e : clos (fun j => if j = k then bk else B j) (k + 1) = clos B k ++ [clo1 bk, clo2 bk] := by
                rw [clos, clos_congr (B' := B) fun j hj => if_neg (by omega)]; simp
              rw [e]; exact HOW.out)
            go_wp2
            go_roundw
            case rel => exact ⟨k + 1, _, by omega, by go_num, HZ1.out, O2.out, BX2.out, HGR.out⟩
            case measure => simp [intOf]; omega
        · obtain rfl : k = nd := by omega
          go_wp2
          go_ret2
          exact ⟨⟨u6, by rw [HKD.out _ HZ.out]; rfl, fun _ => ⟨B, own_lower O.out (by have := GW.out.size; omega), BX.out⟩⟩, G.out⟩
theorem fsB_of {need many : Int} {ng : Nat} {zg : Nat → Int} {nc : Nat} {zc : Nat → Int} {D : Nat → DV} {nd : Nat} {m s : Int} (hk : kfit need many ng zg nc zc m s = true) : fsB need many ng zg nc zc D nd m s = adB need many ng zg nc zc D nd := by
  have hkk : kyF need many ng zg nc zc = true := by
    cases hb : kyF need many ng zg nc zc with
    | false => rw [kfit_k hb] at hk; cases hk
    | true => rfl
  unfold fsB adB; rw [hk, hkk]; cases alF need many ng zg nc zc D nd <;> cases dsF D nd <;> rfl
theorem fsB_ad {need many : Int} {ng : Nat} {zg : Nat → Int} {nc : Nat} {zc : Nat → Int} {D : Nat → DV} {nd : Nat} {m s : Int} (h : adB need many ng zg nc zc D nd = false) : fsB need many ng zg nc zc D nd m s = false := by
  cases hk : kfit need many ng zg nc zc m s with
  | true => rw [fsB_of hk, h]
  | false => simp [fsB, hk]
set_option maxRecDepth 100000 in
set_option maxHeartbeats 4000000 in
theorem ifshare (w : World) (need many : Int) (ag : Option Addr) (ng cg : Nat) (zg : Nat → Int) (ac : Option Addr) (nc cc : Nat) (zc : Nat → Int) (ad : Option Addr) (nd cd : Nat) (D : Nat → DV) (m s : Int) (hG : Ints w ag ng zg) (hC : Ints w ac nc zc) (hD : DealsIn w ad nd D) (hl1 : ng ≤ 2000000) (hl2 : nc ≤ 2000000) (hl3 : nd ≤ 2000000) (hL : ∀ j, j < nd → (D j).n1 ≤ 2000000 ∧ (D j).n2 ≤ 2000000) (a0 : Addr) (hv : Sent w a0) :
    Calls Tryz.prog 10 #[.agg #[.int .i64 need, .int .i64 many, .slice ag ng cg, .slice ac nc cc], .slice ad nd cd, .agg #[.int .i64 m, .int .i64 s]] w fun e w' => e = .returned (fsV need many ng zg nc zc D nd m s) ∧ w.grownBy w' none := by
  have hs0 : w.heap.size + 3 ≤ (((w.alloc (.cells #[.int .i64 need, .int .i64 many, .slice ag ng cg, .slice ac nc cc] 33)).alloc (.cells #[.int .i64 m, .int .i64 s] 30)).alloc (.cells #[.int .i64 0, .int .i64 0] 30)).heap.size := by show _ ≤ (((w.heap.push _).push _).push _).size; simp
  have G := Lib.hid (gtr (gtr (Draw.grown_alloc w (.cells #[.int .i64 need, .int .i64 many, .slice ag ng cg, .slice ac nc cc] 33) none) (Draw.grown_alloc _ (.cells #[.int .i64 m, .int .i64 s] 30) none)) (Draw.grown_alloc _ (.cells #[.int .i64 0, .int .i64 0] 30) none))
  have K := Lib.hid (((Ky.new w need many (.slice ag ng cg) (.slice ac nc cc) 33).kept (Draw.grown_alloc _ (.cells #[.int .i64 m, .int .i64 s] 30) none)).kept (Draw.grown_alloc _ (.cells #[.int .i64 0, .int .i64 0] 30) none))
  have H := Lib.hid ((blk_new2 w (.cells #[.int .i64 need, .int .i64 many, .slice ag ng cg, .slice ac nc cc] 33) #[.int .i64 m, .int .i64 s] 30).keptN (Draw.grown_alloc _ (.cells #[.int .i64 0, .int .i64 0] 30) none))
  have R := Lib.hid (blk_new3 w (.cells #[.int .i64 need, .int .i64 many, .slice ag ng cg, .slice ac nc cc] 33) (.cells #[.int .i64 m, .int .i64 s] 30) #[.int .i64 0, .int .i64 0] 30)
  have HG := Lib.hid (hG.kept G.out); have HC := Lib.hid (hC.kept G.out); have HD := Lib.hid (hD.kept G.out); have HL := Lib.hid hL; have HD0 := Lib.hid hD; have HV := Lib.hid (hv.kept G.out)
  clear hG hC hD hL hv
  go_enter Tryz.func10, Tryz.ntmps10
  obtain ⟨_, k0, k1, k2, k3⟩ := K.out
  go_wp2_with fail
  refine (iadds _ need many _ ng _ zg _ nc _ zc _ nd _ D HG.out HC.out HD.out hl1 hl2 hl3 HL.out a0 HV.out).mono ?_
  rintro e w1 ⟨⟨v, rfl, hadd⟩, hg⟩
  have HADD := Lib.hid hadd; clear hadd
  clear k0 k1 k2 k3
  replace G := Lib.hid (gtr G.out hg)
  replace K := Lib.hid (K.out.kept hg)
  replace H := Lib.hid (H.out.keptN hg)
  replace R := Lib.hid (R.out.keptN hg)
  replace HG := Lib.hid (HG.out.kept hg)
  replace HC := Lib.hid (HC.out.kept hg)
  replace HD := Lib.hid (HD.out.kept hg)
  clear hg
  obtain ⟨_, k0, k1, k2, k3⟩ := K.out
  cases had : adB need many ng zg nc zc D nd with
  | false =>
    have HN := Lib.hid (fsB_ad (m := m) (s := s) had)
    clear k0 k1 k2 k3
    go_wp2_with (first
      | (refine wpList_store_blk rfl 30 (.tmp 6) (.tmp 29) _ _ _ 30 R.out rfl rfl rfl rfl (by kernel_rfl) (by simp [Value.oneCell']) rfl ?_; intro V hgV hRV; have HGV := Lib.hid hgV; have HRV := Lib.hid hRV; clear hgV hRV))
    (try simp only [Exit.inBlock, Exit.then])
    refine bodyPost_ret (ret_hb rfl _ rfl HRV.out) rfl ?_
    exact ⟨by rw [fsV_no HN.out]; rfl, grown_new G.out (by omega) HGV.out⟩
  | true =>
    have h0 : World.cell? _ ⟨w.heap.size + 1, 0, none⟩ = some (.int .i64 m) := H.out.cell 0
    have h1 : World.cell? _ ⟨w.heap.size + 1, 1, none⟩ = some (.int .i64 s) := H.out.cell 1
    go_wp2_with fail
    refine (ikeyfits _ need many _ ng _ zg _ nc _ zc m s HG.out HC.out hl1 hl2).mono ?_
    rintro e w2 ⟨rfl, hg⟩
    clear h0 h1
    obtain ⟨B, hO, hBX⟩ := HADD.out had
    have O := Lib.hid (hO.kept hg (by cases v.ownBlock <;> simp)); have BX := Lib.hid hBX
    clear hO hBX HADD
    clear k0 k1 k2 k3
    replace G := Lib.hid (gtr G.out hg)
    replace K := Lib.hid (K.out.kept hg)
    replace H := Lib.hid (H.out.keptN hg)
    replace R := Lib.hid (R.out.keptN hg)
    replace HG := Lib.hid (HG.out.kept hg)
    replace HC := Lib.hid (HC.out.kept hg)
    replace HD := Lib.hid (HD.out.kept hg)
    replace BX := Lib.hid (BX.out.kept hg)
    clear hg
    obtain ⟨_, k0, k1, k2, k3⟩ := K.out
    cases hkf : kfit need many ng zg nc zc m s with
    | false =>
      have HN := Lib.hid (show fsB need many ng zg nc zc D nd m s = false by simp [fsB, hkf])
      clear k0 k1 k2 k3
      go_wp2_with (first
        | (refine wpList_store_blk rfl 30 (.tmp 6) (.tmp 29) _ _ _ 30 R.out rfl rfl rfl rfl (by kernel_rfl) (by simp [Value.oneCell']) rfl ?_; intro V hgV hRV; have HGV := Lib.hid hgV; have HRV := Lib.hid hRV; clear hgV hRV))
      (try simp only [Exit.inBlock, Exit.then])
      refine bodyPost_ret (ret_hb rfl _ rfl HRV.out) rfl ?_
      exact ⟨by rw [fsV_no HN.out]; rfl, grown_new G.out (by omega) HGV.out⟩
    | true =>
      have HY := Lib.hid (show fsB need many ng zg nc zc D nd m s = true by rw [fsB_of hkf, had])
      have hall : alF need many ng zg nc zc D nd = true := by have h := had; simp only [adB, Bool.and_eq_true] at h; exact h.2
      have HAl := Lib.hid (fun (j : Nat) (hj : j < nd) => al_at hall hj)
      have hmm : 1 ≤ m ∧ m ≤ many := by
        cases hb : mbF many m with
        | false => rw [kfit_m hb] at hkf; cases hkf
        | true => exact mb_iff.1 hb
      obtain ⟨mn, hmn⟩ : ∃ mn : Nat, m - 1 = mn := ⟨(m - 1).toNat, by omega⟩
      have hkk : kyF need many ng zg nc zc = true := by
        cases hb : kyF need many ng zg nc zc with
        | false => rw [kfit_k hb] at hkf; cases hkf
        | true => rfl
      have hm5 := (ky_iff.1 hkk).1.2.2
      have hwk : (m - 1).toNat = mn := by omega
      clear hkf hall hkk had
      clear k0 k1 k2 k3
      have HO := Lib.hid O.out
      obtain ⟨hxl, ⟨rfl, hz⟩ | ⟨g, capv, cur, rfl, hge, hgb, hcap, hcm, hcs, htk⟩⟩ := HO.out
      · obtain rfl : nd = 0 := by omega
        clear HO
        go_wp2
        go_loopw [32] (fun i wr => i = .int .i64 0 ∧ wr = w2) (fun i _ => 0)
        case atStart => exact ⟨rfl, rfl⟩
        case round =>
          obtain ⟨rfl, rfl⟩ := hrel
          have hlR := R.out.lt; have hlH := H.out.lt
          have q0 : wr.cell? ⟨w.heap.size + 1, 0, none⟩ = some (.int .i64 m) := H.out.cell 0
          have q1 : wr.cell? ⟨w.heap.size + 1, 1, none⟩ = some (.int .i64 s) := H.out.cell 1
          go_wp2_with (first
            | (refine wpList_store_blk rfl 30 (.tmp 6) (.tmp 41) _ _ _ 30 R.out rfl rfl rfl rfl (by kernel_rfl) (by simp [Value.oneCell']) rfl ?_; intro V hgV hRV; have HGV := Lib.hid hgV; have HRV := Lib.hid hRV; clear hgV hRV))
          (try simp only [Exit.inBlock, Exit.then])
          refine bodyPost_ret (ret_hb rfl _ rfl HRV.out) rfl ?_
          exact ⟨by rw [fsV_yes HY.out]; rfl, grown_new G.out (by omega) HGV.out⟩
      · clear HO
        have hg0 : w.heap.size + 3 ≤ g := by omega
        clear hge hgb hcap hcs htk hxl
        go_wp2
        go_loopw [32] (fun i wr => ∃ k : Nat, k ≤ nd ∧ i = .int .i64 k ∧ Blk wr (w.heap.size + 1) #[.int .i64 m, .int .i64 (smF D m s k)] 30 ∧ Blk wr (w.heap.size + 1 + 1) #[.int .i64 0, .int .i64 0] 30 ∧ wr.ownsRow (w.heap.size + 3) 57 2 (.slice (some ⟨g, 0, none⟩) nd capv) nd (clos B nd) ∧ BoxD wr (w.heap.size + 3) D B nd ∧ w.grownBy wr none) (fun i _ => nd - (intOf i).toNat)
        case atStart => exact ⟨0, by omega, rfl, H.out, R.out, own_lower O.out hs0, (fun j hj => ⟨Nat.le_trans hs0 (BX.out j hj).1, (BX.out j hj).2⟩), G.out⟩
        case round =>
          clear G K H R HG HC HD O BX
          obtain ⟨k, hk, rfl, hH, hR, hO, hB, hG⟩ := hrel
          have G := Lib.hid hG; have H := Lib.hid hH; have R := Lib.hid hR; have O := Lib.hid hO; have BX := Lib.hid hB
          clear hG hH hR hO hB
          by_cases hlt : k < nd
          · skip
            rcases HD0.out with h | ⟨b, off, hbo, hb, hcc⟩
            · omega
            obtain ⟨_, hr⟩ := hcc k hlt
            clear hcc hbo
            have hfr := fr_iff.1 (HAl.out k hlt)
            have hdl := dl_iff.1 hfr.2.1
            have hn2 : mn < (D k).n2 := by omega
            have hlt' : (k : Int) < (nd : Int) := by omega
            have hk0 : (0 : Int) ≤ (k : Int) := by omega
            have HR := Lib.hid (hr.kept G.out)
            clear hfr hdl hr
            have c0 : wr.cell? ⟨g, k * 2, none⟩ = some (.func (.func 50) #[] #[.pointer (some ⟨B k, 0, none⟩)]) := by
              have h := O.out.cells (g := g) rfl _ _ (clos_get B hlt).1; rw [Addr.add_mid, Nat.zero_add] at h; exact h
            have c1 : wr.cell? ⟨g, k * 2 + 1, none⟩ = some (.func (.func 52) #[] #[.pointer (some ⟨B k, 0, none⟩)]) := by
              have h := O.out.cells (g := g) rfl _ _ (clos_get B hlt).2; rw [Addr.add_mid, Nat.zero_add] at h; exact h
            go_wp2_with (refine stop_store rfl ?_)
            refine ⟨trivial, ?_⟩
            refine wpList_store_blk rfl 57 (.tmp 11) (.tmp 35) _ _ _ 57 (Blk.new wr #[.nilFunc, .nilFunc] 57) rfl rfl rfl rfl (by kernel_rfl) (by simp [Value.oneCell']) rfl ?_; intro Wa hgs hT
            have hg : wr.grownBy Wa none := grown_new (Draw.grown_alloc wr (.cells #[.nilFunc, .nilFunc] 57) none) (Nat.le_refl _) hgs
            replace O := Lib.hid (O.out.kept hg (by right; intro e; cases e))
            have x1 : Wa.cell? ⟨wr.heap.size, 1, none⟩ = some (.func (.func 52) #[] #[.pointer (some ⟨B k, 0, none⟩)]) := hT.cell 1
            clear hgs hT
            replace G := Lib.hid (gtr G.out hg)
            replace H := Lib.hid (H.out.keptN hg)
            replace R := Lib.hid (R.out.keptN hg)
            replace BX := Lib.hid (BX.out.kept hg)
            replace HR := Lib.hid (HR.out.kept hg)
            clear hg
            have q0 : Wa.cell? ⟨w.heap.size + 1, 0, none⟩ = some (.int .i64 m) := H.out.cell 0
            have q1 : Wa.cell? ⟨w.heap.size + 1, 1, none⟩ = some (.int .i64 (smF D m s k)) := H.out.cell 1
            have hlH := H.out.lt; have hlR := R.out.lt
            go_wp2_with fail
            refine (iaddS _ m (smF D m s k) (D k).f (B k) _ (D k).n1 (D k).c1 _ (D k).n2 (D k).c2 (D k).z2 mn (BX.out k hlt).2 HR.out.i2 hmn hn2 (by omega)).mono ?_
            rintro e W2 ⟨rfl, hg⟩
            replace O := Lib.hid (O.out.kept hg (by right; intro e; cases e))
            clear c0 c1 x1 q0 q1 hlH hlR
            replace G := Lib.hid (gtr G.out hg)
            replace H := Lib.hid (H.out.keptN hg)
            replace R := Lib.hid (R.out.keptN hg)
            replace BX := Lib.hid (BX.out.kept hg)
            replace HR := Lib.hid (HR.out.kept hg)
            clear hg
            have hsm : smF D m s (k + 1) = sumF (smF D m s k) ((D k).z2 mn) := by rw [← hwk]; rfl
            rw [← hsm]
            clear hsm
            go_wp2_with (refine stop_store rfl ?_)
            refine ⟨trivial, ?_⟩
            refine wpList_store_blk rfl 30 (.tmp 5) (.tmp 39) _ _ _ 30 H.out rfl rfl rfl rfl (by kernel_rfl) (by simp [Value.oneCell']) rfl ?_
            intro W3 hg hT
            replace H := Lib.hid hT
            replace O := Lib.hid (O.out.kept hg (by right; intro e; have e : g = w.heap.size + 1 := Option.some.inj e; omega))
            replace BX := Lib.hid (show BoxD W3 (w.heap.size + 3) D B nd from fun j hj => ⟨(BX.out j hj).1, (BX.out j hj).2.kept hg (by have := (BX.out j hj).1; intro e; have e := Option.some.inj e; omega)⟩)
            clear hT
            replace G := Lib.hid (grown_new G.out (by omega) hg)
            replace R := Lib.hid (R.out.kept hg (by intro e; have e := Option.some.inj e; omega))
            clear hg
            go_wp2
            go_roundw
            case rel => exact ⟨k + 1, by omega, by go_num, H.out, R.out, O.out, BX.out, G.out⟩
            case measure => simp [intOf]; omega
          · obtain rfl : k = nd := by omega
            have hlR := R.out.lt; have hlH := H.out.lt
            have q0 : wr.cell? ⟨w.heap.size + 1, 0, none⟩ = some (.int .i64 m) := H.out.cell 0
            have q1 : wr.cell? ⟨w.heap.size + 1, 1, none⟩ = some (.int .i64 (smF D m s k)) := H.out.cell 1
            have hlt' : ¬ (k : Int) < (k : Int) := by omega
            go_wp2_with (first
              | (refine wpList_store_blk rfl 30 (.tmp 6) (.tmp 41) _ _ _ 30 R.out rfl rfl rfl rfl (by kernel_rfl) (by simp [Value.oneCell']) rfl ?_; intro V hgV hRV; have HGV := Lib.hid hgV; have HRV := Lib.hid hRV; clear hgV hRV))
            (try simp only [Exit.inBlock, Exit.then])
            refine bodyPost_ret (ret_hb rfl _ rfl HRV.out) rfl ?_
            exact ⟨by rw [fsV_yes HY.out]; rfl, grown_new G.out (by omega) HGV.out⟩
theorem alF_re (need many : Int) (ng : Nat) (zg : Nat → Int) (nc : Nat) (zc : Nat → Int) (D : Nat → DV) (B1 B2 : Nat → Nat) : ∀ n, alF need many ng zg nc zc (re D B1 B2) n = alF need many ng zg nc zc D n
  | 0 => rfl
  | n + 1 => by simp only [alF, alF_re need many ng zg nc zc D B1 B2 n]; rfl
theorem smF_re (D : Nat → DV) (B1 B2 : Nat → Nat) (m s : Int) : ∀ n, smF (re D B1 B2) m s n = smF D m s n
  | 0 => rfl
  | n + 1 => by simp only [smF, smF_re D B1 B2 m s n]; rfl
theorem fsV_re (need many : Int) (ng : Nat) (zg : Nat → Int) (nc : Nat) (zc : Nat → Int) (D : Nat → DV) (B1 B2 : Nat → Nat) (nd : Nat) (m s : Int) : fsV need many ng zg nc zc (re D B1 B2) nd m s = fsV need many ng zg nc zc D nd m s := by
  unfold fsV fsM fsS fsB; rw [alF_re, smF_re, ds_re]
end Con
end Go.Proofs.YtlaimokedhdnjaaGreatDoor
