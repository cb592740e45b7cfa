/-
  Sessions: the program's SessionNew.
-/
import Derived.Test.YteibklnonlapoaaUb
import Derived.Test.YteibklnonlapoaaUs
namespace Go.Proofs.Yteibklnonlapoaa
namespace Con
open Go.RowKit Alg Mem Draw Hd
set_option linter.unusedVariables false

/-- Of what type a block is. -/
def Tyd (w : World) (b : Nat) (T : TypeId) : Prop := ∃ cur, w.heap[b]? = some (.cells cur T (0, 0))
theorem tyd_ne {w : World} {b b' : Nat} {T U : TypeId} (h : Tyd w b T) (h' : Tyd w b' U) (hne : T ≠ U) : b ≠ b' := by
  obtain ⟨c, hc⟩ := h; obtain ⟨c', hc'⟩ := h'
  rintro rfl
  rw [hc] at hc'
  injection hc' with hc'
  injection hc' with _ k2 _
  exact hne k2
theorem Row4.tyd {w : World} {lo : Nat} {T : TypeId} {b n : Nat} {g : Nat → Nat → Value} (h : Row4 w lo T b n g) : Tyd w b T := by
  obtain ⟨cur, hb, _⟩ := h.row; exact ⟨cur, hb⟩
theorem blk_tyd {w : World} {b : Nat} {vs : Array Value} {T : TypeId} (h : Blk w b vs T) : Tyd w b T := ⟨vs, h⟩
theorem OE.keptT {w w' : World} {lo : Nat} {a : Option Addr} {n c b : Nat} {z : Nat → Int} {U : TypeId} (h : OE w lo a n c z) (hb : Tyd w b U) (hne : 3 ≠ U) (hg : w.grownBy w' (some b)) : OE w' lo a n c z := by
  obtain ⟨cur, hb⟩ := hb
  exact World.ownsRow.kept h hg (.inr fun e => own_ne_b h (vs := cur) hb hne e.symm)
/-- Such a slice in the words of the laws on append. -/
theorem Row4.own {w : World} {lo b n : Nat} {S : Nat → SV} (h : Row4 w lo 52 b n (shT S)) (hn : n ≤ maxLen) : OwnSh w lo (.slice (some ⟨b, 0, none⟩) n n) n S := by
  obtain ⟨hlo, cur, hb, hs, hg⟩ := h
  refine ⟨cellsS_len S n, .inr ⟨b, n, cur, rfl, hlo, hb, Nat.le_refl _, hn, hs, ?_⟩⟩
  apply List.ext_getElem?
  intro j
  rw [List.getElem?_take]
  by_cases hj : j < n * 4
  · rw [if_pos hj, Array.getElem?_toList, hg j hj]
    obtain ⟨q, i, hi, rfl⟩ : ∃ q i, i < 4 ∧ j = q * 4 + i := ⟨j / 4, j % 4, by omega, by omega⟩
    rw [cellsS_at S (show q < n by omega) hi]
    show some (shT S ((q * 4 + i) / 4) ((q * 4 + i) % 4)) = _
    rw [show (q * 4 + i) / 4 = q by omega, show (q * 4 + i) % 4 = i by omega]
    rcases (by omega : i = 0 ∨ i = 1 ∨ i = 2 ∨ i = 3) with rfl | rfl | rfl | rfl <;> rfl
  · rw [if_neg hj, List.getElem?_eq_none (by rw [cellsS_len]; omega)]
theorem wp_make4 {op : Oper} {a : Act} {w : World} {K : Act → World → Prop} {Q : Exit → Act → World → Prop} (l : Operand) (ho : op.op = .makeSlice 46 l l) (n : Nat) (hl : a.eval l = .int .i64 (n : Int)) (hn : n ≤ 2000000)
    (h : ∀ w', w.grownBy w' none → Row4 w' w.heap.size 52 w.heap.size n (fun _ => zeT) → K (a.put op.dst (.slice (some ⟨w.heap.size, 0, none⟩) n n)) w') : op.wp Try.prog a w K Q := by
  have hmk := run_make4 (P := Try.prog) 46 52 (.int .i64 0) (.int .i64 0) (.bool false) (.int .i64 0) 32 und_shns info_shn .i64 .i64 n (by omega) (by omega) w
  unfold Oper.wp
  simp [execOp, ho, hl, hmk, Result.andThen]
  exact h _ (Draw.grown_alloc _ _ _) (Row4.made w _ n)
theorem wp_store_row4 {op : Oper} {a : Act} {w : World} {K : Act → World → Prop} {Q : Exit → Act → World → Prop} (x y : Operand) (lo b n k : Nat) (g : Nat → Nat → Value) (v0 v1 v2 v3 : Value) (hR : Row4 w lo 52 b n g) (hk : k < n) (ho : op.op = .store 52 x y)
    (hx : a.eval x = .pointer (some ⟨b, k * 4, none⟩)) (hy : a.eval y = .agg #[v0, v1, v2, v3]) (h1 : (#[v0, v1, v2, v3] : Array Value).all (·.oneCell') = true)
    (h : ∀ w', w.grownBy w' (some b) → Row4 w' lo 52 b n (fun i => if i = k then (fun j => (#[v0, v1, v2, v3] : Array Value).getD j undef) else g i) → K (a.put op.dst undef) w') : op.wp Try.prog a w K Q := by
  refine wp_store_mid 52 x y ho b (k * 4) #[v0, v1, v2, v3] hx hy ?_ size_shn h1 (h _ ?_ ?_)
  · intro j hj
    have hj' : j < 4 := hj
    exact ⟨by rw [hR.c hk hj']; simp, hR.free _⟩
  · exact set4_grown w b k (fun j => (#[v0, v1, v2, v3] : Array Value).getD j undef)
  · exact hR.set k (fun j => (#[v0, v1, v2, v3] : Array Value).getD j undef)
/-- A session of the call's own, by the program, and whether there is one. -/
def SesQ (w : World) (need many : Int) (ng : Nat) (zg : Nat → Int) (nc : Nat) (zc : Nat → Int) (msg : Int) (n : Nat) (S : Nat → SV) (ok : Bool) (e : Ending) (w' : World) : Prop :=
  ∃ a1 c1 a2 c2 a3 c3, e = .returned (.tuple #[.agg #[.int .i64 need, .int .i64 many, .slice a1 ng c1, .slice a2 nc c2, .int .i64 msg, .slice a3 n c3], .bool ok]) ∧ OE w' w.heap.size a1 ng c1 zg ∧ OE w' w.heap.size a2 nc c2 zc ∧ OwnSh w' w.heap.size (.slice a3 n c3) n S ∧ Apt a1 a2 ∧ w.grownBy w' none
/-- What SessionNew answers. -/
def SesNQ (w : World) (need many : Int) (ng : Nat) (zg : Nat → Int) (nc : Nat) (zc : Nat → Int) (msg : Int) (nm ns : Nat) (zm zs : Nat → Int) (e : Ending) (w' : World) : Prop :=
  if nm = ns ∧ tsF need many ng zg nc zc msg nm (nwS zm zs) = true then SesQ w need many ng zg nc zc msg nm (nwS zm zs) true e w' else SesZ w e w'
theorem sesNQ_yes {w : World} {need many : Int} {ng : Nat} {zg : Nat → Int} {nc : Nat} {zc : Nat → Int} {msg : Int} {nm ns : Nat} {zm zs : Nat → Int} {e : Ending} {w' : World} (h1 : nm = ns) (h2 : tsF need many ng zg nc zc msg nm (nwS zm zs) = true) (h : SesQ w need many ng zg nc zc msg nm (nwS zm zs) true e w') : SesNQ w need many ng zg nc zc msg nm ns zm zs e w' := by unfold SesNQ; rw [if_pos ⟨h1, h2⟩]; exact h
theorem sesNQ_no {w : World} {need many : Int} {ng : Nat} {zg : Nat → Int} {nc : Nat} {zc : Nat → Int} {msg : Int} {nm ns : Nat} {zm zs : Nat → Int} {e : Ending} {w' : World} (h1 : ¬ (nm = ns ∧ tsF need many ng zg nc zc msg nm (nwS zm zs) = true)) (h : SesZ w e w') : SesNQ w need many ng zg nc zc msg nm ns zm zs e w' := by unfold SesNQ; rw [if_neg h1]; exact h
set_option maxRecDepth 100000 in
set_option maxHeartbeats 4000000 in
theorem i32new (w : World) (need many : Int) (ag : Option Addr) (ng cg : Nat) (zg : Nat → Int) (ac : Option Addr) (nc cc : Nat) (zc : Nat → Int) (msg : Int) (am : Option Addr) (nm cm : Nat) (zm : Nat → Int) (ae : Option Addr) (ns cs : Nat) (zs : Nat → Int) (hG : Ints w ag ng zg) (hC : Ints w ac nc zc) (hsg : Sl ag ng cg) (hsc : Sl ac nc cc) (hM : Ints w am nm zm) (hN : Ints w ae ns zs) (hl1 : ng ≤ 2000000) (hl2 : nc ≤ 2000000) (hl3 : nm ≤ 2000000) :
    Calls Try.prog 48 #[.agg #[.int .i64 need, .int .i64 many, .slice ag ng cg, .slice ac nc cc], .int .i64 msg, .slice am nm cm, .slice ae ns cs] w (SesNQ w need many ng zg nc zc msg nm ns zm zs) := by
  have G := Lib.hid (gtr (Draw.grown_alloc w (.cells #[.int .i64 need, .int .i64 many, .slice ag ng cg, .slice ac nc cc] 45) none) (Draw.grown_alloc _ (.cells #[.int .i64 0, .int .i64 0, .slice none 0 0, .slice none 0 0, .int .i64 0, .slice none 0 0] 48) none))
  have K := Lib.hid ((Ky.new w need many (.slice ag ng cg) (.slice ac nc cc) 45).kept (Draw.grown_alloc _ (.cells #[.int .i64 0, .int .i64 0, .slice none 0 0, .slice none 0 0, .int .i64 0, .slice none 0 0] 48) none))
  have R := Lib.hid (blk_new2 w (.cells #[.int .i64 need, .int .i64 many, .slice ag ng cg, .slice ac nc cc] 45) #[.int .i64 0, .int .i64 0, .slice none 0 0, .slice none 0 0, .int .i64 0, .slice none 0 0] 48)
  have HG := Lib.hid (hG.kept G.out); have HC := Lib.hid (hC.kept G.out)
  have HM0 := Lib.hid hM; have HN0 := Lib.hid hN
  clear hG hC hM hN
  by_cases hmn : nm = ns
  case neg =>
    have HQ := Lib.hid (show ¬ (nm = ns ∧ tsF need many ng zg nc zc msg nm (nwS zm zs) = true) from fun h => hmn h.1)
    have hb : ((nm : Int) != (ns : Int)) = true := by simp; omega
    clear hmn
    go_enter Try.func48, Try.ntmps48
    go_wp2_with (first
      | (refine wpList_store_blk rfl 48 (.tmp 8) (.tmp 18) _ _ _ 48 R.out rfl rfl rfl rfl (by kernel_rfl) (by simp [Value.oneCell']) rfl ?_; intro V hgV hRV; have HGV := Lib.hid hgV; have HRV := Lib.hid hRV; clear hgV hRV))
    (try simp only [Exit.inBlock, Exit.then])
    refine bodyPost_ret (ret_ses2 rfl _ rfl HRV.out) rfl ?_
    exact sesNQ_no HQ.out ⟨rfl, grown_new G.out (by omega) HGV.out⟩
  subst hmn
  have hb : ((nm : Int) != (nm : Int)) = false := by simp
  go_enter Try.func48, Try.ntmps48
  go_wp2_with fail
  refine' (fun (hk : Later _) => ?main) (Later.mk ?rest)
  case main =>
    refine wp_region_held_drew (S := (fun w' => w'.cell? ⟨w.heap.size, 0, none⟩ = some (.int .i64 need) ∧ w'.cell? ⟨w.heap.size, 1, none⟩ = some (.int .i64 many) ∧ w'.cell? ⟨w.heap.size, 2, none⟩ = some (.slice ag ng cg) ∧ w'.cell? ⟨w.heap.size, 3, none⟩ = some (.slice ac nc cc))) (by kernel_rfl) (⟨K.out.c0, K.out.c1, K.out.c2, K.out.c3⟩) (fun hHeld => ?_)
    have hg := Draw.gdrew ((w.alloc (.cells #[.int .i64 need, .int .i64 many, .slice ag ng cg, .slice ac nc cc] 45)).alloc (.cells #[.int .i64 0, .int .i64 0, .slice none 0 0, .slice none 0 0, .int .i64 0, .slice none 0 0] 48))
    replace G := Lib.hid (gtr G.out hg)
    replace K := Lib.hid (K.out.kept hg)
    replace R := Lib.hid (R.out.keptN hg)
    replace HG := Lib.hid (HG.out.kept hg)
    replace HC := Lib.hid (HC.out.kept hg)
    clear hg
    generalize (((w.alloc (.cells #[.int .i64 need, .int .i64 many, .slice ag ng cg, .slice ac nc cc] 45)).alloc (.cells #[.int .i64 0, .int .i64 0, .slice none 0 0, .slice none 0 0, .int .i64 0, .slice none 0 0] 48))).drew = W at *
    refine wpAnyH_take (i := 0) (oi := ⟨some 19, _, _, _, _, _⟩) (v := ?_) rfl (by kernel_rfl) (by kernel_rfl) (by kernel_rfl) (fun _ _ _ h => h) (Or.inl ⟨by rfl, ?_⟩) (by assumption) ?_
    rotate_left
    · intro w hSw; (try dsimp only at hSw); go_simp; try with_reducible rfl
    simp only [Act.put, List.setIfInBounds_toArray, List.set_cons_zero, List.set_cons_succ]
    refine wpAnyH_take (i := 2) (oi := ⟨some 21, _, _, _, _, _⟩) (v := ?_) rfl (by kernel_rfl) (by kernel_rfl) (by kernel_rfl) (fun _ _ _ h => h) (Or.inl ⟨by rfl, ?_⟩) (by assumption) ?_
    rotate_left
    · intro w hSw; (try dsimp only at hSw); go_simp; try with_reducible rfl
    simp only [Act.put, List.setIfInBounds_toArray, List.set_cons_zero, List.set_cons_succ]
    refine wpAnyH_take (i := 3) (oi := ⟨some 22, _, _, _, _, _⟩) (v := ?_) rfl (by kernel_rfl) (by kernel_rfl) (by kernel_rfl) (fun _ _ _ h => h) (Or.inl ⟨by rfl, ?_⟩) (by assumption) ?_
    rotate_left
    · intro w hSw; (try dsimp only at hSw); go_simp; try with_reducible rfl
    simp only [Act.put, List.setIfInBounds_toArray, List.set_cons_zero, List.set_cons_succ]
    refine wpAnyH_take (i := 4) (oi := ⟨some 23, _, _, _, _, _⟩) (v := ?_) rfl (by kernel_rfl) (by kernel_rfl) (by kernel_rfl) (fun _ _ _ h => h) (Or.inl ⟨by rfl, ?_⟩) (by assumption) ?_
    rotate_left
    · intro w hSw; (try dsimp only at hSw); go_simp; try with_reducible rfl
    simp only [Act.put, List.setIfInBounds_toArray, List.set_cons_zero, List.set_cons_succ]
    refine wpAnyH_ready (rs := [1, 5, 7]) (by kernel_rfl) (by simp) ?_
    refine AllReadyH.cons (o := ⟨some 20, _, _, _, _, _⟩) rfl (fun Kq hKq => ?_) (AllReadyH.cons (o := ⟨some 24, _, _, _, _, _⟩) rfl (fun Kq hKq => ?_) (AllReadyH.cons (o := ⟨some 10, _, _, _, _, _⟩) rfl (fun Kq hKq => ?_) AllReadyH.nil))
    · go_simp
      go_at_call 83
      refine (icopykey _ need many _ ng _ zg _ nc _ zc HG.out HC.out hsg hsc hl1 hl2).mono ?_
      rintro e W2 ⟨a1, c1, a2, c2, rfl, hv1, hv2, hap, hg⟩
      have hR := R.out.lt
      have I1 := Lib.hid (hv1.lower (lo' := w.heap.size + 2) hR); have I2 := Lib.hid (hv2.lower (lo' := w.heap.size + 2) hR)
      have AT := Lib.hid hap
      clear hv1 hv2 hR hap
      replace G := Lib.hid (gtr G.out hg)
      replace K := Lib.hid (K.out.kept hg)
      replace R := Lib.hid (R.out.keptN hg)
      replace HG := Lib.hid (HG.out.kept hg)
      replace HC := Lib.hid (HC.out.kept hg)
      clear hg
      refine hKq.out _ _ (⟨K.out.c0, K.out.c1, K.out.c2, K.out.c3⟩) (fun hHeld => ?_)
      clear hKq Kq
      refine wpAnyH_ready (rs := [5, 7]) (by kernel_rfl) (by simp) ?_
      refine AllReadyH.cons (o := ⟨some 24, _, _, _, _, _⟩) rfl (fun Kq hKq => ?_) (AllReadyH.cons (o := ⟨some 10, _, _, _, _, _⟩) rfl (fun Kq hKq => ?_) AllReadyH.nil)
      · rw [if_pos (by rfl)]
        refine wp_make4 (.tmp 23) rfl nm rfl hl3 ?_
        intro W5 hg hT
        have hR := R.out.lt
        have T := Lib.hid (hT.lower (lo' := w.heap.size + 2) hR)
        clear hT hR
        replace G := Lib.hid (gtr G.out hg)
        replace K := Lib.hid (K.out.kept hg)
        replace R := Lib.hid (R.out.keptN hg)
        replace HG := Lib.hid (HG.out.kept hg)
        replace HC := Lib.hid (HC.out.kept hg)
        replace I1 := Lib.hid (I1.out.kept hg (fun g e => by cases e))
        replace I2 := Lib.hid (I2.out.kept hg (fun g e => by cases e))
        clear hg
        generalize W2.heap.size = x5 at *
        refine hKq.out _ _ (⟨K.out.c0, K.out.c1, K.out.c2, K.out.c3⟩) (fun hHeld => ?_)
        clear hKq Kq
        refine wpAnyH_take (i := 6) (oi := ⟨some 25, _, _, _, _, _⟩) (v := ?_) rfl (by kernel_rfl) (by kernel_rfl) (by kernel_rfl) (fun _ _ _ h => h) (Or.inl ⟨by rfl, ?_⟩) (by assumption) ?_
        rotate_left
        · intro w hSw; (try dsimp only at hSw); go_simp; try with_reducible rfl
        simp only [Act.put, List.setIfInBounds_toArray, List.set_cons_zero, List.set_cons_succ]
        refine wpAnyH_ready (rs := [7]) (by kernel_rfl) (by simp) ?_
        refine AllReadyH.cons (o := ⟨some 10, _, _, _, _, _⟩) rfl (fun Kq hKq => ?_) AllReadyH.nil
        go_simp
        refine at_alloc ?_
        intro W7 hg hT
        have hx10 : w.heap.size + 2 ≤ W5.heap.size := R.out.lt
        generalize W5.heap.size = x10 at *
        have B := Lib.hid hT
        replace G := Lib.hid (gtr G.out hg)
        replace K := Lib.hid (K.out.kept hg)
        replace R := Lib.hid (R.out.keptN hg)
        replace HG := Lib.hid (HG.out.kept hg)
        replace HC := Lib.hid (HC.out.kept hg)
        replace I1 := Lib.hid (I1.out.kept hg (fun g e => by cases e))
        replace I2 := Lib.hid (I2.out.kept hg (fun g e => by cases e))
        replace T := Lib.hid (T.out.keptN hg)
        clear hg
        clear hT
        refine hKq.out _ _ (⟨K.out.c0, K.out.c1, K.out.c2, K.out.c3⟩) (fun hHeld => ?_)
        clear hKq Kq
        refine wpAnyH_ready (rs := [8]) (by kernel_rfl) (by simp) ?_
        refine AllReadyH.cons (o := ⟨none, _, _, _, _, _⟩) rfl (fun Kq hKq => ?_) AllReadyH.nil
        rw [if_pos (by rfl)]
        refine wp_store_blk 48 (.tmp 10) (.tmp 25) x10 #[.int .i64 need, .int .i64 many, .slice a1 ng c1, .slice a2 nc c2, .int .i64 msg, .slice (some ⟨x5, 0, none⟩) nm nm] _ 48 B.out rfl rfl rfl rfl (by kernel_rfl) (by simp [Value.oneCell']) rfl ?_
        intro W8 hg hT
        have I1' := I1.out.keptBlk B.out hg; have I2' := I2.out.keptBlk B.out hg
        have T' := T.out.kept hg (fun e => tyd_ne T.out.tyd (blk_tyd B.out) (by decide) (Option.some.inj e))
        have G' := grown_new G.out (by omega) hg
        have R' := R.out.kept hg (by intro e; have e := Option.some.inj e; omega)
        have K' := K.out.keptB (hg.block _ K.out.lt (by intro e; have e := Option.some.inj e; omega)) hg.size
        clear I1 I2 T G R K B hg
        have I1 := Lib.hid I1'; have I2 := Lib.hid I2'; have T := Lib.hid T'; have G := Lib.hid G'; have R := Lib.hid R'; have K := Lib.hid K'; have B := Lib.hid hT
        clear I1' I2' T' G' R' K' hT HG HC
        refine hKq.out _ _ (⟨K.out.c0, K.out.c1, K.out.c2, K.out.c3⟩) (fun hHeld => ?_)
        clear hKq Kq
        refine wpAnyH_done (by kernel_rfl) ?_ _
        clear K hHeld
        revert I1; revert I2; revert AT; revert T; revert G; revert R; revert B; revert hx10; revert W8; revert x5; revert x10; revert a1; revert c1; revert a2; revert c2
        exact hk.out
      · go_simp
        refine at_alloc ?_
        intro W7 hg hT
        have hx10 : w.heap.size + 2 ≤ W2.heap.size := R.out.lt
        generalize W2.heap.size = x10 at *
        have B := Lib.hid hT
        replace G := Lib.hid (gtr G.out hg)
        replace K := Lib.hid (K.out.kept hg)
        replace R := Lib.hid (R.out.keptN hg)
        replace HG := Lib.hid (HG.out.kept hg)
        replace HC := Lib.hid (HC.out.kept hg)
        replace I1 := Lib.hid (I1.out.kept hg (fun g e => by cases e))
        replace I2 := Lib.hid (I2.out.kept hg (fun g e => by cases e))
        clear hg
        clear hT
        refine hKq.out _ _ (⟨K.out.c0, K.out.c1, K.out.c2, K.out.c3⟩) (fun hHeld => ?_)
        clear hKq Kq
        refine wpAnyH_ready (rs := [5]) (by kernel_rfl) (by simp) ?_
        refine AllReadyH.cons (o := ⟨some 24, _, _, _, _, _⟩) rfl (fun Kq hKq => ?_) AllReadyH.nil
        rw [if_pos (by rfl)]
        refine wp_make4 (.tmp 23) rfl nm rfl hl3 ?_
        intro W5 hg hT
        have hR := R.out.lt
        have T := Lib.hid (hT.lower (lo' := w.heap.size + 2) hR)
        clear hT hR
        replace G := Lib.hid (gtr G.out hg)
        replace K := Lib.hid (K.out.kept hg)
        replace R := Lib.hid (R.out.keptN hg)
        replace HG := Lib.hid (HG.out.kept hg)
        replace HC := Lib.hid (HC.out.kept hg)
        replace I1 := Lib.hid (I1.out.kept hg (fun g e => by cases e))
        replace I2 := Lib.hid (I2.out.kept hg (fun g e => by cases e))
        replace B := Lib.hid (B.out.keptN hg)
        clear hg
        generalize W7.heap.size = x5 at *
        refine hKq.out _ _ (⟨K.out.c0, K.out.c1, K.out.c2, K.out.c3⟩) (fun hHeld => ?_)
        clear hKq Kq
        refine wpAnyH_take (i := 6) (oi := ⟨some 25, _, _, _, _, _⟩) (v := ?_) rfl (by kernel_rfl) (by kernel_rfl) (by kernel_rfl) (fun _ _ _ h => h) (Or.inl ⟨by rfl, ?_⟩) (by assumption) ?_
        rotate_left
        · intro w hSw; (try dsimp only at hSw); go_simp; try with_reducible rfl
        simp only [Act.put, List.setIfInBounds_toArray, List.set_cons_zero, List.set_cons_succ]
        refine wpAnyH_ready (rs := [8]) (by kernel_rfl) (by simp) ?_
        refine AllReadyH.cons (o := ⟨none, _, _, _, _, _⟩) rfl (fun Kq hKq => ?_) AllReadyH.nil
        rw [if_pos (by rfl)]
        refine wp_store_blk 48 (.tmp 10) (.tmp 25) x10 #[.int .i64 need, .int .i64 many, .slice a1 ng c1, .slice a2 nc c2, .int .i64 msg, .slice (some ⟨x5, 0, none⟩) nm nm] _ 48 B.out rfl rfl rfl rfl (by kernel_rfl) (by simp [Value.oneCell']) rfl ?_
        intro W8 hg hT
        have I1' := I1.out.keptBlk B.out hg; have I2' := I2.out.keptBlk B.out hg
        have T' := T.out.kept hg (fun e => tyd_ne T.out.tyd (blk_tyd B.out) (by decide) (Option.some.inj e))
        have G' := grown_new G.out (by omega) hg
        have R' := R.out.kept hg (by intro e; have e := Option.some.inj e; omega)
        have K' := K.out.keptB (hg.block _ K.out.lt (by intro e; have e := Option.some.inj e; omega)) hg.size
        clear I1 I2 T G R K B hg
        have I1 := Lib.hid I1'; have I2 := Lib.hid I2'; have T := Lib.hid T'; have G := Lib.hid G'; have R := Lib.hid R'; have K := Lib.hid K'; have B := Lib.hid hT
        clear I1' I2' T' G' R' K' hT HG HC
        refine hKq.out _ _ (⟨K.out.c0, K.out.c1, K.out.c2, K.out.c3⟩) (fun hHeld => ?_)
        clear hKq Kq
        refine wpAnyH_done (by kernel_rfl) ?_ _
        clear K hHeld
        revert I1; revert I2; revert AT; revert T; revert G; revert R; revert B; revert hx10; revert W8; revert x5; revert x10; revert a1; revert c1; revert a2; revert c2
        exact hk.out
    · rw [if_pos (by rfl)]
      refine wp_make4 (.tmp 23) rfl nm rfl hl3 ?_
      intro W5 hg hT
      have hR := R.out.lt
      have T := Lib.hid (hT.lower (lo' := w.heap.size + 2) hR)
      clear hT hR
      replace G := Lib.hid (gtr G.out hg)
      replace K := Lib.hid (K.out.kept hg)
      replace R := Lib.hid (R.out.keptN hg)
      replace HG := Lib.hid (HG.out.kept hg)
      replace HC := Lib.hid (HC.out.kept hg)
      clear hg
      generalize W.heap.size = x5 at *
      refine hKq.out _ _ (⟨K.out.c0, K.out.c1, K.out.c2, K.out.c3⟩) (fun hHeld => ?_)
      clear hKq Kq
      refine wpAnyH_ready (rs := [1, 7]) (by kernel_rfl) (by simp) ?_
      refine AllReadyH.cons (o := ⟨some 20, _, _, _, _, _⟩) rfl (fun Kq hKq => ?_) (AllReadyH.cons (o := ⟨some 10, _, _, _, _, _⟩) rfl (fun Kq hKq => ?_) AllReadyH.nil)
      · go_simp
        go_at_call 83
        refine (icopykey _ need many _ ng _ zg _ nc _ zc HG.out HC.out hsg hsc hl1 hl2).mono ?_
        rintro e W2 ⟨a1, c1, a2, c2, rfl, hv1, hv2, hap, hg⟩
        have hR := R.out.lt
        have I1 := Lib.hid (hv1.lower (lo' := w.heap.size + 2) hR); have I2 := Lib.hid (hv2.lower (lo' := w.heap.size + 2) hR)
        have AT := Lib.hid hap
        clear hv1 hv2 hR hap
        replace G := Lib.hid (gtr G.out hg)
        replace K := Lib.hid (K.out.kept hg)
        replace R := Lib.hid (R.out.keptN hg)
        replace HG := Lib.hid (HG.out.kept hg)
        replace HC := Lib.hid (HC.out.kept hg)
        replace T := Lib.hid (T.out.keptN hg)
        clear hg
        refine hKq.out _ _ (⟨K.out.c0, K.out.c1, K.out.c2, K.out.c3⟩) (fun hHeld => ?_)
        clear hKq Kq
        refine wpAnyH_take (i := 6) (oi := ⟨some 25, _, _, _, _, _⟩) (v := ?_) rfl (by kernel_rfl) (by kernel_rfl) (by kernel_rfl) (fun _ _ _ h => h) (Or.inl ⟨by rfl, ?_⟩) (by assumption) ?_
        rotate_left
        · intro w hSw; (try dsimp only at hSw); go_simp; try with_reducible rfl
        simp only [Act.put, List.setIfInBounds_toArray, List.set_cons_zero, List.set_cons_succ]
        refine wpAnyH_ready (rs := [7]) (by kernel_rfl) (by simp) ?_
        refine AllReadyH.cons (o := ⟨some 10, _, _, _, _, _⟩) rfl (fun Kq hKq => ?_) AllReadyH.nil
        go_simp
        refine at_alloc ?_
        intro W7 hg hT
        have hx10 : w.heap.size + 2 ≤ W2.heap.size := R.out.lt
        generalize W2.heap.size = x10 at *
        have B := Lib.hid hT
        replace G := Lib.hid (gtr G.out hg)
        replace K := Lib.hid (K.out.kept hg)
        replace R := Lib.hid (R.out.keptN hg)
        replace HG := Lib.hid (HG.out.kept hg)
        replace HC := Lib.hid (HC.out.kept hg)
        replace T := Lib.hid (T.out.keptN hg)
        replace I1 := Lib.hid (I1.out.kept hg (fun g e => by cases e))
        replace I2 := Lib.hid (I2.out.kept hg (fun g e => by cases e))
        clear hg
        clear hT
        refine hKq.out _ _ (⟨K.out.c0, K.out.c1, K.out.c2, K.out.c3⟩) (fun hHeld => ?_)
        clear hKq Kq
        refine wpAnyH_ready (rs := [8]) (by kernel_rfl) (by simp) ?_
        refine AllReadyH.cons (o := ⟨none, _, _, _, _, _⟩) rfl (fun Kq hKq => ?_) AllReadyH.nil
        rw [if_pos (by rfl)]
        refine wp_store_blk 48 (.tmp 10) (.tmp 25) x10 #[.int .i64 need, .int .i64 many, .slice a1 ng c1, .slice a2 nc c2, .int .i64 msg, .slice (some ⟨x5, 0, none⟩) nm nm] _ 48 B.out rfl rfl rfl rfl (by kernel_rfl) (by simp [Value.oneCell']) rfl ?_
        intro W8 hg hT
        have I1' := I1.out.keptBlk B.out hg; have I2' := I2.out.keptBlk B.out hg
        have T' := T.out.kept hg (fun e => tyd_ne T.out.tyd (blk_tyd B.out) (by decide) (Option.some.inj e))
        have G' := grown_new G.out (by omega) hg
        have R' := R.out.kept hg (by intro e; have e := Option.some.inj e; omega)
        have K' := K.out.keptB (hg.block _ K.out.lt (by intro e; have e := Option.some.inj e; omega)) hg.size
        clear I1 I2 T G R K B hg
        have I1 := Lib.hid I1'; have I2 := Lib.hid I2'; have T := Lib.hid T'; have G := Lib.hid G'; have R := Lib.hid R'; have K := Lib.hid K'; have B := Lib.hid hT
        clear I1' I2' T' G' R' K' hT HG HC
        refine hKq.out _ _ (⟨K.out.c0, K.out.c1, K.out.c2, K.out.c3⟩) (fun hHeld => ?_)
        clear hKq Kq
        refine wpAnyH_done (by kernel_rfl) ?_ _
        clear K hHeld
        revert I1; revert I2; revert AT; revert T; revert G; revert R; revert B; revert hx10; revert W8; revert x5; revert x10; revert a1; revert c1; revert a2; revert c2
        exact hk.out
      · go_simp
        refine at_alloc ?_
        intro W7 hg hT
        have hx10 : w.heap.size + 2 ≤ W5.heap.size := R.out.lt
        generalize W5.heap.size = x10 at *
        have B := Lib.hid hT
        replace G := Lib.hid (gtr G.out hg)
        replace K := Lib.hid (K.out.kept hg)
        replace R := Lib.hid (R.out.keptN hg)
        replace HG := Lib.hid (HG.out.kept hg)
        replace HC := Lib.hid (HC.out.kept hg)
        replace T := Lib.hid (T.out.keptN hg)
        clear hg
        clear hT
        refine hKq.out _ _ (⟨K.out.c0, K.out.c1, K.out.c2, K.out.c3⟩) (fun hHeld => ?_)
        clear hKq Kq
        refine wpAnyH_ready (rs := [1]) (by kernel_rfl) (by simp) ?_
        refine AllReadyH.cons (o := ⟨some 20, _, _, _, _, _⟩) rfl (fun Kq hKq => ?_) AllReadyH.nil
        go_simp
        go_at_call 83
        refine (icopykey _ need many _ ng _ zg _ nc _ zc HG.out HC.out hsg hsc hl1 hl2).mono ?_
        rintro e W2 ⟨a1, c1, a2, c2, rfl, hv1, hv2, hap, hg⟩
        have hR := R.out.lt
        have I1 := Lib.hid (hv1.lower (lo' := w.heap.size + 2) hR); have I2 := Lib.hid (hv2.lower (lo' := w.heap.size + 2) hR)
        have AT := Lib.hid hap
        clear hv1 hv2 hR hap
        replace G := Lib.hid (gtr G.out hg)
        replace K := Lib.hid (K.out.kept hg)
        replace R := Lib.hid (R.out.keptN hg)
        replace HG := Lib.hid (HG.out.kept hg)
        replace HC := Lib.hid (HC.out.kept hg)
        replace T := Lib.hid (T.out.keptN hg)
        replace B := Lib.hid (B.out.keptN hg)
        clear hg
        refine hKq.out _ _ (⟨K.out.c0, K.out.c1, K.out.c2, K.out.c3⟩) (fun hHeld => ?_)
        clear hKq Kq
        refine wpAnyH_take (i := 6) (oi := ⟨some 25, _, _, _, _, _⟩) (v := ?_) rfl (by kernel_rfl) (by kernel_rfl) (by kernel_rfl) (fun _ _ _ h => h) (Or.inl ⟨by rfl, ?_⟩) (by assumption) ?_
        rotate_left
        · intro w hSw; (try dsimp only at hSw); go_simp; try with_reducible rfl
        simp only [Act.put, List.setIfInBounds_toArray, List.set_cons_zero, List.set_cons_succ]
        refine wpAnyH_ready (rs := [8]) (by kernel_rfl) (by simp) ?_
        refine AllReadyH.cons (o := ⟨none, _, _, _, _, _⟩) rfl (fun Kq hKq => ?_) AllReadyH.nil
        rw [if_pos (by rfl)]
        refine wp_store_blk 48 (.tmp 10) (.tmp 25) x10 #[.int .i64 need, .int .i64 many, .slice a1 ng c1, .slice a2 nc c2, .int .i64 msg, .slice (some ⟨x5, 0, none⟩) nm nm] _ 48 B.out rfl rfl rfl rfl (by kernel_rfl) (by simp [Value.oneCell']) rfl ?_
        intro W8 hg hT
        have I1' := I1.out.keptBlk B.out hg; have I2' := I2.out.keptBlk B.out hg
        have T' := T.out.kept hg (fun e => tyd_ne T.out.tyd (blk_tyd B.out) (by decide) (Option.some.inj e))
        have G' := grown_new G.out (by omega) hg
        have R' := R.out.kept hg (by intro e; have e := Option.some.inj e; omega)
        have K' := K.out.keptB (hg.block _ K.out.lt (by intro e; have e := Option.some.inj e; omega)) hg.size
        clear I1 I2 T G R K B hg
        have I1 := Lib.hid I1'; have I2 := Lib.hid I2'; have T := Lib.hid T'; have G := Lib.hid G'; have R := Lib.hid R'; have K := Lib.hid K'; have B := Lib.hid hT
        clear I1' I2' T' G' R' K' hT HG HC
        refine hKq.out _ _ (⟨K.out.c0, K.out.c1, K.out.c2, K.out.c3⟩) (fun hHeld => ?_)
        clear hKq Kq
        refine wpAnyH_done (by kernel_rfl) ?_ _
        clear K hHeld
        revert I1; revert I2; revert AT; revert T; revert G; revert R; revert B; revert hx10; revert W8; revert x5; revert x10; revert a1; revert c1; revert a2; revert c2
        exact hk.out
    · go_simp
      refine at_alloc ?_
      intro W7 hg hT
      have hx10 : w.heap.size + 2 ≤ W.heap.size := R.out.lt
      generalize W.heap.size = x10 at *
      have B := Lib.hid hT
      replace G := Lib.hid (gtr G.out hg)
      replace K := Lib.hid (K.out.kept hg)
      replace R := Lib.hid (R.out.keptN hg)
      replace HG := Lib.hid (HG.out.kept hg)
      replace HC := Lib.hid (HC.out.kept hg)
      clear hg
      clear hT
      refine hKq.out _ _ (⟨K.out.c0, K.out.c1, K.out.c2, K.out.c3⟩) (fun hHeld => ?_)
      clear hKq Kq
      refine wpAnyH_ready (rs := [1, 5]) (by kernel_rfl) (by simp) ?_
      refine AllReadyH.cons (o := ⟨some 20, _, _, _, _, _⟩) rfl (fun Kq hKq => ?_) (AllReadyH.cons (o := ⟨some 24, _, _, _, _, _⟩) rfl (fun Kq hKq => ?_) AllReadyH.nil)
      · go_simp
        go_at_call 83
        refine (icopykey _ need many _ ng _ zg _ nc _ zc HG.out HC.out hsg hsc hl1 hl2).mono ?_
        rintro e W2 ⟨a1, c1, a2, c2, rfl, hv1, hv2, hap, hg⟩
        have hR := R.out.lt
        have I1 := Lib.hid (hv1.lower (lo' := w.heap.size + 2) hR); have I2 := Lib.hid (hv2.lower (lo' := w.heap.size + 2) hR)
        have AT := Lib.hid hap
        clear hv1 hv2 hR hap
        replace G := Lib.hid (gtr G.out hg)
        replace K := Lib.hid (K.out.kept hg)
        replace R := Lib.hid (R.out.keptN hg)
        replace HG := Lib.hid (HG.out.kept hg)
        replace HC := Lib.hid (HC.out.kept hg)
        replace B := Lib.hid (B.out.keptN hg)
        clear hg
        refine hKq.out _ _ (⟨K.out.c0, K.out.c1, K.out.c2, K.out.c3⟩) (fun hHeld => ?_)
        clear hKq Kq
        refine wpAnyH_ready (rs := [5]) (by kernel_rfl) (by simp) ?_
        refine AllReadyH.cons (o := ⟨some 24, _, _, _, _, _⟩) rfl (fun Kq hKq => ?_) AllReadyH.nil
        rw [if_pos (by rfl)]
        refine wp_make4 (.tmp 23) rfl nm rfl hl3 ?_
        intro W5 hg hT
        have hR := R.out.lt
        have T := Lib.hid (hT.lower (lo' := w.heap.size + 2) hR)
        clear hT hR
        replace G := Lib.hid (gtr G.out hg)
        replace K := Lib.hid (K.out.kept hg)
        replace R := Lib.hid (R.out.keptN hg)
        replace HG := Lib.hid (HG.out.kept hg)
        replace HC := Lib.hid (HC.out.kept hg)
        replace B := Lib.hid (B.out.keptN hg)
        replace I1 := Lib.hid (I1.out.kept hg (fun g e => by cases e))
        replace I2 := Lib.hid (I2.out.kept hg (fun g e => by cases e))
        clear hg
        generalize W2.heap.size = x5 at *
        refine hKq.out _ _ (⟨K.out.c0, K.out.c1, K.out.c2, K.out.c3⟩) (fun hHeld => ?_)
        clear hKq Kq
        refine wpAnyH_take (i := 6) (oi := ⟨some 25, _, _, _, _, _⟩) (v := ?_) rfl (by kernel_rfl) (by kernel_rfl) (by kernel_rfl) (fun _ _ _ h => h) (Or.inl ⟨by rfl, ?_⟩) (by assumption) ?_
        rotate_left
        · intro w hSw; (try dsimp only at hSw); go_simp; try with_reducible rfl
        simp only [Act.put, List.setIfInBounds_toArray, List.set_cons_zero, List.set_cons_succ]
        refine wpAnyH_ready (rs := [8]) (by kernel_rfl) (by simp) ?_
        refine AllReadyH.cons (o := ⟨none, _, _, _, _, _⟩) rfl (fun Kq hKq => ?_) AllReadyH.nil
        rw [if_pos (by rfl)]
        refine wp_store_blk 48 (.tmp 10) (.tmp 25) x10 #[.int .i64 need, .int .i64 many, .slice a1 ng c1, .slice a2 nc c2, .int .i64 msg, .slice (some ⟨x5, 0, none⟩) nm nm] _ 48 B.out rfl rfl rfl rfl (by kernel_rfl) (by simp [Value.oneCell']) rfl ?_
        intro W8 hg hT
        have I1' := I1.out.keptBlk B.out hg; have I2' := I2.out.keptBlk B.out hg
        have T' := T.out.kept hg (fun e => tyd_ne T.out.tyd (blk_tyd B.out) (by decide) (Option.some.inj e))
        have G' := grown_new G.out (by omega) hg
        have R' := R.out.kept hg (by intro e; have e := Option.some.inj e; omega)
        have K' := K.out.keptB (hg.block _ K.out.lt (by intro e; have e := Option.some.inj e; omega)) hg.size
        clear I1 I2 T G R K B hg
        have I1 := Lib.hid I1'; have I2 := Lib.hid I2'; have T := Lib.hid T'; have G := Lib.hid G'; have R := Lib.hid R'; have K := Lib.hid K'; have B := Lib.hid hT
        clear I1' I2' T' G' R' K' hT HG HC
        refine hKq.out _ _ (⟨K.out.c0, K.out.c1, K.out.c2, K.out.c3⟩) (fun hHeld => ?_)
        clear hKq Kq
        refine wpAnyH_done (by kernel_rfl) ?_ _
        clear K hHeld
        revert I1; revert I2; revert AT; revert T; revert G; revert R; revert B; revert hx10; revert W8; revert x5; revert x10; revert a1; revert c1; revert a2; revert c2
        exact hk.out
      · rw [if_pos (by rfl)]
        refine wp_make4 (.tmp 23) rfl nm rfl hl3 ?_
        intro W5 hg hT
        have hR := R.out.lt
        have T := Lib.hid (hT.lower (lo' := w.heap.size + 2) hR)
        clear hT hR
        replace G := Lib.hid (gtr G.out hg)
        replace K := Lib.hid (K.out.kept hg)
        replace R := Lib.hid (R.out.keptN hg)
        replace HG := Lib.hid (HG.out.kept hg)
        replace HC := Lib.hid (HC.out.kept hg)
        replace B := Lib.hid (B.out.keptN hg)
        clear hg
        generalize W7.heap.size = x5 at *
        refine hKq.out _ _ (⟨K.out.c0, K.out.c1, K.out.c2, K.out.c3⟩) (fun hHeld => ?_)
        clear hKq Kq
        refine wpAnyH_ready (rs := [1]) (by kernel_rfl) (by simp) ?_
        refine AllReadyH.cons (o := ⟨some 20, _, _, _, _, _⟩) rfl (fun Kq hKq => ?_) AllReadyH.nil
        go_simp
        go_at_call 83
        refine (icopykey _ need many _ ng _ zg _ nc _ zc HG.out HC.out hsg hsc hl1 hl2).mono ?_
        rintro e W2 ⟨a1, c1, a2, c2, rfl, hv1, hv2, hap, hg⟩
        have hR := R.out.lt
        have I1 := Lib.hid (hv1.lower (lo' := w.heap.size + 2) hR); have I2 := Lib.hid (hv2.lower (lo' := w.heap.size + 2) hR)
        have AT := Lib.hid hap
        clear hv1 hv2 hR hap
        replace G := Lib.hid (gtr G.out hg)
        replace K := Lib.hid (K.out.kept hg)
        replace R := Lib.hid (R.out.keptN hg)
        replace HG := Lib.hid (HG.out.kept hg)
        replace HC := Lib.hid (HC.out.kept hg)
        replace B := Lib.hid (B.out.keptN hg)
        replace T := Lib.hid (T.out.keptN hg)
        clear hg
        refine hKq.out _ _ (⟨K.out.c0, K.out.c1, K.out.c2, K.out.c3⟩) (fun hHeld => ?_)
        clear hKq Kq
        refine wpAnyH_take (i := 6) (oi := ⟨some 25, _, _, _, _, _⟩) (v := ?_) rfl (by kernel_rfl) (by kernel_rfl) (by kernel_rfl) (fun _ _ _ h => h) (Or.inl ⟨by rfl, ?_⟩) (by assumption) ?_
        rotate_left
        · intro w hSw; (try dsimp only at hSw); go_simp; try with_reducible rfl
        simp only [Act.put, List.setIfInBounds_toArray, List.set_cons_zero, List.set_cons_succ]
        refine wpAnyH_ready (rs := [8]) (by kernel_rfl) (by simp) ?_
        refine AllReadyH.cons (o := ⟨none, _, _, _, _, _⟩) rfl (fun Kq hKq => ?_) AllReadyH.nil
        rw [if_pos (by rfl)]
        refine wp_store_blk 48 (.tmp 10) (.tmp 25) x10 #[.int .i64 need, .int .i64 many, .slice a1 ng c1, .slice a2 nc c2, .int .i64 msg, .slice (some ⟨x5, 0, none⟩) nm nm] _ 48 B.out rfl rfl rfl rfl (by kernel_rfl) (by simp [Value.oneCell']) rfl ?_
        intro W8 hg hT
        have I1' := I1.out.keptBlk B.out hg; have I2' := I2.out.keptBlk B.out hg
        have T' := T.out.kept hg (fun e => tyd_ne T.out.tyd (blk_tyd B.out) (by decide) (Option.some.inj e))
        have G' := grown_new G.out (by omega) hg
        have R' := R.out.kept hg (by intro e; have e := Option.some.inj e; omega)
        have K' := K.out.keptB (hg.block _ K.out.lt (by intro e; have e := Option.some.inj e; omega)) hg.size
        clear I1 I2 T G R K B hg
        have I1 := Lib.hid I1'; have I2 := Lib.hid I2'; have T := Lib.hid T'; have G := Lib.hid G'; have R := Lib.hid R'; have K := Lib.hid K'; have B := Lib.hid hT
        clear I1' I2' T' G' R' K' hT HG HC
        refine hKq.out _ _ (⟨K.out.c0, K.out.c1, K.out.c2, K.out.c3⟩) (fun hHeld => ?_)
        clear hKq Kq
        refine wpAnyH_done (by kernel_rfl) ?_ _
        clear K hHeld
        revert I1; revert I2; revert AT; revert T; revert G; revert R; revert B; revert hx10; revert W8; revert x5; revert x10; revert a1; revert c1; revert a2; revert c2
        exact hk.out
  clear K HG HC G R
  intro c2 a2 c1 a1 x10 x5 W hx10 B R G T AT I2 I1
  have hTf := T.out.from_
  have hTl := T.out.lt
  have hBl := B.out.lt
  have hne1 : ¬ x5 = x10 := fun e => tyd_ne T.out.tyd (blk_tyd B.out) (by decide) e
  have HTX := Lib.hid (And.intro hTf (And.intro hTl (And.intro hBl hx10)))
  have HTY := Lib.hid T.out.tyd
  have HT0 := Lib.hid (T.out.congr (g' := fun j => if j < 0 then shT (nwS zm zs) j else zeT) fun j i _ _ => by simp)
  clear T
  go_wp2
  go_loopw [28] (fun i wr => ∃ k : Nat, k ≤ nm ∧ i = .int .i64 k ∧ Row4 wr (w.heap.size + 2) 52 x5 nm (fun j => if j < k then shT (nwS zm zs) j else zeT) ∧ W.grownBy wr (some x5)) (fun i _ => nm - (intOf i).toNat)
  case atStart => exact ⟨0, by omega, rfl, HT0.out, Draw.grown_refl _ _⟩
  case round =>
    clear HT0
    obtain ⟨k, hk, rfl, hr, hg⟩ := hrel
    obtain ⟨W1, hW⟩ : ∃ W, W = wr := ⟨_, rfl⟩; subst hW
    have T := Lib.hid hr; have Z := Lib.hid hg
    have G1 := Lib.hid (grown_new G.out (by omega) hg)
    have B1 := Lib.hid (B.out.kept hg (by intro e; have e := Option.some.inj e; omega))
    clear hr hg
    by_cases hlt : k < nm
    · obtain ⟨bm, om, rfl, hbm, hcm⟩ := (HM0.out.kept G1.out).ptr (by omega)
      obtain ⟨bs, os, rfl, hbs, hcs⟩ := (HN0.out.kept G1.out).ptr (by omega)
      have hx := hcm k hlt
      clear hcm hcs
      go_wp2_with fail
      refine wp_region_held_drew (S := (fun w' => w'.cell? ⟨x10, 5, none⟩ = some (.slice (some ⟨x5, 0, none⟩) nm nm) ∧ w'.cell? ⟨bs, os + k, none⟩ = some (.int .i64 (zs k)))) (by kernel_rfl) (⟨B1.out.cell 5, ints_cell (HN0.out.kept G1.out) hlt⟩) (fun hHeld => ?_)
      have hg := Draw.gdrew W1
      clear hx
      replace G1 := Lib.hid (gtr G1.out hg)
      replace B1 := Lib.hid (B1.out.keptN hg)
      replace T := Lib.hid (T.out.keptN hg)
      replace Z := Lib.hid (gtr' Z.out (Draw.grown_some hg))
      clear hg
      generalize (W1).drew = W2 at *
      refine wpAnyH_take (i := 0) (oi := ⟨some 33, _, _, _, _, _⟩) (v := ?_) rfl (by kernel_rfl) (by kernel_rfl) (by kernel_rfl) (fun _ _ _ h => h) (Or.inl ⟨by rfl, ?_⟩) (by assumption) ?_
      rotate_left
      · intro w hSw; (try dsimp only at hSw); go_simp; try with_reducible rfl
      simp only [Act.put, List.setIfInBounds_toArray, List.set_cons_zero, List.set_cons_succ]
      refine wpAnyH_take (i := 1) (oi := ⟨some 34, _, _, _, _, _⟩) (v := ?_) rfl (by kernel_rfl) (by kernel_rfl) (by kernel_rfl) (fun _ _ _ h => h) (Or.inl ⟨by rfl, ?_⟩) (by assumption) ?_
      rotate_left
      · intro w hSw; (try dsimp only at hSw); go_simp; try with_reducible rfl
      simp only [Act.put, List.setIfInBounds_toArray, List.set_cons_zero, List.set_cons_succ]
      refine wpAnyH_take (i := 2) (oi := ⟨some 35, _, _, _, _, _⟩) (v := ?_) rfl (by kernel_rfl) (by kernel_rfl) (by kernel_rfl) (fun _ _ _ h => h) (Or.inl ⟨by rfl, ?_⟩) (by assumption) ?_
      rotate_left
      · intro w hSw; (try dsimp only at hSw); go_simp; try with_reducible rfl
      simp only [Act.put, List.setIfInBounds_toArray, List.set_cons_zero, List.set_cons_succ]
      refine wpAnyH_take (i := 3) (oi := ⟨some 36, _, _, _, _, _⟩) (v := ?_) rfl (by kernel_rfl) (by kernel_rfl) (by kernel_rfl) (fun _ _ _ h => h) (Or.inl ⟨by rfl, ?_⟩) (by assumption) ?_
      rotate_left
      · intro w hSw; (try dsimp only at hSw); go_simp; try with_reducible rfl
      simp only [Act.put, List.setIfInBounds_toArray, List.set_cons_zero, List.set_cons_succ]
      refine wpAnyH_take (i := 4) (oi := ⟨some 37, _, _, _, _, _⟩) (v := ?_) rfl (by kernel_rfl) (by kernel_rfl) (by kernel_rfl) (fun _ _ _ h => h) (Or.inl ⟨by rfl, ?_⟩) (by assumption) ?_
      rotate_left
      · intro w hSw; (try dsimp only at hSw); go_simp; try with_reducible rfl
      simp only [Act.put, List.setIfInBounds_toArray, List.set_cons_zero, List.set_cons_succ]
      refine wpAnyH_take (i := 5) (oi := ⟨some 38, _, _, _, _, _⟩) (v := ?_) rfl (by kernel_rfl) (by kernel_rfl) (by kernel_rfl) (fun _ _ _ h => h) (Or.inl ⟨by rfl, ?_⟩) (by assumption) ?_
      rotate_left
      · intro w hSw; (try dsimp only at hSw); go_simp; try with_reducible rfl
      simp only [Act.put, List.setIfInBounds_toArray, List.set_cons_zero, List.set_cons_succ]
      refine wpAnyH_take (i := 6) (oi := ⟨some 39, _, _, _, _, _⟩) (v := ?_) rfl (by kernel_rfl) (by kernel_rfl) (by kernel_rfl) (fun _ _ _ h => h) (Or.inl ⟨by rfl, ?_⟩) (by assumption) ?_
      rotate_left
      · intro w hSw; (try dsimp only at hSw); go_simp; try with_reducible rfl
      simp only [Act.put, List.setIfInBounds_toArray, List.set_cons_zero, List.set_cons_succ]
      refine wpAnyH_take (i := 7) (oi := ⟨some 40, _, _, _, _, _⟩) (v := ?_) rfl (by kernel_rfl) (by kernel_rfl) (by kernel_rfl) (fun _ _ _ h => h) (Or.inl ⟨by rfl, ?_⟩) (by assumption) ?_
      rotate_left
      · intro w hSw; (try dsimp only at hSw); go_simp; try with_reducible rfl
      simp only [Act.put, List.setIfInBounds_toArray, List.set_cons_zero, List.set_cons_succ]
      refine wpAnyH_take (i := 8) (oi := ⟨some 41, _, _, _, _, _⟩) (v := ?_) rfl (by kernel_rfl) (by kernel_rfl) (by kernel_rfl) (fun _ _ _ h => h) (Or.inl ⟨by rfl, ?_⟩) (by assumption) ?_
      rotate_left
      · intro w hSw; (try dsimp only at hSw); go_simp; try with_reducible rfl
      simp only [Act.put, List.setIfInBounds_toArray, List.set_cons_zero, List.set_cons_succ]
      refine wpAnyH_take (i := 9) (oi := ⟨some 42, _, _, _, _, _⟩) (v := ?_) rfl (by kernel_rfl) (by kernel_rfl) (by kernel_rfl) (fun _ _ _ h => h) (Or.inl ⟨by rfl, ?_⟩) (by assumption) ?_
      rotate_left
      · intro w hSw; (try dsimp only at hSw); go_simp; try with_reducible rfl
      simp only [Act.put, List.setIfInBounds_toArray, List.set_cons_zero, List.set_cons_succ]
      refine wpAnyH_ready (rs := [10]) (by kernel_rfl) (by simp) ?_
      refine AllReadyH.cons (o := ⟨none, _, _, _, _, _⟩) rfl (fun Kq hKq => ?_) AllReadyH.nil
      rw [if_pos (by rfl)]
      refine wp_store_row4 (.tmp 42) (.tmp 41) (w.heap.size + 2) x5 nm k _ _ _ _ _ T.out hlt rfl rfl rfl (by kernel_rfl) ?_
      intro W3 hg hT
      have Z3 := Lib.hid (gtr' Z.out hg)
      have G3 := Lib.hid (grown_new G1.out (by omega) hg)
      have B3 := Lib.hid (B1.out.kept hg (by intro e; have e := Option.some.inj e; omega))
      have T3 := Lib.hid (hT.congr (g' := fun j => if j < k + 1 then shT (nwS zm zs) j else zeT) fun j i hj hi => by
        by_cases e : j = k
        · subst e; rw [if_pos rfl, if_pos (by omega)]
          rcases (by omega : i = 0 ∨ i = 1 ∨ i = 2 ∨ i = 3) with rfl | rfl | rfl | rfl <;> rfl
        · by_cases h : j < k
          · rw [if_neg e, if_pos h, if_pos (by omega)]
          · rw [if_neg e, if_neg h, if_neg (by omega)])
      clear Z G1 B1 T hg hT
      have G1 := G3; have B1 := B3
      refine hKq.out _ _ (⟨B1.out.cell 5, ints_cell (HN0.out.kept G1.out) hlt⟩) (fun hHeld => ?_)
      clear hKq Kq
      refine wpAnyH_done (by kernel_rfl) ?_ _
      go_wp2
      go_roundw
      case rel => exact ⟨k + 1, by omega, by go_num, T3.out, Z3.out⟩
      case measure => simp [intOf]; omega
    · obtain rfl : k = nm := by omega
      have T3 := Lib.hid (T.out.congr (g' := shT (nwS zm zs)) fun j i hj hi => by rw [if_pos hj])
      have J1 := Lib.hid (I1.out.keptT HTY.out (by decide) Z.out); have J2 := Lib.hid (I2.out.keptT HTY.out (by decide) Z.out)
      have R1 := Lib.hid (R.out.kept Z.out (by intro e; have e := Option.some.inj e; omega))
      clear T Z
      obtain ⟨q0, q1, q2, q3, q4, q5, _, _, _, _, _, _⟩ := B1.out.all6
      go_wp2_with fail
      refine (i32ok _ need many _ ng _ zg _ nc _ zc msg _ k _ (nwS zm zs) J1.out.ints J2.out.ints T3.out.sh hl1 hl2 hl3).mono ?_
      rintro e W8 ⟨rfl, hg⟩
      clear q0 q1 q2 q3 q4 q5
      replace J1 := Lib.hid (J1.out.kept hg (fun g e => by cases e))
      replace J2 := Lib.hid (J2.out.kept hg (fun g e => by cases e))
      replace R1 := Lib.hid (R1.out.keptN hg)
      replace B1 := Lib.hid (B1.out.keptN hg)
      replace T3 := Lib.hid (T3.out.keptN hg)
      replace G1 := Lib.hid (gtr G1.out hg)
      clear hg
      cases hq : tsF need many ng zg nc zc msg k (nwS zm zs) with
      | false =>
        have HQ := Lib.hid hq
        go_wp2_with (first
          | (refine wpList_store_blk rfl 48 (.tmp 8) (.tmp 47) _ _ _ 48 R1.out rfl rfl rfl rfl (by kernel_rfl) (by simp [Value.oneCell']) rfl ?_; intro V hgV hRV; have HGV := Lib.hid hgV; have HRV := Lib.hid hRV; clear hgV hRV))
        (try simp only [Exit.inBlock, Exit.then])
        refine bodyPost_ret (ret_ses2 rfl _ rfl HRV.out) rfl ?_
        exact sesNQ_no (fun h => by have h2 := h.2; rw [HQ.out] at h2; cases h2) ⟨rfl, grown_new G1.out (by omega) HGV.out⟩
      | true =>
        have HQ := Lib.hid hq
        obtain ⟨q0, q1, q2, q3, q4, q5, _, _, _, _, _, _⟩ := B1.out.all6
        go_wp2_with (first
          | (refine wpList_store_blk rfl 48 (.tmp 8) (.tmp 48) _ _ _ 48 R1.out rfl rfl rfl rfl (by kernel_rfl) (by simp [Value.oneCell']) rfl ?_; intro V hgV hRV; have HGV := Lib.hid hgV; have HRV := Lib.hid hRV; clear hgV hRV))
        (try simp only [Exit.inBlock, Exit.then])
        refine bodyPost_ret (ret_ses2 rfl _ rfl HRV.out) rfl ?_
        have hne : ∀ g, (some (w.heap.size + 1) : Option Nat) = some g → g < w.heap.size + 2 := fun g e => by have e := Option.some.inj e; omega
        exact sesNQ_yes rfl HQ.out ⟨a1, c1, a2, c2, some ⟨x5, 0, none⟩, k, rfl, (J1.out.kept HGV.out hne).lower (by omega), (J2.out.kept HGV.out hne).lower (by omega), ((T3.out.own (by unfold maxLen; omega)).kept HGV.out hne).lower (by omega), AT.out, grown_new G1.out (by omega) HGV.out⟩
/-- What SessionPut answers. -/
def SesPQ (w : World) (need many : Int) (ng : Nat) (zg : Nat → Int) (nc : Nat) (zc : Nat → Int) (msg : Int) (n : Nat) (S : Nat → SV) (m z : Int) (e : Ending) (w' : World) : Prop :=
  if tsF need many ng zg nc zc msg n S = true ∧ fok z = true then SesQ w need many ng zg nc zc msg n (ptS S m n z) (hasz (mS S) m n) e w' else SesZ w e w'
theorem sesPQ_yes {w : World} {need many : Int} {ng : Nat} {zg : Nat → Int} {nc : Nat} {zc : Nat → Int} {msg : Int} {n : Nat} {S : Nat → SV} {m z : Int} {e : Ending} {w' : World} (h1 : tsF need many ng zg nc zc msg n S = true) (h2 : fok z = true) (h : SesQ w need many ng zg nc zc msg n (ptS S m n z) (hasz (mS S) m n) e w') : SesPQ w need many ng zg nc zc msg n S m z e w' := by unfold SesPQ; rw [if_pos ⟨h1, h2⟩]; exact h
theorem sesPQ_no {w : World} {need many : Int} {ng : Nat} {zg : Nat → Int} {nc : Nat} {zc : Nat → Int} {msg : Int} {n : Nat} {S : Nat → SV} {m z : Int} {e : Ending} {w' : World} (h1 : ¬ (tsF need many ng zg nc zc msg n S = true ∧ fok z = true)) (h : SesZ w e w') : SesPQ w need many ng zg nc zc msg n S m z e w' := by unfold SesPQ; rw [if_neg h1]; exact h
theorem own_ptr {w : World} {lo : Nat} {a : Option Addr} {n c : Nat} {S : Nat → SV} (h : OwnSh w lo (.slice a n c) n S) (hn : 1 ≤ n) : ∃ b, a = some ⟨b, 0, none⟩ ∧ n ≤ c := by
  rcases h.2 with ⟨_, h0⟩ | ⟨g, c', cur, hv, _, _, hnc, _⟩
  · omega
  · injection hv with e1 e2 e3; subst e3; exact ⟨g, e1, hnc⟩
set_option maxRecDepth 100000 in
set_option maxHeartbeats 4000000 in
theorem i32put (w : World) (need many : Int) (ag : Option Addr) (ng cg : Nat) (zg : Nat → Int) (ac : Option Addr) (nc cc : Nat) (zc : Nat → Int) (msg : Int) (a : Option Addr) (len cap : Nat) (S : Nat → SV) (m z : Int) (hG : Ints w ag ng zg) (hC : Ints w ac nc zc) (hS : ShIn w a len S) (hsg : Sl ag ng cg) (hsc : Sl ac nc cc) (hss : Sl a len cap) (hl1 : ng ≤ 2000000) (hl2 : nc ≤ 2000000) (hl : len ≤ 2000000) :
    Calls Try.prog 57 #[.agg #[.int .i64 need, .int .i64 many, .slice ag ng cg, .slice ac nc cc, .int .i64 msg, .slice a len cap], .int .i64 m, .int .i64 z] w (SesPQ w need many ng zg nc zc msg len S m z) := by
  have G := Lib.hid (gtr (Draw.grown_alloc w (.cells #[.int .i64 need, .int .i64 many, .slice ag ng cg, .slice ac nc cc, .int .i64 msg, .slice a len cap] 48) none) (Draw.grown_alloc _ (.cells #[.int .i64 0, .int .i64 0, .slice none 0 0, .slice none 0 0, .int .i64 0, .slice none 0 0] 48) none))
  have K := Lib.hid ((Ss.of_blk (Blk.new w #[.int .i64 need, .int .i64 many, .slice ag ng cg, .slice ac nc cc, .int .i64 msg, .slice a len cap] 48)).kept (Draw.grown_alloc _ (.cells #[.int .i64 0, .int .i64 0, .slice none 0 0, .slice none 0 0, .int .i64 0, .slice none 0 0] 48) none))
  have R := Lib.hid (blk_new2 w (.cells #[.int .i64 need, .int .i64 many, .slice ag ng cg, .slice ac nc cc, .int .i64 msg, .slice a len cap] 48) #[.int .i64 0, .int .i64 0, .slice none 0 0, .slice none 0 0, .int .i64 0, .slice none 0 0] 48)
  have HG := Lib.hid (hG.kept G.out); have HC := Lib.hid (hC.kept G.out); have HA := Lib.hid (hS.kept G.out)
  clear hG hC hS
  go_enter Try.func57, Try.ntmps57
  obtain ⟨_, k0, k1, k2, k3, k4, k5⟩ := K.out
  go_wp2_with fail
  refine (i32ok _ need many _ ng _ zg _ nc _ zc msg _ len _ S HG.out HC.out HA.out hl1 hl2 hl).mono ?_
  rintro e w0 ⟨rfl, hg⟩
  clear k0 k1 k2 k3 k4 k5
  replace G := Lib.hid (gtr G.out hg)
  replace K := Lib.hid (K.out.kept hg)
  replace R := Lib.hid (R.out.keptN hg)
  replace HG := Lib.hid (HG.out.kept hg)
  replace HC := Lib.hid (HC.out.kept hg)
  replace HA := Lib.hid (HA.out.kept hg)
  clear hg
  obtain ⟨_, k0, k1, k2, k3, k4, k5⟩ := K.out
  cases h1 : tsF need many ng zg nc zc msg len S with
  | false =>
    have H1 := Lib.hid h1
    go_wp2_with (first
      | (refine wpList_store_blk rfl 48 (.tmp 6) (.tmp 18) _ _ _ 48 R.out rfl rfl rfl rfl (by kernel_rfl) (by simp [Value.oneCell']) rfl ?_; intro V hgV hRV; have HGV := Lib.hid hgV; have HRV := Lib.hid hRV; clear hgV hRV))
    (try simp only [Exit.inBlock, Exit.then])
    refine bodyPost_ret (ret_ses2 rfl _ rfl HRV.out) rfl ?_
    exact sesPQ_no (fun h => by have h2 := h.1; rw [H1.out] at h2; cases h2) ⟨rfl, grown_new G.out (by omega) HGV.out⟩
  | true =>
    have H1 := Lib.hid h1
    clear h1
    rcases fokc z with h2 | h2
    case inr =>
      have H2 := Lib.hid h2
      go_wp2_with fail
      refine (iok_no _ _ h2).mono ?_
      rintro e w' ⟨rfl, rfl⟩
      go_wp2_with (first
        | (refine wpList_store_blk rfl 48 (.tmp 6) (.tmp 18) _ _ _ 48 R.out rfl rfl rfl rfl (by kernel_rfl) (by simp [Value.oneCell']) rfl ?_; intro V hgV hRV; have HGV := Lib.hid hgV; have HRV := Lib.hid hRV; clear hgV hRV))
      (try simp only [Exit.inBlock, Exit.then])
      refine bodyPost_ret (ret_ses2 rfl _ rfl HRV.out) rfl ?_
      exact sesPQ_no (fun h => by have h2 := h.2; rw [H2.out] at h2; cases h2) ⟨rfl, grown_new G.out (by omega) HGV.out⟩
    have H2 := Lib.hid h2
    go_wp2_with fail
    refine (iok_yes _ _ h2).mono ?_
    rintro e w' ⟨rfl, rfl⟩
    clear h2
    have hR : w.heap.size + 2 ≤ w0.heap.size := R.out.lt
    go_wp2_with fail
    refine (icopyses _ need many _ ng _ zg _ nc _ zc msg _ len _ S HG.out HC.out HA.out hsg hsc hss hl1 hl2 hl).mono ?_
    rintro e w1 ⟨a1, c1, a2, c2, a3, c3, rfl, hv1, hv2, hv3, hap, hg⟩
    clear k0 k1 k2 k3 k4 k5
    replace G := Lib.hid (gtr G.out hg)
    replace K := Lib.hid (K.out.kept hg)
    replace R := Lib.hid (R.out.keptN hg)
    replace HG := Lib.hid (HG.out.kept hg)
    replace HC := Lib.hid (HC.out.kept hg)
    replace HA := Lib.hid (HA.out.kept hg)
    clear hg
    obtain ⟨_, k0, k1, k2, k3, k4, k5⟩ := K.out
    have I1 := Lib.hid (hv1.lower (lo' := w.heap.size + 2) hR); have I2 := Lib.hid (hv2.lower (lo' := w.heap.size + 2) hR); have O := Lib.hid (hv3.lower (lo' := w.heap.size + 2) hR)
    have AT := Lib.hid hap
    clear hv1 hv2 hv3 hap
    go_wp2_with (refine stop_store rfl ?_)
    refine ⟨trivial, ?_⟩
    refine wpList_store_blk rfl 48 (.tmp 8) (.tmp 20) _ #[.int .i64 need, .int .i64 many, .slice a1 ng c1, .slice a2 nc c2, .int .i64 msg, .slice a3 len c3] _ 48 (Blk.new w1 #[.int .i64 0, .int .i64 0, .slice none 0 0, .slice none 0 0, .int .i64 0, .slice none 0 0] 48) rfl rfl rfl rfl (by kernel_rfl) (by simp [Value.oneCell']) rfl ?_
    intro W2 hgV hTV
    have hg : w1.grownBy W2 none := grown_new (grown_alloc w1 (.cells #[.int .i64 0, .int .i64 0, .slice none 0 0, .slice none 0 0, .int .i64 0, .slice none 0 0] 48) none) (Nat.le_refl _) hgV
    have B := Lib.hid hTV
    clear hgV hTV
    clear k0 k1 k2 k3 k4 k5
    replace G := Lib.hid (gtr G.out hg)
    replace K := Lib.hid (K.out.kept hg)
    replace R := Lib.hid (R.out.keptN hg)
    replace HG := Lib.hid (HG.out.kept hg)
    replace HC := Lib.hid (HC.out.kept hg)
    replace HA := Lib.hid (HA.out.kept hg)
    replace I1 := Lib.hid (I1.out.kept hg (fun g e => by cases e))
    replace I2 := Lib.hid (I2.out.kept hg (fun g e => by cases e))
    replace O := Lib.hid (O.out.kept hg (fun g e => by cases e))
    clear hg
    obtain ⟨_, k0, k1, k2, k3, k4, k5⟩ := K.out
    generalize w1.heap.size = x10 at *
    go_wp2_with fail
    refine (isgnof _ need many _ _ msg _ len _ S HA.out hl).mono ?_
    rintro e w3 ⟨bm, rfl, hrow, hg⟩
    clear k0 k1 k2 k3 k4 k5
    replace G := Lib.hid (gtr G.out hg)
    replace K := Lib.hid (K.out.kept hg)
    replace R := Lib.hid (R.out.keptN hg)
    replace HG := Lib.hid (HG.out.kept hg)
    replace HC := Lib.hid (HC.out.kept hg)
    replace HA := Lib.hid (HA.out.kept hg)
    replace I1 := Lib.hid (I1.out.kept hg (fun g e => by cases e))
    replace I2 := Lib.hid (I2.out.kept hg (fun g e => by cases e))
    replace O := Lib.hid (O.out.kept hg (fun g e => by cases e))
    replace B := Lib.hid (B.out.keptN hg)
    clear hg
    obtain ⟨_, k0, k1, k2, k3, k4, k5⟩ := K.out
    have M := Lib.hid hrow.ints
    clear hrow
    go_wp2_with fail
    refine (index_at _ _ len len (mS S) m M.out hl).mono ?_
    rintro e w' ⟨rfl, rfl⟩
    clear k0 k1 k2 k3 k4 k5
    have hl3 := B.out.lt
    cases hh : hasz (mS S) m len with
    | false =>
      have HN := Lib.hid hh
      rw [idx_no hh]
      obtain ⟨q0, q1, q2, q3, q4, q5, _, _, _, _, _, _⟩ := B.out.all6
      go_wp2_with (first
        | (refine wpList_store_blk rfl 48 (.tmp 6) (.tmp 27) _ _ _ 48 R.out rfl rfl rfl rfl (by kernel_rfl) (by simp [Value.oneCell']) rfl ?_; intro V hgV hRV; have HGV := Lib.hid hgV; have HRV := Lib.hid hRV; clear hgV hRV))
      (try simp only [Exit.inBlock, Exit.then])
      refine bodyPost_ret (ret_ses2 rfl _ rfl HRV.out) rfl ?_
      have hne : ∀ g, (some (w.heap.size + 1) : Option Nat) = some g → g < w.heap.size + 2 := fun g e => by have e := Option.some.inj e; omega
      exact sesPQ_yes H1.out H2.out ⟨a1, c1, a2, c2, a3, c3, by rw [HN.out]; rfl, (I1.out.kept HGV.out hne).lower (by omega), (I2.out.kept HGV.out hne).lower (by omega), by rw [ptS_no HN.out]; exact (O.out.kept HGV.out hne).lower (by omega), AT.out, grown_new G.out (by omega) HGV.out⟩
    | true =>
      have HN := Lib.hid hh
      rw [idx_yes hh]
      obtain ⟨hp, hpm⟩ := pos_lt hh
      clear hpm hh
      obtain ⟨b3, rfl, hnc⟩ := own_ptr O.out (by omega)
      have hnn : ¬ ((posz (mS S) m len : Nat) : Int) < 0 := by omega
      have HPT := Lib.hid (show putS S (posz (mS S) m len) z = ptS S m len z from (ptS_yes HN.out).symm)
      generalize posz (mS S) m len = p at *
      have hpI : (p : Int) < (len : Int) := by omega
      have d2 : w3.cell? ⟨b3, p * 4 + 2, none⟩ = some (.bool (S p).on) := (World.ownsRow.cellAt O.out (p * 4 + 2) (by omega)).trans (cellsS_at S hp (by omega))
      have d3 : w3.cell? ⟨b3, p * 4 + 3, none⟩ = some (.int .i64 (S p).Z) := (World.ownsRow.cellAt O.out (p * 4 + 3) (by omega)).trans (cellsS_at S hp (by omega))
      have f2 := World.ownsRow.frozenAt O.out (p * 4 + 2)
      have f3 := World.ownsRow.frozenAt O.out (p * 4 + 3)
      have hne1 : ¬ b3 = x10 := fun e => own_ne_b O.out B.out (by decide) (by rw [e]; rfl)
      have hne2 : ¬ x10 = b3 := fun e => hne1 e.symm
      have hlo := World.ownsRow.lt O.out b3 rfl
      have hTY : Tyd w3 b3 52 := by
        rcases O.out.2 with ⟨hv, _⟩ | ⟨g, c', cur, hv, _, hb, _⟩
        · cases hv
        · injection hv with e1 _ _; injection e1 with e1; injection e1 with e1 _; subst e1; exact ⟨cur, hb⟩
      have hgS := gtr' (grown_set w3 b3 (p * 4 + 2) (.bool true)) (grown_set _ b3 (p * 4 + 3) (.int .i64 z))
      have O2 := Lib.hid (O.out.put hp z)
      have J1 := Lib.hid (I1.out.keptT hTY (by decide) hgS); have J2 := Lib.hid (I2.out.keptT hTY (by decide) hgS)
      have R2 := Lib.hid ((R.out.other (b' := b3) (i := p * 4 + 2) (v := .bool true) (by omega)).other (b' := b3) (i := p * 4 + 3) (v := .int .i64 z) (by omega))
      have G2 := Lib.hid (grown_new G.out (by omega) hgS)
      have HLO := Lib.hid hlo
      clear hgS hTY hlo
      obtain ⟨q0, q1, q2, q3, q4, q5, _, _, _, _, _, _⟩ := B.out.all6
      go_wp2_with (first
        | (refine wpList_store_blk rfl 48 (.tmp 6) (.tmp 39) _ _ _ 48 R2.out rfl rfl rfl rfl (by kernel_rfl) (by simp [Value.oneCell']) rfl ?_; intro V hgV hRV; have HGV := Lib.hid hgV; have HRV := Lib.hid hRV; clear hgV hRV))
      (try simp only [Exit.inBlock, Exit.then])
      refine bodyPost_ret (ret_ses2 rfl _ rfl HRV.out) rfl ?_
      have hne : ∀ g, (some (w.heap.size + 1) : Option Nat) = some g → g < w.heap.size + 2 := fun g e => by have e := Option.some.inj e; omega
      exact sesPQ_yes H1.out H2.out ⟨a1, c1, a2, c2, some ⟨b3, 0, none⟩, c3, by rw [HN.out]; rfl, (J1.out.kept HGV.out hne).lower (by omega), (J2.out.kept HGV.out hne).lower (by omega), by rw [← HPT.out]; exact (O2.out.kept HGV.out hne).lower (by omega), AT.out, grown_new G2.out (by omega) HGV.out⟩
end Con
end Go.Proofs.Yteibklnonlapoaa
