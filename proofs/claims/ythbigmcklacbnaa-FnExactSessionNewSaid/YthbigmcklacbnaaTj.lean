/-
  Sessions: the model's SessionPut.
-/
import Derived.Test.YthbigmcklacbnaaTi
import Derived.Laws.OwnMore
namespace Go.Proofs.Ythbigmcklacbnaa
namespace Con
open Go.RowKit Alg Mem Draw Hd
set_option linter.unusedVariables false

/-- One part put in. -/
def putS (S : Nat → SV) (q : Nat) (z : Int) (j : Nat) : SV := if j = q then ⟨(S j).m, (S j).R, true, z⟩ else S j
theorem cellsS_put (S : Nat → SV) {k n : Nat} (z : Int) (hk : k < n) : ((cellsS S n).set (k * 4 + 2) (.bool true)).set (k * 4 + 3) (.int .i64 z) = cellsS (putS S k z) n := by
  apply List.ext_getElem?
  intro j
  by_cases hj : j < n * 4
  · obtain ⟨q, i, hi, rfl⟩ : ∃ q i, i < 4 ∧ j = q * 4 + i := ⟨j / 4, j % 4, by omega, by omega⟩
    have hl := cellsS_len S n
    rw [cellsS_at _ (by omega : q < n) hi, List.getElem?_set, List.getElem?_set, cellsS_at _ (by omega : q < n) hi]
    simp only [List.length_set, hl]
    by_cases e : q = k
    · subst e
      unfold putS
      rw [if_pos rfl]
      rcases (by omega : i = 0 ∨ i = 1 ∨ i = 2 ∨ i = 3) with rfl | rfl | rfl | rfl
      · rw [if_neg (by omega), if_neg (by omega)]; rfl
      · rw [if_neg (by omega), if_neg (by omega)]; rfl
      · rw [if_neg (by omega), if_pos (by omega), if_pos (by omega)]; rfl
      · rw [if_pos (by omega), if_pos (by omega)]; rfl
    · unfold putS
      rw [if_neg (by omega), if_neg (by omega), if_neg e]
  · rw [List.getElem?_eq_none (by simp [cellsS_len]; omega), List.getElem?_eq_none (by rw [cellsS_len]; omega)]
theorem OwnSh.put {w : World} {lo b n c : Nat} {S : Nat → SV} (h : OwnSh w lo (.slice (some ⟨b, 0, none⟩) n c) n S) {k : Nat} (hk : k < n) (z : Int) : OwnSh ((w.setCell ⟨b, k * 4 + 2, none⟩ (.bool true)).setCell ⟨b, k * 4 + 3, none⟩ (.int .i64 z)) lo (.slice (some ⟨b, 0, none⟩) n c) n (putS S k z) := by
  unfold OwnSh at h ⊢
  rw [← cellsS_put S z hk]
  exact (World.ownsRow.stored (World.ownsRow.stored h (k * 4 + 2) (.bool true)).1 (k * 4 + 3) (.int .i64 z)).1
theorem own_empty {w : World} {lo b : Nat} {S : Nat → SV} (hb : Blk w b #[] 105) (hl : lo ≤ b) : OwnSh w lo (.slice (some ⟨b, 0, none⟩) 0 0) 0 S := ⟨rfl, .inr ⟨b, 0, #[], rfl, hl, hb, Nat.le_refl _, by decide, rfl, rfl⟩⟩
theorem OI.keptBlk {w w' : World} {lo g n c b : Nat} {z : Nat → Int} {vs : Array Value} (h : OI w lo g n c z) (hb : Blk w b vs 66) (hg : w.grownBy w' (some b)) : OI w' lo g n c z :=
  h.kept hg (fun e => own_ne_b h hb (by decide) e.symm)
theorem own_ne_own {W : World} {lo lo' k k' n n' b b' c c' : Nat} {T U : TypeId} {xs ys : List Value} (h : W.ownsRow lo T k (.slice (some ⟨b, 0, none⟩) n c) n xs) (h' : W.ownsRow lo' U k' (.slice (some ⟨b', 0, none⟩) n' c') n' ys) (hne : T ≠ U) : b ≠ b' := by
  rcases h.2 with ⟨hv, _⟩ | ⟨g, _, cur, hv, _, hb, _⟩
  · cases hv
  rcases h'.2 with ⟨hv', _⟩ | ⟨g', _, cur', hv', _, hb', _⟩
  · cases hv'
  injection hv with e _ _; injection e with e; injection e with e _
  injection hv' with e' _ _; injection e' with e'; injection e' with e' _
  subst e; subst e'
  intro hbb
  subst hbb
  rw [hb] at hb'
  injection hb' with hb'
  injection hb' with _ k2 _
  exact hne k2
theorem OI.keptSh {w w' : World} {lo lo' g n c b m c' : Nat} {z : Nat → Int} {S : Nat → SV} (h : OI w lo g n c z) (hO : OwnSh w lo' (.slice (some ⟨b, 0, none⟩) m c') m S) (hg : w.grownBy w' (some b)) : OI w' lo g n c z :=
  h.kept hg (fun e => own_ne_own h hO (by decide) (Option.some.inj e))
theorem blk_keptSh {w w' : World} {lo b m c g : Nat} {S : Nat → SV} {vs : Array Value} (h : Blk w g vs 66) (hO : OwnSh w lo (.slice (some ⟨b, 0, none⟩) m c) m S) (hg : w.grownBy w' (some b)) : Blk w' g vs 66 := h.kept hg (own_ne_b hO h (by decide))
set_option maxRecDepth 100000 in
theorem wp_append_sh {o : Oper} {act : Act} {w : World} {K : Act → World → Prop} {Q : Exit → Act → World → Prop} (s x : Operand)
    (ho : o.op = .call { callee := .builtin .append, args := #[s, x], argTypes := #[64, 64] }) (base g : Nat) (S : Nat → SV) (hs : act.eval s = .slice (some ⟨g, 0, none⟩) 0 0) (hown : OwnSh w base (.slice (some ⟨g, 0, none⟩) 0 0) 0 S)
    (a : Option Addr) (n c : Nat) (hx : act.eval x = .slice a n c) (hI : ShIn w a n S) (hsl : Sl a n c) (hn : n ≤ 2000000) (hbase : base ≤ w.heap.size)
    (h : ∀ b c' w', OwnSh w' base (.slice (some ⟨b, 0, none⟩) n c') n S → w.grownBy w' (some g) → K (act.put o.dst (.slice (some ⟨b, 0, none⟩) n c')) w') : o.wp Try.prog act w K Q := by
  obtain ⟨i0, hi, hz0, hz1, hz2⟩ := info_parts info_shn
  rcases hsl with ⟨ad, rfl⟩ | ⟨rfl, rfl⟩
  · have hnews : ∀ j u, (cellsS S n)[j]? = some u → w.cell? (ad.add j) = some u := by
      rcases hI with h0 | ⟨b', off', e, _, hc⟩
      · subst h0; intro j u hu; simp [cellsS] at hu
      · injection e with e; subst e
        exact cellsS_in hc
    refine wp_append_own _ s x _ ho base 105 i0 (.agg #[.int .i64 0, .int .i64 0, .bool false, .int .i64 0]) 4 32 und_shns hi hz0 hz1 hz2 rfl (by decide) _ 0 (cellsS S 0) hs hown ad n c (cellsS S n) hx (cellsS_len S n) hnews (cellsS_one S n) (by unfold maxLen; omega) (by omega) hbase ?_
    intro v' w' ho' hg' hv'
    rw [Nat.zero_add, show cellsS S 0 ++ cellsS S n = cellsS S n from rfl] at ho'
    rcases ho'.2 with ⟨hv, _⟩ | ⟨g', c', cur, hv, _⟩
    · have := (hv'.1 hv).1; cases this
    · subst hv
      exact h g' c' w' ho' hg'
  · have hrun := append_owned_none (P := Try.prog) (w := w) base 64 o.type 105 i0 4 und_shns hi _ 0 c (cellsS S 0) hown
    unfold Oper.wp
    simp [execOp, ho, resolve, invoke, builtin, hs, hx, hrun, Result.andThen]
    exact h g 0 w hown (grown_refl w _)
/-- One part put in, if its member is there. -/
def ptS (S : Nat → SV) (m : Int) (n : Nat) (z : Int) : Nat → SV := if hasz (mS S) m n then putS S (posz (mS S) m n) z else S
theorem ptS_yes {S : Nat → SV} {m : Int} {n : Nat} {z : Int} (h : hasz (mS S) m n = true) : ptS S m n z = putS S (posz (mS S) m n) z := if_pos h
theorem ptS_no {S : Nat → SV} {m : Int} {n : Nat} {z : Int} (h : hasz (mS S) m n = false) : ptS S m n z = S := if_neg (by rw [h]; decide)
/-- What SessionPut answers. -/
def SesP (w : World) (need many : Int) (ng : Nat) (zg : Nat → Int) (nc : Nat) (zc : Nat → Int) (msg : Int) (n : Nat) (S : Nat → SV) (m z : Int) (e : Ending) (w' : World) : Prop :=
  if tsF need many ng zg nc zc msg n S = true ∧ fok z = true then SesC w need many ng zg nc zc msg n (ptS S m n z) (hasz (mS S) m n) e w' else SesZ w e w'
theorem sesP_yes {w : World} {need many : Int} {ng : Nat} {zg : Nat → Int} {nc : Nat} {zc : Nat → Int} {msg : Int} {n : Nat} {S : Nat → SV} {m z : Int} {e : Ending} {w' : World} (h1 : tsF need many ng zg nc zc msg n S = true) (h2 : fok z = true) (h : SesC w need many ng zg nc zc msg n (ptS S m n z) (hasz (mS S) m n) e w') : SesP w need many ng zg nc zc msg n S m z e w' := by unfold SesP; rw [if_pos ⟨h1, h2⟩]; exact h
theorem sesP_no {w : World} {need many : Int} {ng : Nat} {zg : Nat → Int} {nc : Nat} {zc : Nat → Int} {msg : Int} {n : Nat} {S : Nat → SV} {m z : Int} {e : Ending} {w' : World} (h1 : ¬ (tsF need many ng zg nc zc msg n S = true ∧ fok z = true)) (h : SesZ w e w') : SesP w need many ng zg nc zc msg n S m z e w' := by unfold SesP; rw [if_neg h1]; exact h
set_option maxRecDepth 100000 in
set_option maxHeartbeats 4000000 in
theorem s32put (w : World) (need many : Int) (ag : Option Addr) (ng cg : Nat) (zg : Nat → Int) (ac : Option Addr) (nc cc : Nat) (zc : Nat → Int) (msg : Int) (a : Option Addr) (len cap : Nat) (S : Nat → SV) (m z : Int) (hG : Ints w ag ng zg) (hC : Ints w ac nc zc) (hS : ShIn w a len S) (hsg : Sl ag ng cg) (hsc : Sl ac nc cc) (hss : Sl a len cap) (hl1 : ng ≤ 2000000) (hl2 : nc ≤ 2000000) (hl : len ≤ 2000000) :
    Calls Try.prog 55 #[.agg #[.int .i64 need, .int .i64 many, .slice ag ng cg, .slice ac nc cc, .int .i64 msg, .slice a len cap], .int .i64 m, .int .i64 z] w (SesP w need many ng zg nc zc msg len S m z) := by
  have G := Lib.hid (gtr (Draw.grown_alloc w (.cells #[.int .i64 need, .int .i64 many, .slice ag ng cg, .slice ac nc cc, .int .i64 msg, .slice a len cap] 66) none) (Draw.grown_alloc _ (.cells #[.int .i64 0, .int .i64 0, .slice none 0 0, .slice none 0 0, .int .i64 0, .slice none 0 0] 66) none))
  have K := Lib.hid ((Ss.of_blk (Blk.new w #[.int .i64 need, .int .i64 many, .slice ag ng cg, .slice ac nc cc, .int .i64 msg, .slice a len cap] 66)).kept (Draw.grown_alloc _ (.cells #[.int .i64 0, .int .i64 0, .slice none 0 0, .slice none 0 0, .int .i64 0, .slice none 0 0] 66) none))
  have R := Lib.hid (blk_new2 w (.cells #[.int .i64 need, .int .i64 many, .slice ag ng cg, .slice ac nc cc, .int .i64 msg, .slice a len cap] 66) #[.int .i64 0, .int .i64 0, .slice none 0 0, .slice none 0 0, .int .i64 0, .slice none 0 0] 66)
  have HG := Lib.hid (hG.kept G.out); have HC := Lib.hid (hC.kept G.out); have HA := Lib.hid (hS.kept G.out)
  have HSG := Lib.hid hsg; have HSC := Lib.hid hsc; have HSS := Lib.hid hss
  clear hG hC hS hsg hsc hss
  go_enter Try.func55, Try.ntmps55
  obtain ⟨_, k0, k1, k2, k3, k4, k5⟩ := K.out
  go_wp2_with fail
  refine (s32ok _ need many _ ng _ zg _ nc _ zc msg _ len _ S HG.out HC.out HA.out hl1 hl2 hl).mono ?_
  rintro e w0 ⟨rfl, hg⟩
  clear k0 k1 k2 k3 k4 k5
  replace G := Lib.hid (gtr G.out hg)
  replace K := Lib.hid (K.out.kept hg)
  replace R := Lib.hid (R.out.keptN hg)
  replace HG := Lib.hid (HG.out.kept hg)
  replace HC := Lib.hid (HC.out.kept hg)
  replace HA := Lib.hid (HA.out.kept hg)
  clear hg
  obtain ⟨_, k0, k1, k2, k3, k4, k5⟩ := K.out
  cases h1 : tsF need many ng zg nc zc msg len S with
  | false =>
    have H1 := Lib.hid h1
    go_wp2_with (first
      | (refine wpList_store_blk rfl 66 (.tmp 6) (.tmp 18) _ _ _ 66 R.out rfl rfl rfl rfl (by kernel_rfl) (by simp [Value.oneCell']) rfl ?_; intro V hgV hRV; have HGV := Lib.hid hgV; have HRV := Lib.hid hRV; clear hgV hRV))
    (try simp only [Exit.inBlock, Exit.then])
    refine bodyPost_ret (ret_ses2 rfl _ rfl HRV.out) rfl ?_
    exact sesP_no (fun h => by have h2 := h.1; rw [H1.out] at h2; cases h2) ⟨rfl, grown_new G.out (by omega) HGV.out⟩
  | true =>
    have H1 := Lib.hid h1
    clear h1
    rcases fokc z with h2 | h2
    case inr =>
      have H2 := Lib.hid h2
      go_wp2_with fail
      refine (sok_no _ _ h2).mono ?_
      rintro e w' ⟨rfl, rfl⟩
      go_wp2_with (first
        | (refine wpList_store_blk rfl 66 (.tmp 6) (.tmp 18) _ _ _ 66 R.out rfl rfl rfl rfl (by kernel_rfl) (by simp [Value.oneCell']) rfl ?_; intro V hgV hRV; have HGV := Lib.hid hgV; have HRV := Lib.hid hRV; clear hgV hRV))
      (try simp only [Exit.inBlock, Exit.then])
      refine bodyPost_ret (ret_ses2 rfl _ rfl HRV.out) rfl ?_
      exact sesP_no (fun h => by have h2 := h.2; rw [H2.out] at h2; cases h2) ⟨rfl, grown_new G.out (by omega) HGV.out⟩
    have H2 := Lib.hid h2
    go_wp2_with fail
    refine (sok_yes _ _ h2).mono ?_
    rintro e w' ⟨rfl, rfl⟩
    clear h2
    obtain ⟨w1, hW⟩ : ∃ W, W = w0 := ⟨_, rfl⟩; subst hW
    have hw1 : w.heap.size + 1 < w1.heap.size := R.out.lt
    clear k0 k1 k2 k3 k4 k5
    go_wp2_with fail
    refine' (fun (hk : Later _) => ?main) (Later.mk ?rest)
    case main =>
      have C := Lib.hid (grown_refl w1 none)
      have KK := K; have RR := R; have GG := HG; have CC := HC; have AA := HA
      refine wp_region_held_drew (S := (fun w' => w'.cell? ⟨w.heap.size, 0, none⟩ = some (.int .i64 need) ∧ w'.cell? ⟨w.heap.size, 1, none⟩ = some (.int .i64 many) ∧ w'.cell? ⟨w.heap.size, 2, none⟩ = some (.slice ag ng cg) ∧ w'.cell? ⟨w.heap.size, 3, none⟩ = some (.slice ac nc cc) ∧ w'.cell? ⟨w.heap.size, 4, none⟩ = some (.int .i64 msg) ∧ w'.cell? ⟨w.heap.size, 5, none⟩ = some (.slice a len cap))) (by kernel_rfl) (⟨KK.out.c0, KK.out.c1, KK.out.c2, KK.out.c3, KK.out.c4, KK.out.c5⟩) (fun hHeld => ?_)
      have hg := Draw.gdrew w1
      generalize (w1).drew = W at hg hHeld ⊢
      replace C := Lib.hid (gtr C.out hg)
      replace KK := Lib.hid (KK.out.kept hg)
      replace RR := Lib.hid (RR.out.keptN hg)
      replace GG := Lib.hid (GG.out.kept hg)
      replace CC := Lib.hid (CC.out.kept hg)
      replace AA := Lib.hid (AA.out.kept hg)
      clear hg
      refine wpAnyH_take (i := 0) (oi := ⟨some 19, _, _, _, _, _⟩) (v := ?_) rfl (by kernel_rfl) (by kernel_rfl) (by kernel_rfl) (fun _ _ _ h => h) (Or.inl ⟨by rfl, ?_⟩) (by assumption) ?_
      rotate_left
      · intro w hSw; (try dsimp only at hSw); go_simp; try with_reducible rfl
      simp only [Act.put, List.setIfInBounds_toArray, List.set_cons_zero, List.set_cons_succ]
      refine wpAnyH_take (i := 1) (oi := ⟨some 20, _, _, _, _, _⟩) (v := ?_) rfl (by kernel_rfl) (by kernel_rfl) (by kernel_rfl) (fun _ _ _ h => h) (Or.inl ⟨by rfl, ?_⟩) (by assumption) ?_
      rotate_left
      · intro w hSw; (try dsimp only at hSw); go_simp; try with_reducible rfl
      simp only [Act.put, List.setIfInBounds_toArray, List.set_cons_zero, List.set_cons_succ]
      refine wpAnyH_take (i := 3) (oi := ⟨some 22, _, _, _, _, _⟩) (v := ?_) rfl (by kernel_rfl) (by kernel_rfl) (by kernel_rfl) (fun _ _ _ h => h) (Or.inl ⟨by rfl, ?_⟩) (by assumption) ?_
      rotate_left
      · intro w hSw; (try dsimp only at hSw); go_simp; try with_reducible rfl
      simp only [Act.put, List.setIfInBounds_toArray, List.set_cons_zero, List.set_cons_succ]
      refine wpAnyH_take (i := 4) (oi := ⟨some 23, _, _, _, _, _⟩) (v := ?_) rfl (by kernel_rfl) (by kernel_rfl) (by kernel_rfl) (fun _ _ _ h => h) (Or.inl ⟨by rfl, ?_⟩) (by assumption) ?_
      rotate_left
      · intro w hSw; (try dsimp only at hSw); go_simp; try with_reducible rfl
      simp only [Act.put, List.setIfInBounds_toArray, List.set_cons_zero, List.set_cons_succ]
      refine wpAnyH_take (i := 6) (oi := ⟨some 25, _, _, _, _, _⟩) (v := ?_) rfl (by kernel_rfl) (by kernel_rfl) (by kernel_rfl) (fun _ _ _ h => h) (Or.inl ⟨by rfl, ?_⟩) (by assumption) ?_
      rotate_left
      · intro w hSw; (try dsimp only at hSw); go_simp; try with_reducible rfl
      simp only [Act.put, List.setIfInBounds_toArray, List.set_cons_zero, List.set_cons_succ]
      refine wpAnyH_take (i := 7) (oi := ⟨some 26, _, _, _, _, _⟩) (v := ?_) rfl (by kernel_rfl) (by kernel_rfl) (by kernel_rfl) (fun _ _ _ h => h) (Or.inl ⟨by rfl, ?_⟩) (by assumption) ?_
      rotate_left
      · intro w hSw; (try dsimp only at hSw); go_simp; try with_reducible rfl
      simp only [Act.put, List.setIfInBounds_toArray, List.set_cons_zero, List.set_cons_succ]
      refine wpAnyH_ready (rs := [2, 5, 10]) (by kernel_rfl) (by simp) ?_
      refine AllReadyH.cons (o := ⟨some 21, _, _, _, _, _⟩) rfl (fun Kq hKq => ?_) (AllReadyH.cons (o := ⟨some 24, _, _, _, _, _⟩) rfl (fun Kq hKq => ?_) (AllReadyH.cons (o := ⟨some 8, _, _, _, _, _⟩) rfl (fun Kq hKq => ?_) AllReadyH.nil))
      · go_simp
        go_at_call 81
        refine (s12copy _ need many _ ng _ zg _ nc _ zc GG.out CC.out HSG.out HSC.out hl1 hl2).mono ?_
        rintro e W2 ⟨b1, c1, b2, c2, rfl, hi1, hi2, hg⟩
        have I1 := Lib.hid (hi1.lower (lo' := w1.heap.size) C.out.size); have I2 := Lib.hid (hi2.lower (lo' := w1.heap.size) C.out.size)
        clear hi1 hi2
        replace C := Lib.hid (gtr C.out hg)
        replace KK := Lib.hid (KK.out.kept hg)
        replace RR := Lib.hid (RR.out.keptN hg)
        replace GG := Lib.hid (GG.out.kept hg)
        replace CC := Lib.hid (CC.out.kept hg)
        replace AA := Lib.hid (AA.out.kept hg)
        clear hg
        refine hKq.out _ _ (⟨KK.out.c0, KK.out.c1, KK.out.c2, KK.out.c3, KK.out.c4, KK.out.c5⟩) (fun hHeld => ?_)
        clear hKq Kq
        refine wpAnyH_ready (rs := [5, 10]) (by kernel_rfl) (by simp) ?_
        refine AllReadyH.cons (o := ⟨some 24, _, _, _, _, _⟩) rfl (fun Kq hKq => ?_) (AllReadyH.cons (o := ⟨some 8, _, _, _, _, _⟩) rfl (fun Kq hKq => ?_) AllReadyH.nil)
        · go_simp
          refine at_alloc ?_
          intro W5 hg hT
          have E := Lib.hid (own_empty (S := S) hT C.out.size)
          clear hT
          replace C := Lib.hid (gtr C.out hg)
          replace KK := Lib.hid (KK.out.kept hg)
          replace RR := Lib.hid (RR.out.keptN hg)
          replace GG := Lib.hid (GG.out.kept hg)
          replace CC := Lib.hid (CC.out.kept hg)
          replace AA := Lib.hid (AA.out.kept hg)
          replace I1 := Lib.hid (I1.out.keptN hg)
          replace I2 := Lib.hid (I2.out.keptN hg)
          clear hg
          generalize W2.heap.size = x5 at *
          refine hKq.out _ _ (⟨KK.out.c0, KK.out.c1, KK.out.c2, KK.out.c3, KK.out.c4, KK.out.c5⟩) (fun hHeld => ?_)
          clear hKq Kq
          refine wpAnyH_ready (rs := [8, 10]) (by kernel_rfl) (by simp) ?_
          refine AllReadyH.cons (o := ⟨some 27, _, _, _, _, _⟩) rfl (fun Kq hKq => ?_) (AllReadyH.cons (o := ⟨some 8, _, _, _, _, _⟩) rfl (fun Kq hKq => ?_) AllReadyH.nil)
          · rw [if_pos (by rfl)]
            refine wp_append_sh (.tmp 24) (.tmp 26) rfl w1.heap.size x5 S rfl E.out a len cap rfl AA.out HSS.out hl C.out.size ?_
            intro b3 c3 W8 hO hg
            have hx5 : w1.heap.size ≤ x5 := (World.ownsRow.lt E.out x5 rfl).1
            have I1' := I1.out.keptSh E.out hg; have I2' := I2.out.keptSh E.out hg
            try have B' := blk_keptSh B.out E.out hg
            have C' := grown_new C.out hx5 hg
            have K' := KK.out.keptB (hg.block _ KK.out.lt (by intro e; have e := Option.some.inj e; omega)) hg.size
            clear I1 I2 C KK RR GG CC AA E hg
            try clear B
            have I1 := Lib.hid I1'; have I2 := Lib.hid I2'; have C := Lib.hid C'; have KK := Lib.hid K'; have O := Lib.hid hO
            try have B := Lib.hid B'
            try clear B'
            clear I1' I2' C' K' hO hx5
            refine hKq.out _ _ (⟨KK.out.c0, KK.out.c1, KK.out.c2, KK.out.c3, KK.out.c4, KK.out.c5⟩) (fun hHeld => ?_)
            clear hKq Kq
            refine wpAnyH_take (i := 9) (oi := ⟨some 28, _, _, _, _, _⟩) (v := ?_) rfl (by kernel_rfl) (by kernel_rfl) (by kernel_rfl) (fun _ _ _ h => h) (Or.inl ⟨by rfl, ?_⟩) (by assumption) ?_
            rotate_left
            · intro w hSw; (try dsimp only at hSw); go_simp; try with_reducible rfl
            simp only [Act.put, List.setIfInBounds_toArray, List.set_cons_zero, List.set_cons_succ]
            refine wpAnyH_ready (rs := [10]) (by kernel_rfl) (by simp) ?_
            refine AllReadyH.cons (o := ⟨some 8, _, _, _, _, _⟩) rfl (fun Kq hKq => ?_) AllReadyH.nil
            go_simp
            refine at_alloc ?_
            intro W10 hg hT
            have hx10 : w1.heap.size ≤ W8.heap.size := C.out.size
            generalize W8.heap.size = x10 at *
            have B := Lib.hid hT
            replace I1 := Lib.hid (I1.out.keptN hg)
            replace I2 := Lib.hid (I2.out.keptN hg)
            replace C := Lib.hid (gtr C.out hg)
            replace KK := Lib.hid (KK.out.kept hg)
            replace O := Lib.hid (O.out.kept hg (fun g e => by cases e))
            clear hg
            clear hT
            refine hKq.out _ _ (⟨KK.out.c0, KK.out.c1, KK.out.c2, KK.out.c3, KK.out.c4, KK.out.c5⟩) (fun hHeld => ?_)
            clear hKq Kq
            refine wpAnyH_ready (rs := [11]) (by kernel_rfl) (by simp) ?_
            refine AllReadyH.cons (o := ⟨none, _, _, _, _, _⟩) rfl (fun Kq hKq => ?_) AllReadyH.nil
            rw [if_pos (by rfl)]
            refine wp_store_blk 66 (.tmp 8) (.tmp 28) x10 #[.int .i64 need, .int .i64 many, .slice (some ⟨b1, 0, none⟩) ng c1, .slice (some ⟨b2, 0, none⟩) nc c2, .int .i64 msg, .slice (some ⟨b3, 0, none⟩) len c3] _ 66 B.out rfl rfl rfl rfl (by kernel_rfl) (by simp [Value.oneCell']) rfl ?_
            intro W11 hg hT
            have I1' := I1.out.keptBlk B.out hg; have I2' := I2.out.keptBlk B.out hg; have O' := O.out.keptBlk B.out hg
            have C' := grown_new C.out hx10 hg
            have K' := KK.out.keptB (hg.block _ KK.out.lt (by intro e; have e := Option.some.inj e; omega)) hg.size
            clear I1 I2 C KK O B hg
            have I1 := Lib.hid I1'; have I2 := Lib.hid I2'; have C := Lib.hid C'; have KK := Lib.hid K'; have O := Lib.hid O'; have B := Lib.hid hT
            clear I1' I2' C' K' O' hT
            refine hKq.out _ _ (⟨KK.out.c0, KK.out.c1, KK.out.c2, KK.out.c3, KK.out.c4, KK.out.c5⟩) (fun hHeld => ?_)
            clear hKq Kq
            refine wpAnyH_done (by kernel_rfl) ?_ _
            clear KK hHeld
            revert I1; revert I2; revert C; revert O; revert B; revert hx10; revert W11; revert x5; revert x10; revert b1; revert c1; revert b2; revert c2; revert b3; revert c3
            exact hk.out
          · go_simp
            refine at_alloc ?_
            intro W10 hg hT
            have hx10 : w1.heap.size ≤ W5.heap.size := C.out.size
            generalize W5.heap.size = x10 at *
            have B := Lib.hid hT
            replace C := Lib.hid (gtr C.out hg)
            replace KK := Lib.hid (KK.out.kept hg)
            replace RR := Lib.hid (RR.out.keptN hg)
            replace GG := Lib.hid (GG.out.kept hg)
            replace CC := Lib.hid (CC.out.kept hg)
            replace AA := Lib.hid (AA.out.kept hg)
            replace I1 := Lib.hid (I1.out.keptN hg)
            replace I2 := Lib.hid (I2.out.keptN hg)
            replace E := Lib.hid (E.out.kept hg (fun g e => by cases e))
            clear hg
            clear hT
            refine hKq.out _ _ (⟨KK.out.c0, KK.out.c1, KK.out.c2, KK.out.c3, KK.out.c4, KK.out.c5⟩) (fun hHeld => ?_)
            clear hKq Kq
            refine wpAnyH_ready (rs := [8]) (by kernel_rfl) (by simp) ?_
            refine AllReadyH.cons (o := ⟨some 27, _, _, _, _, _⟩) rfl (fun Kq hKq => ?_) AllReadyH.nil
            rw [if_pos (by rfl)]
            refine wp_append_sh (.tmp 24) (.tmp 26) rfl w1.heap.size x5 S rfl E.out a len cap rfl AA.out HSS.out hl C.out.size ?_
            intro b3 c3 W8 hO hg
            have hx5 : w1.heap.size ≤ x5 := (World.ownsRow.lt E.out x5 rfl).1
            have I1' := I1.out.keptSh E.out hg; have I2' := I2.out.keptSh E.out hg
            try have B' := blk_keptSh B.out E.out hg
            have C' := grown_new C.out hx5 hg
            have K' := KK.out.keptB (hg.block _ KK.out.lt (by intro e; have e := Option.some.inj e; omega)) hg.size
            clear I1 I2 C KK RR GG CC AA E hg
            try clear B
            have I1 := Lib.hid I1'; have I2 := Lib.hid I2'; have C := Lib.hid C'; have KK := Lib.hid K'; have O := Lib.hid hO
            try have B := Lib.hid B'
            try clear B'
            clear I1' I2' C' K' hO hx5
            refine hKq.out _ _ (⟨KK.out.c0, KK.out.c1, KK.out.c2, KK.out.c3, KK.out.c4, KK.out.c5⟩) (fun hHeld => ?_)
            clear hKq Kq
            refine wpAnyH_take (i := 9) (oi := ⟨some 28, _, _, _, _, _⟩) (v := ?_) rfl (by kernel_rfl) (by kernel_rfl) (by kernel_rfl) (fun _ _ _ h => h) (Or.inl ⟨by rfl, ?_⟩) (by assumption) ?_
            rotate_left
            · intro w hSw; (try dsimp only at hSw); go_simp; try with_reducible rfl
            simp only [Act.put, List.setIfInBounds_toArray, List.set_cons_zero, List.set_cons_succ]
            refine wpAnyH_ready (rs := [11]) (by kernel_rfl) (by simp) ?_
            refine AllReadyH.cons (o := ⟨none, _, _, _, _, _⟩) rfl (fun Kq hKq => ?_) AllReadyH.nil
            rw [if_pos (by rfl)]
            refine wp_store_blk 66 (.tmp 8) (.tmp 28) x10 #[.int .i64 need, .int .i64 many, .slice (some ⟨b1, 0, none⟩) ng c1, .slice (some ⟨b2, 0, none⟩) nc c2, .int .i64 msg, .slice (some ⟨b3, 0, none⟩) len c3] _ 66 B.out rfl rfl rfl rfl (by kernel_rfl) (by simp [Value.oneCell']) rfl ?_
            intro W11 hg hT
            have I1' := I1.out.keptBlk B.out hg; have I2' := I2.out.keptBlk B.out hg; have O' := O.out.keptBlk B.out hg
            have C' := grown_new C.out hx10 hg
            have K' := KK.out.keptB (hg.block _ KK.out.lt (by intro e; have e := Option.some.inj e; omega)) hg.size
            clear I1 I2 C KK O B hg
            have I1 := Lib.hid I1'; have I2 := Lib.hid I2'; have C := Lib.hid C'; have KK := Lib.hid K'; have O := Lib.hid O'; have B := Lib.hid hT
            clear I1' I2' C' K' O' hT
            refine hKq.out _ _ (⟨KK.out.c0, KK.out.c1, KK.out.c2, KK.out.c3, KK.out.c4, KK.out.c5⟩) (fun hHeld => ?_)
            clear hKq Kq
            refine wpAnyH_done (by kernel_rfl) ?_ _
            clear KK hHeld
            revert I1; revert I2; revert C; revert O; revert B; revert hx10; revert W11; revert x5; revert x10; revert b1; revert c1; revert b2; revert c2; revert b3; revert c3
            exact hk.out
        · go_simp
          refine at_alloc ?_
          intro W10 hg hT
          have hx10 : w1.heap.size ≤ W2.heap.size := C.out.size
          generalize W2.heap.size = x10 at *
          have B := Lib.hid hT
          replace C := Lib.hid (gtr C.out hg)
          replace KK := Lib.hid (KK.out.kept hg)
          replace RR := Lib.hid (RR.out.keptN hg)
          replace GG := Lib.hid (GG.out.kept hg)
          replace CC := Lib.hid (CC.out.kept hg)
          replace AA := Lib.hid (AA.out.kept hg)
          replace I1 := Lib.hid (I1.out.keptN hg)
          replace I2 := Lib.hid (I2.out.keptN hg)
          clear hg
          clear hT
          refine hKq.out _ _ (⟨KK.out.c0, KK.out.c1, KK.out.c2, KK.out.c3, KK.out.c4, KK.out.c5⟩) (fun hHeld => ?_)
          clear hKq Kq
          refine wpAnyH_ready (rs := [5]) (by kernel_rfl) (by simp) ?_
          refine AllReadyH.cons (o := ⟨some 24, _, _, _, _, _⟩) rfl (fun Kq hKq => ?_) AllReadyH.nil
          go_simp
          refine at_alloc ?_
          intro W5 hg hT
          have E := Lib.hid (own_empty (S := S) hT C.out.size)
          clear hT
          replace C := Lib.hid (gtr C.out hg)
          replace KK := Lib.hid (KK.out.kept hg)
          replace RR := Lib.hid (RR.out.keptN hg)
          replace GG := Lib.hid (GG.out.kept hg)
          replace CC := Lib.hid (CC.out.kept hg)
          replace AA := Lib.hid (AA.out.kept hg)
          replace I1 := Lib.hid (I1.out.keptN hg)
          replace I2 := Lib.hid (I2.out.keptN hg)
          replace B := Lib.hid (B.out.keptN hg)
          clear hg
          generalize W10.heap.size = x5 at *
          refine hKq.out _ _ (⟨KK.out.c0, KK.out.c1, KK.out.c2, KK.out.c3, KK.out.c4, KK.out.c5⟩) (fun hHeld => ?_)
          clear hKq Kq
          refine wpAnyH_ready (rs := [8]) (by kernel_rfl) (by simp) ?_
          refine AllReadyH.cons (o := ⟨some 27, _, _, _, _, _⟩) rfl (fun Kq hKq => ?_) AllReadyH.nil
          rw [if_pos (by rfl)]
          refine wp_append_sh (.tmp 24) (.tmp 26) rfl w1.heap.size x5 S rfl E.out a len cap rfl AA.out HSS.out hl C.out.size ?_
          intro b3 c3 W8 hO hg
          have hx5 : w1.heap.size ≤ x5 := (World.ownsRow.lt E.out x5 rfl).1
          have I1' := I1.out.keptSh E.out hg; have I2' := I2.out.keptSh E.out hg
          try have B' := blk_keptSh B.out E.out hg
          have C' := grown_new C.out hx5 hg
          have K' := KK.out.keptB (hg.block _ KK.out.lt (by intro e; have e := Option.some.inj e; omega)) hg.size
          clear I1 I2 C KK RR GG CC AA E hg
          try clear B
          have I1 := Lib.hid I1'; have I2 := Lib.hid I2'; have C := Lib.hid C'; have KK := Lib.hid K'; have O := Lib.hid hO
          try have B := Lib.hid B'
          try clear B'
          clear I1' I2' C' K' hO hx5
          refine hKq.out _ _ (⟨KK.out.c0, KK.out.c1, KK.out.c2, KK.out.c3, KK.out.c4, KK.out.c5⟩) (fun hHeld => ?_)
          clear hKq Kq
          refine wpAnyH_take (i := 9) (oi := ⟨some 28, _, _, _, _, _⟩) (v := ?_) rfl (by kernel_rfl) (by kernel_rfl) (by kernel_rfl) (fun _ _ _ h => h) (Or.inl ⟨by rfl, ?_⟩) (by assumption) ?_
          rotate_left
          · intro w hSw; (try dsimp only at hSw); go_simp; try with_reducible rfl
          simp only [Act.put, List.setIfInBounds_toArray, List.set_cons_zero, List.set_cons_succ]
          refine wpAnyH_ready (rs := [11]) (by kernel_rfl) (by simp) ?_
          refine AllReadyH.cons (o := ⟨none, _, _, _, _, _⟩) rfl (fun Kq hKq => ?_) AllReadyH.nil
          rw [if_pos (by rfl)]
          refine wp_store_blk 66 (.tmp 8) (.tmp 28) x10 #[.int .i64 need, .int .i64 many, .slice (some ⟨b1, 0, none⟩) ng c1, .slice (some ⟨b2, 0, none⟩) nc c2, .int .i64 msg, .slice (some ⟨b3, 0, none⟩) len c3] _ 66 B.out rfl rfl rfl rfl (by kernel_rfl) (by simp [Value.oneCell']) rfl ?_
          intro W11 hg hT
          have I1' := I1.out.keptBlk B.out hg; have I2' := I2.out.keptBlk B.out hg; have O' := O.out.keptBlk B.out hg
          have C' := grown_new C.out hx10 hg
          have K' := KK.out.keptB (hg.block _ KK.out.lt (by intro e; have e := Option.some.inj e; omega)) hg.size
          clear I1 I2 C KK O B hg
          have I1 := Lib.hid I1'; have I2 := Lib.hid I2'; have C := Lib.hid C'; have KK := Lib.hid K'; have O := Lib.hid O'; have B := Lib.hid hT
          clear I1' I2' C' K' O' hT
          refine hKq.out _ _ (⟨KK.out.c0, KK.out.c1, KK.out.c2, KK.out.c3, KK.out.c4, KK.out.c5⟩) (fun hHeld => ?_)
          clear hKq Kq
          refine wpAnyH_done (by kernel_rfl) ?_ _
          clear KK hHeld
          revert I1; revert I2; revert C; revert O; revert B; revert hx10; revert W11; revert x5; revert x10; revert b1; revert c1; revert b2; revert c2; revert b3; revert c3
          exact hk.out
      · go_simp
        refine at_alloc ?_
        intro W5 hg hT
        have E := Lib.hid (own_empty (S := S) hT C.out.size)
        clear hT
        replace C := Lib.hid (gtr C.out hg)
        replace KK := Lib.hid (KK.out.kept hg)
        replace RR := Lib.hid (RR.out.keptN hg)
        replace GG := Lib.hid (GG.out.kept hg)
        replace CC := Lib.hid (CC.out.kept hg)
        replace AA := Lib.hid (AA.out.kept hg)
        clear hg
        generalize W.heap.size = x5 at *
        refine hKq.out _ _ (⟨KK.out.c0, KK.out.c1, KK.out.c2, KK.out.c3, KK.out.c4, KK.out.c5⟩) (fun hHeld => ?_)
        clear hKq Kq
        refine wpAnyH_ready (rs := [2, 10]) (by kernel_rfl) (by simp) ?_
        refine AllReadyH.cons (o := ⟨some 21, _, _, _, _, _⟩) rfl (fun Kq hKq => ?_) (AllReadyH.cons (o := ⟨some 8, _, _, _, _, _⟩) rfl (fun Kq hKq => ?_) AllReadyH.nil)
        · go_simp
          go_at_call 81
          refine (s12copy _ need many _ ng _ zg _ nc _ zc GG.out CC.out HSG.out HSC.out hl1 hl2).mono ?_
          rintro e W2 ⟨b1, c1, b2, c2, rfl, hi1, hi2, hg⟩
          have I1 := Lib.hid (hi1.lower (lo' := w1.heap.size) C.out.size); have I2 := Lib.hid (hi2.lower (lo' := w1.heap.size) C.out.size)
          clear hi1 hi2
          replace C := Lib.hid (gtr C.out hg)
          replace KK := Lib.hid (KK.out.kept hg)
          replace RR := Lib.hid (RR.out.keptN hg)
          replace GG := Lib.hid (GG.out.kept hg)
          replace CC := Lib.hid (CC.out.kept hg)
          replace AA := Lib.hid (AA.out.kept hg)
          replace E := Lib.hid (E.out.kept hg (fun g e => by cases e))
          clear hg
          refine hKq.out _ _ (⟨KK.out.c0, KK.out.c1, KK.out.c2, KK.out.c3, KK.out.c4, KK.out.c5⟩) (fun hHeld => ?_)
          clear hKq Kq
          refine wpAnyH_ready (rs := [8, 10]) (by kernel_rfl) (by simp) ?_
          refine AllReadyH.cons (o := ⟨some 27, _, _, _, _, _⟩) rfl (fun Kq hKq => ?_) (AllReadyH.cons (o := ⟨some 8, _, _, _, _, _⟩) rfl (fun Kq hKq => ?_) AllReadyH.nil)
          · rw [if_pos (by rfl)]
            refine wp_append_sh (.tmp 24) (.tmp 26) rfl w1.heap.size x5 S rfl E.out a len cap rfl AA.out HSS.out hl C.out.size ?_
            intro b3 c3 W8 hO hg
            have hx5 : w1.heap.size ≤ x5 := (World.ownsRow.lt E.out x5 rfl).1
            have I1' := I1.out.keptSh E.out hg; have I2' := I2.out.keptSh E.out hg
            try have B' := blk_keptSh B.out E.out hg
            have C' := grown_new C.out hx5 hg
            have K' := KK.out.keptB (hg.block _ KK.out.lt (by intro e; have e := Option.some.inj e; omega)) hg.size
            clear I1 I2 C KK RR GG CC AA E hg
            try clear B
            have I1 := Lib.hid I1'; have I2 := Lib.hid I2'; have C := Lib.hid C'; have KK := Lib.hid K'; have O := Lib.hid hO
            try have B := Lib.hid B'
            try clear B'
            clear I1' I2' C' K' hO hx5
            refine hKq.out _ _ (⟨KK.out.c0, KK.out.c1, KK.out.c2, KK.out.c3, KK.out.c4, KK.out.c5⟩) (fun hHeld => ?_)
            clear hKq Kq
            refine wpAnyH_take (i := 9) (oi := ⟨some 28, _, _, _, _, _⟩) (v := ?_) rfl (by kernel_rfl) (by kernel_rfl) (by kernel_rfl) (fun _ _ _ h => h) (Or.inl ⟨by rfl, ?_⟩) (by assumption) ?_
            rotate_left
            · intro w hSw; (try dsimp only at hSw); go_simp; try with_reducible rfl
            simp only [Act.put, List.setIfInBounds_toArray, List.set_cons_zero, List.set_cons_succ]
            refine wpAnyH_ready (rs := [10]) (by kernel_rfl) (by simp) ?_
            refine AllReadyH.cons (o := ⟨some 8, _, _, _, _, _⟩) rfl (fun Kq hKq => ?_) AllReadyH.nil
            go_simp
            refine at_alloc ?_
            intro W10 hg hT
            have hx10 : w1.heap.size ≤ W8.heap.size := C.out.size
            generalize W8.heap.size = x10 at *
            have B := Lib.hid hT
            replace I1 := Lib.hid (I1.out.keptN hg)
            replace I2 := Lib.hid (I2.out.keptN hg)
            replace C := Lib.hid (gtr C.out hg)
            replace KK := Lib.hid (KK.out.kept hg)
            replace O := Lib.hid (O.out.kept hg (fun g e => by cases e))
            clear hg
            clear hT
            refine hKq.out _ _ (⟨KK.out.c0, KK.out.c1, KK.out.c2, KK.out.c3, KK.out.c4, KK.out.c5⟩) (fun hHeld => ?_)
            clear hKq Kq
            refine wpAnyH_ready (rs := [11]) (by kernel_rfl) (by simp) ?_
            refine AllReadyH.cons (o := ⟨none, _, _, _, _, _⟩) rfl (fun Kq hKq => ?_) AllReadyH.nil
            rw [if_pos (by rfl)]
            refine wp_store_blk 66 (.tmp 8) (.tmp 28) x10 #[.int .i64 need, .int .i64 many, .slice (some ⟨b1, 0, none⟩) ng c1, .slice (some ⟨b2, 0, none⟩) nc c2, .int .i64 msg, .slice (some ⟨b3, 0, none⟩) len c3] _ 66 B.out rfl rfl rfl rfl (by kernel_rfl) (by simp [Value.oneCell']) rfl ?_
            intro W11 hg hT
            have I1' := I1.out.keptBlk B.out hg; have I2' := I2.out.keptBlk B.out hg; have O' := O.out.keptBlk B.out hg
            have C' := grown_new C.out hx10 hg
            have K' := KK.out.keptB (hg.block _ KK.out.lt (by intro e; have e := Option.some.inj e; omega)) hg.size
            clear I1 I2 C KK O B hg
            have I1 := Lib.hid I1'; have I2 := Lib.hid I2'; have C := Lib.hid C'; have KK := Lib.hid K'; have O := Lib.hid O'; have B := Lib.hid hT
            clear I1' I2' C' K' O' hT
            refine hKq.out _ _ (⟨KK.out.c0, KK.out.c1, KK.out.c2, KK.out.c3, KK.out.c4, KK.out.c5⟩) (fun hHeld => ?_)
            clear hKq Kq
            refine wpAnyH_done (by kernel_rfl) ?_ _
            clear KK hHeld
            revert I1; revert I2; revert C; revert O; revert B; revert hx10; revert W11; revert x5; revert x10; revert b1; revert c1; revert b2; revert c2; revert b3; revert c3
            exact hk.out
          · go_simp
            refine at_alloc ?_
            intro W10 hg hT
            have hx10 : w1.heap.size ≤ W2.heap.size := C.out.size
            generalize W2.heap.size = x10 at *
            have B := Lib.hid hT
            replace C := Lib.hid (gtr C.out hg)
            replace KK := Lib.hid (KK.out.kept hg)
            replace RR := Lib.hid (RR.out.keptN hg)
            replace GG := Lib.hid (GG.out.kept hg)
            replace CC := Lib.hid (CC.out.kept hg)
            replace AA := Lib.hid (AA.out.kept hg)
            replace E := Lib.hid (E.out.kept hg (fun g e => by cases e))
            replace I1 := Lib.hid (I1.out.keptN hg)
            replace I2 := Lib.hid (I2.out.keptN hg)
            clear hg
            clear hT
            refine hKq.out _ _ (⟨KK.out.c0, KK.out.c1, KK.out.c2, KK.out.c3, KK.out.c4, KK.out.c5⟩) (fun hHeld => ?_)
            clear hKq Kq
            refine wpAnyH_ready (rs := [8]) (by kernel_rfl) (by simp) ?_
            refine AllReadyH.cons (o := ⟨some 27, _, _, _, _, _⟩) rfl (fun Kq hKq => ?_) AllReadyH.nil
            rw [if_pos (by rfl)]
            refine wp_append_sh (.tmp 24) (.tmp 26) rfl w1.heap.size x5 S rfl E.out a len cap rfl AA.out HSS.out hl C.out.size ?_
            intro b3 c3 W8 hO hg
            have hx5 : w1.heap.size ≤ x5 := (World.ownsRow.lt E.out x5 rfl).1
            have I1' := I1.out.keptSh E.out hg; have I2' := I2.out.keptSh E.out hg
            try have B' := blk_keptSh B.out E.out hg
            have C' := grown_new C.out hx5 hg
            have K' := KK.out.keptB (hg.block _ KK.out.lt (by intro e; have e := Option.some.inj e; omega)) hg.size
            clear I1 I2 C KK RR GG CC AA E hg
            try clear B
            have I1 := Lib.hid I1'; have I2 := Lib.hid I2'; have C := Lib.hid C'; have KK := Lib.hid K'; have O := Lib.hid hO
            try have B := Lib.hid B'
            try clear B'
            clear I1' I2' C' K' hO hx5
            refine hKq.out _ _ (⟨KK.out.c0, KK.out.c1, KK.out.c2, KK.out.c3, KK.out.c4, KK.out.c5⟩) (fun hHeld => ?_)
            clear hKq Kq
            refine wpAnyH_take (i := 9) (oi := ⟨some 28, _, _, _, _, _⟩) (v := ?_) rfl (by kernel_rfl) (by kernel_rfl) (by kernel_rfl) (fun _ _ _ h => h) (Or.inl ⟨by rfl, ?_⟩) (by assumption) ?_
            rotate_left
            · intro w hSw; (try dsimp only at hSw); go_simp; try with_reducible rfl
            simp only [Act.put, List.setIfInBounds_toArray, List.set_cons_zero, List.set_cons_succ]
            refine wpAnyH_ready (rs := [11]) (by kernel_rfl) (by simp) ?_
            refine AllReadyH.cons (o := ⟨none, _, _, _, _, _⟩) rfl (fun Kq hKq => ?_) AllReadyH.nil
            rw [if_pos (by rfl)]
            refine wp_store_blk 66 (.tmp 8) (.tmp 28) x10 #[.int .i64 need, .int .i64 many, .slice (some ⟨b1, 0, none⟩) ng c1, .slice (some ⟨b2, 0, none⟩) nc c2, .int .i64 msg, .slice (some ⟨b3, 0, none⟩) len c3] _ 66 B.out rfl rfl rfl rfl (by kernel_rfl) (by simp [Value.oneCell']) rfl ?_
            intro W11 hg hT
            have I1' := I1.out.keptBlk B.out hg; have I2' := I2.out.keptBlk B.out hg; have O' := O.out.keptBlk B.out hg
            have C' := grown_new C.out hx10 hg
            have K' := KK.out.keptB (hg.block _ KK.out.lt (by intro e; have e := Option.some.inj e; omega)) hg.size
            clear I1 I2 C KK O B hg
            have I1 := Lib.hid I1'; have I2 := Lib.hid I2'; have C := Lib.hid C'; have KK := Lib.hid K'; have O := Lib.hid O'; have B := Lib.hid hT
            clear I1' I2' C' K' O' hT
            refine hKq.out _ _ (⟨KK.out.c0, KK.out.c1, KK.out.c2, KK.out.c3, KK.out.c4, KK.out.c5⟩) (fun hHeld => ?_)
            clear hKq Kq
            refine wpAnyH_done (by kernel_rfl) ?_ _
            clear KK hHeld
            revert I1; revert I2; revert C; revert O; revert B; revert hx10; revert W11; revert x5; revert x10; revert b1; revert c1; revert b2; revert c2; revert b3; revert c3
            exact hk.out
        · go_simp
          refine at_alloc ?_
          intro W10 hg hT
          have hx10 : w1.heap.size ≤ W5.heap.size := C.out.size
          generalize W5.heap.size = x10 at *
          have B := Lib.hid hT
          replace C := Lib.hid (gtr C.out hg)
          replace KK := Lib.hid (KK.out.kept hg)
          replace RR := Lib.hid (RR.out.keptN hg)
          replace GG := Lib.hid (GG.out.kept hg)
          replace CC := Lib.hid (CC.out.kept hg)
          replace AA := Lib.hid (AA.out.kept hg)
          replace E := Lib.hid (E.out.kept hg (fun g e => by cases e))
          clear hg
          clear hT
          refine hKq.out _ _ (⟨KK.out.c0, KK.out.c1, KK.out.c2, KK.out.c3, KK.out.c4, KK.out.c5⟩) (fun hHeld => ?_)
          clear hKq Kq
          refine wpAnyH_ready (rs := [2]) (by kernel_rfl) (by simp) ?_
          refine AllReadyH.cons (o := ⟨some 21, _, _, _, _, _⟩) rfl (fun Kq hKq => ?_) AllReadyH.nil
          go_simp
          go_at_call 81
          refine (s12copy _ need many _ ng _ zg _ nc _ zc GG.out CC.out HSG.out HSC.out hl1 hl2).mono ?_
          rintro e W2 ⟨b1, c1, b2, c2, rfl, hi1, hi2, hg⟩
          have I1 := Lib.hid (hi1.lower (lo' := w1.heap.size) C.out.size); have I2 := Lib.hid (hi2.lower (lo' := w1.heap.size) C.out.size)
          clear hi1 hi2
          replace C := Lib.hid (gtr C.out hg)
          replace KK := Lib.hid (KK.out.kept hg)
          replace RR := Lib.hid (RR.out.keptN hg)
          replace GG := Lib.hid (GG.out.kept hg)
          replace CC := Lib.hid (CC.out.kept hg)
          replace AA := Lib.hid (AA.out.kept hg)
          replace E := Lib.hid (E.out.kept hg (fun g e => by cases e))
          replace B := Lib.hid (B.out.keptN hg)
          clear hg
          refine hKq.out _ _ (⟨KK.out.c0, KK.out.c1, KK.out.c2, KK.out.c3, KK.out.c4, KK.out.c5⟩) (fun hHeld => ?_)
          clear hKq Kq
          refine wpAnyH_ready (rs := [8]) (by kernel_rfl) (by simp) ?_
          refine AllReadyH.cons (o := ⟨some 27, _, _, _, _, _⟩) rfl (fun Kq hKq => ?_) AllReadyH.nil
          rw [if_pos (by rfl)]
          refine wp_append_sh (.tmp 24) (.tmp 26) rfl w1.heap.size x5 S rfl E.out a len cap rfl AA.out HSS.out hl C.out.size ?_
          intro b3 c3 W8 hO hg
          have hx5 : w1.heap.size ≤ x5 := (World.ownsRow.lt E.out x5 rfl).1
          have I1' := I1.out.keptSh E.out hg; have I2' := I2.out.keptSh E.out hg
          try have B' := blk_keptSh B.out E.out hg
          have C' := grown_new C.out hx5 hg
          have K' := KK.out.keptB (hg.block _ KK.out.lt (by intro e; have e := Option.some.inj e; omega)) hg.size
          clear I1 I2 C KK RR GG CC AA E hg
          try clear B
          have I1 := Lib.hid I1'; have I2 := Lib.hid I2'; have C := Lib.hid C'; have KK := Lib.hid K'; have O := Lib.hid hO
          try have B := Lib.hid B'
          try clear B'
          clear I1' I2' C' K' hO hx5
          refine hKq.out _ _ (⟨KK.out.c0, KK.out.c1, KK.out.c2, KK.out.c3, KK.out.c4, KK.out.c5⟩) (fun hHeld => ?_)
          clear hKq Kq
          refine wpAnyH_take (i := 9) (oi := ⟨some 28, _, _, _, _, _⟩) (v := ?_) rfl (by kernel_rfl) (by kernel_rfl) (by kernel_rfl) (fun _ _ _ h => h) (Or.inl ⟨by rfl, ?_⟩) (by assumption) ?_
          rotate_left
          · intro w hSw; (try dsimp only at hSw); go_simp; try with_reducible rfl
          simp only [Act.put, List.setIfInBounds_toArray, List.set_cons_zero, List.set_cons_succ]
          refine wpAnyH_ready (rs := [11]) (by kernel_rfl) (by simp) ?_
          refine AllReadyH.cons (o := ⟨none, _, _, _, _, _⟩) rfl (fun Kq hKq => ?_) AllReadyH.nil
          rw [if_pos (by rfl)]
          refine wp_store_blk 66 (.tmp 8) (.tmp 28) x10 #[.int .i64 need, .int .i64 many, .slice (some ⟨b1, 0, none⟩) ng c1, .slice (some ⟨b2, 0, none⟩) nc c2, .int .i64 msg, .slice (some ⟨b3, 0, none⟩) len c3] _ 66 B.out rfl rfl rfl rfl (by kernel_rfl) (by simp [Value.oneCell']) rfl ?_
          intro W11 hg hT
          have I1' := I1.out.keptBlk B.out hg; have I2' := I2.out.keptBlk B.out hg; have O' := O.out.keptBlk B.out hg
          have C' := grown_new C.out hx10 hg
          have K' := KK.out.keptB (hg.block _ KK.out.lt (by intro e; have e := Option.some.inj e; omega)) hg.size
          clear I1 I2 C KK O B hg
          have I1 := Lib.hid I1'; have I2 := Lib.hid I2'; have C := Lib.hid C'; have KK := Lib.hid K'; have O := Lib.hid O'; have B := Lib.hid hT
          clear I1' I2' C' K' O' hT
          refine hKq.out _ _ (⟨KK.out.c0, KK.out.c1, KK.out.c2, KK.out.c3, KK.out.c4, KK.out.c5⟩) (fun hHeld => ?_)
          clear hKq Kq
          refine wpAnyH_done (by kernel_rfl) ?_ _
          clear KK hHeld
          revert I1; revert I2; revert C; revert O; revert B; revert hx10; revert W11; revert x5; revert x10; revert b1; revert c1; revert b2; revert c2; revert b3; revert c3
          exact hk.out
      · go_simp
        refine at_alloc ?_
        intro W10 hg hT
        have hx10 : w1.heap.size ≤ W.heap.size := C.out.size
        generalize W.heap.size = x10 at *
        have B := Lib.hid hT
        replace C := Lib.hid (gtr C.out hg)
        replace KK := Lib.hid (KK.out.kept hg)
        replace RR := Lib.hid (RR.out.keptN hg)
        replace GG := Lib.hid (GG.out.kept hg)
        replace CC := Lib.hid (CC.out.kept hg)
        replace AA := Lib.hid (AA.out.kept hg)
        clear hg
        clear hT
        refine hKq.out _ _ (⟨KK.out.c0, KK.out.c1, KK.out.c2, KK.out.c3, KK.out.c4, KK.out.c5⟩) (fun hHeld => ?_)
        clear hKq Kq
        refine wpAnyH_ready (rs := [2, 5]) (by kernel_rfl) (by simp) ?_
        refine AllReadyH.cons (o := ⟨some 21, _, _, _, _, _⟩) rfl (fun Kq hKq => ?_) (AllReadyH.cons (o := ⟨some 24, _, _, _, _, _⟩) rfl (fun Kq hKq => ?_) AllReadyH.nil)
        · go_simp
          go_at_call 81
          refine (s12copy _ need many _ ng _ zg _ nc _ zc GG.out CC.out HSG.out HSC.out hl1 hl2).mono ?_
          rintro e W2 ⟨b1, c1, b2, c2, rfl, hi1, hi2, hg⟩
          have I1 := Lib.hid (hi1.lower (lo' := w1.heap.size) C.out.size); have I2 := Lib.hid (hi2.lower (lo' := w1.heap.size) C.out.size)
          clear hi1 hi2
          replace C := Lib.hid (gtr C.out hg)
          replace KK := Lib.hid (KK.out.kept hg)
          replace RR := Lib.hid (RR.out.keptN hg)
          replace GG := Lib.hid (GG.out.kept hg)
          replace CC := Lib.hid (CC.out.kept hg)
          replace AA := Lib.hid (AA.out.kept hg)
          replace B := Lib.hid (B.out.keptN hg)
          clear hg
          refine hKq.out _ _ (⟨KK.out.c0, KK.out.c1, KK.out.c2, KK.out.c3, KK.out.c4, KK.out.c5⟩) (fun hHeld => ?_)
          clear hKq Kq
          refine wpAnyH_ready (rs := [5]) (by kernel_rfl) (by simp) ?_
          refine AllReadyH.cons (o := ⟨some 24, _, _, _, _, _⟩) rfl (fun Kq hKq => ?_) AllReadyH.nil
          go_simp
          refine at_alloc ?_
          intro W5 hg hT
          have E := Lib.hid (own_empty (S := S) hT C.out.size)
          clear hT
          replace C := Lib.hid (gtr C.out hg)
          replace KK := Lib.hid (KK.out.kept hg)
          replace RR := Lib.hid (RR.out.keptN hg)
          replace GG := Lib.hid (GG.out.kept hg)
          replace CC := Lib.hid (CC.out.kept hg)
          replace AA := Lib.hid (AA.out.kept hg)
          replace B := Lib.hid (B.out.keptN hg)
          replace I1 := Lib.hid (I1.out.keptN hg)
          replace I2 := Lib.hid (I2.out.keptN hg)
          clear hg
          generalize W2.heap.size = x5 at *
          refine hKq.out _ _ (⟨KK.out.c0, KK.out.c1, KK.out.c2, KK.out.c3, KK.out.c4, KK.out.c5⟩) (fun hHeld => ?_)
          clear hKq Kq
          refine wpAnyH_ready (rs := [8]) (by kernel_rfl) (by simp) ?_
          refine AllReadyH.cons (o := ⟨some 27, _, _, _, _, _⟩) rfl (fun Kq hKq => ?_) AllReadyH.nil
          rw [if_pos (by rfl)]
          refine wp_append_sh (.tmp 24) (.tmp 26) rfl w1.heap.size x5 S rfl E.out a len cap rfl AA.out HSS.out hl C.out.size ?_
          intro b3 c3 W8 hO hg
          have hx5 : w1.heap.size ≤ x5 := (World.ownsRow.lt E.out x5 rfl).1
          have I1' := I1.out.keptSh E.out hg; have I2' := I2.out.keptSh E.out hg
          try have B' := blk_keptSh B.out E.out hg
          have C' := grown_new C.out hx5 hg
          have K' := KK.out.keptB (hg.block _ KK.out.lt (by intro e; have e := Option.some.inj e; omega)) hg.size
          clear I1 I2 C KK RR GG CC AA E hg
          try clear B
          have I1 := Lib.hid I1'; have I2 := Lib.hid I2'; have C := Lib.hid C'; have KK := Lib.hid K'; have O := Lib.hid hO
          try have B := Lib.hid B'
          try clear B'
          clear I1' I2' C' K' hO hx5
          refine hKq.out _ _ (⟨KK.out.c0, KK.out.c1, KK.out.c2, KK.out.c3, KK.out.c4, KK.out.c5⟩) (fun hHeld => ?_)
          clear hKq Kq
          refine wpAnyH_take (i := 9) (oi := ⟨some 28, _, _, _, _, _⟩) (v := ?_) rfl (by kernel_rfl) (by kernel_rfl) (by kernel_rfl) (fun _ _ _ h => h) (Or.inl ⟨by rfl, ?_⟩) (by assumption) ?_
          rotate_left
          · intro w hSw; (try dsimp only at hSw); go_simp; try with_reducible rfl
          simp only [Act.put, List.setIfInBounds_toArray, List.set_cons_zero, List.set_cons_succ]
          refine wpAnyH_ready (rs := [11]) (by kernel_rfl) (by simp) ?_
          refine AllReadyH.cons (o := ⟨none, _, _, _, _, _⟩) rfl (fun Kq hKq => ?_) AllReadyH.nil
          rw [if_pos (by rfl)]
          refine wp_store_blk 66 (.tmp 8) (.tmp 28) x10 #[.int .i64 need, .int .i64 many, .slice (some ⟨b1, 0, none⟩) ng c1, .slice (some ⟨b2, 0, none⟩) nc c2, .int .i64 msg, .slice (some ⟨b3, 0, none⟩) len c3] _ 66 B.out rfl rfl rfl rfl (by kernel_rfl) (by simp [Value.oneCell']) rfl ?_
          intro W11 hg hT
          have I1' := I1.out.keptBlk B.out hg; have I2' := I2.out.keptBlk B.out hg; have O' := O.out.keptBlk B.out hg
          have C' := grown_new C.out hx10 hg
          have K' := KK.out.keptB (hg.block _ KK.out.lt (by intro e; have e := Option.some.inj e; omega)) hg.size
          clear I1 I2 C KK O B hg
          have I1 := Lib.hid I1'; have I2 := Lib.hid I2'; have C := Lib.hid C'; have KK := Lib.hid K'; have O := Lib.hid O'; have B := Lib.hid hT
          clear I1' I2' C' K' O' hT
          refine hKq.out _ _ (⟨KK.out.c0, KK.out.c1, KK.out.c2, KK.out.c3, KK.out.c4, KK.out.c5⟩) (fun hHeld => ?_)
          clear hKq Kq
          refine wpAnyH_done (by kernel_rfl) ?_ _
          clear KK hHeld
          revert I1; revert I2; revert C; revert O; revert B; revert hx10; revert W11; revert x5; revert x10; revert b1; revert c1; revert b2; revert c2; revert b3; revert c3
          exact hk.out
        · go_simp
          refine at_alloc ?_
          intro W5 hg hT
          have E := Lib.hid (own_empty (S := S) hT C.out.size)
          clear hT
          replace C := Lib.hid (gtr C.out hg)
          replace KK := Lib.hid (KK.out.kept hg)
          replace RR := Lib.hid (RR.out.keptN hg)
          replace GG := Lib.hid (GG.out.kept hg)
          replace CC := Lib.hid (CC.out.kept hg)
          replace AA := Lib.hid (AA.out.kept hg)
          replace B := Lib.hid (B.out.keptN hg)
          clear hg
          generalize W10.heap.size = x5 at *
          refine hKq.out _ _ (⟨KK.out.c0, KK.out.c1, KK.out.c2, KK.out.c3, KK.out.c4, KK.out.c5⟩) (fun hHeld => ?_)
          clear hKq Kq
          refine wpAnyH_ready (rs := [2]) (by kernel_rfl) (by simp) ?_
          refine AllReadyH.cons (o := ⟨some 21, _, _, _, _, _⟩) rfl (fun Kq hKq => ?_) AllReadyH.nil
          go_simp
          go_at_call 81
          refine (s12copy _ need many _ ng _ zg _ nc _ zc GG.out CC.out HSG.out HSC.out hl1 hl2).mono ?_
          rintro e W2 ⟨b1, c1, b2, c2, rfl, hi1, hi2, hg⟩
          have I1 := Lib.hid (hi1.lower (lo' := w1.heap.size) C.out.size); have I2 := Lib.hid (hi2.lower (lo' := w1.heap.size) C.out.size)
          clear hi1 hi2
          replace C := Lib.hid (gtr C.out hg)
          replace KK := Lib.hid (KK.out.kept hg)
          replace RR := Lib.hid (RR.out.keptN hg)
          replace GG := Lib.hid (GG.out.kept hg)
          replace CC := Lib.hid (CC.out.kept hg)
          replace AA := Lib.hid (AA.out.kept hg)
          replace B := Lib.hid (B.out.keptN hg)
          replace E := Lib.hid (E.out.kept hg (fun g e => by cases e))
          clear hg
          refine hKq.out _ _ (⟨KK.out.c0, KK.out.c1, KK.out.c2, KK.out.c3, KK.out.c4, KK.out.c5⟩) (fun hHeld => ?_)
          clear hKq Kq
          refine wpAnyH_ready (rs := [8]) (by kernel_rfl) (by simp) ?_
          refine AllReadyH.cons (o := ⟨some 27, _, _, _, _, _⟩) rfl (fun Kq hKq => ?_) AllReadyH.nil
          rw [if_pos (by rfl)]
          refine wp_append_sh (.tmp 24) (.tmp 26) rfl w1.heap.size x5 S rfl E.out a len cap rfl AA.out HSS.out hl C.out.size ?_
          intro b3 c3 W8 hO hg
          have hx5 : w1.heap.size ≤ x5 := (World.ownsRow.lt E.out x5 rfl).1
          have I1' := I1.out.keptSh E.out hg; have I2' := I2.out.keptSh E.out hg
          try have B' := blk_keptSh B.out E.out hg
          have C' := grown_new C.out hx5 hg
          have K' := KK.out.keptB (hg.block _ KK.out.lt (by intro e; have e := Option.some.inj e; omega)) hg.size
          clear I1 I2 C KK RR GG CC AA E hg
          try clear B
          have I1 := Lib.hid I1'; have I2 := Lib.hid I2'; have C := Lib.hid C'; have KK := Lib.hid K'; have O := Lib.hid hO
          try have B := Lib.hid B'
          try clear B'
          clear I1' I2' C' K' hO hx5
          refine hKq.out _ _ (⟨KK.out.c0, KK.out.c1, KK.out.c2, KK.out.c3, KK.out.c4, KK.out.c5⟩) (fun hHeld => ?_)
          clear hKq Kq
          refine wpAnyH_take (i := 9) (oi := ⟨some 28, _, _, _, _, _⟩) (v := ?_) rfl (by kernel_rfl) (by kernel_rfl) (by kernel_rfl) (fun _ _ _ h => h) (Or.inl ⟨by rfl, ?_⟩) (by assumption) ?_
          rotate_left
          · intro w hSw; (try dsimp only at hSw); go_simp; try with_reducible rfl
          simp only [Act.put, List.setIfInBounds_toArray, List.set_cons_zero, List.set_cons_succ]
          refine wpAnyH_ready (rs := [11]) (by kernel_rfl) (by simp) ?_
          refine AllReadyH.cons (o := ⟨none, _, _, _, _, _⟩) rfl (fun Kq hKq => ?_) AllReadyH.nil
          rw [if_pos (by rfl)]
          refine wp_store_blk 66 (.tmp 8) (.tmp 28) x10 #[.int .i64 need, .int .i64 many, .slice (some ⟨b1, 0, none⟩) ng c1, .slice (some ⟨b2, 0, none⟩) nc c2, .int .i64 msg, .slice (some ⟨b3, 0, none⟩) len c3] _ 66 B.out rfl rfl rfl rfl (by kernel_rfl) (by simp [Value.oneCell']) rfl ?_
          intro W11 hg hT
          have I1' := I1.out.keptBlk B.out hg; have I2' := I2.out.keptBlk B.out hg; have O' := O.out.keptBlk B.out hg
          have C' := grown_new C.out hx10 hg
          have K' := KK.out.keptB (hg.block _ KK.out.lt (by intro e; have e := Option.some.inj e; omega)) hg.size
          clear I1 I2 C KK O B hg
          have I1 := Lib.hid I1'; have I2 := Lib.hid I2'; have C := Lib.hid C'; have KK := Lib.hid K'; have O := Lib.hid O'; have B := Lib.hid hT
          clear I1' I2' C' K' O' hT
          refine hKq.out _ _ (⟨KK.out.c0, KK.out.c1, KK.out.c2, KK.out.c3, KK.out.c4, KK.out.c5⟩) (fun hHeld => ?_)
          clear hKq Kq
          refine wpAnyH_done (by kernel_rfl) ?_ _
          clear KK hHeld
          revert I1; revert I2; revert C; revert O; revert B; revert hx10; revert W11; revert x5; revert x10; revert b1; revert c1; revert b2; revert c2; revert b3; revert c3
          exact hk.out
    intro c3 b3 c2 b2 c1 b1 x10 x5 W hx10 B O C I2 I1
    have hlO := World.ownsRow.lt O.out b3 rfl
    have hlB := B.out.lt
    have hne1 : ¬ b3 = x10 := fun e => own_ne_b O.out B.out (by decide) (by rw [e]; rfl)
    have hne2 : ¬ x10 = b3 := fun e => hne1 e.symm
    have HZ := Lib.hid (And.intro hlO.1 (And.intro hlO.2 hw1))
    have RW := Lib.hid (R.out.keptN C.out)
    have GW := Lib.hid (gtr G.out C.out)
    obtain ⟨q0, q1, q2, q3, q4, q5, g0, g1, g2, g3, g4, g5⟩ := B.out.all6
    go_wp2
    go_loop [9] (fun i => ∃ k : Nat, k ≤ len ∧ i = .int .i64 k ∧ hasz (mS S) m k = false) (fun i => len - (intOf i).toNat)
    case atStart => exact ⟨0, by omega, rfl, rfl⟩
    case round =>
      obtain ⟨k, hk, rfl, hz⟩ := hrel
      have HN := Lib.hid hz; clear hz
      by_cases hlt : k < len
      · have c0 : W.cell? ⟨b3, k * 4, none⟩ = some (.int .i64 (S k).m) := (World.ownsRow.cellAt O.out (k * 4 + 0) (by omega)).trans (cellsS_at S hlt (by omega))
        have d2 : W.cell? ⟨b3, k * 4 + 2, none⟩ = some (.bool (S k).on) := (World.ownsRow.cellAt O.out (k * 4 + 2) (by omega)).trans (cellsS_at S hlt (by omega))
        have d3 : W.cell? ⟨b3, k * 4 + 3, none⟩ = some (.int .i64 (S k).Z) := (World.ownsRow.cellAt O.out (k * 4 + 3) (by omega)).trans (cellsS_at S hlt (by omega))
        have f2 := World.ownsRow.frozenAt O.out (k * 4 + 2)
        have f3 := World.ownsRow.frozenAt O.out (k * 4 + 3)
        by_cases he : (S k).m = m
        · have HP := Lib.hid (pos_at (z := mS S) hlt HN.out he); have HH := Lib.hid (hasz_yes (z := mS S) hlt he)
          have ht : ((S k).m == m) = true := by simpa using he
          clear he
          have hgS := gtr' (grown_set W b3 (k * 4 + 2) (.bool true)) (grown_set _ b3 (k * 4 + 3) (.int .i64 z))
          have O2 := Lib.hid (O.out.put hlt z)
          have J1 := Lib.hid (I1.out.keptSh O.out hgS); have J2 := Lib.hid (I2.out.keptSh O.out hgS)
          have R2 := Lib.hid ((RW.out.other (b' := b3) (i := k * 4 + 2) (v := .bool true) (by omega)).other (b' := b3) (i := k * 4 + 3) (v := .int .i64 z) (by omega))
          have G2 := Lib.hid (grown_new GW.out (by omega) hgS)
          clear hgS
          go_wp2_with (first
            | (refine wpList_store_blk rfl 66 (.tmp 6) (.tmp 55) _ _ _ 66 R2.out rfl rfl rfl rfl (by kernel_rfl) (by simp [Value.oneCell']) rfl ?_; intro V hgV hRV; have HGV := Lib.hid hgV; have HRV := Lib.hid hRV; clear hgV hRV))
          (try simp only [Exit.inBlock, Exit.then])
          refine bodyPost_ret (ret_ses2 rfl _ rfl HRV.out) rfl ?_
          have hj1 := J1.out.lt; have hj2 := J2.out.lt
          refine sesP_yes H1.out H2.out ⟨b1, c1, b2, c2, some ⟨b3, 0, none⟩, c3, ?_, (J1.out.kept HGV.out (by intro e; have e := Option.some.inj e; omega)).lower (by omega), (J2.out.kept HGV.out (by intro e; have e := Option.some.inj e; omega)).lower (by omega), ?_, grown_new G2.out (by omega) HGV.out⟩
          · rw [HH.out]; rfl
          · rw [ptS_yes HH.out, HP.out]; exact (O2.out.kept HGV.out (fun g e => by have e := Option.some.inj e; omega)).lower (by omega)
        · have HR := Lib.hid (hasz_next (z := mS S) HN.out he)
          have ht : ((S k).m == m) = false := by simpa using he
          clear he
          go_wp2
          go_round
          case rel => exact ⟨k + 1, by omega, by go_num, HR.out⟩
          case measure => simp [intOf]; omega
      · obtain rfl : k = len := by omega
        go_wp2_with (first
          | (refine wpList_store_blk rfl 66 (.tmp 6) (.tmp 56) _ _ _ 66 RW.out rfl rfl rfl rfl (by kernel_rfl) (by simp [Value.oneCell']) rfl ?_; intro V hgV hRV; have HGV := Lib.hid hgV; have HRV := Lib.hid hRV; clear hgV hRV))
        (try simp only [Exit.inBlock, Exit.then])
        refine bodyPost_ret (ret_ses2 rfl _ rfl HRV.out) rfl ?_
        have hj1 := I1.out.lt; have hj2 := I2.out.lt
        refine sesP_yes H1.out H2.out ⟨b1, c1, b2, c2, some ⟨b3, 0, none⟩, c3, ?_, (I1.out.kept HGV.out (by intro e; have e := Option.some.inj e; omega)).lower (by omega), (I2.out.kept HGV.out (by intro e; have e := Option.some.inj e; omega)).lower (by omega), ?_, grown_new GW.out (by omega) HGV.out⟩
        · rw [HN.out]; rfl
        · rw [ptS_no HN.out]; exact (O.out.kept HGV.out (fun g e => by have e := Option.some.inj e; omega)).lower (by omega)
end Con
end Go.Proofs.Ythbigmcklacbnaa
