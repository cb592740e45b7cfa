/-
  How the model draws a key that may be spoilt.
-/
import Derived.Laws.AppendOwnNone
import Derived.Test.YtlaimokedhdnjaaDoorQk
namespace Go.Proofs.YtlaimokedhdnjaaDoor
namespace Draw
open Go.RowKit Alg Mem Con Mp
set_option linter.unusedVariables false

/-- A key, drawn. -/
def GotKy (w : World) (base B : Nat) (a : Option Addr) (len cap p : Nat) (e : Ending) (w' : World) : Prop :=
  ∃ (need many : Nat) (ag : Option Addr) (ng cg : Nat) (zg : Nat → Int) (ac : Option Addr) (nc cc : Nat) (zc : Nat → Int), e = .returned (.agg #[.int .i64 need, .int .i64 many, .slice ag ng cg, .slice ac nc cc]) ∧ KeyIn w w' need many ag ng zg ac nc zc ∧ w.grownBy w' (some B) ∧ ∃ p', p ≤ p' ∧ p' ≤ p + 50000 ∧ Rd w' base B a len cap p'
theorem gots_mk {w W : World} {base B : Nat} {a : Option Addr} {len cap p p' R : Nat} {need many : Nat} {ag : Option Addr} {ng cg : Nat} {zg : Nat → Int} {ac : Option Addr} {nc cc : Nat} {zc : Nat → Int} {wk : World} {v0 v1 v2 v3 : Value} (hb : Blk W R #[v0, v1, v2, v3] 25) (hR : w.heap.size ≤ R) (hRk : R < wk.heap.size) (hk : KeyIn wk W need many ag ng zg ac nc zc) (hg : w.grownBy W (some B)) (hB : B < w.heap.size) (h1 : p ≤ p') (h2 : p' ≤ p + 50000) (hrd : Rd W base B a len cap p') :
    Blk (stored4 W R (.int .i64 need) (.int .i64 many) (.slice ag ng cg) (.slice ac nc cc)) R #[.int .i64 need, .int .i64 many, .slice ag ng cg, .slice ac nc cc] 25 ∧
    GotKy w base B a len cap p (.returned (.agg #[.int .i64 need, .int .i64 many, .slice ag ng cg, .slice ac nc cc])) (stored4 W R (.int .i64 need) (.int .i64 many) (.slice ag ng cg) (.slice ac nc cc)) := by
  have g1 : W.grownBy (stored4 W R (.int .i64 need) (.int .i64 many) (.slice ag ng cg) (.slice ac nc cc)) (some R) := gtr' (gtr' (gtr' (grown_set W R 0 (.int .i64 need)) (grown_set _ R 1 (.int .i64 many))) (grown_set _ R 2 (.slice ag ng cg))) (grown_set _ R 3 (.slice ac nc cc))
  have hr : ∀ g, (some R : Option Nat) = some g → g < wk.heap.size := fun g e => by have e := Option.some.inj e; omega
  have hf := hrd.from_
  exact ⟨(((hb.set 0 _).set 1 _).set 2 _).set 3 _, need, many, ag, ng, cg, zg, ac, nc, cc, zc, rfl, (hk.kept g1 hr).lower (by omega), grown_newR hg hR g1, p', h1, h2, hrd.grownN g1 (by omega) (by omega)⟩
theorem ints_news {w : World} {b off n : Nat} {z : Nat → Int} (h : Ints w (some ⟨b, off, none⟩) n z) : ∀ j u, (vals z n)[j]? = some u → w.cell? ((⟨b, off, none⟩ : Addr).add j) = some u := by
  intro j u hu
  have hj : j < n := by
    have := (List.getElem?_eq_some_iff.1 hu).1
    rwa [vals_length] at this
  rw [vals_get z hj] at hu
  rcases h with h | ⟨b', off', e, hb, hc⟩
  · omega
  · injection e with e; injection e with e1 e2; subst e1; subst e2
    have e := (hc j hj).trans hu
    by_cases h0 : j = 0
    · subst h0; simpa [Addr.add] using e
    · simpa [Addr.add, h0] using e
theorem one_news (w : World) (o : Obj) (n : Int) (E : TypeId) : ∀ j u, ([.int .i64 n] : List Value)[j]? = some u → ((w.alloc o).alloc (.cells #[.int .i64 n] E)).cell? ((⟨w.heap.size + 1, 0, none⟩ : Addr).add j) = some u := by
  have hs : (w.alloc o).heap.size = w.heap.size + 1 := World.size_alloc w o
  rw [← hs]
  exact cell_one_new _ _ _
theorem vals_one (z : Nat → Int) (n : Nat) : ∀ u ∈ vals z n, u.oneCell' = true := by
  intro u hu
  simp only [vals, List.mem_map] at hu
  obtain ⟨j, _, rfl⟩ := hu
  rfl
theorem own_grown {w0 wr w1 : World} {lo k n : Nat} {T : TypeId} {v : Value} {xs : List Value} {o : Obj} (hg : w0.grownBy wr none) (ho : wr.ownsRow lo T k v n xs) (hlo : w0.heap.size ≤ lo) (h : (wr.alloc o).grownBy w1 v.ownBlock) : w0.grownBy w1 none := by
  cases hv : v.ownBlock with
  | none => rw [hv] at h; exact gtr (gtr hg (grown_alloc _ _ _)) h
  | some g => rw [hv] at h; exact grown_new (gtr hg (grown_alloc _ _ _)) (Nat.le_trans hlo (ho.lt g hv).1) h
/-- A copy with one more. -/
theorem two_row {W : World} {lo nc : Nat} {v : Value} {z : Nat → Int} {n : Nat} {xs : List Value} (h : W.ownsRow lo 3 1 v n xs) (hn : n = nc + 1) (hx : xs = vals z nc ++ [.int .i64 1]) :
    ∃ b cap, v = .slice (some ⟨b, 0, none⟩) (nc + 1) cap ∧ Row W lo 3 b (nc + 1) cap (fun j => if j < nc then z j else 1) := by
  subst hn; subst hx
  exact app_row2 h
/-- The key with one more shown, stored and returned. -/
theorem app_fin {w w1 w2 w3 w5 : World} {base B : Nat} {a : Option Addr} {len cap p p' R K : Nat} {need many : Nat} {ag : Option Addr} {ng cg : Nat} {zg : Nat → Int} {ac : Option Addr} {nc : Nat} {zc : Nat → Int} {b5 c5 : Nat} {z5 : Nat → Int} {v0 v1 v2 v3 u0 u1 u2 u3 : Value} (hR : Blk w3 R #[v0, v1, v2, v3] 25) (hRw : R < w1.heap.size) (hs1 : w1.heap.size = w.heap.size + 1) (hwR : w.heap.size ≤ R) (hk : KeyIn w1 w2 need many ag ng zg ac nc zc) (hS : Same (w.heap.size + 1) w2.heap.size w2 w3) (h23 : w2.heap.size < w3.heap.size) (hg : w3.grownBy w5 none) (hr : Row w5 w3.heap.size 3 b5 (nc + 1) c5 z5) (hn5 : nc ≤ 5) (hG : w.grownBy w3 (some B)) (hB : B < w.heap.size) (h1 : p ≤ p') (h2 : p' ≤ p + 50000) (hrd : Rd w3 base B a len cap p') (hK : Blk w3 K #[u0, u1, u2, u3] 25) (hK2 : w2.heap.size ≤ K) (hRK : R < w2.heap.size) :
    Blk (stored4 (w5.setCell ⟨K, 3, none⟩ (.slice (some ⟨b5, 0, none⟩) (nc + 1) c5)) R (.int .i64 need) (.int .i64 many) (.slice ag ng cg) (.slice (some ⟨b5, 0, none⟩) (nc + 1) c5)) R #[.int .i64 need, .int .i64 many, .slice ag ng cg, .slice (some ⟨b5, 0, none⟩) (nc + 1) c5] 25 ∧
    GotKy w base B a len cap p (.returned (.agg #[.int .i64 need, .int .i64 many, .slice ag ng cg, .slice (some ⟨b5, 0, none⟩) (nc + 1) c5])) (stored4 (w5.setCell ⟨K, 3, none⟩ (.slice (some ⟨b5, 0, none⟩) (nc + 1) c5)) R (.int .i64 need) (.int .i64 many) (.slice ag ng cg) (.slice (some ⟨b5, 0, none⟩) (nc + 1) c5)) := by
  have hg1 := grown_set w5 K 3 (.slice (some ⟨b5, 0, none⟩) (nc + 1) c5)
  have hKl := hK.lt
  have hfr := hr.from_
  have hBf := hrd.from_
  have hBl := hrd.lt
  have hr' := hr.kept hg1 (by intro e; have e := Option.some.inj e; omega)
  have hS5 := (hS.grown (Nat.le_refl _) hg (fun g e => by cases e)).grown (Nat.le_refl _) hg1 (fun g e => by have e := Option.some.inj e; omega)
  have hk' : KeyIn w1 (w5.setCell ⟨K, 3, none⟩ (.slice (some ⟨b5, 0, none⟩) (nc + 1) c5)) need many ag ng zg (some ⟨b5, 0, none⟩) (nc + 1) z5 :=
    ⟨hk.n5, hk.m5, hk.g6, by omega, ints_same hk.ig hk.rg (by rw [hs1]; exact hS5.1) hS5.2, hr'.ints, (fun b off e => by have := hk.rg b off e; have := hS5.2; omega), (fun b off e => by injection e with e; injection e with e _; subst e; exact ⟨by omega, hr'.lt⟩)⟩
  exact gots_mk ((hR.keptN hg).other (by omega)) hwR hRw hk' (grown_newR (gtr' hG (grown_some hg)) (by have := hG.size; omega) hg1) hB h1 h2 ((hrd.kept (fun k hk => hg.block k (by omega) (by simp)) (hg.block B hBl (by simp))).grownN hg1 (by omega) (by omega))
set_option maxRecDepth 100000 in
set_option maxHeartbeats 1500000 in
theorem some_any (w : World) (base B : Nat) (a : Option Addr) (len cap p : Nat) (h : Rd w base B a len cap p) (hp : p ≤ 1000) :
    Calls Tryd.prog 18 #[.pointer (some ⟨B, 0, none⟩)] w (GotKy w base B a len cap p) := by
  have hBw := h.lt
  have HR := Lib.hid (h.alloc (.cells #[.int .i64 0, .int .i64 0, .slice none 0 0, .slice none 0 0] 25)); clear h
  have HR0 := Lib.hid (Blk.new w #[.int .i64 0, .int .i64 0, .slice none 0 0, .slice none 0 0] 25)
  have HG0 := Lib.hid (grown_alloc w (.cells #[.int .i64 0, .int .i64 0, .slice none 0 0, .slice none 0 0] 25) (some B))
  obtain ⟨i0, hi, hz0, hz1, hz2⟩ := info_parts info_int
  go_enter Tryd.func18, Tryd.ntmps18
  go_wp2_with fail
  refine (key_any _ base B a len cap p HR.out hp).mono ?_
  rintro e w2 ⟨need, many, ag, ng, cg, zg, ac, nc, cc, zc, v, L, vA, LA, rfl, hk, hac, _, _, _, _, hg2, p2, hp2, hp2', hr2⟩
  have hs1 : (w.alloc (.cells #[.int .i64 0, .int .i64 0, .slice none 0 0, .slice none 0 0] 25)).heap.size = w.heap.size + 1 := by show (w.heap.push _).size = _; simp
  have hs2 := hg2.size
  rw [hs1] at hs2
  have HR2 := Lib.hid (HR0.out.kept hg2 (by intro e; have e := Option.some.inj e; omega)); have HG2 := Lib.hid (gtr' HG0.out hg2); have HRd2 := Lib.hid hr2; have HK2 := Lib.hid hk
  clear hr2 hg2 HR0 HG0 HR hk
  go_wp2_with fail
  refine (pick_any _ base B a len cap p2 30 (HRd2.out.alloc (.cells #[.int .i64 need, .int .i64 many, .slice ag ng cg, .slice ac nc cc] 25)) (by omega) (by omega)).mono ?_
  rintro e w3 ⟨x, x0, x1, rfl, hr, hg, hsz⟩
  have hsa : (w2.alloc (.cells #[.int .i64 need, .int .i64 many, .slice ag ng cg, .slice ac nc cc] 25)).heap.size = w2.heap.size + 1 := by show (w2.heap.push _).size = _; simp
  have hs3 := hg.size
  rw [hsa] at hs3
  have hBw2 : B < w2.heap.size := by omega
  have HK3 := Lib.hid ((HK2.out.kept (grown_alloc w2 _ none) (fun g e => by cases e)).kept hg (fun g e => by have e := Option.some.inj e; rw [hs1]; omega))
  have HB3 := Lib.hid ((Blk.new w2 #[.int .i64 need, .int .i64 many, .slice ag ng cg, .slice ac nc cc] 25).kept hg (by intro e; have e := Option.some.inj e; omega))
  have HR3 := Lib.hid ((HR2.out.keptN (grown_alloc w2 _ none)).kept hg (by intro e; have e := Option.some.inj e; omega))
  have HG3 := Lib.hid (gtr' (gtr' HG2.out (grown_alloc w2 _ (some B))) hg)
  have HRd3 := Lib.hid hr
  have HS3 := Lib.hid ((Same.rfl'.grown (Nat.le_refl _) (grown_alloc w2 (.cells #[.int .i64 need, .int .i64 many, .slice ag ng cg, .slice ac nc cc] 25) none) (fun g e => by cases e)).grown (lo := w.heap.size + 1) (hi := w2.heap.size) (Nat.le_refl _) hg (fun g e => by have e := Option.some.inj e; omega))
  have HF3 := Lib.hid HRd3.out.from_
  clear hr hg hsz hsa
  obtain ⟨r0, r1, r2, r3, j0, j1, j2, j3⟩ := HR3.out.all4
  obtain ⟨k0, k1, k2, k3, f0, f1, f2, f3⟩ := HB3.out.all4
  have hl0 := HR3.out.lt; have hl1 := HB3.out.lt
  obtain ⟨hn5, hac⟩ := hac
  rcases (by omega : x = 0 ∨ x = 1 ∨ x = 2 ∨ 3 ≤ x) with rfl | rfl | rfl | hx
  · rcases hac with ⟨b, off, rfl⟩ | ⟨rfl, rfl, rfl⟩
    · have HNews := Lib.hid (ints_news (HK3.out.ic.kept (grown_alloc w3 (.cells #[] 3) none)))
      have HE0 := Lib.hid (row_empty w3 3 zc).owns
      go_wp2_with (first
        | (at_builtin; refine wpList_append_own _ rfl _ _ 23 rfl w3.heap.size 3 i0 (.int .i64 0) 1 8 und_ints hi hz0 hz1 hz2 rfl (by decide) _ 0 (vals zc 0) rfl HE0.out ⟨b, off, none⟩ nc cc (vals zc nc) rfl (by simp [vals_length]) HNews.out (vals_one _ _) (by unfold maxLen; omega) (by omega) (by simp) ?_; intro v4 w4 hown4 hgrow4 _; have HO4 := Lib.hid hown4; have HG4 := Lib.hid (grown_new (grown_alloc w3 (.cells #[] 3) none) (Nat.le_refl _) hgrow4); have hs4 := HG4.out.size; clear hown4 hgrow4)
        | (at_builtin; refine wpList_append_own _ rfl _ _ 23 rfl w3.heap.size 3 i0 (.int .i64 0) 1 8 und_ints hi hz0 hz1 hz2 rfl (by decide) v4 (0 + nc) (vals zc 0 ++ vals zc nc) rfl (HO4.out.alloc _) ⟨w4.heap.size, 0, none⟩ 1 1 [.int .i64 1] rfl rfl (cell_one_new _ _ _) (by simp [Value.oneCell']) (by unfold maxLen; omega) (by omega) (by simp; omega) ?_; intro v5 w5 hown5 hgrow5 _; have hG5 := own_grown HG4.out HO4.out (Nat.le_refl _) hgrow5; obtain ⟨b5, c5, rfl, hr5⟩ := two_row (nc := nc) (z := zc) hown5 (by omega) (by simp [vals]); have HE := Lib.hid (app_fin (p := p) (p' := p2 + 1) (cg := cg) HR3.out (by rw [hs1]; omega) hs1 (Nat.le_refl _) HK2.out HS3.out (by omega) hG5 hr5 hn5 HG3.out hBw (by omega) (by omega) HRd3.out HB3.out (by omega) (by omega)); obtain ⟨k0', k1', k2', k3', f0', f1', f2', f3'⟩ := (HB3.out.keptN hG5).all4; obtain ⟨r0', r1', r2', r3', j0', j1', j2', j3'⟩ := (HR3.out.keptN hG5).all4; have hs5 := hG5.size; have hl0' := (HR3.out.keptN hG5).lt; have hl1' := (HB3.out.keptN hG5).lt; clear hown5 hgrow5 hr5 hG5))
      refine bodyPost_ret (ret_key rfl _ rfl HE.out.1) rfl ?_
      exact HE.out.2
    · have HE0 := Lib.hid (row_empty w3 3 zc).owns
      go_wp2_with (first
        | (at_builtin; refine wpList_append_own_none rfl _ _ 23 rfl w3.heap.size 3 i0 1 und_ints hi (.slice (some ⟨w3.heap.size, 0, none⟩) 0 0) 0 (vals zc 0) rfl HE0.out rfl ?_)
        | (at_builtin; refine wpList_append_own _ rfl _ _ 23 rfl w3.heap.size 3 i0 (.int .i64 0) 1 8 und_ints hi hz0 hz1 hz2 rfl (by decide) (.slice (some ⟨w3.heap.size, 0, none⟩) 0 0) 0 (vals zc 0) rfl (HE0.out.alloc _) ⟨w3.heap.size + 1, 0, none⟩ 1 1 [.int .i64 1] rfl rfl (one_news _ _ _ _) (by simp [Value.oneCell']) (by unfold maxLen; omega) (by omega) (by simp; omega) ?_; intro v5 w5 hown5 hgrow5 _; have hG5 := own_grown (grown_alloc w3 _ none) HE0.out (Nat.le_refl _) hgrow5; obtain ⟨b5, c5, rfl, hr5⟩ := two_row (nc := 0) (z := zc) hown5 rfl rfl; have HE := Lib.hid (app_fin (p := p) (p' := p2 + 1) (cg := cg) HR3.out (by rw [hs1]; omega) hs1 (Nat.le_refl _) HK2.out HS3.out (by omega) hG5 hr5 hn5 HG3.out hBw (by omega) (by omega) HRd3.out HB3.out (by omega) (by omega)); obtain ⟨k0', k1', k2', k3', f0', f1', f2', f3'⟩ := (HB3.out.keptN hG5).all4; obtain ⟨r0', r1', r2', r3', j0', j1', j2', j3'⟩ := (HR3.out.keptN hG5).all4; have hs5 := hG5.size; have hl0' := (HR3.out.keptN hG5).lt; have hl1' := (HB3.out.keptN hG5).lt; clear hown5 hgrow5 hr5 hG5))
      refine bodyPost_ret (ret_key rfl _ rfl HE.out.1) rfl ?_
      exact HE.out.2
  · have hg1 := gtr' (grown_alloc w3 (.cells #[.int .i64 3, .int .i64 2] 3) (some w2.heap.size)) (grown_set _ w2.heap.size 2 (.slice (some ⟨w3.heap.size, 0, none⟩) 2 2))
    have hB1 := ((HR3.out.keptN (grown_alloc w3 (.cells #[.int .i64 3, .int .i64 2] 3) none)).other (b' := w2.heap.size) (i := 2) (v := .slice (some ⟨w3.heap.size, 0, none⟩) 2 2) (by omega))
    have hS1 := HS3.out.grown (Nat.le_refl _) hg1 (fun g e => by have e := Option.some.inj e; omega)
    have hl : Blk ((w3.alloc (.cells #[.int .i64 3, .int .i64 2] 3)).setCell ⟨w2.heap.size, 2, none⟩ (.slice (some ⟨w3.heap.size, 0, none⟩) 2 2)) w3.heap.size #[.int .i64 3, .int .i64 2] 3 := (Blk.new w3 #[.int .i64 3, .int .i64 2] 3).other (by omega)
    have hK1 : KeyIn (w.alloc (.cells #[.int .i64 0, .int .i64 0, .slice none 0 0, .slice none 0 0] 25)) ((w3.alloc (.cells #[.int .i64 3, .int .i64 2] 3)).setCell ⟨w2.heap.size, 2, none⟩ (.slice (some ⟨w3.heap.size, 0, none⟩) 2 2)) need many (some ⟨w3.heap.size, 0, none⟩) 2 (fun j => if j = 0 then 3 else 2) ac nc zc := by
      refine ⟨HK2.out.n5, HK2.out.m5, by omega, HK2.out.c5, .inr ⟨w3.heap.size, 0, rfl, hl.lt, fun j hj => ?_⟩, ints_same HK2.out.ic HK2.out.rc ?_ hS1.2, fun b off e => ?_, fun b off e => ?_⟩
      · rw [Nat.zero_add, hl.cell]
        rcases (by omega : j = 0 ∨ j = 1) with rfl | rfl <;> rfl
      · rw [hs1]; exact hS1.1
      · injection e with e; injection e with e _; subst e; exact ⟨by rw [hs1]; omega, hl.lt⟩
      · have := HK2.out.rc b off e; have := hS1.2; omega
    have hq : stored4 ((w3.alloc (.cells #[.int .i64 3, .int .i64 2] 3)).setCell ⟨w2.heap.size, 2, none⟩ (.slice (some ⟨w3.heap.size, 0, none⟩) 2 2)) w.heap.size (.int .i64 need) (.int .i64 many) (.slice (some ⟨w3.heap.size, 0, none⟩) 2 2) (.slice ac nc cc) = (stored4 (w3.setCell ⟨w2.heap.size, 2, none⟩ (.slice (some ⟨w3.heap.size, 0, none⟩) 2 2)) w.heap.size (.int .i64 need) (.int .i64 many) (.slice (some ⟨w3.heap.size, 0, none⟩) 2 2) (.slice ac nc cc)).alloc (.cells #[.int .i64 3, .int .i64 2] 3) := by
      unfold stored4
      rw [World.setCell_alloc_past _ _ _ _ (by omega), World.setCell_alloc_past _ _ _ _ (by simp; omega), World.setCell_alloc_past _ _ _ _ (by simp; omega), World.setCell_alloc_past _ _ _ _ (by simp; omega), World.setCell_alloc_past _ _ _ _ (by simp; omega)]
    have he := gots_mk (w := w) (p := p) (p' := p2 + 1) (cg := 2) (cc := cc) hB1 (Nat.le_refl _) (by rw [hs1]; omega) hK1 (grown_newR HG3.out (by omega) hg1) hBw (by omega) (by omega) (HRd3.out.grownN hg1 (by omega) (by have := HF3.out; omega))
    rw [hq] at he
    have HE := Lib.hid he
    clear he hq hK1 hl hS1 hB1 hg1
    go_wp2
    (try simp only [Exit.inBlock, Exit.then])
    refine bodyPost_ret (ret_key rfl _ rfl HE.out.1) rfl ?_
    exact HE.out.2
  · have hg1 := grown_set w3 w2.heap.size 0 (.int .i64 0)
    have hB1 := HR3.out.other (b' := w2.heap.size) (i := 0) (v := .int .i64 0) (by omega)
    have hS1 := HS3.out.grown (Nat.le_refl _) hg1 (fun g e => by have e := Option.some.inj e; omega)
    have hK1 : KeyIn (w.alloc (.cells #[.int .i64 0, .int .i64 0, .slice none 0 0, .slice none 0 0] 25)) (w3.setCell ⟨w2.heap.size, 0, none⟩ (.int .i64 0)) 0 many ag ng zg ac nc zc :=
      ⟨by omega, HK2.out.m5, HK2.out.g6, HK2.out.c5, ints_same HK2.out.ig HK2.out.rg (by rw [hs1]; exact hS1.1) hS1.2, ints_same HK2.out.ic HK2.out.rc (by rw [hs1]; exact hS1.1) hS1.2, (fun b off e => by have := HK2.out.rg b off e; have := hS1.2; omega), (fun b off e => by have := HK2.out.rc b off e; have := hS1.2; omega)⟩
    have HE := Lib.hid (gots_mk (w := w) (p := p) (p' := p2 + 1) (cg := cg) (cc := cc) hB1 (Nat.le_refl _) (by rw [hs1]; omega) hK1 (grown_newR HG3.out (by omega) hg1) hBw (by omega) (by omega) (HRd3.out.grownN hg1 (by omega) (by have := HF3.out; omega)))
    clear hK1 hS1 hB1 hg1
    go_wp2
    (try simp only [Exit.inBlock, Exit.then])
    refine bodyPost_ret (ret_key rfl _ rfl HE.out.1) rfl ?_
    exact HE.out.2
  · have e0 : (x == 0) = false := by simp; omega
    have e1 : (x == 1) = false := by simp; omega
    have e2 : (x == 2) = false := by simp; omega
    have HE := Lib.hid (gots_mk (w := w) (p := p) (p' := p2 + 1) (cg := cg) (cc := cc) HR3.out (Nat.le_refl _) (by rw [hs1]; omega) HK3.out HG3.out hBw (by omega) (by omega) HRd3.out)
    go_wp2
    (try simp only [Exit.inBlock, Exit.then])
    refine bodyPost_ret (ret_key rfl _ rfl HE.out.1) rfl ?_
    exact HE.out.2
/-- A key drawn from the program's input. -/
def GotP (w : World) (e : Ending) (w' : World) : Prop :=
  ∃ (need many : Nat) (ag : Option Addr) (ng cg : Nat) (zg : Nat → Int) (ac : Option Addr) (nc cc : Nat) (zc : Nat → Int), e = .returned (.agg #[.int .i64 need, .int .i64 many, .slice ag ng cg, .slice ac nc cc]) ∧ KeyIn w w' need many ag ng zg ac nc zc ∧ w.grownBy w' none
theorem gotp_mk {w W : World} {R : Nat} {need many : Nat} {ag : Option Addr} {ng cg : Nat} {zg : Nat → Int} {ac : Option Addr} {nc cc : Nat} {zc : Nat → Int} {wk : World} {v0 v1 v2 v3 : Value} (hb : Blk W R #[v0, v1, v2, v3] 25) (hR : w.heap.size ≤ R) (hRk : R < wk.heap.size) (hk : KeyIn wk W need many ag ng zg ac nc zc) (hg : w.grownBy W none) :
    Blk (stored4 W R (.int .i64 need) (.int .i64 many) (.slice ag ng cg) (.slice ac nc cc)) R #[.int .i64 need, .int .i64 many, .slice ag ng cg, .slice ac nc cc] 25 ∧
    GotP w (.returned (.agg #[.int .i64 need, .int .i64 many, .slice ag ng cg, .slice ac nc cc])) (stored4 W R (.int .i64 need) (.int .i64 many) (.slice ag ng cg) (.slice ac nc cc)) := by
  have g1 : W.grownBy (stored4 W R (.int .i64 need) (.int .i64 many) (.slice ag ng cg) (.slice ac nc cc)) (some R) := gtr' (gtr' (gtr' (grown_set W R 0 (.int .i64 need)) (grown_set _ R 1 (.int .i64 many))) (grown_set _ R 2 (.slice ag ng cg))) (grown_set _ R 3 (.slice ac nc cc))
  have hr : ∀ g, (some R : Option Nat) = some g → g < wk.heap.size := fun g e => by have e := Option.some.inj e; omega
  exact ⟨(((hb.set 0 _).set 1 _).set 2 _).set 3 _, need, many, ag, ng, cg, zg, ac, nc, cc, zc, rfl, (hk.kept g1 hr).lower (by omega), grown_new hg hR g1⟩
end Draw
end Go.Proofs.YtlaimokedhdnjaaDoor
/-
  How the model draws a key whose number of members may be spoilt.
-/

namespace Go.Proofs.YtlaimokedhdnjaaDoor
namespace Draw
open Go.RowKit Alg Mem Con Mp
set_option linter.unusedVariables false

end Draw
end Go.Proofs.YtlaimokedhdnjaaDoor
