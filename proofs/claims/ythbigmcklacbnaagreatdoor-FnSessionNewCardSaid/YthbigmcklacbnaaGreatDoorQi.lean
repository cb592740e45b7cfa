/-
  How the model draws a key that may be spoilt.
-/
import Derived.Laws.AppendOwnNone
import Derived.Test.YthbigmcklacbnaaGreatDoorQk
namespace Go.Proofs.YthbigmcklacbnaaGreatDoor
namespace Draw
open Go.RowKit Alg Mem Con Mp
set_option linter.unusedVariables false

/-- A key, drawn. -/
def GotKy (w : World) (base B : Nat) (a : Option Addr) (len cap p : Nat) (e : Ending) (w' : World) : Prop :=
  ∃ (need many : Nat) (ag : Option Addr) (ng cg : Nat) (zg : Nat → Int) (ac : Option Addr) (nc cc : Nat) (zc : Nat → Int), e = .returned (.agg #[.int .i64 need, .int .i64 many, .slice ag ng cg, .slice ac nc cc]) ∧ KeyIn w w' need many ag ng zg ac nc zc ∧ w.grownBy w' (some B) ∧ ∃ p', p ≤ p' ∧ p' ≤ p + 50000 ∧ Rd w' base B a len cap p'
theorem gots_mk {w W : World} {base B : Nat} {a : Option Addr} {len cap p p' R : Nat} {need many : Nat} {ag : Option Addr} {ng cg : Nat} {zg : Nat → Int} {ac : Option Addr} {nc cc : Nat} {zc : Nat → Int} {wk : World} {v0 v1 v2 v3 : Value} (hb : Blk W R #[v0, v1, v2, v3] 25) (hR : w.heap.size ≤ R) (hRk : R < wk.heap.size) (hk : KeyIn wk W need many ag ng zg ac nc zc) (hg : w.grownBy W (some B)) (hB : B < w.heap.size) (h1 : p ≤ p') (h2 : p' ≤ p + 50000) (hrd : Rd W base B a len cap p') :
    Blk (stored4 W R (.int .i64 need) (.int .i64 many) (.slice ag ng cg) (.slice ac nc cc)) R #[.int .i64 need, .int .i64 many, .slice ag ng cg, .slice ac nc cc] 25 ∧
    GotKy w base B a len cap p (.returned (.agg #[.int .i64 need, .int .i64 many, .slice ag ng cg, .slice ac nc cc])) (stored4 W R (.int .i64 need) (.int .i64 many) (.slice ag ng cg) (.slice ac nc cc)) := by
  have g1 : W.grownBy (stored4 W R (.int .i64 need) (.int .i64 many) (.slice ag ng cg) (.slice ac nc cc)) (some R) := gtr' (gtr' (gtr' (grown_set W R 0 (.int .i64 need)) (grown_set _ R 1 (.int .i64 many))) (grown_set _ R 2 (.slice ag ng cg))) (grown_set _ R 3 (.slice ac nc cc))
  have hr : ∀ g, (some R : Option Nat) = some g → g < wk.heap.size := fun g e => by have e := Option.some.inj e; omega
  have hf := hrd.from_
  exact ⟨(((hb.set 0 _).set 1 _).set 2 _).set 3 _, need, many, ag, ng, cg, zg, ac, nc, cc, zc, rfl, (hk.kept g1 hr).lower (by omega), grown_newR hg hR g1, p', h1, h2, hrd.grownN g1 (by omega) (by omega)⟩
theorem ints_news {w : World} {b off n : Nat} {z : Nat → Int} (h : Ints w (some ⟨b, off, none⟩) n z) : ∀ j u, (vals z n)[j]? = some u → w.cell? ((⟨b, off, none⟩ : Addr).add j) = some u := by
  intro j u hu
  have hj : j < n := by
    have := (List.getElem?_eq_some_iff.1 hu).1
    rwa [vals_length] at this
  rw [vals_get z hj] at hu
  rcases h with h | ⟨b', off', e, hb, hc⟩
  · omega
  · injection e with e; injection e with e1 e2; subst e1; subst e2
    have e := (hc j hj).trans hu
    by_cases h0 : j = 0
    · subst h0; simpa [Addr.add] using e
    · simpa [Addr.add, h0] using e
theorem one_news (w : World) (o : Obj) (n : Int) (E : TypeId) : ∀ j u, ([.int .i64 n] : List Value)[j]? = some u → ((w.alloc o).alloc (.cells #[.int .i64 n] E)).cell? ((⟨w.heap.size + 1, 0, none⟩ : Addr).add j) = some u := by
  have hs : (w.alloc o).heap.size = w.heap.size + 1 := World.size_alloc w o
  rw [← hs]
  exact cell_one_new _ _ _
theorem vals_one (z : Nat → Int) (n : Nat) : ∀ u ∈ vals z n, u.oneCell' = true := by
  intro u hu
  simp only [vals, List.mem_map] at hu
  obtain ⟨j, _, rfl⟩ := hu
  rfl
theorem own_grown {w0 wr w1 : World} {lo k n : Nat} {T : TypeId} {v : Value} {xs : List Value} {o : Obj} (hg : w0.grownBy wr none) (ho : wr.ownsRow lo T k v n xs) (hlo : w0.heap.size ≤ lo) (h : (wr.alloc o).grownBy w1 v.ownBlock) : w0.grownBy w1 none := by
  cases hv : v.ownBlock with
  | none => rw [hv] at h; exact gtr (gtr hg (grown_alloc _ _ _)) h
  | some g => rw [hv] at h; exact grown_new (gtr hg (grown_alloc _ _ _)) (Nat.le_trans hlo (ho.lt g hv).1) h
/-- A copy with one more. -/
theorem two_row {W : World} {lo nc : Nat} {v : Value} {z : Nat → Int} {n : Nat} {xs : List Value} (h : W.ownsRow lo 3 1 v n xs) (hn : n = nc + 1) (hx : xs = vals z nc ++ [.int .i64 1]) :
    ∃ b cap, v = .slice (some ⟨b, 0, none⟩) (nc + 1) cap ∧ Row W lo 3 b (nc + 1) cap (fun j => if j < nc then z j else 1) := by
  subst hn; subst hx
  exact app_row2 h
/-- The key with one more shown, stored and returned. -/
theorem app_fin {w w1 w2 w3 w5 : World} {base B : Nat} {a : Option Addr} {len cap p p' R K : Nat} {need many : Nat} {ag : Option Addr} {ng cg : Nat} {zg : Nat → Int} {ac : Option Addr} {nc : Nat} {zc : Nat → Int} {b5 c5 : Nat} {z5 : Nat → Int} {v0 v1 v2 v3 u0 u1 u2 u3 : Value} (hR : Blk w3 R #[v0, v1, v2, v3] 25) (hRw : R < w1.heap.size) (hs1 : w1.heap.size = w.heap.size + 1) (hwR : w.heap.size ≤ R) (hk : KeyIn w1 w2 need many ag ng zg ac nc zc) (hS : Same (w.heap.size + 1) w2.heap.size w2 w3) (h23 : w2.heap.size < w3.heap.size) (hg : w3.grownBy w5 none) (hr : Row w5 w3.heap.size 3 b5 (nc + 1) c5 z5) (hn5 : nc ≤ 5) (hG : w.grownBy w3 (some B)) (hB : B < w.heap.size) (h1 : p ≤ p') (h2 : p' ≤ p + 50000) (hrd : Rd w3 base B a len cap p') (hK : Blk w3 K #[u0, u1, u2, u3] 25) (hK2 : w2.heap.size ≤ K) (hRK : R < w2.heap.size) :
    Blk (stored4 (w5.setCell ⟨K, 3, none⟩ (.slice (some ⟨b5, 0, none⟩) (nc + 1) c5)) R (.int .i64 need) (.int .i64 many) (.slice ag ng cg) (.slice (some ⟨b5, 0, none⟩) (nc + 1) c5)) R #[.int .i64 need, .int .i64 many, .slice ag ng cg, .slice (some ⟨b5, 0, none⟩) (nc + 1) c5] 25 ∧
    GotKy w base B a len cap p (.returned (.agg #[.int .i64 need, .int .i64 many, .slice ag ng cg, .slice (some ⟨b5, 0, none⟩) (nc + 1) c5])) (stored4 (w5.setCell ⟨K, 3, none⟩ (.slice (some ⟨b5, 0, none⟩) (nc + 1) c5)) R (.int .i64 need) (.int .i64 many) (.slice ag ng cg) (.slice (some ⟨b5, 0, none⟩) (nc + 1) c5)) := by
  have hg1 := grown_set w5 K 3 (.slice (some ⟨b5, 0, none⟩) (nc + 1) c5)
  have hKl := hK.lt
  have hfr := hr.from_
  have hBf := hrd.from_
  have hBl := hrd.lt
  have hr' := hr.kept hg1 (by intro e; have e := Option.some.inj e; omega)
  have hS5 := (hS.grown (Nat.le_refl _) hg (fun g e => by cases e)).grown (Nat.le_refl _) hg1 (fun g e => by have e := Option.some.inj e; omega)
  have hk' : KeyIn w1 (w5.setCell ⟨K, 3, none⟩ (.slice (some ⟨b5, 0, none⟩) (nc + 1) c5)) need many ag ng zg (some ⟨b5, 0, none⟩) (nc + 1) z5 :=
    ⟨hk.n5, hk.m5, hk.g6, by omega, ints_same hk.ig hk.rg (by rw [hs1]; exact hS5.1) hS5.2, hr'.ints, (fun b off e => by have := hk.rg b off e; have := hS5.2; omega), (fun b off e => by injection e with e; injection e with e _; subst e; exact ⟨by omega, hr'.lt⟩)⟩
  exact gots_mk ((hR.keptN hg).other (by omega)) hwR hRw hk' (grown_newR (gtr' hG (grown_some hg)) (by have := hG.size; omega) hg1) hB h1 h2 ((hrd.kept (fun k hk => hg.block k (by omega) (by simp)) (hg.block B hBl (by simp))).grownN hg1 (by omega) (by omega))
/-- A key drawn from the program's input. -/
def GotP (w : World) (e : Ending) (w' : World) : Prop :=
  ∃ (need many : Nat) (ag : Option Addr) (ng cg : Nat) (zg : Nat → Int) (ac : Option Addr) (nc cc : Nat) (zc : Nat → Int), e = .returned (.agg #[.int .i64 need, .int .i64 many, .slice ag ng cg, .slice ac nc cc]) ∧ KeyIn w w' need many ag ng zg ac nc zc ∧ w.grownBy w' none
theorem gotp_mk {w W : World} {R : Nat} {need many : Nat} {ag : Option Addr} {ng cg : Nat} {zg : Nat → Int} {ac : Option Addr} {nc cc : Nat} {zc : Nat → Int} {wk : World} {v0 v1 v2 v3 : Value} (hb : Blk W R #[v0, v1, v2, v3] 25) (hR : w.heap.size ≤ R) (hRk : R < wk.heap.size) (hk : KeyIn wk W need many ag ng zg ac nc zc) (hg : w.grownBy W none) :
    Blk (stored4 W R (.int .i64 need) (.int .i64 many) (.slice ag ng cg) (.slice ac nc cc)) R #[.int .i64 need, .int .i64 many, .slice ag ng cg, .slice ac nc cc] 25 ∧
    GotP w (.returned (.agg #[.int .i64 need, .int .i64 many, .slice ag ng cg, .slice ac nc cc])) (stored4 W R (.int .i64 need) (.int .i64 many) (.slice ag ng cg) (.slice ac nc cc)) := by
  have g1 : W.grownBy (stored4 W R (.int .i64 need) (.int .i64 many) (.slice ag ng cg) (.slice ac nc cc)) (some R) := gtr' (gtr' (gtr' (grown_set W R 0 (.int .i64 need)) (grown_set _ R 1 (.int .i64 many))) (grown_set _ R 2 (.slice ag ng cg))) (grown_set _ R 3 (.slice ac nc cc))
  have hr : ∀ g, (some R : Option Nat) = some g → g < wk.heap.size := fun g e => by have e := Option.some.inj e; omega
  exact ⟨(((hb.set 0 _).set 1 _).set 2 _).set 3 _, need, many, ag, ng, cg, zg, ac, nc, cc, zc, rfl, (hk.kept g1 hr).lower (by omega), grown_new hg hR g1⟩
end Draw
end Go.Proofs.YthbigmcklacbnaaGreatDoor
/-
  How the model draws a key whose number of members may be spoilt.
-/

namespace Go.Proofs.YthbigmcklacbnaaGreatDoor
namespace Draw
open Go.RowKit Alg Mem Con Mp
set_option linter.unusedVariables false

end Draw
end Go.Proofs.YthbigmcklacbnaaGreatDoor
