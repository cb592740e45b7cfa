/-
  How the model draws shares; what it asks of them.
-/
import Derived.Test.YtchgjdbmianajaaQk
import Derived.Test.YtchgjdbmianajaaSm
import Derived.Deep.RegionHeld3
import Derived.Test.YtchgjdbmianajaaKc
import Derived.Test.YtchgjdbmianajaaDo
namespace Go.Proofs.Ytchgjdbmianajaa
namespace Draw
open Go.RowKit Alg Mem Con Mp Hd
set_option linter.unusedVariables false

theorem OwnH.shape {w : World} {lo : Nat} {v : Value} {k : Nat} (h : OwnH w lo v k) : ∃ a c, v = .slice a k c ∧ k ≤ c ∧ c ≤ maxLen := by
  obtain ⟨zs, h⟩ := h
  rcases h.2 with ⟨hv, h0⟩ | ⟨g, c, cur, hv, _, _, h1, h2, _⟩
  · exact ⟨none, 0, by rw [hv, h0], by omega, by unfold maxLen; omega⟩
  · exact ⟨_, c, hv, h1, h2⟩
theorem OwnH.hld {w : World} {lo : Nat} {v : Value} {k : Nat} (h : OwnH w lo v k) : ∃ a c H, v = .slice a k c ∧ HldIn w a k H ∧ k ≤ c ∧ c ≤ maxLen := by
  obtain ⟨a, c, rfl, h1, h2⟩ := h.shape
  by_cases h0 : 1 ≤ k
  · obtain ⟨g, c', hv, hgl, hgs, _, _, hcel, _, _⟩ := h.ptr h0
    injection hv with e1 _ e3; subst e1
    have ⟨z, hz⟩ : ∃ z : Nat → Int, ∀ j, j < k * 2 → w.cell? ⟨g, j, none⟩ = some (.int .i64 (z j)) := by
      classical
      exact ⟨fun j => if hj : j < k * 2 then (hcel j hj).choose else 0, fun j hj => by simp only [dif_pos hj]; exact (hcel j hj).choose_spec⟩
    refine ⟨_, c, fun j => ⟨z (j * 2), z (j * 2 + 1)⟩, rfl, .inr ⟨g, 0, rfl, hgs, fun j hj => ?_⟩, h1, h2⟩
    rw [Nat.zero_add]
    exact ⟨hz _ (by omega), hz _ (by omega)⟩
  · exact ⟨a, c, fun _ => ⟨0, 0⟩, rfl, .inl (by omega), h1, h2⟩
/-- What holds while shares are drawn. -/
structure LSt (w : World) (base B : Nat) (a : Option Addr) (len cap p' : Nat) (W : World) (v : Value) (k : Nat) : Prop where
  own : OwnH W w.heap.size v k
  g : w.grownBy W (some B)
  rd : Rd W base B a len cap p'
theorem LSt.step {w : World} {base B : Nat} {a : Option Addr} {len cap p' p2 : Nat} {W W' : World} {v : Value} {k : Nat} (h : LSt w base B a len cap p' W v k) (hB : B < w.heap.size) (hg : W.grownBy W' (some B)) (hr : Rd W' base B a len cap p2) : LSt w base B a len cap p2 W' v k :=
  ⟨h.own.kept hg (fun g e => by injection e with e; omega), gtr' h.g hg, hr⟩
theorem LSt.app {w W W' : World} {base B : Nat} {a : Option Addr} {len cap p' : Nat} {v v' : Value} {k : Nat} {zs : List Int} {x y : Int} {o : Obj} (h : LSt w base B a len cap p' W v k) (hz : W.ownsRow w.heap.size 40 2 v k (zs.map fun z => .int .i64 z)) (hB : B < w.heap.size) (hg : (W.alloc o).grownBy W' v.ownBlock) (ho : W'.ownsRow w.heap.size 40 2 v' (k + 1) ((zs.map fun z => .int .i64 z) ++ [.int .i64 x, .int .i64 y])) : LSt w base B a len cap p' W' v' (k + 1) := by
  have hg' : W.grownBy W' v.ownBlock := grown_trans (grown_alloc W o _) hg
  have hne : ∀ g, v.ownBlock = some g → w.heap.size ≤ g := fun g hv => (hz.lt g hv).1
  refine ⟨⟨zs ++ [x, y], by simpa using ho⟩, ?_, ?_⟩
  · cases hv : v.ownBlock with
    | none => rw [hv] at hg'; exact grown_trans h.g (grown_some hg')
    | some g => rw [hv] at hg'; exact grown_newR h.g (hne g hv) hg'
  · have hlt := h.rd.lt; have hfr := h.rd.from_
    exact h.rd.kept (fun j hj => hg'.block j (by omega) (by intro e; have := hne j e.symm; omega)) (hg'.block B hlt (by intro e; have := hne B e.symm; omega))
theorem LSt.first {w : World} {base B : Nat} {a : Option Addr} {len cap p : Nat} (h : Rd w base B a len cap p) : LSt w base B a len cap p (w.alloc (.cells #[] 40)) (.slice (some ⟨w.heap.size, 0, none⟩) 0 0) 0 :=
  ⟨⟨[], rfl, .inr ⟨_, 0, #[], rfl, Nat.le_refl _, Blk.new _ #[] _, Nat.le_refl _, by decide, rfl, rfl⟩⟩, grown_alloc _ _ _, h.alloc _⟩
def GotLs (w : World) (base B : Nat) (a : Option Addr) (len cap p n : Nat) (e : Ending) (w' : World) : Prop :=
  ∃ (v : Value) (k : Nat), e = .returned v ∧ OwnH w' w.heap.size v k ∧ k ≤ n + 1 ∧ w.grownBy w' (some B) ∧ ∃ p', p ≤ p' ∧ p' ≤ p + 20 ∧ Rd w' base B a len cap p'
set_option maxRecDepth 100000 in
set_option maxHeartbeats 4000000 in
theorem list_any (w : World) (base B : Nat) (a : Option Addr) (len cap p : Nat) (h : Rd w base B a len cap p) (hp : p ≤ 1000000) (lo n : Nat) (v : Value) (hO : OwnH w lo v n) (hB : B < lo) (hn : n ≤ 8) :
    Calls Try.prog 43 #[.pointer (some ⟨B, 0, none⟩), v] w (GotLs w base B a len cap p n) := by
  have hBw := h.lt
  obtain ⟨i0, hi, hz0, hz1, hz2⟩ := info_parts info_hld
  have H0 := Lib.hid (LSt.first h)
  have HO := Lib.hid hO
  obtain ⟨av, cv, rfl, _, _⟩ := hO.shape
  clear h hO
  go_enter Try.func43, Try.ntmps43
  go_wp2
  go_loopw [5, 6] (fun u i W => ∃ k q p' : Nat, k ≤ n ∧ i = .int .i64 k ∧ q ≤ k ∧ p ≤ p' ∧ p' ≤ p + k ∧ LSt w base B a len cap p' W u q) (fun _ i _ => n - (intOf i).toNat)
  case atStart => exact ⟨0, 0, p, by omega, rfl, by omega, by omega, by omega, H0.out⟩
  case round =>
    obtain ⟨k, q, p1, hk, rfl, hq, hp0, hp1, hs⟩ := hrel
    obtain ⟨W1, hW⟩ : ∃ W, W = wr := ⟨_, rfl⟩; subst hW
    obtain ⟨v1, hW⟩ : ∃ W, W = u5 := ⟨_, rfl⟩; subst hW
    have HS := Lib.hid hs; clear hs
    by_cases hlt : k < n
    · have hlt' : (k : Int) < (n : Int) := by omega
      go_wp2_with fail
      refine (pick_any _ base B a len cap p1 3 HS.out.rd (by omega) (by omega)).mono ?_
      rintro e W2 ⟨x, x0, x1, rfl, hr, hg, hsz⟩
      have HS2 := Lib.hid (HS.out.step hBw hg hr)
      clear hr hg hsz
      rcases (by omega : x = 0 ∨ 1 ≤ x) with rfl | hx
      · go_wp2
        go_roundw
        case rel => exact ⟨k + 1, q, p1 + 1, by omega, by go_num, by omega, by omega, by omega, HS2.out⟩
        case measure => simp [intOf]; omega
      · have hx' : (0 : Int) < x := by omega
        obtain ⟨g, c', hv, _, _, _, _, hcel, _, _⟩ := (HO.out.kept HS2.out.g (fun g e => by injection e with e; omega)).ptr (by omega)
        injection hv with e1 _ e3; subst e1; subst e3
        obtain ⟨y, hc0⟩ := hcel (k * 2) (by omega)
        obtain ⟨z, hc1⟩ := hcel (k * 2 + 1) (by omega)
        clear hcel
        obtain ⟨zs, hzs⟩ := HS2.out.own
        have HZ := Lib.hid hzs; clear hzs
        have hw2 := HS2.out.g.size
        go_wp2_with (at_builtin; refine wpList_append_own _ rfl _ _ 33 rfl w.heap.size 40 i0 (.agg #[.int .i64 0, .int .i64 0]) 2 16 und_hlds hi hz0 hz1 hz2 rfl (by decide) v1 q _ rfl (HZ.out.alloc _) ⟨W2.heap.size, 0, none⟩ 1 1 [.int .i64 y, .int .i64 z] rfl rfl (World.news_of_block (cs := #[.int .i64 y, .int .i64 z]) (t := 40) (fr := (0, 0)) (heap_alloc_new W2 _)) (by simp [Value.oneCell']) (by unfold maxLen; omega) (by omega) (by simp; omega) ?_; intro v' W4 hown' hgrow _)
        have HS4 := Lib.hid (HS2.out.app HZ.out hBw hgrow hown')
        clear hown' hgrow
        go_wp2
        go_roundw
        case rel => exact ⟨k + 1, q + 1, p1 + 1, by omega, by go_num, by omega, by omega, by omega, HS4.out⟩
        case measure => simp [intOf]; omega
    · obtain rfl : k = n := by omega
      have hlt' : ¬ (k : Int) < (k : Int) := by omega
      go_wp2_with fail
      refine (pick_any _ base B a len cap p1 40 HS.out.rd (by omega) (by omega)).mono ?_
      rintro e W2 ⟨x, x0, x1, rfl, hr, hg, hsz⟩
      have HS2 := Lib.hid (HS.out.step hBw hg hr)
      clear hr hg hsz
      rcases (by omega : x = 0 ∨ 1 ≤ x) with rfl | hx
      · go_wp2_with fail
        refine (pick_any _ base B a len cap (p1 + 1) 7 HS2.out.rd (by omega) (by omega)).mono ?_
        rintro e W3 ⟨y, y0, y1, rfl, hr, hg, hsz⟩
        have HS3 := Lib.hid (HS2.out.step hBw hg hr)
        clear hr hg hsz
        go_wp2_with fail
        refine (num_any _ base B a len cap (p1 + 1 + 1) HS3.out.rd (by omega)).mono ?_
        rintro e W4 ⟨z, z0, z1, rfl, hg, p4, hp4, hp4', hr⟩
        have HS4 := Lib.hid (HS3.out.step hBw hg hr)
        clear hr hg
        obtain ⟨zs, hzs⟩ := HS4.out.own
        have HZ := Lib.hid hzs; clear hzs
        have hw2 := HS4.out.g.size
        go_wp2_with (at_builtin; refine wpList_append_own _ rfl _ _ 33 rfl w.heap.size 40 i0 (.agg #[.int .i64 0, .int .i64 0]) 2 16 und_hlds hi hz0 hz1 hz2 rfl (by decide) v1 q _ rfl (HZ.out.alloc _) ⟨W4.heap.size, 0, none⟩ 1 1 [.int .i64 y, .int .i64 z] rfl rfl (World.news_of_block (cs := #[.int .i64 y, .int .i64 z]) (t := 40) (fr := (0, 0)) (heap_alloc_new W4 _)) (by simp [Value.oneCell']) (by unfold maxLen; omega) (by omega) (by simp; omega) ?_; intro v' W5 hown' hgrow _)
        have HS5 := Lib.hid (HS4.out.app HZ.out hBw hgrow hown')
        clear hown' hgrow
        go_wp2
        go_ret
        exact ⟨_, q + 1, rfl, HS5.out.own, by omega, HS5.out.g, p4, by omega, by omega, HS5.out.rd⟩
      · have e0 : (x == 0) = false := by simp; omega
        go_wp2
        go_ret
        exact ⟨_, q, rfl, HS2.out.own, by omega, HS2.out.g, p1 + 1, by omega, by omega, HS2.out.rd⟩
/-- Shares, drawn from the program's input. -/
def GotO (w : World) (e : Ending) (w' : World) : Prop :=
  ∃ (a : Option Addr) (n c : Nat) (H : Nat → HV), e = .returned (.slice a n c) ∧ HldIn w' a n H ∧ n ≤ 10 ∧ n ≤ c ∧ c ≤ maxLen ∧ w.grownBy w' none
/-- How many are needed, and shares. -/
def GotS (w : World) (e : Ending) (w' : World) : Prop :=
  ∃ (need : Int) (a : Option Addr) (n c : Nat) (H : Nat → HV), e = .returned (.tuple #[.int .i64 need, .slice a n c]) ∧ HldIn w' a n H ∧ n ≤ 10 ∧ n ≤ c ∧ c ≤ maxLen ∧ w.grownBy w' none
/-- How many are needed, shares, and a secret. -/
def GotW (w : World) (e : Ending) (w' : World) : Prop :=
  ∃ (need : Int) (a : Option Addr) (n c : Nat) (H : Nat → HV) (s : Int), e = .returned (.tuple #[.int .i64 need, .slice a n c, .int .i64 s]) ∧ HldIn w' a n H ∧ n ≤ 10 ∧ n ≤ c ∧ c ≤ maxLen ∧ w.grownBy w' none
set_option maxRecDepth 100000 in
set_option maxHeartbeats 4000000 in
theorem drawSO (w : World) (a : Option Addr) (len cap : Nat) (hB : Bytes w w.heap.size a len) (hc : len ≤ cap) (hm : cap ≤ maxLen) :
    Calls Try.prog 18 #[.slice a len cap] w (GotS w) := by
  go_enter Try.func18, Try.ntmps18
  go_wp2_with fail
  refine (open_any _ w.heap.size a len cap hB (Nat.le_refl _) hc hm).mono ?_
  rintro e w1 ⟨rfl, hg1, hs1, l1, c1', hr1⟩
  have HG1 := Lib.hid hg1; have HR1 := Lib.hid hr1
  have hR1 := hr1.lt
  clear hr1 hg1 hB
  go_wp2_with fail
  refine (held_any _ _ _ a l1 c1' 0 HR1.out (by omega)).mono ?_
  rintro e w2 ⟨need, many, ag, ng, cg, zg, ac, nc, cc, zc, v, rfl, hk, ⟨hm1, -⟩, hO, hg2, p2, hp2, hp2', hr2⟩
  replace hO := hO.h
  have hs2 := hg2.size
  have hm6 := hk.m5; have hn5 := hk.n5
  have HG2 := Lib.hid (grown_new HG1.out (by omega) hg2); have HR2 := Lib.hid (hr2.alloc (.cells #[.int .i64 need, .int .i64 many, .slice ag ng cg, .slice ac nc cc] 62)); have HO2 := Lib.hid (hO.kept (grown_alloc w2 (.cells #[.int .i64 need, .int .i64 many, .slice ag ng cg, .slice ac nc cc] 62) none) (fun g e => by cases e)); have HK2 := Lib.hid hk
  have HG3 := Lib.hid (gtr HG2.out (grown_alloc w2 (.cells #[.int .i64 need, .int .i64 many, .slice ag ng cg, .slice ac nc cc] 62) none))
  have HB2 := Lib.hid (Blk.new w2 #[.int .i64 need, .int .i64 many, .slice ag ng cg, .slice ac nc cc] 62)
  have hsa : (w2.alloc (.cells #[.int .i64 need, .int .i64 many, .slice ag ng cg, .slice ac nc cc] 62)).heap.size = w2.heap.size + 1 := by show (w2.heap.push _).size = _; simp
  clear hk hg2 hr2 hO
  obtain ⟨av, cv, rfl, _, _⟩ := HO2.out.shape
  go_wp2_with fail
  refine (pick_any _ _ _ a l1 c1' p2 3 HR2.out (by omega) (by omega)).mono ?_
  rintro e w3 ⟨x, x0, x1, rfl, hr, hg, hsz⟩
  have hs3 := hg.size
  rw [hsa] at hs3
  have HO3 := Lib.hid (HO2.out.kept hg (fun g e => by injection e with e; omega)); have HR3 := Lib.hid hr; have HG4 := Lib.hid (grown_new HG3.out (by omega) hg); have HB3 := Lib.hid (HB2.out.kept hg (by intro e; injection e with e; omega))
  clear hr hg hsz
  obtain ⟨k0, k1, k2, k3, f0, f1, f2, f3⟩ := HB3.out.all4
  rcases (by omega : x = 0 ∨ 1 ≤ x) with rfl | hx
  · obtain ⟨a7, c7, H7, hv, hI, h1, h2⟩ := HO3.out.hld
    injection hv with e1 _ e3; subst e1; subst e3
    go_wp2
    go_ret2
    exact ⟨_, _, many, _, H7, rfl, hI, by omega, h1, h2, HG4.out⟩
  · have e0 : (x == 0) = false := by simp; omega
    have HR3d := Lib.hid (HR3.out.kept (w' := w3.drew) (fun _ _ => rfl) rfl)
    go_wp2_with fail
    go_region_held3 (fun w' => w'.cell? ⟨w2.heap.size, 0, none⟩ = some (.int .i64 need)) (first | exact hS5 | exact hS4 | exact k0) (first
      | (go_at_call 39; (with_reducible refine (pick_any _ _ _ a l1 c1' _ 24 HR3d.out (by omega) (by omega)).mono ?_); rintro e wa ⟨q, q0, q1, rfl, hr, hg, hs⟩; have Hga := Lib.hid (show w3.grownBy wa (some w.heap.size) from ⟨hg.os, hg.tape, hg.output, hg.size, hg.block⟩); have waR := Lib.hid hr; have waB := Lib.hid (HB3.out.kept Hga.out (by intro e; injection e with e; omega)); have waO := Lib.hid (HO3.out.kept Hga.out (fun g e => by injection e with e; omega)); have HG5 := Lib.hid (grown_new HG4.out (Nat.le_refl _) Hga.out); have hsa5 := Hga.out.size; have hS4 : wa.cell? ⟨w2.heap.size, 0, none⟩ = some (.int .i64 need) := waB.out.cell 0; clear hr hg hs)
      | (go_at_call 43; (with_reducible refine (list_any _ _ _ a l1 c1' _ waR.out (by omega) w1.heap.size many _ waO.out (by omega) (by omega)).mono ?_); rintro e wb ⟨vb, kb, rfl, hOb, hkb, hg, pb, hpb, hpb', hrb⟩; have HG6 := Lib.hid (grown_new HG5.out (Nat.le_refl _) hg); have hS5 : wb.cell? ⟨w2.heap.size, 0, none⟩ = some (.int .i64 need) := (waB.out.kept hg (by intro e; injection e with e; omega)).cell 0; obtain ⟨a7, c7, H7, rfl, hI, h1, h2⟩ := hOb.hld; have HI7 := Lib.hid hI; clear hOb hg hrb hI))
    all_goals
      clear hS4 hS5 k0 k1 k2 k3 f0 f1 f2 f3
      go_wp2
      go_ret2
      exact ⟨_, a7, kb, c7, H7, rfl, HI7.out, by omega, h1, h2, HG6.out⟩
end Draw
end Go.Proofs.Ytchgjdbmianajaa
/-
  How the model draws a key and shares.
-/

namespace Go.Proofs.Ytchgjdbmianajaa
namespace Draw
open Go.RowKit Alg Mem Con Mp Hd
set_option linter.unusedVariables false

/-- A key and shares, drawn from the program's input. -/
def GotB (w : World) (e : Ending) (w' : World) : Prop :=
  ∃ (need many : Nat) (ag : Option Addr) (ng cg : Nat) (zg : Nat → Int) (ac : Option Addr) (nc cc : Nat) (zc : Nat → Int) (a : Option Addr) (n c : Nat) (H : Nat → HV), e = .returned (.tuple #[.agg #[.int .i64 need, .int .i64 many, .slice ag ng cg, .slice ac nc cc], .slice a n c]) ∧ KeyIn w w' need many ag ng zg ac nc zc ∧ HldIn w' a n H ∧ n ≤ 10 ∧ n ≤ c ∧ c ≤ maxLen ∧ w.grownBy w' none
theorem gotb_mk {w W : World} {R : Nat} {need many : Nat} {ag : Option Addr} {ng cg : Nat} {zg : Nat → Int} {ac : Option Addr} {nc cc : Nat} {zc : Nat → Int} {wk : World} {v0 v1 v2 v3 : Value} {a : Option Addr} {n c : Nat} (hb : Blk W R #[v0, v1, v2, v3] 62) (hR : w.heap.size ≤ R) (hRk : R < wk.heap.size) (hk : KeyIn wk W need many ag ng zg ac nc zc) (hO : OwnH W wk.heap.size (.slice a n c) n) (hn : n ≤ 10) (hg : w.grownBy W none) :
    Blk (stored4 W R (.int .i64 need) (.int .i64 many) (.slice ag ng cg) (.slice ac nc cc)) R #[.int .i64 need, .int .i64 many, .slice ag ng cg, .slice ac nc cc] 62 ∧
    GotB w (.returned (.tuple #[.agg #[.int .i64 need, .int .i64 many, .slice ag ng cg, .slice ac nc cc], .slice a n c])) (stored4 W R (.int .i64 need) (.int .i64 many) (.slice ag ng cg) (.slice ac nc cc)) := by
  have g1 : W.grownBy (stored4 W R (.int .i64 need) (.int .i64 many) (.slice ag ng cg) (.slice ac nc cc)) (some R) := gtr' (gtr' (gtr' (grown_set W R 0 (.int .i64 need)) (grown_set _ R 1 (.int .i64 many))) (grown_set _ R 2 (.slice ag ng cg))) (grown_set _ R 3 (.slice ac nc cc))
  have hr : ∀ g, (some R : Option Nat) = some g → g < wk.heap.size := fun g e => by have e := Option.some.inj e; omega
  obtain ⟨a', c', H, hv, hI, h1, h2⟩ := (hO.kept g1 hr).hld
  injection hv with e1 _ e3; subst e1; subst e3
  exact ⟨(((hb.set 0 _).set 1 _).set 2 _).set 3 _, need, many, ag, ng, cg, zg, ac, nc, cc, zc, a, n, c, H, rfl, (hk.kept g1 hr).lower (by omega), hI, hn, h1, h2, grown_new hg hR g1⟩
end Draw
end Go.Proofs.Ytchgjdbmianajaa
/-
  Secrets: whose shares are wrong: the model's function; how the model draws a key and shares.
-/

namespace Go.Proofs.Ytchgjdbmianajaa
namespace Hd
open Go.RowKit Alg Mem Con
set_option linter.unusedVariables false

/-- Is a share wrong? -/
def sbE (many : Int) (nc : Nat) (zc : Nat → Int) (H : Nat → HV) (k : Nat) : Bool := decide (many < (H k).m) || !cfz nc zc (H k).m (H k).s
/-- Whose of the first so many. -/
def sbl (many : Int) (nc : Nat) (zc : Nat → Int) (H : Nat → HV) : Nat → List Int
  | 0 => []
  | k + 1 => sbl many nc zc H k ++ (if sbE many nc zc H k then [(H k).m] else [])
section
variable {need many : Int} {ng : Nat} {zg : Nat → Int} {nc : Nat} {zc : Nat → Int} {H : Nat → HV} {n k : Nat}
theorem sbl_len : (sbl many nc zc H k).length ≤ k := by
  induction k with
  | zero => exact Nat.le_refl _
  | succ k ih => unfold sbl; split <;> simp <;> omega
theorem sbl_yes (h : sbE many nc zc H k = true) : sbl many nc zc H (k + 1) = sbl many nc zc H k ++ [(H k).m] := by simp [sbl, h]
theorem sbl_no (h : sbE many nc zc H k = false) : sbl many nc zc H (k + 1) = sbl many nc zc H k := by simp [sbl, h]
theorem sbE_fit (hk : kyF need many ng zg nc zc = true) (hh : hkF H n = true) (hj : k < n) : sbE many nc zc H k = !kfit need many ng zg nc zc (H k).m (H k).s := by
  have h1 := (hk_at hh hj).1
  unfold sbE
  by_cases hm : many < (H k).m
  · rw [kfit_m (by cases hb : mbF many (H k).m with
      | false => rfl
      | true => have := (mb_iff.1 hb).2; omega)]; simp [hm]
  · rw [kfit_y hk (mb_iff.2 ⟨h1.1, by omega⟩)]; simp [hm]
end
def sbF (need many : Int) (ng : Nat) (zg : Nat → Int) (nc : Nat) (zc : Nat → Int) (H : Nat → HV) (n : Nat) : List Int := if kyF need many ng zg nc zc = true ∧ hkF H n = true then sbl many nc zc H n else []
theorem sb_none {need many : Int} {ng : Nat} {zg : Nat → Int} {nc : Nat} {zc : Nat → Int} {H : Nat → HV} {n : Nat} (h : kyF need many ng zg nc zc = false ∨ hkF H n = false) : sbF need many ng zg nc zc H n = [] := by
  unfold sbF; rw [if_neg]; rintro ⟨h1, h2⟩; rcases h with h | h
  · rw [h] at h1; cases h1
  · rw [h] at h2; cases h2
theorem sb_some {need many : Int} {ng : Nat} {zg : Nat → Int} {nc : Nat} {zc : Nat → Int} {H : Nat → HV} {n : Nat} (h : kyF need many ng zg nc zc = true) (h2 : hkF H n = true) : sbF need many ng zg nc zc H n = sbl many nc zc H n := if_pos ⟨h, h2⟩
theorem lst_empty (w : World) : Lst (w.alloc (.cells #[] 3)) w.heap.size (.slice (some ⟨w.heap.size, 0, none⟩) 0 0) [] := .inr ⟨_, 0, rfl, row_empty w _ _⟩
end Hd
end Go.Proofs.Ytchgjdbmianajaa
