/-
  How the model draws shares; what it asks of them.
-/
import Derived.Test.YthjflmokfkcalaaQk
import Derived.Test.YthjflmokfkcalaaSm
import Derived.Deep.RegionHeld3
import Derived.Test.YthjflmokfkcalaaKc
import Derived.Test.YthjflmokfkcalaaDo
namespace Go.Proofs.Ythjflmokfkcalaa
namespace Draw
open Go.RowKit Alg Mem Con Mp Hd
set_option linter.unusedVariables false

theorem OwnH.shape {w : World} {lo : Nat} {v : Value} {k : Nat} (h : OwnH w lo v k) : ∃ a c, v = .slice a k c ∧ k ≤ c ∧ c ≤ maxLen := by
  obtain ⟨zs, h⟩ := h
  rcases h.2 with ⟨hv, h0⟩ | ⟨g, c, cur, hv, _, _, h1, h2, _⟩
  · exact ⟨none, 0, by rw [hv, h0], by omega, by unfold maxLen; omega⟩
  · exact ⟨_, c, hv, h1, h2⟩
theorem OwnH.hld {w : World} {lo : Nat} {v : Value} {k : Nat} (h : OwnH w lo v k) : ∃ a c H, v = .slice a k c ∧ HldIn w a k H ∧ k ≤ c ∧ c ≤ maxLen := by
  obtain ⟨a, c, rfl, h1, h2⟩ := h.shape
  by_cases h0 : 1 ≤ k
  · obtain ⟨g, c', hv, hgl, hgs, _, _, hcel, _, _⟩ := h.ptr h0
    injection hv with e1 _ e3; subst e1
    have ⟨z, hz⟩ : ∃ z : Nat → Int, ∀ j, j < k * 2 → w.cell? ⟨g, j, none⟩ = some (.int .i64 (z j)) := by
      classical
      exact ⟨fun j => if hj : j < k * 2 then (hcel j hj).choose else 0, fun j hj => by simp only [dif_pos hj]; exact (hcel j hj).choose_spec⟩
    refine ⟨_, c, fun j => ⟨z (j * 2), z (j * 2 + 1)⟩, rfl, .inr ⟨g, 0, rfl, hgs, fun j hj => ?_⟩, h1, h2⟩
    rw [Nat.zero_add]
    exact ⟨hz _ (by omega), hz _ (by omega)⟩
  · exact ⟨a, c, fun _ => ⟨0, 0⟩, rfl, .inl (by omega), h1, h2⟩
/-- What holds while shares are drawn. -/
structure LSt (w : World) (base B : Nat) (a : Option Addr) (len cap p' : Nat) (W : World) (v : Value) (k : Nat) : Prop where
  own : OwnH W w.heap.size v k
  g : w.grownBy W (some B)
  rd : Rd W base B a len cap p'
theorem LSt.step {w : World} {base B : Nat} {a : Option Addr} {len cap p' p2 : Nat} {W W' : World} {v : Value} {k : Nat} (h : LSt w base B a len cap p' W v k) (hB : B < w.heap.size) (hg : W.grownBy W' (some B)) (hr : Rd W' base B a len cap p2) : LSt w base B a len cap p2 W' v k :=
  ⟨h.own.kept hg (fun g e => by injection e with e; omega), gtr' h.g hg, hr⟩
theorem LSt.app {w W W' : World} {base B : Nat} {a : Option Addr} {len cap p' : Nat} {v v' : Value} {k : Nat} {zs : List Int} {x y : Int} {o : Obj} (h : LSt w base B a len cap p' W v k) (hz : W.ownsRow w.heap.size 31 2 v k (zs.map fun z => .int .i64 z)) (hB : B < w.heap.size) (hg : (W.alloc o).grownBy W' v.ownBlock) (ho : W'.ownsRow w.heap.size 31 2 v' (k + 1) ((zs.map fun z => .int .i64 z) ++ [.int .i64 x, .int .i64 y])) : LSt w base B a len cap p' W' v' (k + 1) := by
  have hg' : W.grownBy W' v.ownBlock := grown_trans (grown_alloc W o _) hg
  have hne : ∀ g, v.ownBlock = some g → w.heap.size ≤ g := fun g hv => (hz.lt g hv).1
  refine ⟨⟨zs ++ [x, y], by simpa using ho⟩, ?_, ?_⟩
  · cases hv : v.ownBlock with
    | none => rw [hv] at hg'; exact grown_trans h.g (grown_some hg')
    | some g => rw [hv] at hg'; exact grown_newR h.g (hne g hv) hg'
  · have hlt := h.rd.lt; have hfr := h.rd.from_
    exact h.rd.kept (fun j hj => hg'.block j (by omega) (by intro e; have := hne j e.symm; omega)) (hg'.block B hlt (by intro e; have := hne B e.symm; omega))
theorem LSt.first {w : World} {base B : Nat} {a : Option Addr} {len cap p : Nat} (h : Rd w base B a len cap p) : LSt w base B a len cap p (w.alloc (.cells #[] 31)) (.slice (some ⟨w.heap.size, 0, none⟩) 0 0) 0 :=
  ⟨⟨[], rfl, .inr ⟨_, 0, #[], rfl, Nat.le_refl _, Blk.new _ #[] _, Nat.le_refl _, by decide, rfl, rfl⟩⟩, grown_alloc _ _ _, h.alloc _⟩
def GotLs (w : World) (base B : Nat) (a : Option Addr) (len cap p n : Nat) (e : Ending) (w' : World) : Prop :=
  ∃ (v : Value) (k : Nat), e = .returned v ∧ OwnH w' w.heap.size v k ∧ k ≤ n + 1 ∧ w.grownBy w' (some B) ∧ ∃ p', p ≤ p' ∧ p' ≤ p + 20 ∧ Rd w' base B a len cap p'
set_option maxRecDepth 100000 in
set_option maxHeartbeats 4000000 in
theorem list_any (w : World) (base B : Nat) (a : Option Addr) (len cap p : Nat) (h : Rd w base B a len cap p) (hp : p ≤ 1000000) (lo n : Nat) (v : Value) (hO : OwnH w lo v n) (hB : B < lo) (hn : n ≤ 8) :
    Calls Try.prog 39 #[.pointer (some ⟨B, 0, none⟩), v] w (GotLs w base B a len cap p n) := by
  have hBw := h.lt
  obtain ⟨i0, hi, hz0, hz1, hz2⟩ := info_parts info_hld
  have H0 := Lib.hid (LSt.first h)
  have HO := Lib.hid hO
  obtain ⟨av, cv, rfl, _, _⟩ := hO.shape
  clear h hO
  go_enter Try.func39, Try.ntmps39
  go_wp2
  go_loopw [5, 6] (fun u i W => ∃ k q p' : Nat, k ≤ n ∧ i = .int .i64 k ∧ q ≤ k ∧ p ≤ p' ∧ p' ≤ p + k ∧ LSt w base B a len cap p' W u q) (fun _ i _ => n - (intOf i).toNat)
  case atStart => exact ⟨0, 0, p, by omega, rfl, by omega, by omega, by omega, H0.out⟩
  case round =>
    obtain ⟨k, q, p1, hk, rfl, hq, hp0, hp1, hs⟩ := hrel
    obtain ⟨W1, hW⟩ : ∃ W, W = wr := ⟨_, rfl⟩; subst hW
    obtain ⟨v1, hW⟩ : ∃ W, W = u5 := ⟨_, rfl⟩; subst hW
    have HS := Lib.hid hs; clear hs
    by_cases hlt : k < n
    · have hlt' : (k : Int) < (n : Int) := by omega
      go_wp2_with fail
      refine (pick_any _ base B a len cap p1 3 HS.out.rd (by omega) (by omega)).mono ?_
      rintro e W2 ⟨x, x0, x1, rfl, hr, hg, hsz⟩
      have HS2 := Lib.hid (HS.out.step hBw hg hr)
      clear hr hg hsz
      rcases (by omega : x = 0 ∨ 1 ≤ x) with rfl | hx
      · go_wp2
        go_roundw
        case rel => exact ⟨k + 1, q, p1 + 1, by omega, by go_num, by omega, by omega, by omega, HS2.out⟩
        case measure => simp [intOf]; omega
      · have hx' : (0 : Int) < x := by omega
        obtain ⟨g, c', hv, _, _, _, _, hcel, _, _⟩ := (HO.out.kept HS2.out.g (fun g e => by injection e with e; omega)).ptr (by omega)
        injection hv with e1 _ e3; subst e1; subst e3
        obtain ⟨y, hc0⟩ := hcel (k * 2) (by omega)
        obtain ⟨z, hc1⟩ := hcel (k * 2 + 1) (by omega)
        clear hcel
        obtain ⟨zs, hzs⟩ := HS2.out.own
        have HZ := Lib.hid hzs; clear hzs
        have hw2 := HS2.out.g.size
        go_wp2_with (at_builtin; refine wpList_append_own _ rfl _ _ 23 rfl w.heap.size 31 i0 (.agg #[.int .i64 0, .int .i64 0]) 2 16 und_hlds hi hz0 hz1 hz2 rfl (by decide) v1 q _ rfl (HZ.out.alloc _) ⟨W2.heap.size, 0, none⟩ 1 1 [.int .i64 y, .int .i64 z] rfl rfl (World.news_of_block (cs := #[.int .i64 y, .int .i64 z]) (t := 31) (fr := (0, 0)) (heap_alloc_new W2 _)) (by simp [Value.oneCell']) (by unfold maxLen; omega) (by omega) (by simp; omega) ?_; intro v' W4 hown' hgrow _)
        have HS4 := Lib.hid (HS2.out.app HZ.out hBw hgrow hown')
        clear hown' hgrow
        go_wp2
        go_roundw
        case rel => exact ⟨k + 1, q + 1, p1 + 1, by omega, by go_num, by omega, by omega, by omega, HS4.out⟩
        case measure => simp [intOf]; omega
    · obtain rfl : k = n := by omega
      have hlt' : ¬ (k : Int) < (k : Int) := by omega
      go_wp2_with fail
      refine (pick_any _ base B a len cap p1 40 HS.out.rd (by omega) (by omega)).mono ?_
      rintro e W2 ⟨x, x0, x1, rfl, hr, hg, hsz⟩
      have HS2 := Lib.hid (HS.out.step hBw hg hr)
      clear hr hg hsz
      rcases (by omega : x = 0 ∨ 1 ≤ x) with rfl | hx
      · go_wp2_with fail
        refine (pick_any _ base B a len cap (p1 + 1) 7 HS2.out.rd (by omega) (by omega)).mono ?_
        rintro e W3 ⟨y, y0, y1, rfl, hr, hg, hsz⟩
        have HS3 := Lib.hid (HS2.out.step hBw hg hr)
        clear hr hg hsz
        go_wp2_with fail
        refine (num_any _ base B a len cap (p1 + 1 + 1) HS3.out.rd (by omega)).mono ?_
        rintro e W4 ⟨z, z0, z1, rfl, hg, p4, hp4, hp4', hr⟩
        have HS4 := Lib.hid (HS3.out.step hBw hg hr)
        clear hr hg
        obtain ⟨zs, hzs⟩ := HS4.out.own
        have HZ := Lib.hid hzs; clear hzs
        have hw2 := HS4.out.g.size
        go_wp2_with (at_builtin; refine wpList_append_own _ rfl _ _ 23 rfl w.heap.size 31 i0 (.agg #[.int .i64 0, .int .i64 0]) 2 16 und_hlds hi hz0 hz1 hz2 rfl (by decide) v1 q _ rfl (HZ.out.alloc _) ⟨W4.heap.size, 0, none⟩ 1 1 [.int .i64 y, .int .i64 z] rfl rfl (World.news_of_block (cs := #[.int .i64 y, .int .i64 z]) (t := 31) (fr := (0, 0)) (heap_alloc_new W4 _)) (by simp [Value.oneCell']) (by unfold maxLen; omega) (by omega) (by simp; omega) ?_; intro v' W5 hown' hgrow _)
        have HS5 := Lib.hid (HS4.out.app HZ.out hBw hgrow hown')
        clear hown' hgrow
        go_wp2
        go_ret
        exact ⟨_, q + 1, rfl, HS5.out.own, by omega, HS5.out.g, p4, by omega, by omega, HS5.out.rd⟩
      · have e0 : (x == 0) = false := by simp; omega
        go_wp2
        go_ret
        exact ⟨_, q, rfl, HS2.out.own, by omega, HS2.out.g, p1 + 1, by omega, by omega, HS2.out.rd⟩
/-- Shares, drawn from the program's input. -/
def GotO (w : World) (e : Ending) (w' : World) : Prop :=
  ∃ (a : Option Addr) (n c : Nat) (H : Nat → HV), e = .returned (.slice a n c) ∧ HldIn w' a n H ∧ n ≤ 10 ∧ n ≤ c ∧ c ≤ maxLen ∧ w.grownBy w' none
/-- How many are needed, and shares. -/
def GotS (w : World) (e : Ending) (w' : World) : Prop :=
  ∃ (need : Int) (a : Option Addr) (n c : Nat) (H : Nat → HV), e = .returned (.tuple #[.int .i64 need, .slice a n c]) ∧ HldIn w' a n H ∧ n ≤ 10 ∧ n ≤ c ∧ c ≤ maxLen ∧ w.grownBy w' none
/-- How many are needed, shares, and a secret. -/
def GotW (w : World) (e : Ending) (w' : World) : Prop :=
  ∃ (need : Int) (a : Option Addr) (n c : Nat) (H : Nat → HV) (s : Int), e = .returned (.tuple #[.int .i64 need, .slice a n c, .int .i64 s]) ∧ HldIn w' a n H ∧ n ≤ 10 ∧ n ≤ c ∧ c ≤ maxLen ∧ w.grownBy w' none
set_option maxRecDepth 100000 in
set_option maxHeartbeats 4000000 in
theorem drawHO (w : World) (a : Option Addr) (len cap : Nat) (hB : Bytes w w.heap.size a len) (hc : len ≤ cap) (hm : cap ≤ maxLen) :
    Calls Try.prog 24 #[.slice a len cap] w (GotO w) := by
  go_enter Try.func24, Try.ntmps24
  go_wp2_with fail
  refine (open_any _ w.heap.size a len cap hB (Nat.le_refl _) hc hm).mono ?_
  rintro e w1 ⟨rfl, hg1, hs1, l1, c1', hr1⟩
  have HG1 := Lib.hid hg1; have HR1 := Lib.hid hr1
  have hR1 := hr1.lt
  clear hr1 hg1 hB
  go_wp2_with fail
  refine (held_any _ _ _ a l1 c1' 0 HR1.out (by omega)).mono ?_
  rintro e w2 ⟨need, many, ag, ng, cg, zg, ac, nc, cc, zc, v, rfl, hk, hm1, hO, hg2, p2, hp2, hp2', hr2⟩
  have hs2 := hg2.size
  have hm6 := hk.m5; have hn5 := hk.n5
  have HG2 := Lib.hid (grown_new HG1.out (by omega) hg2); have HR2 := Lib.hid (hr2.alloc (.cells #[.int .i64 need, .int .i64 many, .slice ag ng cg, .slice ac nc cc] 36)); have HO2 := Lib.hid (hO.kept (grown_alloc w2 (.cells #[.int .i64 need, .int .i64 many, .slice ag ng cg, .slice ac nc cc] 36) none) (fun g e => by cases e)); have HK2 := Lib.hid hk
  have HG3 := Lib.hid (gtr HG2.out (grown_alloc w2 (.cells #[.int .i64 need, .int .i64 many, .slice ag ng cg, .slice ac nc cc] 36) none))
  have HB2 := Lib.hid (Blk.new w2 #[.int .i64 need, .int .i64 many, .slice ag ng cg, .slice ac nc cc] 36)
  have hsa : (w2.alloc (.cells #[.int .i64 need, .int .i64 many, .slice ag ng cg, .slice ac nc cc] 36)).heap.size = w2.heap.size + 1 := by show (w2.heap.push _).size = _; simp
  clear hk hg2 hr2 hO
  obtain ⟨av, cv, rfl, _, _⟩ := HO2.out.shape
  go_wp2_with fail
  refine (list_any _ _ _ a l1 c1' p2 HR2.out (by omega) w1.heap.size many _ HO2.out (by omega) (by omega)).mono ?_
  rintro e w3 ⟨v3, k3, rfl, hO3, hk3, hg3, p3, hp3, hp3', hr3⟩
  have hs3 := hg3.size
  rw [hsa] at hs3
  have HO3 := Lib.hid hO3; have HR3 := Lib.hid hr3; have HG4 := Lib.hid (grown_new HG3.out (by omega) hg3)
  clear hO3 hg3 hr3
  go_wp2_with fail
  refine (pick_any _ _ _ a l1 c1' p3 5 HR3.out (by omega) (by omega)).mono ?_
  rintro e w4 ⟨x, x0, x1, rfl, hr, hg, hsz⟩
  have hs4 := hg.size
  have HO4 := Lib.hid (HO3.out.kept hg (fun g e => by injection e with e; rw [hsa]; omega)); have HR4 := Lib.hid hr; have HG5 := Lib.hid (grown_new HG4.out (by omega) hg)
  clear hr hg
  rcases (by omega : x = 0 ∨ 1 ≤ x) with rfl | hx
  · go_wp2_with fail
    refine (pick_any _ _ _ a l1 c1' (p3 + 1) 7 HR4.out (by omega) (by omega)).mono ?_
    rintro e w5 ⟨y, y0, y1, rfl, hr, hg, hsz⟩
    have hs5 := hg.size
    have HO5 := Lib.hid (HO4.out.kept hg (fun g e => by injection e with e; rw [hsa]; omega)); have HR5 := Lib.hid hr; have HG6 := Lib.hid (grown_new HG5.out (by omega) hg)
    clear hr hg
    go_wp2_with fail
    refine (num_any _ _ _ a l1 c1' (p3 + 1 + 1) HR5.out (by omega)).mono ?_
    rintro e w6 ⟨z, z0, z1, rfl, hg, p6, hp6, hp6', hr⟩
    have hs6 := hg.size
    have HO6 := Lib.hid (HO5.out.kept hg (fun g e => by injection e with e; rw [hsa]; omega)); have HG7 := Lib.hid (grown_new HG6.out (by omega) hg)
    clear hr hg
    obtain ⟨i0, hi, hz0, hz1, hz2⟩ := info_parts info_hld
    obtain ⟨zs, hzs⟩ := HO6.out
    have HZ := Lib.hid hzs; clear hzs
    have hw7 := HG7.out.size
    go_wp2_with (at_builtin; refine wpList_append_own _ rfl _ _ 23 rfl (w2.alloc (.cells #[.int .i64 need, .int .i64 many, .slice ag ng cg, .slice ac nc cc] 36)).heap.size 31 i0 (.agg #[.int .i64 0, .int .i64 0]) 2 16 und_hlds hi hz0 hz1 hz2 rfl (by decide) v3 k3 _ rfl (HZ.out.alloc _) ⟨w6.heap.size, 0, none⟩ 1 1 [.int .i64 y, .int .i64 z] rfl rfl (World.news_of_block (cs := #[.int .i64 y, .int .i64 z]) (t := 31) (fr := (0, 0)) (heap_alloc_new w6 _)) (by simp [Value.oneCell']) (by unfold maxLen; omega) (by omega) (by simp; omega) ?_; intro v' W7 hown' hgrow _)
    have HO7 := Lib.hid (show OwnH W7 _ v' (k3 + 1) from ⟨zs ++ [y, z], by simpa using hown'⟩)
    have hgw : w6.grownBy W7 v3.ownBlock := grown_trans (grown_alloc w6 _ _) hgrow
    have HG8 := Lib.hid (show w.grownBy W7 none by
      cases hv : v3.ownBlock with
      | none => rw [hv] at hgw; exact gtr HG7.out hgw
      | some g => rw [hv] at hgw; exact grown_new HG7.out (by have := (HZ.out.lt g hv).1; rw [hsa] at this; have := HG1.out.size; omega) hgw)
    clear hown' hgrow hgw
    obtain ⟨a7, c7, H7, rfl, hI, h1, h2⟩ := HO7.out.hld
    go_wp2
    go_ret
    exact ⟨a7, k3 + 1, c7, H7, rfl, hI, by omega, h1, h2, HG8.out⟩
  · have e0 : (x == 0) = false := by simp; omega
    obtain ⟨a7, c7, H7, rfl, hI, h1, h2⟩ := HO4.out.hld
    go_wp2
    go_ret
    exact ⟨a7, k3, c7, H7, rfl, hI, by omega, h1, h2, HG5.out⟩
set_option maxRecDepth 100000 in
set_option maxHeartbeats 4000000 in
theorem drawSO (w : World) (a : Option Addr) (len cap : Nat) (hB : Bytes w w.heap.size a len) (hc : len ≤ cap) (hm : cap ≤ maxLen) :
    Calls Try.prog 9 #[.slice a len cap] w (GotS w) := by
  go_enter Try.func9, Try.ntmps9
  go_wp2_with fail
  refine (open_any _ w.heap.size a len cap hB (Nat.le_refl _) hc hm).mono ?_
  rintro e w1 ⟨rfl, hg1, hs1, l1, c1', hr1⟩
  have HG1 := Lib.hid hg1; have HR1 := Lib.hid hr1
  have hR1 := hr1.lt
  clear hr1 hg1 hB
  go_wp2_with fail
  refine (held_any _ _ _ a l1 c1' 0 HR1.out (by omega)).mono ?_
  rintro e w2 ⟨need, many, ag, ng, cg, zg, ac, nc, cc, zc, v, rfl, hk, hm1, hO, hg2, p2, hp2, hp2', hr2⟩
  have hs2 := hg2.size
  have hm6 := hk.m5; have hn5 := hk.n5
  have HG2 := Lib.hid (grown_new HG1.out (by omega) hg2); have HR2 := Lib.hid (hr2.alloc (.cells #[.int .i64 need, .int .i64 many, .slice ag ng cg, .slice ac nc cc] 36)); have HO2 := Lib.hid (hO.kept (grown_alloc w2 (.cells #[.int .i64 need, .int .i64 many, .slice ag ng cg, .slice ac nc cc] 36) none) (fun g e => by cases e)); have HK2 := Lib.hid hk
  have HG3 := Lib.hid (gtr HG2.out (grown_alloc w2 (.cells #[.int .i64 need, .int .i64 many, .slice ag ng cg, .slice ac nc cc] 36) none))
  have HB2 := Lib.hid (Blk.new w2 #[.int .i64 need, .int .i64 many, .slice ag ng cg, .slice ac nc cc] 36)
  have hsa : (w2.alloc (.cells #[.int .i64 need, .int .i64 many, .slice ag ng cg, .slice ac nc cc] 36)).heap.size = w2.heap.size + 1 := by show (w2.heap.push _).size = _; simp
  clear hk hg2 hr2 hO
  obtain ⟨av, cv, rfl, _, _⟩ := HO2.out.shape
  go_wp2_with fail
  refine (pick_any _ _ _ a l1 c1' p2 3 HR2.out (by omega) (by omega)).mono ?_
  rintro e w3 ⟨x, x0, x1, rfl, hr, hg, hsz⟩
  have hs3 := hg.size
  rw [hsa] at hs3
  have HO3 := Lib.hid (HO2.out.kept hg (fun g e => by injection e with e; omega)); have HR3 := Lib.hid hr; have HG4 := Lib.hid (grown_new HG3.out (by omega) hg); have HB3 := Lib.hid (HB2.out.kept hg (by intro e; injection e with e; omega))
  clear hr hg hsz
  obtain ⟨k0, k1, k2, k3, f0, f1, f2, f3⟩ := HB3.out.all4
  rcases (by omega : x = 0 ∨ 1 ≤ x) with rfl | hx
  · obtain ⟨a7, c7, H7, hv, hI, h1, h2⟩ := HO3.out.hld
    injection hv with e1 _ e3; subst e1; subst e3
    go_wp2
    go_ret2
    exact ⟨_, _, many, _, H7, rfl, hI, by omega, h1, h2, HG4.out⟩
  · have e0 : (x == 0) = false := by simp; omega
    have HR3d := Lib.hid (HR3.out.kept (w' := w3.drew) (fun _ _ => rfl) rfl)
    go_wp2_with fail
    go_region_held3 (fun w' => w'.cell? ⟨w2.heap.size, 0, none⟩ = some (.int .i64 need)) (first | exact hS5 | exact hS4 | exact k0) (first
      | (go_at_call 38; (with_reducible refine (pick_any _ _ _ a l1 c1' _ 24 HR3d.out (by omega) (by omega)).mono ?_); rintro e wa ⟨q, q0, q1, rfl, hr, hg, hs⟩; have Hga := Lib.hid (show w3.grownBy wa (some w.heap.size) from ⟨hg.os, hg.tape, hg.output, hg.size, hg.block⟩); have waR := Lib.hid hr; have waB := Lib.hid (HB3.out.kept Hga.out (by intro e; injection e with e; omega)); have waO := Lib.hid (HO3.out.kept Hga.out (fun g e => by injection e with e; omega)); have HG5 := Lib.hid (grown_new HG4.out (Nat.le_refl _) Hga.out); have hsa5 := Hga.out.size; have hS4 : wa.cell? ⟨w2.heap.size, 0, none⟩ = some (.int .i64 need) := waB.out.cell 0; clear hr hg hs)
      | (go_at_call 39; (with_reducible refine (list_any _ _ _ a l1 c1' _ waR.out (by omega) w1.heap.size many _ waO.out (by omega) (by omega)).mono ?_); rintro e wb ⟨vb, kb, rfl, hOb, hkb, hg, pb, hpb, hpb', hrb⟩; have HG6 := Lib.hid (grown_new HG5.out (Nat.le_refl _) hg); have hS5 : wb.cell? ⟨w2.heap.size, 0, none⟩ = some (.int .i64 need) := (waB.out.kept hg (by intro e; injection e with e; omega)).cell 0; obtain ⟨a7, c7, H7, rfl, hI, h1, h2⟩ := hOb.hld; have HI7 := Lib.hid hI; clear hOb hg hrb hI))
    all_goals
      clear hS4 hS5 k0 k1 k2 k3 f0 f1 f2 f3
      go_wp2
      go_ret2
      exact ⟨_, a7, kb, c7, H7, rfl, HI7.out, by omega, h1, h2, HG6.out⟩
end Draw
end Go.Proofs.Ythjflmokfkcalaa
/-
  How the model draws a key and shares.
-/

namespace Go.Proofs.Ythjflmokfkcalaa
namespace Draw
open Go.RowKit Alg Mem Con Mp Hd
set_option linter.unusedVariables false

/-- A key and shares, drawn from the program's input. -/
def GotB (w : World) (e : Ending) (w' : World) : Prop :=
  ∃ (need many : Nat) (ag : Option Addr) (ng cg : Nat) (zg : Nat → Int) (ac : Option Addr) (nc cc : Nat) (zc : Nat → Int) (a : Option Addr) (n c : Nat) (H : Nat → HV), e = .returned (.tuple #[.agg #[.int .i64 need, .int .i64 many, .slice ag ng cg, .slice ac nc cc], .slice a n c]) ∧ KeyIn w w' need many ag ng zg ac nc zc ∧ HldIn w' a n H ∧ n ≤ 10 ∧ n ≤ c ∧ c ≤ maxLen ∧ w.grownBy w' none
theorem gotb_mk {w W : World} {R : Nat} {need many : Nat} {ag : Option Addr} {ng cg : Nat} {zg : Nat → Int} {ac : Option Addr} {nc cc : Nat} {zc : Nat → Int} {wk : World} {v0 v1 v2 v3 : Value} {a : Option Addr} {n c : Nat} (hb : Blk W R #[v0, v1, v2, v3] 36) (hR : w.heap.size ≤ R) (hRk : R < wk.heap.size) (hk : KeyIn wk W need many ag ng zg ac nc zc) (hO : OwnH W wk.heap.size (.slice a n c) n) (hn : n ≤ 10) (hg : w.grownBy W none) :
    Blk (stored4 W R (.int .i64 need) (.int .i64 many) (.slice ag ng cg) (.slice ac nc cc)) R #[.int .i64 need, .int .i64 many, .slice ag ng cg, .slice ac nc cc] 36 ∧
    GotB w (.returned (.tuple #[.agg #[.int .i64 need, .int .i64 many, .slice ag ng cg, .slice ac nc cc], .slice a n c])) (stored4 W R (.int .i64 need) (.int .i64 many) (.slice ag ng cg) (.slice ac nc cc)) := by
  have g1 : W.grownBy (stored4 W R (.int .i64 need) (.int .i64 many) (.slice ag ng cg) (.slice ac nc cc)) (some R) := gtr' (gtr' (gtr' (grown_set W R 0 (.int .i64 need)) (grown_set _ R 1 (.int .i64 many))) (grown_set _ R 2 (.slice ag ng cg))) (grown_set _ R 3 (.slice ac nc cc))
  have hr : ∀ g, (some R : Option Nat) = some g → g < wk.heap.size := fun g e => by have e := Option.some.inj e; omega
  obtain ⟨a', c', H, hv, hI, h1, h2⟩ := (hO.kept g1 hr).hld
  injection hv with e1 _ e3; subst e1; subst e3
  exact ⟨(((hb.set 0 _).set 1 _).set 2 _).set 3 _, need, many, ag, ng, cg, zg, ac, nc, cc, zc, a, n, c, H, rfl, (hk.kept g1 hr).lower (by omega), hI, hn, h1, h2, grown_new hg hR g1⟩
set_option maxRecDepth 100000 in
set_option maxHeartbeats 2000000 in
theorem drawSB (w : World) (a : Option Addr) (len cap : Nat) (hB : Bytes w w.heap.size a len) (hc : len ≤ cap) (hm : cap ≤ maxLen) :
    Calls Try.prog 16 #[.slice a len cap] w (GotB w) := by
  have HD0 := Lib.hid (Blk.new w #[.int .i64 0, .int .i64 0, .slice none 0 0, .slice none 0 0] 36)
  have hs0 : (w.alloc (.cells #[.int .i64 0, .int .i64 0, .slice none 0 0, .slice none 0 0] 36)).heap.size = w.heap.size + 1 := by show (w.heap.push _).size = _; simp
  have HB := Lib.hid (hB.kept (w' := w.alloc (.cells #[.int .i64 0, .int .i64 0, .slice none 0 0, .slice none 0 0] 36)) (fun k hk => Below.heap_alloc _ _ _ hk))
  have HG0 := Lib.hid (grown_alloc w (.cells #[.int .i64 0, .int .i64 0, .slice none 0 0, .slice none 0 0] 36) none)
  clear hB
  go_enter Try.func16, Try.ntmps16
  go_wp2_with fail
  refine (open_any _ w.heap.size a len cap HB.out (by omega) hc hm).mono ?_
  rintro e w1 ⟨rfl, hg1, hs1, l1, c1', hr1⟩
  rw [hs0] at hr1
  have HD1 := Lib.hid (HD0.out.keptN hg1); have HG1 := Lib.hid (gtr HG0.out hg1); have HR1 := Lib.hid hr1
  have hR1 := hr1.lt
  clear hr1 hg1
  go_wp2_with fail
  refine (held_any _ _ _ a l1 c1' 0 HR1.out (by omega)).mono ?_
  rintro e w2 ⟨need, many, ag, ng, cg, zg, ac, nc, cc, zc, v, rfl, hk, hm1, hO, hg2, p2, hp2, hp2', hr2⟩
  have hs2 := hg2.size
  have hm6 := hk.m5
  have HD2 := Lib.hid ((HD1.out.kept hg2 (by intro e; have e := Option.some.inj e; omega)).keptN (grown_alloc w2 (.cells #[.int .i64 need, .int .i64 many, .slice ag ng cg, .slice ac nc cc] 36) none))
  have HG2 := Lib.hid (gtr (grown_new HG1.out (by omega) hg2) (grown_alloc w2 (.cells #[.int .i64 need, .int .i64 many, .slice ag ng cg, .slice ac nc cc] 36) none))
  have HK2 := Lib.hid (hk.kept (grown_alloc w2 (.cells #[.int .i64 need, .int .i64 many, .slice ag ng cg, .slice ac nc cc] 36) none) (fun g e => by cases e))
  have HR2 := Lib.hid (hr2.alloc (.cells #[.int .i64 need, .int .i64 many, .slice ag ng cg, .slice ac nc cc] 36))
  have HO2 := Lib.hid (hO.kept (grown_alloc w2 (.cells #[.int .i64 need, .int .i64 many, .slice ag ng cg, .slice ac nc cc] 36) none) (fun g e => by cases e))
  have HB2 := Lib.hid (Blk.new w2 #[.int .i64 need, .int .i64 many, .slice ag ng cg, .slice ac nc cc] 36)
  have hsa : (w2.alloc (.cells #[.int .i64 need, .int .i64 many, .slice ag ng cg, .slice ac nc cc] 36)).heap.size = w2.heap.size + 1 := by show (w2.heap.push _).size = _; simp
  clear hk hg2 hr2 hO
  obtain ⟨av, cv, rfl, _, _⟩ := HO2.out.shape
  have HR2d := Lib.hid (HR2.out.kept (w' := (w2.alloc (.cells #[.int .i64 need, .int .i64 many, .slice ag ng cg, .slice ac nc cc] 36)).drew) (fun _ _ => rfl) rfl)
  have HO2d := Lib.hid (show OwnH ((w2.alloc (.cells #[.int .i64 need, .int .i64 many, .slice ag ng cg, .slice ac nc cc] 36)).drew) w1.heap.size (.slice av many cv) many from HO2.out)
  obtain ⟨k0, k1, k2, k3, f0, f1, f2, f3⟩ := HB2.out.all4
  obtain ⟨r0, r1, r2, r3, j0, j1, j2, j3⟩ := HD2.out.all4
  have hKR : w2.heap.size ≠ w.heap.size := by omega
  have hl0 := HD2.out.lt; have hl1 := HB2.out.lt
  go_wp2_with fail
  go_region_held3 (fun w' => w'.cell? ⟨w2.heap.size, 0, none⟩ = some (.int .i64 need) ∧ w'.cell? ⟨w2.heap.size, 1, none⟩ = some (.int .i64 many) ∧ w'.cell? ⟨w2.heap.size, 2, none⟩ = some (.slice ag ng cg) ∧ w'.cell? ⟨w2.heap.size, 3, none⟩ = some (.slice ac nc cc)) (first | exact hS6 | exact hS5 | exact ⟨k0, k1, k2, k3⟩) ((go_at_call 39; (with_reducible refine (list_any _ _ _ a l1 c1' _ HR2d.out (by omega) w1.heap.size many _ HO2d.out (by omega) (by omega)).mono ?_); rintro e wb ⟨vb, kb, rfl, hOb, hkb, hg, pb, hpb, hpb', hrb⟩; have Hg := Lib.hid (show (w2.alloc (.cells #[.int .i64 need, .int .i64 many, .slice ag ng cg, .slice ac nc cc] 36)).grownBy wb (some (w.heap.size + 1)) from ⟨hg.os, hg.tape, hg.output, hg.size, hg.block⟩); have wbB := HB2.out.kept Hg.out (by intro e; injection e with e; omega); have wbD := Lib.hid (HD2.out.kept Hg.out (by intro e; injection e with e; omega)); have hsb := Hg.out.size; have hS5 : wb.cell? ⟨w2.heap.size, 0, none⟩ = some (.int .i64 need) ∧ wb.cell? ⟨w2.heap.size, 1, none⟩ = some (.int .i64 many) ∧ wb.cell? ⟨w2.heap.size, 2, none⟩ = some (.slice ag ng cg) ∧ wb.cell? ⟨w2.heap.size, 3, none⟩ = some (.slice ac nc cc) := ⟨wbB.cell 0, wbB.cell 1, wbB.cell 2, wbB.cell 3⟩; have hd10 := (((wbB.other (b' := w.heap.size) (i := 0) (v := .int .i64 need) hKR).other (b' := w.heap.size) (i := 1) (v := .int .i64 many) hKR).other (b' := w.heap.size) (i := 2) (v := .slice ag ng cg) hKR).other (b' := w.heap.size) (i := 3) (v := .slice ac nc cc) hKR; have hS6 : ((((wb.setCell ⟨w.heap.size, 0, none⟩ (.int .i64 need)).setCell ⟨w.heap.size, 1, none⟩ (.int .i64 many)).setCell ⟨w.heap.size, 2, none⟩ (.slice ag ng cg)).setCell ⟨w.heap.size, 3, none⟩ (.slice ac nc cc)).cell? ⟨w2.heap.size, 0, none⟩ = some (.int .i64 need) ∧ ((((wb.setCell ⟨w.heap.size, 0, none⟩ (.int .i64 need)).setCell ⟨w.heap.size, 1, none⟩ (.int .i64 many)).setCell ⟨w.heap.size, 2, none⟩ (.slice ag ng cg)).setCell ⟨w.heap.size, 3, none⟩ (.slice ac nc cc)).cell? ⟨w2.heap.size, 1, none⟩ = some (.int .i64 many) ∧ ((((wb.setCell ⟨w.heap.size, 0, none⟩ (.int .i64 need)).setCell ⟨w.heap.size, 1, none⟩ (.int .i64 many)).setCell ⟨w.heap.size, 2, none⟩ (.slice ag ng cg)).setCell ⟨w.heap.size, 3, none⟩ (.slice ac nc cc)).cell? ⟨w2.heap.size, 2, none⟩ = some (.slice ag ng cg) ∧ ((((wb.setCell ⟨w.heap.size, 0, none⟩ (.int .i64 need)).setCell ⟨w.heap.size, 1, none⟩ (.int .i64 many)).setCell ⟨w.heap.size, 2, none⟩ (.slice ag ng cg)).setCell ⟨w.heap.size, 3, none⟩ (.slice ac nc cc)).cell? ⟨w2.heap.size, 3, none⟩ = some (.slice ac nc cc) := ⟨hd10.cell 0, hd10.cell 1, hd10.cell 2, hd10.cell 3⟩; obtain ⟨r0b, r1b, r2b, r3b, j0b, j1b, j2b, j3b⟩ := wbD.out.all4; obtain ⟨a7, c7, rfl, _, _⟩ := hOb.shape; have HE := Lib.hid (gotb_mk (w := w) (wk := w1) (cg := cg) (cc := cc) wbD.out (Nat.le_refl _) (by omega) (HK2.out.kept Hg.out (fun g e => by injection e with e; omega)) (hOb.lower (by show w1.heap.size ≤ ((w2.alloc (.cells #[.int .i64 need, .int .i64 many, .slice ag ng cg, .slice ac nc cc] 36)).drew).heap.size; exact Nat.le_trans (by omega) (Nat.le_of_eq hsa.symm))) (by omega) (grown_new HG2.out (by omega) Hg.out)); have hlb := wbD.out.lt; clear hg hd10 hOb hrb))
  all_goals
    clear hS5 hS6 k0 k1 k2 k3 f0 f1 f2 f3 r0 r1 r2 r3 j0 j1 j2 j3
    go_wp2
    (try simp only [Exit.inBlock, Exit.then])
    refine bodyPost_ret (ret_key2 rfl _ rfl HE.out.1) rfl ?_
    exact HE.out.2
end Draw
end Go.Proofs.Ythjflmokfkcalaa
/-
  Secrets: whose shares are wrong: the model's function; how the model draws a key and shares.
-/

namespace Go.Proofs.Ythjflmokfkcalaa
namespace Hd
open Go.RowKit Alg Mem Con
set_option linter.unusedVariables false

/-- Is a share wrong? -/
def sbE (many : Int) (nc : Nat) (zc : Nat → Int) (H : Nat → HV) (k : Nat) : Bool := decide (many < (H k).m) || !cfz nc zc (H k).m (H k).s
/-- Whose of the first so many. -/
def sbl (many : Int) (nc : Nat) (zc : Nat → Int) (H : Nat → HV) : Nat → List Int
  | 0 => []
  | k + 1 => sbl many nc zc H k ++ (if sbE many nc zc H k then [(H k).m] else [])
section
variable {need many : Int} {ng : Nat} {zg : Nat → Int} {nc : Nat} {zc : Nat → Int} {H : Nat → HV} {n k : Nat}
theorem sbl_len : (sbl many nc zc H k).length ≤ k := by
  induction k with
  | zero => exact Nat.le_refl _
  | succ k ih => unfold sbl; split <;> simp <;> omega
theorem sbl_yes (h : sbE many nc zc H k = true) : sbl many nc zc H (k + 1) = sbl many nc zc H k ++ [(H k).m] := by simp [sbl, h]
theorem sbl_no (h : sbE many nc zc H k = false) : sbl many nc zc H (k + 1) = sbl many nc zc H k := by simp [sbl, h]
theorem sbE_fit (hk : kyF need many ng zg nc zc = true) (hh : hkF H n = true) (hj : k < n) : sbE many nc zc H k = !kfit need many ng zg nc zc (H k).m (H k).s := by
  have h1 := (hk_at hh hj).1
  unfold sbE
  by_cases hm : many < (H k).m
  · rw [kfit_m (by cases hb : mbF many (H k).m with
      | false => rfl
      | true => have := (mb_iff.1 hb).2; omega)]; simp [hm]
  · rw [kfit_y hk (mb_iff.2 ⟨h1.1, by omega⟩)]; simp [hm]
end
def sbF (need many : Int) (ng : Nat) (zg : Nat → Int) (nc : Nat) (zc : Nat → Int) (H : Nat → HV) (n : Nat) : List Int := if kyF need many ng zg nc zc = true ∧ hkF H n = true then sbl many nc zc H n else []
theorem sb_none {need many : Int} {ng : Nat} {zg : Nat → Int} {nc : Nat} {zc : Nat → Int} {H : Nat → HV} {n : Nat} (h : kyF need many ng zg nc zc = false ∨ hkF H n = false) : sbF need many ng zg nc zc H n = [] := by
  unfold sbF; rw [if_neg]; rintro ⟨h1, h2⟩; rcases h with h | h
  · rw [h] at h1; cases h1
  · rw [h] at h2; cases h2
theorem sb_some {need many : Int} {ng : Nat} {zg : Nat → Int} {nc : Nat} {zc : Nat → Int} {H : Nat → HV} {n : Nat} (h : kyF need many ng zg nc zc = true) (h2 : hkF H n = true) : sbF need many ng zg nc zc H n = sbl many nc zc H n := if_pos ⟨h, h2⟩
theorem lst_empty (w : World) : Lst (w.alloc (.cells #[] 3)) w.heap.size (.slice (some ⟨w.heap.size, 0, none⟩) 0 0) [] := .inr ⟨_, 0, rfl, row_empty w _ _⟩
set_option maxRecDepth 100000 in
set_option maxHeartbeats 4000000 in
theorem s13bad (w : World) (need many : Int) (ag : Option Addr) (ng cg : Nat) (zg : Nat → Int) (ac : Option Addr) (nc cc : Nat) (zc : Nat → Int) (a : Option Addr) (len cap : Nat) (H : Nat → HV) (hA : Ints w ag ng zg) (hB : Ints w ac nc zc) (hI : HldIn w a len H) (hl1 : ng ≤ 2000000) (hl2 : nc ≤ 2000000) (hl : len ≤ 2000000) :
    Calls Try.prog 19 #[.agg #[.int .i64 need, .int .i64 many, .slice ag ng cg, .slice ac nc cc], .slice a len cap] w fun e w' => ∃ v, e = .returned v ∧ Lst w' w.heap.size v (sbF need many ng zg nc zc H len) ∧ w.grownBy w' none := by
  have hs0 : (w.alloc (.cells #[.int .i64 need, .int .i64 many, .slice ag ng cg, .slice ac nc cc] 36)).heap.size = w.heap.size + 1 := by show (w.heap.push _).size = _; simp
  have HG0 := Lib.hid (Draw.grown_alloc w (.cells #[.int .i64 need, .int .i64 many, .slice ag ng cg, .slice ac nc cc] 36) none)
  have HK0 := Lib.hid (Ky.new w need many (.slice ag ng cg) (.slice ac nc cc) 36)
  have HL0 := Lib.hid (lst_empty (w.alloc (.cells #[.int .i64 need, .int .i64 many, .slice ag ng cg, .slice ac nc cc] 36)))
  have HGA := Lib.hid (Draw.grown_alloc (w.alloc (.cells #[.int .i64 need, .int .i64 many, .slice ag ng cg, .slice ac nc cc] 36)) (.cells #[] 3) none)
  rw [hs0] at HL0
  have HG1 := Lib.hid (gtr HG0.out HGA.out)
  have HA := Lib.hid (hA.kept HG1.out); have HB := Lib.hid (hB.kept HG1.out); have HI := Lib.hid (hI.kept HG1.out); have HK1 := Lib.hid (HK0.out.kept HGA.out)
  have HA0 := Lib.hid (hA.kept HG0.out); have HB0 := Lib.hid (hB.kept HG0.out); have HI0 := Lib.hid (hI.kept HG0.out)
  clear hA hB hI
  obtain ⟨_, k0, k1, k2, k3⟩ := HK1.out
  obtain ⟨i0, hi, hz0, hz1, hz2⟩ := info_parts info_int
  cases hk : kyF need many ng zg nc zc with
  | false =>
    have HR := Lib.hid (sb_none (H := H) (n := len) (.inl hk))
    go_enter Try.func19, Try.ntmps19
    go_wp2_with fail
    refine (skeyok _ need many _ _ _ zg _ _ _ zc HA.out HB.out hl1 hl2).mono ?_
    rintro e w2 ⟨rfl, hg⟩
    rw [hk]
    have HL := Lib.hid (HL0.out.kept hg); have HG := Lib.hid (gtr HG1.out hg); clear hg
    go_wp2
    go_ret
    exact ⟨_, rfl, by rw [HR.out]; exact HL.out.lower (by omega), HG.out⟩
  | true =>
    cases hh : hkF H len with
    | false =>
      have HR := Lib.hid (sb_none (need := need) (many := many) (ng := ng) (zg := zg) (nc := nc) (zc := zc) (.inr hh))
      go_enter Try.func19, Try.ntmps19
      go_wp2_with fail
      refine (skeyok _ need many _ _ _ zg _ _ _ zc HA.out HB.out hl1 hl2).mono ?_
      rintro e w2 ⟨rfl, hg⟩
      rw [hk]
      have HL := Lib.hid (HL0.out.kept hg); have HG := Lib.hid (gtr HG1.out hg); have HI2 := Lib.hid (HI.out.kept hg); clear hg
      go_wp2_with fail
      refine (shok _ _ _ _ H HI2.out hl).mono ?_
      rintro e w3 ⟨rfl, hg⟩
      rw [hh]
      have HL3 := Lib.hid (HL.out.kept hg); have HG3 := Lib.hid (gtr HG.out hg); clear hg
      go_wp2
      go_ret
      exact ⟨_, rfl, by rw [HR.out]; exact HL3.out.lower (by omega), HG3.out⟩
    | true =>
      have HR := Lib.hid (sb_some hk hh)
      have HH := Lib.hid hh; have HKy := Lib.hid hk; have h5 := hk_five hh
      go_enter Try.func19, Try.ntmps19
      go_wp2_with fail
      refine (skeyok _ need many _ _ _ zg _ _ _ zc HA.out HB.out hl1 hl2).mono ?_
      rintro e w2 ⟨rfl, hg⟩
      rw [hk]
      have HL := Lib.hid (HL0.out.kept hg); have HG := Lib.hid (gtr HGA.out hg); have HI2 := Lib.hid (HI.out.kept hg); clear hg
      go_wp2_with fail
      refine (shok _ _ _ _ H HI2.out hl).mono ?_
      rintro e w3 ⟨rfl, hg⟩
      rw [hh]
      have HL3 := Lib.hid (HL.out.kept hg); have HG3 := Lib.hid (gtr HG.out hg); clear hg k0 k1 k2 k3 hk hh
      obtain ⟨w4, hW⟩ : ∃ W, W = w3 := ⟨_, rfl⟩; subst hW
      go_wp2
      go_loopw [5, 6] (fun v i W => ∃ k : Nat, k ≤ len ∧ i = .int .i64 k ∧ Lst W (w.alloc (.cells #[.int .i64 need, .int .i64 many, .slice ag ng cg, .slice ac nc cc] 36)).heap.size v (sbl many nc zc H k) ∧ (w.alloc (.cells #[.int .i64 need, .int .i64 many, .slice ag ng cg, .slice ac nc cc] 36)).grownBy W none) (fun _ i _ => len - (intOf i).toNat)
      case atStart => exact ⟨0, by omega, rfl, by rw [hs0]; exact HL3.out, HG3.out⟩
      case round =>
        obtain ⟨k, hk, rfl, hL, hg⟩ := hrel
        have HLr := Lib.hid hL; have HGr := Lib.hid hg; clear hL hg
        have HKr := Lib.hid (HK0.out.kept HGr.out)
        obtain ⟨_, k0, k1, k2, k3⟩ := HKr.out
        have hsr := HGr.out.size
        rw [hs0] at hsr
        by_cases hlt : k < len
        · have hlt' : (k : Int) < (len : Int) := by omega
          rcases HI0.out.kept HGr.out with h | ⟨b, off, rfl, hb, hcc⟩
          · omega
          obtain ⟨hc0, hc1⟩ := hcc k hlt
          have hj1 : (0 : Int) ≤ (k : Int) := by omega
          clear hcc
          have hll := sbl_len (many := many) (nc := nc) (zc := zc) (H := H) (k := k)
          obtain ⟨av, cv, rfl, _, hlc, hlm⟩ := HLr.out.slice
          by_cases hgt : many < (H k).m
          · have HN := Lib.hid (sbl_yes (many := many) (nc := nc) (zc := zc) (H := H) (k := k) (by simp [sbE, hgt]))
            generalize hlq : sbl many nc zc H k = l at HLr HN hll hlc ⊢
            go_wp2_with fail
            go_quiet (fail)
            obtain ⟨wn, hwn, hgn⟩ : ∃ wn, wr.drewN nq = wn ∧ wr.grownBy wn none := ⟨_, rfl, rfl, rfl, rfl, Nat.le_refl _, fun _ _ _ => rfl⟩
            rw [hwn]
            have HGn := Lib.hid (gtr HGr.out hgn); have HLn := Lib.hid (HLr.out.kept hgn)
            have q0 := (World.cell?_of_block (hgn.block b hb (by simp))).trans hc0
            have hsn := hgn.size
            clear hwn hgn hc0 hc1 k0 k1 k2 k3
            go_wp2_with (at_builtin; refine wpList_append_own _ rfl _ _ 29 rfl (w.alloc (.cells #[.int .i64 need, .int .i64 many, .slice ag ng cg, .slice ac nc cc] 36)).heap.size 3 i0 (.int .i64 0) 1 8 und_ints hi hz0 hz1 hz2 rfl (by decide) _ l.length (vals (li l) l.length) rfl (HLn.out.alloc _).owns ⟨wn.heap.size, 0, none⟩ 1 1 [.int .i64 (H k).m] rfl rfl (cell_one_new _ _ _) (by simp [Value.oneCell']) (by unfold maxLen; omega) (by omega) (by simp; omega) ?_; intro v' w8 hown' hgrow _)
            have HL8 := Lib.hid (Lst.app hown'); have HG8 := Lib.hid (HLn.out.app_grown HGn.out hgrow)
            clear hown' hgrow
            go_wp2
            go_roundw
            case rel => exact ⟨k + 1, by omega, by go_num, by rw [HN.out]; exact HL8.out, HG8.out⟩
            case measure => simp [intOf]; omega
          · obtain ⟨p1, p5⟩ := (hk_at HH.out hlt).1
            obtain ⟨_, _, hcm, _, _⟩ := ky_iff.1 HKy.out
            have HCM := Lib.hid hcm; have HX := Lib.hid (show fok (H k).m = true from fok_iff.2 (by omega)); have HS := Lib.hid (hk_at HH.out hlt).2
            clear hcm
            have HBd := Lib.hid ((HB0.out.kept HGr.out).keptB (w' := wr.drew) (fun _ _ => rfl) (Nat.le_refl _))
            have hdg : decide (many < (H k).m) = false := decide_eq_false hgt
            cases hcf : cfz nc zc (H k).m (H k).s with
            | true =>
              have HN := Lib.hid (sbl_no (many := many) (nc := nc) (zc := zc) (H := H) (k := k) (by simp [sbE, hgt, hcf]))
              have HF := Lib.hid hcf
              clear hcf
              go_wp2_with fail
              go_region_held3 (fun w' => w'.cell? ⟨w.heap.size, 0, none⟩ = some (.int .i64 need) ∧ w'.cell? ⟨w.heap.size, 1, none⟩ = some (.int .i64 many) ∧ w'.cell? ⟨w.heap.size, 2, none⟩ = some (.slice ag ng cg) ∧ w'.cell? ⟨w.heap.size, 3, none⟩ = some (.slice ac nc cc) ∧ w'.cell? ⟨b, off + k * 2, none⟩ = some (.int .i64 (H k).m) ∧ w'.cell? ⟨b, off + k * 2 + 1, none⟩ = some (.int .i64 (H k).s)) (first | exact hS6 | exact ⟨k0, k1, k2, k3, hc0, hc1⟩) ((go_at_call 49; (with_reducible refine (s12fits _ need many _ _ _ _ nc _ zc _ _ HBd.out hl2 HCM.out HX.out HS.out).mono ?_); rintro e w6 ⟨rfl, hg⟩; rw [HF.out]; have Hg := Lib.hid (show wr.grownBy w6 none from ⟨hg.os, hg.tape, hg.output, hg.size, hg.block⟩); have K6 := HKr.out.kept Hg.out; have eb := Hg.out.block b hb (by simp); have hS6 : w6.cell? ⟨w.heap.size, 0, none⟩ = some (.int .i64 need) ∧ w6.cell? ⟨w.heap.size, 1, none⟩ = some (.int .i64 many) ∧ w6.cell? ⟨w.heap.size, 2, none⟩ = some (.slice ag ng cg) ∧ w6.cell? ⟨w.heap.size, 3, none⟩ = some (.slice ac nc cc) ∧ w6.cell? ⟨b, off + k * 2, none⟩ = some (.int .i64 (H k).m) ∧ w6.cell? ⟨b, off + k * 2 + 1, none⟩ = some (.int .i64 (H k).s) := ⟨K6.c0, K6.c1, K6.c2, K6.c3, (World.cell?_of_block eb).trans hc0, (World.cell?_of_block eb).trans hc1⟩; clear hg K6 eb))
              all_goals
                clear hS6
                go_wp2
                go_roundw
                case rel => exact ⟨k + 1, by omega, by go_num, by rw [HN.out]; exact HLr.out.kept Hg.out, gtr HGr.out Hg.out⟩
                case measure => simp [intOf]; omega
            | false =>
              have HN := Lib.hid (sbl_yes (many := many) (nc := nc) (zc := zc) (H := H) (k := k) (by simp [sbE, hgt, hcf]))
              have HF := Lib.hid hcf
              clear hcf
              generalize hlq : sbl many nc zc H k = l at HLr HN hll hlc ⊢
              go_wp2_with fail
              go_region_held3 (fun w' => w'.cell? ⟨w.heap.size, 0, none⟩ = some (.int .i64 need) ∧ w'.cell? ⟨w.heap.size, 1, none⟩ = some (.int .i64 many) ∧ w'.cell? ⟨w.heap.size, 2, none⟩ = some (.slice ag ng cg) ∧ w'.cell? ⟨w.heap.size, 3, none⟩ = some (.slice ac nc cc) ∧ w'.cell? ⟨b, off + k * 2, none⟩ = some (.int .i64 (H k).m) ∧ w'.cell? ⟨b, off + k * 2 + 1, none⟩ = some (.int .i64 (H k).s)) (first | exact hS6 | exact ⟨k0, k1, k2, k3, hc0, hc1⟩) ((go_at_call 49; (with_reducible refine (s12fits _ need many _ _ _ _ nc _ zc _ _ HBd.out hl2 HCM.out HX.out HS.out).mono ?_); rintro e w6 ⟨rfl, hg⟩; rw [HF.out]; have Hg := Lib.hid (show wr.grownBy w6 none from ⟨hg.os, hg.tape, hg.output, hg.size, hg.block⟩); have K6 := HKr.out.kept Hg.out; have eb := Hg.out.block b hb (by simp); have hS6 : w6.cell? ⟨w.heap.size, 0, none⟩ = some (.int .i64 need) ∧ w6.cell? ⟨w.heap.size, 1, none⟩ = some (.int .i64 many) ∧ w6.cell? ⟨w.heap.size, 2, none⟩ = some (.slice ag ng cg) ∧ w6.cell? ⟨w.heap.size, 3, none⟩ = some (.slice ac nc cc) ∧ w6.cell? ⟨b, off + k * 2, none⟩ = some (.int .i64 (H k).m) ∧ w6.cell? ⟨b, off + k * 2 + 1, none⟩ = some (.int .i64 (H k).s) := ⟨K6.c0, K6.c1, K6.c2, K6.c3, (World.cell?_of_block eb).trans hc0, (World.cell?_of_block eb).trans hc1⟩; clear hg K6 eb))
              all_goals
                obtain ⟨_, _, _, _, q0, _⟩ := hS6
                have HGn := Lib.hid (gtr HGr.out Hg.out); have HLn := Lib.hid (HLr.out.kept Hg.out)
                have hsn := Hg.out.size
                clear hc0 hc1 k0 k1 k2 k3
                go_wp2_with (at_builtin; refine wpList_append_own _ rfl _ _ 29 rfl (w.alloc (.cells #[.int .i64 need, .int .i64 many, .slice ag ng cg, .slice ac nc cc] 36)).heap.size 3 i0 (.int .i64 0) 1 8 und_ints hi hz0 hz1 hz2 rfl (by decide) _ l.length (vals (li l) l.length) rfl (HLn.out.alloc _).owns ⟨w6.heap.size, 0, none⟩ 1 1 [.int .i64 (H k).m] rfl rfl (cell_one_new _ _ _) (by simp [Value.oneCell']) (by unfold maxLen; omega) (by omega) (by simp; omega) ?_; intro v' w8 hown' hgrow _)
                have HL8 := Lib.hid (Lst.app hown'); have HG8 := Lib.hid (HLn.out.app_grown HGn.out hgrow)
                clear hown' hgrow
                go_wp2
                go_roundw
                case rel => exact ⟨k + 1, by omega, by go_num, by rw [HN.out]; exact HL8.out, HG8.out⟩
                case measure => simp [intOf]; omega
        · obtain rfl : k = len := by omega
          have hlt' : ¬ (k : Int) < (k : Int) := by omega
          go_wp2
          go_ret
          exact ⟨_, rfl, by rw [HR.out]; exact HLr.out.lower (by rw [hs0]; omega), gtr HG0.out HGr.out⟩
end Hd
end Go.Proofs.Ythjflmokfkcalaa
