/-
  How the model draws a deal that may be ill-formed, with how many are needed, and of how many.
-/
import Derived.Test.YtbemggelljgkhaaDoorDo
namespace Go.Proofs.YtbemggelljgkhaaDoor
namespace Draw
open Go.RowKit Alg Mem Con
set_option linter.unusedVariables false

theorem row_ne_blk {w : World} {lo : Nat} {E : TypeId} {b len cap : Nat} {z : Nat → Int} {b' : Nat} {vs : Array Value} {T : TypeId} (h : Row w lo E b len cap z) (k : Blk w b' vs T) (hne : E ≠ T) : b ≠ b' := by
  rintro rfl
  obtain ⟨c, ⟨cur, hb, _, _⟩, _⟩ := h.row
  unfold Blk at k
  rw [hb] at k
  injection k with k
  injection k with _ k2 _
  exact hne k2
theorem app_row1 {w1 : World} {lo : Nat} {E : TypeId} {v' : Value} {k : Nat} {z : Nat → Int} {n : Int} (h : w1.ownsRow lo E 1 v' (k + 1) (vals z k ++ [.int .i64 n])) :
    ∃ b cap, v' = .slice (some ⟨b, 0, none⟩) (k + 1) cap ∧ Row w1 lo E b (k + 1) cap (fun j => if j < k then z j else n) := by
  have h' : w1.ownsRow lo E 1 v' (k + 1) (vals (fun j => if j < k then z j else n) k ++ [.int .i64 n]) := by
    rw [vals_congr (z := fun j => if j < k then z j else n) (y := z) (k := k) fun j hj => by simp [hj]]; exact h
  exact app_row h' (by simp)

theorem ends_any {w W : World} {D0 : Nat} {f : Int} {lo1 b1 n c1 lo2 b2 m c2 : Nat} {z1 z2 : Nat → Int} {k1 k2 : Nat} {need many : Int} (d0 : Blk W D0 #[.int .i64 0, .slice none 0 0, .slice none 0 0] 25) (r1 : Row W lo1 3 b1 n c1 z1) (r2 : Row W lo2 3 b2 m c2 z2) (n1 : b1 ≠ D0) (n2 : b2 ≠ D0) (o0 : w.heap.size ≤ D0) (g : w.grownBy W none)
    (h1 : n ≤ k1) (h2 : m ≤ k2) (hn : 1 ≤ need ∧ need ≤ 5 ∧ 1 ≤ many ∧ many ≤ 5) :
    Blk (stored W D0 (.int .i64 f) (.slice (some ⟨b1, 0, none⟩) n c1) (.slice (some ⟨b2, 0, none⟩) m c2)) D0 #[.int .i64 f, .slice (some ⟨b1, 0, none⟩) n c1, .slice (some ⟨b2, 0, none⟩) m c2] 25 ∧
    GotD w k1 k2 (.returned (.tuple #[.agg #[.int .i64 f, .slice (some ⟨b1, 0, none⟩) n c1, .slice (some ⟨b2, 0, none⟩) m c2], .int .i64 need, .int .i64 many])) (stored W D0 (.int .i64 f) (.slice (some ⟨b1, 0, none⟩) n c1) (.slice (some ⟨b2, 0, none⟩) m c2)) := by
  have g0 := grown_set W D0 0 (.int .i64 f)
  have g1 := gtr' g0 (grown_set _ D0 1 (.slice (some ⟨b1, 0, none⟩) n c1))
  have g2 := gtr' g1 (grown_set _ D0 2 (.slice (some ⟨b2, 0, none⟩) m c2))
  have q1 := r1.kept g2 (by intro e; have e := Option.some.inj e; omega)
  have q2 := r2.kept g2 (by intro e; have e := Option.some.inj e; omega)
  exact ⟨((d0.set 0 _).set 1 _).set 2 _, f, b1, n, c1, z1, b2, m, c2, z2, need, many, rfl, h1, h2, r1.le, r1.most, r2.le, r2.most, hn.1, hn.2.1, hn.2.2.1, hn.2.2.2, q1.ints, q2.ints, grown_new g o0 g2⟩
set_option maxRecDepth 100000 in
set_option maxHeartbeats 4000000 in
theorem drawDOk (w : World) (a : Option Addr) (len cap : Nat) (hB : Bytes w w.heap.size a len) (hc : len ≤ cap) (hm : cap ≤ maxLen) :
    Calls Tryd.prog 17 #[.slice a len cap] w (GotD w 5 6) := by
  have HD0 := Lib.hid (Blk.new w #[.int .i64 0, .slice none 0 0, .slice none 0 0] 25)
  have hs0 : (w.alloc (.cells #[.int .i64 0, .slice none 0 0, .slice none 0 0] 25)).heap.size = w.heap.size + 1 := by show (w.heap.push _).size = _; simp
  have HB := Lib.hid (hB.kept (w' := w.alloc (.cells #[.int .i64 0, .slice none 0 0, .slice none 0 0] 25)) (fun k hk => Below.heap_alloc _ _ _ hk))
  have HG0 := Lib.hid (grown_alloc w (.cells #[.int .i64 0, .slice none 0 0, .slice none 0 0] 25) none)
  obtain ⟨i0, hi, hz0, hz1, hz2⟩ := info_parts info_int
  clear hB
  go_enter Tryd.func17, Tryd.ntmps17
  go_wp2_with fail
  refine (open_any _ w.heap.size a len cap HB.out (by omega) hc hm).mono ?_
  rintro e w1 ⟨rfl, hg1, hs1, l1, c1', hr1⟩
  rw [hs0] at hr1
  have HD1 := Lib.hid (HD0.out.keptN hg1); have HG1 := Lib.hid (gtr HG0.out hg1); have HR1 := Lib.hid hr1
  clear hr1 hg1
  go_wp2_with fail
  refine (fine_any _ _ _ a l1 c1' 0 HR1.out (by omega)).mono ?_
  rintro e w2 ⟨n, m, rfl, hn1, hnm, hm5, hg2, hr2⟩
  have HD2 := Lib.hid (HD1.out.kept hg2 (by intro e; have e := Option.some.inj e; omega)); have HG2 := Lib.hid (grown_new HG1.out (by omega) hg2); have HR2 := Lib.hid hr2
  clear hr2 hg2
  go_wp2_with fail
  refine (pick_any _ _ _ a l1 c1' (0 + 1 + 1) 5 HR2.out (by omega) (by omega)).mono ?_
  rintro e w3 ⟨x, x0, x1, rfl, hr3, hg3, hs3⟩
  have HD3 := Lib.hid (HD2.out.kept hg3 (by intro e; have e := Option.some.inj e; omega)); have HG3 := Lib.hid (grown_new HG2.out (by omega) hg3); have HR3 := Lib.hid hr3
  clear hr3 hg3 hs3
  go_wp2_with fail
  refine (deal_any _ _ _ a l1 c1' (0 + 1 + 1 + 1) (1 + x) n m HR3.out (by omega) hn1 (by omega) (by omega) hm5).mono ?_
  rintro e w4 ⟨b1, c1, z1, b2, c2, z2, rfl, hr1, hr2, hbb, hg4, p4, hp4, hp4', hrd⟩
  have hf1 := hr1.from_; have hf2 := hr2.from_; have hl2 := hr2.lt
  have hlt3 := HR3.out.lt
  have hgs := HG3.out.size
  have HD4 := Lib.hid (HD3.out.kept hg4 (by intro e; have e := Option.some.inj e; omega)); have HG4 := Lib.hid (grown_new HG3.out (by omega) hg4); have HR4 := Lib.hid hrd
  have hDD := HD3.out.lt
  have w5H := Lib.hid (show HeldE w w.heap.size (w.heap.size + 1) a l1 c1' 0 p4 w.heap.size w4.heap.size (1 + x) b1 n c1 b2 m c2 (w4.alloc (.cells #[.int .i64 (1 + x), .slice (some ⟨b1, 0, none⟩) n c1, .slice (some ⟨b2, 0, none⟩) m c2] 25)) from
    ⟨HD4.out.keptN (grown_alloc _ _ _), Blk.new _ _ _, ⟨_, (hr1.lower hgs).alloc _⟩, ⟨_, (hr2.lower hgs).alloc _⟩, Nat.le_refl _, by omega, by have := HG4.out.size; omega, by have := HR4.out.lt; have := HG4.out.size; omega, gtr HG4.out (grown_alloc _ _ _), p4, by omega, by omega, HR4.out.alloc _⟩)
  have w5R := Lib.hid (HR4.out.alloc (.cells #[.int .i64 (1 + x), .slice (some ⟨b1, 0, none⟩) n c1, .slice (some ⟨b2, 0, none⟩) m c2] 25))
  clear hr1 hr2 hg4 hrd hf1 hf2
  go_wp2_with fail
  refine (pick_any _ _ _ a l1 c1' _ 8 w5R.out (by omega) (by omega)).mono ?_
  rintro e w6 ⟨t, t0, t1, rfl, hr, hg, hs⟩
  have w6H := Lib.hid (w5H.out.step (hi' := p4 + 1) hg hr (by omega) (by omega)); have w6R := Lib.hid hr
  clear hr hg hs
  obtain ⟨j0, j1, j2, g0, g1, g2⟩ := w6H.out.d1.all
  rcases (by omega : t = 0 ∨ t = 1 ∨ t = 2 ∨ 3 ≤ t) with rfl | rfl | rfl | ht
  · have w6D := Lib.hid (w6R.out.kept (w' := w6.drew) (fun _ _ => rfl) rfl)
    go_wp2_with fail
    go_region_held3 (fun w' => w'.cell? ⟨w4.heap.size, 0, none⟩ = some (.int .i64 (1 + x)) ∧ w'.cell? ⟨w4.heap.size, 1, none⟩ = some (.slice (some ⟨b1, 0, none⟩) n c1) ∧ w'.cell? ⟨w4.heap.size, 2, none⟩ = some (.slice (some ⟨b2, 0, none⟩) m c2)) (first | exact hS5 | exact hS4 | exact ⟨j0, j1, j2⟩) ((go_at_call 29; (with_reducible refine (pick_any _ _ _ a l1 c1' _ (m : Int) w6D.out (by omega) (by omega)).mono ?_); rintro e wa ⟨r, r0, r1, rfl, hr, hg, hs⟩; have waH := Lib.hid (w6H.out.step (hi' := p4 + 2) ⟨hg.os, hg.tape, hg.output, hg.size, hg.block⟩ hr (by omega) (by omega)); obtain ⟨e0, e1, e2, e3, e4, e5⟩ := waH.out.d0.all; have hS4 : wa.cell? ⟨w4.heap.size, 0, none⟩ = some (.int .i64 (1 + x)) ∧ wa.cell? ⟨w4.heap.size, 1, none⟩ = some (.slice (some ⟨b1, 0, none⟩) n c1) ∧ wa.cell? ⟨w4.heap.size, 2, none⟩ = some (.slice (some ⟨b2, 0, none⟩) m c2) := ⟨waH.out.d1.cell 0, waH.out.d1.cell 1, waH.out.d1.cell 2⟩; have hne01 := waH.out.ne.2.2.2.2.2.2.2.2.2; have hwr : IntKind.i64.wrap (1 + r) = 1 + r := (by rw [IntKind.wrap_i64]; omega); have hS5 : (((wa.setCell ⟨w.heap.size, 0, none⟩ (.int .i64 (1 + x))).setCell ⟨w.heap.size, 1, none⟩ (.slice (some ⟨b1, 0, none⟩) n c1)).setCell ⟨w.heap.size, 2, none⟩ (.slice (some ⟨b2, 0, none⟩) m c2)).cell? ⟨w4.heap.size, 0, none⟩ = some (.int .i64 (1 + x)) ∧ (((wa.setCell ⟨w.heap.size, 0, none⟩ (.int .i64 (1 + x))).setCell ⟨w.heap.size, 1, none⟩ (.slice (some ⟨b1, 0, none⟩) n c1)).setCell ⟨w.heap.size, 2, none⟩ (.slice (some ⟨b2, 0, none⟩) m c2)).cell? ⟨w4.heap.size, 1, none⟩ = some (.slice (some ⟨b1, 0, none⟩) n c1) ∧ (((wa.setCell ⟨w.heap.size, 0, none⟩ (.int .i64 (1 + x))).setCell ⟨w.heap.size, 1, none⟩ (.slice (some ⟨b1, 0, none⟩) n c1)).setCell ⟨w.heap.size, 2, none⟩ (.slice (some ⟨b2, 0, none⟩) m c2)).cell? ⟨w4.heap.size, 2, none⟩ = some (.slice (some ⟨b2, 0, none⟩) m c2) := ⟨(((waH.out.d1.other (Ne.symm hne01)).other (Ne.symm hne01)).other (Ne.symm hne01)).cell 0, (((waH.out.d1.other (Ne.symm hne01)).other (Ne.symm hne01)).other (Ne.symm hne01)).cell 1, (((waH.out.d1.other (Ne.symm hne01)).other (Ne.symm hne01)).other (Ne.symm hne01)).cell 2⟩; have HE := Lib.hid (waH.out.ends (k1 := 5) (k2 := 6) (need := 1 + r) (many := (m : Int)) (by omega) (by omega) (by omega)); clear hr hg hs))
    all_goals
      (try clear hS4 hS5)
      go_wp2
      (try simp only [Exit.inBlock, Exit.then])
      refine bodyPost_ret (ret_deal3 rfl _ rfl HE.out.1) rfl ?_
      exact HE.out.2
  · obtain ⟨zz, hrow2⟩ := w6H.out.r2
    have HRW := Lib.hid (show Row w6 b2 3 b2 m c2 zz from ⟨Nat.le_refl _, hrow2.row, hrow2.le, hrow2.most⟩)
    have hb2l := hrow2.lt
    have hb2f := hrow2.from_
    have hD1l := w6H.out.d1.lt
    go_wp2_with (at_builtin; refine wpList_append_own _ rfl _ _ 23 rfl b2 3 i0 (.int .i64 0) 1 8 und_ints hi hz0 hz1 hz2 rfl (by decide) _ m (vals zz m) rfl (HRW.out.alloc _).owns ⟨w6.heap.size, 0, none⟩ 1 1 [.int .i64 1] rfl rfl (cell_one_new _ _ _) (by simp [Value.oneCell']) (by unfold maxLen; omega) (by omega) (by simp; omega) ?_; intro v' w7 hown' hgrow _; obtain ⟨b3, c3, rfl, hrow⟩ := app_row1 hown'; have hgr : w6.grownBy w7 (some b2) := gtr' (grown_alloc w6 (.cells #[.int .i64 1] 3) (some b2)) hgrow; obtain ⟨d0, d1, ⟨zr1, r1⟩, _, o0, oB, o1, ne, g, _⟩ := w6H.out; have hk0 := d0.kept hgr (by intro e; have e := Option.some.inj e; omega); have hk1 := d1.kept hgr (by intro e; have e := Option.some.inj e; omega); have hr1 := r1.kept hgr (by intro e; have e := Option.some.inj e; omega); have h31 := row_ne_blk hrow hk1 (by decide); have h30 := row_ne_blk hrow hk0 (by decide); have g7 := grown_new g hb2f hgr; have gs := grown_set w7 w4.heap.size 2 (.slice (some ⟨b3, 0, none⟩) (m + 1) c3); have HE0 := Lib.hid (ends_any (w := w) (W := w7.setCell ⟨w4.heap.size, 2, none⟩ (.slice (some ⟨b3, 0, none⟩) (m + 1) c3)) (f := 1 + x) (k1 := 5) (k2 := 6) (need := (n : Int)) (many := (m : Int)) (hk0.other (by omega)) (hr1.kept gs (by intro e; have e := Option.some.inj e; omega)) (hrow.kept gs (by intro e; have e := Option.some.inj e; omega)) (by omega) (by omega) o0 (grown_new g7 (by omega) gs) (by omega) (by omega) (by omega)); clear j0 j1 j2 g0 g1 g2; obtain ⟨e0, e1, e2, e3, e4, e5⟩ := hk0.all; obtain ⟨j0, j1, j2, g0, g1, g2⟩ := hk1.all; have hne01 := ne.2.2.2.2.2.2.2.2.2; clear hown' hgrow hgr d0 d1 r1 g hk0 hk1 hr1 hrow g7 gs ne)
    (try simp only [Exit.inBlock, Exit.then])
    refine bodyPost_ret (ret_deal3 rfl _ rfl HE0.out.1) rfl ?_
    exact HE0.out.2
  · clear j0 j1 j2 g0 g1 g2
    go_wp2_with fail
    refine (pick_any _ _ _ a l1 c1' _ 8 w6R.out (by omega) (by omega)).mono ?_
    rintro e w7 ⟨y, y0, y1, rfl, hr, hg, hs⟩
    have w7H := Lib.hid (w6H.out.step (hi' := p4 + 2) hg hr (by omega) (by omega))
    clear hr hg hs
    obtain ⟨d0, d1, ⟨zr1, r1⟩, ⟨zr2, r2⟩, o0, oB, o1, ne, g, _⟩ := w7H.out
    have gs := grown_set w7 w4.heap.size 0 (.int .i64 y)
    have HE0 := Lib.hid (ends_any (w := w) (W := w7.setCell ⟨w4.heap.size, 0, none⟩ (.int .i64 y)) (f := y) (k1 := 5) (k2 := 6) (need := (n : Int)) (many := (m : Int)) (d0.other (by omega)) (r1.kept gs (by intro e; have e := Option.some.inj e; omega)) (r2.kept gs (by intro e; have e := Option.some.inj e; omega)) (by omega) (by omega) o0 (grown_new g (by omega) gs) (by omega) (by omega) (by omega))
    obtain ⟨e0, e1, e2, e3, e4, e5⟩ := d0.all
    obtain ⟨j0, j1, j2, g0, g1, g2⟩ := d1.all
    have hne01 := ne.2.2.2.2.2.2.2.2.2
    clear d0 d1 r1 r2 g gs ne
    go_wp2
    (try simp only [Exit.inBlock, Exit.then])
    refine bodyPost_ret (ret_deal3 rfl _ rfl HE0.out.1) rfl ?_
    exact HE0.out.2
  · have ht0 : (t == 0) = false := by simp; omega
    have ht1 : (t == 1) = false := by simp; omega
    have ht2 : (t == 2) = false := by simp; omega
    clear j0 j1 j2 g0 g1 g2
    obtain ⟨hends, hdr⟩ := w6H.out.ends (k1 := 5) (k2 := 6) (need := (n : Int)) (many := (m : Int)) (by omega) (by omega) (by omega)
    obtain ⟨e0, e1, e2, e3, e4, e5⟩ := w6H.out.d0.all
    obtain ⟨j0, j1, j2, g0, g1, g2⟩ := w6H.out.d1.all
    have HE := Lib.hid hends; have HDr := Lib.hid hdr; clear hends hdr
    go_wp2
    (try simp only [Exit.inBlock, Exit.then])
    refine bodyPost_ret (ret_deal3 rfl _ rfl HE.out) rfl ?_
    exact HDr.out
end Draw
end Go.Proofs.YtbemggelljgkhaaDoor
