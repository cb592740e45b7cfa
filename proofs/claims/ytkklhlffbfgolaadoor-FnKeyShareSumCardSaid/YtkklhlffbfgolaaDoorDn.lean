/-
  How the model draws a deal, a committee, and both.
-/
import Derived.Test.YtkklhlffbfgolaaDoorDm
import Derived.Test.YtkklhlffbfgolaaDoorDrawGrp
import Derived.Test.YtkklhlffbfgolaaDoorDrawPoly
namespace Go.Proofs.YtkklhlffbfgolaaDoor
namespace Draw
open Go.RowKit Alg Mem Con
set_option linter.unusedVariables false

/-- What a drawn deal leaves. -/
def DrawnD (w : World) (base B : Nat) (a : Option Addr) (len cap p k : Nat) (f : Int) (n m : Nat) (e : Ending) (w' : World) : Prop :=
  ∃ (b1 c1 : Nat) (z1 : Nat → Int) (b2 c2 : Nat) (z2 : Nat → Int), e = .returned (.agg #[.int .i64 f, .slice (some ⟨b1, 0, none⟩) n c1, .slice (some ⟨b2, 0, none⟩) m c2]) ∧
    Row w' w.heap.size 3 b1 n c1 z1 ∧ Row w' w.heap.size 3 b2 m c2 z2 ∧ (b1 < b2 ∧ ∀ j, j < m → fok (z2 j) = true) ∧ w.grownBy w' (some B) ∧ ∃ p', p ≤ p' ∧ p' ≤ p + k ∧ Rd w' base B a len cap p'
/-- What holds while a deal is drawn: its block, its two rows, the place of its result, the reader. -/
structure HeldD (w : World) (base B : Nat) (a : Option Addr) (len cap lo hi D0 D1 : Nat) (f : Int) (b1 n c1 b2 m c2 : Nat) (wr : World) : Prop where
  d0 : Blk wr D0 #[.int .i64 0, .slice none 0 0, .slice none 0 0] 34
  d1 : Blk wr D1 #[.int .i64 f, .slice (some ⟨b1, 0, none⟩) n c1, .slice (some ⟨b2, 0, none⟩) m c2] 34
  r1 : ∃ z1, Row wr w.heap.size 3 b1 n c1 z1
  r2 : ∃ z2, Row wr w.heap.size 3 b2 m c2 z2 ∧ ∀ j, j < m → fok (z2 j) = true
  o0 : w.heap.size ≤ D0
  o1 : D0 < b1
  o2 : b1 < b2
  o3 : b2 < D1
  oB : B < w.heap.size
  g : w.grownBy wr (some B)
  rd : ∃ p', lo ≤ p' ∧ p' ≤ hi ∧ Rd wr base B a len cap p'
theorem HeldD.step {w : World} {base B : Nat} {a : Option Addr} {len cap lo hi hi' D0 D1 : Nat} {f : Int} {b1 n c1 b2 m c2 p' : Nat} {wr w' : World} (h : HeldD w base B a len cap lo hi D0 D1 f b1 n c1 b2 m c2 wr)
    (hg : wr.grownBy w' (some B)) (hrd : Rd w' base B a len cap p') (h1 : lo ≤ p') (h2 : p' ≤ hi') : HeldD w base B a len cap lo hi' D0 D1 f b1 n c1 b2 m c2 w' := by
  obtain ⟨d0, d1, ⟨z1, r1⟩, ⟨z2, r2, y2⟩, o0, o1, o2, o3, oB, g, rd⟩ := h
  exact ⟨d0.kept hg (by intro e; have e := Option.some.inj e; omega), d1.kept hg (by intro e; have e := Option.some.inj e; omega), ⟨z1, r1.kept hg (by intro e; have e := Option.some.inj e; omega)⟩, ⟨z2, r2.kept hg (by intro e; have e := Option.some.inj e; omega), y2⟩, o0, o1, o2, o3, oB, grown_trans g hg, p', h1, h2, hrd⟩
theorem HeldD.set1 {w : World} {base B : Nat} {a : Option Addr} {len cap lo hi D0 D1 : Nat} {f : Int} {b1 n c1 b2 m c2 : Nat} {wr : World} (h : HeldD w base B a len cap lo hi D0 D1 f b1 n c1 b2 m c2 wr) (j : Nat) (u : Int) :
    HeldD w base B a len cap lo hi D0 D1 f b1 n c1 b2 m c2 (wr.setCell ⟨b1, j, none⟩ (.int .i64 u)) := by
  obtain ⟨d0, d1, ⟨z1, r1⟩, ⟨z2, r2, y2⟩, o0, o1, o2, o3, oB, g, p', q1, q2, hrd⟩ := h
  have hg := grown_set wr b1 j (.int .i64 u)
  exact ⟨d0.other (by omega), d1.other (by omega), ⟨_, r1.set j u⟩, ⟨z2, r2.kept hg (by intro e; have e := Option.some.inj e; omega), y2⟩, o0, o1, o2, o3, oB, grown_newR g (by omega) hg, p', q1, q2, hrd.grown hg (by omega)⟩
theorem HeldD.set2 {w : World} {base B : Nat} {a : Option Addr} {len cap lo hi D0 D1 : Nat} {f : Int} {b1 n c1 b2 m c2 : Nat} {wr : World} (h : HeldD w base B a len cap lo hi D0 D1 f b1 n c1 b2 m c2 wr) (j : Nat) (u : Int) (hu : fok u = true) :
    HeldD w base B a len cap lo hi D0 D1 f b1 n c1 b2 m c2 (wr.setCell ⟨b2, j, none⟩ (.int .i64 u)) := by
  obtain ⟨d0, d1, ⟨z1, r1⟩, ⟨z2, r2, y2⟩, o0, o1, o2, o3, oB, g, p', q1, q2, hrd⟩ := h
  have hg := grown_set wr b2 j (.int .i64 u)
  exact ⟨d0.other (by omega), d1.other (by omega), ⟨z1, r1.kept hg (by intro e; have e := Option.some.inj e; omega)⟩, ⟨_, r2.set j u, fun i hi => by show fok (if i = j then u else z2 i) = true; split; exact hu; exact y2 i hi⟩, o0, o1, o2, o3, oB, grown_newR g (by omega) hg, p', q1, q2, hrd.grown hg (by omega)⟩
/-- The deal is stored into the place of the result. -/
def stored (wr : World) (D0 : Nat) (v0 v1 v2 : Value) : World := ((wr.setCell ⟨D0, 0, none⟩ v0).setCell ⟨D0, 1, none⟩ v1).setCell ⟨D0, 2, none⟩ v2
theorem HeldD.ends {w : World} {base B : Nat} {a : Option Addr} {len cap p k D0 D1 : Nat} {f : Int} {b1 n c1 b2 m c2 : Nat} {wr : World} (h : HeldD w base B a len cap p (p + k) D0 D1 f b1 n c1 b2 m c2 wr) :
    Blk (stored wr D0 (.int .i64 f) (.slice (some ⟨b1, 0, none⟩) n c1) (.slice (some ⟨b2, 0, none⟩) m c2)) D0 #[.int .i64 f, .slice (some ⟨b1, 0, none⟩) n c1, .slice (some ⟨b2, 0, none⟩) m c2] 34 ∧
    DrawnD w base B a len cap p k f n m (.returned (.agg #[.int .i64 f, .slice (some ⟨b1, 0, none⟩) n c1, .slice (some ⟨b2, 0, none⟩) m c2])) (stored wr D0 (.int .i64 f) (.slice (some ⟨b1, 0, none⟩) n c1) (.slice (some ⟨b2, 0, none⟩) m c2)) := by
  obtain ⟨d0, d1, ⟨z1, r1⟩, ⟨z2, r2, y2⟩, o0, o1, o2, o3, oB, g, p', q1, q2, hrd⟩ := h
  have g0 := grown_set wr D0 0 (.int .i64 f)
  have g1 := gtr' g0 (grown_set _ D0 1 (.slice (some ⟨b1, 0, none⟩) n c1))
  have g2 := gtr' g1 (grown_set _ D0 2 (.slice (some ⟨b2, 0, none⟩) m c2))
  exact ⟨((d0.set 0 _).set 1 _).set 2 _, b1, c1, z1, b2, c2, z2, rfl, r1.kept g2 (by intro e; have e := Option.some.inj e; omega), r2.kept g2 (by intro e; have e := Option.some.inj e; omega), ⟨o2, y2⟩, grown_newR g (by omega) g2, p', q1, q2, hrd.grown g2 (by omega)⟩
theorem shl_ok {len : Nat} {z : Nat → Int} {m j : Nat} (h : j < m) : fok (li (shl len z m) j) = true := by
  have e : li (shl len z m) j = Pol.fi (Pol.ev (fl z len) (Pol.cv ((j : Int) + 1))) := by simp [li, shl, h]
  rw [e]; exact Pol.fi_ok _
set_option maxRecDepth 100000 in
set_option maxHeartbeats 2000000 in
theorem deal_any (w : World) (base B : Nat) (a : Option Addr) (len cap p : Nat) (f : Int) (n m : Nat) (h : Rd w base B a len cap p) (hp : p ≤ 10000000) (hn1 : 1 ≤ n) (hn5 : n ≤ 5) (hm1 : 1 ≤ m) (hm5 : m ≤ 5) :
    Calls Tryd.prog 60 #[.pointer (some ⟨B, 0, none⟩), .int .i64 f, .int .i64 n, .int .i64 m] w (DrawnD w base B a len cap p 9 f n m) := by
  have hB := h.lt
  go_enter Tryd.func60, Tryd.ntmps60
  have HD0 := Lib.hid (Blk.new w #[.int .i64 0, .slice none 0 0, .slice none 0 0] 34)
  have HG0 := Lib.hid (Draw.grown_alloc w (.cells #[.int .i64 0, .slice none 0 0, .slice none 0 0] 34) (some B))
  have hs0 : (w.alloc (.cells #[.int .i64 0, .slice none 0 0, .slice none 0 0] 34)).heap.size = w.heap.size + 1 := by show (w.heap.push _).size = _; simp
  go_wp2_with fail
  refine (pick_any _ base B a len cap p 23 (h.alloc _) (by omega) (by omega)).mono ?_
  rintro e w1 ⟨x, x0, x1, rfl, hr1, hg1, hs1⟩
  have HD1 := Lib.hid (HD0.out.kept hg1 (by intro e; have e := Option.some.inj e; omega)); have HG1 := Lib.hid (grown_trans HG0.out hg1); have HR1 := Lib.hid hr1
  clear hr1 hg1 h
  go_wp2_with fail
  refine (pick_any _ base B a len cap (p + 1) 1000 HR1.out (by omega) (by omega)).mono ?_
  rintro e w2 ⟨y, y0, y1, rfl, hr2, hg2, hs2⟩
  have HD2 := Lib.hid (HD1.out.kept hg2 (by intro e; have e := Option.some.inj e; omega)); have HG2 := Lib.hid (grown_trans HG1.out hg2); have HR2 := Lib.hid hr2
  clear hr2 hg2
  have hfx : fok x = true := fok_mk x0 (by omega)
  go_wp2_with fail
  refine (s11poly _ n x y hn1 hn5 y0 (by omega)).mono ?_
  rintro e w3 ⟨b3, c3, rfl, hr3, hg3⟩
  have HI := Lib.hid hr3.ints; have HD3 := Lib.hid (HD2.out.keptN hg3); have HG3 := Lib.hid (grown_trans HG2.out (grown_some hg3)); have HR3 := Lib.hid (HR2.out.kept (fun k hk => hg3.block k (by have := HR2.out.lt; have := HR2.out.from_; omega) (by simp)) (hg3.block B HR2.out.lt (by simp))); have hs3 := hg3.size
  have HZ := Lib.hid (fun j (_ : j < n) => dz_ok (seed := y) hfx j)
  clear hr3 hg3
  go_wp2_with fail
  refine (s11make _ f m _ n c3 (dz x y) HI.out hn5 HZ.out hm5).mono ?_
  rintro e w4 ⟨b1, c1, Bv, v, rfl, hBv, hb1v, hr4, hL, hg4⟩
  have hRow : ∃ b2 c2, v = .slice (some ⟨b2, 0, none⟩) m c2 ∧ Row w4 Bv 3 b2 m c2 (li (shl n (dz x y) m)) := by
    rcases hL with ⟨_, h0⟩ | ⟨b2, c2, hv, hr⟩
    · have := shl_len n (dz x y) m; rw [h0] at this; simp at this; omega
    · rw [shl_len] at hv hr; exact ⟨b2, c2, hv, hr⟩
  obtain ⟨b2, c2, rfl, hr2⟩ := hRow
  have hge1 := hr4.from_; have hge2 := hr2.from_; have hlt2 := hr2.lt
  have hsg := HG3.out.size; have hsg4 := hg4.size
  have HW1 := Lib.hid (hr4.lower hsg); have HW2 := Lib.hid (hr2.lower (Nat.le_trans hsg hBv))
  have HD4 := Lib.hid (HD3.out.keptN hg4); have HG4 := Lib.hid (grown_trans HG3.out (grown_some hg4)); have HR4 := Lib.hid (HR3.out.kept (fun k hk => hg4.block k (by have := HR3.out.lt; have := HR3.out.from_; omega) (by simp)) (hg4.block B HR3.out.lt (by simp)))
  clear hr4 hL hg4 hr2
  have hs5 : (w4.alloc (.cells #[.int .i64 f, .slice (some ⟨b1, 0, none⟩) n c1, .slice (some ⟨b2, 0, none⟩) m c2] 34)).heap.size = w4.heap.size + 1 := by show (w4.heap.push _).size = _; simp
  have w5R := Lib.hid (HR4.out.alloc (.cells #[.int .i64 f, .slice (some ⟨b1, 0, none⟩) n c1, .slice (some ⟨b2, 0, none⟩) m c2] 34))
  have w5H := Lib.hid (show HeldD w base B a len cap p (p + 2) w.heap.size w4.heap.size f b1 n c1 b2 m c2 (w4.alloc (.cells #[.int .i64 f, .slice (some ⟨b1, 0, none⟩) n c1, .slice (some ⟨b2, 0, none⟩) m c2] 34)) from
    ⟨HD4.out.keptN (grown_alloc _ _ _), Blk.new _ _ _, ⟨_, HW1.out.alloc _⟩, ⟨_, HW2.out.alloc _, fun j hj => shl_ok hj⟩, Nat.le_refl _, by have := HD3.out.lt; omega, by omega, by omega, hB, grown_trans HG4.out (grown_alloc _ _ _), p + 1 + 1, by omega, by omega, w5R.out⟩)
  clear hs0 hs1 hs2 hs3 hge1 hge2 hsg hsg4 hBv
  go_wp2_with fail
  refine (pick_any _ base B a len cap _ 4 w5R.out (by omega) (by omega)).mono ?_
  rintro e w6 ⟨t, t0, t1, rfl, hr, hg, hs⟩
  have w6H := Lib.hid (w5H.out.step (hi' := p + 3) hg hr (by omega) (by omega)); have w6R := Lib.hid hr
  clear hr hg hs
  obtain ⟨j0, j1, j2, g0, g1, g2⟩ := w6H.out.d1.all
  rcases (by omega : t = 0 ∨ 1 ≤ t) with rfl | ht
  · have w6D := Lib.hid (w6R.out.kept (w' := w6.drew) (fun _ _ => rfl) rfl)
    go_wp2_with fail
    go_region_held3 (fun w' => w'.cell? ⟨w4.heap.size, 2, none⟩ = some (.slice (some ⟨b2, 0, none⟩) m c2)) (first | exact hS6 | exact hS5 | exact hS4 | exact j2) (first
      | (go_at_call 13; (with_reducible refine (pick_any _ base B a len cap _ 23 waR.out (by omega) (by omega)).mono ?_); rintro e wb ⟨s, s0, s1, rfl, hr, hg, hs⟩; have wbH := Lib.hid (waH.out.step (hi' := p + 5) hg hr (by omega) (by omega)); obtain ⟨zy, hrw, _⟩ := wbH.out.r2; have t0 := hrw.cell hrn; have t1 := hrw.frozen rn; have t2 := hrw.le; have wcH := Lib.hid (wbH.out.set2 rn s (fok_mk s0 (by omega))); have wcR := Lib.hid (hr.grown (grown_set wb b2 rn (.int .i64 s)) (by have := wbH.out.oB; have := wbH.out.o0; have := wbH.out.o1; have := wbH.out.o2; omega)); have hS5 : wb.cell? ⟨w4.heap.size, 2, none⟩ = some (.slice (some ⟨b2, 0, none⟩) m c2) := wbH.out.d1.cell 2; have hS6 : (wb.setCell ⟨b2, rn, none⟩ (.int .i64 s)).cell? ⟨w4.heap.size, 2, none⟩ = some (.slice (some ⟨b2, 0, none⟩) m c2) := wcH.out.d1.cell 2; clear hrw hr hg hs)
      | (go_at_call 13; (with_reducible refine (pick_any _ base B a len cap _ (m : Int) w6D.out (by omega) (by omega)).mono ?_); rintro e wa ⟨r, r0, r1, rfl, hr, hg, hs⟩; have waH := Lib.hid (w6H.out.step (hi' := p + 4) ⟨hg.os, hg.tape, hg.output, hg.size, hg.block⟩ hr (by omega) (by omega)); have waR := Lib.hid hr; obtain ⟨rn, rfl⟩ : ∃ rn : Nat, r = rn := ⟨r.toNat, by omega⟩; have hrn : rn < m := (by omega); have hS4 : wa.cell? ⟨w4.heap.size, 2, none⟩ = some (.slice (some ⟨b2, 0, none⟩) m c2) := waH.out.d1.cell 2; clear hr hg hs))
    all_goals
      clear t0 t1 hS4 hS5 hS6 j0 j1 j2 g0 g1 g2
      go_wp2_with fail
      refine (pick_any _ base B a len cap _ 24 wcR.out (by omega) (by omega)).mono ?_
      rintro e w7 ⟨u, u0, u1, rfl, hr, hg, hs⟩
      have w7H := Lib.hid (wcH.out.step (hi' := p + 6) hg hr (by omega) (by omega)); have w7R := Lib.hid hr
      clear hr hg hs
      obtain ⟨j0, j1, j2, g0, g1, g2⟩ := w7H.out.d1.all
      rcases (by omega : u = 0 ∨ 1 ≤ u) with rfl | hu
      · have w7D := Lib.hid (w7R.out.kept (w' := w7.drew) (fun _ _ => rfl) rfl)
        go_wp2_with fail
        go_region_held3 (fun w' => w'.cell? ⟨w4.heap.size, 1, none⟩ = some (.slice (some ⟨b1, 0, none⟩) n c1)) (first | exact hS9 | exact hS8 | exact hS7 | exact j1) (first
          | (go_at_call 75; (with_reducible refine (grp_any _ base B a len cap _ w8R.out (by omega)).mono ?_); rintro e w9 ⟨v, v0, v1, rfl, hg, p9, r1, r2, hr⟩; have w9H := Lib.hid (w8H.out.step (hi' := p + 9) hg hr (by omega) (by omega)); obtain ⟨zz, hrw⟩ := w9H.out.r1; have t0 := hrw.cell hqn; have t1 := hrw.frozen qn; have t2 := hrw.le; have wLH := Lib.hid (w9H.out.set1 qn v); have hS8 : w9.cell? ⟨w4.heap.size, 1, none⟩ = some (.slice (some ⟨b1, 0, none⟩) n c1) := w9H.out.d1.cell 1; have hS9 : (w9.setCell ⟨b1, qn, none⟩ (.int .i64 v)).cell? ⟨w4.heap.size, 1, none⟩ = some (.slice (some ⟨b1, 0, none⟩) n c1) := wLH.out.d1.cell 1; clear hrw hr hg)
          | (go_at_call 13; (with_reducible refine (pick_any _ base B a len cap _ (n : Int) w7D.out (by omega) (by omega)).mono ?_); rintro e w8 ⟨q, q0, q1, rfl, hr, hg, hs⟩; have w8H := Lib.hid (w7H.out.step (hi' := p + 7) ⟨hg.os, hg.tape, hg.output, hg.size, hg.block⟩ hr (by omega) (by omega)); have w8R := Lib.hid hr; obtain ⟨qn, rfl⟩ : ∃ qn : Nat, q = qn := ⟨q.toNat, by omega⟩; have hqn : qn < n := (by omega); have hS7 : w8.cell? ⟨w4.heap.size, 1, none⟩ = some (.slice (some ⟨b1, 0, none⟩) n c1) := w8H.out.d1.cell 1; clear hr hg hs))
        all_goals
          clear t0 t1 hS7 hS8 hS9 j0 j1 j2 g0 g1 g2
          obtain ⟨hends, hdr⟩ := wLH.out.ends (k := 9)
          obtain ⟨e0, e1, e2, e3, e4, e5⟩ := wLH.out.d0.all
          obtain ⟨j0, j1, j2, g0, g1, g2⟩ := wLH.out.d1.all
          have HE := Lib.hid hends; have HDr := Lib.hid hdr; clear hends hdr
          go_wp2
          (try simp only [Exit.inBlock, Exit.then])
          refine bodyPost_ret (ret_deal rfl _ rfl HE.out) rfl ?_
          exact HDr.out
      · have hu0 : (u == 0) = false := by simp; omega
        have wLH := Lib.hid (HeldD.step (hi' := p + 9) w7H.out (grown_refl _ _) w7R.out (by omega) (by omega))
        clear j0 j1 j2 g0 g1 g2
        obtain ⟨hends, hdr⟩ := wLH.out.ends (k := 9)
        obtain ⟨e0, e1, e2, e3, e4, e5⟩ := wLH.out.d0.all
        obtain ⟨j0, j1, j2, g0, g1, g2⟩ := wLH.out.d1.all
        have HE := Lib.hid hends; have HDr := Lib.hid hdr; clear hends hdr
        go_wp2
        (try simp only [Exit.inBlock, Exit.then])
        refine bodyPost_ret (ret_deal rfl _ rfl HE.out) rfl ?_
        exact HDr.out
  · have ht0 : (t == 0) = false := by simp; omega
    clear j0 j1 j2 g0 g1 g2
    go_wp2_with fail
    refine (pick_any _ base B a len cap _ 24 w6R.out (by omega) (by omega)).mono ?_
    rintro e w7 ⟨u, u0, u1, rfl, hr, hg, hs⟩
    have w7H := Lib.hid (w6H.out.step (hi' := p + 4) hg hr (by omega) (by omega)); have w7R := Lib.hid hr
    clear hr hg hs
    obtain ⟨j0, j1, j2, g0, g1, g2⟩ := w7H.out.d1.all
    rcases (by omega : u = 0 ∨ 1 ≤ u) with rfl | hu
    · have w7D := Lib.hid (w7R.out.kept (w' := w7.drew) (fun _ _ => rfl) rfl)
      go_wp2_with fail
      go_region_held3 (fun w' => w'.cell? ⟨w4.heap.size, 1, none⟩ = some (.slice (some ⟨b1, 0, none⟩) n c1)) (first | exact hS9 | exact hS8 | exact hS7 | exact j1) (first
        | (go_at_call 75; (with_reducible refine (grp_any _ base B a len cap _ w8R.out (by omega)).mono ?_); rintro e w9 ⟨v, v0, v1, rfl, hg, p9, r1, r2, hr⟩; have w9H := Lib.hid (w8H.out.step (hi' := p + 9) hg hr (by omega) (by omega)); obtain ⟨zz, hrw⟩ := w9H.out.r1; have t0 := hrw.cell hqn; have t1 := hrw.frozen qn; have t2 := hrw.le; have wLH := Lib.hid (w9H.out.set1 qn v); have hS8 : w9.cell? ⟨w4.heap.size, 1, none⟩ = some (.slice (some ⟨b1, 0, none⟩) n c1) := w9H.out.d1.cell 1; have hS9 : (w9.setCell ⟨b1, qn, none⟩ (.int .i64 v)).cell? ⟨w4.heap.size, 1, none⟩ = some (.slice (some ⟨b1, 0, none⟩) n c1) := wLH.out.d1.cell 1; clear hrw hr hg)
        | (go_at_call 13; (with_reducible refine (pick_any _ base B a len cap _ (n : Int) w7D.out (by omega) (by omega)).mono ?_); rintro e w8 ⟨q, q0, q1, rfl, hr, hg, hs⟩; have w8H := Lib.hid (w7H.out.step (hi' := p + 5) ⟨hg.os, hg.tape, hg.output, hg.size, hg.block⟩ hr (by omega) (by omega)); have w8R := Lib.hid hr; obtain ⟨qn, rfl⟩ : ∃ qn : Nat, q = qn := ⟨q.toNat, by omega⟩; have hqn : qn < n := (by omega); have hS7 : w8.cell? ⟨w4.heap.size, 1, none⟩ = some (.slice (some ⟨b1, 0, none⟩) n c1) := w8H.out.d1.cell 1; clear hr hg hs))
      all_goals
        clear t0 t1 hS7 hS8 hS9 j0 j1 j2 g0 g1 g2
        obtain ⟨hends, hdr⟩ := wLH.out.ends (k := 9)
        obtain ⟨e0, e1, e2, e3, e4, e5⟩ := wLH.out.d0.all
        obtain ⟨j0, j1, j2, g0, g1, g2⟩ := wLH.out.d1.all
        have HE := Lib.hid hends; have HDr := Lib.hid hdr; clear hends hdr
        go_wp2
        (try simp only [Exit.inBlock, Exit.then])
        refine bodyPost_ret (ret_deal rfl _ rfl HE.out) rfl ?_
        exact HDr.out
    · have hu0 : (u == 0) = false := by simp; omega
      have wLH := Lib.hid (HeldD.step (hi' := p + 9) w7H.out (grown_refl _ _) w7R.out (by omega) (by omega))
      clear j0 j1 j2 g0 g1 g2
      obtain ⟨hends, hdr⟩ := wLH.out.ends (k := 9)
      obtain ⟨e0, e1, e2, e3, e4, e5⟩ := wLH.out.d0.all
      obtain ⟨j0, j1, j2, g0, g1, g2⟩ := wLH.out.d1.all
      have HE := Lib.hid hends; have HDr := Lib.hid hdr; clear hends hdr
      go_wp2
      (try simp only [Exit.inBlock, Exit.then])
      refine bodyPost_ret (ret_deal rfl _ rfl HE.out) rfl ?_
      exact HDr.out
end Draw
end Go.Proofs.YtkklhlffbfgolaaDoor
