/-
  How the model draws a deal that may be spoilt, with how many are needed, and of how many.
-/
import Derived.Test.YtbemggelljgkhaaDoorDn
namespace Go.Proofs.YtbemggelljgkhaaDoor
namespace Draw
open Go.RowKit Alg Mem Con
set_option linter.unusedVariables false

theorem ret_deal3 {fn : Func} {p u v : Tmp} (h : fn.results = #[.cell p 25, .tmp u, .tmp v]) (tmps : Array Value) {w : World} {b : Nat} {v0 v1 v2 : Value} {T : TypeId} (hp : tmps.getD p undef = .pointer (some ⟨b, 0, none⟩)) (hb : Blk w b #[v0, v1, v2] T) :
    (results fn tmps).run Tryd.prog w = .ok (.tuple #[.agg #[v0, v1, v2], tmps.getD u undef, tmps.getD v undef]) w := by
  have hp' : tmps[p]?.getD undef = .pointer (some ⟨b, 0, none⟩) := by simpa using hp
  simp [results, h, hp', asAddr, run_loadVar_row w b T 25 #[v0, v1, v2] (0, 0) _ hb Tryd.underlying25 rfl size_deal, Result.andThen]
/-- What holds while a deal lies in a drawing function of its own: all blocks new, and apart. -/
structure HeldE (w : World) (base B : Nat) (a : Option Addr) (len cap lo hi D0 D1 : Nat) (f : Int) (b1 n c1 b2 m c2 : Nat) (wr : World) : Prop where
  d0 : Blk wr D0 #[.int .i64 0, .slice none 0 0, .slice none 0 0] 25
  d1 : Blk wr D1 #[.int .i64 f, .slice (some ⟨b1, 0, none⟩) n c1, .slice (some ⟨b2, 0, none⟩) m c2] 25
  r1 : ∃ z1, Row wr w.heap.size 3 b1 n c1 z1
  r2 : ∃ z2, Row wr w.heap.size 3 b2 m c2 z2
  o0 : w.heap.size ≤ D0
  oB : w.heap.size ≤ B
  o1 : w.heap.size ≤ D1
  ne : D0 ≠ B ∧ D1 ≠ B ∧ b1 ≠ B ∧ b2 ≠ B ∧ b1 ≠ b2 ∧ b1 ≠ D0 ∧ b2 ≠ D0 ∧ b1 ≠ D1 ∧ b2 ≠ D1 ∧ D0 ≠ D1
  g : w.grownBy wr none
  rd : ∃ p', lo ≤ p' ∧ p' ≤ hi ∧ Rd wr base B a len cap p'
theorem HeldE.step {w : World} {base B : Nat} {a : Option Addr} {len cap lo hi D0 D1 : Nat} {f : Int} {b1 n c1 b2 m c2 : Nat} {wr : World} {hi' p' : Nat} {w' : World} (h : HeldE w base B a len cap lo hi D0 D1 f b1 n c1 b2 m c2 wr)
    (hg : wr.grownBy w' (some B)) (hrd : Rd w' base B a len cap p') (h1 : lo ≤ p') (h2 : p' ≤ hi') : HeldE w base B a len cap lo hi' D0 D1 f b1 n c1 b2 m c2 w' := by
  obtain ⟨d0, d1, ⟨z1, r1⟩, ⟨z2, r2⟩, o0, oB, o1, ne, g, rd⟩ := h
  exact ⟨d0.kept hg (by intro e; have e := Option.some.inj e; omega), d1.kept hg (by intro e; have e := Option.some.inj e; omega), ⟨z1, r1.kept hg (by intro e; have e := Option.some.inj e; omega)⟩, ⟨z2, r2.kept hg (by intro e; have e := Option.some.inj e; omega)⟩, o0, oB, o1, ne, grown_new g oB hg, p', h1, h2, hrd⟩
theorem Rd.grownN {w w' : World} {base B b : Nat} {a : Option Addr} {len cap p : Nat} (h : Rd w base B a len cap p) (hg : w.grownBy w' (some b)) (hb : b ≠ B) (hbb : base ≤ b) : Rd w' base B a len cap p :=
  h.kept (fun k hk => hg.block k (by have := h.lt; have := h.from_; omega) (by intro e; injection e with e; omega)) (hg.block B h.lt (by intro e; injection e with e; omega))
theorem HeldE.set2 {w : World} {base B : Nat} {a : Option Addr} {len cap lo hi D0 D1 : Nat} {f : Int} {b1 n c1 b2 m c2 : Nat} {wr : World} (h : HeldE w base B a len cap lo hi D0 D1 f b1 n c1 b2 m c2 wr) (hb : base ≤ w.heap.size) (j : Nat) (u : Int) :
    HeldE w base B a len cap lo hi D0 D1 f b1 n c1 b2 m c2 (wr.setCell ⟨b2, j, none⟩ (.int .i64 u)) := by
  obtain ⟨d0, d1, ⟨z1, r1⟩, ⟨z2, r2⟩, o0, oB, o1, ne, g, p', q1, q2, hrd⟩ := h
  have hg := grown_set wr b2 j (.int .i64 u)
  have hf2 := r2.from_
  exact ⟨d0.other (by omega), d1.other (by omega), ⟨z1, r1.kept hg (by intro e; have e := Option.some.inj e; omega)⟩, ⟨_, r2.set j u⟩, o0, oB, o1, ne, grown_new g hf2 hg, p', q1, q2, hrd.grownN hg (by omega) (by omega)⟩
/-- What a function leaves that draws a deal and two numbers. -/
def GotD (w : World) (k1 k2 : Nat) (e : Ending) (w' : World) : Prop :=
  ∃ (f : Int) (b1 n c1 : Nat) (z1 : Nat → Int) (b2 m c2 : Nat) (z2 : Nat → Int) (need many : Int), e = .returned (.tuple #[.agg #[.int .i64 f, .slice (some ⟨b1, 0, none⟩) n c1, .slice (some ⟨b2, 0, none⟩) m c2], .int .i64 need, .int .i64 many]) ∧ n ≤ k1 ∧ m ≤ k2 ∧ n ≤ c1 ∧ c1 ≤ maxLen ∧ m ≤ c2 ∧ c2 ≤ maxLen ∧
    1 ≤ need ∧ need ≤ 5 ∧ 1 ≤ many ∧ many ≤ 5 ∧ Ints w' (some ⟨b1, 0, none⟩) n z1 ∧ Ints w' (some ⟨b2, 0, none⟩) m z2 ∧ w.grownBy w' none
theorem HeldE.ends {w : World} {base B : Nat} {a : Option Addr} {len cap lo hi D0 D1 : Nat} {f : Int} {b1 n c1 b2 m c2 : Nat} {wr : World} (h : HeldE w base B a len cap lo hi D0 D1 f b1 n c1 b2 m c2 wr) {k1 k2 : Nat} {need many : Int} (h1 : n ≤ k1) (h2 : m ≤ k2) (hn : 1 ≤ need ∧ need ≤ 5 ∧ 1 ≤ many ∧ many ≤ 5) :
    Blk (stored wr D0 (.int .i64 f) (.slice (some ⟨b1, 0, none⟩) n c1) (.slice (some ⟨b2, 0, none⟩) m c2)) D0 #[.int .i64 f, .slice (some ⟨b1, 0, none⟩) n c1, .slice (some ⟨b2, 0, none⟩) m c2] 25 ∧
    GotD w k1 k2 (.returned (.tuple #[.agg #[.int .i64 f, .slice (some ⟨b1, 0, none⟩) n c1, .slice (some ⟨b2, 0, none⟩) m c2], .int .i64 need, .int .i64 many])) (stored wr D0 (.int .i64 f) (.slice (some ⟨b1, 0, none⟩) n c1) (.slice (some ⟨b2, 0, none⟩) m c2)) := by
  obtain ⟨d0, d1, ⟨z1, r1⟩, ⟨z2, r2⟩, o0, oB, o1, ne, g, rd⟩ := h
  have g0 := grown_set wr D0 0 (.int .i64 f)
  have g1 := gtr' g0 (grown_set _ D0 1 (.slice (some ⟨b1, 0, none⟩) n c1))
  have g2 := gtr' g1 (grown_set _ D0 2 (.slice (some ⟨b2, 0, none⟩) m c2))
  have q1 := r1.kept g2 (by intro e; have e := Option.some.inj e; omega)
  have q2 := r2.kept g2 (by intro e; have e := Option.some.inj e; omega)
  exact ⟨((d0.set 0 _).set 1 _).set 2 _, f, b1, n, c1, z1, b2, m, c2, z2, need, many, rfl, h1, h2, r1.le, r1.most, r2.le, r2.most, hn.1, hn.2.1, hn.2.2.1, hn.2.2.2, q1.ints, q2.ints, grown_new g o0 g2⟩
theorem fine_any (w : World) (base B : Nat) (a : Option Addr) (len cap p : Nat) (h : Rd w base B a len cap p) (hp : p ≤ 10000000) :
    Calls Tryd.prog 27 #[.pointer (some ⟨B, 0, none⟩)] w fun e w' => ∃ n m : Nat, e = .returned (.tuple #[.int .i64 n, .int .i64 m]) ∧ 1 ≤ n ∧ n ≤ m ∧ m ≤ 5 ∧ w.grownBy w' (some B) ∧ Rd w' base B a len cap (p + 1 + 1) := by
  go_enter Tryd.func27, Tryd.ntmps27
  go_wp2_with fail
  refine (pick_any _ base B a len cap p 5 h (by omega) (by omega)).mono ?_
  rintro e w1 ⟨x, x0, x1, rfl, hr1, hg1, hs1⟩
  obtain ⟨xn, rfl⟩ : ∃ xn : Nat, x = xn := ⟨x.toNat, by omega⟩
  have HG1 := Lib.hid hg1; clear hg1 hs1
  go_wp2_with fail
  refine (pick_any _ base B a len cap (p + 1) (1 + (xn : Int)) hr1 (by omega) (by omega)).mono ?_
  rintro e w2 ⟨y, y0, y1, rfl, hr2, hg2, hs2⟩
  obtain ⟨yn, rfl⟩ : ∃ yn : Nat, y = yn := ⟨y.toNat, by omega⟩
  have HG2 := Lib.hid (grown_trans HG1.out hg2); have HR2 := Lib.hid hr2; clear hg2 hs2 hr2
  go_wp2_with fail
  go_ret2
  exact ⟨1 + yn, 1 + xn, by first | rfl | simp, by omega, by omega, by omega, HG2.out, HR2.out⟩

set_option maxRecDepth 100000 in
set_option maxHeartbeats 2000000 in
theorem drawDBad (w : World) (a : Option Addr) (len cap : Nat) (hB : Bytes w w.heap.size a len) (hc : len ≤ cap) (hm : cap ≤ maxLen) :
    Calls Tryd.prog 8 #[.slice a len cap] w (GotD w 5 6) := by
  have HD0 := Lib.hid (Blk.new w #[.int .i64 0, .slice none 0 0, .slice none 0 0] 25)
  have hs0 : (w.alloc (.cells #[.int .i64 0, .slice none 0 0, .slice none 0 0] 25)).heap.size = w.heap.size + 1 := by show (w.heap.push _).size = _; simp
  have HB := Lib.hid (hB.kept (w' := w.alloc (.cells #[.int .i64 0, .slice none 0 0, .slice none 0 0] 25)) (fun k hk => Below.heap_alloc _ _ _ hk))
  have HG0 := Lib.hid (grown_alloc w (.cells #[.int .i64 0, .slice none 0 0, .slice none 0 0] 25) none)
  clear hB
  go_enter Tryd.func8, Tryd.ntmps8
  go_wp2_with fail
  refine (open_any _ w.heap.size a len cap HB.out (by omega) hc hm).mono ?_
  rintro e w1 ⟨rfl, hg1, hs1, l1, c1', hr1⟩
  rw [hs0] at hr1
  have HD1 := Lib.hid (HD0.out.keptN hg1); have HG1 := Lib.hid (gtr HG0.out hg1); have HR1 := Lib.hid hr1
  clear hr1 hg1
  go_wp2_with fail
  refine (fine_any _ _ _ a l1 c1' 0 HR1.out (by omega)).mono ?_
  rintro e w2 ⟨n, m, rfl, hn1, hnm, hm5, hg2, hr2⟩
  have HD2 := Lib.hid (HD1.out.kept hg2 (by intro e; have e := Option.some.inj e; omega)); have HG2 := Lib.hid (grown_new HG1.out (by omega) hg2); have HR2 := Lib.hid hr2
  clear hr2 hg2
  go_wp2_with fail
  refine (pick_any _ _ _ a l1 c1' (0 + 1 + 1) (m : Int) HR2.out (by omega) (by omega)).mono ?_
  rintro e w3 ⟨x, x0, x1, rfl, hr3, hg3, hs3⟩
  have HD3 := Lib.hid (HD2.out.kept hg3 (by intro e; have e := Option.some.inj e; omega)); have HG3 := Lib.hid (grown_new HG2.out (by omega) hg3); have HR3 := Lib.hid hr3
  clear hr3 hg3 hs3
  go_wp2_with fail
  refine (deal_any _ _ _ a l1 c1' (0 + 1 + 1 + 1) (1 + x) n m HR3.out (by omega) hn1 (by omega) (by omega) hm5).mono ?_
  rintro e w4 ⟨b1, c1, z1, b2, c2, z2, rfl, hr1, hr2, hbb, hg4, p4, hp4, hp4', hrd⟩
  have hf1 := hr1.from_; have hf2 := hr2.from_; have hl2 := hr2.lt
  have hlt3 := HR3.out.lt
  have hgs := HG3.out.size
  have HD4 := Lib.hid (HD3.out.kept hg4 (by intro e; have e := Option.some.inj e; omega)); have HG4 := Lib.hid (grown_new HG3.out (by omega) hg4); have HR4 := Lib.hid hrd
  have hDD := HD3.out.lt
  have w5H := Lib.hid (show HeldE w w.heap.size (w.heap.size + 1) a l1 c1' 0 p4 w.heap.size w4.heap.size (1 + x) b1 n c1 b2 m c2 (w4.alloc (.cells #[.int .i64 (1 + x), .slice (some ⟨b1, 0, none⟩) n c1, .slice (some ⟨b2, 0, none⟩) m c2] 25)) from
    ⟨HD4.out.keptN (grown_alloc _ _ _), Blk.new _ _ _, ⟨_, (hr1.lower hgs).alloc _⟩, ⟨_, (hr2.lower hgs).alloc _⟩, Nat.le_refl _, by omega, by have := HG4.out.size; omega, by have := HR4.out.lt; have := HG4.out.size; omega, gtr HG4.out (grown_alloc _ _ _), p4, by omega, by omega, HR4.out.alloc _⟩)
  have w5R := Lib.hid (HR4.out.alloc (.cells #[.int .i64 (1 + x), .slice (some ⟨b1, 0, none⟩) n c1, .slice (some ⟨b2, 0, none⟩) m c2] 25))
  clear hr1 hr2 hg4 hrd hf1 hf2
  go_wp2_with fail
  refine (pick_any _ _ _ a l1 c1' _ 2 w5R.out (by omega) (by omega)).mono ?_
  rintro e w6 ⟨t, t0, t1, rfl, hr, hg, hs⟩
  have w6H := Lib.hid (w5H.out.step (hi' := p4 + 1) hg hr (by omega) (by omega)); have w6R := Lib.hid hr
  clear hr hg hs
  obtain ⟨j0, j1, j2, g0, g1, g2⟩ := w6H.out.d1.all
  rcases (by omega : t = 0 ∨ 1 ≤ t) with rfl | ht
  · have w6D := Lib.hid (w6R.out.kept (w' := w6.drew) (fun _ _ => rfl) rfl)
    go_wp2_with fail
    go_region_held3 (fun w' => w'.cell? ⟨w4.heap.size, 2, none⟩ = some (.slice (some ⟨b2, 0, none⟩) m c2)) (first | exact hS6 | exact hS5 | exact hS4 | exact j2) (first
      | (go_at_call 29; (with_reducible refine (pick_any _ _ _ a l1 c1' _ (m : Int) w6D.out (by omega) (by omega)).mono ?_); rintro e wa ⟨r, r0, r1, rfl, hr, hg, hs⟩; have waH := Lib.hid (w6H.out.step (hi' := p4 + 2) ⟨hg.os, hg.tape, hg.output, hg.size, hg.block⟩ hr (by omega) (by omega)); have waR := Lib.hid hr; obtain ⟨rn, rfl⟩ : ∃ rn : Nat, r = rn := ⟨r.toNat, by omega⟩; have hrn : rn < m := (by omega); have hS4 : wa.cell? ⟨w4.heap.size, 2, none⟩ = some (.slice (some ⟨b2, 0, none⟩) m c2) := waH.out.d1.cell 2; clear hr hg hs)
      | (go_at_call 29; (with_reducible refine (pick_any _ _ _ a l1 c1' _ 23 waR.out (by omega) (by omega)).mono ?_); rintro e wb ⟨s, s0, s1, rfl, hr, hg, hs⟩; have wbH := Lib.hid (waH.out.step (hi' := p4 + 3) hg hr (by omega) (by omega)); obtain ⟨zy, hrw⟩ := wbH.out.r2; have t0 := hrw.cell hrn; have t1 := hrw.frozen rn; have t2 := hrw.le; have wLH := Lib.hid (wbH.out.set2 (Nat.le_refl _) rn s); have hS5 : wb.cell? ⟨w4.heap.size, 2, none⟩ = some (.slice (some ⟨b2, 0, none⟩) m c2) := wbH.out.d1.cell 2; have hS6 : (wb.setCell ⟨b2, rn, none⟩ (.int .i64 s)).cell? ⟨w4.heap.size, 2, none⟩ = some (.slice (some ⟨b2, 0, none⟩) m c2) := wLH.out.d1.cell 2; clear hrw hr hg hs))
    all_goals
      clear t0 t1 hS4 hS5 hS6 j0 j1 j2 g0 g1 g2
      obtain ⟨hends, hdr⟩ := wLH.out.ends (k1 := 5) (k2 := 6) (need := (n : Int)) (many := (m : Int)) (by omega) (by omega) (by omega)
      obtain ⟨e0, e1, e2, e3, e4, e5⟩ := wLH.out.d0.all
      obtain ⟨j0, j1, j2, g0, g1, g2⟩ := wLH.out.d1.all
      have HE := Lib.hid hends; have HDr := Lib.hid hdr; clear hends hdr
      go_wp2
      (try simp only [Exit.inBlock, Exit.then])
      refine bodyPost_ret (ret_deal3 rfl _ rfl HE.out) rfl ?_
      exact HDr.out
  · have ht0 : (t == 0) = false := by simp; omega
    clear j0 j1 j2 g0 g1 g2
    obtain ⟨hends, hdr⟩ := w6H.out.ends (k1 := 5) (k2 := 6) (need := (n : Int)) (many := (m : Int)) (by omega) (by omega) (by omega)
    obtain ⟨e0, e1, e2, e3, e4, e5⟩ := w6H.out.d0.all
    obtain ⟨j0, j1, j2, g0, g1, g2⟩ := w6H.out.d1.all
    have HE := Lib.hid hends; have HDr := Lib.hid hdr; clear hends hdr
    go_wp2
    (try simp only [Exit.inBlock, Exit.then])
    refine bodyPost_ret (ret_deal3 rfl _ rfl HE.out) rfl ?_
    exact HDr.out
end Draw
end Go.Proofs.YtbemggelljgkhaaDoor
