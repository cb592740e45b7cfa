/-
  How the model draws a deal that may be spoilt, with how many are needed, and of how many.
-/
import Derived.Test.YtkklhlffbfgolaaDoorDn
namespace Go.Proofs.YtkklhlffbfgolaaDoor
namespace Draw
open Go.RowKit Alg Mem Con
set_option linter.unusedVariables false

theorem ret_deal3 {fn : Func} {p u v : Tmp} (h : fn.results = #[.cell p 34, .tmp u, .tmp v]) (tmps : Array Value) {w : World} {b : Nat} {v0 v1 v2 : Value} {T : TypeId} (hp : tmps.getD p undef = .pointer (some ⟨b, 0, none⟩)) (hb : Blk w b #[v0, v1, v2] T) :
    (results fn tmps).run Tryd.prog w = .ok (.tuple #[.agg #[v0, v1, v2], tmps.getD u undef, tmps.getD v undef]) w := by
  have hp' : tmps[p]?.getD undef = .pointer (some ⟨b, 0, none⟩) := by simpa using hp
  simp [results, h, hp', asAddr, run_loadVar_row w b T 34 #[v0, v1, v2] (0, 0) _ hb Tryd.underlying34 rfl size_deal, Result.andThen]
/-- What holds while a deal lies in a drawing function of its own: all blocks new, and apart. -/
structure HeldE (w : World) (base B : Nat) (a : Option Addr) (len cap lo hi D0 D1 : Nat) (f : Int) (b1 n c1 b2 m c2 : Nat) (wr : World) : Prop where
  d0 : Blk wr D0 #[.int .i64 0, .slice none 0 0, .slice none 0 0] 34
  d1 : Blk wr D1 #[.int .i64 f, .slice (some ⟨b1, 0, none⟩) n c1, .slice (some ⟨b2, 0, none⟩) m c2] 34
  r1 : ∃ z1, Row wr w.heap.size 3 b1 n c1 z1
  r2 : ∃ z2, Row wr w.heap.size 3 b2 m c2 z2
  o0 : w.heap.size ≤ D0
  oB : w.heap.size ≤ B
  o1 : w.heap.size ≤ D1
  ne : D0 ≠ B ∧ D1 ≠ B ∧ b1 ≠ B ∧ b2 ≠ B ∧ b1 ≠ b2 ∧ b1 ≠ D0 ∧ b2 ≠ D0 ∧ b1 ≠ D1 ∧ b2 ≠ D1 ∧ D0 ≠ D1
  g : w.grownBy wr none
  rd : ∃ p', lo ≤ p' ∧ p' ≤ hi ∧ Rd wr base B a len cap p'
theorem HeldE.step {w : World} {base B : Nat} {a : Option Addr} {len cap lo hi D0 D1 : Nat} {f : Int} {b1 n c1 b2 m c2 : Nat} {wr : World} {hi' p' : Nat} {w' : World} (h : HeldE w base B a len cap lo hi D0 D1 f b1 n c1 b2 m c2 wr)
    (hg : wr.grownBy w' (some B)) (hrd : Rd w' base B a len cap p') (h1 : lo ≤ p') (h2 : p' ≤ hi') : HeldE w base B a len cap lo hi' D0 D1 f b1 n c1 b2 m c2 w' := by
  obtain ⟨d0, d1, ⟨z1, r1⟩, ⟨z2, r2⟩, o0, oB, o1, ne, g, rd⟩ := h
  exact ⟨d0.kept hg (by intro e; have e := Option.some.inj e; omega), d1.kept hg (by intro e; have e := Option.some.inj e; omega), ⟨z1, r1.kept hg (by intro e; have e := Option.some.inj e; omega)⟩, ⟨z2, r2.kept hg (by intro e; have e := Option.some.inj e; omega)⟩, o0, oB, o1, ne, grown_new g oB hg, p', h1, h2, hrd⟩
theorem Rd.grownN {w w' : World} {base B b : Nat} {a : Option Addr} {len cap p : Nat} (h : Rd w base B a len cap p) (hg : w.grownBy w' (some b)) (hb : b ≠ B) (hbb : base ≤ b) : Rd w' base B a len cap p :=
  h.kept (fun k hk => hg.block k (by have := h.lt; have := h.from_; omega) (by intro e; injection e with e; omega)) (hg.block B h.lt (by intro e; injection e with e; omega))
theorem HeldE.set2 {w : World} {base B : Nat} {a : Option Addr} {len cap lo hi D0 D1 : Nat} {f : Int} {b1 n c1 b2 m c2 : Nat} {wr : World} (h : HeldE w base B a len cap lo hi D0 D1 f b1 n c1 b2 m c2 wr) (hb : base ≤ w.heap.size) (j : Nat) (u : Int) :
    HeldE w base B a len cap lo hi D0 D1 f b1 n c1 b2 m c2 (wr.setCell ⟨b2, j, none⟩ (.int .i64 u)) := by
  obtain ⟨d0, d1, ⟨z1, r1⟩, ⟨z2, r2⟩, o0, oB, o1, ne, g, p', q1, q2, hrd⟩ := h
  have hg := grown_set wr b2 j (.int .i64 u)
  have hf2 := r2.from_
  exact ⟨d0.other (by omega), d1.other (by omega), ⟨z1, r1.kept hg (by intro e; have e := Option.some.inj e; omega)⟩, ⟨_, r2.set j u⟩, o0, oB, o1, ne, grown_new g hf2 hg, p', q1, q2, hrd.grownN hg (by omega) (by omega)⟩
/-- What a function leaves that draws a deal and two numbers. -/
def GotD (w : World) (k1 k2 : Nat) (e : Ending) (w' : World) : Prop :=
  ∃ (f : Int) (b1 n c1 : Nat) (z1 : Nat → Int) (b2 m c2 : Nat) (z2 : Nat → Int) (need many : Int), e = .returned (.tuple #[.agg #[.int .i64 f, .slice (some ⟨b1, 0, none⟩) n c1, .slice (some ⟨b2, 0, none⟩) m c2], .int .i64 need, .int .i64 many]) ∧ n ≤ k1 ∧ m ≤ k2 ∧ n ≤ c1 ∧ c1 ≤ maxLen ∧ m ≤ c2 ∧ c2 ≤ maxLen ∧
    1 ≤ need ∧ need ≤ 5 ∧ 1 ≤ many ∧ many ≤ 5 ∧ Ints w' (some ⟨b1, 0, none⟩) n z1 ∧ Ints w' (some ⟨b2, 0, none⟩) m z2 ∧ w.grownBy w' none
theorem HeldE.ends {w : World} {base B : Nat} {a : Option Addr} {len cap lo hi D0 D1 : Nat} {f : Int} {b1 n c1 b2 m c2 : Nat} {wr : World} (h : HeldE w base B a len cap lo hi D0 D1 f b1 n c1 b2 m c2 wr) {k1 k2 : Nat} {need many : Int} (h1 : n ≤ k1) (h2 : m ≤ k2) (hn : 1 ≤ need ∧ need ≤ 5 ∧ 1 ≤ many ∧ many ≤ 5) :
    Blk (stored wr D0 (.int .i64 f) (.slice (some ⟨b1, 0, none⟩) n c1) (.slice (some ⟨b2, 0, none⟩) m c2)) D0 #[.int .i64 f, .slice (some ⟨b1, 0, none⟩) n c1, .slice (some ⟨b2, 0, none⟩) m c2] 34 ∧
    GotD w k1 k2 (.returned (.tuple #[.agg #[.int .i64 f, .slice (some ⟨b1, 0, none⟩) n c1, .slice (some ⟨b2, 0, none⟩) m c2], .int .i64 need, .int .i64 many])) (stored wr D0 (.int .i64 f) (.slice (some ⟨b1, 0, none⟩) n c1) (.slice (some ⟨b2, 0, none⟩) m c2)) := by
  obtain ⟨d0, d1, ⟨z1, r1⟩, ⟨z2, r2⟩, o0, oB, o1, ne, g, rd⟩ := h
  have g0 := grown_set wr D0 0 (.int .i64 f)
  have g1 := gtr' g0 (grown_set _ D0 1 (.slice (some ⟨b1, 0, none⟩) n c1))
  have g2 := gtr' g1 (grown_set _ D0 2 (.slice (some ⟨b2, 0, none⟩) m c2))
  have q1 := r1.kept g2 (by intro e; have e := Option.some.inj e; omega)
  have q2 := r2.kept g2 (by intro e; have e := Option.some.inj e; omega)
  exact ⟨((d0.set 0 _).set 1 _).set 2 _, f, b1, n, c1, z1, b2, m, c2, z2, need, many, rfl, h1, h2, r1.le, r1.most, r2.le, r2.most, hn.1, hn.2.1, hn.2.2.1, hn.2.2.2, q1.ints, q2.ints, grown_new g o0 g2⟩
theorem fine_any (w : World) (base B : Nat) (a : Option Addr) (len cap p : Nat) (h : Rd w base B a len cap p) (hp : p ≤ 10000000) :
    Calls Tryd.prog 36 #[.pointer (some ⟨B, 0, none⟩)] w fun e w' => ∃ n m : Nat, e = .returned (.tuple #[.int .i64 n, .int .i64 m]) ∧ 1 ≤ n ∧ n ≤ m ∧ m ≤ 5 ∧ w.grownBy w' (some B) ∧ Rd w' base B a len cap (p + 1 + 1) := by
  go_enter Tryd.func36, Tryd.ntmps36
  go_wp2_with fail
  refine (pick_any _ base B a len cap p 5 h (by omega) (by omega)).mono ?_
  rintro e w1 ⟨x, x0, x1, rfl, hr1, hg1, hs1⟩
  obtain ⟨xn, rfl⟩ : ∃ xn : Nat, x = xn := ⟨x.toNat, by omega⟩
  have HG1 := Lib.hid hg1; clear hg1 hs1
  go_wp2_with fail
  refine (pick_any _ base B a len cap (p + 1) (1 + (xn : Int)) hr1 (by omega) (by omega)).mono ?_
  rintro e w2 ⟨y, y0, y1, rfl, hr2, hg2, hs2⟩
  obtain ⟨yn, rfl⟩ : ∃ yn : Nat, y = yn := ⟨y.toNat, by omega⟩
  have HG2 := Lib.hid (grown_trans HG1.out hg2); have HR2 := Lib.hid hr2; clear hg2 hs2 hr2
  go_wp2_with fail
  go_ret2
  exact ⟨1 + yn, 1 + xn, by first | rfl | simp, by omega, by omega, by omega, HG2.out, HR2.out⟩

end Draw
end Go.Proofs.YtkklhlffbfgolaaDoor
