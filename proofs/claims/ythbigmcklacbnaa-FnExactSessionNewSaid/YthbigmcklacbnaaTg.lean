/-
  A session in the words of the exact laws: sz, to, eq; one that came in as an argument.
-/
import Derived.Test.YthbigmcklacbnaaTf
import Derived.Test.YthbigmcklacbnaaTb
import Derived.Test.YthbigmcklacbnaaXo
import Derived.Lib.SmallJoins
import Derived.Deep.Strs
namespace Go.Proofs.Ythbigmcklacbnaa
namespace Con
open Go.RowKit Alg Mem Draw Hd
set_option linter.unusedVariables false

theorem wpList_store_part {P : Program} {ops : Array Oper} {rest : List Oper} {op : Oper} {a : Act} {w : World} {Q : Exit → Act → World → Prop} (hgd : op.guard = none) (ty : TypeId) (x y : Operand) (b : Nat) (cells old : Array Value) (T : TypeId) (hb : Blk w b old T) (ho : op.op = .store ty x y)
    (hx : a.eval x = .pointer (some ⟨b, 0, none⟩)) (hy : a.eval y = .agg cells) (hs : cells.size ≤ old.size) (hi : (P.info? ty).map (·.size) = some cells.size) (h1 : cells.all (·.oneCell') = true)
    (h : ∀ w', w.grownBy w' (some b) → Blk w' b (updAll cells.toList 0 old) T → wpList P ops Q rest (a.put op.dst undef) w') : wpList P ops Q (op :: rest) a w :=
  wpList_store_mid hgd ty x y ho b 0 cells hx hy (blk_there hb hs) hi h1 (h _ (grown_setCells _ _ _ _) (blk_setCells cells.toList 0 w old hb))
/-- All six cells of a session in memory. -/
structure Blk6 (w : World) (b : Nat) (v0 v1 v2 v3 v4 v5 : Value) : Prop where
  c0 : w.cell? ⟨b, 0, none⟩ = some v0
  c1 : w.cell? ⟨b, 1, none⟩ = some v1
  c2 : w.cell? ⟨b, 2, none⟩ = some v2
  c3 : w.cell? ⟨b, 3, none⟩ = some v3
  c4 : w.cell? ⟨b, 4, none⟩ = some v4
  c5 : w.cell? ⟨b, 5, none⟩ = some v5
  f0 : w.frozen? ⟨b, 0, none⟩ = false
  f1 : w.frozen? ⟨b, 1, none⟩ = false
  f2 : w.frozen? ⟨b, 2, none⟩ = false
  f3 : w.frozen? ⟨b, 3, none⟩ = false
  f4 : w.frozen? ⟨b, 4, none⟩ = false
  f5 : w.frozen? ⟨b, 5, none⟩ = false
theorem Blk.all6 {w : World} {b : Nat} {v0 v1 v2 v3 v4 v5 : Value} {T : TypeId} (h : Blk w b #[v0, v1, v2, v3, v4, v5] T) : Blk6 w b v0 v1 v2 v3 v4 v5 := ⟨h.cell 0, h.cell 1, h.cell 2, h.cell 3, h.cell 4, h.cell 5, h.free 0, h.free 1, h.free 2, h.free 3, h.free 4, h.free 5⟩
theorem size_ses : (Try.prog.info? 66).map (·.size) = some 6 := by kernel_rfl
theorem ret_ses {fn : Func} {p : Tmp} (h : fn.results = #[.cell p 66]) (tmps : Array Value) {w : World} {b : Nat} {v0 v1 v2 v3 v4 v5 : Value} {T : TypeId} (hp : tmps.getD p undef = .pointer (some ⟨b, 0, none⟩)) (hb : Blk w b #[v0, v1, v2, v3, v4, v5] T) :
    (results fn tmps).run Try.prog w = .ok (.agg #[v0, v1, v2, v3, v4, v5]) w :=
  results_cell_row h tmps w b T #[v0, v1, v2, v3, v4, v5] (0, 0) _ hp hb Try.underlying66 rfl size_ses
set_option maxHeartbeats 1000000 in
theorem szses (w : World) (need many : Int) (ag : Option Addr) (ng cg : Nat) (ac : Option Addr) (nc cc : Nat) (msg : Int) (a : Option Addr) (len cap : Nat) (left : Int) (h0 : 0 ≤ left) (h1 : left ≤ 2000000) (hn1 : ng ≤ maxLen) (hn2 : nc ≤ maxLen) (hn3 : len ≤ maxLen) :
    Calls Try.prog 54 #[.agg #[.int .i64 need, .int .i64 many, .slice ag ng cg, .slice ac nc cc, .int .i64 msg, .slice a len cap], .int .i64 left] w fun e w' => ∃ r : Int, e = .returned (.int .i64 r) ∧ w.grownBy w' none ∧ (r = -1 ∨ (0 ≤ r ∧ r ≤ left ∧ ng ≤ 2000000 ∧ nc ≤ 2000000 ∧ len ≤ 2000000)) := by
  have G := Lib.hid (Draw.grown_alloc w (.cells #[.int .i64 need, .int .i64 many, .slice ag ng cg, .slice ac nc cc, .int .i64 msg, .slice a len cap] 78) none)
  have K := Lib.hid (Ss.of_blk (Blk.new w #[.int .i64 need, .int .i64 many, .slice ag ng cg, .slice ac nc cc, .int .i64 msg, .slice a len cap] 78))
  go_enter Try.func54, Try.ntmps54
  obtain ⟨_, k0, k1, k2, k3, k4, k5⟩ := K.out
  go_wp2_with fail
  refine (szkey' _ need many ag ng cg ac nc cc left h0 h1 hn1 hn2).mono ?_
  rintro e w1 ⟨r, rfl, hg, hr⟩
  clear k0 k1 k2 k3 k4 k5
  replace G := Lib.hid (gtr G.out hg)
  replace K := Lib.hid (K.out.kept hg)
  clear hg
  obtain ⟨_, k0, k1, k2, k3, k4, k5⟩ := K.out
  rcases hr with rfl | ⟨r0, r1, q1, q2⟩
  · go_wp2
    go_ret
    exact ⟨_, rfl, G.out, .inl rfl⟩
  · have hneg : ¬ r < 0 := by omega
    go_wp2_with fail
    refine (szshn _ a len cap r r0 (by omega) hn3).mono ?_
    rintro e w' ⟨r2, rfl, rfl, hr2⟩
    rcases hr2 with rfl | ⟨s0, s1, q3⟩
    · go_wp2
      go_ret
      exact ⟨_, rfl, G.out, .inl rfl⟩
    · have hneg2 : ¬ r2 < 0 := by omega
      go_wp2
      go_ret
      exact ⟨_, rfl, G.out, .inr ⟨s0, by omega, q1, q2, q3⟩⟩
set_option maxHeartbeats 1000000 in
theorem eqses (w : World) (need many : Int) (a1 a2 a3 a4 : Option Addr) (ng c1 c3 : Nat) (zg : Nat → Int) (nc c2 c4 : Nat) (zc : Nat → Int) (msg : Int) (a5 a6 : Option Addr) (len c5 c6 : Nat) (S : Nat → SV) (h1 : Ints w a1 ng zg) (h2 : Ints w a2 nc zc) (h3 : Ints w a3 ng zg) (h4 : Ints w a4 nc zc) (h5 : ShIn w a5 len S) (h6 : ShIn w a6 len S) (hl1 : ng ≤ 2000000) (hl2 : nc ≤ 2000000) (hl : len ≤ 2000000) :
    Calls Try.prog 48 #[.agg #[.int .i64 need, .int .i64 many, .slice a1 ng c1, .slice a2 nc c2, .int .i64 msg, .slice a5 len c5], .agg #[.int .i64 need, .int .i64 many, .slice a3 ng c3, .slice a4 nc c4, .int .i64 msg, .slice a6 len c6]] w fun e w' => e = .returned (.bool true) ∧ w.grownBy w' none := by
  have G := Lib.hid (gtr (Draw.grown_alloc w (.cells #[.int .i64 need, .int .i64 many, .slice a1 ng c1, .slice a2 nc c2, .int .i64 msg, .slice a5 len c5] 66) none) (Draw.grown_alloc _ (.cells #[.int .i64 need, .int .i64 many, .slice a3 ng c3, .slice a4 nc c4, .int .i64 msg, .slice a6 len c6] 66) none))
  have K := Lib.hid ((Ss.of_blk (Blk.new w #[.int .i64 need, .int .i64 many, .slice a1 ng c1, .slice a2 nc c2, .int .i64 msg, .slice a5 len c5] 66)).kept (Draw.grown_alloc _ (.cells #[.int .i64 need, .int .i64 many, .slice a3 ng c3, .slice a4 nc c4, .int .i64 msg, .slice a6 len c6] 66) none))
  have J := Lib.hid (Ss.of_blk (blk_new2 w (.cells #[.int .i64 need, .int .i64 many, .slice a1 ng c1, .slice a2 nc c2, .int .i64 msg, .slice a5 len c5] 66) #[.int .i64 need, .int .i64 many, .slice a3 ng c3, .slice a4 nc c4, .int .i64 msg, .slice a6 len c6] 66))
  have H1 := Lib.hid (h1.kept G.out); have H2 := Lib.hid (h2.kept G.out); have H3 := Lib.hid (h3.kept G.out); have H4 := Lib.hid (h4.kept G.out); have H5 := Lib.hid (h5.kept G.out); have H6 := Lib.hid (h6.kept G.out)
  clear h1 h2 h3 h4 h5 h6
  have hne : (msg != msg) = false := by simp
  go_enter Try.func48, Try.ntmps48
  obtain ⟨_, k0, k1, k2, k3, k4, k5⟩ := K.out
  obtain ⟨_, j0, j1, j2, j3, j4, j5⟩ := J.out
  go_wp2_with fail
  refine (eqkey _ need many a1 a2 a3 a4 ng c1 c3 zg nc c2 c4 zc H1.out H2.out H3.out H4.out hl1 hl2).mono ?_
  rintro e w1 ⟨rfl, hg⟩
  clear k0 k1 k2 k3 k4 k5
  clear j0 j1 j2 j3 j4 j5
  replace G := Lib.hid (gtr G.out hg)
  replace K := Lib.hid (K.out.kept hg)
  replace J := Lib.hid (J.out.kept hg)
  replace H5 := Lib.hid (H5.out.kept hg)
  replace H6 := Lib.hid (H6.out.kept hg)
  clear hg
  obtain ⟨_, k0, k1, k2, k3, k4, k5⟩ := K.out
  obtain ⟨_, j0, j1, j2, j3, j4, j5⟩ := J.out
  go_wp2_with fail
  refine (eqshns _ a5 a6 len c5 c6 S H5.out H6.out hl).mono ?_
  rintro e w2 ⟨rfl, hg⟩
  clear k0 k1 k2 k3 k4 k5
  clear j0 j1 j2 j3 j4 j5
  replace G := Lib.hid (gtr G.out hg)
  replace K := Lib.hid (K.out.kept hg)
  replace J := Lib.hid (J.out.kept hg)
  replace H5 := Lib.hid (H5.out.kept hg)
  replace H6 := Lib.hid (H6.out.kept hg)
  clear hg
  obtain ⟨_, k0, k1, k2, k3, k4, k5⟩ := K.out
  obtain ⟨_, j0, j1, j2, j3, j4, j5⟩ := J.out
  go_wp2
  go_ret
  exact ⟨rfl, G.out⟩
/-- A session of the call's own. -/
def SesO (w : World) (need many : Int) (ng : Nat) (zg : Nat → Int) (nc : Nat) (zc : Nat → Int) (msg : Int) (len : Nat) (S : Nat → SV) (e : Ending) (w' : World) : Prop :=
  ∃ b1 b2 b3 : Nat, e = .returned (.agg #[.int .i64 need, .int .i64 many, .slice (some ⟨b1, 0, none⟩) ng ng, .slice (some ⟨b2, 0, none⟩) nc nc, .int .i64 msg, .slice (some ⟨b3, 0, none⟩) len len]) ∧ b1 < b2 ∧ b2 < b3 ∧ Row w' w.heap.size 3 b1 ng ng zg ∧ Row w' w.heap.size 3 b2 nc nc zc ∧ Row4 w' w.heap.size 105 b3 len (shT S) ∧ w.grownBy w' none
set_option maxRecDepth 100000 in
set_option maxHeartbeats 4000000 in
theorem toses (w : World) (need many : Int) (ag : Option Addr) (ng cg : Nat) (zg : Nat → Int) (ac : Option Addr) (nc cc : Nat) (zc : Nat → Int) (msg : Int) (a : Option Addr) (len cap : Nat) (S : Nat → SV) (hG : Ints w ag ng zg) (hC : Ints w ac nc zc) (hS : ShIn w a len S) (hl1 : ng ≤ 2000000) (hl2 : nc ≤ 2000000) (hl : len ≤ 2000000) :
    Calls Try.prog 56 #[.agg #[.int .i64 need, .int .i64 many, .slice ag ng cg, .slice ac nc cc, .int .i64 msg, .slice a len cap]] w (SesO w need many ng zg nc zc msg len S) := by
  have hs3 := size3 w (.cells #[.int .i64 need, .int .i64 many, .slice ag ng cg, .slice ac nc cc, .int .i64 msg, .slice a len cap] 78) (.cells #[.int .i64 0, .int .i64 0, .slice none 0 0, .slice none 0 0, .int .i64 0, .slice none 0 0] 66) (.cells #[.int .i64 0, .int .i64 0, .slice none 0 0, .slice none 0 0, .int .i64 0, .slice none 0 0] 66)
  have G := Lib.hid (gtr (gtr (Draw.grown_alloc w (.cells #[.int .i64 need, .int .i64 many, .slice ag ng cg, .slice ac nc cc, .int .i64 msg, .slice a len cap] 78) none) (Draw.grown_alloc _ (.cells #[.int .i64 0, .int .i64 0, .slice none 0 0, .slice none 0 0, .int .i64 0, .slice none 0 0] 66) none)) (Draw.grown_alloc _ (.cells #[.int .i64 0, .int .i64 0, .slice none 0 0, .slice none 0 0, .int .i64 0, .slice none 0 0] 66) none))
  have K := Lib.hid (((Ss.of_blk (Blk.new w #[.int .i64 need, .int .i64 many, .slice ag ng cg, .slice ac nc cc, .int .i64 msg, .slice a len cap] 78)).kept (Draw.grown_alloc _ (.cells #[.int .i64 0, .int .i64 0, .slice none 0 0, .slice none 0 0, .int .i64 0, .slice none 0 0] 66) none)).kept (Draw.grown_alloc _ (.cells #[.int .i64 0, .int .i64 0, .slice none 0 0, .slice none 0 0, .int .i64 0, .slice none 0 0] 66) none))
  have R := Lib.hid ((blk_new2 w (.cells #[.int .i64 need, .int .i64 many, .slice ag ng cg, .slice ac nc cc, .int .i64 msg, .slice a len cap] 78) #[.int .i64 0, .int .i64 0, .slice none 0 0, .slice none 0 0, .int .i64 0, .slice none 0 0] 66).keptN (Draw.grown_alloc _ (.cells #[.int .i64 0, .int .i64 0, .slice none 0 0, .slice none 0 0, .int .i64 0, .slice none 0 0] 66) none))
  have O := Lib.hid (blk_new3 w (.cells #[.int .i64 need, .int .i64 many, .slice ag ng cg, .slice ac nc cc, .int .i64 msg, .slice a len cap] 78) (.cells #[.int .i64 0, .int .i64 0, .slice none 0 0, .slice none 0 0, .int .i64 0, .slice none 0 0] 66) #[.int .i64 0, .int .i64 0, .slice none 0 0, .slice none 0 0, .int .i64 0, .slice none 0 0] 66)
  have HG := Lib.hid (hG.kept G.out); have HC := Lib.hid (hC.kept G.out); have HS := Lib.hid hS; have HZ3 := Lib.hid hs3
  clear hG hC hS hs3
  go_enter Try.func56, Try.ntmps56
  obtain ⟨_, k0, k1, k2, k3, k4, k5⟩ := K.out
  go_wp2_with fail
  refine (tokey _ need many _ _ _ zg _ _ _ zc HG.out HC.out hl1 hl2).mono ?_
  rintro e w1 ⟨b1, b2, rfl, hb12, hr1, hr2, hg⟩
  have hb1 := hr1.from_
  rw [HZ3.out] at hb1
  have R1 := Lib.hid (hr1.lower (lo' := w.heap.size) (by rw [HZ3.out]; omega)); have R2 := Lib.hid (hr2.lower (lo' := w.heap.size) (by rw [HZ3.out]; omega))
  clear hr1 hr2
  clear k0 k1 k2 k3 k4 k5
  replace G := Lib.hid (gtr G.out hg)
  replace K := Lib.hid (K.out.kept hg)
  replace R := Lib.hid (R.out.keptN hg)
  replace O := Lib.hid (O.out.keptN hg)
  clear hg
  obtain ⟨_, k0, k1, k2, k3, k4, k5⟩ := K.out
  go_wp2_with (refine stop_store rfl ?_)
  refine ⟨trivial, ?_⟩
  refine wpList_store_part rfl 63 (.tmp 7) (.tmp 6) _ #[.int .i64 need, .int .i64 many, .slice (some ⟨b1, 0, none⟩) ng ng, .slice (some ⟨b2, 0, none⟩) nc nc] _ 66 O.out rfl rfl rfl (by simp) (by kernel_rfl) (by simp [Value.oneCell']) ?_
  intro w2 hg hO
  clear k0 k1 k2 k3 k4 k5
  replace G := Lib.hid (grown_new G.out (by omega) hg)
  replace K := Lib.hid (K.out.keptB (hg.block _ K.out.lt (by intro e; have e := Option.some.inj e; omega)) hg.size)
  replace R := Lib.hid (R.out.kept hg (by intro e; have e := Option.some.inj e; omega))
  replace R1 := Lib.hid (R1.out.kept hg (by intro e; have e := Option.some.inj e; omega))
  replace R2 := Lib.hid (R2.out.kept hg (by intro e; have e := Option.some.inj e; omega))
  clear hg
  obtain ⟨_, k0, k1, k2, k3, k4, k5⟩ := K.out
  have O1 := Lib.hid (show Blk w2 (w.heap.size + 1 + 1) #[.int .i64 need, .int .i64 many, .slice (some ⟨b1, 0, none⟩) ng ng, .slice (some ⟨b2, 0, none⟩) nc nc, .int .i64 0, .slice none 0 0] 66 from hO)
  clear hO O
  obtain ⟨q0, q1, q2, q3, q4, q5, g0, g1, g2, g3, g4, g5⟩ := O1.out.all6
  have hO1 := O1.out.lt
  have hgS := grown_set w2 (w.heap.size + 1 + 1) 4 (.int .i64 msg)
  have HG4 := Lib.hid (grown_new G.out (by omega) hgS)
  have hsz4 : (w2.setCell ⟨w.heap.size + 1 + 1, 4, none⟩ (.int .i64 msg)).heap.size = w2.heap.size := World.size_setCell _ _ _
  have O2 := Lib.hid (O1.out.set 4 (.int .i64 msg))
  have R0 := Lib.hid (R.out.other (b' := w.heap.size + 1 + 1) (i := 4) (v := .int .i64 msg) (by omega))
  have Q1 := Lib.hid (R1.out.kept hgS (by intro e; have e := Option.some.inj e; omega)); have Q2 := Lib.hid (R2.out.kept hgS (by intro e; have e := Option.some.inj e; omega))
  have hb2 := R2.out.lt
  clear hgS
  go_wp2_with fail
  refine (toshns _ a len cap S (HS.out.kept HG4.out) hl).mono ?_
  rintro e w3 ⟨b3, rfl, hr3, hg⟩
  have hb3 := hr3.from_
  rw [hsz4] at hb3
  have hw3 := hr3.lt
  clear q0 q1 q2 q3 q4 q5 g0 g1 g2 g3 g4 g5 k0 k1 k2 k3 k4 k5
  have HG5 := gtr HG4.out hg
  have hO3 : Blk w3 (w.heap.size + 1 + 1) #[.int .i64 need, .int .i64 many, .slice (some ⟨b1, 0, none⟩) ng ng, .slice (some ⟨b2, 0, none⟩) nc nc, .int .i64 msg, .slice none 0 0] 66 := O2.out.keptN hg
  have hR3 := R0.out.keptN hg
  have hQ1 := Q1.out.keptN hg; have hQ2 := Q2.out.keptN hg
  have hgT := grown_set w3 (w.heap.size + 1 + 1) 5 (.slice (some ⟨b3, 0, none⟩) len len)
  have R6 := Lib.hid (hR3.other (b' := w.heap.size + 1 + 1) (i := 5) (v := .slice (some ⟨b3, 0, none⟩) len len) (by omega))
  have O6 := Lib.hid (hO3.set 5 (.slice (some ⟨b3, 0, none⟩) len len))
  have P1 := Lib.hid (hQ1.kept hgT (by intro e; have e := Option.some.inj e; omega)); have P2 := Lib.hid (hQ2.kept hgT (by intro e; have e := Option.some.inj e; omega))
  have P3 := Lib.hid ((hr3.lower (lo' := w.heap.size) (by rw [hsz4]; omega)).kept hgT (by intro e; have e := Option.some.inj e; omega))
  have HG6 := Lib.hid (grown_new HG5 (by omega) hgT)
  obtain ⟨q0, q1, q2, q3, q4, q5, g0, g1, g2, g3, g4, g5⟩ := hO3.all6
  have hl3 := hO3.lt
  clear hg hr3 hR3 hO3 hQ1 hQ2 HG5 hgT
  go_wp2_with (first
    | (refine wpList_store_blk rfl 66 (.tmp 2) (.tmp 15) _ _ _ 66 R6.out rfl rfl rfl rfl (by kernel_rfl) (by simp [Value.oneCell']) rfl ?_; intro V hgV hRV; have HGV := Lib.hid hgV; have HRV := Lib.hid hRV; clear hgV hRV))
  (try simp only [Exit.inBlock, Exit.then])
  refine bodyPost_ret (ret_ses rfl _ rfl HRV.out) rfl ?_
  exact ⟨b1, b2, b3, rfl, hb12, by omega, P1.out.kept HGV.out (by intro e; have e := Option.some.inj e; omega), P2.out.kept HGV.out (by intro e; have e := Option.some.inj e; omega), P3.out.kept HGV.out (by intro e; have e := Option.some.inj e; omega), grown_new HG6.out (by omega) HGV.out⟩
end Con
end Go.Proofs.Ythbigmcklacbnaa
