/-
  The words of the exact laws that take a key: its size, the key anew, whether two keys read alike.
-/
import Derived.Test.YtocecdnebkeeoaaDoorKb
import Derived.Test.YtocecdnebkeeoaaDoorEk
import Derived.Test.YtocecdnebkeeoaaDoorOpd
namespace Go.Proofs.YtocecdnebkeeoaaDoor
namespace Con
open Go.RowKit Alg Mem
set_option linter.unusedVariables false

theorem szkey_yes (w : World) (need many : Int) (a1 : Option Addr) (n1 c1 : Nat) (a2 : Option Addr) (n2 c2 : Nat) (left : Int) (h1 : left ≤ 2000000) (hl : (n1 : Int) + (n2 : Int) ≤ left) :
    Calls Tryd.prog 28 #[.agg #[.int .i64 need, .int .i64 many, .slice a1 n1 c1, .slice a2 n2 c2], .int .i64 left] w fun e w' => e = .returned (.int .i64 (left - (n1 : Int) - (n2 : Int))) ∧ w.grownBy w' none := by
  have hx : ¬ left < (n1 : Int) := by omega
  have hx' : ¬ left - (n1 : Int) < 0 := by omega
  have hy : ¬ left - (n1 : Int) < (n2 : Int) := by omega
  have hy' : ¬ left - (n1 : Int) - (n2 : Int) < 0 := by omega
  go_enter Tryd.func28, Tryd.ntmps28
  go_wp2_with fail
  refine (szint_yes _ a1 n1 c1 left (by omega) (by omega)).mono ?_
  rintro e w' ⟨rfl, rfl⟩
  go_wp2_with fail
  refine (szint_yes _ a2 n2 c2 (left - (n1 : Int)) (by omega) (by omega)).mono ?_
  rintro e w' ⟨rfl, rfl⟩
  go_wp2
  go_ret
  exact ⟨rfl, Draw.grown_alloc _ _ _⟩
theorem szkey_no (w : World) (need many : Int) (a1 : Option Addr) (n1 c1 : Nat) (a2 : Option Addr) (n2 c2 : Nat) (left : Int) (h0 : 0 ≤ left) (h1 : left ≤ 2000000) (hn1 : n1 ≤ maxLen) (hn2 : n2 ≤ maxLen) (hl : left < (n1 : Int) + (n2 : Int)) :
    Calls Tryd.prog 28 #[.agg #[.int .i64 need, .int .i64 many, .slice a1 n1 c1, .slice a2 n2 c2], .int .i64 left] w fun e w' => e = .returned (.int .i64 (-1)) ∧ w.grownBy w' none := by
  by_cases hx : left < (n1 : Int)
  · go_enter Tryd.func28, Tryd.ntmps28
    go_wp2_with fail
    refine (szint_no _ a1 n1 c1 left (by omega) (by omega) hn1 hx).mono ?_
    rintro e w' ⟨rfl, rfl⟩
    go_wp2
    go_ret
    exact ⟨rfl, Draw.grown_alloc _ _ _⟩
  · have hx' : ¬ left - (n1 : Int) < 0 := by omega
    have hy : left - (n1 : Int) < (n2 : Int) := by omega
    go_enter Tryd.func28, Tryd.ntmps28
    go_wp2_with fail
    refine (szint_yes _ a1 n1 c1 left (by omega) (by omega)).mono ?_
    rintro e w' ⟨rfl, rfl⟩
    go_wp2_with fail
    refine (szint_no _ a2 n2 c2 (left - (n1 : Int)) (by omega) (by omega) hn2 (by omega)).mono ?_
    rintro e w' ⟨rfl, rfl⟩
    go_wp2
    go_ret
    exact ⟨rfl, Draw.grown_alloc _ _ _⟩
/-- What all four cells of a key in memory hold, and that they may be written. -/
structure Blk4 (w : World) (b : Nat) (v0 v1 v2 v3 : Value) : Prop where
  c0 : w.cell? ⟨b, 0, none⟩ = some v0
  c1 : w.cell? ⟨b, 1, none⟩ = some v1
  c2 : w.cell? ⟨b, 2, none⟩ = some v2
  c3 : w.cell? ⟨b, 3, none⟩ = some v3
  f0 : w.frozen? ⟨b, 0, none⟩ = false
  f1 : w.frozen? ⟨b, 1, none⟩ = false
  f2 : w.frozen? ⟨b, 2, none⟩ = false
  f3 : w.frozen? ⟨b, 3, none⟩ = false
theorem Blk.all4 {w : World} {b : Nat} {v0 v1 v2 v3 : Value} {T : TypeId} (h : Blk w b #[v0, v1, v2, v3] T) : Blk4 w b v0 v1 v2 v3 := ⟨h.cell 0, h.cell 1, h.cell 2, h.cell 3, h.free 0, h.free 1, h.free 2, h.free 3⟩
theorem Blk.ky {w : World} {b : Nat} {need many : Int} {s1 s2 : Value} {T : TypeId} (h : Blk w b #[.int .i64 need, .int .i64 many, s1, s2] T) : Ky w b need many s1 s2 := ⟨h.lt, h.cell 0, h.cell 1, h.cell 2, h.cell 3⟩
theorem size_key : (Tryd.prog.info? 39).map (·.size) = some 4 := by kernel_rfl
theorem ret_key {fn : Func} {p : Tmp} (h : fn.results = #[.cell p 39]) (tmps : Array Value) {w : World} {b : Nat} {v0 v1 v2 v3 : Value} {T : TypeId} (hp : tmps.getD p undef = .pointer (some ⟨b, 0, none⟩)) (hb : Blk w b #[v0, v1, v2, v3] T) :
    (results fn tmps).run Tryd.prog w = .ok (.agg #[v0, v1, v2, v3]) w :=
  results_cell_row h tmps w b T #[v0, v1, v2, v3] (0, 0) _ hp hb Tryd.underlying39 rfl size_key
/-- A key of the call's own: two rows, one ahead of the other. -/
def KeyO (w : World) (need many : Int) (n1 : Nat) (z1 : Nat → Int) (n2 : Nat) (z2 : Nat → Int) (e : Ending) (w' : World) : Prop :=
  ∃ b1 b2 : Nat, e = .returned (.agg #[.int .i64 need, .int .i64 many, .slice (some ⟨b1, 0, none⟩) n1 n1, .slice (some ⟨b2, 0, none⟩) n2 n2]) ∧ b1 < b2 ∧ Row w' w.heap.size 3 b1 n1 n1 z1 ∧ Row w' w.heap.size 3 b2 n2 n2 z2 ∧ w.grownBy w' none
set_option maxHeartbeats 2000000 in
theorem tokey (w : World) (need many : Int) (a1 : Option Addr) (n1 c1 : Nat) (z1 : Nat → Int) (a2 : Option Addr) (n2 c2 : Nat) (z2 : Nat → Int) (hA : Ints w a1 n1 z1) (hB : Ints w a2 n2 z2) (hl1 : n1 ≤ 2000000) (hl2 : n2 ≤ 2000000) :
    Calls Tryd.prog 30 #[.agg #[.int .i64 need, .int .i64 many, .slice a1 n1 c1, .slice a2 n2 c2]] w (KeyO w need many n1 z1 n2 z2) := by
  have HD := Lib.hid (((Ky.new w need many (.slice a1 n1 c1) (.slice a2 n2 c2) 57).kept (Draw.grown_alloc _ (.cells #[.int .i64 0, .int .i64 0, .slice none 0 0, .slice none 0 0] 39) none)).kept (Draw.grown_alloc _ (.cells #[.int .i64 need, .int .i64 many, .slice none 0 0, .slice none 0 0] 39) none))
  have HR0 := Lib.hid ((blk_new2 w (.cells #[.int .i64 need, .int .i64 many, .slice a1 n1 c1, .slice a2 n2 c2] 57) #[.int .i64 0, .int .i64 0, .slice none 0 0, .slice none 0 0] 39).keptN (Draw.grown_alloc _ (.cells #[.int .i64 need, .int .i64 many, .slice none 0 0, .slice none 0 0] 39) none))
  have HO := Lib.hid (blk_new3 w (.cells #[.int .i64 need, .int .i64 many, .slice a1 n1 c1, .slice a2 n2 c2] 57) (.cells #[.int .i64 0, .int .i64 0, .slice none 0 0, .slice none 0 0] 39) #[.int .i64 need, .int .i64 many, .slice none 0 0, .slice none 0 0] 39)
  have hs3 := size3 w (.cells #[.int .i64 need, .int .i64 many, .slice a1 n1 c1, .slice a2 n2 c2] 57) (.cells #[.int .i64 0, .int .i64 0, .slice none 0 0, .slice none 0 0] 39) (.cells #[.int .i64 need, .int .i64 many, .slice none 0 0, .slice none 0 0] 39)
  have HG := Lib.hid (gtr (gtr (Draw.grown_alloc w (.cells #[.int .i64 need, .int .i64 many, .slice a1 n1 c1, .slice a2 n2 c2] 57) none) (Draw.grown_alloc _ (.cells #[.int .i64 0, .int .i64 0, .slice none 0 0, .slice none 0 0] 39) none)) (Draw.grown_alloc _ (.cells #[.int .i64 need, .int .i64 many, .slice none 0 0, .slice none 0 0] 39) none))
  have HA := Lib.hid (hA.kept HG.out); have HB := Lib.hid hB; clear hA hB
  have HS3 := Lib.hid hs3; clear hs3
  go_enter Tryd.func30, Tryd.ntmps30
  go_wp2_with fail
  refine (toInt _ _ _ _ z1 HA.out (by omega)).mono ?_
  rintro e w1 ⟨b1, rfl, hr, hg⟩
  have hge1 := hr.from_
  rw [HS3.out] at hge1
  have HD1 := Lib.hid (HD.out.kept hg); have HR1 := Lib.hid (HR0.out.keptN hg); have HO1 := Lib.hid (HO.out.keptN hg); have HG1 := Lib.hid (gtr HG.out hg)
  have HQ1 := Lib.hid (hr.lower (show w.heap.size ≤ _ by rw [HS3.out]; omega))
  clear hr hg HD HR0 HO HA HG
  obtain ⟨_, k0, k1, k2, k3⟩ := HD1.out
  have h0l : w.heap.size + 1 + 1 < w1.heap.size := HO1.out.lt
  obtain ⟨q0, q1, q2, q3, g0, g1, g2, g3⟩ := HO1.out.all4
  have HW2 := Lib.hid (grown_set w1 (w.heap.size + 1 + 1) 2 (.slice (some ⟨b1, 0, none⟩) n1 n1))
  have HO2 := Lib.hid (HO1.out.set 2 (.slice (some ⟨b1, 0, none⟩) n1 n1))
  have HG2 := Lib.hid (grown_new HG1.out (by omega) HW2.out)
  go_wp2_with fail
  refine (toInt _ _ _ _ z2 (HB.out.kept HG2.out) (by omega)).mono ?_
  rintro e w3 ⟨b2, rfl, hr, hg⟩
  have hge2 := hr.from_
  rw [World.size_setCell] at hge2
  have HW3 := Lib.hid hg; have HQ2 := Lib.hid (hr.lower (show w.heap.size ≤ _ by rw [World.size_setCell]; omega))
  have HO3 := Lib.hid (HO2.out.keptN hg); have HG3 := Lib.hid (gtr HG2.out hg)
  have HR3 := Lib.hid ((HR1.out.other (b' := w.heap.size + 1 + 1) (i := 2) (v := .slice (some ⟨b1, 0, none⟩) n1 n1) (by omega)).keptN hg)
  have HQ3 := Lib.hid ((HQ1.out.kept HW2.out (by intro e; have e := Option.some.inj e; omega)).keptN hg)
  have hb1 := HQ1.out.lt
  clear hr hg q0 q1 q2 q3 g0 g1 g2 g3 k0 k1 k2 k3 HO1 HR1 HQ1 HG1 HD1
  have h0l' : w.heap.size + 1 + 1 < w3.heap.size := HO3.out.lt
  obtain ⟨q0, q1, q2, q3, g0, g1, g2, g3⟩ := (show Blk w3 (w.heap.size + 1 + 1) #[.int .i64 need, .int .i64 many, .slice (some ⟨b1, 0, none⟩) n1 n1, .slice none 0 0] 39 from HO3.out).all4
  obtain ⟨r0, r1, r2, r3, j0, j1, j2, j3⟩ := HR3.out.all4
  have HO4 := Lib.hid (HO3.out.set 3 (.slice (some ⟨b2, 0, none⟩) n2 n2))
  have HR4 := Lib.hid (((((HR3.out.other (b' := w.heap.size + 1 + 1) (i := 3) (v := .slice (some ⟨b2, 0, none⟩) n2 n2) (by omega)).set 0 (.int .i64 need)).set 1 (.int .i64 many)).set 2 (.slice (some ⟨b1, 0, none⟩) n1 n1)).set 3 (.slice (some ⟨b2, 0, none⟩) n2 n2))
  have g4 := grown_set w3 (w.heap.size + 1 + 1) 3 (.slice (some ⟨b2, 0, none⟩) n2 n2)
  have g5 := grown_set (w3.setCell ⟨w.heap.size + 1 + 1, 3, none⟩ (.slice (some ⟨b2, 0, none⟩) n2 n2)) (w.heap.size + 1) 0 (.int .i64 need)
  have g6 := gtr' g5 (grown_set _ (w.heap.size + 1) 1 (.int .i64 many))
  have g6 := gtr' g6 (grown_set _ (w.heap.size + 1) 2 (.slice (some ⟨b1, 0, none⟩) n1 n1))
  have g7 := gtr' g6 (grown_set _ (w.heap.size + 1) 3 (.slice (some ⟨b2, 0, none⟩) n2 n2))
  have HE := Lib.hid (grown_new (grown_new HG3.out (by omega) g4) (by omega) g7)
  have HQ4 := Lib.hid ((HQ3.out.kept g4 (by intro e; have e := Option.some.inj e; omega)).kept g7 (by intro e; have e := Option.some.inj e; omega))
  have HQ5 := Lib.hid ((HQ2.out.kept g4 (by intro e; have e := Option.some.inj e; omega)).kept g7 (by intro e; have e := Option.some.inj e; omega))
  clear g4 g5 g6 g7
  go_wp2
  (try simp only [Exit.inBlock, Exit.then])
  refine bodyPost_ret (ret_key rfl _ rfl HR4.out) rfl ?_
  exact ⟨b1, b2, rfl, by omega, HQ4.out, HQ5.out, HE.out⟩
set_option maxHeartbeats 1000000 in
theorem eqkey (w : World) (need many : Int) (a1 a2 a3 a4 : Option Addr) (n1 c1 c3 : Nat) (z1 : Nat → Int) (n2 c2 c4 : Nat) (z2 : Nat → Int) (h1 : Ints w a1 n1 z1) (h2 : Ints w a2 n2 z2) (h3 : Ints w a3 n1 z1) (h4 : Ints w a4 n2 z2) (hl1 : n1 ≤ 2000000) (hl2 : n2 ≤ 2000000) :
    Calls Tryd.prog 32 #[.agg #[.int .i64 need, .int .i64 many, .slice a1 n1 c1, .slice a2 n2 c2], .agg #[.int .i64 need, .int .i64 many, .slice a3 n1 c3, .slice a4 n2 c4]] w fun e w' => e = .returned (.bool true) ∧ w.grownBy w' none := by
  have H0 := Lib.hid (gtr (Draw.grown_alloc w (.cells #[.int .i64 need, .int .i64 many, .slice a1 n1 c1, .slice a2 n2 c2] 39) none) (Draw.grown_alloc _ (.cells #[.int .i64 need, .int .i64 many, .slice a3 n1 c3, .slice a4 n2 c4] 39) none))
  have HD1 := Lib.hid ((Ky.new w need many (.slice a1 n1 c1) (.slice a2 n2 c2) 39).kept (Draw.grown_alloc _ (.cells #[.int .i64 need, .int .i64 many, .slice a3 n1 c3, .slice a4 n2 c4] 39) none))
  have HD2 := Lib.hid (blk_new2 w (.cells #[.int .i64 need, .int .i64 many, .slice a1 n1 c1, .slice a2 n2 c2] 39) #[.int .i64 need, .int .i64 many, .slice a3 n1 c3, .slice a4 n2 c4] 39)
  have H1 := Lib.hid (h1.kept H0.out); have H2 := Lib.hid (h2.kept H0.out); have H3 := Lib.hid (h3.kept H0.out); have H4 := Lib.hid (h4.kept H0.out)
  clear h1 h2 h3 h4
  have hne : (need != need) = false := by simp
  have hne' : (many != many) = false := by simp
  go_enter Tryd.func32, Tryd.ntmps32
  go_wp2_with fail
  refine (eqint _ _ _ n1 _ _ z1 H1.out H3.out (by omega)).mono ?_
  rintro e w1 ⟨rfl, hg⟩
  have HG1 := Lib.hid hg; clear hg
  obtain ⟨_, k0, k1, k2, k3⟩ := HD1.out.kept HG1.out
  obtain ⟨_, j0, j1, j2, j3⟩ := (HD2.out.keptN HG1.out).ky
  go_wp2_with fail
  refine (eqint _ _ _ n2 _ _ z2 (H2.out.kept HG1.out) (H4.out.kept HG1.out) (by omega)).mono ?_
  rintro e w2 ⟨rfl, hg⟩
  have HG2 := Lib.hid (gtr (gtr H0.out HG1.out) hg); clear hg
  go_wp2
  go_ret
  exact ⟨rfl, HG2.out⟩
end Con
namespace Op
open Go.ChangeShapes Go.WideShapes Go.ChangeAt Go.RowKit Go.Joins Mem
theorem c_key : Tryd.prog.cellsOf 57 = 4 := by kernel_rfl
set_option maxRecDepth 100000 in
theorem op_key {H : Type} {enc : TypeId × Value → H} {W : World} {base : Nat} {v : Value} {d : DataW H} {p : List MemPlace} (hv : Value.okWide Tryd.prog W .any base 57 v) (h : DataW.Trod enc Tryd.prog W 0 (fun _ => true) true 57 v d p) :
    ∃ (need many : Int) (a1 : Option Addr) (n1 c1 : Nat) (z1 : Nat → Int) (a2 : Option Addr) (n2 c2 : Nat) (z2 : Nat → Int), v = .agg #[.int .i64 need, .int .i64 many, .slice a1 n1 c1, .slice a2 n2 c2] ∧ Ints W a1 n1 z1 ∧ Ints W a2 n2 z2 ∧ n1 ≤ maxLen ∧ n2 ≤ maxLen := by
  obtain ⟨c0, c1, c2, c3, y0, y1, y2, y3, m, rfl, _, _, h0, h1, h2, h3⟩ := open_agg4 Tryd.underlying57 (by kernel_rfl) c_key hv h
  obtain ⟨f, rfl⟩ := op_int h0
  obtain ⟨g, rfl⟩ := op_int h1
  obtain ⟨a1, n1, k1, z1, rfl, i1, l1, m1⟩ := op_ints h2
  obtain ⟨a2, n2, k2, z2, rfl, i2, l2, m2⟩ := op_ints h3
  exact ⟨f, g, a1, n1, k1, z1, a2, n2, k2, z2, rfl, i1, i2, by omega, by omega⟩
end Op
end Go.Proofs.YtocecdnebkeeoaaDoor
