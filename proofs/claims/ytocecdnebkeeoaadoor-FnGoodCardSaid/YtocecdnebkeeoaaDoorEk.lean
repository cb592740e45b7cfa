/-
  The words of the exact laws that take a deal: its size, the deal anew, whether two deals read alike, and a deal marked.
-/
import Derived.Test.YtocecdnebkeeoaaDoorDm
import Derived.Test.YtocecdnebkeeoaaDoorPc
namespace Go.Proofs.YtocecdnebkeeoaaDoor
namespace Con
open Go.RowKit Alg Mem
set_option linter.unusedVariables false

theorem szint_yes (w : World) (a : Option Addr) (len cap : Nat) (left : Int) (h1 : left ≤ 2000000) (h : (len : Int) ≤ left) :
    Calls Tryd.prog 65 #[.slice a len cap, .int .i64 left] w fun e w' => e = .returned (.int .i64 (left - (len : Int))) ∧ w = w' := by
  have hlt : ¬ left - (len : Int) < 0 := by omega
  go_enter Tryd.func65, Tryd.ntmps65
  go_wp2
  go_ret
  exact ⟨rfl, rfl⟩
theorem szint_no (w : World) (a : Option Addr) (len cap : Nat) (left : Int) (h0 : 0 ≤ left) (h1 : left ≤ 2000000) (hl : len ≤ maxLen) (h : left < (len : Int)) :
    Calls Tryd.prog 65 #[.slice a len cap, .int .i64 left] w fun e w' => e = .returned (.int .i64 (-1)) ∧ w = w' := by
  unfold maxLen at hl
  have hlt : left - (len : Int) < 0 := by omega
  go_enter Tryd.func65, Tryd.ntmps65
  go_wp2
  go_ret
  exact ⟨rfl, rfl⟩
theorem szdeal_yes (w : World) (f : Int) (a1 : Option Addr) (n1 c1 : Nat) (a2 : Option Addr) (n2 c2 : Nat) (left : Int) (h1 : left ≤ 2000000) (hl : (n1 : Int) + (n2 : Int) ≤ left) :
    Calls Tryd.prog 22 #[.agg #[.int .i64 f, .slice a1 n1 c1, .slice a2 n2 c2], .int .i64 left] w fun e w' => e = .returned (.int .i64 (left - (n1 : Int) - (n2 : Int))) ∧ w.grownBy w' none := by
  have hx : ¬ left < (n1 : Int) := by omega
  have hx' : ¬ left - (n1 : Int) < 0 := by omega
  have hy : ¬ left - (n1 : Int) < (n2 : Int) := by omega
  have hy' : ¬ left - (n1 : Int) - (n2 : Int) < 0 := by omega
  go_enter Tryd.func22, Tryd.ntmps22
  go_wp2_with fail
  refine (szint_yes _ a1 n1 c1 left (by omega) (by omega)).mono ?_
  rintro e w' ⟨rfl, rfl⟩
  go_wp2_with fail
  refine (szint_yes _ a2 n2 c2 (left - (n1 : Int)) (by omega) (by omega)).mono ?_
  rintro e w' ⟨rfl, rfl⟩
  go_wp2
  go_ret
  exact ⟨rfl, Draw.grown_alloc _ _ _⟩
theorem szdeal_no (w : World) (f : Int) (a1 : Option Addr) (n1 c1 : Nat) (a2 : Option Addr) (n2 c2 : Nat) (left : Int) (h0 : 0 ≤ left) (h1 : left ≤ 2000000) (hn1 : n1 ≤ maxLen) (hn2 : n2 ≤ maxLen) (hl : left < (n1 : Int) + (n2 : Int)) :
    Calls Tryd.prog 22 #[.agg #[.int .i64 f, .slice a1 n1 c1, .slice a2 n2 c2], .int .i64 left] w fun e w' => e = .returned (.int .i64 (-1)) ∧ w.grownBy w' none := by
  by_cases hx : left < (n1 : Int)
  · go_enter Tryd.func22, Tryd.ntmps22
    go_wp2_with fail
    refine (szint_no _ a1 n1 c1 left (by omega) (by omega) hn1 hx).mono ?_
    rintro e w' ⟨rfl, rfl⟩
    go_wp2
    go_ret
    exact ⟨rfl, Draw.grown_alloc _ _ _⟩
  · have hx' : ¬ left - (n1 : Int) < 0 := by omega
    have hy : left - (n1 : Int) < (n2 : Int) := by omega
    go_enter Tryd.func22, Tryd.ntmps22
    go_wp2_with fail
    refine (szint_yes _ a1 n1 c1 left (by omega) (by omega)).mono ?_
    rintro e w' ⟨rfl, rfl⟩
    go_wp2_with fail
    refine (szint_no _ a2 n2 c2 (left - (n1 : Int)) (by omega) (by omega) hn2 (by omega)).mono ?_
    rintro e w' ⟨rfl, rfl⟩
    go_wp2
    go_ret
    exact ⟨rfl, Draw.grown_alloc _ _ _⟩
/-- A deal of the call's own: two rows, one ahead of the other. -/
def DealO (w : World) (f : Int) (n1 : Nat) (z1 : Nat → Int) (n2 : Nat) (z2 : Nat → Int) (e : Ending) (w' : World) : Prop :=
  ∃ b1 b2 : Nat, e = .returned (.agg #[.int .i64 f, .slice (some ⟨b1, 0, none⟩) n1 n1, .slice (some ⟨b2, 0, none⟩) n2 n2]) ∧ b1 < b2 ∧ Row w' w.heap.size 3 b1 n1 n1 z1 ∧ Row w' w.heap.size 3 b2 n2 n2 z2 ∧ w.grownBy w' none
theorem blk_new2 (w : World) (o1 : Obj) (vs : Array Value) (T : TypeId) : Blk ((w.alloc o1).alloc (.cells vs T)) (w.heap.size + 1) vs T := by
  have h := Blk.new (w.alloc o1) vs T
  rw [show (w.alloc o1).heap.size = w.heap.size + 1 by show (w.heap.push _).size = _; simp] at h
  exact h
theorem blk_new3 (w : World) (o1 o2 : Obj) (vs : Array Value) (T : TypeId) : Blk (((w.alloc o1).alloc o2).alloc (.cells vs T)) (w.heap.size + 1 + 1) vs T := by
  have h := Blk.new ((w.alloc o1).alloc o2) vs T
  rw [show ((w.alloc o1).alloc o2).heap.size = w.heap.size + 1 + 1 by show ((w.heap.push _).push _).size = _; simp] at h
  exact h
theorem size3 (w : World) (o1 o2 o3 : Obj) : (((w.alloc o1).alloc o2).alloc o3).heap.size = w.heap.size + 1 + 1 + 1 := by show (((w.heap.push _).push _).push _).size = _; simp
set_option maxHeartbeats 2000000 in
theorem todeal (w : World) (f : Int) (a1 : Option Addr) (n1 c1 : Nat) (z1 : Nat → Int) (a2 : Option Addr) (n2 c2 : Nat) (z2 : Nat → Int) (hA : Ints w a1 n1 z1) (hB : Ints w a2 n2 z2) (hl1 : n1 ≤ 2000000) (hl2 : n2 ≤ 2000000) :
    Calls Tryd.prog 24 #[.agg #[.int .i64 f, .slice a1 n1 c1, .slice a2 n2 c2]] w (DealO w f n1 z1 n2 z2) := by
  have HD := Lib.hid (((Dl.new w f (.slice a1 n1 c1) (.slice a2 n2 c2) 48).kept (Draw.grown_alloc _ (.cells #[.int .i64 0, .slice none 0 0, .slice none 0 0] 25) none)).kept (Draw.grown_alloc _ (.cells #[.int .i64 f, .slice none 0 0, .slice none 0 0] 25) none))
  have HR0 := Lib.hid ((blk_new2 w (.cells #[.int .i64 f, .slice a1 n1 c1, .slice a2 n2 c2] 48) #[.int .i64 0, .slice none 0 0, .slice none 0 0] 25).keptN (Draw.grown_alloc _ (.cells #[.int .i64 f, .slice none 0 0, .slice none 0 0] 25) none))
  have HO := Lib.hid (blk_new3 w (.cells #[.int .i64 f, .slice a1 n1 c1, .slice a2 n2 c2] 48) (.cells #[.int .i64 0, .slice none 0 0, .slice none 0 0] 25) #[.int .i64 f, .slice none 0 0, .slice none 0 0] 25)
  have hs3 := size3 w (.cells #[.int .i64 f, .slice a1 n1 c1, .slice a2 n2 c2] 48) (.cells #[.int .i64 0, .slice none 0 0, .slice none 0 0] 25) (.cells #[.int .i64 f, .slice none 0 0, .slice none 0 0] 25)
  have HG := Lib.hid (gtr (gtr (Draw.grown_alloc w (.cells #[.int .i64 f, .slice a1 n1 c1, .slice a2 n2 c2] 48) none) (Draw.grown_alloc _ (.cells #[.int .i64 0, .slice none 0 0, .slice none 0 0] 25) none)) (Draw.grown_alloc _ (.cells #[.int .i64 f, .slice none 0 0, .slice none 0 0] 25) none))
  have HA := Lib.hid (hA.kept HG.out); have HB := Lib.hid hB; clear hA hB
  have HS3 := Lib.hid hs3; clear hs3
  go_enter Tryd.func24, Tryd.ntmps24
  go_wp2_with fail
  refine (toInt _ _ _ _ z1 HA.out (by omega)).mono ?_
  rintro e w1 ⟨b1, rfl, hr, hg⟩
  have hge1 := hr.from_
  rw [HS3.out] at hge1
  have HD1 := Lib.hid (HD.out.kept hg); have HR1 := Lib.hid (HR0.out.keptN hg); have HO1 := Lib.hid (HO.out.keptN hg); have HG1 := Lib.hid (gtr HG.out hg)
  have HQ1 := Lib.hid (hr.lower (show w.heap.size ≤ _ by rw [HS3.out]; omega))
  clear hr hg HD HR0 HO HA HG
  obtain ⟨_, k0, k1, k2⟩ := HD1.out
  have h0l : w.heap.size + 1 + 1 < w1.heap.size := HO1.out.lt
  obtain ⟨q0, q1, q2, g0, g1, g2⟩ := HO1.out.all
  have HW2 := Lib.hid (grown_set w1 (w.heap.size + 1 + 1) 1 (.slice (some ⟨b1, 0, none⟩) n1 n1))
  have HO2 := Lib.hid (HO1.out.set 1 (.slice (some ⟨b1, 0, none⟩) n1 n1))
  have HG2 := Lib.hid (grown_new HG1.out (by omega) HW2.out)
  go_wp2_with fail
  refine (toInt _ _ _ _ z2 (HB.out.kept HG2.out) (by omega)).mono ?_
  rintro e w3 ⟨b2, rfl, hr, hg⟩
  have hge2 := hr.from_
  rw [World.size_setCell] at hge2
  have HW3 := Lib.hid hg; have HQ2 := Lib.hid (hr.lower (show w.heap.size ≤ _ by rw [World.size_setCell]; omega))
  have HO3 := Lib.hid (HO2.out.keptN hg); have HG3 := Lib.hid (gtr HG2.out hg)
  have HR3 := Lib.hid ((HR1.out.other (b' := w.heap.size + 1 + 1) (i := 1) (v := .slice (some ⟨b1, 0, none⟩) n1 n1) (by omega)).keptN hg)
  have HQ3 := Lib.hid ((HQ1.out.kept HW2.out (by intro e; have e := Option.some.inj e; omega)).keptN hg)
  have hb1 := HQ1.out.lt
  clear hr hg q0 q1 q2 g0 g1 g2 k0 k1 k2 HO1 HR1 HQ1 HG1 HD1
  have h0l' : w.heap.size + 1 + 1 < w3.heap.size := HO3.out.lt
  obtain ⟨q0, q1, q2, g0, g1, g2⟩ := (show Blk w3 (w.heap.size + 1 + 1) #[.int .i64 f, .slice (some ⟨b1, 0, none⟩) n1 n1, .slice none 0 0] 25 from HO3.out).all
  obtain ⟨r0, r1, r2, j0, j1, j2⟩ := HR3.out.all
  have HO4 := Lib.hid (HO3.out.set 2 (.slice (some ⟨b2, 0, none⟩) n2 n2))
  have HR4 := Lib.hid ((((HR3.out.other (b' := w.heap.size + 1 + 1) (i := 2) (v := .slice (some ⟨b2, 0, none⟩) n2 n2) (by omega)).set 0 (.int .i64 f)).set 1 (.slice (some ⟨b1, 0, none⟩) n1 n1)).set 2 (.slice (some ⟨b2, 0, none⟩) n2 n2))
  have g4 := grown_set w3 (w.heap.size + 1 + 1) 2 (.slice (some ⟨b2, 0, none⟩) n2 n2)
  have g5 := grown_set (w3.setCell ⟨w.heap.size + 1 + 1, 2, none⟩ (.slice (some ⟨b2, 0, none⟩) n2 n2)) (w.heap.size + 1) 0 (.int .i64 f)
  have g6 := gtr' g5 (grown_set _ (w.heap.size + 1) 1 (.slice (some ⟨b1, 0, none⟩) n1 n1))
  have g7 := gtr' g6 (grown_set _ (w.heap.size + 1) 2 (.slice (some ⟨b2, 0, none⟩) n2 n2))
  have HE := Lib.hid (grown_new (grown_new HG3.out (by omega) g4) (by omega) g7)
  have HQ4 := Lib.hid ((HQ3.out.kept g4 (by intro e; have e := Option.some.inj e; omega)).kept g7 (by intro e; have e := Option.some.inj e; omega))
  have HQ5 := Lib.hid ((HQ2.out.kept g4 (by intro e; have e := Option.some.inj e; omega)).kept g7 (by intro e; have e := Option.some.inj e; omega))
  clear g4 g5 g6 g7
  go_wp2
  (try simp only [Exit.inBlock, Exit.then])
  refine bodyPost_ret (ret_deal rfl _ rfl HR4.out) rfl ?_
  exact ⟨b1, b2, rfl, by omega, HQ4.out, HQ5.out, HE.out⟩
set_option maxHeartbeats 1000000 in
theorem eqdeal (w : World) (f : Int) (a1 a2 a3 a4 : Option Addr) (n1 c1 c3 : Nat) (z1 : Nat → Int) (n2 c2 c4 : Nat) (z2 : Nat → Int) (h1 : Ints w a1 n1 z1) (h2 : Ints w a2 n2 z2) (h3 : Ints w a3 n1 z1) (h4 : Ints w a4 n2 z2) (hl1 : n1 ≤ 2000000) (hl2 : n2 ≤ 2000000) :
    Calls Tryd.prog 26 #[.agg #[.int .i64 f, .slice a1 n1 c1, .slice a2 n2 c2], .agg #[.int .i64 f, .slice a3 n1 c3, .slice a4 n2 c4]] w fun e w' => e = .returned (.bool true) ∧ w.grownBy w' none := by
  have H0 := Lib.hid (gtr (Draw.grown_alloc w (.cells #[.int .i64 f, .slice a1 n1 c1, .slice a2 n2 c2] 25) none) (Draw.grown_alloc _ (.cells #[.int .i64 f, .slice a3 n1 c3, .slice a4 n2 c4] 25) none))
  have HD1 := Lib.hid ((Dl.new w f (.slice a1 n1 c1) (.slice a2 n2 c2) 25).kept (Draw.grown_alloc _ (.cells #[.int .i64 f, .slice a3 n1 c3, .slice a4 n2 c4] 25) none))
  have HD2 := Lib.hid (blk_new2 w (.cells #[.int .i64 f, .slice a1 n1 c1, .slice a2 n2 c2] 25) #[.int .i64 f, .slice a3 n1 c3, .slice a4 n2 c4] 25)
  have H1 := Lib.hid (h1.kept H0.out); have H2 := Lib.hid (h2.kept H0.out); have H3 := Lib.hid (h3.kept H0.out); have H4 := Lib.hid (h4.kept H0.out)
  clear h1 h2 h3 h4
  have hne : (f != f) = false := by simp
  go_enter Tryd.func26, Tryd.ntmps26
  go_wp2_with fail
  refine (eqint _ _ _ n1 _ _ z1 H1.out H3.out (by omega)).mono ?_
  rintro e w1 ⟨rfl, hg⟩
  have HG1 := Lib.hid hg; clear hg
  obtain ⟨_, k0, k1, k2⟩ := HD1.out.kept HG1.out
  obtain ⟨_, j0, j1, j2⟩ := (HD2.out.keptN HG1.out).dl
  go_wp2_with fail
  refine (eqint _ _ _ n2 _ _ z2 (H2.out.kept HG1.out) (H4.out.kept HG1.out) (by omega)).mono ?_
  rintro e w2 ⟨rfl, hg⟩
  have HG2 := Lib.hid (gtr (gtr H0.out HG1.out) hg); clear hg
  go_wp2
  go_ret
  exact ⟨rfl, HG2.out⟩
end Con
end Go.Proofs.YtocecdnebkeeoaaDoor
