/-
  Courts in the words of the exact laws: sz, to, eq, mark, held; one that came in as an argument.
-/
import Derived.Test.YtbfmigmhmjgdgaaZh
import Derived.Lib.SmallJoins
import Derived.Deep.Strs
namespace Go.Proofs.Ytbfmigmhmjgdgaa
namespace Op
open Go.ChangeShapes Go.WideShapes Go.ChangeAt Go.RowKit Go.Joins Mem Con Ct Go.Deep
set_option linter.unusedVariables false

theorem c_crt : Try.prog.cellsOf 43 = 6 := by kernel_rfl
theorem c_clm : Try.prog.cellsOf 41 = 3 := by kernel_rfl
theorem c_intC : Try.prog.cellsOf 3 = 1 := by kernel_rfl
theorem c_boolC : Try.prog.cellsOf 4 = 1 := by kernel_rfl
theorem c_intsC : Try.prog.cellsOf 23 = 1 := by kernel_rfl
theorem array6C {α : Type} {cs : Array α} (h : cs.size = 6) : ∃ c0 c1 c2 c3 c4 c5, cs = #[c0, c1, c2, c3, c4, c5] := by
  obtain ⟨l⟩ := cs
  match l, h with
  | [c0, c1, c2, c3, c4, c5], _ => exact ⟨c0, c1, c2, c3, c4, c5, rfl⟩
set_option maxRecDepth 100000 in
theorem op_court {H : Type} {enc : TypeId × Value → H} {W : World} {base : Nat} {v : Value} {d : DataW H} {p : List MemPlace} (hv : Value.okWide Try.prog W .any base 43 v) (h : DataW.Trod enc Try.prog W 0 (fun _ => true) true 43 v d p) :
    ∃ (many need : Int) (on : Bool) (at_ : Int) (a : Option Addr) (n c : Nat) (f : Nat → Int) (veto : Bool), v = .agg #[.int .i64 many, .int .i64 need, .bool on, .int .i64 at_, .slice a n c, .bool veto] ∧ Ints W a n f ∧ n ≤ c ∧ c ≤ maxLen := by
  obtain ⟨cs, rfl, hsz⟩ := okWide_struct Try.underlying43 hv
  obtain ⟨c0, c1, c2, c3, c4, c5, rfl⟩ := array6C (hsz.trans c_crt)
  obtain ⟨fuel, hf⟩ := h
  obtain ⟨y0, y1, y2, y3, n, _, _, h0, h1, h2, h3⟩ := trod_struct4 Try.underlying43 hf
  have h0' : DataW.trod enc Try.prog W 0 (fun _ => true) true n 3 [c0] = some y0 := by simpa [Value.cells, c_intC] using h0
  have h1' : DataW.trod enc Try.prog W 0 (fun _ => true) true n 3 [c1] = some y1 := by simpa [Value.cells, c_intC] using h1
  have h2' : DataW.trod enc Try.prog W 0 (fun _ => true) true n 4 [c2] = some y2 := by simpa [Value.cells, c_boolC] using h2
  have h3' : DataW.trod enc Try.prog W 0 (fun _ => true) true n 41 [c3, c4, c5] = some y3 := by simpa [Value.cells, c_clm] using h3
  obtain ⟨x0, x1, x2, m, _, _, k0, k1, k2⟩ := trod_struct3 Try.underlying41 h3'
  have k0' : DataW.trod enc Try.prog W 0 (fun _ => true) true m 3 [c3] = some x0 := by simpa [c_intC] using k0
  have k1' : DataW.trod enc Try.prog W 0 (fun _ => true) true m 23 [c4] = some x1 := by simpa [c_intsC] using k1
  have k2' : DataW.trod enc Try.prog W 0 (fun _ => true) true m 4 [c5] = some x2 := by simpa [c_boolC] using k2
  obtain ⟨many, rfl⟩ := op_int h0'
  obtain ⟨need, rfl⟩ := op_int h1'
  obtain ⟨on, e2, _⟩ := DataW.trod_bool Try.underlying4 h2'
  simp at e2; subst e2
  obtain ⟨at_, rfl⟩ := op_int k0'
  obtain ⟨a, l, c, f, rfl, i1, l1, m1⟩ := op_ints k1'
  obtain ⟨veto, e5, _⟩ := DataW.trod_bool Try.underlying4 k2'
  simp at e5; subst e5
  exact ⟨many, need, on, at_, a, l, c, f, veto, rfl, i1, l1, m1⟩
end Op
namespace Ct
open Go.RowKit Alg Mem Con Draw

def Szd (left : Int) (n : Nat) (e : Ending) : Prop := ∃ r : Int, e = .returned (.int .i64 r) ∧ (r = -1 ∨ (0 ≤ r ∧ r ≤ left ∧ n ≤ 1100000))
theorem szintC (w : World) (a : Option Addr) (len cap : Nat) (left : Int) (h0 : 0 ≤ left) (h1 : left ≤ 1100000) (hl : len ≤ maxLen) :
    Calls Try.prog 64 #[.slice a len cap, .int .i64 left] w fun e w' => Szd left len e ∧ w = w' := by
  by_cases h : (len : Int) ≤ left
  · refine (szint_yes w a len cap left (by omega) h).mono ?_
    rintro e w' ⟨rfl, rfl⟩
    exact ⟨⟨_, rfl, .inr ⟨by omega, by omega, by omega⟩⟩, rfl⟩
  · refine (szint_no w a len cap left h0 (by omega) hl (by omega)).mono ?_
    rintro e w' ⟨rfl, rfl⟩
    exact ⟨⟨_, rfl, .inl rfl⟩, rfl⟩
theorem szclm (w : World) (at_ : Int) (a : Option Addr) (n c : Nat) (veto : Bool) (left : Int) (h0 : 0 ≤ left) (h1 : left ≤ 1100000) (hl : n ≤ maxLen) :
    Calls Try.prog 54 #[.agg #[.int .i64 at_, .slice a n c, .bool veto], .int .i64 left] w fun e w' => Szd left n e ∧ w.grownBy w' none := by
  have G := Lib.hid (grown_alloc w (.cells #[.int .i64 at_, .slice a n c, .bool veto] 41) none)
  have K := Lib.hid (Blk.new w #[.int .i64 at_, .slice a n c, .bool veto] 41)
  have k1 := K.out.cell 1
  go_enter Try.func54, Try.ntmps54
  go_wp2_with fail
  refine (szintC _ a n c left h0 h1 hl).mono ?_
  rintro e w' ⟨⟨r, rfl, hr⟩, rfl⟩
  rcases hr with rfl | ⟨r0, r1, r2⟩
  · go_wp2
    go_ret
    exact ⟨⟨_, rfl, .inl rfl⟩, G.out⟩
  · have hn : ¬ r < 0 := by omega
    go_wp2
    go_ret
    exact ⟨⟨_, rfl, .inr ⟨r0, r1, r2⟩⟩, G.out⟩
theorem szcrt (w : World) (many need : Int) (on : Bool) (at_ : Int) (a : Option Addr) (n c : Nat) (veto : Bool) (left : Int) (h0 : 0 ≤ left) (h1 : left ≤ 1100000) (hl : n ≤ maxLen) :
    Calls Try.prog 35 #[.agg #[.int .i64 many, .int .i64 need, .bool on, .int .i64 at_, .slice a n c, .bool veto], .int .i64 left] w fun e w' => Szd left n e ∧ w.grownBy w' none := by
  have G := Lib.hid (grown_alloc w (.cells #[.int .i64 many, .int .i64 need, .bool on, .int .i64 at_, .slice a n c, .bool veto] 43) none)
  have K := Lib.hid (Blk.new w #[.int .i64 many, .int .i64 need, .bool on, .int .i64 at_, .slice a n c, .bool veto] 43)
  have k3 := K.out.cell 3; have k4 := K.out.cell 4; have k5 := K.out.cell 5
  go_enter Try.func35, Try.ntmps35
  go_wp2_with fail
  refine (szclm _ at_ a n c veto left h0 h1 hl).mono ?_
  rintro e w1 ⟨⟨r, rfl, hr⟩, hg⟩
  replace G := Lib.hid (gtr G.out hg)
  clear hg k3 k4 k5
  rcases hr with rfl | ⟨r0, r1, r2⟩
  · go_wp2
    go_ret
    exact ⟨⟨_, rfl, .inl rfl⟩, G.out⟩
  · have hn : ¬ r < 0 := by omega
    go_wp2
    go_ret
    exact ⟨⟨_, rfl, .inr ⟨r0, r1, r2⟩⟩, G.out⟩
theorem size_claimL : (Try.prog.info? 25).map (·.size) = some 3 := by kernel_rfl
theorem ret_claim {fn : Func} {p : Tmp} (h : fn.results = #[.cell p 25]) (tmps : Array Value) {w : World} {b : Nat} {v0 v1 v2 : Value} {T : TypeId} (hp : tmps.getD p undef = .pointer (some ⟨b, 0, none⟩)) (hb : Blk w b #[v0, v1, v2] T) :
    (results fn tmps).run Try.prog w = .ok (.agg #[v0, v1, v2]) w :=
  results_cell_row h tmps w b T #[v0, v1, v2] (0, 0) _ hp hb Try.underlying25 rfl size_claimL
/-- A copy: a slice of its own. -/
def ToS (w : World) (lo : Nat) (n : Nat) (f : Nat → Int) (b : Nat) (w' : World) : Prop := OEQ w' lo (some ⟨b, 0, none⟩) n n f ∧ w.grownBy w' none
theorem row_oeq {w : World} {lo b n c : Nat} {z : Nat → Int} (h : Row w lo 3 b n c z) : OEQ w lo (some ⟨b, 0, none⟩) n c z := h.owns
set_option maxRecDepth 100000 in
set_option maxHeartbeats 4000000 in
theorem toclm (w : World) (at_ : Int) (a : Option Addr) (n c : Nat) (f : Nat → Int) (veto : Bool) (hI : Ints w a n f) (hl : n ≤ 2000000) :
    Calls Try.prog 55 #[.agg #[.int .i64 at_, .slice a n c, .bool veto]] w fun e w' => ∃ b, e = .returned (.agg #[.int .i64 at_, .slice (some ⟨b, 0, none⟩) n n, .bool veto]) ∧ ToS w w.heap.size n f b w' := by
  have hs0 : (((w.alloc (.cells #[.int .i64 at_, .slice a n c, .bool veto] 41)).alloc (.cells #[.int .i64 0, .slice none 0 0, .bool false] 25)).alloc (.cells #[.int .i64 0, .slice none 0 0, .bool false] 25)).heap.size = w.heap.size + 1 + 1 + 1 := by show (((w.heap.push _).push _).push _).size = _; simp
  have HS := Lib.hid hs0; clear hs0
  have G := Lib.hid (gtr (gtr (grown_alloc w (.cells #[.int .i64 at_, .slice a n c, .bool veto] 41) none) (grown_alloc _ (.cells #[.int .i64 0, .slice none 0 0, .bool false] 25) none)) (grown_alloc _ (.cells #[.int .i64 0, .slice none 0 0, .bool false] 25) none))
  have K := Lib.hid (((Blk.new w #[.int .i64 at_, .slice a n c, .bool veto] 41).keptN (grown_alloc _ (.cells #[.int .i64 0, .slice none 0 0, .bool false] 25) none)).keptN (grown_alloc _ (.cells #[.int .i64 0, .slice none 0 0, .bool false] 25) none))
  have R := Lib.hid ((blk_new2 w (.cells #[.int .i64 at_, .slice a n c, .bool veto] 41) #[.int .i64 0, .slice none 0 0, .bool false] 25).keptN (grown_alloc _ (.cells #[.int .i64 0, .slice none 0 0, .bool false] 25) none))
  have J := Lib.hid (Draw.blk_new3 w (.cells #[.int .i64 at_, .slice a n c, .bool veto] 41) (.cells #[.int .i64 0, .slice none 0 0, .bool false] 25) #[.int .i64 0, .slice none 0 0, .bool false] 25)
  have HI := Lib.hid hI; clear hI
  go_enter Try.func55, Try.ntmps55
  obtain ⟨k0, k1, k2, f0, f1, f2⟩ := K.out.all
  go_wp2_with (refine stop_store rfl ?_)
  refine ⟨trivial, ?_⟩
  refine wpList_store_atQ rfl 3 (.tmp 6) (.tmp 5) _ 0 _ _ _ #[.int .i64 at_, .slice none 0 0, .bool false] 25 J.out rfl rfl rfl rfl (Nat.le_of_ble_eq_true rfl) (by kernel_rfl) (by kernel_rfl) (by kernel_rfl) ?_
  intro w1 hg hT
  clear k0 k1 k2 f0 f1 f2
  replace K := Lib.hid (K.out.kept hg (by intro e; have e := Option.some.inj e; omega)); replace R := Lib.hid (R.out.kept hg (by intro e; have e := Option.some.inj e; omega)); replace G := Lib.hid (grown_new G.out (by omega) hg)
  replace J := Lib.hid hT
  clear hg hT
  obtain ⟨k0, k1, k2, f0, f1, f2⟩ := K.out.all
  go_wp2_with fail
  refine (toInt _ a n c f (HI.out.kept G.out) hl).mono ?_
  rintro e w2 ⟨b1, rfl, hr, hg⟩
  clear k0 k1 k2 f0 f1 f2
  have OW := Lib.hid ((row_oeq hr).lower (lo' := w.heap.size) G.out.size)
  replace K := Lib.hid (K.out.keptN hg); replace R := Lib.hid (R.out.keptN hg); replace J := Lib.hid (J.out.keptN hg); replace G := Lib.hid (gtr G.out hg)
  clear hg hr
  obtain ⟨k0, k1, k2, f0, f1, f2⟩ := K.out.all
  go_wp2_with (refine stop_store rfl ?_)
  refine ⟨trivial, ?_⟩
  refine wpList_store_atQ rfl 23 (.tmp 10) (.tmp 9) _ 1 _ _ _ #[.int .i64 at_, .slice (some ⟨b1, 0, none⟩) n n, .bool false] 25 J.out rfl rfl rfl rfl (Nat.le_of_ble_eq_true rfl) (by kernel_rfl) (by kernel_rfl) (by kernel_rfl) ?_
  intro w3 hg hT
  clear k0 k1 k2 f0 f1 f2
  replace K := Lib.hid (K.out.kept hg (by intro e; have e := Option.some.inj e; omega)); replace R := Lib.hid (R.out.kept hg (by intro e; have e := Option.some.inj e; omega)); replace G := Lib.hid (grown_new G.out (by omega) hg)
  have OX := Lib.hid (OW.out.keptC J.out (by decide) hg)
  clear OW
  have OW := OX
  clear OX
  replace J := Lib.hid hT
  clear hg hT
  obtain ⟨k0, k1, k2, f0, f1, f2⟩ := K.out.all
  go_wp2_with (refine stop_store rfl ?_)
  refine ⟨trivial, ?_⟩
  refine wpList_store_atQ rfl 4 (.tmp 13) (.tmp 12) _ 2 _ _ _ #[.int .i64 at_, .slice (some ⟨b1, 0, none⟩) n n, .bool veto] 25 J.out rfl rfl rfl rfl (Nat.le_of_ble_eq_true rfl) (by kernel_rfl) (by kernel_rfl) (by kernel_rfl) ?_
  intro w4 hg hT
  clear k0 k1 k2 f0 f1 f2
  replace K := Lib.hid (K.out.kept hg (by intro e; have e := Option.some.inj e; omega)); replace R := Lib.hid (R.out.kept hg (by intro e; have e := Option.some.inj e; omega)); replace G := Lib.hid (grown_new G.out (by omega) hg)
  have OX := Lib.hid (OW.out.keptC J.out (by decide) hg)
  clear OW
  have OW := OX
  clear OX
  replace J := Lib.hid hT
  clear hg hT
  obtain ⟨k0, k1, k2, f0, f1, f2⟩ := J.out.all
  go_wp2_with (refine stop_store rfl ?_)
  refine ⟨trivial, ?_⟩
  refine wpList_store_atQ rfl 25 (.tmp 2) (.tmp 14) _ 0 _ _ _ #[.int .i64 at_, .slice (some ⟨b1, 0, none⟩) n n, .bool veto] 25 R.out rfl rfl rfl rfl (Nat.le_of_ble_eq_true rfl) (by kernel_rfl) (by kernel_rfl) (by kernel_rfl) ?_
  intro w5 hg hT
  clear k0 k1 k2 f0 f1 f2
  go_wp2
  (try simp only [Exit.inBlock, Exit.then])
  refine bodyPost_ret (ret_claim rfl _ rfl hT) rfl ?_
  exact ⟨b1, rfl, OW.out.keptC R.out (by decide) hg, grown_new G.out (by omega) hg⟩
set_option maxRecDepth 100000 in
set_option maxHeartbeats 4000000 in
theorem tocrt (w : World) (many need : Int) (on : Bool) (at_ : Int) (a : Option Addr) (n c : Nat) (f : Nat → Int) (veto : Bool) (hI : Ints w a n f) (hl : n ≤ 2000000) :
    Calls Try.prog 36 #[.agg #[.int .i64 many, .int .i64 need, .bool on, .int .i64 at_, .slice a n c, .bool veto]] w fun e w' => ∃ b, e = .returned (.agg #[.int .i64 many, .int .i64 need, .bool on, .int .i64 at_, .slice (some ⟨b, 0, none⟩) n n, .bool veto]) ∧ ToS w w.heap.size n f b w' := by
  have hs0 : (((w.alloc (.cells #[.int .i64 many, .int .i64 need, .bool on, .int .i64 at_, .slice a n c, .bool veto] 43)).alloc (.cells #[.int .i64 0, .int .i64 0, .bool false, .int .i64 0, .slice none 0 0, .bool false] 27)).alloc (.cells #[.int .i64 0, .int .i64 0, .bool false, .int .i64 0, .slice none 0 0, .bool false] 27)).heap.size = w.heap.size + 1 + 1 + 1 := by show (((w.heap.push _).push _).push _).size = _; simp
  have HS := Lib.hid hs0; clear hs0
  have G := Lib.hid (gtr (gtr (grown_alloc w (.cells #[.int .i64 many, .int .i64 need, .bool on, .int .i64 at_, .slice a n c, .bool veto] 43) none) (grown_alloc _ (.cells #[.int .i64 0, .int .i64 0, .bool false, .int .i64 0, .slice none 0 0, .bool false] 27) none)) (grown_alloc _ (.cells #[.int .i64 0, .int .i64 0, .bool false, .int .i64 0, .slice none 0 0, .bool false] 27) none))
  have K := Lib.hid (((Blk.new w #[.int .i64 many, .int .i64 need, .bool on, .int .i64 at_, .slice a n c, .bool veto] 43).keptN (grown_alloc _ (.cells #[.int .i64 0, .int .i64 0, .bool false, .int .i64 0, .slice none 0 0, .bool false] 27) none)).keptN (grown_alloc _ (.cells #[.int .i64 0, .int .i64 0, .bool false, .int .i64 0, .slice none 0 0, .bool false] 27) none))
  have R := Lib.hid ((blk_new2 w (.cells #[.int .i64 many, .int .i64 need, .bool on, .int .i64 at_, .slice a n c, .bool veto] 43) #[.int .i64 0, .int .i64 0, .bool false, .int .i64 0, .slice none 0 0, .bool false] 27).keptN (grown_alloc _ (.cells #[.int .i64 0, .int .i64 0, .bool false, .int .i64 0, .slice none 0 0, .bool false] 27) none))
  have J := Lib.hid (Draw.blk_new3 w (.cells #[.int .i64 many, .int .i64 need, .bool on, .int .i64 at_, .slice a n c, .bool veto] 43) (.cells #[.int .i64 0, .int .i64 0, .bool false, .int .i64 0, .slice none 0 0, .bool false] 27) #[.int .i64 0, .int .i64 0, .bool false, .int .i64 0, .slice none 0 0, .bool false] 27)
  have HI := Lib.hid hI; clear hI
  go_enter Try.func36, Try.ntmps36
  obtain ⟨k0, k1, k2, k3, k4, k5, f0, f1, f2, f3, f4, f5⟩ := c6_of K.out
  go_wp2_with (refine stop_store rfl ?_)
  refine ⟨trivial, ?_⟩
  refine wpList_store_atQ rfl 3 (.tmp 6) (.tmp 5) _ 0 _ _ _ #[.int .i64 many, .int .i64 0, .bool false, .int .i64 0, .slice none 0 0, .bool false] 27 J.out rfl rfl rfl rfl (Nat.le_of_ble_eq_true rfl) (by kernel_rfl) (by kernel_rfl) (by kernel_rfl) ?_
  intro w1 hg hT
  clear k0 k1 k2 k3 k4 k5 f0 f1 f2 f3 f4 f5
  replace K := Lib.hid (K.out.kept hg (by intro e; have e := Option.some.inj e; omega)); replace R := Lib.hid (R.out.kept hg (by intro e; have e := Option.some.inj e; omega)); replace G := Lib.hid (grown_new G.out (by omega) hg)
  replace J := Lib.hid hT
  clear hg hT
  obtain ⟨k0, k1, k2, k3, k4, k5, f0, f1, f2, f3, f4, f5⟩ := c6_of K.out
  go_wp2_with (refine stop_store rfl ?_)
  refine ⟨trivial, ?_⟩
  refine wpList_store_atQ rfl 3 (.tmp 9) (.tmp 8) _ 1 _ _ _ #[.int .i64 many, .int .i64 need, .bool false, .int .i64 0, .slice none 0 0, .bool false] 27 J.out rfl rfl rfl rfl (Nat.le_of_ble_eq_true rfl) (by kernel_rfl) (by kernel_rfl) (by kernel_rfl) ?_
  intro w2 hg hT
  clear k0 k1 k2 k3 k4 k5 f0 f1 f2 f3 f4 f5
  replace K := Lib.hid (K.out.kept hg (by intro e; have e := Option.some.inj e; omega)); replace R := Lib.hid (R.out.kept hg (by intro e; have e := Option.some.inj e; omega)); replace G := Lib.hid (grown_new G.out (by omega) hg)
  replace J := Lib.hid hT
  clear hg hT
  obtain ⟨k0, k1, k2, k3, k4, k5, f0, f1, f2, f3, f4, f5⟩ := c6_of K.out
  go_wp2_with (refine stop_store rfl ?_)
  refine ⟨trivial, ?_⟩
  refine wpList_store_atQ rfl 4 (.tmp 12) (.tmp 11) _ 2 _ _ _ #[.int .i64 many, .int .i64 need, .bool on, .int .i64 0, .slice none 0 0, .bool false] 27 J.out rfl rfl rfl rfl (Nat.le_of_ble_eq_true rfl) (by kernel_rfl) (by kernel_rfl) (by kernel_rfl) ?_
  intro w3 hg hT
  clear k0 k1 k2 k3 k4 k5 f0 f1 f2 f3 f4 f5
  replace K := Lib.hid (K.out.kept hg (by intro e; have e := Option.some.inj e; omega)); replace R := Lib.hid (R.out.kept hg (by intro e; have e := Option.some.inj e; omega)); replace G := Lib.hid (grown_new G.out (by omega) hg)
  replace J := Lib.hid hT
  clear hg hT
  obtain ⟨k0, k1, k2, k3, k4, k5, f0, f1, f2, f3, f4, f5⟩ := c6_of K.out
  go_wp2_with fail
  refine (toclm _ at_ a n c f veto (HI.out.kept G.out) hl).mono ?_
  rintro e w4 ⟨b1, rfl, hr, hg⟩
  clear k0 k1 k2 k3 k4 k5 f0 f1 f2 f3 f4 f5
  have OW := Lib.hid (hr.lower (lo' := w.heap.size) G.out.size)
  replace K := Lib.hid (K.out.keptN hg); replace R := Lib.hid (R.out.keptN hg); replace J := Lib.hid (J.out.keptN hg); replace G := Lib.hid (gtr G.out hg)
  clear hg hr
  go_wp2_with (refine stop_store rfl ?_)
  refine ⟨trivial, ?_⟩
  refine wpList_store_atQ rfl 25 (.tmp 16) (.tmp 15) _ 3 _ _ _ #[.int .i64 many, .int .i64 need, .bool on, .int .i64 at_, .slice (some ⟨b1, 0, none⟩) n n, .bool veto] 27 J.out rfl rfl rfl rfl (Nat.le_of_ble_eq_true rfl) (by kernel_rfl) (by kernel_rfl) (by kernel_rfl) ?_
  intro w5 hg hT
  replace K := Lib.hid (K.out.kept hg (by intro e; have e := Option.some.inj e; omega)); replace R := Lib.hid (R.out.kept hg (by intro e; have e := Option.some.inj e; omega)); replace G := Lib.hid (grown_new G.out (by omega) hg)
  have OX := Lib.hid (OW.out.keptC J.out (by decide) hg)
  clear OW
  have OW := OX
  clear OX
  replace J := Lib.hid hT
  clear hg hT
  obtain ⟨k0, k1, k2, k3, k4, k5, f0, f1, f2, f3, f4, f5⟩ := c6_of J.out
  go_wp2_with (refine stop_store rfl ?_)
  refine ⟨trivial, ?_⟩
  refine wpList_store_atQ rfl 27 (.tmp 2) (.tmp 17) _ 0 _ _ _ #[.int .i64 many, .int .i64 need, .bool on, .int .i64 at_, .slice (some ⟨b1, 0, none⟩) n n, .bool veto] 27 R.out rfl rfl rfl rfl (Nat.le_of_ble_eq_true rfl) (by kernel_rfl) (by kernel_rfl) (by kernel_rfl) ?_
  intro w6 hg hT
  clear k0 k1 k2 k3 k4 k5 f0 f1 f2 f3 f4 f5
  go_wp2
  (try simp only [Exit.inBlock, Exit.then])
  refine bodyPost_ret (ret_court rfl _ rfl hT) rfl ?_
  exact ⟨b1, rfl, OW.out.keptC R.out (by decide) hg, grown_new G.out (by omega) hg⟩
set_option maxRecDepth 100000 in
set_option maxHeartbeats 4000000 in
theorem eqclm (w : World) (at_ : Int) (a a' : Option Addr) (n c c' : Nat) (f : Nat → Int) (veto : Bool) (h1 : Ints w a n f) (h2 : Ints w a' n f) (hl : n ≤ 2000000) :
    Calls Try.prog 56 #[.agg #[.int .i64 at_, .slice a n c, .bool veto], .agg #[.int .i64 at_, .slice a' n c', .bool veto]] w fun e w' => e = .returned (.bool true) ∧ w.grownBy w' none := by
  have G := Lib.hid (gtr (grown_alloc w (.cells #[.int .i64 at_, .slice a n c, .bool veto] 25) none) (grown_alloc _ (.cells #[.int .i64 at_, .slice a' n c', .bool veto] 25) none))
  have K := Lib.hid ((Blk.new w #[.int .i64 at_, .slice a n c, .bool veto] 25).keptN (grown_alloc _ (.cells #[.int .i64 at_, .slice a' n c', .bool veto] 25) none))
  have J := Lib.hid (blk_new2 w (.cells #[.int .i64 at_, .slice a n c, .bool veto] 25) #[.int .i64 at_, .slice a' n c', .bool veto] 25)
  have I1 := Lib.hid (h1.kept G.out); have I2 := Lib.hid (h2.kept G.out)
  clear h1 h2
  go_enter Try.func56, Try.ntmps56
  obtain ⟨k0, k1, k2, f0, f1, f2⟩ := K.out.all
  obtain ⟨j0, j1, j2, g0, g1, g2⟩ := J.out.all
  go_wp2_with fail
  refine (eqint _ a a' n c c' f I1.out I2.out (by omega)).mono ?_
  rintro e w1 ⟨rfl, hg⟩
  clear k0 k1 k2 f0 f1 f2 j0 j1 j2 g0 g1 g2
  replace K := Lib.hid (K.out.keptN hg); replace J := Lib.hid (J.out.keptN hg); replace G := Lib.hid (gtr G.out hg)
  obtain ⟨k0, k1, k2, f0, f1, f2⟩ := K.out.all
  obtain ⟨j0, j1, j2, g0, g1, g2⟩ := J.out.all
  have hv : (veto != veto) = false := by simp
  go_wp2
  go_ret
  exact ⟨by simp, G.out⟩
set_option maxRecDepth 100000 in
set_option maxHeartbeats 4000000 in
theorem eqcrt (w : World) (many need : Int) (on : Bool) (at_ : Int) (a a' : Option Addr) (n c c' : Nat) (f : Nat → Int) (veto : Bool) (h1 : Ints w a n f) (h2 : Ints w a' n f) (hl : n ≤ 2000000) :
    Calls Try.prog 37 #[.agg #[.int .i64 many, .int .i64 need, .bool on, .int .i64 at_, .slice a n c, .bool veto], .agg #[.int .i64 many, .int .i64 need, .bool on, .int .i64 at_, .slice a' n c', .bool veto]] w fun e w' => e = .returned (.bool true) ∧ w.grownBy w' none := by
  have G := Lib.hid (gtr (grown_alloc w (.cells #[.int .i64 many, .int .i64 need, .bool on, .int .i64 at_, .slice a n c, .bool veto] 27) none) (grown_alloc _ (.cells #[.int .i64 many, .int .i64 need, .bool on, .int .i64 at_, .slice a' n c', .bool veto] 27) none))
  have K := Lib.hid ((Blk.new w #[.int .i64 many, .int .i64 need, .bool on, .int .i64 at_, .slice a n c, .bool veto] 27).keptN (grown_alloc _ (.cells #[.int .i64 many, .int .i64 need, .bool on, .int .i64 at_, .slice a' n c', .bool veto] 27) none))
  have J := Lib.hid (blk_new2 w (.cells #[.int .i64 many, .int .i64 need, .bool on, .int .i64 at_, .slice a n c, .bool veto] 27) #[.int .i64 many, .int .i64 need, .bool on, .int .i64 at_, .slice a' n c', .bool veto] 27)
  have I1 := Lib.hid (h1.kept G.out); have I2 := Lib.hid (h2.kept G.out)
  clear h1 h2
  have hon : (on != on) = false := by simp
  go_enter Try.func37, Try.ntmps37
  obtain ⟨k0, k1, k2, k3, k4, k5, f0, f1, f2, f3, f4, f5⟩ := c6_of K.out
  obtain ⟨j0, j1, j2, j3, j4, j5, g0, g1, g2, g3, g4, g5⟩ := c6_of J.out
  go_wp2_with fail
  refine (eqclm _ at_ a a' n c c' f veto I1.out I2.out (by omega)).mono ?_
  rintro e w1 ⟨rfl, hg⟩
  replace G := Lib.hid (gtr G.out hg)
  clear hg k0 k1 k2 k3 k4 k5 f0 f1 f2 f3 f4 f5 j0 j1 j2 j3 j4 j5 g0 g1 g2 g3 g4 g5
  go_wp2
  go_ret
  exact ⟨by simp, G.out⟩
/-! Marks. -/
def mkz (m : Nat) (j : Nat) : Int := ((m + j : Nat) : Int)
def Mkd (w : World) (lo : Nat) (a : Option Addr) (n c m : Nat) (e : Ending) (w' : World) : Prop := e = .returned (.int .i64 ((m + n : Nat) : Int)) ∧ OEQ w' lo a n c (mkz m) ∧ w.grownBy w' (Value.slice a n c).ownBlock
theorem marki (w : World) (lo : Nat) (a : Option Addr) (n c : Nat) (f : Nat → Int) (m : Nat) (h : OEQ w lo a n c f) (hl : n ≤ 2000000) (hm : m ≤ 9000000) :
    Calls Try.prog 67 #[.slice a n c, .int .i64 (m : Int)] w (Mkd w lo a n c m) := by
  rcases Nat.eq_zero_or_pos n with h0 | h0
  · subst h0
    refine (mark_zero w a c (m : Int)).mono ?_
    rintro e w' ⟨rfl, rfl⟩
    exact ⟨rfl, h.congr (fun j hj => by omega), grown_refl w _⟩
  · obtain ⟨b, cap, hv, hr⟩ := row_of_owns (z := f) h h0 (fun j hj => vals_get f hj)
    injection hv with e1 e2 e3
    subst e1; subst e3
    refine (mark_row w lo b n c f m hr hl hm).mono ?_
    rintro e w' ⟨rfl, hg, hr'⟩
    exact ⟨rfl, row_oeq hr', hg⟩
set_option maxHeartbeats 1000000 in
theorem markcl (w : World) (lo : Nat) (at_ : Int) (a : Option Addr) (n c : Nat) (f : Nat → Int) (veto : Bool) (m : Nat) (h : OEQ w lo a n c f) (hl : n ≤ 2000000) (hm : m ≤ 9000000) :
    Calls Try.prog 57 #[.agg #[.int .i64 at_, .slice a n c, .bool veto], .int .i64 (m : Int)] w (Mkd w lo a n c m) := by
  have G := Lib.hid (grown_alloc w (.cells #[.int .i64 at_, .slice a n c, .bool veto] 25) none)
  have K := Lib.hid (Blk.new w #[.int .i64 at_, .slice a n c, .bool veto] 25)
  have OW := Lib.hid (h.keptN G.out); clear h
  have k1 := K.out.cell 1
  go_enter Try.func57, Try.ntmps57
  go_wp2_with fail
  refine (marki _ lo a n c f m OW.out hl hm).mono ?_
  rintro e w1 ⟨rfl, hO, hg⟩
  have HO := Lib.hid hO; have HG := Lib.hid (grow_ownQ G.out hg)
  clear hO hg k1
  go_wp2
  go_ret
  exact ⟨rfl, HO.out, HG.out⟩
set_option maxHeartbeats 1000000 in
theorem markct (w : World) (lo : Nat) (many need : Int) (on : Bool) (at_ : Int) (a : Option Addr) (n c : Nat) (f : Nat → Int) (veto : Bool) (m : Nat) (h : OEQ w lo a n c f) (hl : n ≤ 2000000) (hm : m ≤ 9000000) :
    Calls Try.prog 38 #[.agg #[.int .i64 many, .int .i64 need, .bool on, .int .i64 at_, .slice a n c, .bool veto], .int .i64 (m : Int)] w (Mkd w lo a n c m) := by
  have G := Lib.hid (grown_alloc w (.cells #[.int .i64 many, .int .i64 need, .bool on, .int .i64 at_, .slice a n c, .bool veto] 27) none)
  have K := Lib.hid (Blk.new w #[.int .i64 many, .int .i64 need, .bool on, .int .i64 at_, .slice a n c, .bool veto] 27)
  have OW := Lib.hid (h.keptN G.out); clear h
  have k3 := K.out.cell 3; have k4 := K.out.cell 4; have k5 := K.out.cell 5
  go_enter Try.func38, Try.ntmps38
  go_wp2_with fail
  refine (markcl _ lo at_ a n c f veto m OW.out hl hm).mono ?_
  rintro e w1 ⟨rfl, hO, hg⟩
  have HO := Lib.hid hO; have HG := Lib.hid (grow_ownQ G.out hg)
  clear hO hg k3 k4 k5
  go_wp2
  go_ret
  exact ⟨rfl, HO.out, HG.out⟩
set_option maxHeartbeats 1000000 in
theorem heldcl (w : World) (at_ : Int) (a : Option Addr) (n c : Nat) (veto : Bool) (m : Nat) (h : Ints w a n (mkz m)) (hl : n ≤ 2000000) (hm : m ≤ 9000000) :
    Calls Try.prog 58 #[.agg #[.int .i64 at_, .slice a n c, .bool veto], .int .i64 (m : Int)] w fun e w' => e = .returned (.int .i64 ((m + n : Nat) : Int)) ∧ w.grownBy w' none := by
  have G := Lib.hid (grown_alloc w (.cells #[.int .i64 at_, .slice a n c, .bool veto] 25) none)
  have K := Lib.hid (Blk.new w #[.int .i64 at_, .slice a n c, .bool veto] 25)
  have I := Lib.hid (h.kept G.out); clear h
  have k1 := K.out.cell 1
  have hn : ¬ ((m + n : Nat) : Int) < 0 := by omega
  go_enter Try.func58, Try.ntmps58
  go_wp2_with fail
  refine (held _ a n c m I.out hl hm).mono ?_
  rintro e w1 ⟨rfl, rfl⟩
  go_wp2
  go_ret
  exact ⟨rfl, G.out⟩
set_option maxHeartbeats 1000000 in
theorem heldct (w : World) (many need : Int) (on : Bool) (at_ : Int) (a : Option Addr) (n c : Nat) (veto : Bool) (m : Nat) (h : Ints w a n (mkz m)) (hl : n ≤ 2000000) (hm : m ≤ 9000000) :
    Calls Try.prog 39 #[.agg #[.int .i64 many, .int .i64 need, .bool on, .int .i64 at_, .slice a n c, .bool veto], .int .i64 (m : Int)] w fun e w' => e = .returned (.int .i64 ((m + n : Nat) : Int)) ∧ w.grownBy w' none := by
  have G := Lib.hid (grown_alloc w (.cells #[.int .i64 many, .int .i64 need, .bool on, .int .i64 at_, .slice a n c, .bool veto] 27) none)
  have K := Lib.hid (Blk.new w #[.int .i64 many, .int .i64 need, .bool on, .int .i64 at_, .slice a n c, .bool veto] 27)
  have I := Lib.hid (h.kept G.out); clear h
  have k3 := K.out.cell 3; have k4 := K.out.cell 4; have k5 := K.out.cell 5
  have hn : ¬ ((m + n : Nat) : Int) < 0 := by omega
  go_enter Try.func39, Try.ntmps39
  go_wp2_with fail
  refine (heldcl _ at_ a n c veto m I.out hl hm).mono ?_
  rintro e w1 ⟨rfl, hg⟩
  replace G := Lib.hid (gtr G.out hg)
  clear hg k3 k4 k5
  go_wp2
  go_ret
  exact ⟨rfl, G.out⟩
/-- Two that lie apart. -/
def AptQ (a a' : Option Addr) : Prop := ∀ b off b' off', a = some ⟨b, off, none⟩ → a' = some ⟨b', off', none⟩ → b ≠ b'
theorem aptQ {w w' : World} {lo lo' : Nat} {a a' : Option Addr} {n c n' c' : Nat} {z z' : Nat → Int} (h : OEQ w lo a n c z) (h' : OEQ w' lo' a' n' c' z') (hl : w.heap.size ≤ lo') : AptQ a a' := fun b off b' off' e e' => by
  have := (h.lt b off e).2; have := (h'.lt b' off' e').1; omega
theorem AptQ.symm {a a' : Option Addr} (h : AptQ a a') : AptQ a' a := fun b off b' off' e e' => fun hb => h b' off' b off e' e hb.symm
/-- Kept though another's row is marked. -/
theorem OEQ.keptA {w w' : World} {lo lo' : Nat} {a a' : Option Addr} {n c n' c' : Nat} {z z' : Nat → Int} (h : OEQ w lo a n c z) (h' : OEQ w lo' a' n' c' z') (hg : w.grownBy w' (Value.slice a' n' c').ownBlock) (hap : AptQ a a') : OEQ w' lo a n c z := by
  refine World.ownsRow.kept h hg ?_
  rcases h.2 with ⟨hv, _⟩ | ⟨g, c1, cur, hv, _⟩
  · rw [hv]; exact .inl rfl
  · rcases h'.2 with ⟨hv', _⟩ | ⟨g', c1', cur', hv', _⟩
    · rw [hv, hv']; right; simp [Value.ownBlock]
    · rw [hv, hv']
      right
      injection hv with e1 _ _
      injection hv' with e1' _ _
      have := hap g 0 g' 0 e1 e1'
      simpa [Value.ownBlock] using this
end Ct
end Go.Proofs.Ytbfmigmhmjgdgaa
