/-
  Books: the program's counter behind its lock, and what it does with a book.
-/
import Derived.Test.YteibklnonlapoaaBa
import Derived.Test.YteibklnonlapoaaMu
import Derived.Test.YteibklnonlapoaaKc
import Derived.Test.YteibklnonlapoaaWk
import Derived.Defers
namespace Go.Proofs.Yteibklnonlapoaa
namespace Con
open Go.RowKit Alg Mem Draw Bk Go.MuLone
set_option linter.unusedVariables false

theorem grown_anyB {w W W' : World} {B g : Nat} (h : w.grownBy W (some B)) (k : W.grownBy W' (some g)) (hg : g = B ∨ w.heap.size ≤ g) : w.grownBy W' (some B) :=
  ⟨k.os.trans h.os, k.tape.trans h.tape, k.output.trans h.output, Nat.le_trans h.size k.size, fun i hi hne => (k.block i (Nat.lt_of_lt_of_le hi h.size) (by intro e; have e := Option.some.inj e; rcases hg with rfl | hg; exact hne (by rw [e]); omega)).trans (h.block i hi hne)⟩
/-- A counter in memory, its lock free. -/
def Ctr (w : World) (b : Nat) (n s : Int) : Prop := Blk w b #[.int .i32 0, .int .u32 0, .int .i64 n, .int .i64 s] 94
theorem lock_at {w : World} {b : Nat} {v1 v2 v3 : Value} {T : TypeId} (h : Blk w b #[.int .i32 0, v1, v2, v3] T) :
    Calls Try.prog 93 #[.pointer (some ⟨b, 0, none⟩)] w fun e w' => e = .returned (.tuple #[]) ∧ Blk w' b #[.int .i32 1, v1, v2, v3] T ∧ w.grownBy w' (some b) :=
  (lock_free muLib ⟨b, 0, none⟩ w (h.cell 0) (h.free 0)).mono fun e w' ⟨he, hw⟩ => ⟨he, by rw [hw]; exact h.set 0 (.int .i32 1), by rw [hw]; exact grown_set _ _ _ _⟩
theorem unlock_at {w : World} {b : Nat} {v1 v2 v3 : Value} {T : TypeId} (u : FrameMode) (h : Blk w b #[.int .i32 1, v1, v2, v3] T) :
    CallsD Try.prog 94 #[.pointer (some ⟨b, 0, none⟩)] u w fun e u' w' => u' = u ∧ e = .returned (.tuple #[]) ∧ Blk w' b #[.int .i32 0, v1, v2, v3] T ∧ w.grownBy w' (some b) :=
  (unlock_deferred muLib ⟨b, 0, none⟩ u w (h.cell 0) (h.free 0)).mono fun e u' w' ⟨hu, he, hw⟩ => ⟨hu, he, by rw [hw]; exact h.set 0 (.int .i32 0), by rw [hw]; exact grown_set _ _ _ _⟩
theorem size_bk : (Try.prog.info? 24).map (·.size) = some 2 := by kernel_rfl
theorem ret_bk {fn : Func} {p : Tmp} (h : fn.results = #[.cell p 24]) (tmps : Array Value) {w : World} {b : Nat} {v0 v1 : Value} {T : TypeId} (hp : tmps.getD p undef = .pointer (some ⟨b, 0, none⟩)) (hb : Blk w b #[v0, v1] T) :
    (results fn tmps).run Try.prog w = .ok (.agg #[v0, v1]) w :=
  results_cell_row h tmps w b T #[v0, v1] (0, 0) _ hp hb Try.underlying24 rfl size_bk
theorem ret_bkb {fn : Func} {p u : Tmp} (h : fn.results = #[.cell p 24, .tmp u]) (tmps : Array Value) {w : World} {b : Nat} {v0 v1 : Value} {T : TypeId} (hp : tmps.getD p undef = .pointer (some ⟨b, 0, none⟩)) (hb : Blk w b #[v0, v1] T) :
    (results fn tmps).run Try.prog w = .ok (.tuple #[.agg #[v0, v1], tmps.getD u undef]) w := by
  have hp' : tmps[p]?.getD undef = .pointer (some ⟨b, 0, none⟩) := by simpa using hp
  simp [results, h, hp', asAddr, run_loadVar_row w b T 24 #[v0, v1] (0, 0) _ hb Try.underlying24 rfl size_bk, Result.andThen]
theorem ret_nbb {fn : Func} {p q u : Tmp} (h : fn.results = #[.tmp q, .cell p 24, .tmp u]) (tmps : Array Value) {w : World} {b : Nat} {v0 v1 : Value} {T : TypeId} (hp : tmps.getD p undef = .pointer (some ⟨b, 0, none⟩)) (hb : Blk w b #[v0, v1] T) :
    (results fn tmps).run Try.prog w = .ok (.tuple #[tmps.getD q undef, .agg #[v0, v1], tmps.getD u undef]) w := by
  have hp' : tmps[p]?.getD undef = .pointer (some ⟨b, 0, none⟩) := by simpa using hp
  simp [results, h, hp', asAddr, run_loadVar_row w b T 24 #[v0, v1] (0, 0) _ hb Try.underlying24 rfl size_bk, Result.andThen]

set_option maxHeartbeats 1000000 in
theorem istate (w : World) (b : Nat) (n s : Int) (h : Ctr w b n s) :
    Calls Try.prog 62 #[.pointer (some ⟨b, 0, none⟩)] w fun e w' => e = .returned (.agg #[.int .i64 n, .int .i64 s]) ∧ Ctr w' b n s ∧ w.grownBy w' (some b) := by
  have hlt := h.lt
  have hg0 := Draw.grown_alloc w (.cells #[.int .i64 0, .int .i64 0] 24) none
  have B := Lib.hid (Blk.keptN h hg0)
  have R := Lib.hid (Blk.new w #[.int .i64 0, .int .i64 0] 24)
  have G0 := Lib.hid hg0
  clear h hg0
  go_enter_defers Try.func62, Try.ntmps62
  go_wp2_with fail
  refine (lock_at B.out).mono ?_
  rintro e w1 ⟨rfl, hb1, hg⟩
  have B1 := Lib.hid hb1
  have c2 : w1.cell? ⟨b, 2, none⟩ = some (.int .i64 n) := hb1.cell 2
  have c3 : w1.cell? ⟨b, 3, none⟩ = some (.int .i64 s) := hb1.cell 3
  have f2 := hb1.free 2
  have f3 := hb1.free 3
  clear hb1
  have R1 := Lib.hid (R.out.kept hg (by intro e; have e := Option.some.inj e; omega))
  have G1 := Lib.hid (gtr' (Draw.grown_some G0.out) hg)
  clear R G0 B hg
  have B2 := B1.out
  go_wp2_with (first
    | (refine wpList_store_blk rfl 24 (.tmp 2) (.tmp 13) _ _ _ 24 R1.out rfl rfl rfl rfl (by kernel_rfl) (by simp [Value.oneCell']) rfl ?_; intro V hgV hRV; have HGV := Lib.hid hgV; have HRV := Lib.hid hRV; have HBV := Lib.hid (B1.out.kept hgV (by intro e; have e := Option.some.inj e; omega)); clear hgV hRV))
  refine leaves_cons (f := 94) (args := #[.pointer (some ⟨b, 0, none⟩)]) (by simp) (by simp [go_sem]) ?_
  refine (unlock_at .returning HBV.out).mono ?_
  rintro e u' w2 ⟨rfl, rfl, hb2, hg2⟩
  have hR2 := HRV.out.kept hg2 (by intro e; have e := Option.some.inj e; omega)
  exact ⟨_, ret_bk rfl _ rfl hR2, rfl, hb2, gtr' (grown_anyB G1.out HGV.out (.inr (by omega))) hg2⟩
set_option maxHeartbeats 1000000 in
theorem ifall (w : World) (b : Nat) (n s : Int) (h : Ctr w b n s) :
    Calls Try.prog 66 #[.pointer (some ⟨b, 0, none⟩)] w fun e w' => e = .returned (.tuple #[]) ∧ Ctr w' b s s ∧ w.grownBy w' (some b) := by
  have B := Lib.hid (show Blk w b #[.int .i32 0, .int .u32 0, .int .i64 n, .int .i64 s] 94 from h)
  clear h
  go_enter_defers Try.func66, Try.ntmps66
  go_wp2_with fail
  refine (lock_at B.out).mono ?_
  rintro e w1 ⟨rfl, hb1, hg⟩
  have B1 := Lib.hid hb1
  have c2 : w1.cell? ⟨b, 2, none⟩ = some (.int .i64 n) := hb1.cell 2
  have c3 : w1.cell? ⟨b, 3, none⟩ = some (.int .i64 s) := hb1.cell 3
  have f2 := hb1.free 2
  have f3 := hb1.free 3
  clear hb1
  have G1 := Lib.hid hg; clear hg
  have B2 := Lib.hid (B1.out.set 2 (.int .i64 s))
  have G2 := Lib.hid (gtr' G1.out (grown_set w1 b 2 (.int .i64 s)))
  go_wp2
  refine leaves_cons (f := 94) (args := #[.pointer (some ⟨b, 0, none⟩)]) (by simp) (by simp [go_sem]) ?_
  refine (unlock_at .returning B2.out).mono ?_
  rintro e u' w2 ⟨rfl, rfl, hb2, hg2⟩
  exact ⟨_, results_none rfl _ _ _, rfl, hb2, gtr' G2.out hg2⟩
set_option maxHeartbeats 1000000 in
theorem ikeep_full (w : World) (b : Nat) (n s : Int) (h : Ctr w b n s) (ho : Ok n s) (hf : Full n s) :
    Calls Try.prog 65 #[.pointer (some ⟨b, 0, none⟩)] w fun e w' => e = .returned (.bool false) ∧ Ctr w' b n s ∧ w.grownBy w' (some b) := by
  unfold Ok Full at *
  obtain ⟨o1, o2, o3⟩ := ho
  have B := Lib.hid (show Blk w b #[.int .i32 0, .int .u32 0, .int .i64 n, .int .i64 s] 94 from h)
  clear h
  go_enter_defers Try.func65, Try.ntmps65
  go_wp2_with fail
  refine (lock_at B.out).mono ?_
  rintro e w1 ⟨rfl, hb1, hg⟩
  have B1 := Lib.hid hb1
  have c2 : w1.cell? ⟨b, 2, none⟩ = some (.int .i64 n) := hb1.cell 2
  have c3 : w1.cell? ⟨b, 3, none⟩ = some (.int .i64 s) := hb1.cell 3
  have f2 := hb1.free 2
  have f3 := hb1.free 3
  clear hb1
  have G1 := Lib.hid hg; clear hg
  have B2 := Lib.hid B1.out
  have G2 := Lib.hid G1.out
  by_cases h4 : n + 4 ≤ 60
  · have e1 : min (n + 4) 60 ≤ s := by omega
    have e2 : n + 4 ≤ s := by omega
    go_wp2
    refine leaves_cons (f := 94) (args := #[.pointer (some ⟨b, 0, none⟩)]) (by simp) (by simp [go_sem]) ?_
    refine (unlock_at .returning B2.out).mono ?_
    rintro e u' w2 ⟨rfl, rfl, hb2, hg2⟩
    exact ⟨_, results_tmp rfl _ _ _, rfl, hb2, gtr' G2.out hg2⟩
  · have e3 : 60 < n + 4 := by omega
    have e2 : 60 ≤ s := by omega
    go_wp2
    refine leaves_cons (f := 94) (args := #[.pointer (some ⟨b, 0, none⟩)]) (by simp) (by simp [go_sem]) ?_
    refine (unlock_at .returning B2.out).mono ?_
    rintro e u' w2 ⟨rfl, rfl, hb2, hg2⟩
    exact ⟨_, results_tmp rfl _ _ _, rfl, hb2, gtr' G2.out hg2⟩
set_option maxHeartbeats 1000000 in
theorem ikeep_yes (w : World) (b : Nat) (n s : Int) (h : Ctr w b n s) (ho : Ok n s) (hf : ¬ Full n s) :
    Calls Try.prog 65 #[.pointer (some ⟨b, 0, none⟩)] w fun e w' => e = .returned (.bool true) ∧ Ctr w' b n (kS n s) ∧ w.grownBy w' (some b) := by
  rw [kS_not hf]
  unfold Ok Full at *
  obtain ⟨o1, o2, o3⟩ := ho
  have hf1 : s < n + 4 := by omega
  have hf2 : s < 60 := by omega
  clear hf
  have B := Lib.hid (show Blk w b #[.int .i32 0, .int .u32 0, .int .i64 n, .int .i64 s] 94 from h)
  clear h
  by_cases h4 : n + 4 ≤ 60
  · rw [if_pos h4]
    go_enter_defers Try.func65, Try.ntmps65
    go_wp2_with fail
    refine (lock_at B.out).mono ?_
    rintro e w1 ⟨rfl, hb1, hg⟩
    have B1 := Lib.hid hb1
    have c2 : w1.cell? ⟨b, 2, none⟩ = some (.int .i64 n) := hb1.cell 2
    have c3 : w1.cell? ⟨b, 3, none⟩ = some (.int .i64 s) := hb1.cell 3
    have f2 := hb1.free 2
    have f3 := hb1.free 3
    clear hb1
    have G1 := Lib.hid hg; clear hg
    have B2 := Lib.hid (B1.out.set 3 (.int .i64 (n + 4)))
    have G2 := Lib.hid (gtr' G1.out (grown_set w1 b 3 (.int .i64 (n + 4))))
    go_wp2
    refine leaves_cons (f := 94) (args := #[.pointer (some ⟨b, 0, none⟩)]) (by simp) (by simp [go_sem]) ?_
    refine (unlock_at .returning B2.out).mono ?_
    rintro e u' w2 ⟨rfl, rfl, hb2, hg2⟩
    exact ⟨_, results_tmp rfl _ _ _, rfl, hb2, gtr' G2.out hg2⟩
  · rw [if_neg h4]
    have e3 : 60 < n + 4 := by omega
    clear h4
    go_enter_defers Try.func65, Try.ntmps65
    go_wp2_with fail
    refine (lock_at B.out).mono ?_
    rintro e w1 ⟨rfl, hb1, hg⟩
    have B1 := Lib.hid hb1
    have c2 : w1.cell? ⟨b, 2, none⟩ = some (.int .i64 n) := hb1.cell 2
    have c3 : w1.cell? ⟨b, 3, none⟩ = some (.int .i64 s) := hb1.cell 3
    have f2 := hb1.free 2
    have f3 := hb1.free 3
    clear hb1
    have G1 := Lib.hid hg; clear hg
    have B2 := Lib.hid (B1.out.set 3 (.int .i64 60))
    have G2 := Lib.hid (gtr' G1.out (grown_set w1 b 3 (.int .i64 60)))
    go_wp2
    refine leaves_cons (f := 94) (args := #[.pointer (some ⟨b, 0, none⟩)]) (by simp) (by simp [go_sem]) ?_
    refine (unlock_at .returning B2.out).mono ?_
    rintro e u' w2 ⟨rfl, rfl, hb2, hg2⟩
    exact ⟨_, results_tmp rfl _ _ _, rfl, hb2, gtr' G2.out hg2⟩
set_option maxHeartbeats 1000000 in
theorem itake_no (w : World) (b : Nat) (n s : Int) (h : Ctr w b n s) (hf : n = s) :
    Calls Try.prog 61 #[.pointer (some ⟨b, 0, none⟩)] w fun e w' => e = .returned (.tuple #[.int .i64 0, .bool false]) ∧ Ctr w' b n s ∧ w.grownBy w' (some b) := by
  subst hf
  have B := Lib.hid (show Blk w b #[.int .i32 0, .int .u32 0, .int .i64 n, .int .i64 n] 94 from h)
  clear h
  go_enter_defers Try.func61, Try.ntmps61
  go_wp2_with fail
  refine (lock_at B.out).mono ?_
  rintro e w1 ⟨rfl, hb1, hg⟩
  have B1 := Lib.hid hb1
  have c2 : w1.cell? ⟨b, 2, none⟩ = some (.int .i64 n) := hb1.cell 2
  have c3 : w1.cell? ⟨b, 3, none⟩ = some (.int .i64 n) := hb1.cell 3
  clear hb1
  have B2 := Lib.hid (B1.out.keptN (gdrew w1))
  have G2 := Lib.hid (gtr' hg (Draw.grown_some (gdrew w1))); clear hg
  go_wp2
  go_region
  go_wp2
  refine leaves_cons (f := 94) (args := #[.pointer (some ⟨b, 0, none⟩)]) (by simp) (by simp [go_sem]) ?_
  refine (unlock_at .returning B2.out).mono ?_
  rintro e u' w2 ⟨rfl, rfl, hb2, hg2⟩
  exact ⟨_, results_tmp2 rfl _ _ _, rfl, hb2, gtr' G2.out hg2⟩
set_option maxHeartbeats 1000000 in
theorem itake_yes (w : World) (b : Nat) (n s : Int) (h : Ctr w b n s) (ho : Ok n s) (hf : n ≠ s) :
    Calls Try.prog 61 #[.pointer (some ⟨b, 0, none⟩)] w fun e w' => e = .returned (.tuple #[.int .i64 n, .bool true]) ∧ Ctr w' b (n + 1) s ∧ w.grownBy w' (some b) := by
  unfold Ok at *
  obtain ⟨o1, o2, o3⟩ := ho
  have hne : (n == s) = false := by simpa using hf
  have B := Lib.hid (show Blk w b #[.int .i32 0, .int .u32 0, .int .i64 n, .int .i64 s] 94 from h)
  clear h
  go_enter_defers Try.func61, Try.ntmps61
  go_wp2_with fail
  refine (lock_at B.out).mono ?_
  rintro e w1 ⟨rfl, hb1, hg⟩
  have B1 := Lib.hid hb1
  have c2 : w1.cell? ⟨b, 2, none⟩ = some (.int .i64 n) := hb1.cell 2
  have c3 : w1.cell? ⟨b, 3, none⟩ = some (.int .i64 s) := hb1.cell 3
  have f2 := hb1.free 2
  have f3 := hb1.free 3
  clear hb1
  have B2 := Lib.hid ((B1.out.set 2 (.int .i64 (n + 1))).keptN (gdrew _))
  have G2 := Lib.hid (gtr' (gtr' hg (grown_set w1 b 2 (.int .i64 (n + 1)))) (Draw.grown_some (gdrew _))); clear hg
  go_wp2
  go_region
  go_wp2
  refine leaves_cons (f := 94) (args := #[.pointer (some ⟨b, 0, none⟩)]) (by simp) (by simp [go_sem]) ?_
  refine (unlock_at .returning B2.out).mono ?_
  rintro e u' w2 ⟨rfl, rfl, hb2, hg2⟩
  exact ⟨_, results_tmp2 rfl _ _ _, rfl, hb2, gtr' G2.out hg2⟩
/-- Is it a book? -/
def bkB (n s : Int) : Bool := decide (Ok n s)
theorem bkB_t {n s : Int} (h : Ok n s) : bkB n s = true := decide_eq_true h
theorem bkB_f {n s : Int} (h : ¬ Ok n s) : bkB n s = false := decide_eq_false h
set_option maxHeartbeats 1000000 in
theorem ibok (w : World) (n s : Int) : Calls Try.prog 24 #[.agg #[.int .i64 n, .int .i64 s]] w fun e w' => e = .returned (.bool (bkB n s)) ∧ w.grownBy w' none := by
  have B := Lib.hid (Blk.new w #[.int .i64 n, .int .i64 s] 24)
  by_cases ho : Ok n s
  · rw [bkB_t ho]
    obtain ⟨o1, o2, o3⟩ := ho
    go_enter Try.func24, Try.ntmps24
    go_wp2
    go_ret
    exact ⟨rfl, Draw.grown_alloc _ _ _⟩
  · rw [bkB_f ho]
    have ho' : n < 0 ∨ (0 ≤ n ∧ s < n) ∨ (0 ≤ n ∧ n ≤ s ∧ 60 < s) := by unfold Ok at ho; omega
    clear ho
    rcases ho' with h1 | ⟨h1, h2⟩ | ⟨h1, h2, h3⟩
    all_goals
      go_enter Try.func24, Try.ntmps24
      go_wp2
      go_ret
      first
      | exact ⟨rfl, Draw.grown_alloc _ _ _⟩
      | exact ⟨ret_b (decide_eq_false (by omega)), Draw.grown_alloc _ _ _⟩
      | fail
theorem icof_no (w : World) (n s : Int) (ho : ¬ Ok n s) : Calls Try.prog 60 #[.agg #[.int .i64 n, .int .i64 s]] w fun e w' => e = .returned (.tuple #[.pointer none, .bool false]) ∧ w.grownBy w' none := by
  have G := Lib.hid (Draw.grown_alloc w (.cells #[.int .i64 n, .int .i64 s] 24) none)
  have R := Lib.hid (Blk.new w #[.int .i64 n, .int .i64 s] 24)
  have HO := Lib.hid ho; clear ho
  go_enter Try.func60, Try.ntmps60
  go_wp2_with fail
  refine (ibok _ n s).mono ?_
  rintro e w1 ⟨rfl, hg⟩
  rw [bkB_f HO.out]
  have G1 := Lib.hid hg; clear hg
  go_wp2
  go_ret2
  exact ⟨rfl, gtr G.out G1.out⟩
theorem icof_yes (w : World) (n s : Int) (ho : Ok n s) : Calls Try.prog 60 #[.agg #[.int .i64 n, .int .i64 s]] w fun e w' => ∃ b, e = .returned (.tuple #[.pointer (some ⟨b, 0, none⟩), .bool true]) ∧ Ctr w' b n s ∧ w.heap.size ≤ b ∧ w.grownBy w' none := by
  have G := Lib.hid (Draw.grown_alloc w (.cells #[.int .i64 n, .int .i64 s] 24) none)
  have R := Lib.hid (Blk.new w #[.int .i64 n, .int .i64 s] 24)
  have HO := Lib.hid ho; clear ho
  go_enter Try.func60, Try.ntmps60
  go_wp2_with fail
  refine (ibok _ n s).mono ?_
  rintro e w1 ⟨rfl, hg⟩
  rw [bkB_t HO.out]
  have R1 := Lib.hid (R.out.keptN hg)
  have c0 : w1.cell? ⟨w.heap.size, 0, none⟩ = some (.int .i64 n) := R1.out.cell 0
  have c1 : w1.cell? ⟨w.heap.size, 1, none⟩ = some (.int .i64 s) := R1.out.cell 1
  have G1 := Lib.hid (gtr G.out hg); clear hg
  go_wp2
  go_ret2
  exact ⟨_, rfl, Blk.new _ _ _, G1.out.size, gtr G1.out (Draw.grown_alloc _ _ _)⟩
set_option maxHeartbeats 1000000 in
theorem ibfall_no (w : World) (n s : Int) (ho : ¬ Ok n s) : Calls Try.prog 29 #[.agg #[.int .i64 n, .int .i64 s]] w fun e w' => e = .returned (.agg #[.int .i64 0, .int .i64 0]) ∧ w.grownBy w' none := by
  have G := Lib.hid (gtr (Draw.grown_alloc w (.cells #[.int .i64 n, .int .i64 s] 24) none) (Draw.grown_alloc _ (.cells #[.int .i64 0, .int .i64 0] 24) none))
  have P := Lib.hid ((Blk.new w #[.int .i64 n, .int .i64 s] 24).keptN (Draw.grown_alloc _ (.cells #[.int .i64 0, .int .i64 0] 24) none))
  have R := Lib.hid (blk_new2 w (.cells #[.int .i64 n, .int .i64 s] 24) #[.int .i64 0, .int .i64 0] 24)
  have HO := Lib.hid ho; clear ho
  go_enter Try.func29, Try.ntmps29
  go_wp2_with fail
  refine (icof_no _ n s HO.out).mono ?_
  rintro e w1 ⟨rfl, hg⟩
  replace G := Lib.hid (gtr G.out hg)
  replace R := Lib.hid (R.out.keptN hg)
  clear hg
  go_wp2_with (first
    | (refine wpList_store_blk rfl 24 (.tmp 2) (.tmp 12) _ _ _ 24 R.out rfl rfl rfl rfl (by kernel_rfl) (by simp [Value.oneCell']) rfl ?_; intro V hgV hRV; have HGV := Lib.hid hgV; have HRV := Lib.hid hRV; clear hgV hRV))
  try simp only [Exit.inBlock, Exit.then]
  refine bodyPost_ret (ret_bk rfl _ rfl HRV.out) rfl ?_
  exact ⟨rfl, grown_new G.out (by omega) HGV.out⟩
set_option maxHeartbeats 1000000 in
theorem ibfall_yes (w : World) (n s : Int) (ho : Ok n s) : Calls Try.prog 29 #[.agg #[.int .i64 n, .int .i64 s]] w fun e w' => e = .returned (.agg #[.int .i64 s, .int .i64 s]) ∧ w.grownBy w' none := by
  have G := Lib.hid (gtr (Draw.grown_alloc w (.cells #[.int .i64 n, .int .i64 s] 24) none) (Draw.grown_alloc _ (.cells #[.int .i64 0, .int .i64 0] 24) none))
  have P := Lib.hid ((Blk.new w #[.int .i64 n, .int .i64 s] 24).keptN (Draw.grown_alloc _ (.cells #[.int .i64 0, .int .i64 0] 24) none))
  have R := Lib.hid (blk_new2 w (.cells #[.int .i64 n, .int .i64 s] 24) #[.int .i64 0, .int .i64 0] 24)
  have HO := Lib.hid ho; clear ho
  go_enter Try.func29, Try.ntmps29
  go_wp2_with fail
  refine (icof_yes _ n s HO.out).mono ?_
  rintro e w1 ⟨b, rfl, hc, hb, hg⟩
  have C := Lib.hid hc
  have hR := R.out.lt
  replace G := Lib.hid (gtr G.out hg)
  replace R := Lib.hid (R.out.keptN hg)
  clear hg
  clear hc
  go_wp2_with fail
  refine (ifall _ b n s C.out).mono ?_
  rintro e w2 ⟨rfl, hc, hg⟩
  replace C := Lib.hid hc
  replace G := Lib.hid (grown_new G.out (by omega) hg)
  replace R := Lib.hid (R.out.kept hg (by intro e; have e := Option.some.inj e; omega))
  clear hg
  clear hc
  go_wp2_with fail
  refine (istate _ b _ _ C.out).mono ?_
  rintro e w3 ⟨rfl, hc, hg⟩
  clear C hc
  replace G := Lib.hid (grown_new G.out (by omega) hg)
  replace R := Lib.hid (R.out.kept hg (by intro e; have e := Option.some.inj e; omega))
  clear hg
  go_wp2_with (first
    | (refine wpList_store_blk rfl 24 (.tmp 2) (.tmp 16) _ _ _ 24 R.out rfl rfl rfl rfl (by kernel_rfl) (by simp [Value.oneCell']) rfl ?_; intro V hgV hRV; have HGV := Lib.hid hgV; have HRV := Lib.hid hRV; clear hgV hRV))
  try simp only [Exit.inBlock, Exit.then]
  refine bodyPost_ret (ret_bk rfl _ rfl HRV.out) rfl ?_
  exact ⟨rfl, grown_new G.out (by omega) HGV.out⟩
set_option maxHeartbeats 1000000 in
theorem ibkeep_bad (w : World) (n s : Int) (ho : ¬ Ok n s) : Calls Try.prog 27 #[.agg #[.int .i64 n, .int .i64 s]] w fun e w' => e = .returned (.tuple #[.agg #[.int .i64 0, .int .i64 0], .bool false]) ∧ w.grownBy w' none := by
  have G := Lib.hid (gtr (Draw.grown_alloc w (.cells #[.int .i64 n, .int .i64 s] 24) none) (Draw.grown_alloc _ (.cells #[.int .i64 0, .int .i64 0] 24) none))
  have P := Lib.hid ((Blk.new w #[.int .i64 n, .int .i64 s] 24).keptN (Draw.grown_alloc _ (.cells #[.int .i64 0, .int .i64 0] 24) none))
  have R := Lib.hid (blk_new2 w (.cells #[.int .i64 n, .int .i64 s] 24) #[.int .i64 0, .int .i64 0] 24)
  have HO := Lib.hid ho; clear ho
  go_enter Try.func27, Try.ntmps27
  go_wp2_with fail
  refine (icof_no _ n s HO.out).mono ?_
  rintro e w1 ⟨rfl, hg⟩
  replace G := Lib.hid (gtr G.out hg)
  replace R := Lib.hid (R.out.keptN hg)
  clear hg
  go_wp2_with (first
    | (refine wpList_store_blk rfl 24 (.tmp 2) (.tmp 13) _ _ _ 24 R.out rfl rfl rfl rfl (by kernel_rfl) (by simp [Value.oneCell']) rfl ?_; intro V hgV hRV; have HGV := Lib.hid hgV; have HRV := Lib.hid hRV; clear hgV hRV))
  try simp only [Exit.inBlock, Exit.then]
  refine bodyPost_ret (ret_bkb rfl _ rfl HRV.out) rfl ?_
  exact ⟨rfl, grown_new G.out (by omega) HGV.out⟩
set_option maxHeartbeats 1000000 in
theorem ibkeep_full (w : World) (n s : Int) (ho : Ok n s) (hf : Full n s) : Calls Try.prog 27 #[.agg #[.int .i64 n, .int .i64 s]] w fun e w' => e = .returned (.tuple #[.agg #[.int .i64 n, .int .i64 s], .bool false]) ∧ w.grownBy w' none := by
  have G := Lib.hid (gtr (Draw.grown_alloc w (.cells #[.int .i64 n, .int .i64 s] 24) none) (Draw.grown_alloc _ (.cells #[.int .i64 0, .int .i64 0] 24) none))
  have P := Lib.hid ((Blk.new w #[.int .i64 n, .int .i64 s] 24).keptN (Draw.grown_alloc _ (.cells #[.int .i64 0, .int .i64 0] 24) none))
  have R := Lib.hid (blk_new2 w (.cells #[.int .i64 n, .int .i64 s] 24) #[.int .i64 0, .int .i64 0] 24)
  have HO := Lib.hid ho; clear ho
  have HF := Lib.hid hf; clear hf
  go_enter Try.func27, Try.ntmps27
  go_wp2_with fail
  refine (icof_yes _ n s HO.out).mono ?_
  rintro e w1 ⟨b, rfl, hc, hb, hg⟩
  have C := Lib.hid hc
  have hR := R.out.lt
  replace G := Lib.hid (gtr G.out hg)
  replace R := Lib.hid (R.out.keptN hg)
  clear hg
  clear hc
  go_wp2_with fail
  refine (ikeep_full _ b n s C.out HO.out HF.out).mono ?_
  rintro e w2 ⟨rfl, hc, hg⟩
  replace C := Lib.hid hc
  replace G := Lib.hid (grown_new G.out (by omega) hg)
  replace R := Lib.hid (R.out.kept hg (by intro e; have e := Option.some.inj e; omega))
  clear hg
  clear hc
  go_wp2_with fail
  refine (istate _ b _ _ C.out).mono ?_
  rintro e w3 ⟨rfl, hc, hg⟩
  clear C hc
  replace G := Lib.hid (grown_new G.out (by omega) hg)
  replace R := Lib.hid (R.out.kept hg (by intro e; have e := Option.some.inj e; omega))
  clear hg
  go_wp2_with (first
    | (refine wpList_store_blk rfl 24 (.tmp 2) (.tmp 17) _ _ _ 24 R.out rfl rfl rfl rfl (by kernel_rfl) (by simp [Value.oneCell']) rfl ?_; intro V hgV hRV; have HGV := Lib.hid hgV; have HRV := Lib.hid hRV; clear hgV hRV))
  try simp only [Exit.inBlock, Exit.then]
  refine bodyPost_ret (ret_bkb rfl _ rfl HRV.out) rfl ?_
  exact ⟨rfl, grown_new G.out (by omega) HGV.out⟩
set_option maxHeartbeats 1000000 in
theorem ibkeep_yes (w : World) (n s : Int) (ho : Ok n s) (hf : ¬ Full n s) : Calls Try.prog 27 #[.agg #[.int .i64 n, .int .i64 s]] w fun e w' => e = .returned (.tuple #[.agg #[.int .i64 n, .int .i64 (kS n s)], .bool true]) ∧ w.grownBy w' none := by
  have G := Lib.hid (gtr (Draw.grown_alloc w (.cells #[.int .i64 n, .int .i64 s] 24) none) (Draw.grown_alloc _ (.cells #[.int .i64 0, .int .i64 0] 24) none))
  have P := Lib.hid ((Blk.new w #[.int .i64 n, .int .i64 s] 24).keptN (Draw.grown_alloc _ (.cells #[.int .i64 0, .int .i64 0] 24) none))
  have R := Lib.hid (blk_new2 w (.cells #[.int .i64 n, .int .i64 s] 24) #[.int .i64 0, .int .i64 0] 24)
  have HO := Lib.hid ho; clear ho
  have HF := Lib.hid hf; clear hf
  go_enter Try.func27, Try.ntmps27
  go_wp2_with fail
  refine (icof_yes _ n s HO.out).mono ?_
  rintro e w1 ⟨b, rfl, hc, hb, hg⟩
  have C := Lib.hid hc
  have hR := R.out.lt
  replace G := Lib.hid (gtr G.out hg)
  replace R := Lib.hid (R.out.keptN hg)
  clear hg
  clear hc
  go_wp2_with fail
  refine (ikeep_yes _ b n s C.out HO.out HF.out).mono ?_
  rintro e w2 ⟨rfl, hc, hg⟩
  replace C := Lib.hid hc
  replace G := Lib.hid (grown_new G.out (by omega) hg)
  replace R := Lib.hid (R.out.kept hg (by intro e; have e := Option.some.inj e; omega))
  clear hg
  clear hc
  go_wp2_with fail
  refine (istate _ b _ _ C.out).mono ?_
  rintro e w3 ⟨rfl, hc, hg⟩
  clear C hc
  replace G := Lib.hid (grown_new G.out (by omega) hg)
  replace R := Lib.hid (R.out.kept hg (by intro e; have e := Option.some.inj e; omega))
  clear hg
  go_wp2_with (first
    | (refine wpList_store_blk rfl 24 (.tmp 2) (.tmp 17) _ _ _ 24 R.out rfl rfl rfl rfl (by kernel_rfl) (by simp [Value.oneCell']) rfl ?_; intro V hgV hRV; have HGV := Lib.hid hgV; have HRV := Lib.hid hRV; clear hgV hRV))
  try simp only [Exit.inBlock, Exit.then]
  refine bodyPost_ret (ret_bkb rfl _ rfl HRV.out) rfl ?_
  exact ⟨rfl, grown_new G.out (by omega) HGV.out⟩
set_option maxHeartbeats 1000000 in
theorem ibtake_bad (w : World) (n s : Int) (ho : ¬ Ok n s) : Calls Try.prog 22 #[.agg #[.int .i64 n, .int .i64 s]] w fun e w' => e = .returned (.tuple #[.int .i64 0, .agg #[.int .i64 0, .int .i64 0], .bool false]) ∧ w.grownBy w' none := by
  have G := Lib.hid (gtr (Draw.grown_alloc w (.cells #[.int .i64 n, .int .i64 s] 24) none) (Draw.grown_alloc _ (.cells #[.int .i64 0, .int .i64 0] 24) none))
  have P := Lib.hid ((Blk.new w #[.int .i64 n, .int .i64 s] 24).keptN (Draw.grown_alloc _ (.cells #[.int .i64 0, .int .i64 0] 24) none))
  have R := Lib.hid (blk_new2 w (.cells #[.int .i64 n, .int .i64 s] 24) #[.int .i64 0, .int .i64 0] 24)
  have HO := Lib.hid ho; clear ho
  go_enter Try.func22, Try.ntmps22
  go_wp2_with fail
  refine (icof_no _ n s HO.out).mono ?_
  rintro e w1 ⟨rfl, hg⟩
  replace G := Lib.hid (gtr G.out hg)
  replace R := Lib.hid (R.out.keptN hg)
  clear hg
  go_wp2_with (first
    | (refine wpList_store_blk rfl 24 (.tmp 3) (.tmp 15) _ _ _ 24 R.out rfl rfl rfl rfl (by kernel_rfl) (by simp [Value.oneCell']) rfl ?_; intro V hgV hRV; have HGV := Lib.hid hgV; have HRV := Lib.hid hRV; clear hgV hRV))
  try simp only [Exit.inBlock, Exit.then]
  refine bodyPost_ret (ret_nbb rfl _ rfl HRV.out) rfl ?_
  exact ⟨rfl, grown_new G.out (by omega) HGV.out⟩
set_option maxHeartbeats 1000000 in
theorem ibtake_no (w : World) (n s : Int) (ho : Ok n s) (hf : n = s) : Calls Try.prog 22 #[.agg #[.int .i64 n, .int .i64 s]] w fun e w' => e = .returned (.tuple #[.int .i64 0, .agg #[.int .i64 n, .int .i64 s], .bool false]) ∧ w.grownBy w' none := by
  have G := Lib.hid (gtr (Draw.grown_alloc w (.cells #[.int .i64 n, .int .i64 s] 24) none) (Draw.grown_alloc _ (.cells #[.int .i64 0, .int .i64 0] 24) none))
  have P := Lib.hid ((Blk.new w #[.int .i64 n, .int .i64 s] 24).keptN (Draw.grown_alloc _ (.cells #[.int .i64 0, .int .i64 0] 24) none))
  have R := Lib.hid (blk_new2 w (.cells #[.int .i64 n, .int .i64 s] 24) #[.int .i64 0, .int .i64 0] 24)
  have HO := Lib.hid ho; clear ho
  have HF := Lib.hid hf; clear hf
  go_enter Try.func22, Try.ntmps22
  go_wp2_with fail
  refine (icof_yes _ n s HO.out).mono ?_
  rintro e w1 ⟨b, rfl, hc, hb, hg⟩
  have C := Lib.hid hc
  have hR := R.out.lt
  replace G := Lib.hid (gtr G.out hg)
  replace R := Lib.hid (R.out.keptN hg)
  clear hg
  clear hc
  go_wp2_with fail
  refine (itake_no _ b n s C.out HF.out).mono ?_
  rintro e w2 ⟨rfl, hc, hg⟩
  replace C := Lib.hid hc
  replace G := Lib.hid (grown_new G.out (by omega) hg)
  replace R := Lib.hid (R.out.kept hg (by intro e; have e := Option.some.inj e; omega))
  clear hg
  clear hc
  go_wp2_with fail
  refine (istate _ b _ _ C.out).mono ?_
  rintro e w3 ⟨rfl, hc, hg⟩
  clear C hc
  replace G := Lib.hid (grown_new G.out (by omega) hg)
  replace R := Lib.hid (R.out.kept hg (by intro e; have e := Option.some.inj e; omega))
  clear hg
  go_wp2_with (first
    | (refine wpList_store_blk rfl 24 (.tmp 3) (.tmp 23) _ _ _ 24 R.out rfl rfl rfl rfl (by kernel_rfl) (by simp [Value.oneCell']) rfl ?_; intro V hgV hRV; have HGV := Lib.hid hgV; have HRV := Lib.hid hRV; clear hgV hRV))
  try simp only [Exit.inBlock, Exit.then]
  refine bodyPost_ret (ret_nbb rfl _ rfl HRV.out) rfl ?_
  exact ⟨rfl, grown_new G.out (by omega) HGV.out⟩
set_option maxHeartbeats 1000000 in
theorem ibtake_yes (w : World) (n s : Int) (ho : Ok n s) (hf : n ≠ s) : Calls Try.prog 22 #[.agg #[.int .i64 n, .int .i64 s]] w fun e w' => e = .returned (.tuple #[.int .i64 n, .agg #[.int .i64 (n + 1), .int .i64 s], .bool true]) ∧ w.grownBy w' none := by
  have G := Lib.hid (gtr (Draw.grown_alloc w (.cells #[.int .i64 n, .int .i64 s] 24) none) (Draw.grown_alloc _ (.cells #[.int .i64 0, .int .i64 0] 24) none))
  have P := Lib.hid ((Blk.new w #[.int .i64 n, .int .i64 s] 24).keptN (Draw.grown_alloc _ (.cells #[.int .i64 0, .int .i64 0] 24) none))
  have R := Lib.hid (blk_new2 w (.cells #[.int .i64 n, .int .i64 s] 24) #[.int .i64 0, .int .i64 0] 24)
  have HO := Lib.hid ho; clear ho
  have HF := Lib.hid hf; clear hf
  go_enter Try.func22, Try.ntmps22
  go_wp2_with fail
  refine (icof_yes _ n s HO.out).mono ?_
  rintro e w1 ⟨b, rfl, hc, hb, hg⟩
  have C := Lib.hid hc
  have hR := R.out.lt
  replace G := Lib.hid (gtr G.out hg)
  replace R := Lib.hid (R.out.keptN hg)
  clear hg
  clear hc
  go_wp2_with fail
  refine (itake_yes _ b n s C.out HO.out HF.out).mono ?_
  rintro e w2 ⟨rfl, hc, hg⟩
  replace C := Lib.hid hc
  replace G := Lib.hid (grown_new G.out (by omega) hg)
  replace R := Lib.hid (R.out.kept hg (by intro e; have e := Option.some.inj e; omega))
  clear hg
  clear hc
  go_wp2_with fail
  refine (istate _ b _ _ C.out).mono ?_
  rintro e w3 ⟨rfl, hc, hg⟩
  clear C hc
  replace G := Lib.hid (grown_new G.out (by omega) hg)
  replace R := Lib.hid (R.out.kept hg (by intro e; have e := Option.some.inj e; omega))
  clear hg
  go_wp2_with (first
    | (refine wpList_store_blk rfl 24 (.tmp 3) (.tmp 23) _ _ _ 24 R.out rfl rfl rfl rfl (by kernel_rfl) (by simp [Value.oneCell']) rfl ?_; intro V hgV hRV; have HGV := Lib.hid hgV; have HRV := Lib.hid hRV; clear hgV hRV))
  try simp only [Exit.inBlock, Exit.then]
  refine bodyPost_ret (ret_nbb rfl _ rfl HRV.out) rfl ?_
  exact ⟨rfl, grown_new G.out (by omega) HGV.out⟩
end Con
end Go.Proofs.Yteibklnonlapoaa
