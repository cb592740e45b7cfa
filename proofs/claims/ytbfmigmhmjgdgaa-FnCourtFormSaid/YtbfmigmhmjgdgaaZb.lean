/-
  Courts in memory: slices of ints of a call's own, whole slices appended, copies; a court's block.
-/
import Derived.Test.YtbfmigmhmjgdgaaZa
namespace Go.Proofs.Ytbfmigmhmjgdgaa
namespace Ct
open Go.RowKit Alg Mem Con Draw
set_option linter.unusedVariables false

/-- What a slice may be. -/
def SlQ (a : Option Addr) (n c : Nat) : Prop := (∃ ad, a = some ad) ∨ (a = none ∧ n = 0)
theorem ints_slQ {w : World} {a : Option Addr} {n c : Nat} {z : Nat → Int} (h : Ints w a n z) : SlQ a n c := by
  rcases h with h | ⟨b, off, e, _⟩
  · cases a with
    | none => exact .inr ⟨rfl, h⟩
    | some ad => exact .inl ⟨ad, rfl⟩
  · exact .inl ⟨_, e⟩
theorem ints_newsQ {w : World} {ad : Addr} {n : Nat} {z : Nat → Int} (hI : Ints w (some ad) n z) : ∀ j u, (vals z n)[j]? = some u → w.cell? (ad.add j) = some u := by
  rcases hI with h0 | ⟨b, off, e, hb, hc⟩
  · subst h0; intro j u hu; simp [vals] at hu
  · injection e with e; subst e; exact cells_at hc
theorem append_owned_noneQ {P : Program} {w : World} (base : Nat) (t ty e : TypeId) (i : TypeInfo) (size : Nat) (ht : P.underlying t = some (.slice e)) (hi : P.info? e = some i)
    (v : Value) (n c : Nat) (xs : List Value) (hown : w.ownsRow base e size v n xs) :
    (Builtin.append_ #[t, t] ty #[v, .slice none 0 c]).run P w = .ok v w := by
  rcases hown.2 with ⟨rfl, rfl⟩ | ⟨g, cap, cur, rfl, _, _, hnc, _⟩
  · simp [Builtin.append_, run_underlying ht, sizeOf, typeInfo, hi, Builtin.lenOf, Builtin.firstCells]
  · simp [Builtin.append_, run_underlying ht, sizeOf, typeInfo, hi, Builtin.lenOf, Builtin.firstCells, hnc, storeCells]
theorem wpList_append_noneQ {P : Program} {w : World} {ops : Array Oper} {rest : List Oper} {o : Oper} {a : Act} {Q : Exit → Act → World → Prop} (hgd : o.guard = none) (s x : Operand) (t : TypeId)
    (ho : o.op = .call { callee := .builtin .append, args := #[s, x], argTypes := #[t, t] })
    (base : Nat) (e : TypeId) (i : TypeInfo) (size : Nat) (ht : P.underlying t = some (.slice e)) (hi : P.info? e = some i)
    (v : Value) (n c : Nat) (xs : List Value) (hs : a.eval s = v) (hown : w.ownsRow base e size v n xs) (hx : a.eval x = .slice none 0 c)
    (h : wpList P ops Q rest (a.put o.dst v) w) : wpList P ops Q (o :: rest) a w := by
  refine wpList_plain hgd fun K hK => ?_
  have hrun := append_owned_noneQ (P := P) (w := w) base t o.type e i size ht hi v n c xs hown
  unfold Oper.wp
  simp [execOp, ho, resolve, invoke, builtin, hs, hx, hrun, Result.andThen]
  exact hK _ _ h
/-- A slice of ints of the call's own, or none. -/
def OEQ (w : World) (lo : Nat) (a : Option Addr) (n c : Nat) (z : Nat → Int) : Prop := w.ownsRow lo 3 1 (.slice a n c) n (vals z n)
theorem OEQ.sl {w : World} {lo : Nat} {a : Option Addr} {n c : Nat} {z : Nat → Int} (h : OEQ w lo a n c z) : SlQ a n c := by
  rcases h.2 with ⟨hv, h0⟩ | ⟨g, c', cur, hv, _⟩
  · injection hv with e1 e2 e3; exact .inr ⟨e1, e2⟩
  · injection hv with e1 e2 e3; exact .inl ⟨_, e1⟩
theorem OEQ.ints {w : World} {lo : Nat} {a : Option Addr} {n c : Nat} {z : Nat → Int} (h : OEQ w lo a n c z) : Ints w a n z := by
  rcases h.2 with ⟨hv, h0⟩ | ⟨g, c', cur, hv, _, _, hn, _⟩
  · exact .inl h0
  · injection hv with e1 e2 e3; subst e1
    refine .inr ⟨g, 0, rfl, (World.ownsRow.lt h g rfl).2, fun j hj => ?_⟩
    rw [Nat.zero_add]
    exact (World.ownsRow.cellAt h j (by omega)).trans (vals_get z hj)
theorem OEQ.lt {w : World} {lo : Nat} {a : Option Addr} {n c : Nat} {z : Nat → Int} (h : OEQ w lo a n c z) : ∀ b off, a = some ⟨b, off, none⟩ → lo ≤ b ∧ b < w.heap.size := fun b off e => by
  subst e; exact World.ownsRow.lt h b rfl
theorem OEQ.kept {w w' : World} {lo : Nat} {a : Option Addr} {n c : Nat} {z : Nat → Int} {r : Option Nat} (h : OEQ w lo a n c z) (hg : w.grownBy w' r) (hr : ∀ g, r = some g → g < lo) : OEQ w' lo a n c z := by
  refine World.ownsRow.kept h hg ?_
  cases hv : (Value.slice a n c).ownBlock with
  | none => exact .inl rfl
  | some b => right; intro e; have := hr b e.symm; have := (World.ownsRow.lt h b hv).1; omega
theorem OEQ.keptN {w w' : World} {lo : Nat} {a : Option Addr} {n c : Nat} {z : Nat → Int} (h : OEQ w lo a n c z) (hg : w.grownBy w' none) : OEQ w' lo a n c z := h.kept hg (fun g e => by cases e)
theorem OEQ.lower {w : World} {lo lo' : Nat} {a : Option Addr} {n c : Nat} {z : Nat → Int} (h : OEQ w lo a n c z) (hl : lo' ≤ lo) : OEQ w lo' a n c z := owns_lower h hl
/-- Kept though a struct's block is written. -/
theorem OEQ.keptC {w w' : World} {lo : Nat} {a : Option Addr} {n c b : Nat} {z : Nat → Int} {vs : Array Value} {T : TypeId} (h : OEQ w lo a n c z) (hb : Blk w b vs T) (hT : T ≠ 3) (hg : w.grownBy w' (some b)) : OEQ w' lo a n c z := by
  refine World.ownsRow.kept h hg ?_
  rcases h.2 with ⟨hv, _⟩ | ⟨g, c', cur, hv, _, hcur, _⟩
  · rw [hv]; exact .inl rfl
  · rw [hv]
    right
    intro e
    have e1 : g = b := by simpa [Value.ownBlock] using e
    subst e1
    have h2 : w.heap[g]? = some (.cells vs T (0, 0)) := hb
    rw [hcur] at h2
    injection h2 with h3
    injection h3 with _ h4 _
    exact hT h4.symm
theorem own_sliceQ {w : World} {lo n : Nat} {z : Nat → Int} {v : Value} (h : w.ownsRow lo 3 1 v n (vals z n)) : ∃ a c, v = .slice a n c := by
  rcases h.2 with ⟨hv, h0⟩ | ⟨g, c', cur, hv, _⟩
  · exact ⟨none, 0, by rw [hv, h0]⟩
  · exact ⟨_, _, hv⟩
theorem OEQ.nil (w : World) (lo : Nat) (z : Nat → Int) : OEQ w lo none 0 0 z := World.ownsRow_nil w lo _ _
theorem vals_congr {z y : Nat → Int} {n : Nat} (h : ∀ j, j < n → z j = y j) : vals z n = vals y n := by
  unfold vals
  exact List.map_congr_left fun j hj => by rw [h j (by simpa using hj)]
theorem OEQ.congr {w : World} {lo : Nat} {a : Option Addr} {n c : Nat} {z y : Nat → Int} (h : OEQ w lo a n c z) (he : ∀ j, j < n → z j = y j) : OEQ w lo a n c y := by
  unfold OEQ at h ⊢; rw [← vals_congr he]; exact h
set_option maxRecDepth 100000 in
theorem wpList_append_wholeQ {ops : Array Oper} {rest : List Oper} {o : Oper} {act : Act} {w : World} {Q : Exit → Act → World → Prop} (hgd : o.guard = none) (s x : Operand)
    (ho : o.op = .call { callee := .builtin .append, args := #[s, x], argTypes := #[23, 23] }) (base g : Nat) (hs : act.eval s = .slice (some ⟨g, 0, none⟩) 0 0) (hown : w.ownsRow base 3 1 (.slice (some ⟨g, 0, none⟩) 0 0) 0 [])
    (a : Option Addr) (n c : Nat) (z : Nat → Int) (hx : act.eval x = .slice a n c) (hI : Ints w a n z) (hsl : SlQ a n c) (hn : n ≤ 2000000) (hbase : base ≤ w.heap.size)
    (h : ∀ b c' w', OEQ w' base (some ⟨b, 0, none⟩) n c' z → w.grownBy w' (some g) → wpList Try.prog ops Q rest (act.put o.dst (.slice (some ⟨b, 0, none⟩) n c')) w') : wpList Try.prog ops Q (o :: rest) act w := by
  obtain ⟨i0, hi, hz0, hz1, hz2⟩ := info_parts info_int
  rcases hsl with ⟨ad, rfl⟩ | ⟨rfl, rfl⟩
  · refine wpList_append_own _ hgd s x _ ho base 3 i0 (.int .i64 0) 1 8 und_ints hi hz0 hz1 hz2 rfl (by decide) _ 0 [] hs hown ad n c (vals z n) hx (by simp [vals_length]) (ints_newsQ hI) (one_cells _ _) (by unfold maxLen; omega) (by omega) hbase ?_
    intro v' w' ho' hg' hv'
    rw [Nat.zero_add, List.nil_append] at ho'
    rcases ho'.2 with ⟨hv, _⟩ | ⟨g', c', cur, hv, _⟩
    · have := (hv'.1 hv).1; cases this
    · subst hv
      exact h g' c' w' ho' hg'
  · refine wpList_append_noneQ hgd s x _ ho base 3 i0 1 und_ints hi _ 0 c [] hs hown hx ?_
    exact h g 0 w hown (grown_refl w _)
/-- One more number appended to a slice of the call's own. -/
theorem wpList_append_oneQ {ops : Array Oper} {rest : List Oper} {o : Oper} {act : Act} {w : World} {Q : Exit → Act → World → Prop} (hgd : o.guard = none) (s x : Operand)
    (ho : o.op = .call { callee := .builtin .append, args := #[s, x], argTypes := #[23, 23] }) (lo : Nat) (a : Option Addr) (n c : Nat) (z : Nat → Int) (hs : act.eval s = .slice a n c) (hown : OEQ w lo a n c z)
    (ad : Addr) (y : Int) (hx : act.eval x = .slice (some ad) 1 1) (hc : ∀ j u, [Value.int .i64 y][j]? = some u → w.cell? (ad.add j) = some u) (hn : n ≤ 2000000) (hlo : lo ≤ w.heap.size)
    (h : ∀ b c' w', OEQ w' lo (some ⟨b, 0, none⟩) (n + 1) c' (addz z n y) → w.grownBy w' (Value.slice a n c).ownBlock → wpList Try.prog ops Q rest (act.put o.dst (.slice (some ⟨b, 0, none⟩) (n + 1) c')) w') : wpList Try.prog ops Q (o :: rest) act w := by
  obtain ⟨i0, hi, hz0, hz1, hz2⟩ := info_parts info_int
  refine wpList_append_own _ hgd s x _ ho lo 3 i0 (.int .i64 0) 1 8 und_ints hi hz0 hz1 hz2 rfl (by decide) _ n (vals z n) hs hown ad 1 1 [.int .i64 y] hx rfl hc (by simp [Value.oneCell']) (by unfold maxLen; omega) (by omega) hlo ?_
  intro v' w' ho' hg' hv'
  have e : vals z n ++ [.int .i64 y] = vals (addz z n y) (n + 1) := by
    have h1 : vals (addz z n y) (n + 1) = vals (addz z n y) n ++ [.int .i64 (addz z n y n)] := by simp [vals, List.range_succ]
    rw [h1, addz_at, vals_congr (z := addz z n y) (y := z) fun j hj => addz_lt hj]
  rw [e] at ho'
  rcases ho'.2 with ⟨hv, h0⟩ | ⟨g', c', cur, hv, _⟩
  · omega
  · subst hv
    exact h g' c' w' ho' hg'
set_option maxRecDepth 100000 in
theorem clone_intQ (w : World) (a : Option Addr) (len cap : Nat) (z : Nat → Int) (hI : Ints w a len z) (hl : len ≤ 2000000) :
    Calls Try.prog 60 #[.slice a len cap] w fun e w' => ∃ a' c', e = .returned (.slice a' len c') ∧ OEQ w' w.heap.size a' len c' z ∧ w.grownBy w' none := by
  have hq : ∀ (w : World) (a : Option Addr) (n c n' c' : Nat), (binOp .eql 23 (.slice a n c) (.slice none n' c')).run Try.prog w = .ok (.bool a.isNone) w := fun w a n c n' c' => Lib.run_eql_slice_nil w _ _ a n c n' c' und_ints
  rcases ints_slQ (c := cap) hI with ⟨ad, rfl⟩ | ⟨rfl, rfl⟩
  · have HI := Lib.hid (hI.kept (Draw.grown_alloc w (.cells #[] 3) none)); clear hI
    have he := (row_empty w 3 z).owns
    have E1 := Lib.hid he; clear he
    go_enter Try.func60, Try.ntmps60
    go_wp2_with (at_builtin; refine wpList_append_wholeQ rfl _ _ rfl w.heap.size w.heap.size rfl E1.out (some ad) len cap z rfl HI.out (.inl ⟨ad, rfl⟩) hl (by simp) ?_; intro b1 c1 w1 hI1 hg1; have HI1 := Lib.hid hI1; have HG1 := Lib.hid hg1; clear hI1 hg1)
    go_ret
    exact ⟨_, _, rfl, HI1.out, grown_new (Draw.grown_alloc _ _ _) (Nat.le_refl _) HG1.out⟩
  · clear hI
    go_enter Try.func60, Try.ntmps60
    go_wp2
    go_ret
    exact ⟨_, _, rfl, OEQ.nil _ _ _, Draw.grown_refl _ _⟩
/-! What else may be written where a call appends to a slice of its own. -/
theorem grow_ownQ {w w1 w2 : World} {r : Option Nat} (hg : w.grownBy w1 none) (h2 : w1.grownBy w2 r) : w.grownBy w2 r := gtr' (by
  refine ⟨hg.os, hg.tape, hg.output, hg.size, fun k hk _ => hg.block k hk (by simp)⟩) h2
theorem blk_keptO {w w' : World} {b lo : Nat} {vs : Array Value} {T : TypeId} {a : Option Addr} {n c : Nat} {z : Nat → Int} (h : Blk w b vs T) (hO : OEQ w lo a n c z) (hg : w.grownBy w' (Value.slice a n c).ownBlock) (hT : T ≠ 3) : Blk w' b vs T := by
  refine h.kept hg ?_
  rcases hO.2 with ⟨hv, _⟩ | ⟨g, c', cur, hv, _, hcur, _⟩
  · rw [hv]; simp [Value.ownBlock]
  · rw [hv]
    intro e
    have e1 : b = g := by simpa [Value.ownBlock] using e
    subst e1
    have h2 : w.heap[b]? = some (.cells vs T (0, 0)) := h
    rw [hcur] at h2
    injection h2 with h3
    injection h3 with _ h4 _
    exact hT h4.symm
theorem grown_ownQ {W w w' : World} {a : Option Addr} {n c : Nat} {z : Nat → Int} (hW : W.grownBy w none) (hO : OEQ w W.heap.size a n c z) (hg : w.grownBy w' (Value.slice a n c).ownBlock) : W.grownBy w' none := by
  cases hv : (Value.slice a n c).ownBlock with
  | none => rw [hv] at hg; exact gtr hW hg
  | some b => rw [hv] at hg; exact grown_new hW (World.ownsRow.lt hO b hv).1 hg
/-! A court's block. -/
structure C6 (w : World) (b : Nat) (v0 v1 v2 v3 v4 v5 : Value) : Prop where
  c0 : w.cell? ⟨b, 0, none⟩ = some v0
  c1 : w.cell? ⟨b, 1, none⟩ = some v1
  c2 : w.cell? ⟨b, 2, none⟩ = some v2
  c3 : w.cell? ⟨b, 3, none⟩ = some v3
  c4 : w.cell? ⟨b, 4, none⟩ = some v4
  c5 : w.cell? ⟨b, 5, none⟩ = some v5
  f0 : w.frozen? ⟨b, 0, none⟩ = false
  f1 : w.frozen? ⟨b, 1, none⟩ = false
  f2 : w.frozen? ⟨b, 2, none⟩ = false
  f3 : w.frozen? ⟨b, 3, none⟩ = false
  f4 : w.frozen? ⟨b, 4, none⟩ = false
  f5 : w.frozen? ⟨b, 5, none⟩ = false
theorem c6_of {w : World} {b : Nat} {v0 v1 v2 v3 v4 v5 : Value} {T : TypeId} (h : Blk w b #[v0, v1, v2, v3, v4, v5] T) : C6 w b v0 v1 v2 v3 v4 v5 := ⟨h.cell 0, h.cell 1, h.cell 2, h.cell 3, h.cell 4, h.cell 5, h.free 0, h.free 1, h.free 2, h.free 3, h.free 4, h.free 5⟩
theorem size_court : (Try.prog.info? 27).map (·.size) = some 6 := by kernel_rfl
theorem size_claim : (Try.prog.info? 25).map (·.size) = some 3 := by kernel_rfl
theorem ret_court {fn : Func} {p : Tmp} (h : fn.results = #[.cell p 27]) (tmps : Array Value) {w : World} {b : Nat} {v0 v1 v2 v3 v4 v5 : Value} {T : TypeId} (hp : tmps.getD p undef = .pointer (some ⟨b, 0, none⟩)) (hb : Blk w b #[v0, v1, v2, v3, v4, v5] T) :
    (results fn tmps).run Try.prog w = .ok (.agg #[v0, v1, v2, v3, v4, v5]) w :=
  results_cell_row h tmps w b T #[v0, v1, v2, v3, v4, v5] (0, 0) _ hp hb Try.underlying27 rfl size_court
theorem ret_court2 {fn : Func} {p u : Tmp} (h : fn.results = #[.cell p 27, .tmp u]) (tmps : Array Value) {w : World} {b : Nat} {v0 v1 v2 v3 v4 v5 : Value} {T : TypeId} (hp : tmps.getD p undef = .pointer (some ⟨b, 0, none⟩)) (hb : Blk w b #[v0, v1, v2, v3, v4, v5] T) :
    (results fn tmps).run Try.prog w = .ok (.tuple #[.agg #[v0, v1, v2, v3, v4, v5], tmps.getD u undef]) w := by
  have hp' : tmps[p]?.getD undef = .pointer (some ⟨b, 0, none⟩) := by simpa using hp
  simp [results, h, hp', asAddr, run_loadVar_row w b T 27 #[v0, v1, v2, v3, v4, v5] (0, 0) _ hb Try.underlying27 rfl size_court, Result.andThen]
/-! A store, by what it leaves. -/
theorem blk_thereQ {w : World} {b k n : Nat} {c : Array Value} {T : TypeId} (h : Blk w b c T) (hn : k + n ≤ c.size) : w.there b k n := fun j hj =>
  ⟨by rw [h.cell (k + j)]; simp; omega, h.free (k + j)⟩
theorem run_storeVarQ {P : Program} (w : World) (b o : Nat) (ty : TypeId) (v : Value) (cells : Array Value) (hv : v.cells = cells) (ht : w.there b o cells.size) (hi : (P.info? ty).map (·.size) = some cells.size) (h1 : cells.all (·.oneCell') = true) :
    (storeVar ty ⟨b, o, none⟩ v).run P w = .ok () (w.setCells b o cells.toList) := by
  have := run_storeCells_cells (P := P) b o cells.toList 0 w (fun j hj => by simpa using (ht j (by simpa using hj)).1) (fun j hj => by simpa using (ht j (by simpa using hj)).2)
    (fun v hv => (Array.all_eq_true_iff_forall_mem.1 h1) v (by simpa using hv))
  cases hq : P.info? ty with
  | none => simp [hq] at hi
  | some i =>
    have hs : cells.size = i.size := by simp [hq] at hi; omega
    simp only [Nat.add_zero] at this
    simp [storeVar, sizeOf, typeInfo, hq, hv, hs, this]
theorem wp_store_atQ {P : Program} {op : Oper} {a : Act} {w : World} {K : Act → World → Prop} {Q : Exit → Act → World → Prop} (ty : TypeId) (x y : Operand) (b k : Nat) (v : Value) (cells old new : Array Value) (T : TypeId) (hb : Blk w b old T) (ho : op.op = .store ty x y)
    (hx : a.eval x = .pointer (some ⟨b, k, none⟩)) (hy : a.eval y = v) (hv : v.cells = cells) (hs : k + cells.size ≤ old.size) (hi : (P.info? ty).map (·.size) = some cells.size) (h1 : cells.all (·.oneCell') = true) (hu : updAll cells.toList k old = new)
    (h : ∀ w', w.grownBy w' (some b) → Blk w' b new T → K (a.put op.dst undef) w') : op.wp P a w K Q := by
  have h9 := blk_setCells cells.toList k w old hb
  rw [hu] at h9
  have h8 := h _ (grown_setCells _ _ _ _) h9
  unfold Oper.wp execOp
  simp only [ho, hx, hy, Instr.storeAt, Instr.sureAddr, Sem.run_bind, Sem.run_pure, Result.andThen_ok, run_storeVarQ w b k ty v cells hv (blk_thereQ hb hs) hi h1]
  exact h8
theorem wpList_store_atQ {P : Program} {ops : Array Oper} {rest : List Oper} {op : Oper} {a : Act} {w : World} {Q : Exit → Act → World → Prop} (hgd : op.guard = none) (ty : TypeId) (x y : Operand) (b k : Nat) (v : Value) (cells old new : Array Value) (T : TypeId) (hb : Blk w b old T) (ho : op.op = .store ty x y)
    (hx : a.eval x = .pointer (some ⟨b, k, none⟩)) (hy : a.eval y = v) (hv : v.cells = cells) (hs : k + cells.size ≤ old.size) (hi : (P.info? ty).map (·.size) = some cells.size) (h1 : cells.all (·.oneCell') = true) (hu : updAll cells.toList k old = new)
    (h : ∀ w', w.grownBy w' (some b) → Blk w' b new T → wpList P ops Q rest (a.put op.dst undef) w') : wpList P ops Q (op :: rest) a w :=
  wpList_plain hgd fun _ hK => wp_store_atQ ty x y b k v cells old new T hb ho hx hy hv hs hi h1 hu fun w' h1 h2 => hK _ _ (h w' h1 h2)
/-- A court that a call answers. -/
def GotC (w : World) (C : CV) (e : Ending) (w' : World) : Prop :=
  ∃ a c, e = .returned (.agg #[.int .i64 C.many, .int .i64 C.need, .bool C.on, .int .i64 C.at_, .slice a C.n c, .bool C.veto]) ∧ OEQ w' w.heap.size a C.n c C.f ∧ w.grownBy w' none
/-- A court, and whether it was done. -/
def GotC2 (w : World) (C : CV) (ok : Bool) (e : Ending) (w' : World) : Prop :=
  ∃ a c, e = .returned (.tuple #[.agg #[.int .i64 C.many, .int .i64 C.need, .bool C.on, .int .i64 C.at_, .slice a C.n c, .bool C.veto], .bool ok]) ∧ OEQ w' w.heap.size a C.n c C.f ∧ w.grownBy w' none
end Ct
end Go.Proofs.Ytbfmigmhmjgdgaa
