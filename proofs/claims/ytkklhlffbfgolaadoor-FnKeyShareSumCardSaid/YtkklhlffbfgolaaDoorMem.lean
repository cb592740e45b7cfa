/-
  Words on slices of numbers in memory: what a slice holds, by the index; a row of the call's own; how both go on while memory grows.
-/
import Derived.Test.YtkklhlffbfgolaaDoorDrawNum
import Derived.Test.YtkklhlffbfgolaaDoorRunKit
import Derived.Deep.OwnRows
import Derived.Deep.Onto
import Derived.LoopTactic
import Derived.OwnWalk
namespace Go.Proofs.YtkklhlffbfgolaaDoor
namespace Mem
open Go.RowKit Alg
set_option linter.unusedVariables false

/-- The slice at a, of len numbers, holds z 0, z 1, .. -/
def Ints (w : World) (a : Option Addr) (len : Nat) (z : Nat → Int) : Prop :=
  len = 0 ∨ ∃ b off, a = some ⟨b, off, none⟩ ∧ b < w.heap.size ∧ ∀ j, j < len → w.cell? ⟨b, off + j, none⟩ = some (.int .i64 (z j))
theorem Ints.zero (w : World) (a : Option Addr) (z : Nat → Int) : Ints w a 0 z := .inl rfl
theorem Ints.keptB {w w' : World} {a : Option Addr} {len : Nat} {z : Nat → Int} (h : Ints w a len z) (hb : ∀ k, k < w.heap.size → w'.heap[k]? = w.heap[k]?) (hs : w.heap.size ≤ w'.heap.size) : Ints w' a len z := by
  rcases h with h | ⟨b, off, ha, hl, hc⟩
  · exact .inl h
  · exact .inr ⟨b, off, ha, by omega, fun j hj => by rw [World.cell?_of_block (w := w) (w' := w') (hb b hl)]; exact hc j hj⟩
theorem Ints.kept {w w' : World} {a : Option Addr} {len : Nat} {z : Nat → Int} (h : Ints w a len z) (hg : w.grownBy w' none) : Ints w' a len z :=
  h.keptB (fun k hk => hg.block k hk (by simp)) hg.size
theorem Ints.since {w0 w w' : World} {a : Option Addr} {len : Nat} {z : Nat → Int} (h : Ints w a len z) (hs : w.Since w.heap.size w') : Ints w' a len z :=
  h.keptB (fun k hk => hs.block k hk) hs.size
theorem Ints.congr {w : World} {a : Option Addr} {len : Nat} {z y : Nat → Int} (h : Ints w a len z) (e : ∀ j, j < len → z j = y j) : Ints w a len y := by
  rcases h with h | ⟨b, off, ha, hl, hc⟩
  · exact .inl h
  · exact .inr ⟨b, off, ha, hl, fun j hj => by rw [hc j hj, e j hj]⟩
theorem Ints.less {w : World} {a : Option Addr} {len k : Nat} {z : Nat → Int} (h : Ints w a len z) (hk : k ≤ len) : Ints w a k z := by
  rcases h with h | ⟨b, off, ha, hl, hc⟩
  · exact .inl (by omega)
  · exact .inr ⟨b, off, ha, hl, fun j hj => hc j (by omega)⟩
theorem Ints.ptr {w : World} {a : Option Addr} {len : Nat} {z : Nat → Int} (h : Ints w a len z) (hl : 1 ≤ len) : ∃ b off, a = some ⟨b, off, none⟩ ∧ b < w.heap.size ∧ ∀ j, j < len → w.cell? ⟨b, off + j, none⟩ = some (.int .i64 (z j)) := by
  rcases h with h | h
  · omega
  · exact h
theorem Ints.drew {w : World} {a : Option Addr} {len : Nat} {z : Nat → Int} (h : Ints w a len z) (n : Nat) : Ints (w.drewN n) a len z := h.keptB (fun _ _ => rfl) (Nat.le_refl _)
/-- A slice that came in. -/
theorem ints_of {w : World} {a : Option Addr} {len cap : Nat} {zs : List Int}
    (h : (a = none ∧ len = 0 ∧ cap = 0 ∧ zs = []) ∨ ∃ x, a = some x ∧ len ≤ cap ∧ cap ≤ maxLen ∧ zs.length = cap ∧ (∀ i, i < zs.length → w.cell? (x.add i) = some (.int .i64 (zs.getD i 0))) ∧ ∀ n ∈ zs, (Lit.int .i64 n).wf = true) :
    Ints w a len (fun j => zs.getD j 0) ∧ len ≤ cap ∧ cap ≤ maxLen := by
  rcases h with ⟨rfl, rfl, rfl, rfl⟩ | ⟨x, rfl, hl, hm, hz, hc, hw⟩
  · exact ⟨.inl rfl, Nat.le_refl _, Nat.zero_le _⟩
  · refine ⟨?_, hl, hm⟩
    by_cases h0 : len = 0
    · exact .inl h0
    · obtain ⟨b, off, rfl, hcc⟩ := ints_at hc (by omega)
      refine .inr ⟨b, off, rfl, ?_, fun j hj => hcc j (by omega)⟩
      have h1 := hcc 0 (by omega)
      rcases Nat.lt_or_ge b w.heap.size with h' | h'
      · exact h'
      · simp [World.cell?, Array.getElem?_eq_none h'] at h1

theorem since_grown {w w' : World} (h : w.Since w.heap.size w') : w.grownBy w' none := ⟨h.os, h.tape, h.output, h.size, fun k hk _ => h.block k hk⟩
theorem grown_since {w w' : World} (h : w.grownBy w' none) : w.Since w.heap.size w' := ⟨h.os, h.tape, h.output, h.size, fun k hk => h.block k hk (by simp)⟩
/-- Two worlds one behind the other. -/
theorem gtr {a b c : World} (h : a.grownBy b none) (k : b.grownBy c none) : a.grownBy c none := Draw.grown_trans h k

/-- A slice of the call's own, whole: block b is its row, from its head, with cap cells. -/
structure Row (w : World) (lo : Nat) (E : TypeId) (b len cap : Nat) (z : Nat → Int) : Prop where
  from_ : lo ≤ b
  row : ∃ c, w.rowIs b E cap c ∧ ∀ j, j < len → c j = .int .i64 (z j)
  le : len ≤ cap
  most : cap ≤ maxLen
theorem Row.lt {w : World} {lo : Nat} {E : TypeId} {b len cap : Nat} {z : Nat → Int} (h : Row w lo E b len cap z) : b < w.heap.size := by
  obtain ⟨c, hr, _⟩ := h.row; exact hr.lt
theorem Row.ints {w : World} {lo : Nat} {E : TypeId} {b len cap : Nat} {z : Nat → Int} (h : Row w lo E b len cap z) : Ints w (some ⟨b, 0, none⟩) len z := by
  obtain ⟨c, hr, hc⟩ := h.row
  have hle := h.le
  exact .inr ⟨b, 0, rfl, hr.lt, fun j hj => by rw [Nat.zero_add, hr.cell (by omega), hc j hj]⟩
theorem Row.cell {w : World} {lo : Nat} {E : TypeId} {b len cap : Nat} {z : Nat → Int} (h : Row w lo E b len cap z) {j : Nat} (hj : j < len) : w.cell? ⟨b, j, none⟩ = some (.int .i64 (z j)) := by
  obtain ⟨c, hr, hc⟩ := h.row
  have hle := h.le
  rw [hr.cell (by omega), hc j hj]
theorem Row.frozen {w : World} {lo : Nat} {E : TypeId} {b len cap : Nat} {z : Nat → Int} (h : Row w lo E b len cap z) (j : Nat) : w.frozen? ⟨b, j, none⟩ = false := by
  obtain ⟨c, hr, hc⟩ := h.row; exact hr.frozen j
theorem Row.of_block {w w' : World} {lo : Nat} {E : TypeId} {b len cap : Nat} {z : Nat → Int} (h : Row w lo E b len cap z) (e : w'.heap[b]? = w.heap[b]?) : Row w' lo E b len cap z := by
  obtain ⟨c, hr, hc⟩ := h.row
  exact ⟨h.from_, ⟨c, hr.of_block e, hc⟩, h.le, h.most⟩
theorem Row.kept {w w' : World} {lo : Nat} {E : TypeId} {b len cap : Nat} {z : Nat → Int} {r : Option Nat} (h : Row w lo E b len cap z) (hg : w.grownBy w' r) (hne : some b ≠ r) : Row w' lo E b len cap z :=
  h.of_block (hg.block b h.lt hne)
theorem Row.keptN {w w' : World} {lo : Nat} {E : TypeId} {b len cap : Nat} {z : Nat → Int} (h : Row w lo E b len cap z) (hg : w.grownBy w' none) : Row w' lo E b len cap z :=
  h.kept hg (by simp)
theorem Row.lower {w : World} {lo lo' : Nat} {E : TypeId} {b len cap : Nat} {z : Nat → Int} (h : Row w lo E b len cap z) (hl : lo' ≤ lo) : Row w lo' E b len cap z := ⟨by have := h.from_; omega, h.row, h.le, h.most⟩
theorem Row.congr {w : World} {lo : Nat} {E : TypeId} {b len cap : Nat} {z y : Nat → Int} (h : Row w lo E b len cap z) (e : ∀ j, j < len → z j = y j) : Row w lo E b len cap y := by
  obtain ⟨c, hr, hc⟩ := h.row
  exact ⟨h.from_, ⟨c, hr, fun j hj => by rw [hc j hj, e j hj]⟩, h.le, h.most⟩
theorem Row.set {w : World} {lo : Nat} {E : TypeId} {b len cap : Nat} {z : Nat → Int} (h : Row w lo E b len cap z) (i : Nat) (v : Int) :
    Row (w.setCell ⟨b, i, none⟩ (.int .i64 v)) lo E b len cap (fun j => if j = i then v else z j) := by
  obtain ⟨c, hr, hc⟩ := h.row
  refine ⟨h.from_, ⟨_, hr.set i _, fun j hj => ?_⟩, h.le, h.most⟩
  by_cases e : j = i
  · simp [e]
  · simp [e, hc j hj]
theorem Row.alloc {w : World} {lo : Nat} {E : TypeId} {b len cap : Nat} {z : Nat → Int} (h : Row w lo E b len cap z) (o : Obj) : Row (w.alloc o) lo E b len cap z :=
  h.keptN (Draw.grown_alloc _ _ _)
/-- What make has laid. -/
theorem Row.made (w : World) (E : TypeId) (n : Nat) (hn : n ≤ maxLen) : Row (w.alloc (.cells (madeCells #[.int .i64 0] n) E)) w.heap.size E w.heap.size n n (fun _ => 0) :=
  ⟨Nat.le_refl _, ⟨_, World.rowIs_made w _ n E, fun _ _ => rfl⟩, Nat.le_refl _, hn⟩
theorem grown_set (w : World) (b i : Nat) (v : Value) : w.grownBy (w.setCell ⟨b, i, none⟩ v) (some b) :=
  ⟨rfl, rfl, rfl, by simp [World.setCell], fun k hk hne => heap_setCell_other w _ _ _ (by show k ≠ b; intro e; exact hne (by rw [e]))⟩
/-- A store into a block that is new leaves what was there. -/
theorem grown_new {a b c : World} {B : Nat} (h : a.grownBy b none) (hB : a.heap.size ≤ B) (k : b.grownBy c (some B)) : a.grownBy c none :=
  ⟨k.os.trans h.os, k.tape.trans h.tape, k.output.trans h.output, Nat.le_trans h.size k.size,
    fun i hi _ => (k.block i (Nat.lt_of_lt_of_le hi h.size) (by intro e; injection e with e; omega)).trans (h.block i hi (by simp))⟩
theorem grown_drew {w w' : World} {r : Option Nat} (h : w.grownBy w' r) (n : Nat) : w.grownBy (w'.drewN n) r := ⟨h.os, h.tape, h.output, h.size, h.block⟩
/-- A row of the call's own, in the words of the laws on append; and back. -/
def vals (z : Nat → Int) (n : Nat) : List Value := (List.range n).map fun j => .int .i64 (z j)
theorem vals_length (z : Nat → Int) (n : Nat) : (vals z n).length = n := by simp [vals]
theorem vals_get (z : Nat → Int) {n j : Nat} (h : j < n) : (vals z n)[j]? = some (.int .i64 (z j)) := by simp [vals, h]
theorem Row.owns {w : World} {lo : Nat} {E : TypeId} {b len cap : Nat} {z : Nat → Int} (h : Row w lo E b len cap z) : w.ownsRow lo E 1 (.slice (some ⟨b, 0, none⟩) len cap) len (vals z len) := by
  obtain ⟨c, ⟨cur, hb, hs, hg⟩, hc⟩ := h.row
  refine ⟨by rw [vals_length, Nat.mul_one], .inr ⟨b, cap, cur, rfl, h.from_, hb, h.le, h.most, by rw [hs, Nat.mul_one], ?_⟩⟩
  have hle := h.le
  apply List.ext_getElem?
  intro j
  rw [Nat.mul_one, List.getElem?_take]
  by_cases hj : j < len
  · rw [if_pos hj, vals_get z hj, Array.getElem?_toList, hg j (by omega), hc j hj]
  · rw [if_neg hj]; simp [vals, hj]
theorem row_of_owns {w : World} {lo : Nat} {E : TypeId} {v : Value} {n : Nat} {xs : List Value} {z : Nat → Int} (h : w.ownsRow lo E 1 v n xs) (hn : 0 < n) (hx : ∀ j, j < n → xs[j]? = some (.int .i64 (z j))) :
    ∃ b cap, v = .slice (some ⟨b, 0, none⟩) n cap ∧ Row w lo E b n cap z := by
  rcases h.2 with ⟨_, h0⟩ | ⟨g, cap, cur, rfl, hlo, hg, hnc, hm, hcs, ht⟩
  · omega
  refine ⟨g, cap, rfl, hlo, ⟨fun i => cur[i]?.getD default, ⟨cur, hg, by omega, fun i hi => ?_⟩, fun j hj => ?_⟩, hnc, hm⟩
  · have : i < cur.size := by omega
    simp [this]
  · have h1 := hx j hj
    rw [← ht, List.getElem?_take, if_pos (by omega), Array.getElem?_toList] at h1
    simp [h1]
theorem row_empty (w : World) (E : TypeId) (z : Nat → Int) : Row (w.alloc (.cells #[] E)) w.heap.size E w.heap.size 0 0 z :=
  ⟨Nat.le_refl _, ⟨fun _ => default, ⟨#[], by show (w.heap.push _)[w.heap.size]? = _; simp, rfl, fun i hi => by omega⟩, fun j hj => by omega⟩, Nat.le_refl _, by decide⟩
/-- Behind an append of one number. -/
theorem app_row {w1 : World} {lo : Nat} {E : TypeId} {v' : Value} {k : Nat} {z : Nat → Int} {n : Int} (h : w1.ownsRow lo E 1 v' (k + 1) (vals z k ++ [.int .i64 n])) (hn : n = z k) :
    ∃ b cap, v' = .slice (some ⟨b, 0, none⟩) (k + 1) cap ∧ Row w1 lo E b (k + 1) cap z :=
  row_of_owns h (by omega) fun j hj => by
    by_cases e : j < k
    · rw [List.getElem?_append_left (by rw [vals_length]; exact e)]; exact vals_get z e
    · obtain rfl : j = k := by omega
      rw [List.getElem?_append_right (by rw [vals_length]; exact Nat.le_refl _), vals_length, Nat.sub_self, hn]; rfl
/-- .. and what it leaves of the world. -/
theorem app_grown {w wr w1 : World} {o : Obj} {b len cap : Nat} (hg : w.grownBy wr none) (hb : w.heap.size ≤ b) (h : (wr.alloc o).grownBy w1 (Value.slice (some ⟨b, 0, none⟩) len cap).ownBlock) : w.grownBy w1 none :=
  grown_new (Draw.grown_trans hg (Draw.grown_alloc _ _ _)) hb h
theorem ret_b {x y : Bool} (h : x = y) : Ending.returned (.bool x) = .returned (.bool y) := by rw [h]
theorem ret_i {x y : Int} (h : x = y) : Ending.returned (.int .i64 x) = .returned (.int .i64 y) := by rw [h]
end Mem
end Go.Proofs.YtkklhlffbfgolaaDoor
