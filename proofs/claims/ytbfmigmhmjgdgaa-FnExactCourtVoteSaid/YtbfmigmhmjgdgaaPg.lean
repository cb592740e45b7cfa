/-
  The program's value of a polynomial at a place: a range over the library's iterator from the last number down.
-/
import Derived.RangeFuncNested
import Derived.RangeFuncBound
import Derived.RangeFuncCalls
import Derived.RangeFuncLeaves
import Derived.Shelf.Abstract
import Derived.Shelf.RegionOpen
import Derived.WalkKit
import Derived.OwnWalkIn
import Derived.TacticsInMore
import Derived.LoopNIn
import Derived.LoopIn
import Derived.Test.YtbfmigmhmjgdgaaPe
namespace Go.Proofs.Ytbfmigmhmjgdgaa
namespace Con
open Go.RowKit Go.Shelf Alg Mem Pol
set_option linter.unusedVariables false
attribute [local go_sem] Oper.semAt_some

/-- WHAT HAS COME WHEN k ROUNDS ARE OVER: f 0, .., f (k - 1). -/
def upto {α : Type} (f : Nat → α) (k : Nat) : List α := (List.range k).map f
theorem upto_succ {α : Type} (f : Nat → α) (k : Nat) : upto f (k + 1) = upto f k ++ [f k] := by simp [upto, List.range_succ]
theorem upto_length {α : Type} (f : Nat → α) (k : Nat) : (upto f k).length = k := by simp [upto]

/-- What a round that goes on keeps: all blocks below n₀, and two more. -/
def Kept (n₀ s1 s2 : Nat) (W W' : World) : Prop := Below n₀ W W' ∧ W'.heap[s1]? = W.heap[s1]? ∧ W'.heap[s2]? = W.heap[s2]?
theorem kept_t {n₀ s1 s2 : Nat} {A B C : World} (h : Kept n₀ s1 s2 A B) (k : Kept n₀ s1 s2 B C) : Kept n₀ s1 s2 A C := ⟨h.1.trans k.1, k.2.1.trans h.2.1, k.2.2.trans h.2.2⟩
theorem kept_b {n₀ s1 s2 : Nat} {w : World} (hn : n₀ ≤ w.heap.size) (h1 : s1 < w.heap.size) (h2 : s2 < w.heap.size) (W : World) (l : Nat) (o o' : Obj) (hl : w.heap.size ≤ l) (h : W.heap[l]? = some o) (hc : o.isCells = false) (hw : o.isWalk = false) : Kept n₀ s1 s2 W (W.putObj l o') :=
  ⟨belowK_b hn W l o o' hl h hc hw, (grownBy_putObj' W l o').block s1 (by have := (Array.getElem?_eq_some_iff.1 h).1; omega) (by intro e; cases e; omega), (grownBy_putObj' W l o').block s2 (by have := (Array.getElem?_eq_some_iff.1 h).1; omega) (by intro e; cases e; omega)⟩

/-- What comes in round i: from the last number down. -/
def bkf (z : Nat → Int) (len i : Nat) : Nat × F := (len - 1 - i, cv (z (len - 1 - i)))

/-- The value when some have come. -/
def hf (z : Nat → Int) (n : Nat) (x : F) (pre : List (Nat × F)) : F := pre.foldl (fun v c => v * x + c.2) (cv (z n))
theorem hf_nil (z : Nat → Int) (n : Nat) (x : F) : hf z n x [] = cv (z n) := rfl
theorem hf_snoc (z : Nat → Int) (n : Nat) (x : F) (pre : List (Nat × F)) (c : Nat × F) : hf z n x (pre ++ [c]) = hf z n x pre * x + c.2 := by simp [hf, List.foldl_append]
theorem hf_upto (z : Nat → Int) (n : Nat) (x : F) (i : Nat) (hi : i ≤ n) : hf z n x (upto (bkf z n) i) = pv z (n + 1) x (n - i) := by
  induction i with
  | zero =>
    rw [show upto (bkf z n) 0 = [] from rfl, hf_nil, Nat.sub_zero, pv_step z x (Nat.lt_succ_self n), pv_last]; grind
  | succ i ih =>
    rw [upto_succ, hf_snoc, ih (by omega), pv_step z x (by omega : n - (i + 1) < n + 1), show n - (i + 1) + 1 = n - i from by omega]
    unfold bkf; rw [show n - 1 - i = n - (i + 1) from by omega]
theorem grown_below {w w' : World} (h : Below w.heap.size w w') : w.grownBy w' none := ⟨h.os, h.tape, h.output, h.size, fun k hk _ => h.block k hk⟩
theorem hf_step (v c : F) {x : Int} (hx : fok x = true) : (fi v * x + fi c) % 23 = fi (v * cv x + c) := by
  have h := horner (v := v) hx (fi_ok c); rw [cv_fi] at h; exact h
theorem cell_of_box {w : World} {v : Value} {t : TypeId} : (w.alloc (.cells #[v] t)).cell? ⟨w.heap.size, 0, none⟩ = some v ∧ (w.alloc (.cells #[v] t)).frozen? ⟨w.heap.size, 0, none⟩ = false :=
  ⟨(Boxed.new w t v).cell, (Boxed.new w t v).frozen⟩
theorem cell_al {w : World} {p : Addr} {v : Value} (o : Obj) (h : w.cell? p = some v) : (w.alloc o).cell? p = some v :=
  (World.grownBy_alloc w o none).cell h (by simp)
theorem frozen_al {w : World} {p : Addr} {v : Value} (o : Obj) (h : w.cell? p = some v) (hf : w.frozen? p = false) : (w.alloc o).frozen? p = false := by
  rw [World.frozen?_of_block (w := w) (Below.heap_alloc _ _ _ (World.block_lt_of_cell? w p h))]; exact hf
end Con
end Go.Proofs.Ytbfmigmhmjgdgaa
/-
  The program's factor of a place: a range over an iterator of its own, the other places.
-/

namespace Go.Proofs.Ytbfmigmhmjgdgaa
namespace Con
open Go.RowKit Go.Shelf Alg Mem Pol
set_option linter.unusedVariables false
attribute [local go_sem] Oper.semAt_some

/-- The places but the i-th, of the first k. -/
def oth (z : Nat → Int) (i : Nat) : Nat → List F
  | 0 => []
  | k + 1 => if k = i then oth z i k else oth z i k ++ [cv (z k)]
theorem oth_length (z : Nat → Int) (i k : Nat) : (oth z i k).length ≤ k := by
  induction k with
  | zero => simp [oth]
  | succ k ih => simp only [oth]; split <;> (try simp only [List.length_append, List.length_cons, List.length_nil]) <;> omega
theorem oth_own (z : Nat → Int) (i : Nat) : oth z i (i + 1) = oth z i i := if_pos rfl
theorem oth_next (z : Nat → Int) {i k : Nat} (h : ¬ k = i) : oth z i (k + 1) = oth z i k ++ [cv (z k)] := if_neg h
theorem oth_low (z : Nat → Int) (i k : Nat) (h : k ≤ i) : oth z i k = fl z k := by
  induction k with
  | zero => rfl
  | succ k ih => rw [oth_next z (by omega), ih (by omega)]; simp [fl, List.range_succ]
theorem fl_succ (z : Nat → Int) (k : Nat) : fl z (k + 1) = fl z k ++ [cv (z k)] := by simp [fl, List.range_succ]
theorem oth_erase (z : Nat → Int) (i k : Nat) (h : i < k) : oth z i k = (fl z k).eraseIdx i := by
  induction k with
  | zero => omega
  | succ k ih =>
    by_cases e : k = i
    · subst e
      rw [oth_own, oth_low z k k (Nat.le_refl _), fl_succ, List.eraseIdx_append_of_length_le (by rw [fl_length]; omega), fl_length, Nat.sub_self]
      simp
    · rw [oth_next z e, ih (by omega), fl_succ, List.eraseIdx_append_of_lt_length (by rw [fl_length]; omega)]

end Con
end Go.Proofs.Ytbfmigmhmjgdgaa
/-
  The program's value and sum of polynomials, at every argument; the model's sum.
-/

namespace Go.Proofs.Ytbfmigmhmjgdgaa
namespace Con
open Go.RowKit Alg Mem Pol
set_option linter.unusedVariables false

end Con
end Go.Proofs.Ytbfmigmhmjgdgaa
