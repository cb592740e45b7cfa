/-
  The program's value of a polynomial at a place: a range over the library's iterator from the last number down.
-/
import Derived.RangeFuncNested
import Derived.RangeFuncBound
import Derived.RangeFuncCalls
import Derived.RangeFuncLeaves
import Derived.Shelf.Abstract
import Derived.Shelf.RegionOpen
import Derived.WalkKit
import Derived.OwnWalkIn
import Derived.TacticsInMore
import Derived.LoopNIn
import Derived.LoopIn
import Derived.Test.YtchgjdbmianajaaPe
namespace Go.Proofs.Ytchgjdbmianajaa
namespace Con
open Go.RowKit Go.Shelf Alg Mem Pol
set_option linter.unusedVariables false
attribute [local go_sem] Oper.semAt_some

/-- WHAT HAS COME WHEN k ROUNDS ARE OVER: f 0, .., f (k - 1). -/
def upto {α : Type} (f : Nat → α) (k : Nat) : List α := (List.range k).map f
theorem upto_succ {α : Type} (f : Nat → α) (k : Nat) : upto f (k + 1) = upto f k ++ [f k] := by simp [upto, List.range_succ]
theorem upto_length {α : Type} (f : Nat → α) (k : Nat) : (upto f k).length = k := by simp [upto]

/-- What a round that goes on keeps: all blocks below n₀, and two more. -/
def Kept (n₀ s1 s2 : Nat) (W W' : World) : Prop := Below n₀ W W' ∧ W'.heap[s1]? = W.heap[s1]? ∧ W'.heap[s2]? = W.heap[s2]?
theorem kept_t {n₀ s1 s2 : Nat} {A B C : World} (h : Kept n₀ s1 s2 A B) (k : Kept n₀ s1 s2 B C) : Kept n₀ s1 s2 A C := ⟨h.1.trans k.1, k.2.1.trans h.2.1, k.2.2.trans h.2.2⟩
theorem kept_b {n₀ s1 s2 : Nat} {w : World} (hn : n₀ ≤ w.heap.size) (h1 : s1 < w.heap.size) (h2 : s2 < w.heap.size) (W : World) (l : Nat) (o o' : Obj) (hl : w.heap.size ≤ l) (h : W.heap[l]? = some o) (hc : o.isCells = false) (hw : o.isWalk = false) : Kept n₀ s1 s2 W (W.putObj l o') :=
  ⟨belowK_b hn W l o o' hl h hc hw, (grownBy_putObj' W l o').block s1 (by have := (Array.getElem?_eq_some_iff.1 h).1; omega) (by intro e; cases e; omega), (grownBy_putObj' W l o').block s2 (by have := (Array.getElem?_eq_some_iff.1 h).1; omega) (by intro e; cases e; omega)⟩

/-- What comes in round i: from the last number down. -/
def bkf (z : Nat → Int) (len i : Nat) : Nat × F := (len - 1 - i, cv (z (len - 1 - i)))

/-- The two methods, called through the interface of the type's coefficients. -/
theorem meth_times (v : Int) (w : World) : (method 223 56 (.int .i64 v) "loop.example/wardstaff/impl.times").run Try.prog w = .ok (47, .int .i64 v) w := by kernel_rfl
theorem meth_plus (v : Int) (w : World) : (method 223 56 (.int .i64 v) "loop.example/wardstaff/impl.plus").run Try.prog w = .ok (38, .int .i64 v) w := by kernel_rfl
theorem etimes (a b : Int) (w : World) (a0 : 0 ≤ a) (a1 : a ≤ 22) (b0 : 0 ≤ b) (b1 : b ≤ 22) : Calls Try.prog 47 #[.int .i64 a, .int .i64 b] w fun e w' => e = .returned (.int .i64 (a * b % 23)) ∧ w = w' := by
  have hm0 : 0 ≤ a * b := Int.mul_nonneg a0 b0
  have hm1 : a * b ≤ 22 * 22 := Int.mul_le_mul a1 b1 b0 (by decide)
  go_enter Try.func47, Try.ntmps47
  go_wp2
  go_ret
  exact ⟨rfl, rfl⟩
theorem eplus (a b : Int) (w : World) (a0 : 0 ≤ a) (a1 : a ≤ 22) (b0 : 0 ≤ b) (b1 : b ≤ 22) : Calls Try.prog 38 #[.int .i64 a, .int .i64 b] w fun e w' => e = .returned (.int .i64 ((a + b) % 23)) ∧ w = w' := by
  go_enter Try.func38, Try.ntmps38
  go_wp2
  go_ret
  exact ⟨rfl, rfl⟩
theorem eminus (a b : Int) (w : World) (a0 : 0 ≤ a) (a1 : a ≤ 22) (b0 : 0 ≤ b) (b1 : b ≤ 22) : Calls Try.prog 52 #[.int .i64 a, .int .i64 b] w fun e w' => e = .returned (.int .i64 ((a + 23 - b) % 23)) ∧ w = w' := by
  go_enter Try.func52, Try.ntmps52
  go_wp2
  go_ret
  exact ⟨rfl, rfl⟩
/-- The value when some have come. -/
def hf (z : Nat → Int) (n : Nat) (x : F) (pre : List (Nat × F)) : F := pre.foldl (fun v c => v * x + c.2) (cv (z n))
theorem hf_nil (z : Nat → Int) (n : Nat) (x : F) : hf z n x [] = cv (z n) := rfl
theorem hf_snoc (z : Nat → Int) (n : Nat) (x : F) (pre : List (Nat × F)) (c : Nat × F) : hf z n x (pre ++ [c]) = hf z n x pre * x + c.2 := by simp [hf, List.foldl_append]
theorem hf_upto (z : Nat → Int) (n : Nat) (x : F) (i : Nat) (hi : i ≤ n) : hf z n x (upto (bkf z n) i) = pv z (n + 1) x (n - i) := by
  induction i with
  | zero =>
    rw [show upto (bkf z n) 0 = [] from rfl, hf_nil, Nat.sub_zero, pv_step z x (Nat.lt_succ_self n), pv_last]; grind
  | succ i ih =>
    rw [upto_succ, hf_snoc, ih (by omega), pv_step z x (by omega : n - (i + 1) < n + 1), show n - (i + 1) + 1 = n - i from by omega]
    unfold bkf; rw [show n - 1 - i = n - (i + 1) from by omega]
theorem grown_below {w w' : World} (h : Below w.heap.size w w') : w.grownBy w' none := ⟨h.os, h.tape, h.output, h.size, fun k hk _ => h.block k hk⟩
theorem hf_step (v c : F) {x : Int} (hx : fok x = true) : (fi v * x + fi c) % 23 = fi (v * cv x + c) := by
  have h := horner (v := v) hx (fi_ok c); rw [cv_fi] at h; exact h
theorem cell_of_box {w : World} {v : Value} {t : TypeId} : (w.alloc (.cells #[v] t)).cell? ⟨w.heap.size, 0, none⟩ = some v ∧ (w.alloc (.cells #[v] t)).frozen? ⟨w.heap.size, 0, none⟩ = false :=
  ⟨(Boxed.new w t v).cell, (Boxed.new w t v).frozen⟩
theorem cell_al {w : World} {p : Addr} {v : Value} (o : Obj) (h : w.cell? p = some v) : (w.alloc o).cell? p = some v :=
  (World.grownBy_alloc w o none).cell h (by simp)
theorem frozen_al {w : World} {p : Addr} {v : Value} (o : Obj) (h : w.cell? p = some v) (hf : w.frozen? p = false) : (w.alloc o).frozen? p = false := by
  rw [World.frozen?_of_block (w := w) (Below.heap_alloc _ _ _ (World.block_lt_of_cell? w p h))]; exact hf
end Con
end Go.Proofs.Ytchgjdbmianajaa
/-
  The program's factor of a place: a range over an iterator of its own, the other places.
-/

namespace Go.Proofs.Ytchgjdbmianajaa
namespace Con
open Go.RowKit Go.Shelf Alg Mem Pol
set_option linter.unusedVariables false
attribute [local go_sem] Oper.semAt_some

/-- The places but the i-th, of the first k. -/
def oth (z : Nat → Int) (i : Nat) : Nat → List F
  | 0 => []
  | k + 1 => if k = i then oth z i k else oth z i k ++ [cv (z k)]
theorem oth_length (z : Nat → Int) (i k : Nat) : (oth z i k).length ≤ k := by
  induction k with
  | zero => simp [oth]
  | succ k ih => simp only [oth]; split <;> (try simp only [List.length_append, List.length_cons, List.length_nil]) <;> omega
theorem oth_own (z : Nat → Int) (i : Nat) : oth z i (i + 1) = oth z i i := if_pos rfl
theorem oth_next (z : Nat → Int) {i k : Nat} (h : ¬ k = i) : oth z i (k + 1) = oth z i k ++ [cv (z k)] := if_neg h
theorem oth_low (z : Nat → Int) (i k : Nat) (h : k ≤ i) : oth z i k = fl z k := by
  induction k with
  | zero => rfl
  | succ k ih => rw [oth_next z (by omega), ih (by omega)]; simp [fl, List.range_succ]
theorem fl_succ (z : Nat → Int) (k : Nat) : fl z (k + 1) = fl z k ++ [cv (z k)] := by simp [fl, List.range_succ]
theorem oth_erase (z : Nat → Int) (i k : Nat) (h : i < k) : oth z i k = (fl z k).eraseIdx i := by
  induction k with
  | zero => omega
  | succ k ih =>
    by_cases e : k = i
    · subst e
      rw [oth_own, oth_low z k k (Nat.le_refl _), fl_succ, List.eraseIdx_append_of_length_le (by rw [fl_length]; omega), fl_length, Nat.sub_self]
      simp
    · rw [oth_next z e, ih (by omega), fl_succ, List.eraseIdx_append_of_lt_length (by rw [fl_length]; omega)]

set_option maxRecDepth 100000 in
set_option maxHeartbeats 2000000 in
theorem oth1 (n : Nat) (hn : 1 ≤ n) (l Bs Bi n₀ : Nat) (a : Option Addr) (len cap idx : Nat) (z : Nat → Int) (hl : len ≤ 2000000) (hn0 : ∀ b off, a = some ⟨b, off, none⟩ → b < n₀)
    (hz : ∀ j, j < len → fok (z j) = true) (J Jx : List F → World → Prop)
    (hY : ∀ pre x W, J pre W → pre.length < len → YieldAt Fence.wide (n - 1) Try.prog l #[.int .i64 (fi x)] W fun e W' =>
      (e = .returned (.bool true) ∧ J (pre ++ [x]) W' ∧ Kept n₀ Bs Bi W W') ∨ (e = .returned (.bool false) ∧ Jx (pre ++ [x]) W'))
    (W : World) (hBs : W.cell? ⟨Bs, 0, none⟩ = some (.slice a len cap)) (hBi : W.cell? ⟨Bi, 0, none⟩ = some (.int .i64 (idx : Int))) (hI : Ints W a len z) (h0 : J [] W) :
    CallsIn Fence.wide n Try.prog 60 #[.func (.yield l) #[] #[], .pointer (some ⟨Bs, 0, none⟩), .pointer (some ⟨Bi, 0, none⟩)] W fun e W' => (∃ v, e = .returned v) ∧
      ((∃ ys, ys = oth z idx len ∧ J ys W') ∨ (∃ pre, True ∧ Jx pre W')) := by
  refine callsIn_of_wp Try.func60 rfl trivial ?_ rfl
  simp only [Try.ntmps60, List.size_toArray, List.length_cons, List.length_nil, Nat.reduceAdd, Nat.reduceSub, Array.replicate_succ, Array.replicate_zero, List.push_toArray, List.append_toArray, List.nil_append, List.cons_append]
  have HI := Lib.hid hI; have HZ := Lib.hid hz; clear hI hz
  gi_wp2
  gi_loopw [8] (fun i wr => ∃ k : Nat, k ≤ len ∧ i = .int .i64 (k : Int) ∧ J (oth z idx k) wr ∧ Kept n₀ Bs Bi W wr)
    (fun i _ => len - (intOf i).toNat)
  case atStart => exact ⟨0, Nat.zero_le _, rfl, h0, Below.refl _ _, rfl, rfl⟩
  case round =>
    obtain ⟨k, hk, rfl, hJs, hnx⟩ := hrel
    have hBr : wr.cell? ⟨Bi, 0, none⟩ = some (.int .i64 (idx : Int)) := (World.cell?_of_block (w := W) (w' := wr) hnx.2.2).trans hBi
    by_cases hlt : k < len
    · obtain ⟨b, off, rfl, hb, hc⟩ := HI.out.ptr (by omega)
      have hcx : wr.cell? ⟨b, off + k, none⟩ = some (.int .i64 (z k)) := (hnx.1.cell (p := ⟨b, off + k, none⟩) (hn0 b off rfl)).trans (hc k hlt)
      have hfz := fi_cv (HZ.out k hlt)
      by_cases he : k = idx
      · have hne : ((k : Int) != (idx : Int)) = false := by simp [he]
        have HE := Lib.hid (show oth z idx (k + 1) = oth z idx k by subst he; exact oth_own z k)
        clear he hc hfz
        gi_wp2
        refine ⟨fun _ h => (by cases h), ?_⟩
        gi_wp2
        go_roundw
        case rel => exact ⟨k + 1, by omega, by go_num, by rw [HE.out]; exact hJs, hnx⟩
        case measure => simp [intOf]; omega
      · have hne : ((k : Int) != (idx : Int)) = true := by simp; omega
        have HE := Lib.hid (oth_next z he)
        obtain ⟨fn, tmps, assign, body, hy, hR⟩ := hY _ (cv (z k)) wr hJs (by have := oth_length z idx k; omega)
        rw [hfz] at hy
        have HF := Lib.hid hfz; clear hfz hc he
        gi_wp2
        refine hR.mono ?_
        rintro e W3 (⟨rfl, hJ3, hk3⟩ | ⟨rfl, hJx3⟩)
        · gi_wp2
          go_roundw
          case rel => exact ⟨k + 1, by omega, by go_num, by rw [HE.out]; exact hJ3, kept_t hnx hk3⟩
          case measure => simp [intOf]; omega
        · gi_wp2
          refine bodyPost_ret (results_none rfl _ _ _) rfl ?_
          exact ⟨⟨_, rfl⟩, .inr ⟨_, trivial, hJx3⟩⟩
    · obtain rfl : k = len := by omega
      gi_wp2
      go_end0
      exact ⟨⟨_, rfl⟩, .inl ⟨_, rfl, hJs⟩⟩
theorem oth_stops (n : Nat) (hn : 1 ≤ n) (Bs Bi n₀ : Nat) (a : Option Addr) (len cap idx : Nat) (z : Nat → Int) (hl : len ≤ 2000000) (hn0 : ∀ b off, a = some ⟨b, off, none⟩ → b < n₀)
    (hz : ∀ j, j < len → fok (z j) = true) (w : World) (hB : Bs < w.heap.size) (hB' : Bi < w.heap.size) (hBs : w.cell? ⟨Bs, 0, none⟩ = some (.slice a len cap)) (hBi : w.cell? ⟨Bi, 0, none⟩ = some (.int .i64 (idx : Int))) (hI : Ints w a len z) :
    SeqStopsK Fence.wide n Try.prog 60 #[.pointer (some ⟨Bs, 0, none⟩), .pointer (some ⟨Bi, 0, none⟩)] (fun x : F => #[.int .i64 (fi x)]) (Kept n₀ Bs Bi) (fun ys => ys = oth z idx len) (fun _ => True) len w := fun l J Jx W hW _ _ hY h0 =>
  oth1 n hn l Bs Bi n₀ a len cap idx z hl hn0 hz J Jx hY W ((hW.cell (p := ⟨Bs, 0, none⟩) hB).trans hBs) ((hW.cell (p := ⟨Bi, 0, none⟩) hB').trans hBi) (hI.keptB (fun k hk => hW.block k hk) hW.size) h0
theorem others_any (w : World) (a : Option Addr) (len cap : Nat) (i : Int) :
    Calls Try.prog 51 #[.slice a len cap, .int .i64 i] w fun e w' => e = .returned (.func (.func 60) #[] #[.pointer (some ⟨w.heap.size, 0, none⟩), .pointer (some ⟨w.heap.size + 1, 0, none⟩)]) ∧ w' = (w.alloc (.cells #[.slice a len cap] 54)).alloc (.cells #[.int .i64 i] 3) := by
  go_enter Try.func51, Try.ntmps51
  go_wp2
  go_ret
  exact ⟨rfl, rfl⟩
end Con
end Go.Proofs.Ytchgjdbmianajaa
/-
  The program's value and sum of polynomials, at every argument; the model's sum.
-/

namespace Go.Proofs.Ytchgjdbmianajaa
namespace Con
open Go.RowKit Alg Mem Pol
set_option linter.unusedVariables false

end Con
end Go.Proofs.Ytchgjdbmianajaa
