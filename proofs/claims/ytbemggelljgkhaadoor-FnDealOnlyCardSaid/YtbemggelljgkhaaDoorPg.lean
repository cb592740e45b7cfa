/-
  The program's factor of a place: a range over an iterator of its own, the other places.
-/
import Derived.Test.YtbemggelljgkhaaDoorPf
namespace Go.Proofs.YtbemggelljgkhaaDoor
namespace Con
open Go.RowKit Go.Shelf Alg Mem Pol
set_option linter.unusedVariables false
attribute [local go_sem] Oper.semAt_some

/-- The places but the i-th, of the first k. -/
def oth (z : Nat → Int) (i : Nat) : Nat → List F
  | 0 => []
  | k + 1 => if k = i then oth z i k else oth z i k ++ [cv (z k)]
theorem oth_length (z : Nat → Int) (i k : Nat) : (oth z i k).length ≤ k := by
  induction k with
  | zero => simp [oth]
  | succ k ih => simp only [oth]; split <;> (try simp only [List.length_append, List.length_cons, List.length_nil]) <;> omega
theorem oth_own (z : Nat → Int) (i : Nat) : oth z i (i + 1) = oth z i i := if_pos rfl
theorem oth_next (z : Nat → Int) {i k : Nat} (h : ¬ k = i) : oth z i (k + 1) = oth z i k ++ [cv (z k)] := if_neg h
theorem oth_low (z : Nat → Int) (i k : Nat) (h : k ≤ i) : oth z i k = fl z k := by
  induction k with
  | zero => rfl
  | succ k ih => rw [oth_next z (by omega), ih (by omega)]; simp [fl, List.range_succ]
theorem fl_succ (z : Nat → Int) (k : Nat) : fl z (k + 1) = fl z k ++ [cv (z k)] := by simp [fl, List.range_succ]
theorem oth_erase (z : Nat → Int) (i k : Nat) (h : i < k) : oth z i k = (fl z k).eraseIdx i := by
  induction k with
  | zero => omega
  | succ k ih =>
    by_cases e : k = i
    · subst e
      rw [oth_own, oth_low z k k (Nat.le_refl _), fl_succ, List.eraseIdx_append_of_length_le (by rw [fl_length]; omega), fl_length, Nat.sub_self]
      simp
    · rw [oth_next z e, ih (by omega), fl_succ, List.eraseIdx_append_of_lt_length (by rw [fl_length]; omega)]

set_option maxRecDepth 100000 in
set_option maxHeartbeats 2000000 in
theorem oth1 (n : Nat) (hn : 1 ≤ n) (l Bs Bi n₀ : Nat) (a : Option Addr) (len cap idx : Nat) (z : Nat → Int) (hl : len ≤ 2000000) (hn0 : ∀ b off, a = some ⟨b, off, none⟩ → b < n₀)
    (hz : ∀ j, j < len → fok (z j) = true) (J Jx : List F → World → Prop)
    (hY : ∀ pre x W, J pre W → pre.length < len → YieldAt Fence.wide (n - 1) Tryd.prog l #[.int .i64 (fi x)] W fun e W' =>
      (e = .returned (.bool true) ∧ J (pre ++ [x]) W' ∧ Kept n₀ Bs Bi W W') ∨ (e = .returned (.bool false) ∧ Jx (pre ++ [x]) W'))
    (W : World) (hBs : W.cell? ⟨Bs, 0, none⟩ = some (.slice a len cap)) (hBi : W.cell? ⟨Bi, 0, none⟩ = some (.int .i64 (idx : Int))) (hI : Ints W a len z) (h0 : J [] W) :
    CallsIn Fence.wide n Tryd.prog 76 #[.func (.yield l) #[] #[], .pointer (some ⟨Bs, 0, none⟩), .pointer (some ⟨Bi, 0, none⟩)] W fun e W' => (∃ v, e = .returned v) ∧
      ((∃ ys, ys = oth z idx len ∧ J ys W') ∨ (∃ pre, True ∧ Jx pre W')) := by
  refine callsIn_of_wp Tryd.func76 rfl trivial ?_ rfl
  simp only [Tryd.ntmps76, List.size_toArray, List.length_cons, List.length_nil, Nat.reduceAdd, Nat.reduceSub, Array.replicate_succ, Array.replicate_zero, List.push_toArray, List.append_toArray, List.nil_append, List.cons_append]
  have HI := Lib.hid hI; have HZ := Lib.hid hz; clear hI hz
  gi_wp2
  gi_loopw [8] (fun i wr => ∃ k : Nat, k ≤ len ∧ i = .int .i64 (k : Int) ∧ J (oth z idx k) wr ∧ Kept n₀ Bs Bi W wr)
    (fun i _ => len - (intOf i).toNat)
  case atStart => exact ⟨0, Nat.zero_le _, rfl, h0, Below.refl _ _, rfl, rfl⟩
  case round =>
    obtain ⟨k, hk, rfl, hJs, hnx⟩ := hrel
    have hBr : wr.cell? ⟨Bi, 0, none⟩ = some (.int .i64 (idx : Int)) := (World.cell?_of_block (w := W) (w' := wr) hnx.2.2).trans hBi
    by_cases hlt : k < len
    · obtain ⟨b, off, rfl, hb, hc⟩ := HI.out.ptr (by omega)
      have hcx : wr.cell? ⟨b, off + k, none⟩ = some (.int .i64 (z k)) := (hnx.1.cell (p := ⟨b, off + k, none⟩) (hn0 b off rfl)).trans (hc k hlt)
      have hfz := fi_cv (HZ.out k hlt)
      by_cases he : k = idx
      · have hne : ((k : Int) != (idx : Int)) = false := by simp [he]
        have HE := Lib.hid (show oth z idx (k + 1) = oth z idx k by subst he; exact oth_own z k)
        clear he hc hfz
        gi_wp2
        refine ⟨fun _ h => (by cases h), ?_⟩
        gi_wp2
        go_roundw
        case rel => exact ⟨k + 1, by omega, by go_num, by rw [HE.out]; exact hJs, hnx⟩
        case measure => simp [intOf]; omega
      · have hne : ((k : Int) != (idx : Int)) = true := by simp; omega
        have HE := Lib.hid (oth_next z he)
        obtain ⟨fn, tmps, assign, body, hy, hR⟩ := hY _ (cv (z k)) wr hJs (by have := oth_length z idx k; omega)
        rw [hfz] at hy
        have HF := Lib.hid hfz; clear hfz hc he
        gi_wp2
        refine hR.mono ?_
        rintro e W3 (⟨rfl, hJ3, hk3⟩ | ⟨rfl, hJx3⟩)
        · gi_wp2
          go_roundw
          case rel => exact ⟨k + 1, by omega, by go_num, by rw [HE.out]; exact hJ3, kept_t hnx hk3⟩
          case measure => simp [intOf]; omega
        · gi_wp2
          refine bodyPost_ret (results_none rfl _ _ _) rfl ?_
          exact ⟨⟨_, rfl⟩, .inr ⟨_, trivial, hJx3⟩⟩
    · obtain rfl : k = len := by omega
      gi_wp2
      go_end0
      exact ⟨⟨_, rfl⟩, .inl ⟨_, rfl, hJs⟩⟩
theorem oth_stops (n : Nat) (hn : 1 ≤ n) (Bs Bi n₀ : Nat) (a : Option Addr) (len cap idx : Nat) (z : Nat → Int) (hl : len ≤ 2000000) (hn0 : ∀ b off, a = some ⟨b, off, none⟩ → b < n₀)
    (hz : ∀ j, j < len → fok (z j) = true) (w : World) (hB : Bs < w.heap.size) (hB' : Bi < w.heap.size) (hBs : w.cell? ⟨Bs, 0, none⟩ = some (.slice a len cap)) (hBi : w.cell? ⟨Bi, 0, none⟩ = some (.int .i64 (idx : Int))) (hI : Ints w a len z) :
    SeqStopsK Fence.wide n Tryd.prog 76 #[.pointer (some ⟨Bs, 0, none⟩), .pointer (some ⟨Bi, 0, none⟩)] (fun x : F => #[.int .i64 (fi x)]) (Kept n₀ Bs Bi) (fun ys => ys = oth z idx len) (fun _ => True) len w := fun l J Jx W hW _ _ hY h0 =>
  oth1 n hn l Bs Bi n₀ a len cap idx z hl hn0 hz J Jx hY W ((hW.cell (p := ⟨Bs, 0, none⟩) hB).trans hBs) ((hW.cell (p := ⟨Bi, 0, none⟩) hB').trans hBi) (hI.keptB (fun k hk => hW.block k hk) hW.size) h0
theorem others_any (w : World) (a : Option Addr) (len cap : Nat) (i : Int) :
    Calls Tryd.prog 59 #[.slice a len cap, .int .i64 i] w fun e w' => e = .returned (.func (.func 76) #[] #[.pointer (some ⟨w.heap.size, 0, none⟩), .pointer (some ⟨w.heap.size + 1, 0, none⟩)]) ∧ w' = (w.alloc (.cells #[.slice a len cap] 54)).alloc (.cells #[.int .i64 i] 3) := by
  go_enter Tryd.func59, Tryd.ntmps59
  go_wp2
  go_ret
  exact ⟨rfl, rfl⟩
end Con
end Go.Proofs.YtbemggelljgkhaaDoor
