/-
  The program's value of a polynomial at a place: a range over the library's iterator from the last number down.
-/
import Derived.RangeFuncNested
import Derived.RangeFuncBound
import Derived.RangeFuncCalls
import Derived.RangeFuncLeaves
import Derived.Shelf.Abstract
import Derived.Shelf.RegionOpen
import Derived.WalkKit
import Derived.OwnWalkIn
import Derived.TacticsInMore
import Derived.LoopNIn
import Derived.LoopIn
import Derived.Test.YtbemggelljgkhaaPd
namespace Go.Proofs.Ytbemggelljgkhaa
namespace Con
open Go.RowKit Go.Shelf Alg Mem Pol
set_option linter.unusedVariables false
attribute [local go_sem] Oper.semAt_some

/-- WHAT HAS COME WHEN k ROUNDS ARE OVER: f 0, .., f (k - 1). -/
def upto {α : Type} (f : Nat → α) (k : Nat) : List α := (List.range k).map f
theorem upto_succ {α : Type} (f : Nat → α) (k : Nat) : upto f (k + 1) = upto f k ++ [f k] := by simp [upto, List.range_succ]
theorem upto_length {α : Type} (f : Nat → α) (k : Nat) : (upto f k).length = k := by simp [upto]

/-- What a round that goes on keeps: all blocks below n₀, and two more. -/
def Kept (n₀ s1 s2 : Nat) (W W' : World) : Prop := Below n₀ W W' ∧ W'.heap[s1]? = W.heap[s1]? ∧ W'.heap[s2]? = W.heap[s2]?
theorem kept_t {n₀ s1 s2 : Nat} {A B C : World} (h : Kept n₀ s1 s2 A B) (k : Kept n₀ s1 s2 B C) : Kept n₀ s1 s2 A C := ⟨h.1.trans k.1, k.2.1.trans h.2.1, k.2.2.trans h.2.2⟩
theorem kept_b {n₀ s1 s2 : Nat} {w : World} (hn : n₀ ≤ w.heap.size) (h1 : s1 < w.heap.size) (h2 : s2 < w.heap.size) (W : World) (l : Nat) (o o' : Obj) (hl : w.heap.size ≤ l) (h : W.heap[l]? = some o) (hc : o.isCells = false) (hw : o.isWalk = false) : Kept n₀ s1 s2 W (W.putObj l o') :=
  ⟨belowK_b hn W l o o' hl h hc hw, (grownBy_putObj' W l o').block s1 (by have := (Array.getElem?_eq_some_iff.1 h).1; omega) (by intro e; cases e; omega), (grownBy_putObj' W l o').block s2 (by have := (Array.getElem?_eq_some_iff.1 h).1; omega) (by intro e; cases e; omega)⟩

/-- What comes in round i: from the last number down. -/
def bkf (z : Nat → Int) (len i : Nat) : Nat × F := (len - 1 - i, cv (z (len - 1 - i)))

set_option maxRecDepth 100000 in
set_option maxHeartbeats 2000000 in
theorem bwd1 (Fe : Fence) (n : Nat) (h7 : Fe.fn 32) (hro : Fe.round = none) (hn : 1 ≤ n) (l Bs n₀ : Nat) (a : Option Addr) (len cap : Nat) (z : Nat → Int) (hl : len ≤ 2000000) (hn0 : ∀ b off, a = some ⟨b, off, none⟩ → b < n₀)
    (hz : ∀ j, j < len → fok (z j) = true) (J Jx : List (Nat × F) → World → Prop)
    (hY : ∀ pre x W, J pre W → pre.length < len → YieldAt Fe (n - 1) Try.prog l #[.int .i64 (x.1 : Int), .int .i64 (fi x.2)] W fun e W' =>
      (e = .returned (.bool true) ∧ J (pre ++ [x]) W' ∧ Kept n₀ Bs Bs W W') ∨ (e = .returned (.bool false) ∧ Jx (pre ++ [x]) W'))
    (W : World) (hBs : W.cell? ⟨Bs, 0, none⟩ = some (.slice a len cap)) (hI : Ints W a len z) (h0 : J [] W) :
    CallsIn Fe n Try.prog 32 #[.func (.yield l) #[] #[], .pointer (some ⟨Bs, 0, none⟩)] W fun e W' => (∃ v, e = .returned v) ∧
      ((∃ ys, ys = upto (bkf z len) len ∧ J ys W') ∨ (∃ pre, True ∧ Jx pre W')) := by
  refine callsIn_of_wp Try.func32 rfl h7 ?_ hro
  simp only [Try.ntmps32, List.size_toArray, List.length_cons, List.length_nil, Nat.reduceAdd, Nat.reduceSub, Array.replicate_succ, Array.replicate_zero, List.push_toArray, List.append_toArray, List.nil_append, List.cons_append]
  have HI := Lib.hid hI; have HZ := Lib.hid hz; clear hI hz
  gi_wp2
  gi_loopw [3] (fun i wr => ∃ k : Nat, k ≤ len ∧ i = .int .i64 ((k : Int) - 1) ∧ J (upto (bkf z len) (len - k)) wr ∧ Kept n₀ Bs Bs W wr)
    (fun i _ => (intOf i + 1).toNat)
  case atStart => exact ⟨len, Nat.le_refl _, by first | rfl | go_num, by rw [Nat.sub_self]; exact h0, Below.refl _ _, rfl, rfl⟩
  case round =>
    obtain ⟨k, hk, rfl, hJs, hnx⟩ := hrel
    have hBr : wr.cell? ⟨Bs, 0, none⟩ = some (.slice a len cap) := (World.cell?_of_block (w := W) (w' := wr) hnx.2.1).trans hBs
    by_cases hlt : 1 ≤ k
    · obtain ⟨m, rfl⟩ : ∃ m, k = m + 1 := ⟨k - 1, by omega⟩
      obtain ⟨b, off, rfl, hb, hc⟩ := HI.out.ptr (by omega)
      have hcx : wr.cell? ⟨b, off + m, none⟩ = some (.int .i64 (z m)) := (hnx.1.cell (p := ⟨b, off + m, none⟩) (hn0 b off rfl)).trans (hc m (by omega))
      have hx : bkf z len (len - (m + 1)) = (m, cv (z m)) := by unfold bkf; rw [show len - 1 - (len - (m + 1)) = m from by omega]
      have hfz := fi_cv (HZ.out m (by omega))
      obtain ⟨fn, tmps, assign, body, hy, hR⟩ := hY _ (m, cv (z m)) wr hJs (by rw [upto_length]; omega)
      dsimp only at hy hR
      rw [hfz] at hy
      have HX := Lib.hid hx; have HF := Lib.hid hfz; clear hx hfz hc
      have t0 : 0 ≤ ((m + 1 : Nat) : Int) - 1 := by omega
      have t1 : (((m + 1 : Nat) : Int) - 1).toNat = m := by omega
      have t2 : ((m + 1 : Nat) : Int) - 1 < (len : Int) := by omega
      have t3 : ((m + 1 : Nat) : Int) - 1 = (m : Int) := by omega
      gi_wp2
      refine hR.mono ?_
      rintro e W3 (⟨rfl, hJ3, hk3⟩ | ⟨rfl, hJx3⟩)
      · gi_wp2
        go_roundw
        case rel => exact ⟨m, by omega, by go_num, by rw [show len - m = (len - (m + 1)) + 1 from by omega, upto_succ, HX.out]; exact hJ3, kept_t hnx hk3⟩
        case measure => simp [intOf]
      · gi_wp2
        refine bodyPost_ret (results_none rfl _ _ _) rfl ?_
        exact ⟨⟨_, rfl⟩, .inr ⟨_, trivial, hJx3⟩⟩
    · obtain rfl : k = 0 := by omega
      gi_wp2
      go_end0
      exact ⟨⟨_, rfl⟩, .inl ⟨_, rfl, hJs⟩⟩
theorem bwd (w : World) (a : Option Addr) (len cap : Nat) :
    Calls Try.prog 31 #[.slice a len cap] w fun e w' => e = .returned (.func (.func 32) #[] #[.pointer (some ⟨w.heap.size, 0, none⟩)]) ∧ w' = w.alloc (.cells #[.slice a len cap] 43) := by
  go_enter Try.func31, Try.ntmps31
  go_wp2
  go_ret
  exact ⟨rfl, rfl⟩
/-- The two methods, called through the interface of the type's coefficients. -/
theorem meth_times (v : Int) (w : World) : (method 171 41 (.int .i64 v) "loop.example/wardstaff/impl.times").run Try.prog w = .ok (50, .int .i64 v) w := by kernel_rfl
theorem meth_plus (v : Int) (w : World) : (method 171 41 (.int .i64 v) "loop.example/wardstaff/impl.plus").run Try.prog w = .ok (49, .int .i64 v) w := by kernel_rfl
theorem etimes (a b : Int) (w : World) (a0 : 0 ≤ a) (a1 : a ≤ 22) (b0 : 0 ≤ b) (b1 : b ≤ 22) : Calls Try.prog 50 #[.int .i64 a, .int .i64 b] w fun e w' => e = .returned (.int .i64 (a * b % 23)) ∧ w = w' := by
  have hm0 : 0 ≤ a * b := Int.mul_nonneg a0 b0
  have hm1 : a * b ≤ 22 * 22 := Int.mul_le_mul a1 b1 b0 (by decide)
  go_enter Try.func50, Try.ntmps50
  go_wp2
  go_ret
  exact ⟨rfl, rfl⟩
theorem eplus (a b : Int) (w : World) (a0 : 0 ≤ a) (a1 : a ≤ 22) (b0 : 0 ≤ b) (b1 : b ≤ 22) : Calls Try.prog 49 #[.int .i64 a, .int .i64 b] w fun e w' => e = .returned (.int .i64 ((a + b) % 23)) ∧ w = w' := by
  go_enter Try.func49, Try.ntmps49
  go_wp2
  go_ret
  exact ⟨rfl, rfl⟩
theorem bwd_stops (n : Nat) (hn : 1 ≤ n) (Bs n₀ : Nat) (a : Option Addr) (len cap : Nat) (z : Nat → Int) (hl : len ≤ 2000000) (hn0 : ∀ b off, a = some ⟨b, off, none⟩ → b < n₀)
    (hz : ∀ j, j < len → fok (z j) = true) (w : World) (hB : Bs < w.heap.size) (hBs : w.cell? ⟨Bs, 0, none⟩ = some (.slice a len cap)) (hI : Ints w a len z) :
    SeqStopsK Fence.wide n Try.prog 32 #[.pointer (some ⟨Bs, 0, none⟩)] (fun x : Nat × F => #[.int .i64 (x.1 : Int), .int .i64 (fi x.2)]) (Kept n₀ Bs Bs) (fun ys => ys = upto (bkf z len) len) (fun _ => True) len w := fun l J Jx W hW _ _ hY h0 =>
  bwd1 Fence.wide n trivial rfl hn l Bs n₀ a len cap z hl hn0 hz J Jx hY W ((hW.cell (p := ⟨Bs, 0, none⟩) hB).trans hBs) (hI.keptB (fun k hk => hW.block k hk) hW.size) h0
/-- The value when some have come. -/
def hf (z : Nat → Int) (n : Nat) (x : F) (pre : List (Nat × F)) : F := pre.foldl (fun v c => v * x + c.2) (cv (z n))
theorem hf_nil (z : Nat → Int) (n : Nat) (x : F) : hf z n x [] = cv (z n) := rfl
theorem hf_snoc (z : Nat → Int) (n : Nat) (x : F) (pre : List (Nat × F)) (c : Nat × F) : hf z n x (pre ++ [c]) = hf z n x pre * x + c.2 := by simp [hf, List.foldl_append]
theorem hf_upto (z : Nat → Int) (n : Nat) (x : F) (i : Nat) (hi : i ≤ n) : hf z n x (upto (bkf z n) i) = pv z (n + 1) x (n - i) := by
  induction i with
  | zero =>
    rw [show upto (bkf z n) 0 = [] from rfl, hf_nil, Nat.sub_zero, pv_step z x (Nat.lt_succ_self n), pv_last]; grind
  | succ i ih =>
    rw [upto_succ, hf_snoc, ih (by omega), pv_step z x (by omega : n - (i + 1) < n + 1), show n - (i + 1) + 1 = n - i from by omega]
    unfold bkf; rw [show n - 1 - i = n - (i + 1) from by omega]
theorem grown_below {w w' : World} (h : Below w.heap.size w w') : w.grownBy w' none := ⟨h.os, h.tape, h.output, h.size, fun k hk _ => h.block k hk⟩
theorem hf_step (v c : F) {x : Int} (hx : fok x = true) : (fi v * x + fi c) % 23 = fi (v * cv x + c) := by
  have h := horner (v := v) hx (fi_ok c); rw [cv_fi] at h; exact h
theorem cell_of_box {w : World} {v : Value} {t : TypeId} : (w.alloc (.cells #[v] t)).cell? ⟨w.heap.size, 0, none⟩ = some v ∧ (w.alloc (.cells #[v] t)).frozen? ⟨w.heap.size, 0, none⟩ = false :=
  ⟨(Boxed.new w t v).cell, (Boxed.new w t v).frozen⟩
theorem cell_al {w : World} {p : Addr} {v : Value} (o : Obj) (h : w.cell? p = some v) : (w.alloc o).cell? p = some v :=
  (World.grownBy_alloc w o none).cell h (by simp)
theorem frozen_al {w : World} {p : Addr} {v : Value} (o : Obj) (h : w.cell? p = some v) (hf : w.frozen? p = false) : (w.alloc o).frozen? p = false := by
  rw [World.frozen?_of_block (w := w) (Below.heap_alloc _ _ _ (World.block_lt_of_cell? w p h))]; exact hf
set_option maxRecDepth 100000 in
set_option maxHeartbeats 2000000 in
theorem at_in (w : World) (a : Option Addr) (n cap : Nat) (z : Nat → Int) (x : Int) (hI : Ints w a (n + 1) z) (hl : n ≤ 1000000) (hcap : n + 1 ≤ cap) (hm : cap ≤ maxLen) (hz : ∀ j, j < n + 1 → fok (z j) = true) (hx : fok x = true) :
    Calls Try.prog 28 #[.slice a (n + 1) cap, .int .i64 x] w fun e w' => e = .returned (.int .i64 (fi (ev (fl z (n + 1)) (cv x)))) ∧ w.grownBy w' none := by
  unfold maxLen at hm
  obtain ⟨b, off, rfl, hb, hc⟩ := hI.ptr (by omega)
  have hcn := hc n (by omega)
  have HC := Lib.hid hc; have HZ := Lib.hid hz; have HX := Lib.hid hx; have HI := Lib.hid hI
  clear hc hz hx hI
  refine (callsIn_wide (n := 6)).1 ?_
  refine callsIn_of_wp_marks Try.func28 rfl trivial ?_ rfl
  simp only [Try.ntmps28, List.size_toArray, List.length_cons, List.length_nil, Nat.reduceAdd, Nat.reduceSub, Array.replicate_succ, Array.replicate_zero, List.push_toArray, List.append_toArray, List.nil_append, List.cons_append]
  gi_wp2_with (refine ⟨trivial, ?_⟩; gi_at_call 31; refine (callsIn_wide.2 (bwd _ _ _ _)).mono ?_; rintro e w' ⟨rfl, rfl⟩)
  have hx' := HX.out
  obtain ⟨x0, x1⟩ := fok_iff.1 HX.out
  have b0 := cell_of_box (w := w) (v := .int .i64 x) (t := 41)
  have b1 := cell_of_box (w := w.alloc (.cells #[.int .i64 x] 41)) (v := .int .i64 (z n)) (t := 41)
  have b2 := cell_of_box (w := (w.alloc (.cells #[.int .i64 x] 41)).alloc (.cells #[.int .i64 (z n)] 41)) (v := .slice (some ⟨b, off, none⟩) n cap) (t := 43)
  simp only [World.size_alloc] at b1 b2
  have hB0 : Below w.heap.size w (((w.alloc (.cells #[.int .i64 x] 41)).alloc (.cells #[.int .i64 (z n)] 41)).alloc (.cells #[.slice (some ⟨b, off, none⟩) n cap] 43)) := (((Below.refl _ w).alloc (Nat.le_refl _) _).alloc (by simp) _).alloc (by simp; omega) _
  have HI3 := ((HI.out.less (Nat.le_succ n)).kept (grown_below hB0))
  refine wpIn_rangeFunc_ownF (F := Fence.wide) rfl (by omega) (gf := 32) (lb := #[.pointer (some ⟨w.heap.size + 1 + 1, 0, none⟩)]) rfl trivial (enters_of Try.func32 (by kernel_rfl) rfl)
    (bwd_stops 5 (by omega) (w.heap.size + 1 + 1) w.heap.size (some ⟨b, off, none⟩) n cap z (by omega) (fun b' off' e => by cases e; exact hb) (fun j hj => HZ.out j (by omega)) _ (by simp) b2.1 HI3)
    kept_t (kept_b (by simp; omega) (by simp) (by simp)) (Below.refl _ _) (fun _ => rfl)
    (fun pre W => (W.cell? ⟨w.heap.size + 1, 0, none⟩ = some (.int .i64 (fi (hf z n (cv x) pre))) ∧ W.frozen? ⟨w.heap.size + 1, 0, none⟩ = false ∧ W.cell? ⟨w.heap.size, 0, none⟩ = some (.int .i64 x)) ∧ Below w.heap.size w W)
    (fun _ _ _ => False)
    (OwnFrom.and (Own.from (fun s A B row hs hg hr => ⟨cell_kept hs.1 hg hr, (frozen_kept hs.1 hg hr).trans hs.2.1, cell_kept hs.2.2 hg hr⟩) _) (ownFrom_below (Nat.le_refl _) (by simp; omega)))
    (fun _ _ _ _ _ hs _ _ => hs)
    ⟨⟨by rw [hf_nil, fi_cv (HZ.out n (by omega))]; exact cell_al _ b1.1, frozen_al _ b1.1 b1.2, cell_al _ (cell_al _ b0.1)⟩, hB0⟩
    (fun c => { tmps := #[.slice (some ⟨b, off, none⟩) (n + 1) cap, .int .i64 x, undef, .pointer (some ⟨w.heap.size, 0, none⟩), .int .i64 0, .int .i64 n, .pointer (some ⟨w.heap.size + 1, 0, none⟩), undef, .int .i64 (fi c.2), .slice (some ⟨b, off, none⟩) (n + 1) cap, .int .i64 (n + 1), .int .i64 n, .slice (some ⟨b, off, none⟩) (n + 1) cap, .int .i64 n, .pointer (some ⟨b, off + n, none⟩), .int .i64 (z n), .slice (some ⟨b, off, none⟩) (n + 1) cap, .int .i64 n, .slice (some ⟨b, off, none⟩) n cap, .func (.func 32) #[] #[.pointer (some ⟨w.heap.size + 1 + 1, 0, none⟩)], .int .i64 (c.1 : Int), .int .i64 (fi c.2), undef, undef, undef, undef, undef, undef, undef, undef], defers := [] }) ?assign ?body ?done ?stop
  case assign =>
    intro l x W K hK
    gi_wp2
    exact hK
  case body =>
    rintro l pre c W ⟨⟨hv, hvf, hcx⟩, hB⟩ _
    obtain ⟨v0, v1⟩ := fi_range (hf z n (cv x) pre)
    obtain ⟨c0, c1⟩ := fi_range c.2
    have u0 : 0 ≤ fi (hf z n (cv x) pre) * x := Int.mul_nonneg v0 x0
    have u1 : fi (hf z n (cv x) pre) * x ≤ 22 * 22 := Int.mul_le_mul v1 (by omega) x0 (by decide)
    have HS := Lib.hid ((hf_step (hf z n (cv x) pre) c.2 hx').trans (congrArg fi (hf_snoc z n (cv x) pre c).symm))
    have mt := meth_times
    have mp := meth_plus
    have p0 : 0 ≤ fi (hf z n (cv x) pre) * x % 23 := Int.emod_nonneg _ (by decide)
    have p1 : fi (hf z n (cv x) pre) * x % 23 ≤ 22 := by omega
    gi_wp2_with (first
      | (refine ⟨trivial, ?_⟩; gi_at_call 50; refine (CallsIn.inRound l (callsIn_wide.2 (etimes _ _ _ v0 v1 x0 (by omega)))).mono ?_; rintro e w' ⟨rfl, rfl⟩)
      | (refine ⟨trivial, ?_⟩; gi_at_call 49; refine (CallsIn.inRound l (callsIn_wide.2 (eplus _ _ _ p0 p1 c0 c1))).mono ?_; rintro e w' ⟨rfl, rfl⟩))
    exact ⟨KeepsOthers.setCell _ _ _, ⟨(Below.refl w.heap.size W).setCell (p := ⟨w.heap.size + 1, 0, none⟩) (by simp) _, heap_setCell_other W _ _ _ (by show w.heap.size + 1 + 1 ≠ w.heap.size + 1; omega), heap_setCell_other W _ _ _ (by show w.heap.size + 1 + 1 ≠ w.heap.size + 1; omega)⟩,
      ⟨by rw [← HS.out]; exact World.cell?_setCell_same' _ _ _ (by rw [hv]; rfl), by rw [World.frozen?_setCell]; exact hvf, by rw [World.cell?_setCell_other W _ _ _ (by intro e; injection e with e1; omega)]; exact hcx⟩, hB.setCell (p := ⟨w.heap.size + 1, 0, none⟩) (by simp) _⟩
  case done =>
    rintro D ys W hD rfl ⟨⟨hv, _, _⟩, hB⟩ hK
    rw [hf_upto z n (cv x) n (Nat.le_refl _), Nat.sub_self, pv_all] at hv
    gi_wp2
    refine ⟨by simp, .inl ⟨_, _, rfl, run_takeDeferred hK, ?_⟩⟩
    exact ⟨_, results_tmp rfl _ _ _, rfl, grown_below (hB.trans (belowK_b (w := w) (Nat.le_refl _) W D _ _ (by simp at hD; omega) hK rfl rfl))⟩
  case stop =>
    rintro D c pre W _ _ h _
    exact h.elim
end Con
end Go.Proofs.Ytbemggelljgkhaa
