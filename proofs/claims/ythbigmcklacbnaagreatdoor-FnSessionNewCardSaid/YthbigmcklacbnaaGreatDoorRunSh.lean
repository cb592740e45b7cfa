/-
  The walk of the law on a share list's form.
-/
import Derived.Test.YthbigmcklacbnaaGreatDoorSi
import Derived.Deep.RegionWith
import Derived.Deep.RegionHeld3
import Derived.Deep.AppendLies
import Derived.Deep.RegionLaw
import Derived.IntWalk
namespace Go.Proofs.YthbigmcklacbnaaGreatDoor
namespace Run
open Go.RowKit Alg Mem Con Hd
set_option linter.unusedVariables false

def cellsH (H : Nat → HV) (k : Nat) : List Value := (List.range k).flatMap fun j => [.int .i64 (H j).m, .int .i64 (H j).s]
theorem cellsH_succ (H : Nat → HV) (k : Nat) : cellsH H (k + 1) = cellsH H k ++ [.int .i64 (H k).m, .int .i64 (H k).s] := by simp [cellsH, List.range_succ]
theorem cellsH_len (H : Nat → HV) (k : Nat) : (cellsH H k).length = k * 2 := by
  induction k with
  | zero => rfl
  | succ k ih => rw [cellsH_succ, List.length_append, ih]; simp; omega
theorem cellsH_at (H : Nat → HV) {k j : Nat} (hj : j < k) : (cellsH H k)[j * 2]? = some (.int .i64 (H j).m) ∧ (cellsH H k)[j * 2 + 1]? = some (.int .i64 (H j).s) := by
  induction k with
  | zero => omega
  | succ k ih =>
    rw [cellsH_succ]
    rcases (by omega : j < k ∨ j = k) with h | rfl
    · rw [List.getElem?_append_left (by rw [cellsH_len]; omega), List.getElem?_append_left (by rw [cellsH_len]; omega)]
      exact ih h
    · rw [List.getElem?_append_right (by rw [cellsH_len]; omega), List.getElem?_append_right (by rw [cellsH_len]; omega), cellsH_len, show j * 2 - j * 2 = 0 by omega, show j * 2 + 1 - j * 2 = 1 by omega]
      exact ⟨rfl, rfl⟩
theorem cellsH_one (H : Nat → HV) (k : Nat) : ∀ u ∈ cellsH H k, u.oneCell' = true := by
  intro u hu
  simp only [cellsH, List.mem_flatMap, List.mem_range] at hu
  obtain ⟨j, _, hu⟩ := hu
  simp only [List.mem_cons, List.not_mem_nil, or_false] at hu
  rcases hu with rfl | rfl <;> rfl
theorem cellsH_congr {H H' : Nat → HV} {k : Nat} (h : ∀ j, j < k → H j = H' j) : cellsH H k = cellsH H' k := by
  induction k with
  | zero => rfl
  | succ k ih => rw [cellsH_succ, cellsH_succ, ih fun j hj => h j (by omega), h k (by omega)]
def catH (H : Nat → HV) (k : Nat) (H' : Nat → HV) (j : Nat) : HV := if j < k then H j else H' (j - k)
theorem cellsH_cat (H H' : Nat → HV) (k m : Nat) : cellsH H k ++ cellsH H' m = cellsH (catH H k H') (k + m) := by
  induction m with
  | zero => simp only [Nat.add_zero]; rw [show cellsH H' 0 = [] from rfl, List.append_nil]; exact cellsH_congr fun j hj => by simp [catH, hj]
  | succ m ih =>
    rw [cellsH_succ, ← List.append_assoc, ih, show k + (m + 1) = k + m + 1 by omega, cellsH_succ]
    have e : catH H k H' (k + m) = H' m := by unfold catH; rw [if_neg (by omega), Nat.add_sub_cancel_left]
    rw [e]
theorem news_of {w : World} {b off n s m : Nat} {H : Nat → HV} (h : ∀ j, j < n → w.cell? ⟨b, off + j * 2, none⟩ = some (.int .i64 (H j).m) ∧ w.cell? ⟨b, off + j * 2 + 1, none⟩ = some (.int .i64 (H j).s)) (hs : s + m ≤ n) :
    ∀ j u, (cellsH (fun i => H (s + i)) m)[j]? = some u → w.cell? ((⟨b, off + s * 2, none⟩ : Addr).add j) = some u := by
  intro j u hu
  have hj : j < m * 2 := by have := (List.getElem?_eq_some_iff.1 hu).1; rwa [cellsH_len] at this
  have e : (⟨b, off + s * 2, none⟩ : Addr).add j = ⟨b, off + s * 2 + j, none⟩ := by
    by_cases h0 : j = 0
    · subst h0; simp [Addr.add]
    · simp [Addr.add, h0]
  rw [e]
  obtain ⟨h0, h1⟩ := h (s + j / 2) (by omega)
  obtain ⟨c0, c1⟩ := cellsH_at (fun i => H (s + i)) (show j / 2 < m by omega)
  rcases (by omega : j = j / 2 * 2 ∨ j = j / 2 * 2 + 1) with hp | hp
  · rw [hp, c0] at hu; injection hu with hu; subst hu
    rw [show off + s * 2 + j = off + (s + j / 2) * 2 by omega]; exact h0
  · rw [hp, c1] at hu; injection hu with hu; subst hu
    rw [show off + s * 2 + j = off + (s + j / 2) * 2 + 1 by omega]; exact h1
/-- Shares of the call's own, told. -/
def OwnHH (w : World) (lo : Nat) (v : Value) (n : Nat) (H : Nat → HV) : Prop := w.ownsRow lo 78 2 v n (cellsH H n)
theorem OwnHH.hld {w : World} {lo : Nat} {v : Value} {n : Nat} {H : Nat → HV} (h : OwnHH w lo v n H) : ∃ a c, v = .slice a n c ∧ HldIn w a n H := by
  rcases h.2 with ⟨hv, h0⟩ | ⟨g, c, cur, hv, _⟩
  · exact ⟨none, 0, by rw [hv, h0], .inl h0⟩
  · have ho := h
    unfold OwnHH at ho
    rw [hv] at ho
    refine ⟨_, c, hv, .inr ⟨g, 0, rfl, (ho.lt g rfl).2, fun j hj => ?_⟩⟩
    obtain ⟨c0, c1⟩ := cellsH_at H hj
    rw [Nat.zero_add]
    exact ⟨(ho.cellAt _ (by omega)).trans c0, (ho.cellAt _ (by omega)).trans c1⟩
theorem empty_own (w : World) : (w.alloc (.cells #[] 78)).ownsRow w.heap.size 78 2 (.slice (some ⟨w.heap.size, 0, none⟩) 0 0) 0 [] :=
  ⟨rfl, .inr ⟨_, 0, #[], rfl, Nat.le_refl _, Blk.new _ #[] _, Nat.le_refl _, by decide, rfl, rfl⟩⟩
theorem own_next {w wr w1 : World} {T : TypeId} {s n : Nat} {v : Value} {xs : List Value} (g : w.grownBy wr none) (ho : wr.ownsRow w.heap.size T s v n xs) (h : wr.grownBy w1 v.ownBlock) : w.grownBy w1 none := by
  cases hv : v.ownBlock with
  | none => rw [hv] at h; exact gtr g h
  | some b => rw [hv] at h; exact grown_new g (ho.lt b hv).1 h
theorem undrew {w w' : World} {r : Option Nat} (h : w.drew.grownBy w' r) : w.grownBy w' r := ⟨h.os, h.tape, h.output, h.size, h.block⟩
/-- An append on its own, of no element too. -/
theorem step_app0 {P : Program} (w : World) {ops : Array Oper} {o : Oper} {a : Act} {K : Act → World → Prop} {Q : Exit → Act → World → Prop} {E : Prop} (hw : Region.wanted o (yielded ops a.tmps) = true) (s x : Operand) (t : TypeId)
    (ho : o.op = .call { callee := .builtin .append, args := #[s, x], argTypes := #[t, t] })
    (base : Nat) (e : TypeId) (i : TypeInfo) (z : Value) (size bytes : Nat) (ht : P.underlying t = some (.slice e)) (hi : P.info? e = some i) (hz : i.zero = some z)
    (hsize : i.size = size) (hby : i.bytes = bytes) (hzs : z.cells.size = size) (hsz : 0 < size)
    (v : Value) (n : Nat) (xs : List Value) (hs : a.eval s = v) (hown : w.ownsRow base e size v n xs)
    (ad : Addr) (m c : Nat) (news : List Value) (hx : a.eval x = .slice (some ad) m c) (hl : news.length = m * size) (hnews : ∀ j u, news[j]? = some u → w.cell? (ad.add j) = some u) (h1 : ∀ u ∈ news, u.oneCell' = true)
    (h63 : n + m ≤ maxLen) (hbytes : (n + m) * bytes ≤ 140737488355328) (hbase : base ≤ w.heap.size)
    (h : ∀ v' w', w'.ownsRow base e size v' (n + m) (xs ++ news) → w.grownBy w' v.ownBlock → (v' = .slice none 0 0 ↔ v = .slice none 0 0 ∧ m = 0) → K (a.put o.dst v') w') :
    if Region.wanted o (yielded ops a.tmps) = true then Oper.wp P o a w K Q else E := by
  rw [if_pos hw]
  exact wp_append_own w s x t ho base e i z size bytes ht hi hz hsize hby hzs hsz v n xs hs hown ad m c news hx hl hnews h1 h63 hbytes hbase h
/-- A share list with one left out. -/
def woH (H : Nat → HV) (k j : Nat) : HV := if j < k then H j else H (j + 1)
theorem hk_wo {H : Nat → HV} {n k : Nat} (h : hkF H n = true) (hk : k < n) : hkF (woH H k) (n - 1) = true := by
  rw [hk_iff]; intro j hj
  unfold woH
  rw [hkE_iff]
  by_cases h1 : j < k
  · obtain ⟨a, b⟩ := hk_at h (show j < n by omega)
    simp only [h1, if_true]
    refine ⟨a, b, ?_⟩
    by_cases h0 : j = 0
    · exact .inl h0
    · refine .inr ?_
      rw [if_pos (by omega)]
      exact hk_asc h (by omega) (by omega)
  · obtain ⟨a, b⟩ := hk_at h (show j + 1 < n by omega)
    rw [if_neg h1]
    refine ⟨a, b, ?_⟩
    by_cases h0 : j = 0
    · exact .inl h0
    · refine .inr ?_
      split
      · exact hk_asc h (by omega) (by omega)
      · exact hk_asc h (by omega) (by omega)
/-- One twice: no share list. -/
theorem hk_twice {H : Nat → HV} {n k : Nat} (hk : k < n) : hkF (catH H (k + 1) (fun i => H (k + i))) (n + 1) = false := by
  refine hk_no (k := k + 1) (by omega) ?_
  cases he : hkE (catH H (k + 1) fun i => H (k + i)) (k + 1) with
  | false => rfl
  | true =>
    obtain ⟨_, _, h3⟩ := hkE_iff.1 he
    simp [catH] at h3
theorem cat_wo {H : Nat → HV} {n k : Nat} (hk : k < n) : cellsH H k ++ cellsH (fun i => H (k + 1 + i)) (n - (k + 1)) = cellsH (woH H k) (n - 1) := by
  rw [cellsH_cat, show k + (n - (k + 1)) = n - 1 by omega]
  exact cellsH_congr fun j hj => by
    unfold catH woH
    by_cases h : j < k
    · rw [if_pos h, if_pos h]
    · rw [if_neg h, if_neg h]; show H (k + 1 + (j - k)) = H (j + 1); rw [show k + 1 + (j - k) = j + 1 by omega]
theorem own_wo {w : World} {lo : Nat} {v : Value} {H : Nat → HV} {n k : Nat} (hk : k < n) (h : w.ownsRow lo 78 2 v (k + (n - (k + 1))) (cellsH H k ++ cellsH (fun i => H (k + 1 + i)) (n - (k + 1)))) : OwnHH w lo v (n - 1) (woH H k) := by
  unfold OwnHH
  rw [← cat_wo hk]
  rwa [show k + (n - (k + 1)) = n - 1 by omega] at h
theorem cat_tw {H : Nat → HV} {n k : Nat} (hk : k < n) : cellsH H (k + 1) ++ cellsH (fun i => H (k + i)) (n - k) = cellsH (catH H (k + 1) fun i => H (k + i)) (n + 1) := by
  rw [cellsH_cat, show k + 1 + (n - k) = n + 1 by omega]
theorem own_tw {w : World} {lo : Nat} {v : Value} {H : Nat → HV} {n k : Nat} (hk : k < n) (h : w.ownsRow lo 78 2 v (k + 1 + (n - k)) (cellsH H (k + 1) ++ cellsH (fun i => H (k + i)) (n - k))) : OwnHH w lo v (n + 1) (catH H (k + 1) fun i => H (k + i)) := by
  unfold OwnHH
  rw [← cat_tw hk]
  rwa [show k + 1 + (n - k) = n + 1 by omega] at h
theorem zero_in (w : World) : HldIn (w.alloc (.cells #[.int .i64 0, .int .i64 0] 78)) (some ⟨w.heap.size, 0, none⟩) 1 (fun _ => ⟨0, 0⟩) := by
  have q := Blk.new w #[.int .i64 0, .int .i64 0] 78
  refine .inr ⟨_, 0, rfl, q.lt, fun j hj => ?_⟩
  obtain rfl : j = 0 := by omega
  exact ⟨q.cell 0, q.cell 1⟩
end Run
end Go.Proofs.YthbigmcklacbnaaGreatDoor
