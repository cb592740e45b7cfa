/-
  What dealers have published: the program's map of the answered shares, by dealer and member, by its contract.
-/
import Derived.Test.YtkklhlffbfgolaaMe
import Derived.Test.YtkklhlffbfgolaaKb
import Derived.Test.YtkklhlffbfgolaaRows
import Derived.Maps.AppendAt
import Derived.ProofKit
import Derived.DeepKeys5
namespace Go.Proofs.Ytkklhlffbfgolaa
namespace Mp
open Go.RowKit Alg Mem Con Me
open Go.ChangeShapes (lits)
set_option linter.unusedVariables false

/-- An answer. -/
structure Ans where
  f : Int
  t : Int
  s : Int
/-- The shares that the first k answers give, of a dealer to a member. -/
def shs (A : Nat → Ans) (f t : Int) : Nat → List Int
  | 0 => []
  | k + 1 => shs A f t k ++ (if (A k).f = f ∧ (A k).t = t then [(A k).s] else [])
theorem shs_len (A : Nat → Ans) (f t : Int) (k : Nat) : (shs A f t k).length ≤ k := by
  induction k with
  | zero => simp [shs]
  | succ k ih => simp only [shs, List.length_append]; split <;> simp <;> omega
theorem shs_yes {A : Nat → Ans} {f t : Int} {k : Nat} (h : (A k).f = f ∧ (A k).t = t) : shs A f t (k + 1) = shs A f t k ++ [(A k).s] := by simp [shs, h]
theorem shs_no {A : Nat → Ans} {f t : Int} {k : Nat} (h : ¬ ((A k).f = f ∧ (A k).t = t)) : shs A f t (k + 1) = shs A f t k := by simp [shs, h]
abbrev wf (n : Int) : Bool := (Lit.int .i64 n).wf
/-- Answers in memory. -/
def AnsIn (w : World) (a : Option Addr) (len : Nat) (A : Nat → Ans) : Prop :=
  len = 0 ∨ ∃ b off, a = some ⟨b, off, none⟩ ∧ b < w.heap.size ∧ ∀ j, j < len → w.cell? ⟨b, off + j * 3, none⟩ = some (.int .i64 (A j).f) ∧ w.cell? ⟨b, off + j * 3 + 1, none⟩ = some (.int .i64 (A j).t) ∧ w.cell? ⟨b, off + j * 3 + 2, none⟩ = some (.int .i64 (A j).s)
def WfA (len : Nat) (A : Nat → Ans) : Prop := ∀ j, j < len → wf (A j).f = true ∧ wf (A j).t = true ∧ wf (A j).s = true
theorem AnsIn.keptB {w w' : World} {a : Option Addr} {len : Nat} {A : Nat → Ans} (h : AnsIn w a len A) (hb : ∀ k, k < w.heap.size → w'.heap[k]? = w.heap[k]?) (hs : w.heap.size ≤ w'.heap.size) : AnsIn w' a len A := by
  rcases h with h | ⟨b, off, ha, hl, hc⟩
  · exact .inl h
  · refine .inr ⟨b, off, ha, by omega, fun j hj => ?_⟩
    rw [World.cell?_of_block (w := w) (w' := w') (hb b hl), World.cell?_of_block (w := w) (w' := w') (hb b hl), World.cell?_of_block (w := w) (w' := w') (hb b hl)]
    exact hc j hj
theorem AnsIn.kept {w w' : World} {a : Option Addr} {len : Nat} {A : Nat → Ans} (h : AnsIn w a len A) (hg : w.grownBy w' none) : AnsIn w' a len A := h.keptB (fun k hk => hg.block k hk (by simp)) hg.size

theorem laidOut : laidOutB Try.prog = true := by kernel_rfl
theorem zeroI (w : World) : (zeroValue 23).run Try.prog w = .ok (.slice none 0 0) w := by kernel_rfl
theorem typesC : ∃ m, Try.prog.types.size = m + 2 := ⟨Try.prog.types.size - 2, by kernel_rfl⟩
/-- What a key reads as. -/
def kl (f t : Int) : Lit := .string (keyBytes [.int .i64 f, .int .i64 t])
/-- What a map holds at a key: these numbers. -/
def Reads (D : DataW Unit) (k : Lit) (zs : List Int) : Prop := (D.atKey k .nil = .nil ∧ zs = []) ∨ D.atKey k .nil = .slice (lits .i64 zs) []
theorem lits_inj {zs ys : List Int} (h : lits (H := Unit) .i64 zs = lits .i64 ys) : zs = ys := by
  unfold lits at h
  exact (List.map_inj_right (fun a b hab => by injection hab with hab; injection hab)).1 h
theorem reads_eq {w : World} {base : Nat} {e : TypeId} {D : DataW Unit} {k : Lit} {v : Value} {zs ys : List Int} (h : Reads D k ys) (ho : w.ownsInts base e .i64 v zs) (hat : D.atKey k .nil = rowDatum .i64 v zs) : zs = ys := by
  rcases ho.datum (H := Unit) with ⟨h1, e1⟩ | h1 <;> rcases h with ⟨h2, e2⟩ | h2 <;> rw [hat, h1] at h2
  · rw [e1, e2]
  · cases h2
  · cases h2
  · injection h2 with h2 _; exact lits_inj h2
theorem reads_nil (k : Lit) : Reads (.map []) k [] := .inl ⟨rfl, rfl⟩
theorem grown_own {w wr w' : World} {r : Option Nat} (h : w.grownBy wr none) (hk : wr.grownBy w' r) (hr : ∀ g, r = some g → w.heap.size ≤ g) : w.grownBy w' none := by
  cases r with
  | none => exact gtr h hk
  | some g => exact grown_new h (hr g rfl) hk
theorem one_kept {W W1 : World} {B : Nat} {ad : Addr} {news : List Value} (hg : W.grownBy W1 (some B)) (hl : ad.block < W.heap.size) (hne : ad.block ≠ B) (h : ∀ j u, news[j]? = some u → W.cell? (ad.add j) = some u) : ∀ j u, news[j]? = some u → W1.cell? (ad.add j) = some u := by
  intro j u hj
  have hb : (ad.add j).block = ad.block := by unfold Addr.add; split <;> rfl
  rw [World.cell?_of_block (w := W) (hg.block _ (by rw [hb]; exact hl) (by rw [hb]; simpa using hne))]
  exact h j u hj
theorem one_at (wr : World) (o1 o2 : Obj) (s : Int) {T : TypeId} {B : Nat} {W1 : World} (hB : B < wr.heap.size) (hg : (((wr.alloc o1).alloc o2).alloc (.cells #[.int .i64 s] T)).grownBy W1 (some B)) :
    ∀ j u, [Value.int .i64 s][j]? = some u → W1.cell? ((⟨wr.heap.size + 1 + 1, 0, none⟩ : Addr).add j) = some u := by
  have e1 : ((wr.alloc o1).alloc o2).heap.size = wr.heap.size + 1 + 1 := by show ((wr.heap.push _).push _).size = _; simp
  have e2 : (((wr.alloc o1).alloc o2).alloc (.cells #[.int .i64 s] T)).heap.size = wr.heap.size + 1 + 1 + 1 := by show (((wr.heap.push _).push _).push _).size = _; simp
  refine one_kept hg (by rw [e2]; show wr.heap.size + 1 + 1 < _; omega) (by show wr.heap.size + 1 + 1 ≠ _; omega) ?_
  have := cell_one_new ((wr.alloc o1).alloc o2) (.int .i64 s) T
  rw [e1] at this
  exact this
end Mp
end Go.Proofs.Ytkklhlffbfgolaa
