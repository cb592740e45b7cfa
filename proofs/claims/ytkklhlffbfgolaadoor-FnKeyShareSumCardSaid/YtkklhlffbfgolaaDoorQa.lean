/-
  Answers and deals while the model draws them: what holds of the answers laid so far, of the reader, and of the deals that they answer.
-/
import Derived.Test.YtkklhlffbfgolaaDoorQf
import Derived.Test.YtkklhlffbfgolaaDoorSa
import Derived.Test.YtkklhlffbfgolaaDoorDrawGrp
namespace Go.Proofs.YtkklhlffbfgolaaDoor
namespace Draw
open Go.RowKit Alg Mem Con Mp
set_option linter.unusedVariables false

/-- Deals whose blocks lie from lo to hi. -/
structure DIn (w : World) (lo hi : Nat) (a : Option Addr) (len : Nat) (D : Nat → DV) : Prop where
  di : DealsIn w a len D
  rng : ∀ b off, a = some ⟨b, off, none⟩ → lo ≤ b ∧ b < hi
  rows : ∀ j, j < len → (∀ b off, (D j).a1 = some ⟨b, off, none⟩ → lo ≤ b ∧ b < hi) ∧ (∀ b off, (D j).a2 = some ⟨b, off, none⟩ → lo ≤ b ∧ b < hi)
theorem ints_keptR {w w' : World} {a : Option Addr} {len lo hi : Nat} {z : Nat → Int} {r : Option Nat} (h : Ints w a len z) (hg : w.grownBy w' r) (hb : ∀ b off, a = some ⟨b, off, none⟩ → lo ≤ b ∧ b < hi) (hr : ∀ g, r = some g → g < lo ∨ hi ≤ g) : Ints w' a len z := by
  rcases h with h | ⟨b, off, ha, hl, hc⟩
  · exact .inl h
  · refine .inr ⟨b, off, ha, Nat.lt_of_lt_of_le hl hg.size, fun j hj => ?_⟩
    rw [World.cell?_of_block (w := w) (hg.block b hl (by intro e; have h1 := hr b e.symm; have h2 := hb b off ha; omega))]
    exact hc j hj
theorem DIn.kept {w w' : World} {lo hi : Nat} {a : Option Addr} {len : Nat} {D : Nat → DV} {r : Option Nat} (h : DIn w lo hi a len D) (hg : w.grownBy w' r) (hr : ∀ g, r = some g → g < lo ∨ hi ≤ g) : DIn w' lo hi a len D := by
  refine ⟨?_, h.rng, h.rows⟩
  rcases h.di with h0 | ⟨b, off, ha, hl, hc⟩
  · exact .inl h0
  · have hb := hg.block b hl (by intro e; have h1 := hr b e.symm; have h2 := h.rng b off ha; omega)
    refine .inr ⟨b, off, ha, Nat.lt_of_lt_of_le hl hg.size, fun j hj => ?_⟩
    obtain ⟨⟨h0, h1, h2⟩, hrw⟩ := hc j hj
    exact ⟨⟨(World.cell?_of_block hb).trans h0, (World.cell?_of_block hb).trans h1, (World.cell?_of_block hb).trans h2⟩, ints_keptR hrw.i1 hg (h.rows j hj).1 hr, ints_keptR hrw.i2 hg (h.rows j hj).2 hr⟩

theorem wf_few {n : Int} (h : 0 ≤ n) (h' : n ≤ 1000) : wf n = true := WalkArith.wf_i64 (by omega)
/-- The cells of answers. -/
def cellsA : List Ans → List Value
  | [] => []
  | x :: r => .int .i64 x.f :: .int .i64 x.t :: .int .i64 x.s :: cellsA r
theorem cellsA_len (L : List Ans) : (cellsA L).length = L.length * 3 := by
  induction L with
  | nil => rfl
  | cons x r ih => simp [cellsA, ih]; omega
theorem cellsA_app (L : List Ans) (x : Ans) : cellsA (L ++ [x]) = cellsA L ++ [.int .i64 x.f, .int .i64 x.t, .int .i64 x.s] := by
  induction L with
  | nil => rfl
  | cons y r ih => simp [cellsA, ih]
def aAt (L : List Ans) (j : Nat) : Ans := L.getD j ⟨0, 0, 0⟩
theorem cellsA_get : ∀ (L : List Ans) (j : Nat), j < L.length → (cellsA L)[j * 3]? = some (.int .i64 (aAt L j).f) ∧ (cellsA L)[j * 3 + 1]? = some (.int .i64 (aAt L j).t) ∧ (cellsA L)[j * 3 + 2]? = some (.int .i64 (aAt L j).s)
  | [], j, h => by simp at h
  | x :: r, 0, _ => ⟨rfl, rfl, rfl⟩
  | x :: r, j + 1, h => by
    have := cellsA_get r j (by simpa using h)
    rw [show (j + 1) * 3 = j * 3 + 3 by omega]
    simpa [cellsA, aAt] using this
def wfL (L : List Ans) : Prop := ∀ x ∈ L, wf x.f = true ∧ wf x.t = true ∧ wf x.s = true
/-- Answers of the call's own. -/
def OwnA (w : World) (lo : Nat) (v : Value) (L : List Ans) : Prop := w.ownsRow lo 77 3 v L.length (cellsA L) ∧ wfL L
theorem OwnA.ans {w : World} {lo : Nat} {v : Value} {L : List Ans} (h : OwnA w lo v L) : ∃ a c, v = .slice a L.length c ∧ AnsIn w a L.length (aAt L) ∧ WfA L.length (aAt L) := by
  have hw : WfA L.length (aAt L) := fun j hj => h.2 _ (by simp [aAt, hj])
  rcases h.1.2 with ⟨hv, h0⟩ | ⟨g, cap, cur, hv, _⟩
  · exact ⟨none, 0, by rw [hv, h0], .inl h0, hw⟩
  · by_cases h0 : L.length = 0
    · exact ⟨_, cap, hv, .inl h0, hw⟩
    · have ho := h.1
      rw [hv] at ho
      have hlt := (ho.lt g rfl).2
      refine ⟨_, cap, hv, .inr ⟨g, 0, rfl, hlt, fun j hj => ?_⟩, hw⟩
      obtain ⟨q0, q1, q2⟩ := cellsA_get L j hj
      rw [Nat.zero_add]
      exact ⟨(ho.cellAt _ (by omega)).trans q0, (ho.cellAt _ (by omega)).trans q1, (ho.cellAt _ (by omega)).trans q2⟩
/-- What holds while answers are drawn. -/
structure ASt (w : World) (base B : Nat) (a : Option Addr) (len cap p p' : Nat) (W : World) (v : Value) (L : List Ans) : Prop where
  own : OwnA W w.heap.size v L
  g : w.grownBy W (some B)
  rd : Rd W base B a len cap p'
  few : L.length + p ≤ p'
theorem own_far {W : World} {lo B : Nat} {T : TypeId} {v : Value} {n k : Nat} {xs : List Value} (h : W.ownsRow lo T k v n xs) (hB : B < lo) : v.ownBlock = none ∨ v.ownBlock ≠ some B := by
  cases hv : v.ownBlock with
  | none => exact .inl rfl
  | some g => refine .inr (fun e => ?_); have := (h.lt g hv).1; injection e with e; omega
theorem ASt.quiet {w : World} {base B : Nat} {a : Option Addr} {len cap p p' : Nat} {W W' : World} {v : Value} {L : List Ans} (h : ASt w base B a len cap p p' W v L) (hg : W.grownBy W' none) : ASt w base B a len cap p p' W' v L :=
  ⟨⟨h.own.1.kept hg (by cases v.ownBlock <;> simp), h.own.2⟩, grown_trans h.g (grown_some hg), h.rd.kept (fun k hk => hg.block k (by have := h.rd.lt; have := h.rd.from_; omega) (by simp)) (hg.block B h.rd.lt (by simp)), h.few⟩
theorem ASt.pick {w : World} {base B : Nat} {a : Option Addr} {len cap p p' p2 : Nat} {W W' : World} {v : Value} {L : List Ans} (h : ASt w base B a len cap p p' W v L) (hB : B < w.heap.size) (hg : W.grownBy W' (some B)) (hr : Rd W' base B a len cap p2) (hp : p' ≤ p2) : ASt w base B a len cap p p2 W' v L :=
  ⟨⟨h.own.1.kept hg (own_far h.own.1 hB), h.own.2⟩, grown_trans h.g hg, hr, by have := h.few; omega⟩
theorem ASt.app {w : World} {base B : Nat} {a : Option Addr} {len cap p p' : Nat} {W W' : World} {v v' : Value} {L : List Ans} {x : Ans} {T : TypeId} (h : ASt w base B a len cap p p' W v L) (hB : B < w.heap.size) (hf : L.length + 1 + p ≤ p')
    (hg : (W.alloc (.cells #[.int .i64 x.f, .int .i64 x.t, .int .i64 x.s] T)).grownBy W' v.ownBlock) (ho : W'.ownsRow w.heap.size 77 3 v' (L.length + 1) (cellsA L ++ [.int .i64 x.f, .int .i64 x.t, .int .i64 x.s])) (hw : wf x.f = true ∧ wf x.t = true ∧ wf x.s = true) :
    ASt w base B a len cap p p' W' v' (L ++ [x]) := by
  have hg' : W.grownBy W' v.ownBlock := grown_trans (grown_alloc W _ _) hg
  have hne : ∀ g, v.ownBlock = some g → w.heap.size ≤ g := fun g hv => (h.own.1.lt g hv).1
  refine ⟨⟨by rw [cellsA_app]; simpa using ho, fun y hy => ?_⟩, ?_, ?_, by simpa using hf⟩
  · rcases List.mem_append.1 hy with hy | hy
    · exact h.own.2 y hy
    · simp at hy; subst hy; exact hw
  · cases hv : v.ownBlock with
    | none => rw [hv] at hg'; exact grown_trans h.g (grown_some hg')
    | some g => rw [hv] at hg'; exact grown_newR h.g (hne g hv) hg'
  · have hlt := h.rd.lt; have hfr := h.rd.from_
    exact h.rd.kept (fun k hk => hg'.block k (by omega) (by intro e; have := hne k e.symm; omega)) (hg'.block B hlt (by intro e; have := hne B e.symm; omega))
/-- A row of numbers is no row of answers. -/
theorem row_own_ne {W : World} {lo lo2 k : Nat} {T E : TypeId} {v : Value} {n b len cap : Nat} {xs : List Value} {z : Nat → Int} (h : W.ownsRow lo T k v n xs) (r : Row W lo2 E b len cap z) (hne : T ≠ E) : some b ≠ v.ownBlock := by
  rcases h.2 with ⟨rfl, _⟩ | ⟨g, c, cur, rfl, _, hg, _⟩
  · intro e; cases e
  · intro e
    have e := Option.some.inj e
    simp at e
    subst e
    obtain ⟨f, ⟨cur', hb, _, _⟩, _⟩ := r.row
    rw [hg] at hb
    injection hb with hb
    injection hb with _ hb
    exact hne hb
theorem row_app {w W W' : World} {base B : Nat} {a : Option Addr} {len cap p p' : Nat} {v : Value} {L : List Ans} {lo2 b n c : Nat} {z : Nat → Int} {o : Obj} (h : ASt w base B a len cap p p' W v L) (r : Row W lo2 3 b n c z) (hg : (W.alloc o).grownBy W' v.ownBlock) : Row W' lo2 3 b n c z :=
  r.kept (grown_trans (grown_alloc W o _) hg) (row_own_ne h.own.1 r (by decide))
end Draw
end Go.Proofs.YtkklhlffbfgolaaDoor
