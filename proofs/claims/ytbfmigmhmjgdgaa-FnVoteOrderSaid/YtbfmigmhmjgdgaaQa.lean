/-
  What the model's draws ask of its own functions, at whatever numbers: that they answer something, and leave memory as it was.
-/
import Derived.Test.YtbfmigmhmjgdgaaDo
import Derived.Test.YtbfmigmhmjgdgaaOps
import Derived.Test.YtbfmigmhmjgdgaaMem
namespace Go.Proofs.Ytbfmigmhmjgdgaa
namespace Con
open Go.RowKit Alg Mem
set_option linter.unusedVariables false

/-- The model's power, at whatever number. -/
def qpw (a : Int) : Nat → Int
  | 0 => 1
  | k + 1 => (wrap64 (qpw a k * a)).tmod 47
/-- The model's value, behind k numbers from the last. -/
def qat (z : Nat → Int) (len : Nat) (x : Int) : Nat → Int
  | 0 => 1
  | k + 1 => (wrap64 (qpw (qat z len x k) x.toNat * z (len - 1 - k))).tmod 47
/-- The model's test, at whatever numbers. -/
def qfit (z : Nat → Int) (len : Nat) (x n : Int) : Bool := qpw 2 n.toNat == qat z len x len
theorem badl_rng {g : Nat → Bool} {k j : Nat} (h : j < (badl g k).length) : 1 ≤ li (badl g k) j ∧ li (badl g k) j ≤ (k : Int) := by
  induction k with
  | zero => simp [badl] at h
  | succ k ih =>
    cases hg : g k with
    | true => rw [badl_yes hg] at h ⊢; have := ih h; omega
    | false =>
      rw [badl_no hg] at h ⊢
      rcases Nat.lt_or_ge j (badl g k).length with h' | h'
      · rw [li_app h']; have := ih h'; omega
      · obtain rfl : j = (badl g k).length := by simp at h; omega
        rw [li_last]; omega
def qbad (n1 : Nat) (z1 z2 : Nat → Int) (k : Nat) : Bool := qfit z1 n1 ((k : Int) + 1) (z2 k)
end Con
end Go.Proofs.Ytbfmigmhmjgdgaa
/-
  Answers and deals while the model draws them: what holds of the answers laid so far, of the reader, and of the deals that they answer.
-/

namespace Go.Proofs.Ytbfmigmhmjgdgaa
namespace Draw
open Go.RowKit Alg Mem Con Mp
set_option linter.unusedVariables false

/-- Deals whose blocks lie from lo to hi. -/
structure DIn (w : World) (lo hi : Nat) (a : Option Addr) (len : Nat) (D : Nat → DV) : Prop where
  di : DealsIn w a len D
  rng : ∀ b off, a = some ⟨b, off, none⟩ → lo ≤ b ∧ b < hi
  rows : ∀ j, j < len → (∀ b off, (D j).a1 = some ⟨b, off, none⟩ → lo ≤ b ∧ b < hi) ∧ (∀ b off, (D j).a2 = some ⟨b, off, none⟩ → lo ≤ b ∧ b < hi)
theorem ints_keptR {w w' : World} {a : Option Addr} {len lo hi : Nat} {z : Nat → Int} {r : Option Nat} (h : Ints w a len z) (hg : w.grownBy w' r) (hb : ∀ b off, a = some ⟨b, off, none⟩ → lo ≤ b ∧ b < hi) (hr : ∀ g, r = some g → g < lo ∨ hi ≤ g) : Ints w' a len z := by
  rcases h with h | ⟨b, off, ha, hl, hc⟩
  · exact .inl h
  · refine .inr ⟨b, off, ha, Nat.lt_of_lt_of_le hl hg.size, fun j hj => ?_⟩
    rw [World.cell?_of_block (w := w) (hg.block b hl (by intro e; have h1 := hr b e.symm; have h2 := hb b off ha; omega))]
    exact hc j hj
theorem DIn.kept {w w' : World} {lo hi : Nat} {a : Option Addr} {len : Nat} {D : Nat → DV} {r : Option Nat} (h : DIn w lo hi a len D) (hg : w.grownBy w' r) (hr : ∀ g, r = some g → g < lo ∨ hi ≤ g) : DIn w' lo hi a len D := by
  refine ⟨?_, h.rng, h.rows⟩
  rcases h.di with h0 | ⟨b, off, ha, hl, hc⟩
  · exact .inl h0
  · have hb := hg.block b hl (by intro e; have h1 := hr b e.symm; have h2 := h.rng b off ha; omega)
    refine .inr ⟨b, off, ha, Nat.lt_of_lt_of_le hl hg.size, fun j hj => ?_⟩
    obtain ⟨⟨h0, h1, h2⟩, hrw⟩ := hc j hj
    exact ⟨⟨(World.cell?_of_block hb).trans h0, (World.cell?_of_block hb).trans h1, (World.cell?_of_block hb).trans h2⟩, ints_keptR hrw.i1 hg (h.rows j hj).1 hr, ints_keptR hrw.i2 hg (h.rows j hj).2 hr⟩

theorem wf_few {n : Int} (h : 0 ≤ n) (h' : n ≤ 1000) : wf n = true := WalkArith.wf_i64 (by omega)
/-- The cells of answers. -/
def cellsA : List Ans → List Value
  | [] => []
  | x :: r => .int .i64 x.f :: .int .i64 x.t :: .int .i64 x.s :: cellsA r
theorem cellsA_len (L : List Ans) : (cellsA L).length = L.length * 3 := by
  induction L with
  | nil => rfl
  | cons x r ih => simp [cellsA, ih]; omega
theorem cellsA_app (L : List Ans) (x : Ans) : cellsA (L ++ [x]) = cellsA L ++ [.int .i64 x.f, .int .i64 x.t, .int .i64 x.s] := by
  induction L with
  | nil => rfl
  | cons y r ih => simp [cellsA, ih]
def aAt (L : List Ans) (j : Nat) : Ans := L.getD j ⟨0, 0, 0⟩
theorem cellsA_get : ∀ (L : List Ans) (j : Nat), j < L.length → (cellsA L)[j * 3]? = some (.int .i64 (aAt L j).f) ∧ (cellsA L)[j * 3 + 1]? = some (.int .i64 (aAt L j).t) ∧ (cellsA L)[j * 3 + 2]? = some (.int .i64 (aAt L j).s)
  | [], j, h => by simp at h
  | x :: r, 0, _ => ⟨rfl, rfl, rfl⟩
  | x :: r, j + 1, h => by
    have := cellsA_get r j (by simpa using h)
    rw [show (j + 1) * 3 = j * 3 + 3 by omega]
    simpa [cellsA, aAt] using this
def wfL (L : List Ans) : Prop := ∀ x ∈ L, wf x.f = true ∧ wf x.t = true ∧ wf x.s = true
theorem own_far {W : World} {lo B : Nat} {T : TypeId} {v : Value} {n k : Nat} {xs : List Value} (h : W.ownsRow lo T k v n xs) (hB : B < lo) : v.ownBlock = none ∨ v.ownBlock ≠ some B := by
  cases hv : v.ownBlock with
  | none => exact .inl rfl
  | some g => refine .inr (fun e => ?_); have := (h.lt g hv).1; injection e with e; omega
/-- A row of numbers is no row of answers. -/
theorem row_own_ne {W : World} {lo lo2 k : Nat} {T E : TypeId} {v : Value} {n b len cap : Nat} {xs : List Value} {z : Nat → Int} (h : W.ownsRow lo T k v n xs) (r : Row W lo2 E b len cap z) (hne : T ≠ E) : some b ≠ v.ownBlock := by
  rcases h.2 with ⟨rfl, _⟩ | ⟨g, c, cur, rfl, _, hg, _⟩
  · intro e; cases e
  · intro e
    have e := Option.some.inj e
    simp at e
    subst e
    obtain ⟨f, ⟨cur', hb, _, _⟩, _⟩ := r.row
    rw [hg] at hb
    injection hb with hb
    injection hb with _ hb
    exact hne hb
end Draw
end Go.Proofs.Ytbfmigmhmjgdgaa
