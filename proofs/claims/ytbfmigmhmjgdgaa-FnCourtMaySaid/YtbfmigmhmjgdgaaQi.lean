/-
  How the model draws a key that may be spoilt.
-/
import Derived.Laws.AppendOwnNone
import Derived.Test.YtbfmigmhmjgdgaaQk
namespace Go.Proofs.Ytbfmigmhmjgdgaa
namespace Draw
open Go.RowKit Alg Mem Con Mp
set_option linter.unusedVariables false

/-- A key, drawn. -/
def GotKy (w : World) (base B : Nat) (a : Option Addr) (len cap p : Nat) (e : Ending) (w' : World) : Prop :=
  ∃ (need many : Nat) (ag : Option Addr) (ng cg : Nat) (zg : Nat → Int) (ac : Option Addr) (nc cc : Nat) (zc : Nat → Int), e = .returned (.agg #[.int .i64 need, .int .i64 many, .slice ag ng cg, .slice ac nc cc]) ∧ KeyIn w w' need many ag ng zg ac nc zc ∧ w.grownBy w' (some B) ∧ ∃ p', p ≤ p' ∧ p' ≤ p + 50000 ∧ Rd w' base B a len cap p'
theorem ints_news {w : World} {b off n : Nat} {z : Nat → Int} (h : Ints w (some ⟨b, off, none⟩) n z) : ∀ j u, (vals z n)[j]? = some u → w.cell? ((⟨b, off, none⟩ : Addr).add j) = some u := by
  intro j u hu
  have hj : j < n := by
    have := (List.getElem?_eq_some_iff.1 hu).1
    rwa [vals_length] at this
  rw [vals_get z hj] at hu
  rcases h with h | ⟨b', off', e, hb, hc⟩
  · omega
  · injection e with e; injection e with e1 e2; subst e1; subst e2
    have e := (hc j hj).trans hu
    by_cases h0 : j = 0
    · subst h0; simpa [Addr.add] using e
    · simpa [Addr.add, h0] using e
theorem one_news (w : World) (o : Obj) (n : Int) (E : TypeId) : ∀ j u, ([.int .i64 n] : List Value)[j]? = some u → ((w.alloc o).alloc (.cells #[.int .i64 n] E)).cell? ((⟨w.heap.size + 1, 0, none⟩ : Addr).add j) = some u := by
  have hs : (w.alloc o).heap.size = w.heap.size + 1 := World.size_alloc w o
  rw [← hs]
  exact cell_one_new _ _ _
theorem vals_one (z : Nat → Int) (n : Nat) : ∀ u ∈ vals z n, u.oneCell' = true := by
  intro u hu
  simp only [vals, List.mem_map] at hu
  obtain ⟨j, _, rfl⟩ := hu
  rfl
theorem own_grown {w0 wr w1 : World} {lo k n : Nat} {T : TypeId} {v : Value} {xs : List Value} {o : Obj} (hg : w0.grownBy wr none) (ho : wr.ownsRow lo T k v n xs) (hlo : w0.heap.size ≤ lo) (h : (wr.alloc o).grownBy w1 v.ownBlock) : w0.grownBy w1 none := by
  cases hv : v.ownBlock with
  | none => rw [hv] at h; exact gtr (gtr hg (grown_alloc _ _ _)) h
  | some g => rw [hv] at h; exact grown_new (gtr hg (grown_alloc _ _ _)) (Nat.le_trans hlo (ho.lt g hv).1) h
/-- A copy with one more. -/
theorem two_row {W : World} {lo nc : Nat} {v : Value} {z : Nat → Int} {n : Nat} {xs : List Value} (h : W.ownsRow lo 3 1 v n xs) (hn : n = nc + 1) (hx : xs = vals z nc ++ [.int .i64 1]) :
    ∃ b cap, v = .slice (some ⟨b, 0, none⟩) (nc + 1) cap ∧ Row W lo 3 b (nc + 1) cap (fun j => if j < nc then z j else 1) := by
  subst hn; subst hx
  exact app_row2 h
/-- A key drawn from the program's input. -/
def GotP (w : World) (e : Ending) (w' : World) : Prop :=
  ∃ (need many : Nat) (ag : Option Addr) (ng cg : Nat) (zg : Nat → Int) (ac : Option Addr) (nc cc : Nat) (zc : Nat → Int), e = .returned (.agg #[.int .i64 need, .int .i64 many, .slice ag ng cg, .slice ac nc cc]) ∧ KeyIn w w' need many ag ng zg ac nc zc ∧ w.grownBy w' none
end Draw
end Go.Proofs.Ytbfmigmhmjgdgaa
/-
  How the model draws a key whose number of members may be spoilt.
-/

namespace Go.Proofs.Ytbfmigmhmjgdgaa
namespace Draw
open Go.RowKit Alg Mem Con Mp
set_option linter.unusedVariables false

end Draw
end Go.Proofs.Ytbfmigmhmjgdgaa
