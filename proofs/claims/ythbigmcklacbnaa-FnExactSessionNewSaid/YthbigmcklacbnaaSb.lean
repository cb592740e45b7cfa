/-
  How the model draws shares; what it asks of them.
-/
import Derived.Test.YthbigmcklacbnaaQk
import Derived.Test.YthbigmcklacbnaaSm
import Derived.Deep.RegionHeld3
import Derived.Test.YthbigmcklacbnaaKc
import Derived.Test.YthbigmcklacbnaaDo
namespace Go.Proofs.Ythbigmcklacbnaa
namespace Draw
open Go.RowKit Alg Mem Con Mp Hd
set_option linter.unusedVariables false

/-- Shares, drawn from the program's input. -/
def GotO (w : World) (e : Ending) (w' : World) : Prop :=
  ∃ (a : Option Addr) (n c : Nat) (H : Nat → HV), e = .returned (.slice a n c) ∧ HldIn w' a n H ∧ n ≤ 10 ∧ n ≤ c ∧ c ≤ maxLen ∧ w.grownBy w' none
/-- How many are needed, and shares. -/
def GotS (w : World) (e : Ending) (w' : World) : Prop :=
  ∃ (need : Int) (a : Option Addr) (n c : Nat) (H : Nat → HV), e = .returned (.tuple #[.int .i64 need, .slice a n c]) ∧ HldIn w' a n H ∧ n ≤ 10 ∧ n ≤ c ∧ c ≤ maxLen ∧ w.grownBy w' none
/-- How many are needed, shares, and a secret. -/
def GotW (w : World) (e : Ending) (w' : World) : Prop :=
  ∃ (need : Int) (a : Option Addr) (n c : Nat) (H : Nat → HV) (s : Int), e = .returned (.tuple #[.int .i64 need, .slice a n c, .int .i64 s]) ∧ HldIn w' a n H ∧ n ≤ 10 ∧ n ≤ c ∧ c ≤ maxLen ∧ w.grownBy w' none
end Draw
end Go.Proofs.Ythbigmcklacbnaa
/-
  How the model draws a key and shares.
-/

namespace Go.Proofs.Ythbigmcklacbnaa
namespace Draw
open Go.RowKit Alg Mem Con Mp Hd
set_option linter.unusedVariables false

/-- A key and shares, drawn from the program's input. -/
def GotB (w : World) (e : Ending) (w' : World) : Prop :=
  ∃ (need many : Nat) (ag : Option Addr) (ng cg : Nat) (zg : Nat → Int) (ac : Option Addr) (nc cc : Nat) (zc : Nat → Int) (a : Option Addr) (n c : Nat) (H : Nat → HV), e = .returned (.tuple #[.agg #[.int .i64 need, .int .i64 many, .slice ag ng cg, .slice ac nc cc], .slice a n c]) ∧ KeyIn w w' need many ag ng zg ac nc zc ∧ HldIn w' a n H ∧ n ≤ 10 ∧ n ≤ c ∧ c ≤ maxLen ∧ w.grownBy w' none
end Draw
end Go.Proofs.Ythbigmcklacbnaa
/-
  Secrets: whose shares are wrong: the model's function; how the model draws a key and shares.
-/

namespace Go.Proofs.Ythbigmcklacbnaa
namespace Hd
open Go.RowKit Alg Mem Con
set_option linter.unusedVariables false

/-- Is a share wrong? -/
def sbE (many : Int) (nc : Nat) (zc : Nat → Int) (H : Nat → HV) (k : Nat) : Bool := decide (many < (H k).m) || !cfz nc zc (H k).m (H k).s
/-- Whose of the first so many. -/
def sbl (many : Int) (nc : Nat) (zc : Nat → Int) (H : Nat → HV) : Nat → List Int
  | 0 => []
  | k + 1 => sbl many nc zc H k ++ (if sbE many nc zc H k then [(H k).m] else [])
section
variable {need many : Int} {ng : Nat} {zg : Nat → Int} {nc : Nat} {zc : Nat → Int} {H : Nat → HV} {n k : Nat}
theorem sbl_len : (sbl many nc zc H k).length ≤ k := by
  induction k with
  | zero => exact Nat.le_refl _
  | succ k ih => unfold sbl; split <;> simp <;> omega
theorem sbl_yes (h : sbE many nc zc H k = true) : sbl many nc zc H (k + 1) = sbl many nc zc H k ++ [(H k).m] := by simp [sbl, h]
theorem sbl_no (h : sbE many nc zc H k = false) : sbl many nc zc H (k + 1) = sbl many nc zc H k := by simp [sbl, h]
theorem sbE_fit (hk : kyF need many ng zg nc zc = true) (hh : hkF H n = true) (hj : k < n) : sbE many nc zc H k = !kfit need many ng zg nc zc (H k).m (H k).s := by
  have h1 := (hk_at hh hj).1
  unfold sbE
  by_cases hm : many < (H k).m
  · rw [kfit_m (by cases hb : mbF many (H k).m with
      | false => rfl
      | true => have := (mb_iff.1 hb).2; omega)]; simp [hm]
  · rw [kfit_y hk (mb_iff.2 ⟨h1.1, by omega⟩)]; simp [hm]
end
def sbF (need many : Int) (ng : Nat) (zg : Nat → Int) (nc : Nat) (zc : Nat → Int) (H : Nat → HV) (n : Nat) : List Int := if kyF need many ng zg nc zc = true ∧ hkF H n = true then sbl many nc zc H n else []
theorem sb_none {need many : Int} {ng : Nat} {zg : Nat → Int} {nc : Nat} {zc : Nat → Int} {H : Nat → HV} {n : Nat} (h : kyF need many ng zg nc zc = false ∨ hkF H n = false) : sbF need many ng zg nc zc H n = [] := by
  unfold sbF; rw [if_neg]; rintro ⟨h1, h2⟩; rcases h with h | h
  · rw [h] at h1; cases h1
  · rw [h] at h2; cases h2
theorem sb_some {need many : Int} {ng : Nat} {zg : Nat → Int} {nc : Nat} {zc : Nat → Int} {H : Nat → HV} {n : Nat} (h : kyF need many ng zg nc zc = true) (h2 : hkF H n = true) : sbF need many ng zg nc zc H n = sbl many nc zc H n := if_pos ⟨h, h2⟩
theorem lst_empty (w : World) : Lst (w.alloc (.cells #[] 3)) w.heap.size (.slice (some ⟨w.heap.size, 0, none⟩) 0 0) [] := .inr ⟨_, 0, rfl, row_empty w _ _⟩
end Hd
end Go.Proofs.Ythbigmcklacbnaa
