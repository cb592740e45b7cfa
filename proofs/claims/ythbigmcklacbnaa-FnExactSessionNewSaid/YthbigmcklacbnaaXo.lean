/-
  Sizes that come in, told in one way: either the law has nothing to say, or all is short.
-/
import Derived.Test.YthbigmcklacbnaaKc
import Derived.Test.YthbigmcklacbnaaDo
namespace Go.Proofs.Ythbigmcklacbnaa
namespace Con
open Go.RowKit Alg Mem
set_option linter.unusedVariables false

theorem szkey' (w : World) (need many : Int) (a1 : Option Addr) (n1 c1 : Nat) (a2 : Option Addr) (n2 c2 : Nat) (left : Int) (h0 : 0 ≤ left) (h1 : left ≤ 2000000) (hn1 : n1 ≤ maxLen) (hn2 : n2 ≤ maxLen) :
    Calls Try.prog 44 #[.agg #[.int .i64 need, .int .i64 many, .slice a1 n1 c1, .slice a2 n2 c2], .int .i64 left] w fun e w' => ∃ r : Int, e = .returned (.int .i64 r) ∧ w.grownBy w' none ∧ (r = -1 ∨ (0 ≤ r ∧ r ≤ left ∧ n1 ≤ 2000000 ∧ n2 ≤ 2000000)) := by
  by_cases hl : (n1 : Int) + (n2 : Int) ≤ left
  · refine (szkey_yes w need many a1 n1 c1 a2 n2 c2 left h1 hl).mono ?_
    rintro e w' ⟨rfl, hg⟩
    exact ⟨_, rfl, hg, .inr ⟨by omega, by omega, by omega, by omega⟩⟩
  · refine (szkey_no w need many a1 n1 c1 a2 n2 c2 left h0 h1 hn1 hn2 (by omega)).mono ?_
    rintro e w' ⟨rfl, hg⟩
    exact ⟨_, rfl, hg, .inl rfl⟩
end Con
namespace Op
open Go.ChangeShapes Go.WideShapes Go.ChangeAt Go.RowKit Go.Joins Mem
end Op
end Go.Proofs.Ythbigmcklacbnaa
