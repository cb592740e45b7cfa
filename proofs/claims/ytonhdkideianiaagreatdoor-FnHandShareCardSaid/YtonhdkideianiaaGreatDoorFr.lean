/-
  Shares made anew: which deals are of nothing; the program's function and the model's.
-/
import Derived.Test.YtonhdkideianiaaGreatDoorKc
import Derived.Test.YtonhdkideianiaaGreatDoorDo
import Derived.Test.YtonhdkideianiaaGreatDoorQa
import Derived.Deep.RegionHeld3
import Derived.Deep.RegionWith
namespace Go.Proofs.YtonhdkideianiaaGreatDoor
namespace Con
open Go.RowKit Alg Mem
set_option linter.unusedVariables false

/-- Is the deal one that makes shares of the key anew? -/
def frF (need many : Int) (ng : Nat) (zg : Nat → Int) (nc : Nat) (zc : Nat → Int) (f : Int) (n1 : Nat) (z1 : Nat → Int) (n2 : Nat) (z2 : Nat → Int) : Bool :=
  kyF need many ng zg nc zc && dlF f n1 z1 n2 z2 need many && decide (f ≤ many) && decide (z1 0 = 1) && decide ((bads f n1 z1 n2 z2 need many).length = 0)
theorem fr_iff {need many : Int} {ng : Nat} {zg : Nat → Int} {nc : Nat} {zc : Nat → Int} {f : Int} {n1 : Nat} {z1 : Nat → Int} {n2 : Nat} {z2 : Nat → Int} :
    frF need many ng zg nc zc f n1 z1 n2 z2 = true ↔ kyF need many ng zg nc zc = true ∧ dlF f n1 z1 n2 z2 need many = true ∧ f ≤ many ∧ z1 0 = 1 ∧ (bads f n1 z1 n2 z2 need many).length = 0 := by
  unfold frF; simp only [Bool.and_eq_true, decide_eq_true_eq, and_assoc]
theorem fr_not {need many : Int} {ng : Nat} {zg : Nat → Int} {nc : Nat} {zc : Nat → Int} {f : Int} {n1 : Nat} {z1 : Nat → Int} {n2 : Nat} {z2 : Nat → Int} (h : ¬ (kyF need many ng zg nc zc = true ∧ dlF f n1 z1 n2 z2 need many = true ∧ f ≤ many ∧ z1 0 = 1 ∧ (bads f n1 z1 n2 z2 need many).length = 0)) :
    frF need many ng zg nc zc f n1 z1 n2 z2 = false := by
  cases hh : frF need many ng zg nc zc f n1 z1 n2 z2 with
  | false => rfl
  | true => exact absurd (fr_iff.1 hh) h
theorem fr_last {need many : Int} {ng : Nat} {zg : Nat → Int} {nc : Nat} {zc : Nat → Int} {f : Int} {n1 : Nat} {z1 : Nat → Int} {n2 : Nat} {z2 : Nat → Int} (hk : kyF need many ng zg nc zc = true) (hd : dlF f n1 z1 n2 z2 need many = true) (hf : f ≤ many) (hz : z1 0 = 1) :
    frF need many ng zg nc zc f n1 z1 n2 z2 = (((bads f n1 z1 n2 z2 need many).length : Int) == 0) := by
  unfold frF; rw [hk, hd, decide_eq_true hf, decide_eq_true hz]
  apply Bool.eq_iff_iff.2; simp
end Con
end Go.Proofs.YtonhdkideianiaaGreatDoor
