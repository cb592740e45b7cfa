/-
  Sessions: the model's SessionBad and SessionSig.
-/
import Derived.Test.YthbigmcklacbnaaGreatDoorTb
import Derived.Test.YthbigmcklacbnaaGreatDoorSb
namespace Go.Proofs.YthbigmcklacbnaaGreatDoor
namespace Con
open Go.RowKit Alg Mem Draw Hd
set_option linter.unusedVariables false

theorem tbL_len {need many : Int} {ng : Nat} {zg : Nat → Int} {nc : Nat} {zc : Nat → Int} {msg : Int} {n : Nat} {S : Nat → SV} : ∀ {k : Nat}, (tbL need many ng zg nc zc msg n S k).length ≤ k
  | 0 => Nat.le_refl _
  | k + 1 => by
    have := tbL_len (need := need) (many := many) (ng := ng) (zg := zg) (nc := nc) (zc := zc) (msg := msg) (n := n) (S := S) (k := k)
    unfold tbL
    split
    · simp; omega
    · omega
theorem tbL_yes {need many : Int} {ng : Nat} {zg : Nat → Int} {nc : Nat} {zc : Nat → Int} {msg : Int} {n : Nat} {S : Nat → SV} {k : Nat} (h : tbE need many ng zg nc zc msg n S k = true) : tbL need many ng zg nc zc msg n S (k + 1) = tbL need many ng zg nc zc msg n S k ++ [(S k).m] := by
  show (if tbE need many ng zg nc zc msg n S k = true then _ else _) = _
  rw [if_pos h]
theorem tbL_no {need many : Int} {ng : Nat} {zg : Nat → Int} {nc : Nat} {zc : Nat → Int} {msg : Int} {n : Nat} {S : Nat → SV} {k : Nat} (h : tbE need many ng zg nc zc msg n S k = false) : tbL need many ng zg nc zc msg n S (k + 1) = tbL need many ng zg nc zc msg n S k := by
  show (if tbE need many ng zg nc zc msg n S k = true then _ else _) = _
  rw [if_neg (by rw [h]; decide)]
end Con
end Go.Proofs.YthbigmcklacbnaaGreatDoor
