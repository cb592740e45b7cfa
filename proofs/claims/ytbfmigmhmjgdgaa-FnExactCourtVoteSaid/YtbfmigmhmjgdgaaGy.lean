/-
  What a store leaves of a world, where the stored block is new or the reader's.
-/
import Derived.Test.YtbfmigmhmjgdgaaPe
namespace Go.Proofs.Ytbfmigmhmjgdgaa
namespace Draw
open Go.RowKit Alg Mem Con
set_option linter.unusedVariables false

theorem grown_any {w W W' : World} {B g : Nat} (h : w.grownBy W (some B)) (k : W.grownBy W' (some g)) (hg : g = B ∨ w.heap.size ≤ g) : w.grownBy W' (some B) := by
  rcases hg with rfl | hg
  · exact grown_trans h k
  · exact grown_newR h hg k
end Draw
end Go.Proofs.Ytbfmigmhmjgdgaa
