/-
  Signatures: whether one is right, and signing alone: the program's and the model's functions.
-/
import Derived.Test.YthbigmcklacbnaaGi
import Derived.Test.YthbigmcklacbnaaWk
namespace Go.Proofs.Ythbigmcklacbnaa
namespace Con
open Go.RowKit Alg Mem Draw
set_option linter.unusedVariables false

/-- A struct of two that lies in memory. -/
structure Du (w : World) (b : Nat) (x y : Value) : Prop where
  lt : b < w.heap.size
  c0 : w.cell? ⟨b, 0, none⟩ = some x
  c1 : w.cell? ⟨b, 1, none⟩ = some y
theorem Du.of_blk {w : World} {b : Nat} {x y : Value} {T : TypeId} (h : Blk w b #[x, y] T) : Du w b x y := ⟨h.lt, h.cell 0, h.cell 1⟩
theorem Du.keptB {w w' : World} {b : Nat} {x y : Value} (h : Du w b x y) (hb : w'.heap[b]? = w.heap[b]?) (hs : w.heap.size ≤ w'.heap.size) : Du w' b x y :=
  ⟨Nat.lt_of_lt_of_le h.lt hs, by rw [World.cell?_of_block (w := w) hb]; exact h.c0, by rw [World.cell?_of_block (w := w) hb]; exact h.c1⟩
theorem Du.kept {w w' : World} {b : Nat} {x y : Value} (h : Du w b x y) (hg : w.grownBy w' none) : Du w' b x y := h.keptB (hg.block b h.lt (by simp)) hg.size

/-- What is answered to who signs alone. -/
def saV (secret msg drawn : Int) : Value := .tuple #[.agg #[.int .i64 (saR' secret msg drawn), .int .i64 (saZ' secret msg drawn)], .bool (saOk secret msg drawn)]
theorem saV_no {secret msg drawn : Int} (h : saOk secret msg drawn = false) : saV secret msg drawn = .tuple #[.agg #[.int .i64 0, .int .i64 0], .bool false] := by unfold saV; rw [saR_no h, saZ_no h, h]
theorem saV_yes {secret msg drawn : Int} (h : saOk secret msg drawn = true) : saV secret msg drawn = .tuple #[.agg #[.int .i64 (gofF drawn), .int .i64 (saZ secret msg drawn)], .bool true] := by unfold saV; rw [saR_yes h, saZ_yes h, h]
/-! The model's. -/
theorem smsg_yes (w : World) (m : Int) (h : mok m = true) : Calls Try.prog 71 #[.int .i64 m, .int .i64 0, .int .i64 99] w fun e w' => e = .returned (.bool true) ∧ w = w' :=
  s6in_yes w m 0 99 (mok_iff.1 h).1 (mok_iff.1 h).2
theorem smsg_no (w : World) (m : Int) (h : mok m = false) : Calls Try.prog 71 #[.int .i64 m, .int .i64 0, .int .i64 99] w fun e w' => e = .returned (.bool false) ∧ w = w' :=
  s6in_no w m 0 99 (mok_not.1 h)
end Con
end Go.Proofs.Ythbigmcklacbnaa
