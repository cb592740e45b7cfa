/-
  Signatures: whether one is right, and signing alone: the program's and the model's functions.
-/
import Derived.Test.YthbigmcklacbnaaGreatDoorGi
import Derived.Test.YthbigmcklacbnaaGreatDoorWk
namespace Go.Proofs.YthbigmcklacbnaaGreatDoor
namespace Con
open Go.RowKit Alg Mem Draw
set_option linter.unusedVariables false

/-- A struct of two that lies in memory. -/
structure Du (w : World) (b : Nat) (x y : Value) : Prop where
  lt : b < w.heap.size
  c0 : w.cell? ⟨b, 0, none⟩ = some x
  c1 : w.cell? ⟨b, 1, none⟩ = some y
theorem Du.of_blk {w : World} {b : Nat} {x y : Value} {T : TypeId} (h : Blk w b #[x, y] T) : Du w b x y := ⟨h.lt, h.cell 0, h.cell 1⟩
theorem Du.keptB {w w' : World} {b : Nat} {x y : Value} (h : Du w b x y) (hb : w'.heap[b]? = w.heap[b]?) (hs : w.heap.size ≤ w'.heap.size) : Du w' b x y :=
  ⟨Nat.lt_of_lt_of_le h.lt hs, by rw [World.cell?_of_block (w := w) hb]; exact h.c0, by rw [World.cell?_of_block (w := w) hb]; exact h.c1⟩
theorem Du.kept {w w' : World} {b : Nat} {x y : Value} (h : Du w b x y) (hg : w.grownBy w' none) : Du w' b x y := h.keptB (hg.block b h.lt (by simp)) hg.size

/-- What is answered to who signs alone. -/
def saV (secret msg drawn : Int) : Value := .tuple #[.agg #[.int .i64 (saR' secret msg drawn), .int .i64 (saZ' secret msg drawn)], .bool (saOk secret msg drawn)]
theorem saV_no {secret msg drawn : Int} (h : saOk secret msg drawn = false) : saV secret msg drawn = .tuple #[.agg #[.int .i64 0, .int .i64 0], .bool false] := by unfold saV; rw [saR_no h, saZ_no h, h]
theorem saV_yes {secret msg drawn : Int} (h : saOk secret msg drawn = true) : saV secret msg drawn = .tuple #[.agg #[.int .i64 (gofF drawn), .int .i64 (saZ secret msg drawn)], .bool true] := by unfold saV; rw [saR_yes h, saZ_yes h, h]
theorem size_sig : (Tryz.prog.info? 37).map (·.size) = some 2 := by kernel_rfl
theorem ret_sb {fn : Func} {p u : Tmp} (h : fn.results = #[.cell p 37, .tmp u]) (tmps : Array Value) {w : World} {b : Nat} {v0 v1 : Value} {T : TypeId} (hp : tmps.getD p undef = .pointer (some ⟨b, 0, none⟩)) (hb : Blk w b #[v0, v1] T) :
    (results fn tmps).run Tryz.prog w = .ok (.tuple #[.agg #[v0, v1], tmps.getD u undef]) w := by
  have hp' : tmps[p]?.getD undef = .pointer (some ⟨b, 0, none⟩) := by simpa using hp
  simp [results, h, hp', asAddr, run_loadVar_row w b T 37 #[v0, v1] (0, 0) _ hb Tryz.underlying37 rfl size_sig, Result.andThen]
/-! The model's. -/
theorem smsg_yes (w : World) (m : Int) (h : mok m = true) : Calls Tryz.prog 38 #[.int .i64 m, .int .i64 0, .int .i64 99] w fun e w' => e = .returned (.bool true) ∧ w = w' :=
  s6in_yes w m 0 99 (mok_iff.1 h).1 (mok_iff.1 h).2
theorem smsg_no (w : World) (m : Int) (h : mok m = false) : Calls Tryz.prog 38 #[.int .i64 m, .int .i64 0, .int .i64 99] w fun e w' => e = .returned (.bool false) ∧ w = w' :=
  s6in_no w m 0 99 (mok_not.1 h)
end Con
end Go.Proofs.YthbigmcklacbnaaGreatDoor
