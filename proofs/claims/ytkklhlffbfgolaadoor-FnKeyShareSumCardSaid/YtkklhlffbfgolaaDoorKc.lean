/-
  The words of the exact laws that take a key: its size, the key anew, whether two keys read alike.
-/
import Derived.Test.YtkklhlffbfgolaaDoorKb
import Derived.Test.YtkklhlffbfgolaaDoorEk
import Derived.Test.YtkklhlffbfgolaaDoorOpd
namespace Go.Proofs.YtkklhlffbfgolaaDoor
namespace Con
open Go.RowKit Alg Mem
set_option linter.unusedVariables false

/-- What all four cells of a key in memory hold, and that they may be written. -/
structure Blk4 (w : World) (b : Nat) (v0 v1 v2 v3 : Value) : Prop where
  c0 : w.cell? ⟨b, 0, none⟩ = some v0
  c1 : w.cell? ⟨b, 1, none⟩ = some v1
  c2 : w.cell? ⟨b, 2, none⟩ = some v2
  c3 : w.cell? ⟨b, 3, none⟩ = some v3
  f0 : w.frozen? ⟨b, 0, none⟩ = false
  f1 : w.frozen? ⟨b, 1, none⟩ = false
  f2 : w.frozen? ⟨b, 2, none⟩ = false
  f3 : w.frozen? ⟨b, 3, none⟩ = false
theorem Blk.all4 {w : World} {b : Nat} {v0 v1 v2 v3 : Value} {T : TypeId} (h : Blk w b #[v0, v1, v2, v3] T) : Blk4 w b v0 v1 v2 v3 := ⟨h.cell 0, h.cell 1, h.cell 2, h.cell 3, h.free 0, h.free 1, h.free 2, h.free 3⟩
theorem Blk.ky {w : World} {b : Nat} {need many : Int} {s1 s2 : Value} {T : TypeId} (h : Blk w b #[.int .i64 need, .int .i64 many, s1, s2] T) : Ky w b need many s1 s2 := ⟨h.lt, h.cell 0, h.cell 1, h.cell 2, h.cell 3⟩
theorem size_key : (Tryd.prog.info? 25).map (·.size) = some 4 := by kernel_rfl
theorem ret_key {fn : Func} {p : Tmp} (h : fn.results = #[.cell p 25]) (tmps : Array Value) {w : World} {b : Nat} {v0 v1 v2 v3 : Value} {T : TypeId} (hp : tmps.getD p undef = .pointer (some ⟨b, 0, none⟩)) (hb : Blk w b #[v0, v1, v2, v3] T) :
    (results fn tmps).run Tryd.prog w = .ok (.agg #[v0, v1, v2, v3]) w :=
  results_cell_row h tmps w b T #[v0, v1, v2, v3] (0, 0) _ hp hb Tryd.underlying25 rfl size_key
/-- A key of the call's own: two rows, one ahead of the other. -/
def KeyO (w : World) (need many : Int) (n1 : Nat) (z1 : Nat → Int) (n2 : Nat) (z2 : Nat → Int) (e : Ending) (w' : World) : Prop :=
  ∃ b1 b2 : Nat, e = .returned (.agg #[.int .i64 need, .int .i64 many, .slice (some ⟨b1, 0, none⟩) n1 n1, .slice (some ⟨b2, 0, none⟩) n2 n2]) ∧ b1 < b2 ∧ Row w' w.heap.size 3 b1 n1 n1 z1 ∧ Row w' w.heap.size 3 b2 n2 n2 z2 ∧ w.grownBy w' none
end Con
namespace Op
open Go.ChangeShapes Go.WideShapes Go.ChangeAt Go.RowKit Go.Joins Mem
end Op
end Go.Proofs.YtkklhlffbfgolaaDoor
