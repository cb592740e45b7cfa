/-
  A session in the words of the exact laws: sz, to, eq; one that came in as an argument.
-/
import Derived.Test.YthbigmcklacbnaaGreatDoorTf
import Derived.Test.YthbigmcklacbnaaGreatDoorTb
import Derived.Test.YthbigmcklacbnaaGreatDoorXo
import Derived.Lib.SmallJoins
import Derived.Deep.Strs
namespace Go.Proofs.YthbigmcklacbnaaGreatDoor
namespace Con
open Go.RowKit Alg Mem Draw Hd
set_option linter.unusedVariables false

theorem wpList_store_part {P : Program} {ops : Array Oper} {rest : List Oper} {op : Oper} {a : Act} {w : World} {Q : Exit → Act → World → Prop} (hgd : op.guard = none) (ty : TypeId) (x y : Operand) (b : Nat) (cells old : Array Value) (T : TypeId) (hb : Blk w b old T) (ho : op.op = .store ty x y)
    (hx : a.eval x = .pointer (some ⟨b, 0, none⟩)) (hy : a.eval y = .agg cells) (hs : cells.size ≤ old.size) (hi : (P.info? ty).map (·.size) = some cells.size) (h1 : cells.all (·.oneCell') = true)
    (h : ∀ w', w.grownBy w' (some b) → Blk w' b (updAll cells.toList 0 old) T → wpList P ops Q rest (a.put op.dst undef) w') : wpList P ops Q (op :: rest) a w :=
  wpList_store_mid hgd ty x y ho b 0 cells hx hy (blk_there hb hs) hi h1 (h _ (grown_setCells _ _ _ _) (blk_setCells cells.toList 0 w old hb))
/-- All six cells of a session in memory. -/
structure Blk6 (w : World) (b : Nat) (v0 v1 v2 v3 v4 v5 : Value) : Prop where
  c0 : w.cell? ⟨b, 0, none⟩ = some v0
  c1 : w.cell? ⟨b, 1, none⟩ = some v1
  c2 : w.cell? ⟨b, 2, none⟩ = some v2
  c3 : w.cell? ⟨b, 3, none⟩ = some v3
  c4 : w.cell? ⟨b, 4, none⟩ = some v4
  c5 : w.cell? ⟨b, 5, none⟩ = some v5
  f0 : w.frozen? ⟨b, 0, none⟩ = false
  f1 : w.frozen? ⟨b, 1, none⟩ = false
  f2 : w.frozen? ⟨b, 2, none⟩ = false
  f3 : w.frozen? ⟨b, 3, none⟩ = false
  f4 : w.frozen? ⟨b, 4, none⟩ = false
  f5 : w.frozen? ⟨b, 5, none⟩ = false
theorem Blk.all6 {w : World} {b : Nat} {v0 v1 v2 v3 v4 v5 : Value} {T : TypeId} (h : Blk w b #[v0, v1, v2, v3, v4, v5] T) : Blk6 w b v0 v1 v2 v3 v4 v5 := ⟨h.cell 0, h.cell 1, h.cell 2, h.cell 3, h.cell 4, h.cell 5, h.free 0, h.free 1, h.free 2, h.free 3, h.free 4, h.free 5⟩
theorem size_ses : (Tryz.prog.info? 30).map (·.size) = some 6 := by kernel_rfl
theorem ret_ses {fn : Func} {p : Tmp} (h : fn.results = #[.cell p 30]) (tmps : Array Value) {w : World} {b : Nat} {v0 v1 v2 v3 v4 v5 : Value} {T : TypeId} (hp : tmps.getD p undef = .pointer (some ⟨b, 0, none⟩)) (hb : Blk w b #[v0, v1, v2, v3, v4, v5] T) :
    (results fn tmps).run Tryz.prog w = .ok (.agg #[v0, v1, v2, v3, v4, v5]) w :=
  results_cell_row h tmps w b T #[v0, v1, v2, v3, v4, v5] (0, 0) _ hp hb Tryz.underlying30 rfl size_ses
/-- A session of the call's own. -/
def SesO (w : World) (need many : Int) (ng : Nat) (zg : Nat → Int) (nc : Nat) (zc : Nat → Int) (msg : Int) (len : Nat) (S : Nat → SV) (e : Ending) (w' : World) : Prop :=
  ∃ b1 b2 b3 : Nat, e = .returned (.agg #[.int .i64 need, .int .i64 many, .slice (some ⟨b1, 0, none⟩) ng ng, .slice (some ⟨b2, 0, none⟩) nc nc, .int .i64 msg, .slice (some ⟨b3, 0, none⟩) len len]) ∧ b1 < b2 ∧ b2 < b3 ∧ Row w' w.heap.size 3 b1 ng ng zg ∧ Row w' w.heap.size 3 b2 nc nc zc ∧ Row4 w' w.heap.size 35 b3 len (shT S) ∧ w.grownBy w' none
end Con
end Go.Proofs.YthbigmcklacbnaaGreatDoor
