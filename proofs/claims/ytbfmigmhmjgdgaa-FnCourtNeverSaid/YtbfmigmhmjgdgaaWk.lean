/-
  Small laws for walks whose book-keeping is written by program (wk.py): rows whose blocks lie in a known range; the reader behind other blocks' changes; a key and a deal handed back.
-/
import Derived.Test.YtbfmigmhmjgdgaaQi
import Derived.Deep.MidRow
import Derived.Deep.RegionHeld3
namespace Go.Proofs.Ytbfmigmhmjgdgaa
namespace Draw
open Go.RowKit Alg Mem Con Mp
set_option linter.unusedVariables false

/-- A statement that is proved later, once. -/
structure Later (p : Prop) : Prop where
  out : p
theorem gdrew (w : World) : w.grownBy w.drew none := ⟨rfl, rfl, rfl, Nat.le_refl _, fun _ _ _ => rfl⟩
/-- A row of ints whose block lies in a range. -/
structure IR (w : World) (lo hi : Nat) (a : Option Addr) (n : Nat) (z : Nat → Int) : Prop where
  i : Ints w a n z
  r : ∀ b off, a = some ⟨b, off, none⟩ → lo ≤ b ∧ b < hi
theorem IR.keptN {w w' : World} {lo hi : Nat} {a : Option Addr} {n : Nat} {z : Nat → Int} (h : IR w lo hi a n z) (hg : w.grownBy w' none) : IR w' lo hi a n z := ⟨h.i.kept hg, h.r⟩
theorem IR.kept {w w' : World} {lo hi B : Nat} {a : Option Addr} {n : Nat} {z : Nat → Int} (h : IR w lo hi a n z) (hg : w.grownBy w' (some B)) (hB : B < lo ∨ hi ≤ B) : IR w' lo hi a n z :=
  ⟨ints_keptO h.i hg (fun b off e => by have := h.r b off e; omega), h.r⟩
theorem IR.of_row {w : World} {lo b n cap : Nat} {z : Nat → Int} {E : TypeId} (h : Row w lo E b n cap z) : IR w b (b + 1) (some ⟨b, 0, none⟩) n z :=
  ⟨h.ints, fun b' off e => by injection e with e; injection e with e _; omega⟩
theorem Rd.gN {w w' : World} {base B : Nat} {a : Option Addr} {len cap p : Nat} (h : Rd w base B a len cap p) (hg : w.grownBy w' none) : Rd w' base B a len cap p :=
  h.kept (fun k hk => hg.block k (by have := h.lt; have := h.from_; omega) (by simp)) (hg.block B h.lt (by simp))
theorem KeyIn.irg {w w' : World} {need many : Nat} {ag : Option Addr} {ng : Nat} {zg : Nat → Int} {ac : Option Addr} {nc : Nat} {zc : Nat → Int} (h : KeyIn w w' need many ag ng zg ac nc zc) : IR w' w.heap.size w'.heap.size ag ng zg := ⟨h.ig, h.rg⟩
theorem KeyIn.irc {w w' : World} {need many : Nat} {ag : Option Addr} {ng : Nat} {zg : Nat → Int} {ac : Option Addr} {nc : Nat} {zc : Nat → Int} (h : KeyIn w w' need many ag ng zg ac nc zc) : IR w' w.heap.size w'.heap.size ac nc zc := ⟨h.ic, h.rc⟩
/-! Stores and allocations by what they leave, in a new world. -/
theorem grown_setCells (b : Nat) : ∀ (vs : List Value) (o : Nat) (w : World), w.grownBy (w.setCells b o vs) (some b)
  | [], _, w => grown_refl w _
  | v :: vs, o, w => gtr' (Mem.grown_set w b o v) (grown_setCells b vs (o + 1) _)
def updAll : List Value → Nat → Array Value → Array Value
  | [], _, c => c
  | v :: vs, o, c => updAll vs (o + 1) (c.setIfInBounds o v)
theorem blk_setCells {b : Nat} {T : TypeId} : ∀ (vs : List Value) (o : Nat) (w : World) (c : Array Value), Blk w b c T → Blk (w.setCells b o vs) b (updAll vs o c) T
  | [], _, _, _, h => h
  | v :: vs, o, w, c, h => blk_setCells vs (o + 1) _ _ (h.set o v)
theorem blk_there {w : World} {b n : Nat} {c : Array Value} {T : TypeId} (h : Blk w b c T) (hn : n ≤ c.size) : w.there b 0 n := fun j hj => by
  rw [Nat.zero_add]
  exact ⟨by rw [h.cell j]; simp; omega, h.free j⟩
theorem wp_store_blk {P : Program} {op : Oper} {a : Act} {w : World} {K : Act → World → Prop} {Q : Exit → Act → World → Prop} (ty : TypeId) (x y : Operand) (b : Nat) (cells old : Array Value) (T : TypeId) (hb : Blk w b old T) (ho : op.op = .store ty x y)
    (hx : a.eval x = .pointer (some ⟨b, 0, none⟩)) (hy : a.eval y = .agg cells) (hs : old.size = cells.size) (hi : (P.info? ty).map (·.size) = some cells.size) (h1 : cells.all (·.oneCell') = true) (hu : updAll cells.toList 0 old = cells)
    (h : ∀ w', w.grownBy w' (some b) → Blk w' b cells T → K (a.put op.dst undef) w') : op.wp P a w K Q :=
  wp_store_mid ty x y ho b 0 cells hx hy (blk_there hb (by omega)) hi h1 (h _ (grown_setCells _ _ _ _) (by have h9 := blk_setCells cells.toList 0 w old hb; rw [hu] at h9; exact h9))
theorem wpList_store_blk {P : Program} {ops : Array Oper} {rest : List Oper} {op : Oper} {a : Act} {w : World} {Q : Exit → Act → World → Prop} (hgd : op.guard = none) (ty : TypeId) (x y : Operand) (b : Nat) (cells old : Array Value) (T : TypeId) (hb : Blk w b old T) (ho : op.op = .store ty x y)
    (hx : a.eval x = .pointer (some ⟨b, 0, none⟩)) (hy : a.eval y = .agg cells) (hs : old.size = cells.size) (hi : (P.info? ty).map (·.size) = some cells.size) (h1 : cells.all (·.oneCell') = true) (hu : updAll cells.toList 0 old = cells)
    (h : ∀ w', w.grownBy w' (some b) → Blk w' b cells T → wpList P ops Q rest (a.put op.dst undef) w') : wpList P ops Q (op :: rest) a w :=
  wpList_store_mid hgd ty x y ho b 0 cells hx hy (blk_there hb (by omega)) hi h1 (h _ (grown_setCells _ _ _ _) (by have h9 := blk_setCells cells.toList 0 w old hb; rw [hu] at h9; exact h9))
theorem blk_one {w : World} {b : Nat} {x : Int} {T : TypeId} (h : Blk w b #[.int .i64 x] T) : IR w b (b + 1) (some ⟨b, 0, none⟩) 1 (fun _ => x) :=
  ⟨.inr ⟨b, 0, rfl, h.lt, fun j hj => by obtain rfl : j = 0 := by omega
                                         rw [h.cell]; rfl⟩, fun b' off e => by injection e with e; injection e with e _; omega⟩
theorem blk_new3 (w : World) (o1 o2 : Obj) (vs : Array Value) (T : TypeId) : Blk (((w.alloc o1).alloc o2).alloc (.cells vs T)) (w.heap.size + 1 + 1) vs T := by
  have h := Blk.new ((w.alloc o1).alloc o2) vs T
  have e : ((w.alloc o1).alloc o2).heap.size = w.heap.size + 1 + 1 := by show ((w.heap.push _).push _).size = _; simp
  rw [e] at h; exact h
theorem at_alloc {K : Act → World → Prop} {a : Act} {w : World} {vs : Array Value} {T : TypeId} (h : ∀ w', w.grownBy w' none → Blk w' w.heap.size vs T → K a w') : K a (w.alloc (.cells vs T)) := h _ (grown_alloc _ _ _) (Blk.new _ _ _)
theorem stop_store {P : Program} {ops : Array Oper} {rest : List Oper} {op : Oper} {a : Act} {w : World} {Q : Exit → Act → World → Prop} {ty : TypeId} {x y : Operand} (ho : op.op = .store ty x y) (h : True ∧ wpList P ops Q (op :: rest) a w) : wpList P ops Q (op :: rest) a w := h.2
theorem stop_here {p : Prop} (h : True ∧ p) : p := h.2
end Draw
end Go.Proofs.Ytbfmigmhmjgdgaa
