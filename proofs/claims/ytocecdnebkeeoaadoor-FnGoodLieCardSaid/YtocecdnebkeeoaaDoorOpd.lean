/-
  What a deal that came in as an argument is.
-/
import Derived.Test.YtocecdnebkeeoaaDoorMem
import Derived.ProofKit
import Derived.OpenShut
import Derived.Lib.SmallJoins
namespace Go.Proofs.YtocecdnebkeeoaaDoor
namespace Op
open Go.ChangeShapes Go.WideShapes Go.ChangeAt Go.RowKit Go.Joins Mem
set_option linter.unusedVariables false

theorem op_ints {H : Type} {enc : TypeId × Value → H} {W : World} {fuel : Nat} {c : Value} {y : DataW H × List MemPlace} (h : DataW.trod enc Tryd.prog W 0 (fun _ => true) true fuel 23 [c] = some y) :
    ∃ (a : Option Addr) (len cap : Nat) (z : Nat → Int), c = .slice a len cap ∧ Ints W a len z ∧ len ≤ cap ∧ cap ≤ maxLen := by
  rcases open_ints Tryd.underlying23 Tryd.underlying3 (by kernel_rfl) h with ⟨hcs, _⟩ | ⟨x, l, c', zs, hcs, _, hl, hm, hz, _, hcell, hwz⟩
  · simp at hcs
    exact ⟨none, 0, 0, fun _ => 0, hcs, .inl rfl, Nat.le_refl _, Nat.zero_le _⟩
  · simp at hcs
    obtain ⟨hI, _, _⟩ := ints_of (w := W) (a := some x) (len := l) (cap := c') (zs := zs) (.inr ⟨x, rfl, hl, hm, by simpa using hz, hcell, hwz⟩)
    exact ⟨some x, l, c', _, hcs, hI, hl, hm⟩
theorem op_int {H : Type} {enc : TypeId × Value → H} {W : World} {fuel : Nat} {c : Value} {y : DataW H × List MemPlace} (h : DataW.trod enc Tryd.prog W 0 (fun _ => true) true fuel 3 [c] = some y) : ∃ n : Int, c = .int .i64 n := by
  obtain ⟨n, e0, _, _⟩ := DataW.trod_int Tryd.underlying3 h
  exact ⟨n, by simpa using e0⟩
theorem c_deal : Tryd.prog.cellsOf 48 = 3 := by kernel_rfl
set_option maxRecDepth 100000 in
theorem op_deal {H : Type} {enc : TypeId × Value → H} {W : World} {base : Nat} {v : Value} {d : DataW H} {p : List MemPlace} (hv : Value.okWide Tryd.prog W .any base 48 v) (h : DataW.Trod enc Tryd.prog W 0 (fun _ => true) true 48 v d p) :
    ∃ (f : Int) (a1 : Option Addr) (n1 c1 : Nat) (z1 : Nat → Int) (a2 : Option Addr) (n2 c2 : Nat) (z2 : Nat → Int), v = .agg #[.int .i64 f, .slice a1 n1 c1, .slice a2 n2 c2] ∧ Ints W a1 n1 z1 ∧ Ints W a2 n2 z2 ∧ n1 ≤ maxLen ∧ n2 ≤ maxLen := by
  obtain ⟨c0, c1, c2, y0, y1, y2, m, rfl, _, _, h0, h1, h2⟩ := open_agg3 Tryd.underlying48 (by kernel_rfl) c_deal hv h
  obtain ⟨f, rfl⟩ := op_int h0
  obtain ⟨a1, n1, k1, z1, rfl, i1, l1, m1⟩ := op_ints h1
  obtain ⟨a2, n2, k2, z2, rfl, i2, l2, m2⟩ := op_ints h2
  exact ⟨f, a1, n1, k1, z1, a2, n2, k2, z2, rfl, i1, i2, by omega, by omega⟩
end Op
end Go.Proofs.YtocecdnebkeeoaaDoor
