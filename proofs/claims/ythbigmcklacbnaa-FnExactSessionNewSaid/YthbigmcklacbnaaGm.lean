/-
  Signatures: what a part is, and the program's SignPart and SignFits.
-/
import Derived.Test.YthbigmcklacbnaaGl
namespace Go.Proofs.Ythbigmcklacbnaa
namespace Con
open Go.RowKit Alg Mem Draw
set_option linter.unusedVariables false

/-- Do they sign with the key, the member among them? -/
def gaF (need many : Int) (ng : Nat) (zg : Nat → Int) (nc : Nat) (zc : Nat → Int) (nm : Nat) (zm : Nat → Int) (m : Int) : Bool := kyF need many ng zg nc zc && (crw need many nm zm && hasz zm m nm)
theorem ga_iff {need many : Int} {ng : Nat} {zg : Nat → Int} {nc : Nat} {zc : Nat → Int} {nm : Nat} {zm : Nat → Int} {m : Int} : gaF need many ng zg nc zc nm zm m = true ↔ kyF need many ng zg nc zc = true ∧ crw need many nm zm = true ∧ hasz zm m nm = true := by simp [gaF]
theorem ga_not {need many : Int} {ng : Nat} {zg : Nat → Int} {nc : Nat} {zc : Nat → Int} {nm : Nat} {zm : Nat → Int} {m : Int} (h : ¬ (kyF need many ng zg nc zc = true ∧ crw need many nm zm = true ∧ hasz zm m nm = true)) : gaF need many ng zg nc zc nm zm m = false := by
  cases hh : gaF need many ng zg nc zc nm zm m with
  | false => rfl
  | true => exact absurd (ga_iff.1 hh) h
def gaV (need many : Int) (ag : Option Addr) (ng cg : Nat) (zg : Nat → Int) (ac : Option Addr) (nc cc : Nat) (zc : Nat → Int) (am : Option Addr) (nm cm : Nat) (zm : Nat → Int) (m : Int) : Value :=
  .tuple #[if gaF need many ng zg nc zc nm zm m then gpV need many ag ng cg ac nc cc am nm cm (posz zm m nm) else .agg #[.int .i64 0, .int .i64 0, .slice none 0 0, .slice none 0 0, .slice none 0 0, .int .i64 0], .bool (gaF need many ng zg nc zc nm zm m)]
theorem gaV_no {need many : Int} {ag : Option Addr} {ng cg : Nat} {zg : Nat → Int} {ac : Option Addr} {nc cc : Nat} {zc : Nat → Int} {am : Option Addr} {nm cm : Nat} {zm : Nat → Int} {m : Int} (h : gaF need many ng zg nc zc nm zm m = false) : gaV need many ag ng cg zg ac nc cc zc am nm cm zm m = .tuple #[.agg #[.int .i64 0, .int .i64 0, .slice none 0 0, .slice none 0 0, .slice none 0 0, .int .i64 0], .bool false] := by unfold gaV; rw [h]; rfl
theorem gaV_yes {need many : Int} {ag : Option Addr} {ng cg : Nat} {zg : Nat → Int} {ac : Option Addr} {nc cc : Nat} {zc : Nat → Int} {am : Option Addr} {nm cm : Nat} {zm : Nat → Int} {m : Int} (h : gaF need many ng zg nc zc nm zm m = true) : gaV need many ag ng cg zg ac nc cc zc am nm cm zm m = .tuple #[gpV need many ag ng cg ac nc cc am nm cm (posz zm m nm), .bool true] := by unfold gaV; rw [h]; rfl
end Con
end Go.Proofs.Ythbigmcklacbnaa
