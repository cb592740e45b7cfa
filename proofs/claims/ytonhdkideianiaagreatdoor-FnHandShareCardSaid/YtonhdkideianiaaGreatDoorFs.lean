/-
  Shares made anew: the model's functions on a member's share.
-/
import Derived.Test.YtonhdkideianiaaGreatDoorFr
import Derived.Test.YtonhdkideianiaaGreatDoorKs
import Derived.Test.YtonhdkideianiaaGreatDoorSm
import Derived.Test.YtonhdkideianiaaGreatDoorWk
namespace Go.Proofs.YtonhdkideianiaaGreatDoor
namespace Con
open Go.RowKit Alg Mem Mp Hd Draw
set_option linter.unusedVariables false

def frD (need many : Int) (ng : Nat) (zg : Nat → Int) (nc : Nat) (zc : Nat → Int) (d : DV) : Bool := frF need many ng zg nc zc d.f d.n1 d.z1 d.n2 d.z2
/-- Do the first so many deals make shares anew? -/
def alF (need many : Int) (ng : Nat) (zg : Nat → Int) (nc : Nat) (zc : Nat → Int) (D : Nat → DV) : Nat → Bool
  | 0 => true
  | k + 1 => alF need many ng zg nc zc D k && frD need many ng zg nc zc (D k)
theorem al_at {need many : Int} {ng : Nat} {zg : Nat → Int} {nc : Nat} {zc : Nat → Int} {D : Nat → DV} : ∀ {n : Nat}, alF need many ng zg nc zc D n = true → ∀ {j}, j < n → frD need many ng zg nc zc (D j) = true
  | 0, _, j, hj => by omega
  | n + 1, h, j, hj => by
    simp only [alF, Bool.and_eq_true] at h
    rcases (by omega : j < n ∨ j = n) with h' | rfl
    · exact al_at h.1 h'
    · exact h.2
theorem al_no {need many : Int} {ng : Nat} {zg : Nat → Int} {nc : Nat} {zc : Nat → Int} {D : Nat → DV} {n j : Nat} (hj : j < n) (h : frD need many ng zg nc zc (D j) = false) : alF need many ng zg nc zc D n = false := by
  cases hh : alF need many ng zg nc zc D n with
  | false => rfl
  | true => rw [al_at hh hj] at h; cases h
theorem al_next {need many : Int} {ng : Nat} {zg : Nat → Int} {nc : Nat} {zc : Nat → Int} {D : Nat → DV} {n : Nat} (h : alF need many ng zg nc zc D n = true) (h' : frD need many ng zg nc zc (D n) = true) : alF need many ng zg nc zc D (n + 1) = true := by simp [alF, h, h']
theorem size_held2 : (Tryz.prog.info? 30).map (·.size) = some 2 := by kernel_rfl
theorem ret_hb {fn : Func} {p u : Tmp} (h : fn.results = #[.cell p 30, .tmp u]) (tmps : Array Value) {w : World} {b : Nat} {v0 v1 : Value} {T : TypeId} (hp : tmps.getD p undef = .pointer (some ⟨b, 0, none⟩)) (hb : Blk w b #[v0, v1] T) :
    (results fn tmps).run Tryz.prog w = .ok (.tuple #[.agg #[v0, v1], tmps.getD u undef]) w := by
  have hp' : tmps[p]?.getD undef = .pointer (some ⟨b, 0, none⟩) := by simpa using hp
  simp [results, h, hp', asAddr, run_loadVar_row w b T 30 #[v0, v1] (0, 0) _ hb Tryz.underlying30 rfl size_held2, Result.andThen]
/-- A member's share, with so many deals' shares of it. -/
def smF (D : Nat → DV) (m s : Int) : Nat → Int
  | 0 => s
  | k + 1 => sumF (smF D m s k) ((D k).z2 (m - 1).toNat)
def fsB (need many : Int) (ng : Nat) (zg : Nat → Int) (nc : Nat) (zc : Nat → Int) (D : Nat → DV) (nd : Nat) (m s : Int) : Bool := alF need many ng zg nc zc D nd && dsF D nd && kfit need many ng zg nc zc m s
def fsM (need many : Int) (ng : Nat) (zg : Nat → Int) (nc : Nat) (zc : Nat → Int) (D : Nat → DV) (nd : Nat) (m s : Int) : Int := if fsB need many ng zg nc zc D nd m s then m else 0
def fsS (need many : Int) (ng : Nat) (zg : Nat → Int) (nc : Nat) (zc : Nat → Int) (D : Nat → DV) (nd : Nat) (m s : Int) : Int := if fsB need many ng zg nc zc D nd m s then smF D m s nd else 0
/-- What is answered. -/
def fsV (need many : Int) (ng : Nat) (zg : Nat → Int) (nc : Nat) (zc : Nat → Int) (D : Nat → DV) (nd : Nat) (m s : Int) : Value := .tuple #[.agg #[.int .i64 (fsM need many ng zg nc zc D nd m s), .int .i64 (fsS need many ng zg nc zc D nd m s)], .bool (fsB need many ng zg nc zc D nd m s)]
theorem fsV_no {need many : Int} {ng : Nat} {zg : Nat → Int} {nc : Nat} {zc : Nat → Int} {D : Nat → DV} {nd : Nat} {m s : Int} (h : fsB need many ng zg nc zc D nd m s = false) : fsV need many ng zg nc zc D nd m s = .tuple #[.agg #[.int .i64 0, .int .i64 0], .bool false] := by simp [fsV, fsM, fsS, h]
theorem fsV_yes {need many : Int} {ng : Nat} {zg : Nat → Int} {nc : Nat} {zc : Nat → Int} {D : Nat → DV} {nd : Nat} {m s : Int} (h : fsB need many ng zg nc zc D nd m s = true) : fsV need many ng zg nc zc D nd m s = .tuple #[.agg #[.int .i64 m, .int .i64 (smF D m s nd)], .bool true] := by simp [fsV, fsM, fsS, h]
end Con
end Go.Proofs.YtonhdkideianiaaGreatDoor
