/-
  Sessions: the model's SessionSig.
-/
import Derived.Test.YthbigmcklacbnaaGreatDoorTc
namespace Go.Proofs.YthbigmcklacbnaaGreatDoor
namespace Con
open Go.RowKit Alg Mem Draw Hd
set_option linter.unusedVariables false

/-- Have all put their parts in? -/
def onA (S : Nat → SV) : Nat → Bool
  | 0 => true
  | k + 1 => onA S k && (S k).on
theorem onA_iff {S : Nat → SV} {n : Nat} : onA S n = true ↔ ∀ j, j < n → (S j).on = true := by
  induction n with
  | zero => simp [onA]
  | succ n ih =>
    simp only [onA, Bool.and_eq_true, ih]
    exact ⟨fun h j hj => by rcases Nat.lt_or_ge j n with h' | h'; exact h.1 j h'; obtain rfl : j = n := by omega
                            exact h.2, fun h => ⟨fun j hj => h j (by omega), h n (by omega)⟩⟩
theorem onA_no {S : Nat → SV} {n k : Nat} (hk : k < n) (h : (S k).on = false) : onA S n = false := by
  cases h' : onA S n with
  | false => rfl
  | true => rw [onA_iff.1 h' k hk] at h; cases h
/-- Is there a signature? -/
def sgO (need many : Int) (ng : Nat) (zg : Nat → Int) (nc : Nat) (zc : Nat → Int) (msg : Int) (n : Nat) (S : Nat → SV) : Bool := tsF need many ng zg nc zc msg n S && ((tbL need many ng zg nc zc msg n S n).length == 0 && onA S n)
def ssV (need many : Int) (ng : Nat) (zg : Nat → Int) (nc : Nat) (zc : Nat → Int) (msg : Int) (n : Nat) (S : Nat → SV) : Value :=
  if sgO need many ng zg nc zc msg n S then .tuple #[.agg #[.int .i64 (rP S n), .int .i64 (zP S n)], .bool true] else .tuple #[.agg #[.int .i64 0, .int .i64 0], .bool false]
theorem ssV_yes {need many : Int} {ng : Nat} {zg : Nat → Int} {nc : Nat} {zc : Nat → Int} {msg : Int} {n : Nat} {S : Nat → SV} (h : tsF need many ng zg nc zc msg n S = true ∧ (tbL need many ng zg nc zc msg n S n).length = 0 ∧ onA S n = true) : ssV need many ng zg nc zc msg n S = .tuple #[.agg #[.int .i64 (rP S n), .int .i64 (zP S n)], .bool true] := by
  unfold ssV; rw [if_pos (by unfold sgO; simp only [h.1, h.2.1, h.2.2]; rfl)]
theorem ssV_no {need many : Int} {ng : Nat} {zg : Nat → Int} {nc : Nat} {zc : Nat → Int} {msg : Int} {n : Nat} {S : Nat → SV} (h : ¬ (tsF need many ng zg nc zc msg n S = true ∧ (tbL need many ng zg nc zc msg n S n).length = 0 ∧ onA S n = true)) : ssV need many ng zg nc zc msg n S = .tuple #[.agg #[.int .i64 0, .int .i64 0], .bool false] := by
  unfold ssV; rw [if_neg (fun e => h (by unfold sgO at e; simpa using e))]
def ssR (need many : Int) (ng : Nat) (zg : Nat → Int) (nc : Nat) (zc : Nat → Int) (msg : Int) (n : Nat) (S : Nat → SV) : Int := if sgO need many ng zg nc zc msg n S then rP S n else 0
def ssZ (need many : Int) (ng : Nat) (zg : Nat → Int) (nc : Nat) (zc : Nat → Int) (msg : Int) (n : Nat) (S : Nat → SV) : Int := if sgO need many ng zg nc zc msg n S then zP S n else 0
theorem ssV_eq {need many : Int} {ng : Nat} {zg : Nat → Int} {nc : Nat} {zc : Nat → Int} {msg : Int} {n : Nat} {S : Nat → SV} : ssV need many ng zg nc zc msg n S = .tuple #[.agg #[.int .i64 (ssR need many ng zg nc zc msg n S), .int .i64 (ssZ need many ng zg nc zc msg n S)], .bool (sgO need many ng zg nc zc msg n S)] := by
  unfold ssV ssR ssZ
  cases sgO need many ng zg nc zc msg n S <;> rfl
end Con
end Go.Proofs.YthbigmcklacbnaaGreatDoor
