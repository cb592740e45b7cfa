/-
  Sums number by number, and the value of a polynomial by as many values as it has numbers.
-/
import Derived.Test.YtbemggelljgkhaaDoorPk
import Derived.Test.YtbemggelljgkhaaDoorRunKit
import Derived.Deep.QuietTactic
import Derived.BigQuiet
namespace Go.Proofs.YtbemggelljgkhaaDoor
namespace Ln
open Go.RowKit Alg Mem Con
set_option linter.unusedVariables false

/-- A sum, number by number. -/
def psum (f : Nat → Pol.F) : Nat → Pol.F
  | 0 => 0
  | k + 1 => psum f k + f k
theorem acc_snoc (g : Pol.F → Pol.F) (us bs : List Pol.F) (u b : Pol.F) (h : us.length = bs.length) : Pol.acc g (us ++ [u]) (bs ++ [b]) = Pol.acc g us bs + u * g b := by
  induction us generalizing bs with
  | nil =>
    cases bs with
    | nil => simp only [List.nil_append, Pol.acc]; grind
    | cons b' bs => simp at h
  | cons v us ih => cases bs with
    | nil => simp at h
    | cons b' bs => simp only [List.cons_append, Pol.acc, ih bs (by simpa using h)]; grind
theorem acc_psum (g : Pol.F → Pol.F) (u v : Nat → Pol.F) (n : Nat) : Pol.acc g ((List.range n).map u) ((List.range n).map v) = psum (fun j => u j * g (v j)) n := by
  induction n with
  | zero => rfl
  | succ n ih =>
    rw [List.range_succ, List.map_append, List.map_append, List.map_singleton, List.map_singleton, acc_snoc _ _ _ _ _ (by simp), ih]; rfl
theorem line_range (z : Nat → Int) (n : Nat) (x : Pol.F) : Pol.ws (fl z n) x = (List.range n).map fun i => Pol.lag (fl z n) i x := by
  rw [← Pol.line_ws]; unfold Pol.line; rw [fl_length]
theorem fl_ne {z : Nat → Int} {n : Nat} (h : 1 ≤ n) : fl z n ≠ [] := by
  intro e; have := congrArg List.length e; rw [fl_length] at this; simp at this; omega
theorem line_value {n : Nat} {z : Nat → Int} {p : List Pol.F} {x : Int} (hp : plok n z = true) (hn : 1 ≤ n) (hl : p.length ≤ n) : psum (fun j => Pol.lag (fl z n) j (Pol.cv x) * Pol.ev p (Pol.cv (z j))) n = Pol.ev p (Pol.cv x) := by
  have h := Pol.interp (fl z n) p (Pol.cv x) (fl_nodup hp) (fl_ne hn) (by rw [fl_length]; exact hl)
  rw [line_range] at h
  rw [← h]
  exact (acc_psum (Pol.ev p) (fun i => Pol.lag (fl z n) i (Pol.cv x)) (fun j => Pol.cv (z j)) n).symm
theorem q_isum {a b : Int} {w : World} {n : Nat} : Calls Tryd.prog 15 #[.int .i64 a, .int .i64 b] (w.drewN n) fun e w'' => e = .returned (.int .i64 (sumF a b)) ∧ ∃ m, w'' = w.drewN m :=
  Calls.quiet_of_same ((isum a b _).mono fun _ _ h => ⟨h.1, h.2.symm⟩)
theorem q_imul {a b : Int} {w : World} {n : Nat} : Calls Tryd.prog 16 #[.int .i64 a, .int .i64 b] (w.drewN n) fun e w'' => e = .returned (.int .i64 (mulF a b)) ∧ ∃ m, w'' = w.drewN m :=
  Calls.quiet_of_same ((imul a b _).mono fun _ _ h => ⟨h.1, h.2.symm⟩)
/-- Places one behind the other, turned. -/
def turn (k m : Nat) (j : Nat) : Int := (((k + j) % m : Nat) : Int) + 1
theorem turn_ok {k m n : Nat} (hm1 : 1 ≤ m) (hm5 : m ≤ 5) (hn : n ≤ m) : plok n (turn k m) = true := by
  refine plok_iff.2 ⟨by omega, fun j hj => ⟨?_, hasz_no.2 fun i hi => ?_⟩⟩
  · unfold turn
    have := Nat.mod_lt (k + j) (show 0 < m by omega)
    exact fok_mk (by omega) (by omega)
  · unfold turn
    rcases (by omega : m = 1 ∨ m = 2 ∨ m = 3 ∨ m = 4 ∨ m = 5) with rfl | rfl | rfl | rfl | rfl <;> omega
end Ln
end Go.Proofs.YtbemggelljgkhaaDoor
