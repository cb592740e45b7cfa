/-
  Small words that the walks of the laws share.
-/
import Derived.Test.YtocecdnebkeeoaaDoorDrawNum
import Derived.Test.YtocecdnebkeeoaaDoorAlg
namespace Go.Proofs.YtocecdnebkeeoaaDoor
namespace Run
open Go.RowKit Alg
set_option linter.unusedVariables false

/-- The law's answer: true, and nothing that was there has turned. -/
def Yes (w : World) (e : Ending) (w' : World) : Prop := e = .returned (.bool true) ∧ Below w.heap.size w w'
theorem fok_cases (a : Int) : fok a = true ∨ fok a = false := by cases fok a <;> simp
theorem lp (n : Int) (w : World) (h : 0 ≤ n) : Calls Tryd.prog 14 #[.int .i64 n] w fun e w' => ∃ c : Int, fok c = true ∧ e = .returned (.int .i64 c) ∧ w = w' := by
  go_enter Tryd.func14, Tryd.ntmps14
  go_wp2
  go_ret
  exact ⟨_, fok_mk (Int.emod_nonneg _ (by omega)) (Int.emod_lt_of_pos _ (by omega)), rfl, rfl⟩
theorem beq_t {a b : Int} (h : a = b) : (a == b) = true := by simpa using h
theorem beq_f {a b : Int} (h : ¬ a = b) : (a == b) = false := by simpa using h
theorem bne_t {a b : Int} (h : ¬ a = b) : (a != b) = true := by simpa using h
theorem bne_f {a b : Int} (h : a = b) : (a != b) = false := by simpa using h
end Run
end Go.Proofs.YtocecdnebkeeoaaDoor
