/-
  Small words that the walks of the laws share.
-/
import Derived.Test.YtkklhlffbfgolaaDoorDrawNum
import Derived.Test.YtkklhlffbfgolaaDoorAlg
namespace Go.Proofs.YtkklhlffbfgolaaDoor
namespace Run
open Go.RowKit Alg
set_option linter.unusedVariables false

/-- The law's answer: true, and nothing that was there has turned. -/
def Yes (w : World) (e : Ending) (w' : World) : Prop := e = .returned (.bool true) ∧ Below w.heap.size w w'
theorem fok_cases (a : Int) : fok a = true ∨ fok a = false := by cases fok a <;> simp
theorem beq_t {a b : Int} (h : a = b) : (a == b) = true := by simpa using h
theorem beq_f {a b : Int} (h : ¬ a = b) : (a == b) = false := by simpa using h
theorem bne_t {a b : Int} (h : ¬ a = b) : (a != b) = true := by simpa using h
theorem bne_f {a b : Int} (h : a = b) : (a != b) = false := by simpa using h
end Run
end Go.Proofs.YtkklhlffbfgolaaDoor
