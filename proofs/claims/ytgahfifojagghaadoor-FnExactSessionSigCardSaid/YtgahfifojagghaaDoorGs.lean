/-
  Signatures in the exact laws: copied, compared, and as they come in.
-/
import Derived.Test.YtgahfifojagghaaDoorGj
import Derived.Test.YtgahfifojagghaaDoorXo
import Derived.Test.YtgahfifojagghaaDoorSm
namespace Go.Proofs.YtgahfifojagghaaDoor
namespace Con
open Go.RowKit Alg Mem Draw
set_option linter.unusedVariables false
theorem ret_sig {fn : Func} {p : Tmp} (h : fn.results = #[.cell p 30]) (tmps : Array Value) {w : World} {b : Nat} {v0 v1 : Value} {T : TypeId} (hp : tmps.getD p undef = .pointer (some ⟨b, 0, none⟩)) (hb : Blk w b #[v0, v1] T) :
    (results fn tmps).run Tryd.prog w = .ok (.agg #[v0, v1]) w :=
  results_cell_row h tmps w b T #[v0, v1] (0, 0) _ hp hb Tryd.underlying30 rfl size_sig
theorem eqsig (w : World) (m s : Int) :
    Calls Tryd.prog 8 #[.agg #[.int .i64 m, .int .i64 s], .agg #[.int .i64 m, .int .i64 s]] w fun e w' => e = .returned (.bool true) ∧ w.grownBy w' none := by
  have h0 : (m != m) = false := by simp
  have h2 : (s != s) = false := by simp
  go_enter Tryd.func8, Tryd.ntmps8
  go_wp2
  go_ret
  exact ⟨rfl, gtr (Draw.grown_alloc _ _ _) (Draw.grown_alloc _ _ _)⟩
end Con
namespace Op
open Go.ChangeShapes Go.WideShapes Go.ChangeAt Go.RowKit Go.Joins Mem
end Op
end Go.Proofs.YtgahfifojagghaaDoor
