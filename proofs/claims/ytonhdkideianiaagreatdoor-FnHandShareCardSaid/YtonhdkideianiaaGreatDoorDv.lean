/-
  The program's one error value in a seat whose rows list it: what the row's condition gives a walk; that the start meets the condition; how the variable reads again behind a call.
-/
import Derived.Test.YtonhdkideianiaaGreatDoorDj
import Derived.ProofKit
import Derived.LaidMore
import Derived.LaidLaws
import Derived.OpenShut
import Derived.Stop.LaidErr
import Derived.Stop.Joined
import Derived.RowKitTokens
import Derived.ChangeVars
namespace Go.Proofs.YtonhdkideianiaaGreatDoor
namespace Dv
open Go.ChangeShapes Go.WideShapes Go.RowKit Con
set_option linter.unusedVariables false

theorem gv : Tryz.prog.globalNamed "loop.example/wardstaff/impl.errInvalidDeal" = some 0 := by kernel_rfl
theorem tv : (Tryz.prog.globals[0]?).map (·.type) = some 82 := by kernel_rfl
theorem row_ptr (u : TypeId) (h : Tryz.prog.typeName? 3 u = some "*errors.errorString") : u = 138 :=
  typeName_ptr_named (nm := "errors.errorString") (by rw [show "*" ++ "errors.errorString" = "*errors.errorString" by decide]; kernel_rfl) (by kernel_rfl) (by decide) u (by rw [show "*" ++ "errors.errorString" = "*errors.errorString" by decide]; exact h)
theorem c_es : Tryz.prog.cellsOf 164 = 1 := by kernel_rfl
theorem c_str : Tryz.prog.cellsOf 9 = 1 := by kernel_rfl
abbrev lst : List (String × DataW Unit) := [("loop.example/wardstaff/impl.errInvalidDeal", Rows.laid_loop_example_wardstaff_impl_errInvalidDeal)]
theorem of_laid {W : World} (h : laidMetH Tryz.prog lst W) : ∃ a0 : Addr, W.var? Tryz.prog "loop.example/wardstaff/impl.errInvalidDeal" = some #[.iface 138 (.pointer (some a0))] ∧ Sent W a0 := by
  have h' : laidMet Tryz.prog lst W := h
  obtain ⟨a0, s0, hv0, hc0, hs0, hz0⟩ := laid_sentinel h' gv tv Tryz.underlying82 row_ptr Tryz.underlying138 Tryz.underlying164 rfl rfl Tryz.underlying9 c_es c_str
  exact ⟨a0, hv0, by unfold Sent; simpa using World.var?_cell gv hv0 0⟩
theorem var_kept {W W' : World} {cs : Array Value} (h : W.var? Tryz.prog "loop.example/wardstaff/impl.errInvalidDeal" = some cs) (hb : Below W.heap.size W W') : W'.var? Tryz.prog "loop.example/wardstaff/impl.errInvalidDeal" = some cs := by
  unfold World.var? at *
  rw [gv] at *
  simp only [Option.bind_some] at *
  have hlt : 0 < W.heap.size := by
    rcases Nat.lt_or_ge 0 W.heap.size with h' | h'
    · exact h'
    · rw [Array.getElem?_eq_none h'] at h; simp at h
  rw [hb.block _ hlt]; exact h
/-- The variable, read again. -/
theorem again {H : Type} {enc : TypeId × Value → H} {W W' : World} {a0 : Addr} {gs : List (DataW H)} {q : List MemPlace} (hv : W.var? Tryz.prog "loop.example/wardstaff/impl.errInvalidDeal" = some #[.iface 138 (.pointer (some a0))])
    (hV : DataW.TrodVars enc Tryz.prog W (fun _ => true) ["loop.example/wardstaff/impl.errInvalidDeal"] gs q) (hb : Below W.heap.size W W') :
    ∃ g1, gs = [g1] ∧ ∀ sp, DataW.TrodVars enc Tryz.prog W' sp ["loop.example/wardstaff/impl.errInvalidDeal"] [g1] [.cell 0 0] := by
  obtain ⟨g, t, cs, fuel, d, p, rfl, hg, ht, hv0, hd, _⟩ := trodVars_one hV
  obtain rfl := Option.some.inj (gv.symm.trans hg)
  obtain rfl := Option.some.inj (tv.symm.trans ht)
  obtain rfl := Option.some.inj (hv0.symm.trans hv)
  obtain ⟨_, e⟩ := held_of_trod Tryz.underlying82 hd
  injection e with e1 e2
  subst e1
  exact ⟨_, rfl, fun sp => vars_read1 enc gv tv Tryz.underlying82 (var_kept hv hb) trivial sp⟩
theorem door_met (os : Os) (args : Array Value) : laidMetH Tryz.prog lst ((World.doorLaid Tryz.prog 28 os).forCall (fun _ _ => 0) ⟨#[], args, []⟩).memory :=
  laidMetH_of_parts3 (fuel := 8) (laidMet_of_run' 8 (by kernel_rfl) (by kernel_rfl)) (by kernel_rfl) (by kernel_rfl)
end Dv
end Go.Proofs.YtonhdkideianiaaGreatDoor
