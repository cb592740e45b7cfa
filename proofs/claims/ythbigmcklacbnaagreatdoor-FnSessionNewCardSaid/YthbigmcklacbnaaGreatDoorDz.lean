/-
  The program's one error value in a seat whose rows list it: what the row's condition gives a walk; that the start meets the condition; how the variable reads againZ behind a call.
-/
import Derived.Test.YthbigmcklacbnaaGreatDoorUz
import Derived.LaidHandle
import Derived.LaidSub
import Derived.ProofKit
import Derived.LaidMore
import Derived.LaidLaws
import Derived.OpenShut
import Derived.Stop.LaidErr
import Derived.Stop.Joined
import Derived.RowKitTokens
import Derived.ChangeVars
namespace Go.Proofs.YthbigmcklacbnaaGreatDoor
namespace Dz
open Go.ChangeShapes Go.WideShapes Go.RowKit Con
set_option linter.unusedVariables false

theorem gvZ : Tryz.prog.globalNamed "loop.example/wardstaff/impl.errNoPart" = some 0 := by kernel_rfl
theorem tvZ : (Tryz.prog.globals[0]?).map (·.type) = some 59 := by kernel_rfl
theorem row_ptrZ (u : TypeId) (h : Tryz.prog.typeName? 3 u = some "*errors.errorString") : u = 165 :=
  typeName_ptr_named (nm := "errors.errorString") (by rw [show "*" ++ "errors.errorString" = "*errors.errorString" by decide]; kernel_rfl) (by kernel_rfl) (by decide) u (by rw [show "*" ++ "errors.errorString" = "*errors.errorString" by decide]; exact h)
theorem c_esZ : Tryz.prog.cellsOf 198 = 1 := by kernel_rfl
theorem c_strZ : Tryz.prog.cellsOf 9 = 1 := by kernel_rfl
abbrev lstZ : List (String × DataW Unit) := [("errors.errorType", Rows.laid_errors_errorType), ("loop.example/wardstaff/impl.errNoPart", Rows.laid_loop_example_wardstaff_impl_errNoPart)]
theorem etZ : Tryz.prog.globalNamed "errors.errorType" = some 1 := by kernel_rfl
theorem rtZ : (Tryz.prog.cutTypes.find? (·.1 == "internal/reflectlite.rtype")).map (·.2) = some 125 := by kernel_rfl
theorem oneRowZ : ((List.range Tryz.prog.types.size).filter fun t => Tryz.prog.rowNamed t [101, 114, 114, 111, 114]) = [59] := by kernel_rfl
theorem hanZ : typeHandle Tryz.prog 59 = .pointer (some ⟨2, 59, none⟩) := by kernel_rfl
theorem of_laidZ {W : World} (h : laidMetH Tryz.prog lstZ W) : ∃ a0 : Addr, W.var? Tryz.prog "loop.example/wardstaff/impl.errNoPart" = some #[.iface 165 (.pointer (some a0))] ∧ Np W a0 ∧ Et W := by
  obtain ⟨h1, h2⟩ := laidMetH_iff.1 h
  have h' : laidMet Tryz.prog [("loop.example/wardstaff/impl.errNoPart", Rows.laid_loop_example_wardstaff_impl_errNoPart)] W := h1
  obtain ⟨a0, s0, hv0, hc0, hs0, hz0⟩ := laid_sentinel h' gvZ tvZ Tryz.underlying59 row_ptrZ Tryz.underlying165 Tryz.underlying198 rfl rfl Tryz.underlying9 c_esZ c_strZ
  refine ⟨a0, hv0, by unfold Np; simpa using World.var?_cell gvZ hv0 0, ?_⟩
  have h2' : handlesMet Tryz.prog [("errors.errorType", Rows.laid_errors_errorType)] W := h2
  obtain ⟨name, u, ty, e1, e2, e3, e4, e5⟩ := h2' _ (List.mem_singleton.2 rfl)
  have en : name = [101, 114, 114, 111, 114] := (Option.some.inj e1).symm
  subst en
  obtain rfl := Option.some.inj (rtZ.symm.trans e2)
  have hm : ty ∈ (List.range Tryz.prog.types.size).filter fun t => Tryz.prog.rowNamed t [101, 114, 114, 111, 114] := List.mem_filter.2 ⟨List.mem_range.2 e3, e4⟩
  rw [oneRowZ] at hm
  obtain rfl := List.mem_singleton.1 hm
  rw [hanZ] at e5
  unfold Et
  simpa using World.var?_cell etZ e5 0
theorem var_keptZ {W W' : World} {cs : Array Value} (h : W.var? Tryz.prog "loop.example/wardstaff/impl.errNoPart" = some cs) (hb : Below W.heap.size W W') : W'.var? Tryz.prog "loop.example/wardstaff/impl.errNoPart" = some cs := by
  unfold World.var? at *
  rw [gvZ] at *
  simp only [Option.bind_some] at *
  have hlt : 0 < W.heap.size := by
    rcases Nat.lt_or_ge 0 W.heap.size with h' | h'
    · exact h'
    · rw [Array.getElem?_eq_none h'] at h; simp at h
  rw [hb.block _ hlt]; exact h
/-- The variable, read againZ. -/
theorem againZ {H : Type} {enc : TypeId × Value → H} {W W' : World} {a0 : Addr} {gs : List (DataW H)} {q : List MemPlace} (hv : W.var? Tryz.prog "loop.example/wardstaff/impl.errNoPart" = some #[.iface 165 (.pointer (some a0))])
    (hV : DataW.TrodVars enc Tryz.prog W (fun _ => true) ["loop.example/wardstaff/impl.errNoPart"] gs q) (hb : Below W.heap.size W W') :
    ∃ g1, gs = [g1] ∧ ∀ sp, DataW.TrodVars enc Tryz.prog W' sp ["loop.example/wardstaff/impl.errNoPart"] [g1] [.cell 0 0] := by
  obtain ⟨g, t, cs, fuel, d, p, rfl, hg, ht, hv0, hd, _⟩ := trodVars_one hV
  obtain rfl := Option.some.inj (gvZ.symm.trans hg)
  obtain rfl := Option.some.inj (tvZ.symm.trans ht)
  obtain rfl := Option.some.inj (hv0.symm.trans hv)
  obtain ⟨_, e⟩ := held_of_trod Tryz.underlying59 hd
  injection e with e1 e2
  subst e1
  exact ⟨_, rfl, fun sp => vars_read1 enc gvZ tvZ Tryz.underlying59 (var_keptZ hv hb) trivial sp⟩
theorem door_metZ (os : Os) (args : Array Value) : laidMetH Tryz.prog lstZ ((World.doorLaid Tryz.prog 35 os).forCall (fun _ _ => 0) ⟨#[], args, []⟩).memory :=
  laidMetH_of_parts3 (fuel := 8) (laidMet_of_run' 8 (by kernel_rfl) (by kernel_rfl)) (by kernel_rfl) (by kernel_rfl)
end Dz
end Go.Proofs.YthbigmcklacbnaaGreatDoor
