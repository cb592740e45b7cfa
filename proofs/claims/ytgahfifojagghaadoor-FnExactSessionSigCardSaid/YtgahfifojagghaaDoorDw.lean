/-
  The program's one error value in a seat whose rows list it: what the row's condition gives a walk; that the start meets the condition; how the variable reads againN behind a call.
-/
import Derived.Test.YtgahfifojagghaaDoorUf
import Derived.ProofKit
import Derived.LaidMore
import Derived.LaidLaws
import Derived.OpenShut
import Derived.Stop.LaidErr
import Derived.Stop.Joined
import Derived.RowKitTokens
import Derived.ChangeVars
namespace Go.Proofs.YtgahfifojagghaaDoor
namespace Dw
open Go.ChangeShapes Go.WideShapes Go.RowKit Con
set_option linter.unusedVariables false

theorem gvN : Tryd.prog.globalNamed "loop.example/wardstaff/impl.errNoPart" = some 0 := by kernel_rfl
theorem tvN : (Tryd.prog.globals[0]?).map (·.type) = some 56 := by kernel_rfl
theorem row_ptrN (u : TypeId) (h : Tryd.prog.typeName? 3 u = some "*errors.errorString") : u = 110 :=
  typeName_ptr_named (nm := "errors.errorString") (by rw [show "*" ++ "errors.errorString" = "*errors.errorString" by decide]; kernel_rfl) (by kernel_rfl) (by decide) u (by rw [show "*" ++ "errors.errorString" = "*errors.errorString" by decide]; exact h)
theorem c_esN : Tryd.prog.cellsOf 139 = 1 := by kernel_rfl
theorem c_strN : Tryd.prog.cellsOf 9 = 1 := by kernel_rfl
abbrev lstN : List (String × DataW Unit) := [("loop.example/wardstaff/impl.errNoPart", Rows.laid_loop_example_wardstaff_impl_errNoPart)]
theorem of_laidN {W : World} (h : laidMetH Tryd.prog lstN W) : ∃ a0 : Addr, W.var? Tryd.prog "loop.example/wardstaff/impl.errNoPart" = some #[.iface 110 (.pointer (some a0))] ∧ Np W a0 := by
  have h' : laidMet Tryd.prog lstN W := h
  obtain ⟨a0, s0, hv0, hc0, hs0, hz0⟩ := laid_sentinel h' gvN tvN Tryd.underlying56 row_ptrN Tryd.underlying110 Tryd.underlying139 rfl rfl Tryd.underlying9 c_esN c_strN
  exact ⟨a0, hv0, by unfold Np; simpa using World.var?_cell gvN hv0 0⟩
theorem var_keptN {W W' : World} {cs : Array Value} (h : W.var? Tryd.prog "loop.example/wardstaff/impl.errNoPart" = some cs) (hb : Below W.heap.size W W') : W'.var? Tryd.prog "loop.example/wardstaff/impl.errNoPart" = some cs := by
  unfold World.var? at *
  rw [gvN] at *
  simp only [Option.bind_some] at *
  have hlt : 0 < W.heap.size := by
    rcases Nat.lt_or_ge 0 W.heap.size with h' | h'
    · exact h'
    · rw [Array.getElem?_eq_none h'] at h; simp at h
  rw [hb.block _ hlt]; exact h
/-- The variable, read againN. -/
theorem againN {H : Type} {enc : TypeId × Value → H} {W W' : World} {a0 : Addr} {gs : List (DataW H)} {q : List MemPlace} (hv : W.var? Tryd.prog "loop.example/wardstaff/impl.errNoPart" = some #[.iface 110 (.pointer (some a0))])
    (hV : DataW.TrodVars enc Tryd.prog W (fun _ => true) ["loop.example/wardstaff/impl.errNoPart"] gs q) (hb : Below W.heap.size W W') :
    ∃ g1, gs = [g1] ∧ ∀ sp, DataW.TrodVars enc Tryd.prog W' sp ["loop.example/wardstaff/impl.errNoPart"] [g1] [.cell 0 0] := by
  obtain ⟨g, t, cs, fuel, d, p, rfl, hg, ht, hv0, hd, _⟩ := trodVars_one hV
  obtain rfl := Option.some.inj (gvN.symm.trans hg)
  obtain rfl := Option.some.inj (tvN.symm.trans ht)
  obtain rfl := Option.some.inj (hv0.symm.trans hv)
  obtain ⟨_, e⟩ := held_of_trod Tryd.underlying56 hd
  injection e with e1 e2
  subst e1
  exact ⟨_, rfl, fun sp => vars_read1 enc gvN tvN Tryd.underlying56 (var_keptN hv hb) trivial sp⟩
theorem door_metN (os : Os) (args : Array Value) : laidMetH Tryd.prog lstN ((World.doorLaid Tryd.prog 28 os).forCall (fun _ _ => 0) ⟨#[], args, []⟩).memory :=
  laidMetH_of_parts3 (fuel := 8) (laidMet_of_run' 8 (by kernel_rfl) (by kernel_rfl)) (by kernel_rfl) (by kernel_rfl)
end Dw
end Go.Proofs.YtgahfifojagghaaDoor
