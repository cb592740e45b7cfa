/-
  Signatures: the program's functions on what a message asks, on a signature, and on who signs alone.
-/
import Derived.Test.YthbigmcklacbnaaGh
import Derived.Test.YthbigmcklacbnaaDa
import Derived.Handy
namespace Go.Proofs.Ythbigmcklacbnaa
namespace Con
open Go.RowKit Alg Mem
set_option linter.unusedVariables false

theorem imsg (w : World) (m : Int) : Calls Try.prog 104 #[.int .i64 m] w fun e w' => e = .returned (.bool (mok m)) ∧ w = w' := by
  by_cases h1 : 0 ≤ m
  · by_cases h2 : m ≤ 99
    · have HR := Lib.hid (show mok m = true from decide_eq_true ⟨h1, h2⟩)
      go_enter Try.func104, Try.ntmps104
      go_wp2
      go_ret
      exact ⟨ret_b HR.out.symm, rfl⟩
    · have HR := Lib.hid (show mok m = false from decide_eq_false (by omega))
      go_enter Try.func104, Try.ntmps104
      go_wp2
      go_ret
      exact ⟨ret_b HR.out.symm, rfl⟩
  · have HR := Lib.hid (show mok m = false from decide_eq_false (by omega))
    go_enter Try.func104, Try.ntmps104
    go_wp2
    go_ret
    exact ⟨ret_b HR.out.symm, rfl⟩
theorem imsg_yes (w : World) (m : Int) (h : mok m = true) : Calls Try.prog 104 #[.int .i64 m] w fun e w' => e = .returned (.bool true) ∧ w = w' := h ▸ imsg w m
theorem imsg_no (w : World) (m : Int) (h : mok m = false) : Calls Try.prog 104 #[.int .i64 m] w fun e w' => e = .returned (.bool false) ∧ w = w' := h ▸ imsg w m

end Con
end Go.Proofs.Ythbigmcklacbnaa
