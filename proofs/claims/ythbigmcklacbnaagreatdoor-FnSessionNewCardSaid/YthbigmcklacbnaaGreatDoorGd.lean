/-
  How the model draws messages, members who may sign, and signatures.
-/
import Derived.Test.YthbigmcklacbnaaGreatDoorWk
import Derived.Test.YthbigmcklacbnaaGreatDoorGj
import Derived.Test.YthbigmcklacbnaaGreatDoorSb
namespace Go.Proofs.YthbigmcklacbnaaGreatDoor
namespace Draw
open Go.RowKit Alg Mem Con Mp
set_option linter.unusedVariables false

theorem msg_any (w : World) (base B : Nat) (a : Option Addr) (len cap p : Nat) (h : Rd w base B a len cap p) (hp : p ≤ 100000000) :
    Calls Tryz.prog 17 #[.pointer (some ⟨B, 0, none⟩)] w (Drawn w base B a len cap p 2 0 199) := by
  go_enter Tryz.func17, Tryz.ntmps17
  go_wp2_with fail
  refine (pick_any _ base B a len cap p 100 h (by omega) (by omega)).mono ?_
  rintro e w1 ⟨x, x0, x1, rfl, hr1, hg1, hs1⟩
  clear hs1
  have G1 := Lib.hid hg1; clear hg1
  go_wp2_with fail
  refine (pick_any _ base B a len cap (p + 1) 40 hr1 (by omega) (by omega)).mono ?_
  rintro e w2 ⟨y, y0, y1, rfl, hr2, hg2, hs2⟩
  clear hs2
  have G2 := Lib.hid (grown_trans G1.out hg2); have R2 := Lib.hid hr2; clear hg2 hr2 hr1
  rcases (by omega : y = 39 ∨ y < 39) with rfl | hy
  · go_wp2
    go_ret
    exact ⟨_, by omega, by omega, rfl, G2.out, p + 1 + 1, by omega, by omega, R2.out⟩
  · have hq : y.tdiv 39 = 0 := Int.tdiv_eq_zero_of_lt y0 hy
    have hq' : y / 39 = 0 := Int.ediv_eq_zero_of_lt y0 hy
    go_wp2
    go_ret
    exact ⟨_, by omega, by omega, rfl, G2.out, p + 1 + 1, by omega, by omega, R2.out⟩
end Draw
end Go.Proofs.YthbigmcklacbnaaGreatDoor
