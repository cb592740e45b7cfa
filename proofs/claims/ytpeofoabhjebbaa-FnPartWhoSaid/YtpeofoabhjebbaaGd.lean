/-
  How the model draws messages, members who may sign, and signatures.
-/
import Derived.Test.YtpeofoabhjebbaaWk
import Derived.Test.YtpeofoabhjebbaaGj
import Derived.Test.YtpeofoabhjebbaaSb
namespace Go.Proofs.Ytpeofoabhjebbaa
namespace Draw
open Go.RowKit Alg Mem Con Mp
set_option linter.unusedVariables false

theorem msg_any (w : World) (base B : Nat) (a : Option Addr) (len cap p : Nat) (h : Rd w base B a len cap p) (hp : p ≤ 100000000) :
    Calls Try.prog 55 #[.pointer (some ⟨B, 0, none⟩)] w (Drawn w base B a len cap p 2 0 199) := by
  go_enter Try.func55, Try.ntmps55
  go_wp2_with fail
  refine (pick_any _ base B a len cap p 100 h (by omega) (by omega)).mono ?_
  rintro e w1 ⟨x, x0, x1, rfl, hr1, hg1, hs1⟩
  clear hs1
  have G1 := Lib.hid hg1; clear hg1
  go_wp2_with fail
  refine (pick_any _ base B a len cap (p + 1) 40 hr1 (by omega) (by omega)).mono ?_
  rintro e w2 ⟨y, y0, y1, rfl, hr2, hg2, hs2⟩
  clear hs2
  have G2 := Lib.hid (grown_trans G1.out hg2); have R2 := Lib.hid hr2; clear hg2 hr2 hr1
  rcases (by omega : y = 39 ∨ y < 39) with rfl | hy
  · go_wp2
    go_ret
    exact ⟨_, by omega, by omega, rfl, G2.out, p + 1 + 1, by omega, by omega, R2.out⟩
  · have hq : y.tdiv 39 = 0 := Int.tdiv_eq_zero_of_lt y0 hy
    have hq' : y / 39 = 0 := Int.ediv_eq_zero_of_lt y0 hy
    go_wp2
    go_ret
    exact ⟨_, by omega, by omega, rfl, G2.out, p + 1 + 1, by omega, by omega, R2.out⟩
theorem drawHash (w : World) (a : Option Addr) (len cap : Nat) (hB : Bytes w w.heap.size a len) (hc : len ≤ cap) (hm : cap ≤ maxLen) :
    Calls Try.prog 17 #[.slice a len cap] w fun e w' => ∃ x y m : Int, e = .returned (.tuple #[.int .i64 x, .int .i64 y, .int .i64 m]) ∧ w.grownBy w' none := by
  go_enter Try.func17, Try.ntmps17
  go_wp2_with fail
  refine (open_any _ w.heap.size a len cap hB (by omega) hc hm).mono ?_
  rintro e w1 ⟨rfl, hg1, hs1, l1, c1, hr1⟩
  clear hs1
  have G1 := Lib.hid hg1; clear hg1
  go_wp2_with fail
  refine (grp_any _ _ _ a l1 c1 0 hr1 (by omega)).mono ?_
  rintro e w2 ⟨x, x0, x1, rfl, hg2, p2, _, hp2, hr2⟩
  have G2 := Lib.hid hg2; clear hg2 hr1
  go_wp2_with fail
  refine (grp_any _ _ _ a l1 c1 p2 hr2 (by omega)).mono ?_
  rintro e w3 ⟨y, y0, y1, rfl, hg3, p3, _, hp3, hr3⟩
  have G3 := Lib.hid (grown_trans G2.out hg3); clear hg3 hr2
  go_wp2_with fail
  refine (msg_any _ _ _ a l1 c1 p3 hr3 (by omega)).mono ?_
  rintro e w4 ⟨m, m0, m1, rfl, hg4, p4, _, hp4, hr4⟩
  have G4 := Lib.hid (grown_trans G3.out hg4); clear hg4 hr3 hr4
  go_wp2
  (try simp only [Exit.inBlock, Exit.then])
  refine bodyPost_ret (results_tmp3 rfl _ _ _) rfl ?_
  exact ⟨x, y, m, rfl, grown_old G1.out G4.out⟩
theorem drawSA (w : World) (a : Option Addr) (len cap : Nat) (hB : Bytes w w.heap.size a len) (hc : len ≤ cap) (hm : cap ≤ maxLen) :
    Calls Try.prog 22 #[.slice a len cap] w fun e w' => ∃ x y m : Int, e = .returned (.tuple #[.int .i64 x, .int .i64 m, .int .i64 y]) ∧ w.grownBy w' none := by
  go_enter Try.func22, Try.ntmps22
  go_wp2_with fail
  refine (open_any _ w.heap.size a len cap hB (by omega) hc hm).mono ?_
  rintro e w1 ⟨rfl, hg1, hs1, l1, c1, hr1⟩
  clear hs1
  have G1 := Lib.hid hg1; clear hg1
  go_wp2_with fail
  refine (num_any _ _ _ a l1 c1 0 hr1 (by omega)).mono ?_
  rintro e w2 ⟨x, x0, x1, rfl, hg2, p2, _, hp2, hr2⟩
  have G2 := Lib.hid hg2; clear hg2 hr1
  go_wp2_with fail
  refine (msg_any _ _ _ a l1 c1 p2 hr2 (by omega)).mono ?_
  rintro e w3 ⟨m, m0, m1, rfl, hg3, p3, _, hp3, hr3⟩
  have G3 := Lib.hid (grown_trans G2.out hg3); clear hg3 hr2
  go_wp2_with fail
  refine (num_any _ _ _ a l1 c1 p3 hr3 (by omega)).mono ?_
  rintro e w4 ⟨y, y0, y1, rfl, hg4, p4, _, hp4, hr4⟩
  have G4 := Lib.hid (grown_trans G3.out hg4); clear hg4 hr3 hr4
  go_wp2
  (try simp only [Exit.inBlock, Exit.then])
  refine bodyPost_ret (results_tmp3 rfl _ _ _) rfl ?_
  exact ⟨x, y, m, rfl, grown_old G1.out G4.out⟩
end Draw
end Go.Proofs.Ytpeofoabhjebbaa
