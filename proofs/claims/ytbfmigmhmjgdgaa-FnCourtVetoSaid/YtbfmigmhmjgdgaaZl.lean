/-
  Courts: the laws' comparison of two.
-/
import Derived.Test.YtbfmigmhmjgdgaaZk
namespace Go.Proofs.Ytbfmigmhmjgdgaa
namespace Run
open Go.RowKit Alg Mem Con Draw Ct
set_option linter.unusedVariables false

set_option maxRecDepth 100000 in
set_option maxHeartbeats 4000000 in
theorem lpct (w : World) (many need : Int) (on : Bool) (at_ : Int) (a a' : Option Addr) (n c c' : Nat) (f : Nat → Int) (veto : Bool) (h1 : Ints w a n f) (h2 : Ints w a' n f) (hl : n ≤ 2000000) :
    Calls Try.prog 20 #[.agg #[.int .i64 many, .int .i64 need, .bool on, .int .i64 at_, .slice a n c, .bool veto], .agg #[.int .i64 many, .int .i64 need, .bool on, .int .i64 at_, .slice a' n c', .bool veto]] w fun e w' => e = .returned (.bool true) ∧ w.grownBy w' none := by
  have G := Lib.hid (gtr (grown_alloc w (.cells #[.int .i64 many, .int .i64 need, .bool on, .int .i64 at_, .slice a n c, .bool veto] 27) none) (grown_alloc _ (.cells #[.int .i64 many, .int .i64 need, .bool on, .int .i64 at_, .slice a' n c', .bool veto] 27) none))
  have K := Lib.hid ((Blk.new w #[.int .i64 many, .int .i64 need, .bool on, .int .i64 at_, .slice a n c, .bool veto] 27).keptN (grown_alloc _ (.cells #[.int .i64 many, .int .i64 need, .bool on, .int .i64 at_, .slice a' n c', .bool veto] 27) none))
  have J := Lib.hid (blk_new2 w (.cells #[.int .i64 many, .int .i64 need, .bool on, .int .i64 at_, .slice a n c, .bool veto] 27) #[.int .i64 many, .int .i64 need, .bool on, .int .i64 at_, .slice a' n c', .bool veto] 27)
  have I1 := Lib.hid (h1.kept G.out); have I2 := Lib.hid (h2.kept G.out)
  clear h1 h2
  go_enter Try.func20, Try.ntmps20
  obtain ⟨k0, k1, k2, k3, k4, k5, f0, f1, f2, f3, f4, f5⟩ := c6_of K.out
  obtain ⟨j0, j1, j2, j3, j4, j5, g0, g1, g2, g3, g4, g5⟩ := c6_of J.out
  go_wp2_with fail
  refine (lpints _ a a' n c c' f I1.out I2.out (by omega)).mono ?_
  rintro e w1 ⟨rfl, hg⟩
  clear k0 k1 k2 k3 k4 k5 f0 f1 f2 f3 f4 f5 j0 j1 j2 j3 j4 j5 g0 g1 g2 g3 g4 g5
  replace K := Lib.hid (K.out.keptN hg); replace J := Lib.hid (J.out.keptN hg); replace G := Lib.hid (gtr G.out hg)
  obtain ⟨k0, k1, k2, k3, k4, k5, f0, f1, f2, f3, f4, f5⟩ := c6_of K.out
  obtain ⟨j0, j1, j2, j3, j4, j5, g0, g1, g2, g3, g4, g5⟩ := c6_of J.out
  go_wp2
  go_ret
  exact ⟨by simp, G.out⟩
end Run
end Go.Proofs.Ytbfmigmhmjgdgaa
