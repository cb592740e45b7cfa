/-
  How the model draws what is shown, a place and a number.
-/
import Derived.Test.YtpdmolphmimomaaDrawCom
import Derived.Test.YtpdmolphmimomaaCe
namespace Go.Proofs.Ytpdmolphmimomaa
namespace Draw
open Go.RowKit Mem Con
set_option linter.unusedVariables false

/-- What drawing a slice and two numbers from a code leaves. -/
def GotSNN (w : World) (m : Nat) (e : Ending) (w' : World) : Prop :=
  ∃ (b n c : Nat) (z : Nat → Int) (x y : Int), e = .returned (.tuple #[.slice (some ⟨b, 0, none⟩) n c, .int .i64 x, .int .i64 y]) ∧ n ≤ m ∧ n ≤ c ∧ c ≤ maxLen ∧ Ints w' (some ⟨b, 0, none⟩) n z ∧ w.grownBy w' none
/-- What the model shows, of whatever it is handed. -/
theorem cof_any (w : World) (a : Option Addr) (len cap : Nat) (z : Nat → Int) (hI : Ints w a len z) (hl : len ≤ 5) :
    Calls Try.prog 22 #[.slice a len cap] w (GotS w 5) := by
  cases hp : pokz len z with
  | false =>
    refine (scof_no w a len cap z hI (by omega) hp).mono ?_
    rintro e w' ⟨rfl, rfl⟩
    exact ⟨_, _, _, fun _ => 0, rfl, by omega, by omega, by unfold maxLen; omega, .inl rfl, grown_alloc _ _ _⟩
  | true =>
    refine (scof_yes w a len cap z hI hp).mono ?_
    rintro e w' ⟨b, c, rfl, hr, hg⟩
    exact ⟨_, _, _, _, rfl, hl, hr.le, hr.most, hr.ints, hg⟩
set_option maxRecDepth 100000 in
theorem drawCFit (w : World) (a : Option Addr) (len cap : Nat) (hB : Bytes w w.heap.size a len) (hc : len ≤ cap) (hm : cap ≤ maxLen) :
    Calls Try.prog 36 #[.slice a len cap] w (GotSNN w 5) := by
  go_enter Try.func36, Try.ntmps36
  go_wp2_with fail
  refine (open_any _ w.heap.size a len cap hB (by omega) hc hm).mono ?_
  rintro e w1 ⟨rfl, hg1, hs1, l1, c1, hr1⟩
  have hlt := hr1.lt
  clear hs1
  go_wp2_with fail
  refine (poly_any _ _ _ a l1 c1 0 hr1 (by omega)).mono ?_
  rintro e w2 ⟨b, n, c, z, rfl, hn, hrow, hg2, p2, _, hp2, hr2⟩
  have HR := Lib.hid hrow; have HG := Lib.hid hg2; have hge := hrow.from_; have HD := Lib.hid hr2; clear hrow hg2 hr2
  go_wp2_with fail
  refine (pick_any _ _ _ a l1 c1 p2 23 HD.out (by omega) (by omega)).mono ?_
  rintro e w3 ⟨x, x0, x1, rfl, hr3, hg3, hs3⟩
  have H3 := Lib.hid (Held.pick (lo := 0) (hi := 20) HR.out HG.out hlt hg3 (Nat.zero_le _) (by omega) hr3)
  have HD3 := Lib.hid hr3; clear hr3 hg3
  go_wp2_with fail
  refine (spat _ _ _ _ z x H3.out.1.ints (by omega)).mono ?_
  rintro e w' ⟨rfl, rfl⟩
  generalize patz n z x = v
  go_wp2_with fail
  refine (pick_any _ _ _ a l1 c1 (p2 + 1) 4 HD3.out (by omega) (by omega)).mono ?_
  rintro e w4 ⟨y, y0, y1, rfl, hr4, hg4, hs4⟩
  have H4 := Lib.hid (Held.pick (lo := 0) (hi := 30) H3.out.1 H3.out.2.1 hlt hg4 (Nat.zero_le _) (by omega) hr4)
  have HD4 := Lib.hid hr4; clear hr4 hg4
  rcases (by omega : y = 0 ∨ 1 ≤ y) with rfl | hy
  · go_wp2_with fail
    refine (num_any _ _ _ a l1 c1 (p2 + 1 + 1) HD4.out (by omega)).mono ?_
    rintro e w5 ⟨u, u0, u1, rfl, hg5, p5, _, _, hr5⟩
    have HR5 := Lib.hid (H4.out.1.kept hg5 (by intro e; injection e with e; omega)); have HG5 := Lib.hid (grown_trans H4.out.2.1 hg5); clear hg5 hr5
    go_wp2_with fail
    refine (cof_any _ _ _ _ z HR5.out.ints hn).mono ?_
    rintro e w6 ⟨b6, n6, c6, z6, rfl, q1, q2, q3, hI6, hg6⟩
    have HI6 := Lib.hid hI6; have HG6 := Lib.hid hg6; clear hI6 hg6
    go_wp2_with fail
    go_ret3
    exact ⟨_, _, _, _, _, _, rfl, q1, q2, q3, HI6.out, Mem.gtr (grown_old hg1 HG5.out) HG6.out⟩
  · have e0 : (y == 0) = false := by simp; omega
    go_wp2_with fail
    refine (cof_any _ _ _ _ z H4.out.1.ints hn).mono ?_
    rintro e w6 ⟨b6, n6, c6, z6, rfl, q1, q2, q3, hI6, hg6⟩
    have HI6 := Lib.hid hI6; have HG6 := Lib.hid hg6; clear hI6 hg6
    go_wp2_with fail
    go_ret3
    exact ⟨_, _, _, _, _, _, rfl, q1, q2, q3, HI6.out, Mem.gtr (grown_old hg1 H4.out.2.1) HG6.out⟩
end Draw
end Go.Proofs.Ytpdmolphmimomaa
