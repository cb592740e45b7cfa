/-
  The walks of the exact laws on secrets: which shares are valid, what they tell, in how many ways.
-/
import Derived.Test.YtchgjdbmianajaaSi
import Derived.Test.YtchgjdbmianajaaMem
namespace Go.Proofs.Ytchgjdbmianajaa
namespace Run
open Go.RowKit Alg Mem Con Hd
set_option linter.unusedVariables false

theorem soV_val (o : Option Int) : ∃ s b, soV o = .tuple #[.int .i64 s, .bool b] := by
  cases o with
  | none => exact ⟨0, false, rfl⟩
  | some s => exact ⟨s, true, rfl⟩
set_option maxRecDepth 100000 in
set_option maxHeartbeats 2000000 in
theorem FnExactSecretOf (need : Int) (a : Option Addr) (len cap : Nat) (H : Nat → HV) (w : World) (hI : HldIn w a len H) (hm : len ≤ maxLen) :
    Calls Try.prog 7 #[.int .i64 need, .slice a len cap] w (Yes w) := by
  have HI := Lib.hid hI; clear hI
  by_cases hbig : (1048576 : Int) < (len : Int)
  · go_enter Try.func7, Try.ntmps7
    go_wp2_with fail
    refine (szhld_no _ a len cap 1048576 (by omega) (by omega) hm hbig).mono ?_
    rintro e w1 ⟨rfl, rfl⟩
    go_wp2
    go_ret
    exact ⟨rfl, Below.refl _ _⟩
  have hl : len ≤ 2000000 := by omega
  have hpos : ¬ (1048576 : Int) - (len : Int) < 0 := by omega
  go_enter Try.func7, Try.ntmps7
  go_wp2_with fail
  refine (szhld_yes _ a len cap 1048576 (by omega) (by omega)).mono ?_
  rintro e w1 ⟨rfl, rfl⟩
  go_wp2_with fail
  refine (tohlds _ a len cap H HI.out hl).mono ?_
  rintro e w2 ⟨b2, rfl, hr, hg⟩
  have P := Lib.hid hr.hld; have G2 := Lib.hid hg; clear hr hg
  go_wp2_with fail
  refine (s13of _ need _ len _ H P.out hl (Nat.le_refl _)).mono ?_
  rintro e w3 ⟨rfl, hg⟩
  have G3 := Lib.hid (gtr G2.out hg); clear hg P
  obtain ⟨v, bo, hvb⟩ := soV_val (soF need H len)
  rw [hvb]
  have HVb := Lib.hid hvb; clear hvb
  go_wp2_with fail
  refine (tohlds _ a len cap H (HI.out.kept G3.out) hl).mono ?_
  rintro e w4 ⟨b4, rfl, hr, hg⟩
  have X := Lib.hid hr.hld; have G4 := Lib.hid (gtr G3.out hg); clear hr hg
  go_wp2_with fail
  refine (iso _ need _ len _ H X.out hl (Nat.le_refl _) (by unfold maxLen; omega)).mono ?_
  rintro e w5 ⟨rfl, hg⟩
  have G5 := Lib.hid (gtr G4.out hg); have X5 := Lib.hid (X.out.kept hg); clear hg X
  rw [HVb.out]
  have hn1 : (v != v) = false := by simp
  have hn2 : (bo != bo) = false := by simp
  go_wp2_with fail
  refine (tohlds _ a len cap H (HI.out.kept G5.out) hl).mono ?_
  rintro e w6 ⟨b6, rfl, hr, hg⟩
  have Y := Lib.hid hr.hld; have G6 := Lib.hid (gtr G5.out hg); have X6 := Lib.hid (X5.out.kept hg); clear hr hg X5
  go_wp2_with fail
  refine (eqhlds _ _ _ len _ _ H X6.out Y.out hl).mono ?_
  rintro e w7 ⟨rfl, hg⟩
  have G7 := Lib.hid (gtr G6.out hg); clear hg
  go_wp2
  go_ret
  exact ⟨rfl, Draw.below_of G7.out⟩
end Run
end Go.Proofs.Ytchgjdbmianajaa
