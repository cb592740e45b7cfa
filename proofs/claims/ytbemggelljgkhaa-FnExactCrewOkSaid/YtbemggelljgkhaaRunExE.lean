/-
  The walks of the exact laws on committees and a deal's polynomial: the program answers as the model does, writes into no argument, and its answer owns its memory.
-/
import Derived.Test.YtbemggelljgkhaaDb
import Derived.Test.YtbemggelljgkhaaRunKit
namespace Go.Proofs.Ytbemggelljgkhaa
namespace Run
open Go.RowKit Alg Mem Con
set_option linter.unusedVariables false

theorem FnExactCrewOk (n m : Int) (w : World) : Calls Try.prog 5 #[.int .i64 n, .int .i64 m] w (Yes w) := by
  have hself : (crewF n m == crewF n m) = true := by simp
  go_enter Try.func5, Try.ntmps5
  go_wp2_with fail
  refine (screw _ n m).mono ?_
  rintro e w' ⟨rfl, rfl⟩
  go_wp2_with fail
  refine (icrew _ n m).mono ?_
  rintro e w' ⟨rfl, rfl⟩
  go_wp2
  go_ret
  exact ⟨rfl, Below.refl _ _⟩

theorem FnExactDealPoly (n x d : Int) (w : World) : Calls Try.prog 6 #[.int .i64 n, .int .i64 x, .int .i64 d] w (Yes w) := by
  cases hp : dpok n x d with
  | false =>
    have HP := Lib.hid hp; clear hp
    go_enter Try.func6, Try.ntmps6
    go_wp2_with fail
    refine (sdpoly_no' _ n x d HP.out).mono ?_
    rintro e W1 ⟨rfl, hg⟩
    have H1 := Lib.hid hg; clear hg
    have G2 := Lib.hid H1.out
    go_wp2_with fail
    refine (idpoly_no _ n x d HP.out).mono ?_
    rintro e w3 ⟨rfl, rfl⟩
    go_wp2_with fail
    refine (eqint _ _ _ 0 _ _ (fun _ => 0) (Ints.zero _ _ _) (Ints.zero _ _ _) (by omega)).mono ?_
    rintro e W4 ⟨rfl, hg⟩
    have H4 := Lib.hid hg; clear hg
    have G5 := Lib.hid (gtr G2.out H4.out)
    go_wp2_with fail
    refine (mark_zero _ _ _ _).mono ?_
    rintro e w6 ⟨rfl, rfl⟩
    go_wp2_with fail
    refine (held _ _ 0 _ 1 (Ints.zero _ _ _) (by omega) (by omega)).mono ?_
    rintro e w7 ⟨rfl, rfl⟩
    go_wp2_with fail
    refine (idpoly_no _ n x d HP.out).mono ?_
    rintro e w8 ⟨rfl, rfl⟩
    go_wp2_with fail
    refine (eqint _ _ _ 0 _ _ (fun _ => 0) (Ints.zero _ _ _) (Ints.zero _ _ _) (by omega)).mono ?_
    rintro e W9 ⟨rfl, hg⟩
    have H9 := Lib.hid hg; clear hg
    have G10 := Lib.hid (gtr G5.out H9.out)
    go_wp2_with fail
    refine (held _ _ 0 _ 1 (Ints.zero _ _ _) (by omega) (by omega)).mono ?_
    rintro e w11 ⟨rfl, rfl⟩
    go_wp2
    go_ret
    exact ⟨rfl, Draw.below_of G10.out⟩
  | true =>
    obtain ⟨⟨n1, n5⟩, hs, hd0, hd1⟩ := dpok_iff.1 hp
    obtain ⟨n, rfl⟩ : ∃ m : Nat, n = m := ⟨n.toNat, by omega⟩
    have HS := Lib.hid hs
    clear hp hs
    go_enter Try.func6, Try.ntmps6
    go_wp2_with fail
    refine (sdpoly_yes _ n x d (by omega) (by omega) HS.out (by omega) (by omega)).mono ?_
    rintro e W1 ⟨b1, c1, rfl, hr, hg⟩
    have H1 := Lib.hid hg; have Q1 := Lib.hid hr; have ge1 := hr.from_; have lt1 := hr.lt; have cl1 := hr.le; clear hr hg
    have lo1 : w.heap.size ≤ b1 := by omega
    have G2 := Lib.hid H1.out
    go_wp2_with fail
    refine (idpoly_yes _ n x d (by omega) (by omega) HS.out (by omega) (by omega)).mono ?_
    rintro e W3 ⟨b3, rfl, hr, hg⟩
    have H3 := Lib.hid hg; have Q3 := Lib.hid hr; have ge3 := hr.from_; have lt3 := hr.lt; have cl3 := hr.le; clear hr hg
    have lo3 : w.heap.size ≤ b3 := by have := G2.out.size; omega
    have ne3_b1 : b1 < b3 := by have := Q1.out.lt; omega
    have R4 := Lib.hid (Q1.out.keptN H3.out)
    have G5 := Lib.hid (gtr G2.out H3.out)
    go_wp2_with fail
    refine (eqint _ _ _ n _ _ (dz x d) Q3.out.ints R4.out.ints (by omega)).mono ?_
    rintro e W6 ⟨rfl, hg⟩
    have H6 := Lib.hid hg; clear hg
    have R7 := Lib.hid (R4.out.keptN H6.out)
    have R8 := Lib.hid (Q3.out.keptN H6.out)
    have G9 := Lib.hid (gtr G5.out H6.out)
    go_wp2_with fail
    refine (mark_row _ _ _ n _ (dz x d) (1) R8.out (by omega) (by omega)).mono ?_
    rintro e W10 ⟨rfl, hg, hr⟩
    have H10 := Lib.hid hg; have Q10 := Lib.hid hr; clear hr hg
    have R11 := Lib.hid (R7.out.kept H10.out (by intro e; injection e with e; omega))
    have G12 := Lib.hid (grown_new G9.out (by omega) H10.out)
    go_wp2_with fail
    refine (held _ _ n _ 1 Q10.out.ints (by omega) (by omega)).mono ?_
    rintro e w13 ⟨rfl, rfl⟩
    go_wp2_with fail
    refine (idpoly_yes _ n x d (by omega) (by omega) HS.out (by omega) (by omega)).mono ?_
    rintro e W14 ⟨b14, rfl, hr, hg⟩
    have H14 := Lib.hid hg; have Q14 := Lib.hid hr; have ge14 := hr.from_; have lt14 := hr.lt; have cl14 := hr.le; clear hr hg
    have lo14 : w.heap.size ≤ b14 := by have := G12.out.size; omega
    have ne14_b1 : b1 < b14 := by have := R11.out.lt; omega
    have ne14_b3 : b3 < b14 := by have := Q10.out.lt; omega
    have R15 := Lib.hid (R11.out.keptN H14.out)
    have R16 := Lib.hid (Q10.out.keptN H14.out)
    have G17 := Lib.hid (gtr G12.out H14.out)
    go_wp2_with fail
    refine (eqint _ _ _ n _ _ (dz x d) Q14.out.ints R15.out.ints (by omega)).mono ?_
    rintro e W18 ⟨rfl, hg⟩
    have H18 := Lib.hid hg; clear hg
    have R19 := Lib.hid (R15.out.keptN H18.out)
    have R20 := Lib.hid (R16.out.keptN H18.out)
    have R21 := Lib.hid (Q14.out.keptN H18.out)
    have G22 := Lib.hid (gtr G17.out H18.out)
    go_wp2_with fail
    refine (held _ _ n _ 1 R20.out.ints (by omega) (by omega)).mono ?_
    rintro e w23 ⟨rfl, rfl⟩
    go_wp2
    go_ret
    exact ⟨rfl, Draw.below_of G22.out⟩
end Run
end Go.Proofs.Ytbemggelljgkhaa
