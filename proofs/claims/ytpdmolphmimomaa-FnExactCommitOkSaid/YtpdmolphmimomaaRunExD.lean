/-
  The walks of the exact laws on what is shown: the program answers as the model does, writes into no argument, and its answer owns its memory.
-/
import Derived.Test.YtpdmolphmimomaaCd
import Derived.Test.YtpdmolphmimomaaRunKit
namespace Go.Proofs.Ytpdmolphmimomaa
namespace Run
open Go.RowKit Alg Mem Con
set_option linter.unusedVariables false

theorem FnExactCommitOk (a : Option Addr) (len cap : Nat) (z : Nat → Int) (w : World) (hI : Ints w a len z) :
    Calls Try.prog 14 #[.slice a len cap] w (Yes w) := by
  by_cases hbig : 1048576 < len
  · have hbig' : (1048576 : Int) < (len : Int) := by omega
    clear hI
    go_enter Try.func14, Try.ntmps14
    go_wp2
    go_ret
    exact ⟨rfl, Below.refl _ _⟩
  have hbig' : ¬ (1048576 : Int) < (len : Int) := by omega
  have HI := Lib.hid hI; clear hI
  go_enter Try.func14, Try.ntmps14
  go_wp2_with fail
  refine (toInt _ _ _ _ z HI.out (by omega)).mono ?_
  rintro e W1 ⟨b1, rfl, hr, hg⟩
  have H1 := Lib.hid hg; have Q1 := Lib.hid hr; have ge1 := hr.from_; have lt1 := hr.lt; have cl1 := hr.le; clear hr hg
  have lo1 : w.heap.size ≤ b1 := by omega
  have G2 := Lib.hid H1.out
  go_wp2_with fail
  refine (scok _ _ _ _ z Q1.out.ints (by omega)).mono ?_
  rintro e w3 ⟨rfl, rfl⟩
  go_wp2_with fail
  refine (toInt _ _ _ _ z (HI.out.kept G2.out) (by omega)).mono ?_
  rintro e W4 ⟨b4, rfl, hr, hg⟩
  have H4 := Lib.hid hg; have Q4 := Lib.hid hr; have ge4 := hr.from_; have lt4 := hr.lt; have cl4 := hr.le; clear hr hg
  have lo4 : w.heap.size ≤ b4 := by have := G2.out.size; omega
  have ne4_b1 : b1 < b4 := by have := Q1.out.lt; omega
  have R5 := Lib.hid (Q1.out.keptN H4.out)
  have G6 := Lib.hid (gtr G2.out H4.out)
  go_wp2_with fail
  refine (icok _ _ _ _ z Q4.out.ints (by omega)).mono ?_
  rintro e W7 ⟨rfl, hg⟩
  have H7 := Lib.hid hg; clear hg
  have R8 := Lib.hid (R5.out.keptN H7.out)
  have R9 := Lib.hid (Q4.out.keptN H7.out)
  have G10 := Lib.hid (gtr G6.out H7.out)
  go_wp2_with fail
  refine (toInt _ _ _ _ z (HI.out.kept G10.out) (by omega)).mono ?_
  rintro e W11 ⟨b11, rfl, hr, hg⟩
  have H11 := Lib.hid hg; have Q11 := Lib.hid hr; have ge11 := hr.from_; have lt11 := hr.lt; have cl11 := hr.le; clear hr hg
  have lo11 : w.heap.size ≤ b11 := by have := G10.out.size; omega
  have ne11_b1 : b1 < b11 := by have := R8.out.lt; omega
  have ne11_b4 : b4 < b11 := by have := R9.out.lt; omega
  have R12 := Lib.hid (R8.out.keptN H11.out)
  have R13 := Lib.hid (R9.out.keptN H11.out)
  have G14 := Lib.hid (gtr G10.out H11.out)
  go_wp2_with fail
  refine (eqint _ _ _ _ _ _ z R13.out.ints Q11.out.ints (by omega)).mono ?_
  rintro e W15 ⟨rfl, hg⟩
  have H15 := Lib.hid hg; clear hg
  have R16 := Lib.hid (R12.out.keptN H15.out)
  have R17 := Lib.hid (R13.out.keptN H15.out)
  have R18 := Lib.hid (Q11.out.keptN H15.out)
  have G19 := Lib.hid (gtr G14.out H15.out)
  go_wp2
  go_ret
  exact ⟨rfl, Draw.below_of G19.out⟩

theorem FnExactCommitAt (a : Option Addr) (len cap : Nat) (z : Nat → Int) (x : Int) (w : World) (hI : Ints w a len z) :
    Calls Try.prog 15 #[.slice a len cap, .int .i64 x] w (Yes w) := by
  by_cases hbig : 1048576 < len
  · have hbig' : (1048576 : Int) < (len : Int) := by omega
    clear hI
    go_enter Try.func15, Try.ntmps15
    go_wp2
    go_ret
    exact ⟨rfl, Below.refl _ _⟩
  have hbig' : ¬ (1048576 : Int) < (len : Int) := by omega
  have HI := Lib.hid hI; clear hI
  go_enter Try.func15, Try.ntmps15
  go_wp2_with fail
  refine (toInt _ _ _ _ z HI.out (by omega)).mono ?_
  rintro e W1 ⟨b1, rfl, hr, hg⟩
  have H1 := Lib.hid hg; have Q1 := Lib.hid hr; have ge1 := hr.from_; have lt1 := hr.lt; have cl1 := hr.le; clear hr hg
  have lo1 : w.heap.size ≤ b1 := by omega
  have G2 := Lib.hid H1.out
  go_wp2_with fail
  refine (scat _ _ _ _ z x Q1.out.ints (by omega)).mono ?_
  rintro e W3 ⟨rfl, hg⟩
  have H3 := Lib.hid hg; clear hg
  have R4 := Lib.hid (Q1.out.keptN H3.out)
  have G5 := Lib.hid (gtr G2.out H3.out)
  go_wp2_with fail
  refine (toInt _ _ _ _ z (HI.out.kept G5.out) (by omega)).mono ?_
  rintro e W6 ⟨b6, rfl, hr, hg⟩
  have H6 := Lib.hid hg; have Q6 := Lib.hid hr; have ge6 := hr.from_; have lt6 := hr.lt; have cl6 := hr.le; clear hr hg
  have lo6 : w.heap.size ≤ b6 := by have := G5.out.size; omega
  have ne6_b1 : b1 < b6 := by have := R4.out.lt; omega
  have R7 := Lib.hid (R4.out.keptN H6.out)
  have G8 := Lib.hid (gtr G5.out H6.out)
  go_wp2_with fail
  refine (icat _ _ _ _ z x Q6.out.ints (by omega)).mono ?_
  rintro e W9 ⟨rfl, hg⟩
  have H9 := Lib.hid hg; clear hg
  have R10 := Lib.hid (R7.out.keptN H9.out)
  have R11 := Lib.hid (Q6.out.keptN H9.out)
  have G12 := Lib.hid (gtr G8.out H9.out)
  go_wp2_with fail
  refine (toInt _ _ _ _ z (HI.out.kept G12.out) (by omega)).mono ?_
  rintro e W13 ⟨b13, rfl, hr, hg⟩
  have H13 := Lib.hid hg; have Q13 := Lib.hid hr; have ge13 := hr.from_; have lt13 := hr.lt; have cl13 := hr.le; clear hr hg
  have lo13 : w.heap.size ≤ b13 := by have := G12.out.size; omega
  have ne13_b1 : b1 < b13 := by have := R10.out.lt; omega
  have ne13_b6 : b6 < b13 := by have := R11.out.lt; omega
  have R14 := Lib.hid (R10.out.keptN H13.out)
  have R15 := Lib.hid (R11.out.keptN H13.out)
  have G16 := Lib.hid (gtr G12.out H13.out)
  go_wp2_with fail
  refine (eqint _ _ _ _ _ _ z R15.out.ints Q13.out.ints (by omega)).mono ?_
  rintro e W17 ⟨rfl, hg⟩
  have H17 := Lib.hid hg; clear hg
  have R18 := Lib.hid (R14.out.keptN H17.out)
  have R19 := Lib.hid (R15.out.keptN H17.out)
  have R20 := Lib.hid (Q13.out.keptN H17.out)
  have G21 := Lib.hid (gtr G16.out H17.out)
  go_wp2
  go_ret
  exact ⟨rfl, Draw.below_of G21.out⟩

theorem FnExactCommitFits (a : Option Addr) (len cap : Nat) (z : Nat → Int) (x : Int) (n : Int) (w : World) (hI : Ints w a len z) :
    Calls Try.prog 16 #[.slice a len cap, .int .i64 x, .int .i64 n] w (Yes w) := by
  by_cases hbig : 1048576 < len
  · have hbig' : (1048576 : Int) < (len : Int) := by omega
    clear hI
    go_enter Try.func16, Try.ntmps16
    go_wp2
    go_ret
    exact ⟨rfl, Below.refl _ _⟩
  have hbig' : ¬ (1048576 : Int) < (len : Int) := by omega
  have HI := Lib.hid hI; clear hI
  go_enter Try.func16, Try.ntmps16
  go_wp2_with fail
  refine (toInt _ _ _ _ z HI.out (by omega)).mono ?_
  rintro e W1 ⟨b1, rfl, hr, hg⟩
  have H1 := Lib.hid hg; have Q1 := Lib.hid hr; have ge1 := hr.from_; have lt1 := hr.lt; have cl1 := hr.le; clear hr hg
  have lo1 : w.heap.size ≤ b1 := by omega
  have G2 := Lib.hid H1.out
  go_wp2_with fail
  refine (scfit _ _ _ _ z x n Q1.out.ints (by omega)).mono ?_
  rintro e W3 ⟨rfl, hg⟩
  have H3 := Lib.hid hg; clear hg
  have R4 := Lib.hid (Q1.out.keptN H3.out)
  have G5 := Lib.hid (gtr G2.out H3.out)
  go_wp2_with fail
  refine (toInt _ _ _ _ z (HI.out.kept G5.out) (by omega)).mono ?_
  rintro e W6 ⟨b6, rfl, hr, hg⟩
  have H6 := Lib.hid hg; have Q6 := Lib.hid hr; have ge6 := hr.from_; have lt6 := hr.lt; have cl6 := hr.le; clear hr hg
  have lo6 : w.heap.size ≤ b6 := by have := G5.out.size; omega
  have ne6_b1 : b1 < b6 := by have := R4.out.lt; omega
  have R7 := Lib.hid (R4.out.keptN H6.out)
  have G8 := Lib.hid (gtr G5.out H6.out)
  go_wp2_with fail
  refine (icfit _ _ _ _ z x n Q6.out.ints (by omega)).mono ?_
  rintro e W9 ⟨rfl, hg⟩
  have H9 := Lib.hid hg; clear hg
  have R10 := Lib.hid (R7.out.keptN H9.out)
  have R11 := Lib.hid (Q6.out.keptN H9.out)
  have G12 := Lib.hid (gtr G8.out H9.out)
  go_wp2_with fail
  refine (toInt _ _ _ _ z (HI.out.kept G12.out) (by omega)).mono ?_
  rintro e W13 ⟨b13, rfl, hr, hg⟩
  have H13 := Lib.hid hg; have Q13 := Lib.hid hr; have ge13 := hr.from_; have lt13 := hr.lt; have cl13 := hr.le; clear hr hg
  have lo13 : w.heap.size ≤ b13 := by have := G12.out.size; omega
  have ne13_b1 : b1 < b13 := by have := R10.out.lt; omega
  have ne13_b6 : b6 < b13 := by have := R11.out.lt; omega
  have R14 := Lib.hid (R10.out.keptN H13.out)
  have R15 := Lib.hid (R11.out.keptN H13.out)
  have G16 := Lib.hid (gtr G12.out H13.out)
  go_wp2_with fail
  refine (eqint _ _ _ _ _ _ z R15.out.ints Q13.out.ints (by omega)).mono ?_
  rintro e W17 ⟨rfl, hg⟩
  have H17 := Lib.hid hg; clear hg
  have R18 := Lib.hid (R14.out.keptN H17.out)
  have R19 := Lib.hid (R15.out.keptN H17.out)
  have R20 := Lib.hid (Q13.out.keptN H17.out)
  have G21 := Lib.hid (gtr G16.out H17.out)
  go_wp2
  go_ret
  exact ⟨rfl, Draw.below_of G21.out⟩

end Run
end Go.Proofs.Ytpdmolphmimomaa
