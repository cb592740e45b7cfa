/-
  The walks of the exact laws on polynomials and places: the program answers as the model does, writes into no argument, and its answer owns its memory.
-/
import Derived.Test.YtlhemnpoamlfiaaPb
import Derived.Test.YtlhemnpoamlfiaaPc
import Derived.Test.YtlhemnpoamlfiaaRunKit
namespace Go.Proofs.Ytlhemnpoamlfiaa
namespace Run
open Go.RowKit Alg Mem Con
set_option linter.unusedVariables false

theorem FnExactPolyOk (a : Option Addr) (len cap : Nat) (z : Nat → Int) (w : World) (hI : Ints w a len z) :
    Calls Try.prog 12 #[.slice a len cap] w (Yes w) := by
  by_cases hbig : 1048576 < len
  · have hbig' : (1048576 : Int) < (len : Int) := by omega
    clear hI
    go_enter Try.func12, Try.ntmps12
    go_wp2
    go_ret
    exact ⟨rfl, Below.refl _ _⟩
  have hbig' : ¬ (1048576 : Int) < (len : Int) := by omega
  have HI := Lib.hid hI; clear hI
  go_enter Try.func12, Try.ntmps12
  go_wp2_with fail
  refine (toInt _ _ _ _ z HI.out (by omega)).mono ?_
  rintro e W1 ⟨b1, rfl, hr, hg⟩
  have H1 := Lib.hid hg; have Q1 := Lib.hid hr; have ge1 := hr.from_; have lt1 := hr.lt; have cl1 := hr.le; clear hr hg
  have lo1 : w.heap.size ≤ b1 := by omega
  have G2 := Lib.hid H1.out
  go_wp2_with fail
  refine (spok _ _ _ _ z Q1.out.ints (by omega)).mono ?_
  rintro e w3 ⟨rfl, rfl⟩
  go_wp2_with fail
  refine (toInt _ _ _ _ z (HI.out.kept G2.out) (by omega)).mono ?_
  rintro e W4 ⟨b4, rfl, hr, hg⟩
  have H4 := Lib.hid hg; have Q4 := Lib.hid hr; have ge4 := hr.from_; have lt4 := hr.lt; have cl4 := hr.le; clear hr hg
  have lo4 : w.heap.size ≤ b4 := by have := G2.out.size; omega
  have ne4_b1 : b1 < b4 := by have := Q1.out.lt; omega
  have R5 := Lib.hid (Q1.out.keptN H4.out)
  have G6 := Lib.hid (gtr G2.out H4.out)
  go_wp2_with fail
  refine (ipok _ _ _ _ z Q4.out.ints (by omega)).mono ?_
  rintro e w7 ⟨rfl, rfl⟩
  go_wp2_with fail
  refine (toInt _ _ _ _ z (HI.out.kept G6.out) (by omega)).mono ?_
  rintro e W8 ⟨b8, rfl, hr, hg⟩
  have H8 := Lib.hid hg; have Q8 := Lib.hid hr; have ge8 := hr.from_; have lt8 := hr.lt; have cl8 := hr.le; clear hr hg
  have lo8 : w.heap.size ≤ b8 := by have := G6.out.size; omega
  have ne8_b1 : b1 < b8 := by have := R5.out.lt; omega
  have ne8_b4 : b4 < b8 := by have := Q4.out.lt; omega
  have R9 := Lib.hid (R5.out.keptN H8.out)
  have R10 := Lib.hid (Q4.out.keptN H8.out)
  have G11 := Lib.hid (gtr G6.out H8.out)
  go_wp2_with fail
  refine (eqint _ _ _ _ _ _ z R10.out.ints Q8.out.ints (by omega)).mono ?_
  rintro e W12 ⟨rfl, hg⟩
  have H12 := Lib.hid hg; clear hg
  have R13 := Lib.hid (R9.out.keptN H12.out)
  have R14 := Lib.hid (R10.out.keptN H12.out)
  have R15 := Lib.hid (Q8.out.keptN H12.out)
  have G16 := Lib.hid (gtr G11.out H12.out)
  go_wp2
  go_ret
  exact ⟨rfl, Draw.below_of G16.out⟩

theorem FnExactPlacesOk (a : Option Addr) (len cap : Nat) (z : Nat → Int) (w : World) (hI : Ints w a len z) :
    Calls Try.prog 15 #[.slice a len cap] w (Yes w) := by
  by_cases hbig : 1048576 < len
  · have hbig' : (1048576 : Int) < (len : Int) := by omega
    clear hI
    go_enter Try.func15, Try.ntmps15
    go_wp2
    go_ret
    exact ⟨rfl, Below.refl _ _⟩
  have hbig' : ¬ (1048576 : Int) < (len : Int) := by omega
  have HI := Lib.hid hI; clear hI
  go_enter Try.func15, Try.ntmps15
  go_wp2_with fail
  refine (toInt _ _ _ _ z HI.out (by omega)).mono ?_
  rintro e W1 ⟨b1, rfl, hr, hg⟩
  have H1 := Lib.hid hg; have Q1 := Lib.hid hr; have ge1 := hr.from_; have lt1 := hr.lt; have cl1 := hr.le; clear hr hg
  have lo1 : w.heap.size ≤ b1 := by omega
  have G2 := Lib.hid H1.out
  go_wp2_with fail
  refine (splok _ _ _ _ z Q1.out.ints (by omega)).mono ?_
  rintro e W3 ⟨rfl, hg⟩
  have H3 := Lib.hid hg; clear hg
  have R4 := Lib.hid (Q1.out.keptN H3.out)
  have G5 := Lib.hid (gtr G2.out H3.out)
  go_wp2_with fail
  refine (toInt _ _ _ _ z (HI.out.kept G5.out) (by omega)).mono ?_
  rintro e W6 ⟨b6, rfl, hr, hg⟩
  have H6 := Lib.hid hg; have Q6 := Lib.hid hr; have ge6 := hr.from_; have lt6 := hr.lt; have cl6 := hr.le; clear hr hg
  have lo6 : w.heap.size ≤ b6 := by have := G5.out.size; omega
  have ne6_b1 : b1 < b6 := by have := R4.out.lt; omega
  have R7 := Lib.hid (R4.out.keptN H6.out)
  have G8 := Lib.hid (gtr G5.out H6.out)
  go_wp2_with fail
  refine (iplok _ _ _ _ z Q6.out.ints (by omega) (Nat.le_refl _) (by unfold maxLen; omega)).mono ?_
  rintro e w9 ⟨rfl, rfl⟩
  go_wp2_with fail
  refine (toInt _ _ _ _ z (HI.out.kept G8.out) (by omega)).mono ?_
  rintro e W10 ⟨b10, rfl, hr, hg⟩
  have H10 := Lib.hid hg; have Q10 := Lib.hid hr; have ge10 := hr.from_; have lt10 := hr.lt; have cl10 := hr.le; clear hr hg
  have lo10 : w.heap.size ≤ b10 := by have := G8.out.size; omega
  have ne10_b1 : b1 < b10 := by have := R7.out.lt; omega
  have ne10_b6 : b6 < b10 := by have := Q6.out.lt; omega
  have R11 := Lib.hid (R7.out.keptN H10.out)
  have R12 := Lib.hid (Q6.out.keptN H10.out)
  have G13 := Lib.hid (gtr G8.out H10.out)
  go_wp2_with fail
  refine (eqint _ _ _ _ _ _ z R12.out.ints Q10.out.ints (by omega)).mono ?_
  rintro e W14 ⟨rfl, hg⟩
  have H14 := Lib.hid hg; clear hg
  have R15 := Lib.hid (R11.out.keptN H14.out)
  have R16 := Lib.hid (R12.out.keptN H14.out)
  have R17 := Lib.hid (Q10.out.keptN H14.out)
  have G18 := Lib.hid (gtr G13.out H14.out)
  go_wp2
  go_ret
  exact ⟨rfl, Draw.below_of G18.out⟩

end Run
end Go.Proofs.Ytlhemnpoamlfiaa
