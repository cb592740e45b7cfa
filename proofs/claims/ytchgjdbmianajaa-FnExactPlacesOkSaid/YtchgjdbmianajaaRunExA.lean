/-
  The walks of the exact laws on polynomials and places: the program answers as the model does, writes into no argument, and its answer owns its memory.
-/
import Derived.Test.YtchgjdbmianajaaPe
import Derived.Test.YtchgjdbmianajaaMem
namespace Go.Proofs.Ytchgjdbmianajaa
namespace Run
open Go.RowKit Alg Mem Con
set_option linter.unusedVariables false

theorem FnExactPlacesOk (a : Option Addr) (len cap : Nat) (z : Nat → Int) (w : World) (hI : Ints w a len z) :
    Calls Try.prog 8 #[.slice a len cap] w (Yes w) := by
  by_cases hbig : 1048576 < len
  · have hbig' : (1048576 : Int) < (len : Int) := by omega
    clear hI
    go_enter Try.func8, Try.ntmps8
    go_wp2
    go_ret
    exact ⟨rfl, Below.refl _ _⟩
  have hbig' : ¬ (1048576 : Int) < (len : Int) := by omega
  have HI := Lib.hid hI; clear hI
  go_enter Try.func8, Try.ntmps8
  go_wp2_with fail
  refine (toInt _ _ _ _ z HI.out (by omega)).mono ?_
  rintro e W1 ⟨b1, rfl, hr, hg⟩
  have H1 := Lib.hid hg; have Q1 := Lib.hid hr; have ge1 := hr.from_; have lt1 := hr.lt; have cl1 := hr.le; clear hr hg
  have lo1 : w.heap.size ≤ b1 := by omega
  have G2 := Lib.hid H1.out
  go_wp2_with fail
  refine (splok _ _ _ _ z Q1.out.ints (by omega)).mono ?_
  rintro e W3 ⟨rfl, hg⟩
  have H3 := Lib.hid hg; clear hg
  have R4 := Lib.hid (Q1.out.keptN H3.out)
  have G5 := Lib.hid (gtr G2.out H3.out)
  go_wp2_with fail
  refine (toInt _ _ _ _ z (HI.out.kept G5.out) (by omega)).mono ?_
  rintro e W6 ⟨b6, rfl, hr, hg⟩
  have H6 := Lib.hid hg; have Q6 := Lib.hid hr; have ge6 := hr.from_; have lt6 := hr.lt; have cl6 := hr.le; clear hr hg
  have lo6 : w.heap.size ≤ b6 := by have := G5.out.size; omega
  have ne6_b1 : b1 < b6 := by have := R4.out.lt; omega
  have R7 := Lib.hid (R4.out.keptN H6.out)
  have G8 := Lib.hid (gtr G5.out H6.out)
  go_wp2_with fail
  refine (iplok _ _ _ _ z Q6.out.ints (by omega) (Nat.le_refl _) (by unfold maxLen; omega)).mono ?_
  rintro e w9 ⟨rfl, rfl⟩
  go_wp2_with fail
  refine (toInt _ _ _ _ z (HI.out.kept G8.out) (by omega)).mono ?_
  rintro e W10 ⟨b10, rfl, hr, hg⟩
  have H10 := Lib.hid hg; have Q10 := Lib.hid hr; have ge10 := hr.from_; have lt10 := hr.lt; have cl10 := hr.le; clear hr hg
  have lo10 : w.heap.size ≤ b10 := by have := G8.out.size; omega
  have ne10_b1 : b1 < b10 := by have := R7.out.lt; omega
  have ne10_b6 : b6 < b10 := by have := Q6.out.lt; omega
  have R11 := Lib.hid (R7.out.keptN H10.out)
  have R12 := Lib.hid (Q6.out.keptN H10.out)
  have G13 := Lib.hid (gtr G8.out H10.out)
  go_wp2_with fail
  refine (eqint _ _ _ _ _ _ z R12.out.ints Q10.out.ints (by omega)).mono ?_
  rintro e W14 ⟨rfl, hg⟩
  have H14 := Lib.hid hg; clear hg
  have R15 := Lib.hid (R11.out.keptN H14.out)
  have R16 := Lib.hid (R12.out.keptN H14.out)
  have R17 := Lib.hid (Q10.out.keptN H14.out)
  have G18 := Lib.hid (gtr G13.out H14.out)
  go_wp2
  go_ret
  exact ⟨rfl, Draw.below_of G18.out⟩

end Run
end Go.Proofs.Ytchgjdbmianajaa
