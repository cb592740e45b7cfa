/-
  The walks of the exact laws on polynomials and places: the program answers as the model does, writes into no argument, and its answer owns its memory.
-/
import Derived.Test.YtchgjdbmianajaaPk
import Derived.Test.YtchgjdbmianajaaMem
namespace Go.Proofs.Ytchgjdbmianajaa
namespace Run
open Go.RowKit Alg Mem Con
set_option linter.unusedVariables false

set_option maxHeartbeats 4000000 in
theorem FnExactPolyLine (a : Option Addr) (len cap : Nat) (z : Nat → Int) (x : Int) (w : World) (hI : Ints w a len z) :
    Calls Try.prog 9 #[.slice a len cap, .int .i64 x] w (Yes w) := by
  by_cases hbig : 1048576 < len
  · have hbig' : (1048576 : Int) < (len : Int) := by omega
    clear hI
    go_enter Try.func9, Try.ntmps9
    go_wp2
    go_ret
    exact ⟨rfl, Below.refl _ _⟩
  have hbig' : ¬ (1048576 : Int) < (len : Int) := by omega
  have HI := Lib.hid hI; clear hI
  by_cases hyes : plok len z = true ∧ fok x = true
  · have HP := Lib.hid hyes.1; have HX := Lib.hid hyes.2; clear hyes
    have hl5 := (plok_iff.1 HP.out).1
    go_enter Try.func9, Try.ntmps9
    go_wp2_with fail
    refine (toInt _ _ _ _ z HI.out (by omega)).mono ?_
    rintro e W1 ⟨b1, rfl, hr, hg⟩
    have H1 := Lib.hid hg; have Q1 := Lib.hid hr; have ge1 := hr.from_; have lt1 := hr.lt; have cl1 := hr.le; clear hr hg
    have lo1 : w.heap.size ≤ b1 := by omega
    have G2 := Lib.hid H1.out
    go_wp2_with fail
    refine (spline_yes _ _ _ _ z x Q1.out.ints HP.out HX.out).mono ?_
    rintro e W3 ⟨b3, c3, rfl, hr, hg⟩
    have H3 := Lib.hid hg; have Q3 := Lib.hid hr; have ge3 := hr.from_; have lt3 := hr.lt; have cl3 := hr.le; clear hr hg
    have lo3 : w.heap.size ≤ b3 := by have := G2.out.size; omega
    have ne3_b1 : b1 < b3 := by have := Q1.out.lt; omega
    have R4 := Lib.hid (Q1.out.keptN H3.out)
    have G5 := Lib.hid (gtr G2.out H3.out)
    go_wp2_with fail
    refine (toInt _ _ _ _ z (HI.out.kept G5.out) (by omega)).mono ?_
    rintro e W6 ⟨b6, rfl, hr, hg⟩
    have H6 := Lib.hid hg; have Q6 := Lib.hid hr; have ge6 := hr.from_; have lt6 := hr.lt; have cl6 := hr.le; clear hr hg
    have lo6 : w.heap.size ≤ b6 := by have := G5.out.size; omega
    have ne6_b1 : b1 < b6 := by have := R4.out.lt; omega
    have ne6_b3 : b3 < b6 := by have := Q3.out.lt; omega
    have R7 := Lib.hid (R4.out.keptN H6.out)
    have R8 := Lib.hid (Q3.out.keptN H6.out)
    have G9 := Lib.hid (gtr G5.out H6.out)
    go_wp2_with fail
    refine (ipline_yes _ _ _ _ z x Q6.out.ints (Nat.le_refl _) (by unfold maxLen; omega) HP.out HX.out).mono ?_
    rintro e W10 ⟨b10, rfl, hr, hg⟩
    have H10 := Lib.hid hg; have Q10 := Lib.hid hr; have ge10 := hr.from_; have lt10 := hr.lt; have cl10 := hr.le; clear hr hg
    have lo10 : w.heap.size ≤ b10 := by have := G9.out.size; omega
    have ne10_b1 : b1 < b10 := by have := R7.out.lt; omega
    have ne10_b3 : b3 < b10 := by have := R8.out.lt; omega
    have ne10_b6 : b6 < b10 := by have := Q6.out.lt; omega
    have R11 := Lib.hid (R7.out.keptN H10.out)
    have R12 := Lib.hid (R8.out.keptN H10.out)
    have R13 := Lib.hid (Q6.out.keptN H10.out)
    have G14 := Lib.hid (gtr G9.out H10.out)
    go_wp2_with fail
    refine (eqint _ _ _ len _ _ (zline len z x) Q10.out.ints R12.out.ints (by omega)).mono ?_
    rintro e W15 ⟨rfl, hg⟩
    have H15 := Lib.hid hg; clear hg
    have R16 := Lib.hid (R11.out.keptN H15.out)
    have R17 := Lib.hid (R12.out.keptN H15.out)
    have R18 := Lib.hid (R13.out.keptN H15.out)
    have R19 := Lib.hid (Q10.out.keptN H15.out)
    have G20 := Lib.hid (gtr G14.out H15.out)
    go_wp2_with fail
    refine (toInt _ _ _ _ z (HI.out.kept G20.out) (by omega)).mono ?_
    rintro e W21 ⟨b21, rfl, hr, hg⟩
    have H21 := Lib.hid hg; have Q21 := Lib.hid hr; have ge21 := hr.from_; have lt21 := hr.lt; have cl21 := hr.le; clear hr hg
    have lo21 : w.heap.size ≤ b21 := by have := G20.out.size; omega
    have ne21_b1 : b1 < b21 := by have := R16.out.lt; omega
    have ne21_b3 : b3 < b21 := by have := R17.out.lt; omega
    have ne21_b6 : b6 < b21 := by have := R18.out.lt; omega
    have ne21_b10 : b10 < b21 := by have := R19.out.lt; omega
    have R22 := Lib.hid (R16.out.keptN H21.out)
    have R23 := Lib.hid (R17.out.keptN H21.out)
    have R24 := Lib.hid (R18.out.keptN H21.out)
    have R25 := Lib.hid (R19.out.keptN H21.out)
    have G26 := Lib.hid (gtr G20.out H21.out)
    go_wp2_with fail
    refine (eqint _ _ _ _ _ _ z R24.out.ints Q21.out.ints (by omega)).mono ?_
    rintro e W27 ⟨rfl, hg⟩
    have H27 := Lib.hid hg; clear hg
    have R28 := Lib.hid (R22.out.keptN H27.out)
    have R29 := Lib.hid (R23.out.keptN H27.out)
    have R30 := Lib.hid (R24.out.keptN H27.out)
    have R31 := Lib.hid (R25.out.keptN H27.out)
    have R32 := Lib.hid (Q21.out.keptN H27.out)
    have G33 := Lib.hid (gtr G26.out H27.out)
    go_wp2_with fail
    refine (mark_row _ _ _ len _ z (1) R30.out (by omega) (by omega)).mono ?_
    rintro e W34 ⟨rfl, hg, hr⟩
    have H34 := Lib.hid hg; have Q34 := Lib.hid hr; clear hr hg
    have R35 := Lib.hid (R28.out.kept H34.out (by intro e; injection e with e; omega))
    have R36 := Lib.hid (R29.out.kept H34.out (by intro e; injection e with e; omega))
    have R37 := Lib.hid (R31.out.kept H34.out (by intro e; injection e with e; omega))
    have R38 := Lib.hid (R32.out.kept H34.out (by intro e; injection e with e; omega))
    have G39 := Lib.hid (grown_new G33.out (by omega) H34.out)
    go_wp2_with fail
    refine (eqint _ _ _ len _ _ (zline len z x) R37.out.ints R36.out.ints (by omega)).mono ?_
    rintro e W40 ⟨rfl, hg⟩
    have H40 := Lib.hid hg; clear hg
    have R41 := Lib.hid (R35.out.keptN H40.out)
    have R42 := Lib.hid (R36.out.keptN H40.out)
    have R43 := Lib.hid (Q34.out.keptN H40.out)
    have R44 := Lib.hid (R37.out.keptN H40.out)
    have R45 := Lib.hid (R38.out.keptN H40.out)
    have G46 := Lib.hid (gtr G39.out H40.out)
    go_wp2_with fail
    refine (mark_row _ _ _ len _ (zline len z x) (1) R44.out (by omega) (by omega)).mono ?_
    rintro e W47 ⟨rfl, hg, hr⟩
    have H47 := Lib.hid hg; have Q47 := Lib.hid hr; clear hr hg
    have R48 := Lib.hid (R41.out.kept H47.out (by intro e; injection e with e; omega))
    have R49 := Lib.hid (R42.out.kept H47.out (by intro e; injection e with e; omega))
    have R50 := Lib.hid (R43.out.kept H47.out (by intro e; injection e with e; omega))
    have R51 := Lib.hid (R45.out.kept H47.out (by intro e; injection e with e; omega))
    have G52 := Lib.hid (grown_new G46.out (by omega) H47.out)
    go_wp2_with fail
    refine (held _ _ len _ 1 Q47.out.ints (by omega) (by omega)).mono ?_
    rintro e w53 ⟨rfl, rfl⟩
    go_wp2_with fail
    refine (toInt _ _ _ _ z (HI.out.kept G52.out) (by omega)).mono ?_
    rintro e W54 ⟨b54, rfl, hr, hg⟩
    have H54 := Lib.hid hg; have Q54 := Lib.hid hr; have ge54 := hr.from_; have lt54 := hr.lt; have cl54 := hr.le; clear hr hg
    have lo54 : w.heap.size ≤ b54 := by have := G52.out.size; omega
    have ne54_b1 : b1 < b54 := by have := R48.out.lt; omega
    have ne54_b3 : b3 < b54 := by have := R49.out.lt; omega
    have ne54_b6 : b6 < b54 := by have := R50.out.lt; omega
    have ne54_b10 : b10 < b54 := by have := Q47.out.lt; omega
    have ne54_b21 : b21 < b54 := by have := R51.out.lt; omega
    have R55 := Lib.hid (R48.out.keptN H54.out)
    have R56 := Lib.hid (R49.out.keptN H54.out)
    have R57 := Lib.hid (R50.out.keptN H54.out)
    have R58 := Lib.hid (Q47.out.keptN H54.out)
    have R59 := Lib.hid (R51.out.keptN H54.out)
    have G60 := Lib.hid (gtr G52.out H54.out)
    go_wp2_with fail
    refine (ipline_yes _ _ _ _ z x Q54.out.ints (Nat.le_refl _) (by unfold maxLen; omega) HP.out HX.out).mono ?_
    rintro e W61 ⟨b61, rfl, hr, hg⟩
    have H61 := Lib.hid hg; have Q61 := Lib.hid hr; have ge61 := hr.from_; have lt61 := hr.lt; have cl61 := hr.le; clear hr hg
    have lo61 : w.heap.size ≤ b61 := by have := G60.out.size; omega
    have ne61_b1 : b1 < b61 := by have := R55.out.lt; omega
    have ne61_b3 : b3 < b61 := by have := R56.out.lt; omega
    have ne61_b6 : b6 < b61 := by have := R57.out.lt; omega
    have ne61_b10 : b10 < b61 := by have := R58.out.lt; omega
    have ne61_b21 : b21 < b61 := by have := R59.out.lt; omega
    have ne61_b54 : b54 < b61 := by have := Q54.out.lt; omega
    have R62 := Lib.hid (R55.out.keptN H61.out)
    have R63 := Lib.hid (R56.out.keptN H61.out)
    have R64 := Lib.hid (R57.out.keptN H61.out)
    have R65 := Lib.hid (R58.out.keptN H61.out)
    have R66 := Lib.hid (R59.out.keptN H61.out)
    have R67 := Lib.hid (Q54.out.keptN H61.out)
    have G68 := Lib.hid (gtr G60.out H61.out)
    go_wp2_with fail
    refine (eqint _ _ _ len _ _ (zline len z x) Q61.out.ints R63.out.ints (by omega)).mono ?_
    rintro e W69 ⟨rfl, hg⟩
    have H69 := Lib.hid hg; clear hg
    have R70 := Lib.hid (R62.out.keptN H69.out)
    have R71 := Lib.hid (R63.out.keptN H69.out)
    have R72 := Lib.hid (R64.out.keptN H69.out)
    have R73 := Lib.hid (R65.out.keptN H69.out)
    have R74 := Lib.hid (R66.out.keptN H69.out)
    have R75 := Lib.hid (R67.out.keptN H69.out)
    have R76 := Lib.hid (Q61.out.keptN H69.out)
    have G77 := Lib.hid (gtr G68.out H69.out)
    go_wp2_with fail
    refine (held _ _ len _ 1 R73.out.ints (by omega) (by omega)).mono ?_
    rintro e w78 ⟨rfl, rfl⟩
    go_wp2
    go_ret
    exact ⟨rfl, Draw.below_of G77.out⟩
  · have HP := Lib.hid (show plok len z = false ∨ fok x = false by
      cases h1 : plok len z <;> cases h2 : fok x <;> simp_all)
    clear hyes
    go_enter Try.func9, Try.ntmps9
    go_wp2_with fail
    refine (toInt _ _ _ _ z HI.out (by omega)).mono ?_
    rintro e W1 ⟨b1, rfl, hr, hg⟩
    have H1 := Lib.hid hg; have Q1 := Lib.hid hr; have ge1 := hr.from_; have lt1 := hr.lt; have cl1 := hr.le; clear hr hg
    have lo1 : w.heap.size ≤ b1 := by omega
    have G2 := Lib.hid H1.out
    go_wp2_with fail
    refine (spline_no _ _ _ _ z x Q1.out.ints (by omega) HP.out).mono ?_
    rintro e W3 ⟨⟨bw, rfl⟩, hg⟩
    have H3 := Lib.hid hg; clear hg
    have R4 := Lib.hid (Q1.out.keptN H3.out)
    have G5 := Lib.hid (gtr G2.out H3.out)
    go_wp2_with fail
    refine (toInt _ _ _ _ z (HI.out.kept G5.out) (by omega)).mono ?_
    rintro e W6 ⟨b6, rfl, hr, hg⟩
    have H6 := Lib.hid hg; have Q6 := Lib.hid hr; have ge6 := hr.from_; have lt6 := hr.lt; have cl6 := hr.le; clear hr hg
    have lo6 : w.heap.size ≤ b6 := by have := G5.out.size; omega
    have ne6_b1 : b1 < b6 := by have := R4.out.lt; omega
    have R7 := Lib.hid (R4.out.keptN H6.out)
    have G8 := Lib.hid (gtr G5.out H6.out)
    go_wp2_with fail
    refine (ipline_no _ _ _ _ z x Q6.out.ints (by omega) (Nat.le_refl _) (by unfold maxLen; omega) HP.out).mono ?_
    rintro e w9 ⟨rfl, rfl⟩
    go_wp2_with fail
    refine (eqint _ _ _ 0 _ _ z (Ints.zero _ _ _) (Ints.zero _ _ _) (by omega)).mono ?_
    rintro e W10 ⟨rfl, hg⟩
    have H10 := Lib.hid hg; clear hg
    have R11 := Lib.hid (R7.out.keptN H10.out)
    have R12 := Lib.hid (Q6.out.keptN H10.out)
    have G13 := Lib.hid (gtr G8.out H10.out)
    go_wp2_with fail
    refine (toInt _ _ _ _ z (HI.out.kept G13.out) (by omega)).mono ?_
    rintro e W14 ⟨b14, rfl, hr, hg⟩
    have H14 := Lib.hid hg; have Q14 := Lib.hid hr; have ge14 := hr.from_; have lt14 := hr.lt; have cl14 := hr.le; clear hr hg
    have lo14 : w.heap.size ≤ b14 := by have := G13.out.size; omega
    have ne14_b1 : b1 < b14 := by have := R11.out.lt; omega
    have ne14_b6 : b6 < b14 := by have := R12.out.lt; omega
    have R15 := Lib.hid (R11.out.keptN H14.out)
    have R16 := Lib.hid (R12.out.keptN H14.out)
    have G17 := Lib.hid (gtr G13.out H14.out)
    go_wp2_with fail
    refine (eqint _ _ _ _ _ _ z R16.out.ints Q14.out.ints (by omega)).mono ?_
    rintro e W18 ⟨rfl, hg⟩
    have H18 := Lib.hid hg; clear hg
    have R19 := Lib.hid (R15.out.keptN H18.out)
    have R20 := Lib.hid (R16.out.keptN H18.out)
    have R21 := Lib.hid (Q14.out.keptN H18.out)
    have G22 := Lib.hid (gtr G17.out H18.out)
    go_wp2_with fail
    refine (mark_row _ _ _ len _ z (1) R20.out (by omega) (by omega)).mono ?_
    rintro e W23 ⟨rfl, hg, hr⟩
    have H23 := Lib.hid hg; have Q23 := Lib.hid hr; clear hr hg
    have R24 := Lib.hid (R19.out.kept H23.out (by intro e; injection e with e; omega))
    have R25 := Lib.hid (R21.out.kept H23.out (by intro e; injection e with e; omega))
    have G26 := Lib.hid (grown_new G22.out (by omega) H23.out)
    go_wp2_with fail
    refine (eqint _ _ _ 0 _ _ z (Ints.zero _ _ _) (Ints.zero _ _ _) (by omega)).mono ?_
    rintro e W27 ⟨rfl, hg⟩
    have H27 := Lib.hid hg; clear hg
    have R28 := Lib.hid (R24.out.keptN H27.out)
    have R29 := Lib.hid (Q23.out.keptN H27.out)
    have R30 := Lib.hid (R25.out.keptN H27.out)
    have G31 := Lib.hid (gtr G26.out H27.out)
    go_wp2_with fail
    refine (mark_zero _ _ _ _).mono ?_
    rintro e w32 ⟨rfl, rfl⟩
    go_wp2_with fail
    refine (held _ _ 0 _ 1 (Ints.zero _ _ _) (by omega) (by omega)).mono ?_
    rintro e w33 ⟨rfl, rfl⟩
    go_wp2_with fail
    refine (toInt _ _ _ _ z (HI.out.kept G31.out) (by omega)).mono ?_
    rintro e W34 ⟨b34, rfl, hr, hg⟩
    have H34 := Lib.hid hg; have Q34 := Lib.hid hr; have ge34 := hr.from_; have lt34 := hr.lt; have cl34 := hr.le; clear hr hg
    have lo34 : w.heap.size ≤ b34 := by have := G31.out.size; omega
    have ne34_b1 : b1 < b34 := by have := R28.out.lt; omega
    have ne34_b6 : b6 < b34 := by have := R29.out.lt; omega
    have ne34_b14 : b14 < b34 := by have := R30.out.lt; omega
    have R35 := Lib.hid (R28.out.keptN H34.out)
    have R36 := Lib.hid (R29.out.keptN H34.out)
    have R37 := Lib.hid (R30.out.keptN H34.out)
    have G38 := Lib.hid (gtr G31.out H34.out)
    go_wp2_with fail
    refine (ipline_no _ _ _ _ z x Q34.out.ints (by omega) (Nat.le_refl _) (by unfold maxLen; omega) HP.out).mono ?_
    rintro e w39 ⟨rfl, rfl⟩
    go_wp2_with fail
    refine (eqint _ _ _ 0 _ _ z (Ints.zero _ _ _) (Ints.zero _ _ _) (by omega)).mono ?_
    rintro e W40 ⟨rfl, hg⟩
    have H40 := Lib.hid hg; clear hg
    have R41 := Lib.hid (R35.out.keptN H40.out)
    have R42 := Lib.hid (R36.out.keptN H40.out)
    have R43 := Lib.hid (R37.out.keptN H40.out)
    have R44 := Lib.hid (Q34.out.keptN H40.out)
    have G45 := Lib.hid (gtr G38.out H40.out)
    go_wp2_with fail
    refine (held _ _ 0 _ 1 (Ints.zero _ _ _) (by omega) (by omega)).mono ?_
    rintro e w46 ⟨rfl, rfl⟩
    go_wp2
    go_ret
    exact ⟨rfl, Draw.below_of G45.out⟩

end Run
end Go.Proofs.Ytchgjdbmianajaa
