/-
  The walks of the exact laws on polynomials and places: the program answers as the model does, writes into no argument, and its answer owns its memory.
-/
import Derived.Test.YtlhemnpoamlfiaaPi
import Derived.Test.YtlhemnpoamlfiaaPj
import Derived.Test.YtlhemnpoamlfiaaRunKit
namespace Go.Proofs.Ytlhemnpoamlfiaa
namespace Run
open Go.RowKit Alg Mem Con
set_option linter.unusedVariables false

theorem FnExactPolyAt (a : Option Addr) (len cap : Nat) (z : Nat → Int) (x : Int) (w : World) (hI : Ints w a len z) :
    Calls Try.prog 13 #[.slice a len cap, .int .i64 x] w (Yes w) := by
  by_cases hbig : 1048576 < len
  · have hbig' : (1048576 : Int) < (len : Int) := by omega
    clear hI
    go_enter Try.func13, Try.ntmps13
    go_wp2
    go_ret
    exact ⟨rfl, Below.refl _ _⟩
  have hbig' : ¬ (1048576 : Int) < (len : Int) := by omega
  have HI := Lib.hid hI; clear hI
  go_enter Try.func13, Try.ntmps13
  go_wp2_with fail
  refine (toInt _ _ _ _ z HI.out (by omega)).mono ?_
  rintro e W1 ⟨b1, rfl, hr, hg⟩
  have H1 := Lib.hid hg; have Q1 := Lib.hid hr; have ge1 := hr.from_; have lt1 := hr.lt; have cl1 := hr.le; clear hr hg
  have lo1 : w.heap.size ≤ b1 := by omega
  have G2 := Lib.hid H1.out
  go_wp2_with fail
  refine (spat _ _ _ _ z x Q1.out.ints (by omega)).mono ?_
  rintro e w3 ⟨rfl, rfl⟩
  go_wp2_with fail
  refine (toInt _ _ _ _ z (HI.out.kept G2.out) (by omega)).mono ?_
  rintro e W4 ⟨b4, rfl, hr, hg⟩
  have H4 := Lib.hid hg; have Q4 := Lib.hid hr; have ge4 := hr.from_; have lt4 := hr.lt; have cl4 := hr.le; clear hr hg
  have lo4 : w.heap.size ≤ b4 := by have := G2.out.size; omega
  have ne4_b1 : b1 < b4 := by have := Q1.out.lt; omega
  have R5 := Lib.hid (Q1.out.keptN H4.out)
  have G6 := Lib.hid (gtr G2.out H4.out)
  go_wp2_with fail
  refine (ipat _ _ _ _ z x Q4.out.ints (by omega)).mono ?_
  rintro e W7 ⟨rfl, hg⟩
  have H7 := Lib.hid hg; clear hg
  have R8 := Lib.hid (R5.out.keptN H7.out)
  have R9 := Lib.hid (Q4.out.keptN H7.out)
  have G10 := Lib.hid (gtr G6.out H7.out)
  go_wp2_with fail
  refine (toInt _ _ _ _ z (HI.out.kept G10.out) (by omega)).mono ?_
  rintro e W11 ⟨b11, rfl, hr, hg⟩
  have H11 := Lib.hid hg; have Q11 := Lib.hid hr; have ge11 := hr.from_; have lt11 := hr.lt; have cl11 := hr.le; clear hr hg
  have lo11 : w.heap.size ≤ b11 := by have := G10.out.size; omega
  have ne11_b1 : b1 < b11 := by have := R8.out.lt; omega
  have ne11_b4 : b4 < b11 := by have := R9.out.lt; omega
  have R12 := Lib.hid (R8.out.keptN H11.out)
  have R13 := Lib.hid (R9.out.keptN H11.out)
  have G14 := Lib.hid (gtr G10.out H11.out)
  go_wp2_with fail
  refine (eqint _ _ _ _ _ _ z R13.out.ints Q11.out.ints (by omega)).mono ?_
  rintro e W15 ⟨rfl, hg⟩
  have H15 := Lib.hid hg; clear hg
  have R16 := Lib.hid (R12.out.keptN H15.out)
  have R17 := Lib.hid (R13.out.keptN H15.out)
  have R18 := Lib.hid (Q11.out.keptN H15.out)
  have G19 := Lib.hid (gtr G14.out H15.out)
  go_wp2
  go_ret
  exact ⟨rfl, Draw.below_of G19.out⟩

set_option maxHeartbeats 4000000 in
theorem FnExactPolySum (a : Option Addr) (la ca : Nat) (za : Nat → Int) (b : Option Addr) (lb cb : Nat) (zb : Nat → Int) (w : World) (hA : Ints w a la za) (hB : Ints w b lb zb) :
    Calls Try.prog 14 #[.slice a la ca, .slice b lb cb] w (Yes w) := by
  by_cases hbig : 1048576 < la
  · have hbig' : (1048576 : Int) < (la : Int) := by omega
    clear hA hB
    go_enter Try.func14, Try.ntmps14
    go_wp2
    go_ret
    exact ⟨rfl, Below.refl _ _⟩
  have hbig' : ¬ (1048576 : Int) < (la : Int) := by omega
  by_cases hbih : 1048576 < lb
  · have hbih' : (1048576 : Int) < (lb : Int) := by omega
    clear hA hB
    go_enter Try.func14, Try.ntmps14
    go_wp2
    go_ret
    exact ⟨rfl, Below.refl _ _⟩
  have hbih' : ¬ (1048576 : Int) < (lb : Int) := by omega
  have HA := Lib.hid hA; have HB := Lib.hid hB; clear hA hB
  by_cases hyes : pokz la za = true ∧ pokz lb zb = true
  · have HP := Lib.hid hyes.1; have HQ := Lib.hid hyes.2; clear hyes
    have hl5 := (pokz_iff.1 HP.out).2.1
    have hm5 := (pokz_iff.1 HQ.out).2.1
    obtain ⟨m, hm⟩ : ∃ m, m = max la lb := ⟨_, rfl⟩
    obtain ⟨ZS, hZS⟩ : ∃ ZS, ZS = zsum la za lb zb := ⟨_, rfl⟩
    have hmm : m ≤ 5 := by omega
    have HMo := Lib.hid (show ∀ (W0 : World) e W1, Own1 3 W0 (max la lb) (zsum la za lb zb) e W1 → Own1 3 W0 m ZS e W1 from fun _ _ _ h => by rw [hm, hZS]; exact h)
    have HMn := Lib.hid (show ∀ (W0 : World) e W1, NewRow 3 W0 (max la lb) (zsum la za lb zb) e W1 → NewRow 3 W0 m ZS e W1 from fun _ _ _ h => by rw [hm, hZS]; exact h)
    clear hm hZS
    go_enter Try.func14, Try.ntmps14
    go_wp2_with fail
    refine (toInt _ _ _ _ za HA.out (by omega)).mono ?_
    rintro e W1 ⟨b1, rfl, hr, hg⟩
    have H1 := Lib.hid hg; have Q1 := Lib.hid hr; have ge1 := hr.from_; have lt1 := hr.lt; have cl1 := hr.le; clear hr hg
    have lo1 : w.heap.size ≤ b1 := by omega
    have G2 := Lib.hid H1.out
    go_wp2_with fail
    refine (toInt _ _ _ _ zb (HB.out.kept G2.out) (by omega)).mono ?_
    rintro e W3 ⟨b3, rfl, hr, hg⟩
    have H3 := Lib.hid hg; have Q3 := Lib.hid hr; have ge3 := hr.from_; have lt3 := hr.lt; have cl3 := hr.le; clear hr hg
    have lo3 : w.heap.size ≤ b3 := by have := G2.out.size; omega
    have ne3_b1 : b1 < b3 := by have := Q1.out.lt; omega
    have R4 := Lib.hid (Q1.out.keptN H3.out)
    have G5 := Lib.hid (gtr G2.out H3.out)
    go_wp2_with fail
    refine ((spsum_yes _ _ _ _ _ _ _ za zb R4.out.ints Q3.out.ints HP.out HQ.out).mono (HMo.out _)).mono ?_
    rintro e W6 ⟨b6, c6, rfl, hr, hg⟩
    have H6 := Lib.hid hg; have Q6 := Lib.hid hr; have ge6 := hr.from_; have lt6 := hr.lt; have cl6 := hr.le; clear hr hg
    have lo6 : w.heap.size ≤ b6 := by have := G5.out.size; omega
    have ne6_b1 : b1 < b6 := by have := R4.out.lt; omega
    have ne6_b3 : b3 < b6 := by have := Q3.out.lt; omega
    have R7 := Lib.hid (R4.out.keptN H6.out)
    have R8 := Lib.hid (Q3.out.keptN H6.out)
    have G9 := Lib.hid (gtr G5.out H6.out)
    go_wp2_with fail
    refine (toInt _ _ _ _ za (HA.out.kept G9.out) (by omega)).mono ?_
    rintro e W10 ⟨b10, rfl, hr, hg⟩
    have H10 := Lib.hid hg; have Q10 := Lib.hid hr; have ge10 := hr.from_; have lt10 := hr.lt; have cl10 := hr.le; clear hr hg
    have lo10 : w.heap.size ≤ b10 := by have := G9.out.size; omega
    have ne10_b1 : b1 < b10 := by have := R7.out.lt; omega
    have ne10_b3 : b3 < b10 := by have := R8.out.lt; omega
    have ne10_b6 : b6 < b10 := by have := Q6.out.lt; omega
    have R11 := Lib.hid (R7.out.keptN H10.out)
    have R12 := Lib.hid (R8.out.keptN H10.out)
    have R13 := Lib.hid (Q6.out.keptN H10.out)
    have G14 := Lib.hid (gtr G9.out H10.out)
    go_wp2_with fail
    refine (toInt _ _ _ _ zb (HB.out.kept G14.out) (by omega)).mono ?_
    rintro e W15 ⟨b15, rfl, hr, hg⟩
    have H15 := Lib.hid hg; have Q15 := Lib.hid hr; have ge15 := hr.from_; have lt15 := hr.lt; have cl15 := hr.le; clear hr hg
    have lo15 : w.heap.size ≤ b15 := by have := G14.out.size; omega
    have ne15_b1 : b1 < b15 := by have := R11.out.lt; omega
    have ne15_b3 : b3 < b15 := by have := R12.out.lt; omega
    have ne15_b6 : b6 < b15 := by have := R13.out.lt; omega
    have ne15_b10 : b10 < b15 := by have := Q10.out.lt; omega
    have R16 := Lib.hid (R11.out.keptN H15.out)
    have R17 := Lib.hid (R12.out.keptN H15.out)
    have R18 := Lib.hid (R13.out.keptN H15.out)
    have R19 := Lib.hid (Q10.out.keptN H15.out)
    have G20 := Lib.hid (gtr G14.out H15.out)
    go_wp2_with fail
    refine ((ipsum_yes _ _ _ _ _ _ _ za zb R19.out.ints Q15.out.ints HP.out HQ.out).mono (HMn.out _)).mono ?_
    rintro e W21 ⟨b21, rfl, hr, hg⟩
    have H21 := Lib.hid hg; have Q21 := Lib.hid hr; have ge21 := hr.from_; have lt21 := hr.lt; have cl21 := hr.le; clear hr hg
    have lo21 : w.heap.size ≤ b21 := by have := G20.out.size; omega
    have ne21_b1 : b1 < b21 := by have := R16.out.lt; omega
    have ne21_b3 : b3 < b21 := by have := R17.out.lt; omega
    have ne21_b6 : b6 < b21 := by have := R18.out.lt; omega
    have ne21_b10 : b10 < b21 := by have := R19.out.lt; omega
    have ne21_b15 : b15 < b21 := by have := Q15.out.lt; omega
    have R22 := Lib.hid (R16.out.keptN H21.out)
    have R23 := Lib.hid (R17.out.keptN H21.out)
    have R24 := Lib.hid (R18.out.keptN H21.out)
    have R25 := Lib.hid (R19.out.keptN H21.out)
    have R26 := Lib.hid (Q15.out.keptN H21.out)
    have G27 := Lib.hid (gtr G20.out H21.out)
    go_wp2_with fail
    refine (eqint _ _ _ m _ _ ZS Q21.out.ints R24.out.ints (by omega)).mono ?_
    rintro e W28 ⟨rfl, hg⟩
    have H28 := Lib.hid hg; clear hg
    have R29 := Lib.hid (R22.out.keptN H28.out)
    have R30 := Lib.hid (R23.out.keptN H28.out)
    have R31 := Lib.hid (R24.out.keptN H28.out)
    have R32 := Lib.hid (R25.out.keptN H28.out)
    have R33 := Lib.hid (R26.out.keptN H28.out)
    have R34 := Lib.hid (Q21.out.keptN H28.out)
    have G35 := Lib.hid (gtr G27.out H28.out)
    go_wp2_with fail
    refine (toInt _ _ _ _ za (HA.out.kept G35.out) (by omega)).mono ?_
    rintro e W36 ⟨b36, rfl, hr, hg⟩
    have H36 := Lib.hid hg; have Q36 := Lib.hid hr; have ge36 := hr.from_; have lt36 := hr.lt; have cl36 := hr.le; clear hr hg
    have lo36 : w.heap.size ≤ b36 := by have := G35.out.size; omega
    have ne36_b1 : b1 < b36 := by have := R29.out.lt; omega
    have ne36_b3 : b3 < b36 := by have := R30.out.lt; omega
    have ne36_b6 : b6 < b36 := by have := R31.out.lt; omega
    have ne36_b10 : b10 < b36 := by have := R32.out.lt; omega
    have ne36_b15 : b15 < b36 := by have := R33.out.lt; omega
    have ne36_b21 : b21 < b36 := by have := R34.out.lt; omega
    have R37 := Lib.hid (R29.out.keptN H36.out)
    have R38 := Lib.hid (R30.out.keptN H36.out)
    have R39 := Lib.hid (R31.out.keptN H36.out)
    have R40 := Lib.hid (R32.out.keptN H36.out)
    have R41 := Lib.hid (R33.out.keptN H36.out)
    have R42 := Lib.hid (R34.out.keptN H36.out)
    have G43 := Lib.hid (gtr G35.out H36.out)
    go_wp2_with fail
    refine (eqint _ _ _ la _ _ za R40.out.ints Q36.out.ints (by omega)).mono ?_
    rintro e W44 ⟨rfl, hg⟩
    have H44 := Lib.hid hg; clear hg
    have R45 := Lib.hid (R37.out.keptN H44.out)
    have R46 := Lib.hid (R38.out.keptN H44.out)
    have R47 := Lib.hid (R39.out.keptN H44.out)
    have R48 := Lib.hid (R40.out.keptN H44.out)
    have R49 := Lib.hid (R41.out.keptN H44.out)
    have R50 := Lib.hid (R42.out.keptN H44.out)
    have R51 := Lib.hid (Q36.out.keptN H44.out)
    have G52 := Lib.hid (gtr G43.out H44.out)
    go_wp2_with fail
    refine (toInt _ _ _ _ zb (HB.out.kept G52.out) (by omega)).mono ?_
    rintro e W53 ⟨b53, rfl, hr, hg⟩
    have H53 := Lib.hid hg; have Q53 := Lib.hid hr; have ge53 := hr.from_; have lt53 := hr.lt; have cl53 := hr.le; clear hr hg
    have lo53 : w.heap.size ≤ b53 := by have := G52.out.size; omega
    have ne53_b1 : b1 < b53 := by have := R45.out.lt; omega
    have ne53_b3 : b3 < b53 := by have := R46.out.lt; omega
    have ne53_b6 : b6 < b53 := by have := R47.out.lt; omega
    have ne53_b10 : b10 < b53 := by have := R48.out.lt; omega
    have ne53_b15 : b15 < b53 := by have := R49.out.lt; omega
    have ne53_b21 : b21 < b53 := by have := R50.out.lt; omega
    have ne53_b36 : b36 < b53 := by have := R51.out.lt; omega
    have R54 := Lib.hid (R45.out.keptN H53.out)
    have R55 := Lib.hid (R46.out.keptN H53.out)
    have R56 := Lib.hid (R47.out.keptN H53.out)
    have R57 := Lib.hid (R48.out.keptN H53.out)
    have R58 := Lib.hid (R49.out.keptN H53.out)
    have R59 := Lib.hid (R50.out.keptN H53.out)
    have R60 := Lib.hid (R51.out.keptN H53.out)
    have G61 := Lib.hid (gtr G52.out H53.out)
    go_wp2_with fail
    refine (eqint _ _ _ lb _ _ zb R58.out.ints Q53.out.ints (by omega)).mono ?_
    rintro e W62 ⟨rfl, hg⟩
    have H62 := Lib.hid hg; clear hg
    have R63 := Lib.hid (R54.out.keptN H62.out)
    have R64 := Lib.hid (R55.out.keptN H62.out)
    have R65 := Lib.hid (R56.out.keptN H62.out)
    have R66 := Lib.hid (R57.out.keptN H62.out)
    have R67 := Lib.hid (R58.out.keptN H62.out)
    have R68 := Lib.hid (R59.out.keptN H62.out)
    have R69 := Lib.hid (R60.out.keptN H62.out)
    have R70 := Lib.hid (Q53.out.keptN H62.out)
    have G71 := Lib.hid (gtr G61.out H62.out)
    go_wp2_with fail
    refine (mark_row _ _ _ la _ za (1) R66.out (by omega) (by omega)).mono ?_
    rintro e W72 ⟨rfl, hg, hr⟩
    have H72 := Lib.hid hg; have Q72 := Lib.hid hr; clear hr hg
    have R73 := Lib.hid (R63.out.kept H72.out (by intro e; injection e with e; omega))
    have R74 := Lib.hid (R64.out.kept H72.out (by intro e; injection e with e; omega))
    have R75 := Lib.hid (R65.out.kept H72.out (by intro e; injection e with e; omega))
    have R76 := Lib.hid (R67.out.kept H72.out (by intro e; injection e with e; omega))
    have R77 := Lib.hid (R68.out.kept H72.out (by intro e; injection e with e; omega))
    have R78 := Lib.hid (R69.out.kept H72.out (by intro e; injection e with e; omega))
    have R79 := Lib.hid (R70.out.kept H72.out (by intro e; injection e with e; omega))
    have G80 := Lib.hid (grown_new G71.out (by omega) H72.out)
    go_wp2_with fail
    refine (mark_row _ _ _ lb _ zb (1 + la) R76.out (by omega) (by omega)).mono ?_
    rintro e W81 ⟨rfl, hg, hr⟩
    have H81 := Lib.hid hg; have Q81 := Lib.hid hr; clear hr hg
    have R82 := Lib.hid (R73.out.kept H81.out (by intro e; injection e with e; omega))
    have R83 := Lib.hid (R74.out.kept H81.out (by intro e; injection e with e; omega))
    have R84 := Lib.hid (R75.out.kept H81.out (by intro e; injection e with e; omega))
    have R85 := Lib.hid (Q72.out.kept H81.out (by intro e; injection e with e; omega))
    have R86 := Lib.hid (R77.out.kept H81.out (by intro e; injection e with e; omega))
    have R87 := Lib.hid (R78.out.kept H81.out (by intro e; injection e with e; omega))
    have R88 := Lib.hid (R79.out.kept H81.out (by intro e; injection e with e; omega))
    have G89 := Lib.hid (grown_new G80.out (by omega) H81.out)
    go_wp2_with fail
    refine (eqint _ _ _ m _ _ ZS R86.out.ints R84.out.ints (by omega)).mono ?_
    rintro e W90 ⟨rfl, hg⟩
    have H90 := Lib.hid hg; clear hg
    have R91 := Lib.hid (R82.out.keptN H90.out)
    have R92 := Lib.hid (R83.out.keptN H90.out)
    have R93 := Lib.hid (R84.out.keptN H90.out)
    have R94 := Lib.hid (R85.out.keptN H90.out)
    have R95 := Lib.hid (Q81.out.keptN H90.out)
    have R96 := Lib.hid (R86.out.keptN H90.out)
    have R97 := Lib.hid (R87.out.keptN H90.out)
    have R98 := Lib.hid (R88.out.keptN H90.out)
    have G99 := Lib.hid (gtr G89.out H90.out)
    go_wp2_with fail
    refine (mark_row _ _ _ m _ ZS (1) R96.out (by omega) (by omega)).mono ?_
    rintro e W100 ⟨rfl, hg, hr⟩
    have H100 := Lib.hid hg; have Q100 := Lib.hid hr; clear hr hg
    have R101 := Lib.hid (R91.out.kept H100.out (by intro e; injection e with e; omega))
    have R102 := Lib.hid (R92.out.kept H100.out (by intro e; injection e with e; omega))
    have R103 := Lib.hid (R93.out.kept H100.out (by intro e; injection e with e; omega))
    have R104 := Lib.hid (R94.out.kept H100.out (by intro e; injection e with e; omega))
    have R105 := Lib.hid (R95.out.kept H100.out (by intro e; injection e with e; omega))
    have R106 := Lib.hid (R97.out.kept H100.out (by intro e; injection e with e; omega))
    have R107 := Lib.hid (R98.out.kept H100.out (by intro e; injection e with e; omega))
    have G108 := Lib.hid (grown_new G99.out (by omega) H100.out)
    go_wp2_with fail
    refine (held _ _ m _ 1 Q100.out.ints (by omega) (by omega)).mono ?_
    rintro e w109 ⟨rfl, rfl⟩
    go_wp2_with fail
    refine (toInt _ _ _ _ za (HA.out.kept G108.out) (by omega)).mono ?_
    rintro e W110 ⟨b110, rfl, hr, hg⟩
    have H110 := Lib.hid hg; have Q110 := Lib.hid hr; have ge110 := hr.from_; have lt110 := hr.lt; have cl110 := hr.le; clear hr hg
    have lo110 : w.heap.size ≤ b110 := by have := G108.out.size; omega
    have ne110_b1 : b1 < b110 := by have := R101.out.lt; omega
    have ne110_b3 : b3 < b110 := by have := R102.out.lt; omega
    have ne110_b6 : b6 < b110 := by have := R103.out.lt; omega
    have ne110_b10 : b10 < b110 := by have := R104.out.lt; omega
    have ne110_b15 : b15 < b110 := by have := R105.out.lt; omega
    have ne110_b21 : b21 < b110 := by have := Q100.out.lt; omega
    have ne110_b36 : b36 < b110 := by have := R106.out.lt; omega
    have ne110_b53 : b53 < b110 := by have := R107.out.lt; omega
    have R111 := Lib.hid (R101.out.keptN H110.out)
    have R112 := Lib.hid (R102.out.keptN H110.out)
    have R113 := Lib.hid (R103.out.keptN H110.out)
    have R114 := Lib.hid (R104.out.keptN H110.out)
    have R115 := Lib.hid (R105.out.keptN H110.out)
    have R116 := Lib.hid (Q100.out.keptN H110.out)
    have R117 := Lib.hid (R106.out.keptN H110.out)
    have R118 := Lib.hid (R107.out.keptN H110.out)
    have G119 := Lib.hid (gtr G108.out H110.out)
    go_wp2_with fail
    refine (toInt _ _ _ _ zb (HB.out.kept G119.out) (by omega)).mono ?_
    rintro e W120 ⟨b120, rfl, hr, hg⟩
    have H120 := Lib.hid hg; have Q120 := Lib.hid hr; have ge120 := hr.from_; have lt120 := hr.lt; have cl120 := hr.le; clear hr hg
    have lo120 : w.heap.size ≤ b120 := by have := G119.out.size; omega
    have ne120_b1 : b1 < b120 := by have := R111.out.lt; omega
    have ne120_b3 : b3 < b120 := by have := R112.out.lt; omega
    have ne120_b6 : b6 < b120 := by have := R113.out.lt; omega
    have ne120_b10 : b10 < b120 := by have := R114.out.lt; omega
    have ne120_b15 : b15 < b120 := by have := R115.out.lt; omega
    have ne120_b21 : b21 < b120 := by have := R116.out.lt; omega
    have ne120_b36 : b36 < b120 := by have := R117.out.lt; omega
    have ne120_b53 : b53 < b120 := by have := R118.out.lt; omega
    have ne120_b110 : b110 < b120 := by have := Q110.out.lt; omega
    have R121 := Lib.hid (R111.out.keptN H120.out)
    have R122 := Lib.hid (R112.out.keptN H120.out)
    have R123 := Lib.hid (R113.out.keptN H120.out)
    have R124 := Lib.hid (R114.out.keptN H120.out)
    have R125 := Lib.hid (R115.out.keptN H120.out)
    have R126 := Lib.hid (R116.out.keptN H120.out)
    have R127 := Lib.hid (R117.out.keptN H120.out)
    have R128 := Lib.hid (R118.out.keptN H120.out)
    have R129 := Lib.hid (Q110.out.keptN H120.out)
    have G130 := Lib.hid (gtr G119.out H120.out)
    go_wp2_with fail
    refine ((ipsum_yes _ _ _ _ _ _ _ za zb R129.out.ints Q120.out.ints HP.out HQ.out).mono (HMn.out _)).mono ?_
    rintro e W131 ⟨b131, rfl, hr, hg⟩
    have H131 := Lib.hid hg; have Q131 := Lib.hid hr; have ge131 := hr.from_; have lt131 := hr.lt; have cl131 := hr.le; clear hr hg
    have lo131 : w.heap.size ≤ b131 := by have := G130.out.size; omega
    have ne131_b1 : b1 < b131 := by have := R121.out.lt; omega
    have ne131_b3 : b3 < b131 := by have := R122.out.lt; omega
    have ne131_b6 : b6 < b131 := by have := R123.out.lt; omega
    have ne131_b10 : b10 < b131 := by have := R124.out.lt; omega
    have ne131_b15 : b15 < b131 := by have := R125.out.lt; omega
    have ne131_b21 : b21 < b131 := by have := R126.out.lt; omega
    have ne131_b36 : b36 < b131 := by have := R127.out.lt; omega
    have ne131_b53 : b53 < b131 := by have := R128.out.lt; omega
    have ne131_b110 : b110 < b131 := by have := R129.out.lt; omega
    have ne131_b120 : b120 < b131 := by have := Q120.out.lt; omega
    have R132 := Lib.hid (R121.out.keptN H131.out)
    have R133 := Lib.hid (R122.out.keptN H131.out)
    have R134 := Lib.hid (R123.out.keptN H131.out)
    have R135 := Lib.hid (R124.out.keptN H131.out)
    have R136 := Lib.hid (R125.out.keptN H131.out)
    have R137 := Lib.hid (R126.out.keptN H131.out)
    have R138 := Lib.hid (R127.out.keptN H131.out)
    have R139 := Lib.hid (R128.out.keptN H131.out)
    have R140 := Lib.hid (R129.out.keptN H131.out)
    have R141 := Lib.hid (Q120.out.keptN H131.out)
    have G142 := Lib.hid (gtr G130.out H131.out)
    go_wp2_with fail
    refine (eqint _ _ _ m _ _ ZS Q131.out.ints R134.out.ints (by omega)).mono ?_
    rintro e W143 ⟨rfl, hg⟩
    have H143 := Lib.hid hg; clear hg
    have R144 := Lib.hid (R132.out.keptN H143.out)
    have R145 := Lib.hid (R133.out.keptN H143.out)
    have R146 := Lib.hid (R134.out.keptN H143.out)
    have R147 := Lib.hid (R135.out.keptN H143.out)
    have R148 := Lib.hid (R136.out.keptN H143.out)
    have R149 := Lib.hid (R137.out.keptN H143.out)
    have R150 := Lib.hid (R138.out.keptN H143.out)
    have R151 := Lib.hid (R139.out.keptN H143.out)
    have R152 := Lib.hid (R140.out.keptN H143.out)
    have R153 := Lib.hid (R141.out.keptN H143.out)
    have R154 := Lib.hid (Q131.out.keptN H143.out)
    have G155 := Lib.hid (gtr G142.out H143.out)
    go_wp2_with fail
    refine (held _ _ m _ 1 R149.out.ints (by omega) (by omega)).mono ?_
    rintro e w156 ⟨rfl, rfl⟩
    go_wp2
    go_ret
    exact ⟨rfl, Draw.below_of G155.out⟩
  · have HP := Lib.hid (show pokz la za = false ∨ pokz lb zb = false by
      cases h1 : pokz la za <;> cases h2 : pokz lb zb <;> simp_all)
    clear hyes
    go_enter Try.func14, Try.ntmps14
    go_wp2_with fail
    refine (toInt _ _ _ _ za HA.out (by omega)).mono ?_
    rintro e W1 ⟨b1, rfl, hr, hg⟩
    have H1 := Lib.hid hg; have Q1 := Lib.hid hr; have ge1 := hr.from_; have lt1 := hr.lt; have cl1 := hr.le; clear hr hg
    have lo1 : w.heap.size ≤ b1 := by omega
    have G2 := Lib.hid H1.out
    go_wp2_with fail
    refine (toInt _ _ _ _ zb (HB.out.kept G2.out) (by omega)).mono ?_
    rintro e W3 ⟨b3, rfl, hr, hg⟩
    have H3 := Lib.hid hg; have Q3 := Lib.hid hr; have ge3 := hr.from_; have lt3 := hr.lt; have cl3 := hr.le; clear hr hg
    have lo3 : w.heap.size ≤ b3 := by have := G2.out.size; omega
    have ne3_b1 : b1 < b3 := by have := Q1.out.lt; omega
    have R4 := Lib.hid (Q1.out.keptN H3.out)
    have G5 := Lib.hid (gtr G2.out H3.out)
    go_wp2_with fail
    refine (spsum_no _ _ _ _ _ _ _ za zb R4.out.ints Q3.out.ints (by omega) (by omega) HP.out).mono ?_
    rintro e W6 ⟨rfl, hg⟩
    have H6 := Lib.hid hg; clear hg
    have R7 := Lib.hid (R4.out.keptN H6.out)
    have R8 := Lib.hid (Q3.out.keptN H6.out)
    have G9 := Lib.hid (gtr G5.out H6.out)
    go_wp2_with fail
    refine (toInt _ _ _ _ za (HA.out.kept G9.out) (by omega)).mono ?_
    rintro e W10 ⟨b10, rfl, hr, hg⟩
    have H10 := Lib.hid hg; have Q10 := Lib.hid hr; have ge10 := hr.from_; have lt10 := hr.lt; have cl10 := hr.le; clear hr hg
    have lo10 : w.heap.size ≤ b10 := by have := G9.out.size; omega
    have ne10_b1 : b1 < b10 := by have := R7.out.lt; omega
    have ne10_b3 : b3 < b10 := by have := R8.out.lt; omega
    have R11 := Lib.hid (R7.out.keptN H10.out)
    have R12 := Lib.hid (R8.out.keptN H10.out)
    have G13 := Lib.hid (gtr G9.out H10.out)
    go_wp2_with fail
    refine (toInt _ _ _ _ zb (HB.out.kept G13.out) (by omega)).mono ?_
    rintro e W14 ⟨b14, rfl, hr, hg⟩
    have H14 := Lib.hid hg; have Q14 := Lib.hid hr; have ge14 := hr.from_; have lt14 := hr.lt; have cl14 := hr.le; clear hr hg
    have lo14 : w.heap.size ≤ b14 := by have := G13.out.size; omega
    have ne14_b1 : b1 < b14 := by have := R11.out.lt; omega
    have ne14_b3 : b3 < b14 := by have := R12.out.lt; omega
    have ne14_b10 : b10 < b14 := by have := Q10.out.lt; omega
    have R15 := Lib.hid (R11.out.keptN H14.out)
    have R16 := Lib.hid (R12.out.keptN H14.out)
    have R17 := Lib.hid (Q10.out.keptN H14.out)
    have G18 := Lib.hid (gtr G13.out H14.out)
    go_wp2_with fail
    refine (ipsum_no _ _ _ _ _ _ _ za zb R17.out.ints Q14.out.ints (by omega) (by omega) HP.out).mono ?_
    rintro e w19 ⟨rfl, rfl⟩
    go_wp2_with fail
    refine (eqint _ _ _ 0 _ _ za (Ints.zero _ _ _) (Ints.zero _ _ _) (by omega)).mono ?_
    rintro e W20 ⟨rfl, hg⟩
    have H20 := Lib.hid hg; clear hg
    have R21 := Lib.hid (R15.out.keptN H20.out)
    have R22 := Lib.hid (R16.out.keptN H20.out)
    have R23 := Lib.hid (R17.out.keptN H20.out)
    have R24 := Lib.hid (Q14.out.keptN H20.out)
    have G25 := Lib.hid (gtr G18.out H20.out)
    go_wp2_with fail
    refine (toInt _ _ _ _ za (HA.out.kept G25.out) (by omega)).mono ?_
    rintro e W26 ⟨b26, rfl, hr, hg⟩
    have H26 := Lib.hid hg; have Q26 := Lib.hid hr; have ge26 := hr.from_; have lt26 := hr.lt; have cl26 := hr.le; clear hr hg
    have lo26 : w.heap.size ≤ b26 := by have := G25.out.size; omega
    have ne26_b1 : b1 < b26 := by have := R21.out.lt; omega
    have ne26_b3 : b3 < b26 := by have := R22.out.lt; omega
    have ne26_b10 : b10 < b26 := by have := R23.out.lt; omega
    have ne26_b14 : b14 < b26 := by have := R24.out.lt; omega
    have R27 := Lib.hid (R21.out.keptN H26.out)
    have R28 := Lib.hid (R22.out.keptN H26.out)
    have R29 := Lib.hid (R23.out.keptN H26.out)
    have R30 := Lib.hid (R24.out.keptN H26.out)
    have G31 := Lib.hid (gtr G25.out H26.out)
    go_wp2_with fail
    refine (eqint _ _ _ la _ _ za R29.out.ints Q26.out.ints (by omega)).mono ?_
    rintro e W32 ⟨rfl, hg⟩
    have H32 := Lib.hid hg; clear hg
    have R33 := Lib.hid (R27.out.keptN H32.out)
    have R34 := Lib.hid (R28.out.keptN H32.out)
    have R35 := Lib.hid (R29.out.keptN H32.out)
    have R36 := Lib.hid (R30.out.keptN H32.out)
    have R37 := Lib.hid (Q26.out.keptN H32.out)
    have G38 := Lib.hid (gtr G31.out H32.out)
    go_wp2_with fail
    refine (toInt _ _ _ _ zb (HB.out.kept G38.out) (by omega)).mono ?_
    rintro e W39 ⟨b39, rfl, hr, hg⟩
    have H39 := Lib.hid hg; have Q39 := Lib.hid hr; have ge39 := hr.from_; have lt39 := hr.lt; have cl39 := hr.le; clear hr hg
    have lo39 : w.heap.size ≤ b39 := by have := G38.out.size; omega
    have ne39_b1 : b1 < b39 := by have := R33.out.lt; omega
    have ne39_b3 : b3 < b39 := by have := R34.out.lt; omega
    have ne39_b10 : b10 < b39 := by have := R35.out.lt; omega
    have ne39_b14 : b14 < b39 := by have := R36.out.lt; omega
    have ne39_b26 : b26 < b39 := by have := R37.out.lt; omega
    have R40 := Lib.hid (R33.out.keptN H39.out)
    have R41 := Lib.hid (R34.out.keptN H39.out)
    have R42 := Lib.hid (R35.out.keptN H39.out)
    have R43 := Lib.hid (R36.out.keptN H39.out)
    have R44 := Lib.hid (R37.out.keptN H39.out)
    have G45 := Lib.hid (gtr G38.out H39.out)
    go_wp2_with fail
    refine (eqint _ _ _ lb _ _ zb R43.out.ints Q39.out.ints (by omega)).mono ?_
    rintro e W46 ⟨rfl, hg⟩
    have H46 := Lib.hid hg; clear hg
    have R47 := Lib.hid (R40.out.keptN H46.out)
    have R48 := Lib.hid (R41.out.keptN H46.out)
    have R49 := Lib.hid (R42.out.keptN H46.out)
    have R50 := Lib.hid (R43.out.keptN H46.out)
    have R51 := Lib.hid (R44.out.keptN H46.out)
    have R52 := Lib.hid (Q39.out.keptN H46.out)
    have G53 := Lib.hid (gtr G45.out H46.out)
    go_wp2_with fail
    refine (mark_row _ _ _ la _ za (1) R49.out (by omega) (by omega)).mono ?_
    rintro e W54 ⟨rfl, hg, hr⟩
    have H54 := Lib.hid hg; have Q54 := Lib.hid hr; clear hr hg
    have R55 := Lib.hid (R47.out.kept H54.out (by intro e; injection e with e; omega))
    have R56 := Lib.hid (R48.out.kept H54.out (by intro e; injection e with e; omega))
    have R57 := Lib.hid (R50.out.kept H54.out (by intro e; injection e with e; omega))
    have R58 := Lib.hid (R51.out.kept H54.out (by intro e; injection e with e; omega))
    have R59 := Lib.hid (R52.out.kept H54.out (by intro e; injection e with e; omega))
    have G60 := Lib.hid (grown_new G53.out (by omega) H54.out)
    go_wp2_with fail
    refine (mark_row _ _ _ lb _ zb (1 + la) R57.out (by omega) (by omega)).mono ?_
    rintro e W61 ⟨rfl, hg, hr⟩
    have H61 := Lib.hid hg; have Q61 := Lib.hid hr; clear hr hg
    have R62 := Lib.hid (R55.out.kept H61.out (by intro e; injection e with e; omega))
    have R63 := Lib.hid (R56.out.kept H61.out (by intro e; injection e with e; omega))
    have R64 := Lib.hid (Q54.out.kept H61.out (by intro e; injection e with e; omega))
    have R65 := Lib.hid (R58.out.kept H61.out (by intro e; injection e with e; omega))
    have R66 := Lib.hid (R59.out.kept H61.out (by intro e; injection e with e; omega))
    have G67 := Lib.hid (grown_new G60.out (by omega) H61.out)
    go_wp2_with fail
    refine (eqint _ _ _ 0 _ _ za (Ints.zero _ _ _) (Ints.zero _ _ _) (by omega)).mono ?_
    rintro e W68 ⟨rfl, hg⟩
    have H68 := Lib.hid hg; clear hg
    have R69 := Lib.hid (R62.out.keptN H68.out)
    have R70 := Lib.hid (R63.out.keptN H68.out)
    have R71 := Lib.hid (R64.out.keptN H68.out)
    have R72 := Lib.hid (Q61.out.keptN H68.out)
    have R73 := Lib.hid (R65.out.keptN H68.out)
    have R74 := Lib.hid (R66.out.keptN H68.out)
    have G75 := Lib.hid (gtr G67.out H68.out)
    go_wp2_with fail
    refine (mark_zero _ _ _ _).mono ?_
    rintro e w76 ⟨rfl, rfl⟩
    go_wp2_with fail
    refine (held _ _ 0 _ 1 (Ints.zero _ _ _) (by omega) (by omega)).mono ?_
    rintro e w77 ⟨rfl, rfl⟩
    go_wp2_with fail
    refine (toInt _ _ _ _ za (HA.out.kept G75.out) (by omega)).mono ?_
    rintro e W78 ⟨b78, rfl, hr, hg⟩
    have H78 := Lib.hid hg; have Q78 := Lib.hid hr; have ge78 := hr.from_; have lt78 := hr.lt; have cl78 := hr.le; clear hr hg
    have lo78 : w.heap.size ≤ b78 := by have := G75.out.size; omega
    have ne78_b1 : b1 < b78 := by have := R69.out.lt; omega
    have ne78_b3 : b3 < b78 := by have := R70.out.lt; omega
    have ne78_b10 : b10 < b78 := by have := R71.out.lt; omega
    have ne78_b14 : b14 < b78 := by have := R72.out.lt; omega
    have ne78_b26 : b26 < b78 := by have := R73.out.lt; omega
    have ne78_b39 : b39 < b78 := by have := R74.out.lt; omega
    have R79 := Lib.hid (R69.out.keptN H78.out)
    have R80 := Lib.hid (R70.out.keptN H78.out)
    have R81 := Lib.hid (R71.out.keptN H78.out)
    have R82 := Lib.hid (R72.out.keptN H78.out)
    have R83 := Lib.hid (R73.out.keptN H78.out)
    have R84 := Lib.hid (R74.out.keptN H78.out)
    have G85 := Lib.hid (gtr G75.out H78.out)
    go_wp2_with fail
    refine (toInt _ _ _ _ zb (HB.out.kept G85.out) (by omega)).mono ?_
    rintro e W86 ⟨b86, rfl, hr, hg⟩
    have H86 := Lib.hid hg; have Q86 := Lib.hid hr; have ge86 := hr.from_; have lt86 := hr.lt; have cl86 := hr.le; clear hr hg
    have lo86 : w.heap.size ≤ b86 := by have := G85.out.size; omega
    have ne86_b1 : b1 < b86 := by have := R79.out.lt; omega
    have ne86_b3 : b3 < b86 := by have := R80.out.lt; omega
    have ne86_b10 : b10 < b86 := by have := R81.out.lt; omega
    have ne86_b14 : b14 < b86 := by have := R82.out.lt; omega
    have ne86_b26 : b26 < b86 := by have := R83.out.lt; omega
    have ne86_b39 : b39 < b86 := by have := R84.out.lt; omega
    have ne86_b78 : b78 < b86 := by have := Q78.out.lt; omega
    have R87 := Lib.hid (R79.out.keptN H86.out)
    have R88 := Lib.hid (R80.out.keptN H86.out)
    have R89 := Lib.hid (R81.out.keptN H86.out)
    have R90 := Lib.hid (R82.out.keptN H86.out)
    have R91 := Lib.hid (R83.out.keptN H86.out)
    have R92 := Lib.hid (R84.out.keptN H86.out)
    have R93 := Lib.hid (Q78.out.keptN H86.out)
    have G94 := Lib.hid (gtr G85.out H86.out)
    go_wp2_with fail
    refine (ipsum_no _ _ _ _ _ _ _ za zb R93.out.ints Q86.out.ints (by omega) (by omega) HP.out).mono ?_
    rintro e w95 ⟨rfl, rfl⟩
    go_wp2_with fail
    refine (eqint _ _ _ 0 _ _ za (Ints.zero _ _ _) (Ints.zero _ _ _) (by omega)).mono ?_
    rintro e W96 ⟨rfl, hg⟩
    have H96 := Lib.hid hg; clear hg
    have R97 := Lib.hid (R87.out.keptN H96.out)
    have R98 := Lib.hid (R88.out.keptN H96.out)
    have R99 := Lib.hid (R89.out.keptN H96.out)
    have R100 := Lib.hid (R90.out.keptN H96.out)
    have R101 := Lib.hid (R91.out.keptN H96.out)
    have R102 := Lib.hid (R92.out.keptN H96.out)
    have R103 := Lib.hid (R93.out.keptN H96.out)
    have R104 := Lib.hid (Q86.out.keptN H96.out)
    have G105 := Lib.hid (gtr G94.out H96.out)
    go_wp2_with fail
    refine (held _ _ 0 _ 1 (Ints.zero _ _ _) (by omega) (by omega)).mono ?_
    rintro e w106 ⟨rfl, rfl⟩
    go_wp2
    go_ret
    exact ⟨rfl, Draw.below_of G105.out⟩
end Run
end Go.Proofs.Ytlhemnpoamlfiaa
