/-
  The walk of the exact law on whether a deal counts.
-/
import Derived.Test.YtocecdnebkeeoaaDoorSk
import Derived.Test.YtocecdnebkeeoaaDoorOps
import Derived.Test.YtocecdnebkeeoaaDoorRunEd
namespace Go.Proofs.YtocecdnebkeeoaaDoor
namespace Run
open Go.RowKit Alg Mem Con Mp
set_option linter.unusedVariables false

set_option maxRecDepth 100000 in
set_option maxHeartbeats 8000000 in
theorem FnExactKeyGood (f : Int) (a1 : Option Addr) (n1 c1 : Nat) (z1 : Nat → Int) (a2 : Option Addr) (n2 c2 : Nat) (z2 : Nat → Int) (a3 : Option Addr) (na ca : Nat) (A : Nat → Ans) (need many : Int) (w : World) (a0 : Addr) (hv : Sent w a0) (hA : Ints w a1 n1 z1) (hB : Ints w a2 n2 z2) (hm1 : n1 ≤ maxLen) (hm2 : n2 ≤ maxLen) (hI : AnsIn w a3 na A) (hW : WfA na A) (hm3 : na ≤ maxLen) :
    Calls Tryd.prog 6 #[.agg #[.int .i64 f, .slice a1 n1 c1, .slice a2 n2 c2], .slice a3 na ca, .int .i64 need, .int .i64 many] w (Yes w) := by
  have HO := Lib.hid (Draw.grown_alloc w (.cells #[.int .i64 f, .slice a1 n1 c1, .slice a2 n2 c2] 48) none)
  have HD := Lib.hid (Dl.new w f (.slice a1 n1 c1) (.slice a2 n2 c2) 48)
  have HA := Lib.hid hA; have HB := Lib.hid hB; have HV := Lib.hid hv; have HI := Lib.hid hI; have HW := Lib.hid hW; clear hA hB hv hI hW
  by_cases hbig : (1048576 : Int) < (n1 : Int) + (n2 : Int)
  · go_enter Tryd.func6, Tryd.ntmps6
    go_wp2_with fail
    refine (szdeal_no _ f a1 n1 c1 a2 n2 c2 1048576 (by omega) (by omega) hm1 hm2 (by omega)).mono ?_
    rintro e w1 ⟨rfl, hg⟩
    have G1 := Lib.hid (gtr HO.out hg); clear hg
    go_wp2
    go_ret
    exact ⟨rfl, Draw.below_of G1.out⟩
  have hl1 : n1 ≤ 2000000 := by omega
  have hl2 : n2 ≤ 2000000 := by omega
  have hpos : ¬ (1048576 : Int) - (n1 : Int) - (n2 : Int) < 0 := by omega
  by_cases hbig2 : (1048576 : Int) - (n1 : Int) - (n2 : Int) < (na : Int)
  · go_enter Tryd.func6, Tryd.ntmps6
    go_wp2_with fail
    refine (szdeal_yes _ f a1 n1 c1 a2 n2 c2 1048576 (by omega) (by omega)).mono ?_
    rintro e w1 ⟨rfl, hg⟩
    have G1 := Lib.hid (gtr HO.out hg); clear hg
    go_wp2_with fail
    refine (szans_no _ a3 na ca _ (by omega) (by omega) hm3 (by omega)).mono ?_
    rintro e w' ⟨rfl, rfl⟩
    go_wp2
    go_ret
    exact ⟨rfl, Draw.below_of G1.out⟩
  have hl3 : na ≤ 2000000 := by omega
  have hpos2 : ¬ (1048576 : Int) - (n1 : Int) - (n2 : Int) - (na : Int) < 0 := by omega
  go_enter Tryd.func6, Tryd.ntmps6
  go_wp2_with fail
  refine (szdeal_yes _ f a1 n1 c1 a2 n2 c2 1048576 (by omega) (by omega)).mono ?_
  rintro e w1 ⟨rfl, hg⟩
  have G1 := Lib.hid (gtr HO.out hg); have D1 := Lib.hid (HD.out.kept hg); clear hg HO HD
  obtain ⟨_, k0, k1, k2⟩ := D1.out
  go_wp2_with fail
  refine (szans_yes _ a3 na ca _ (by omega) (by omega)).mono ?_
  rintro e w' ⟨rfl, rfl⟩
  go_wp2_with fail
  refine (todeal _ f a1 n1 c1 z1 a2 n2 c2 z2 (HA.out.kept G1.out) (HB.out.kept G1.out) hl1 hl2).mono ?_
  rintro e w2 ⟨b1, b2, rfl, hbb, hr1, hr2, hg⟩
  have G2 := Lib.hid (gtr G1.out hg); have D2 := Lib.hid (D1.out.kept hg); have P1 := Lib.hid hr1.ints; have P2 := Lib.hid hr2.ints
  clear hr1 hr2 hg D1 k0 k1 k2 hbb
  go_wp2_with fail
  refine (toanss _ a3 na ca A (HI.out.kept G2.out) hl3).mono ?_
  rintro e w3 ⟨b3, rfl, hr, hg⟩
  have G3 := Lib.hid (gtr G2.out hg); have D3 := Lib.hid (D2.out.kept hg); have P1b := Lib.hid (P1.out.kept hg); have P2b := Lib.hid (P2.out.kept hg); have P3 := Lib.hid hr.ans
  clear hr hg D2 P1 P2
  go_wp2_with fail
  refine (skeygood _ f _ n1 _ z1 _ n2 _ z2 _ na _ A need many P1b.out P2b.out P3.out hl1 hl2 hl3).mono ?_
  rintro e w4 ⟨rfl, hg⟩
  have G4 := Lib.hid (gtr G3.out hg); have D4 := Lib.hid (D3.out.kept hg); clear hg D3 P1b P2b P3
  obtain ⟨_, k0, k1, k2⟩ := D4.out
  go_wp2_with fail
  refine (todeal _ f a1 n1 c1 z1 a2 n2 c2 z2 (HA.out.kept G4.out) (HB.out.kept G4.out) hl1 hl2).mono ?_
  rintro e w5 ⟨b4, b5, rfl, hbb, hr1, hr2, hg⟩
  have HO := Lib.hid (Draw.grown_alloc w5 (.cells #[.int .i64 f, .slice (some ⟨b4, 0, none⟩) n1 n1, .slice (some ⟨b5, 0, none⟩) n2 n2] 25) none)
  have X5 := Lib.hid (Dl.new w5 f (.slice (some ⟨b4, 0, none⟩) n1 n1) (.slice (some ⟨b5, 0, none⟩) n2 n2) 25)
  have G5 := Lib.hid (gtr (gtr G4.out hg) HO.out); have D5 := Lib.hid ((D4.out.kept hg).kept HO.out); have P1 := Lib.hid (hr1.ints.kept HO.out); have P2 := Lib.hid (hr2.ints.kept HO.out)
  clear hr1 hr2 hg D4 k0 k1 k2 hbb HO
  go_wp2_with fail
  refine (toanss _ a3 na ca A (HI.out.kept G5.out) hl3).mono ?_
  rintro e w6 ⟨b6, rfl, hr, hg⟩
  have G6 := Lib.hid (gtr G5.out hg); have D6 := Lib.hid (D5.out.kept hg); have X6 := Lib.hid (X5.out.kept hg); have P1c := Lib.hid (P1.out.kept hg); have P2c := Lib.hid (P2.out.kept hg); have P3 := Lib.hid hr.ans
  clear hr hg D5 X5 P1 P2
  obtain ⟨_, x0, x1, x2⟩ := X6.out
  go_wp2_with fail
  refine (ikeygood _ f _ n1 _ z1 _ n2 _ z2 _ na _ A need many P1c.out P2c.out P3.out HW.out hl1 hl2 hl3 a0 (HV.out.kept G6.out)).mono ?_
  rintro e w7 ⟨rfl, hg⟩
  have G7 := Lib.hid (gtr G6.out hg); have D7 := Lib.hid (D6.out.kept hg); have X7 := Lib.hid (X6.out.kept hg); have Q1 := Lib.hid (P1c.out.kept hg); have Q2 := Lib.hid (P2c.out.kept hg); have Q3 := Lib.hid (P3.out.kept hg)
  clear hg D6 X6 P1c P2c P3 x0 x1 x2
  obtain ⟨_, k0, k1, k2⟩ := D7.out
  obtain ⟨_, x0, x1, x2⟩ := X7.out
  have hne : (gdF f n1 z1 n2 z2 A na need many != gdF f n1 z1 n2 z2 A na need many) = false := by simp
  generalize hdl : gdF f n1 z1 n2 z2 A na need many = dl at hne ⊢
  have HAd := Lib.hid ((HA.out.kept G7.out).keptB (w' := w7.drew) (fun _ _ => rfl) (Nat.le_refl _)); have HBd := Lib.hid ((HB.out.kept G7.out).keptB (w' := w7.drew) (fun _ _ => rfl) (Nat.le_refl _))
  go_wp2_with fail
  go_region_held3 (fun w' => w'.cell? ⟨w.heap.size, 0, none⟩ = some (.int .i64 f) ∧ w'.cell? ⟨w.heap.size, 1, none⟩ = some (.slice a1 n1 c1) ∧ w'.cell? ⟨w.heap.size, 2, none⟩ = some (.slice a2 n2 c2) ∧ w'.cell? ⟨w5.heap.size, 0, none⟩ = some (.int .i64 f) ∧ w'.cell? ⟨w5.heap.size, 1, none⟩ = some (.slice (some ⟨b4, 0, none⟩) n1 n1) ∧ w'.cell? ⟨w5.heap.size, 2, none⟩ = some (.slice (some ⟨b5, 0, none⟩) n2 n2)) (first | exact hS9 | exact hS8 | exact ⟨k0, k1, k2, x0, x1, x2⟩) (first
    | (go_at_call 24; (with_reducible refine (todeal _ f a1 n1 c1 z1 a2 n2 c2 z2 HAd.out HBd.out hl1 hl2).mono ?_); rintro e w8 ⟨b7, b8, rfl, hbb, hr1, hr2, hg⟩; have Hg := Lib.hid (show w7.grownBy w8 none from ⟨hg.os, hg.tape, hg.output, hg.size, hg.block⟩); have P1 := Lib.hid hr1.ints; have P2 := Lib.hid hr2.ints; have D8 := Lib.hid (D7.out.kept Hg.out); have X8 := Lib.hid (X7.out.kept Hg.out); have Q4 := Lib.hid (Q1.out.kept Hg.out); have Q5 := Lib.hid (Q2.out.kept Hg.out); have Q6 := Lib.hid (Q3.out.kept Hg.out); have G8 := Lib.hid (gtr G7.out Hg.out); have hS8 := six_of D8.out X8.out; unfold Six at hS8; clear hg hr1 hr2 hbb)
    | (go_at_call 26; (with_reducible refine (eqdeal _ f _ _ _ _ n1 _ _ z1 n2 _ _ z2 Q4.out Q5.out P1.out P2.out hl1 hl2).mono ?_); rintro e w9 ⟨rfl, hg⟩; have G9 := Lib.hid (gtr G8.out hg); have Q9 := Lib.hid (Q6.out.kept hg); have hS9 := six_of (D8.out.kept hg) (X8.out.kept hg); unfold Six at hS9; clear hg))
  all_goals
    clear hS8 hS9
    go_wp2_with fail
    refine (toanss _ a3 na ca A (HI.out.kept G9.out) hl3).mono ?_
    rintro e w10 ⟨b9, rfl, hr, hg⟩
    have G10 := Lib.hid (gtr G9.out hg); have Q10 := Lib.hid (Q9.out.kept hg); have R10 := Lib.hid hr.ans
    clear hr hg
    go_wp2_with fail
    refine (eqanss _ _ _ na _ _ A Q10.out R10.out hl3).mono ?_
    rintro e w11 ⟨rfl, hg⟩
    have G11 := Lib.hid (gtr G10.out hg); clear hg
    go_wp2
    go_ret
    exact ⟨rfl, Draw.below_of G11.out⟩
end Run
end Go.Proofs.YtocecdnebkeeoaaDoor
