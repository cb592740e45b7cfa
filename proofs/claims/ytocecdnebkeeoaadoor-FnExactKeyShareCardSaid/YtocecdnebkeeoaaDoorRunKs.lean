/-
  The walk of the exact law on a member's share of a key.
-/
import Derived.Test.YtocecdnebkeeoaaDoorKd
import Derived.Test.YtocecdnebkeeoaaDoorRunKg
import Derived.Test.YtocecdnebkeeoaaDoorRunKe
namespace Go.Proofs.YtocecdnebkeeoaaDoor
namespace Run
open Go.RowKit Alg Mem Con Mp
set_option linter.unusedVariables false

theorem accV_val (o : Option Int) : ∃ (v : Int) (b : Bool), accV o = .tuple #[.int .i64 v, .bool b] := by
  cases o with
  | none => exact ⟨0, false, rfl⟩
  | some s => exact ⟨s, true, rfl⟩
set_option maxRecDepth 100000 in
set_option maxHeartbeats 16000000 in
theorem FnExactKeyShare (need many : Int) (ag : Option Addr) (ng cg : Nat) (zg : Nat → Int) (ac : Option Addr) (nc cc : Nat) (zc : Nat → Int) (ad : Option Addr) (nd cd : Nat) (D : Nat → DV) (aa : Option Addr) (na ca : Nat) (A : Nat → Ans) (m : Int) (w : World) (a0 : Addr) (hv : Sent w a0) (hA : Ints w ag ng zg) (hB : Ints w ac nc zc) (hm1 : ng ≤ maxLen) (hm2 : nc ≤ maxLen) (hD : DealsIn w ad nd D) (hDm : ∀ j, j < nd → (D j).n1 ≤ maxLen ∧ (D j).n2 ≤ maxLen) (hm3 : nd ≤ maxLen) (hI : AnsIn w aa na A) (hW : WfA na A) (hm4 : na ≤ maxLen) :
    Calls Tryd.prog 7 #[.agg #[.int .i64 need, .int .i64 many, .slice ag ng cg, .slice ac nc cc], .slice ad nd cd, .slice aa na ca, .int .i64 m] w (Yes w) := by
  have HO := Lib.hid (Draw.grown_alloc w (.cells #[.int .i64 need, .int .i64 many, .slice ag ng cg, .slice ac nc cc] 57) none)
  have HK := Lib.hid (Ky.new w need many (.slice ag ng cg) (.slice ac nc cc) 57)
  have HA := Lib.hid hA; have HB := Lib.hid hB; have HV := Lib.hid hv; have HI := Lib.hid hI; have HW := Lib.hid hW; have HD := Lib.hid hD; have HM := Lib.hid hDm; clear hA hB hv hI hW hD hDm
  by_cases hbig : (1048576 : Int) < (ng : Int) + (nc : Int)
  · go_enter Tryd.func7, Tryd.ntmps7
    go_wp2_with fail
    refine (szkey_no _ need many ag ng cg ac nc cc 1048576 (by omega) (by omega) hm1 hm2 (by omega)).mono ?_
    rintro e w1 ⟨rfl, hg⟩
    have G1 := Lib.hid (gtr HO.out hg); clear hg
    go_wp2
    go_ret
    exact ⟨rfl, Draw.below_of G1.out⟩
  have hl1 : ng ≤ 2000000 := by omega
  have hl2 : nc ≤ 2000000 := by omega
  have hpos : ¬ (1048576 : Int) - (ng : Int) - (nc : Int) < 0 := by omega
  go_enter Tryd.func7, Tryd.ntmps7
  go_wp2_with fail
  refine (szkey_yes _ need many ag ng cg ac nc cc 1048576 (by omega) (by omega)).mono ?_
  rintro e w1 ⟨rfl, hg⟩
  have G1 := Lib.hid (gtr HO.out hg); have K1 := Lib.hid (HK.out.kept hg); clear hg HO HK
  go_wp2_with fail
  refine (szdeals _ ad nd cd D _ (by omega) (by omega) (HD.out.kept G1.out) hm3 HM.out).mono ?_
  rintro e w2 ⟨r, rfl, hg, hr⟩
  have G2 := Lib.hid (gtr G1.out hg); have K2 := Lib.hid (K1.out.kept hg); clear hg K1
  rcases hr with rfl | ⟨hr0, hr1, hl3', hL⟩
  · go_wp2
    go_ret
    exact ⟨rfl, Draw.below_of G2.out⟩
  have hl3 : nd ≤ 2000000 := by omega
  have HL := Lib.hid hL; clear hL
  have hrn : ¬ r < 0 := by omega
  by_cases hbig2 : r < (na : Int)
  · go_wp2_with fail
    refine (szans_no _ aa na ca r hr0 (by omega) hm4 hbig2).mono ?_
    rintro e w' ⟨rfl, rfl⟩
    go_wp2
    go_ret
    exact ⟨rfl, Draw.below_of G2.out⟩
  have hl4 : na ≤ 2000000 := by omega
  have hpos2 : ¬ r - (na : Int) < 0 := by omega
  go_wp2_with fail
  refine (szans_yes _ aa na ca r (by omega) (by omega)).mono ?_
  rintro e w' ⟨rfl, rfl⟩
  obtain ⟨_, k0, k1, k2, k3⟩ := K2.out
  go_wp2_with fail
  refine (tokey _ need many ag ng cg zg ac nc cc zc (HA.out.kept G2.out) (HB.out.kept G2.out) hl1 hl2).mono ?_
  rintro e w3 ⟨b1, b2, rfl, hbb, hr1', hr2', hg⟩
  have G3 := Lib.hid (gtr G2.out hg); have K3 := Lib.hid (K2.out.kept hg); have P1 := Lib.hid hr1'.ints; have P2 := Lib.hid hr2'.ints
  clear hr1' hr2' hg K2 k0 k1 k2 k3 hbb
  go_wp2_with fail
  refine (todeals _ ad nd cd D (HD.out.kept G3.out) hl3 HL.out).mono ?_
  rintro e w4 ⟨b3, B1, B2, rfl, hd, hg⟩
  have G4 := Lib.hid (gtr G3.out hg); have K4 := Lib.hid (K3.out.kept hg); have P1b := Lib.hid (P1.out.kept hg); have P2b := Lib.hid (P2.out.kept hg); have P3 := Lib.hid hd
  clear hd hg K3 P1 P2
  go_wp2_with fail
  refine (toanss _ aa na ca A (HI.out.kept G4.out) hl4).mono ?_
  rintro e w5 ⟨b4, rfl, hr, hg⟩
  have G5 := Lib.hid (gtr G4.out hg); have K5 := Lib.hid (K4.out.kept hg); have P1c := Lib.hid (P1b.out.kept hg); have P2c := Lib.hid (P2b.out.kept hg); have P3c := Lib.hid (P3.out.kept hg); have P4 := Lib.hid hr.ans
  clear hr hg K4 P1b P2b P3
  have hsh := ksh_re need many ng zg nc zc D B1 B2 nd A na m
  go_wp2_with fail
  refine (skeyshare _ need many _ ng _ zg _ nc _ zc _ nd _ (re D B1 B2) _ na _ A m P1c.out P2c.out P3c.out HL.out P4.out hl1 hl2 hl3 hl4).mono ?_
  rintro e w6 ⟨rfl, hg⟩
  rw [hsh]
  have G6 := Lib.hid (gtr G5.out hg); have K6 := Lib.hid (K5.out.kept hg); clear hg K5 P1c P2c P3c P4 hsh
  generalize hval : kshF need many ng zg nc zc D nd A na m = o
  have HVal := Lib.hid hval; clear hval
  obtain ⟨v, bo, hvb⟩ := accV_val o
  rw [hvb]
  have HVb := Lib.hid hvb; clear hvb
  obtain ⟨_, k0, k1, k2, k3⟩ := K6.out
  go_wp2_with fail
  refine (tokey _ need many ag ng cg zg ac nc cc zc (HA.out.kept G6.out) (HB.out.kept G6.out) hl1 hl2).mono ?_
  rintro e w7 ⟨b5, b6, rfl, hbb, hr1', hr2', hg⟩
  have HO := Lib.hid (Draw.grown_alloc w7 (.cells #[.int .i64 need, .int .i64 many, .slice (some ⟨b5, 0, none⟩) ng ng, .slice (some ⟨b6, 0, none⟩) nc nc] 39) none)
  have X7 := Lib.hid (Ky.new w7 need many (.slice (some ⟨b5, 0, none⟩) ng ng) (.slice (some ⟨b6, 0, none⟩) nc nc) 39)
  have G7 := Lib.hid (gtr (gtr G6.out hg) HO.out); have K7 := Lib.hid ((K6.out.kept hg).kept HO.out); have P1 := Lib.hid (hr1'.ints.kept HO.out); have P2 := Lib.hid (hr2'.ints.kept HO.out)
  clear hr1' hr2' hg K6 k0 k1 k2 k3 hbb HO
  go_wp2_with fail
  refine (todeals _ ad nd cd D (HD.out.kept G7.out) hl3 HL.out).mono ?_
  rintro e w8 ⟨b7, B3, B4, rfl, hd, hg⟩
  have G8 := Lib.hid (gtr G7.out hg); have K8 := Lib.hid (K7.out.kept hg); have X8 := Lib.hid (X7.out.kept hg); have P1b := Lib.hid (P1.out.kept hg); have P2b := Lib.hid (P2.out.kept hg); have P3 := Lib.hid hd
  clear hd hg K7 X7 P1 P2
  go_wp2_with fail
  refine (toanss _ aa na ca A (HI.out.kept G8.out) hl4).mono ?_
  rintro e w9 ⟨b8, rfl, hr, hg⟩
  have G9 := Lib.hid (gtr G8.out hg); have K9 := Lib.hid (K8.out.kept hg); have X9 := Lib.hid (X8.out.kept hg); have P1c := Lib.hid (P1b.out.kept hg); have P2c := Lib.hid (P2b.out.kept hg); have P3c := Lib.hid (P3.out.kept hg); have P4 := Lib.hid hr.ans
  clear hr hg K8 X8 P1b P2b P3
  obtain ⟨_, x0, x1, x2, x3⟩ := X9.out
  have hsh := (ksh_re need many ng zg nc zc D B3 B4 nd A na m).trans HVal.out
  go_wp2_with fail
  refine (ikeyshare _ need many _ ng _ zg _ nc _ zc _ nd _ (re D B3 B4) _ na _ A m P1c.out P2c.out P3c.out HL.out P4.out HW.out hl1 hl2 hl3 hl4 a0 (HV.out.kept G9.out)).mono ?_
  rintro e w10 ⟨rfl, hg⟩
  rw [hsh, HVb.out]
  have G10 := Lib.hid (gtr G9.out hg); have K10 := Lib.hid (K9.out.kept hg); have X10 := Lib.hid (X9.out.kept hg); have Q1 := Lib.hid (P1c.out.kept hg); have Q2 := Lib.hid (P2c.out.kept hg); have Q3 := Lib.hid (P3c.out.kept hg); have Q4 := Lib.hid (P4.out.kept hg)
  clear hg K9 X9 P1c P2c P3c P4 x0 x1 x2 x3 hsh
  obtain ⟨_, k0, k1, k2, k3⟩ := K10.out
  obtain ⟨_, x0, x1, x2, x3⟩ := X10.out
  have hne : (v != v) = false := by simp
  have hne' : (bo != bo) = false := by simp
  have HAd := Lib.hid ((HA.out.kept G10.out).keptB (w' := w10.drew) (fun _ _ => rfl) (Nat.le_refl _)); have HBd := Lib.hid ((HB.out.kept G10.out).keptB (w' := w10.drew) (fun _ _ => rfl) (Nat.le_refl _))
  go_wp2_with fail
  go_region_held3 (fun w' => w'.cell? ⟨w.heap.size, 0, none⟩ = some (.int .i64 need) ∧ w'.cell? ⟨w.heap.size, 1, none⟩ = some (.int .i64 many) ∧ w'.cell? ⟨w.heap.size, 2, none⟩ = some (.slice ag ng cg) ∧ w'.cell? ⟨w.heap.size, 3, none⟩ = some (.slice ac nc cc) ∧ w'.cell? ⟨w7.heap.size, 0, none⟩ = some (.int .i64 need) ∧ w'.cell? ⟨w7.heap.size, 1, none⟩ = some (.int .i64 many) ∧ w'.cell? ⟨w7.heap.size, 2, none⟩ = some (.slice (some ⟨b5, 0, none⟩) ng ng) ∧ w'.cell? ⟨w7.heap.size, 3, none⟩ = some (.slice (some ⟨b6, 0, none⟩) nc nc)) (first | exact hS12 | exact hS11 | exact ⟨k0, k1, k2, k3, x0, x1, x2, x3⟩) (first
    | (go_at_call 30; (with_reducible refine (tokey _ need many ag ng cg zg ac nc cc zc HAd.out HBd.out hl1 hl2).mono ?_); rintro e w11 ⟨b9, b10, rfl, hbb, hr1', hr2', hg⟩; have Hg := Lib.hid (show w10.grownBy w11 none from ⟨hg.os, hg.tape, hg.output, hg.size, hg.block⟩); have P1 := Lib.hid hr1'.ints; have P2 := Lib.hid hr2'.ints; have K11 := Lib.hid (K10.out.kept Hg.out); have X11 := Lib.hid (X10.out.kept Hg.out); have Q1b := Lib.hid (Q1.out.kept Hg.out); have Q2b := Lib.hid (Q2.out.kept Hg.out); have Q3b := Lib.hid (Q3.out.kept Hg.out); have Q4b := Lib.hid (Q4.out.kept Hg.out); have G11 := Lib.hid (gtr G10.out Hg.out); have hS11 := eight_of K11.out X11.out; unfold Eight at hS11; clear hg hr1' hr2' hbb)
    | (go_at_call 32; (with_reducible refine (eqkey _ need many _ _ _ _ ng _ _ zg nc _ _ zc Q1b.out Q2b.out P1.out P2.out hl1 hl2).mono ?_); rintro e w12 ⟨rfl, hg⟩; have G12 := Lib.hid (gtr G11.out hg); have Q3c := Lib.hid (Q3b.out.kept hg); have Q4c := Lib.hid (Q4b.out.kept hg); have hS12 := eight_of (K11.out.kept hg) (X11.out.kept hg); unfold Eight at hS12; clear hg))
  all_goals
    clear hS11 hS12
    go_wp2_with fail
    refine (todeals _ ad nd cd D (HD.out.kept G12.out) hl3 HL.out).mono ?_
    rintro e w13 ⟨b11, B5, B6, rfl, hd, hg⟩
    have G13 := Lib.hid (gtr G12.out hg); have R3 := Lib.hid hd; have Q3d := Lib.hid (Q3c.out.kept hg); have Q4d := Lib.hid (Q4c.out.kept hg)
    clear hd hg
    go_wp2_with fail
    refine (eqdeals _ _ _ nd _ _ D B3 B4 B5 B6 Q3d.out R3.out hl3 HL.out).mono ?_
    rintro e w14 ⟨rfl, hg⟩
    have G14 := Lib.hid (gtr G13.out hg); have Q4e := Lib.hid (Q4d.out.kept hg); clear hg
    go_wp2_with fail
    refine (toanss _ aa na ca A (HI.out.kept G14.out) hl4).mono ?_
    rintro e w15 ⟨b12, rfl, hr, hg⟩
    have G15 := Lib.hid (gtr G14.out hg); have Q4f := Lib.hid (Q4e.out.kept hg); have R4 := Lib.hid hr.ans
    clear hr hg
    go_wp2_with fail
    refine (eqanss _ _ _ na _ _ A Q4f.out R4.out hl4).mono ?_
    rintro e w16 ⟨rfl, hg⟩
    have G16 := Lib.hid (gtr G15.out hg); clear hg
    go_wp2
    go_ret
    exact ⟨rfl, Draw.below_of G16.out⟩
end Run
end Go.Proofs.YtocecdnebkeeoaaDoor