/-
  The walk of the exact law on whose shares are wrong.
-/
import Derived.Test.YthjflmokfkcalaaSi
import Derived.Test.YthjflmokfkcalaaMk
import Derived.Test.YthjflmokfkcalaaRunEd
import Derived.Deep.RegionHeld3
namespace Go.Proofs.Ythjflmokfkcalaa
namespace Run
open Go.RowKit Alg Mem Con Hd
set_option linter.unusedVariables false

theorem sbF_len (need many : Int) (ng : Nat) (zg : Nat → Int) (nc : Nat) (zc : Nat → Int) (H : Nat → HV) (n : Nat) : (sbF need many ng zg nc zc H n).length ≤ n := by
  unfold sbF; split
  · exact sbl_len
  · simp
set_option maxRecDepth 100000 in
set_option maxHeartbeats 8000000 in
theorem FnExactSecretBad (need many : Int) (a1 : Option Addr) (n1 c1 : Nat) (z1 : Nat → Int) (a2 : Option Addr) (n2 c2 : Nat) (z2 : Nat → Int) (a3 : Option Addr) (len c3 : Nat) (H : Nat → HV) (w : World) (hA : Ints w a1 n1 z1) (hB : Ints w a2 n2 z2) (hI : HldIn w a3 len H) (hm1 : n1 ≤ maxLen) (hm2 : n2 ≤ maxLen) (hm3 : len ≤ maxLen) :
    Calls Try.prog 8 #[.agg #[.int .i64 need, .int .i64 many, .slice a1 n1 c1, .slice a2 n2 c2], .slice a3 len c3] w (Yes w) := by
  have HO := Lib.hid (Draw.grown_alloc w (.cells #[.int .i64 need, .int .i64 many, .slice a1 n1 c1, .slice a2 n2 c2] 52) none)
  have HD := Lib.hid (Ky.new w need many (.slice a1 n1 c1) (.slice a2 n2 c2) 52)
  have HA := Lib.hid hA; have HB := Lib.hid hB; have HI := Lib.hid hI; clear hA hB hI
  by_cases hbig : (1048576 : Int) < (n1 : Int) + (n2 : Int)
  · go_enter Try.func8, Try.ntmps8
    go_wp2_with fail
    refine (szkey_no _ need many a1 n1 c1 a2 n2 c2 1048576 (by omega) (by omega) hm1 hm2 (by omega)).mono ?_
    rintro e w1 ⟨rfl, hg⟩
    have G1 := Lib.hid (gtr HO.out hg); clear hg
    go_wp2
    go_ret
    exact ⟨rfl, Draw.below_of G1.out⟩
  have hpos : ¬ (1048576 : Int) - (n1 : Int) - (n2 : Int) < 0 := by omega
  by_cases hbig2 : (1048576 : Int) - (n1 : Int) - (n2 : Int) < (len : Int)
  · go_enter Try.func8, Try.ntmps8
    go_wp2_with fail
    refine (szkey_yes _ need many a1 n1 c1 a2 n2 c2 1048576 (by omega) (by omega)).mono ?_
    rintro e w1 ⟨rfl, hg⟩
    have G1 := Lib.hid (gtr HO.out hg); clear hg
    go_wp2_with fail
    refine (szhld_no _ a3 len c3 _ (by omega) (by omega) hm3 hbig2).mono ?_
    rintro e w' ⟨rfl, rfl⟩
    go_wp2
    go_ret
    exact ⟨rfl, Draw.below_of G1.out⟩
  have hl1 : n1 ≤ 1048576 := by omega
  have hl2 : n2 ≤ 1048576 := by omega
  have hl3 : len ≤ 1048576 := by omega
  have hpos3 : ¬ (1048576 : Int) - (n1 : Int) - (n2 : Int) - (len : Int) < 0 := by omega
  have hll : (sbF need many n1 z1 n2 z2 H len).length ≤ 1048576 := Nat.le_trans (sbF_len _ _ _ _ _ _ _ _) hl3
  go_enter Try.func8, Try.ntmps8
  go_wp2_with fail
  refine (szkey_yes _ need many a1 n1 c1 a2 n2 c2 1048576 (by omega) (by omega)).mono ?_
  rintro e w1 ⟨rfl, hg⟩
  have G1 := Lib.hid (gtr HO.out hg); have D1 := Lib.hid (HD.out.kept hg); clear hg HO HD
  obtain ⟨hD1, k0, k1, k2, k3⟩ := D1.out
  go_wp2_with fail
  refine (szhld_yes _ a3 len c3 _ (by omega) (by omega)).mono ?_
  rintro e w' ⟨rfl, rfl⟩
  go_wp2_with fail
  refine (tokey _ need many a1 n1 c1 z1 a2 n2 c2 z2 (HA.out.kept G1.out) (HB.out.kept G1.out) (by omega) (by omega)).mono ?_
  rintro e w2 ⟨b1, b2, rfl, hbb, hr1, hr2, hg⟩
  have G2 := Lib.hid (gtr G1.out hg); have D2 := Lib.hid (D1.out.kept hg); have P1 := Lib.hid hr1.ints; have P2 := Lib.hid hr2.ints
  clear hr1 hr2 hg D1 k0 k1 k2 k3 hbb
  go_wp2_with fail
  refine (tohlds _ a3 len c3 H (HI.out.kept G2.out) (by omega)).mono ?_
  rintro e w3 ⟨bh, rfl, hr, hg⟩
  have G3 := Lib.hid (gtr G2.out hg); have D3 := Lib.hid (D2.out.kept hg); have P3 := Lib.hid hr.hld; have P1b := Lib.hid (P1.out.kept hg); have P2b := Lib.hid (P2.out.kept hg)
  clear hr hg D2 P1 P2
  go_wp2_with fail
  refine (s13bad _ need many _ n1 _ z1 _ n2 _ z2 _ len _ H P1b.out P2b.out P3.out (by omega) (by omega) (by omega)).mono ?_
  rintro e w4 ⟨vw, rfl, hL, hg⟩
  have G4 := Lib.hid (gtr G3.out hg); have D4 := Lib.hid (D3.out.kept hg); have R4 := Lib.hid (LstB.of hL); have hDw4 := D4.out.lt
  clear hg D3 P1b P2b P3 hL
  obtain ⟨_, k0, k1, k2, k3⟩ := D4.out
  go_wp2_with fail
  refine (tokey _ need many a1 n1 c1 z1 a2 n2 c2 z2 (HA.out.kept G4.out) (HB.out.kept G4.out) (by omega) (by omega)).mono ?_
  rintro e w5 ⟨b3, b4, rfl, hbb, hr1, hr2, hg⟩
  have hge3 := hr1.from_; have hlt5 := hr2.lt
  have HO := Lib.hid (Draw.grown_alloc w5 (.cells #[.int .i64 need, .int .i64 many, .slice (some ⟨b3, 0, none⟩) n1 n1, .slice (some ⟨b4, 0, none⟩) n2 n2] 36) none)
  have hs5 : (w5.alloc (.cells #[.int .i64 need, .int .i64 many, .slice (some ⟨b3, 0, none⟩) n1 n1, .slice (some ⟨b4, 0, none⟩) n2 n2] 36)).heap.size = w5.heap.size + 1 := by show (w5.heap.push _).size = _; simp
  have X5 := Lib.hid (Ky.new w5 need many (.slice (some ⟨b3, 0, none⟩) n1 n1) (.slice (some ⟨b4, 0, none⟩) n2 n2) 36)
  have G5 := Lib.hid (gtr (gtr G4.out hg) HO.out); have D5 := Lib.hid ((D4.out.kept hg).kept HO.out); have P1 := Lib.hid (hr1.alloc (.cells #[.int .i64 need, .int .i64 many, .slice (some ⟨b3, 0, none⟩) n1 n1, .slice (some ⟨b4, 0, none⟩) n2 n2] 36)); have P2 := Lib.hid (hr2.alloc (.cells #[.int .i64 need, .int .i64 many, .slice (some ⟨b3, 0, none⟩) n1 n1, .slice (some ⟨b4, 0, none⟩) n2 n2] 36))
  have R5 := Lib.hid ((R4.out.kept hg).kept HO.out)
  clear hr1 hr2 hg D4 R4 k0 k1 k2 k3 HO
  have HS5 := Lib.hid hs5; clear hs5
  go_wp2_with fail
  refine (tohlds _ a3 len c3 H (HI.out.kept G5.out) (by omega)).mono ?_
  rintro e w6 ⟨b6, rfl, hr, hg⟩
  have hge6 := hr.from_; have hlt6 := hr.lt
  rw [HS5.out] at hge6
  have G6 := Lib.hid (gtr G5.out hg); have D6 := Lib.hid (D5.out.kept hg); have X6 := Lib.hid (X5.out.kept hg); have Q1 := Lib.hid (P1.out.keptN hg); have Q2 := Lib.hid (P2.out.keptN hg); have Q3 := Lib.hid hr; have R6 := Lib.hid (R5.out.kept hg)
  clear hr hg D5 X5 P1 P2 R5
  obtain ⟨_, x0, x1, x2, x3⟩ := X6.out
  go_wp2_with fail
  refine (ibad _ need many _ n1 _ z1 _ n2 _ z2 _ len _ H Q1.out.ints Q2.out.ints Q3.out.hld (by omega) (by omega) (by omega)).mono ?_
  rintro e w7 ⟨v, rfl, hL, hg⟩
  have L7 := Lib.hid hL; have G7 := Lib.hid (gtr G6.out hg); have D7 := Lib.hid (D6.out.kept hg); have X7 := Lib.hid (X6.out.kept hg); have U1 := Lib.hid (Q1.out.keptN hg); have U2 := Lib.hid (Q2.out.keptN hg); have U3 := Lib.hid (Q3.out.keptN hg); have R7 := Lib.hid (R6.out.kept hg)
  clear hg D6 X6 Q1 Q2 Q3 R6 hL x0 x1 x2 x3
  obtain ⟨av, cv, hvv, hLi, _, _⟩ := L7.out.slice
  obtain ⟨aw, cw, hww, hRi⟩ := R7.out.slice
  have HLi := Lib.hid hLi; have HVV := Lib.hid hvv; have HRi := Lib.hid hRi; have HWW := Lib.hid hww; clear hLi hvv hRi hww
  go_wp2_with fail
  refine Calls.mono (by rw [HVV.out, HWW.out]; exact eqint _ _ _ _ _ _ (li (sbF need many n1 z1 n2 z2 H len)) HLi.out HRi.out (by omega)) ?_
  rintro e w8 ⟨rfl, hg⟩
  have L8 := Lib.hid (L7.out.kept hg); have G8 := Lib.hid (gtr G7.out hg); have D8 := Lib.hid (D7.out.kept hg); have X8 := Lib.hid (X7.out.kept hg); have V1 := Lib.hid (U1.out.keptN hg); have V2 := Lib.hid (U2.out.keptN hg); have V3 := Lib.hid (U3.out.keptN hg); have R8 := Lib.hid (R7.out.kept hg)
  clear hg L7 G7 D7 X7 U1 U2 U3 R7 HLi HRi
  obtain ⟨_, k0, k1, k2, k3⟩ := D8.out
  obtain ⟨_, x0, x1, x2, x3⟩ := X8.out
  have HAd := Lib.hid ((HA.out.kept G8.out).keptB (w' := w8.drew) (fun _ _ => rfl) (Nat.le_refl _)); have HBd := Lib.hid ((HB.out.kept G8.out).keptB (w' := w8.drew) (fun _ _ => rfl) (Nat.le_refl _))
  go_wp2_with fail
  go_region_held3 (fun w' => w'.cell? ⟨w.heap.size, 0, none⟩ = some (.int .i64 need) ∧ w'.cell? ⟨w.heap.size, 1, none⟩ = some (.int .i64 many) ∧ w'.cell? ⟨w.heap.size, 2, none⟩ = some (.slice a1 n1 c1) ∧ w'.cell? ⟨w.heap.size, 3, none⟩ = some (.slice a2 n2 c2) ∧ w'.cell? ⟨w5.heap.size, 0, none⟩ = some (.int .i64 need) ∧ w'.cell? ⟨w5.heap.size, 1, none⟩ = some (.int .i64 many) ∧ w'.cell? ⟨w5.heap.size, 2, none⟩ = some (.slice (some ⟨b3, 0, none⟩) n1 n1) ∧ w'.cell? ⟨w5.heap.size, 3, none⟩ = some (.slice (some ⟨b4, 0, none⟩) n2 n2)) (first | exact hS10 | exact hS9 | exact ⟨k0, k1, k2, k3, x0, x1, x2, x3⟩) (first
    | (go_at_call 29; (with_reducible refine (tokey _ need many a1 n1 c1 z1 a2 n2 c2 z2 HAd.out HBd.out (by omega) (by omega)).mono ?_); rintro e w9 ⟨b7, b8, rfl, hbb9, hr1, hr2, hg⟩; have Hg9 := Lib.hid (show w8.grownBy w9 none from ⟨hg.os, hg.tape, hg.output, hg.size, hg.block⟩); have P1 := Lib.hid hr1.ints; have P2 := Lib.hid hr2.ints; have D9 := D8.out.kept Hg9.out; have X9 := X8.out.kept Hg9.out; have hS9 : w9.cell? ⟨w.heap.size, 0, none⟩ = some (.int .i64 need) ∧ w9.cell? ⟨w.heap.size, 1, none⟩ = some (.int .i64 many) ∧ w9.cell? ⟨w.heap.size, 2, none⟩ = some (.slice a1 n1 c1) ∧ w9.cell? ⟨w.heap.size, 3, none⟩ = some (.slice a2 n2 c2) ∧ w9.cell? ⟨w5.heap.size, 0, none⟩ = some (.int .i64 need) ∧ w9.cell? ⟨w5.heap.size, 1, none⟩ = some (.int .i64 many) ∧ w9.cell? ⟨w5.heap.size, 2, none⟩ = some (.slice (some ⟨b3, 0, none⟩) n1 n1) ∧ w9.cell? ⟨w5.heap.size, 3, none⟩ = some (.slice (some ⟨b4, 0, none⟩) n2 n2) := ⟨D9.c0, D9.c1, D9.c2, D9.c3, X9.c0, X9.c1, X9.c2, X9.c3⟩; clear hg hr1 hr2 hbb9 D9 X9)
    | (go_at_call 31; (with_reducible refine (eqkey _ need many _ _ _ _ n1 _ _ z1 n2 _ _ z2 (V1.out.keptN Hg9.out).ints (V2.out.keptN Hg9.out).ints P1.out P2.out (by omega) (by omega)).mono ?_); rintro e w10 ⟨rfl, hg⟩; have Hg10 := Lib.hid (gtr Hg9.out hg); have D10 := D8.out.kept Hg10.out; have X10 := X8.out.kept Hg10.out; have hS10 : w10.cell? ⟨w.heap.size, 0, none⟩ = some (.int .i64 need) ∧ w10.cell? ⟨w.heap.size, 1, none⟩ = some (.int .i64 many) ∧ w10.cell? ⟨w.heap.size, 2, none⟩ = some (.slice a1 n1 c1) ∧ w10.cell? ⟨w.heap.size, 3, none⟩ = some (.slice a2 n2 c2) ∧ w10.cell? ⟨w5.heap.size, 0, none⟩ = some (.int .i64 need) ∧ w10.cell? ⟨w5.heap.size, 1, none⟩ = some (.int .i64 many) ∧ w10.cell? ⟨w5.heap.size, 2, none⟩ = some (.slice (some ⟨b3, 0, none⟩) n1 n1) ∧ w10.cell? ⟨w5.heap.size, 3, none⟩ = some (.slice (some ⟨b4, 0, none⟩) n2 n2) := ⟨D10.c0, D10.c1, D10.c2, D10.c3, X10.c0, X10.c1, X10.c2, X10.c3⟩; clear hg D10 X10))
  all_goals
    clear k0 k1 k2 k3 x0 x1 x2 x3 hS9 hS10
    have G10 := Lib.hid (gtr G8.out Hg10.out)
    go_wp2_with fail
    refine (tohlds _ a3 len c3 H (HI.out.kept G10.out) (by omega)).mono ?_
    rintro e w11 ⟨b11, rfl, hr, hg⟩
    have Hg11 := Lib.hid (gtr Hg10.out hg); have P3 := Lib.hid hr.hld; clear hr hg
    go_wp2_with fail
    refine (eqhlds _ _ _ len _ _ H (V3.out.keptN Hg11.out).hld P3.out (by omega)).mono ?_
    rintro e w12 ⟨rfl, hg⟩
    have Hg12 := Lib.hid (gtr Hg11.out hg); clear hg
    have L12 := Lib.hid (L8.out.kept Hg12.out); have G12 := Lib.hid (gtr G8.out Hg12.out); have D12 := Lib.hid (D8.out.kept Hg12.out); have X12 := Lib.hid (X8.out.kept Hg12.out); have T1 := Lib.hid (V1.out.keptN Hg12.out); have T2 := Lib.hid (V2.out.keptN Hg12.out); have T3 := Lib.hid (V3.out.keptN Hg12.out); have R12 := Lib.hid (R8.out.kept Hg12.out)
    have hsz4 := G4.out.size
    obtain ⟨_, x0, x1, x2, x3⟩ := X12.out
    go_wp2_with fail
    refine (markkey _ need many _ b3 b4 n1 n2 z1 z2 1 hbb T1.out T2.out (by omega) (by omega) (by omega)).mono ?_
    rintro e w13 ⟨rfl, wm, hm1', hm2'⟩
    have G13 := Lib.hid (grown_new (grown_new G12.out (by omega) hm1') (by omega) hm2')
    have L13 := Lib.hid ((L12.out.keptB hm1' (by omega)).keptB hm2' (by omega))
    have R13 := Lib.hid ((R12.out.keptB hm1' (by omega)).keptB hm2' (by omega))
    have T3b := Lib.hid ((T3.out.kept hm1' (by intro e; injection e with e; omega)).kept hm2' (by intro e; injection e with e; omega))
    have D13 := Lib.hid ((D12.out.keptB (hm1'.block _ D12.out.lt (by intro e; injection e with e; omega)) hm1'.size).keptB (hm2'.block _ (Nat.lt_of_lt_of_le D12.out.lt hm1'.size) (by intro e; injection e with e; omega)) hm2'.size)
    clear hm1' hm2' x0 x1 x2 x3
    go_wp2_with fail
    refine (markhlds _ _ b6 len _ (1 + n1 + n2) T3b.out (by omega) (by omega)).mono ?_
    rintro e w14 ⟨rfl, hg⟩
    have G14 := Lib.hid (grown_new G13.out (by omega) hg)
    have L14 := Lib.hid (L13.out.keptB hg (by omega))
    have R14 := Lib.hid (R13.out.keptB hg (by omega))
    have D14 := Lib.hid (D13.out.keptB (hg.block _ D13.out.lt (by intro e; injection e with e; omega)) hg.size)
    clear hg
    have hkk : ¬ ((1 + n1 + n2 + 2 * len : Nat) : Int) < 0 := by omega
    have hkd : decide (((1 + n1 + n2 + 2 * len : Nat) : Int) < 0) = false := decide_eq_false hkk
    obtain ⟨av9, cv9, hvv9, hLi9, _, _⟩ := L14.out.slice
    obtain ⟨aw9, cw9, hww9, hRi9⟩ := R14.out.slice
    have HLi9 := Lib.hid hLi9; have HVV9 := Lib.hid hvv9; have HRi9 := Lib.hid hRi9; have HWW9 := Lib.hid hww9; clear hLi9 hvv9 hRi9 hww9
    go_wp2_with fail
    refine Calls.mono (by rw [HVV9.out, HWW9.out]; exact eqint _ _ _ _ _ _ (li (sbF need many n1 z1 n2 z2 H len)) HLi9.out HRi9.out (by omega)) ?_
    rintro e w15 ⟨rfl, hg⟩
    have L15 := Lib.hid (L14.out.kept hg); have G15 := Lib.hid (gtr G14.out hg); have R15 := Lib.hid (R14.out.kept hg); have D15 := Lib.hid (D14.out.kept hg)
    have hs15 := hg.size
    clear hg
    go_wp2_with fail
    refine (mark_lst _ _ v _ L15.out (by omega)).mono ?_
    rintro e w16 ⟨rfl, hg, hL⟩
    have L16 := Lib.hid hL; have G16 := Lib.hid (Run.Lst.grown L15.out (by have := G6.out.size; omega) G15.out hg)
    have R16 := Lib.hid (show LstB w16 w3.heap.size w4.heap.size vw (sbF need many n1 z1 n2 z2 H len) by
      cases hv : v.ownBlock with
      | none => rw [hv] at hg; exact R15.out.kept hg
      | some g => rw [hv] at hg; exact R15.out.keptB hg (by
          rcases L15.out with ⟨rfl, _⟩ | ⟨b, c, rfl, hr⟩
          · cases hv
          · injection hv with hv; have := hr.from_; simp only at hv; omega))
    have D16 := Lib.hid (D15.out.keptB (hg.block _ D15.out.lt (L15.out.own_ne (by have := G6.out.size; omega))) hg.size)
    clear hg hL
    have hq0 : decide (((1 + (sbF need many n1 z1 n2 z2 H len).length : Nat) : Int) < 0) = false := decide_eq_false (by omega)
    have hq1 : ¬ ((1 + (sbF need many n1 z1 n2 z2 H len).length : Nat) : Int) < 0 := by omega
    have hqm := bne_f (rfl : ((1 + (sbF need many n1 z1 n2 z2 H len).length : Nat) : Int) = ((1 + (sbF need many n1 z1 n2 z2 H len).length : Nat) : Int))
    go_wp2_with fail
    refine (held_lst _ _ v _ L16.out (by omega)).mono ?_
    rintro e w' ⟨rfl, rfl⟩
    obtain ⟨_, k0, k1, k2, k3⟩ := D16.out
    go_wp2_with fail
    refine (tokey _ need many a1 n1 c1 z1 a2 n2 c2 z2 (HA.out.kept G16.out) (HB.out.kept G16.out) (by omega) (by omega)).mono ?_
    rintro e w17 ⟨b17, b18, rfl, hbb17, hr1, hr2, hg⟩
    have G17 := Lib.hid (gtr G16.out hg); have P1 := Lib.hid hr1.ints; have P2 := Lib.hid hr2.ints; have R17 := Lib.hid (R16.out.kept hg); have L17 := Lib.hid (L16.out.kept hg)
    clear hr1 hr2 hg k0 k1 k2 k3 hbb17
    go_wp2_with fail
    refine (tohlds _ a3 len c3 H (HI.out.kept G17.out) (by omega)).mono ?_
    rintro e w18 ⟨b19, rfl, hr, hg⟩
    have G18 := Lib.hid (gtr G17.out hg); have P3b := Lib.hid hr.hld; have P1b := Lib.hid (P1.out.kept hg); have P2b := Lib.hid (P2.out.kept hg); have R18 := Lib.hid (R17.out.kept hg); have L18 := Lib.hid (L17.out.kept hg)
    clear hr hg P1 P2
    go_wp2_with fail
    refine (ibad _ need many _ n1 _ z1 _ n2 _ z2 _ len _ H P1b.out P2b.out P3b.out (by omega) (by omega) (by omega)).mono ?_
    rintro e w19 ⟨v2, rfl, hL, hg⟩
    have R19 := Lib.hid (R18.out.kept hg); have L19 := Lib.hid (L18.out.kept hg); have G19 := Lib.hid (gtr G18.out hg)
    obtain ⟨av2, cv2, rfl, hLi2, _, _⟩ := hL.slice
    obtain ⟨aw3, cw3, hww3, hRi3⟩ := R19.out.slice
    have HLi2 := Lib.hid hLi2; have HRi3 := Lib.hid hRi3; have HWW3 := Lib.hid hww3; clear hLi2 hL hg hRi3 hww3
    go_wp2_with fail
    refine Calls.mono (by rw [HWW3.out]; exact eqint _ _ _ _ _ _ (li (sbF need many n1 z1 n2 z2 H len)) HLi2.out HRi3.out (by omega)) ?_
    rintro e w20 ⟨rfl, hg⟩
    have L20 := Lib.hid (L19.out.kept hg); have G20 := Lib.hid (gtr G19.out hg); clear hg
    go_wp2_with fail
    refine (held_lst _ _ v _ L20.out (by omega)).mono ?_
    rintro e w' ⟨rfl, rfl⟩
    go_wp2
    go_ret
    exact ⟨rfl, Draw.below_of G20.out⟩
end Run
end Go.Proofs.Ythjflmokfkcalaa
