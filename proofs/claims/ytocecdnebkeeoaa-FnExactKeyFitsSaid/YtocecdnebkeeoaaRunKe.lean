/-
  The walks of the exact laws on keys: which are valid, what all know, whether a share is a member's.
-/
import Derived.Test.YtocecdnebkeeoaaKc
import Derived.Test.YtocecdnebkeeoaaRunKit
import Derived.Deep.RegionHeld3
namespace Go.Proofs.Ytocecdnebkeeoaa
namespace Run
open Go.RowKit Alg Mem Con
set_option linter.unusedVariables false

/-- The eight cells of two keys in memory. -/
def Eight (w' : World) (B : Nat) (need many : Int) (s1 s2 : Value) (X : Nat) (t1 t2 : Value) : Prop :=
  w'.cell? ⟨B, 0, none⟩ = some (.int .i64 need) ∧ w'.cell? ⟨B, 1, none⟩ = some (.int .i64 many) ∧ w'.cell? ⟨B, 2, none⟩ = some s1 ∧ w'.cell? ⟨B, 3, none⟩ = some s2 ∧ w'.cell? ⟨X, 0, none⟩ = some (.int .i64 need) ∧ w'.cell? ⟨X, 1, none⟩ = some (.int .i64 many) ∧ w'.cell? ⟨X, 2, none⟩ = some t1 ∧ w'.cell? ⟨X, 3, none⟩ = some t2
theorem eight_of {w' : World} {B : Nat} {need many : Int} {s1 s2 : Value} {X : Nat} {t1 t2 : Value} (h : Ky w' B need many s1 s2) (k : Ky w' X need many t1 t2) : Eight w' B need many s1 s2 X t1 t2 := ⟨h.c0, h.c1, h.c2, h.c3, k.c0, k.c1, k.c2, k.c3⟩

set_option maxRecDepth 100000 in
set_option maxHeartbeats 4000000 in
theorem FnExactKeyOk (need many : Int) (a1 : Option Addr) (n1 c1 : Nat) (z1 : Nat → Int) (a2 : Option Addr) (n2 c2 : Nat) (z2 : Nat → Int) (w : World) (hA : Ints w a1 n1 z1) (hB : Ints w a2 n2 z2) (hm1 : n1 ≤ maxLen) (hm2 : n2 ≤ maxLen) :
    Calls Try.prog 6 #[.agg #[.int .i64 need, .int .i64 many, .slice a1 n1 c1, .slice a2 n2 c2]] w (Yes w) := by
  have HO := Lib.hid (Draw.grown_alloc w (.cells #[.int .i64 need, .int .i64 many, .slice a1 n1 c1, .slice a2 n2 c2] 36) none)
  have HD := Lib.hid (Ky.new w need many (.slice a1 n1 c1) (.slice a2 n2 c2) 36)
  have HA := Lib.hid hA; have HB := Lib.hid hB; clear hA hB
  by_cases hbig : (1048576 : Int) < (n1 : Int) + (n2 : Int)
  · go_enter Try.func6, Try.ntmps6
    go_wp2_with fail
    refine (szkey_no _ need many a1 n1 c1 a2 n2 c2 1048576 (by omega) (by omega) hm1 hm2 (by omega)).mono ?_
    rintro e w1 ⟨rfl, hg⟩
    have G1 := Lib.hid (gtr HO.out hg); clear hg
    go_wp2
    go_ret
    exact ⟨rfl, Draw.below_of G1.out⟩
  have hl1 : n1 ≤ 2000000 := by omega
  have hl2 : n2 ≤ 2000000 := by omega
  have hpos : ¬ (1048576 : Int) - (n1 : Int) - (n2 : Int) < 0 := by omega
  go_enter Try.func6, Try.ntmps6
  go_wp2_with fail
  refine (szkey_yes _ need many a1 n1 c1 a2 n2 c2 1048576 (by omega) (by omega)).mono ?_
  rintro e w1 ⟨rfl, hg⟩
  have G1 := Lib.hid (gtr HO.out hg); have D1 := Lib.hid (HD.out.kept hg); clear hg HO HD
  obtain ⟨_, k0, k1, k2, k3⟩ := D1.out
  go_wp2_with fail
  refine (tokey _ need many a1 n1 c1 z1 a2 n2 c2 z2 (HA.out.kept G1.out) (HB.out.kept G1.out) hl1 hl2).mono ?_
  rintro e w2 ⟨b1, b2, rfl, hbb, hr1, hr2, hg⟩
  have G2 := Lib.hid (gtr G1.out hg); have D2 := Lib.hid (D1.out.kept hg); have P1 := Lib.hid hr1.ints; have P2 := Lib.hid hr2.ints
  clear hr1 hr2 hg D1 k0 k1 k2 k3 hbb
  go_wp2_with fail
  refine (skeyok _ need many _ n1 _ z1 _ n2 _ z2 P1.out P2.out hl1 hl2).mono ?_
  rintro e w3 ⟨rfl, hg⟩
  have G3 := Lib.hid (gtr G2.out hg); have D3 := Lib.hid (D2.out.kept hg); clear hg D2 P1 P2
  obtain ⟨_, k0, k1, k2, k3⟩ := D3.out
  go_wp2_with fail
  refine (tokey _ need many a1 n1 c1 z1 a2 n2 c2 z2 (HA.out.kept G3.out) (HB.out.kept G3.out) hl1 hl2).mono ?_
  rintro e w4 ⟨b3, b4, rfl, hbb, hr1, hr2, hg⟩
  have HO := Lib.hid (Draw.grown_alloc w4 (.cells #[.int .i64 need, .int .i64 many, .slice (some ⟨b3, 0, none⟩) n1 n1, .slice (some ⟨b4, 0, none⟩) n2 n2] 25) none)
  have X4 := Lib.hid (Ky.new w4 need many (.slice (some ⟨b3, 0, none⟩) n1 n1) (.slice (some ⟨b4, 0, none⟩) n2 n2) 25)
  have G4 := Lib.hid (gtr (gtr G3.out hg) HO.out); have D4 := Lib.hid ((D3.out.kept hg).kept HO.out); have P1 := Lib.hid (hr1.ints.kept HO.out); have P2 := Lib.hid (hr2.ints.kept HO.out)
  clear hr1 hr2 hg D3 k0 k1 k2 k3 hbb HO
  go_wp2_with fail
  refine (ikeyok _ need many _ n1 _ z1 _ n2 _ z2 P1.out P2.out hl1 hl2).mono ?_
  rintro e w5 ⟨rfl, hg⟩
  have G5 := Lib.hid (gtr G4.out hg); have D5 := Lib.hid (D4.out.kept hg); have X5 := Lib.hid (X4.out.kept hg); have Q1 := Lib.hid (P1.out.kept hg); have Q2 := Lib.hid (P2.out.kept hg)
  clear hg D4 X4 P1 P2
  obtain ⟨_, k0, k1, k2, k3⟩ := D5.out
  obtain ⟨_, x0, x1, x2, x3⟩ := X5.out
  have hne : (kyF need many n1 z1 n2 z2 != kyF need many n1 z1 n2 z2) = false := by simp
  generalize hdl : kyF need many n1 z1 n2 z2 = dl at hne ⊢
  have HAd := Lib.hid ((HA.out.kept G5.out).keptB (w' := w5.drew) (fun _ _ => rfl) (Nat.le_refl _)); have HBd := Lib.hid ((HB.out.kept G5.out).keptB (w' := w5.drew) (fun _ _ => rfl) (Nat.le_refl _))
  go_wp2_with fail
  go_region_held3 (fun w' => w'.cell? ⟨w.heap.size, 0, none⟩ = some (.int .i64 need) ∧ w'.cell? ⟨w.heap.size, 1, none⟩ = some (.int .i64 many) ∧ w'.cell? ⟨w.heap.size, 2, none⟩ = some (.slice a1 n1 c1) ∧ w'.cell? ⟨w.heap.size, 3, none⟩ = some (.slice a2 n2 c2) ∧ w'.cell? ⟨w4.heap.size, 0, none⟩ = some (.int .i64 need) ∧ w'.cell? ⟨w4.heap.size, 1, none⟩ = some (.int .i64 many) ∧ w'.cell? ⟨w4.heap.size, 2, none⟩ = some (.slice (some ⟨b3, 0, none⟩) n1 n1) ∧ w'.cell? ⟨w4.heap.size, 3, none⟩ = some (.slice (some ⟨b4, 0, none⟩) n2 n2)) (first | exact hS7 | exact hS6 | exact ⟨k0, k1, k2, k3, x0, x1, x2, x3⟩) (first
    | (go_at_call 22; (with_reducible refine (tokey _ need many a1 n1 c1 z1 a2 n2 c2 z2 HAd.out HBd.out hl1 hl2).mono ?_); rintro e w6 ⟨b5, b6, rfl, hbb, hr1, hr2, hg⟩; have Hg := Lib.hid (show w5.grownBy w6 none from ⟨hg.os, hg.tape, hg.output, hg.size, hg.block⟩); have P1 := Lib.hid hr1.ints; have P2 := Lib.hid hr2.ints; have D6 := Lib.hid (D5.out.kept Hg.out); have X6 := Lib.hid (X5.out.kept Hg.out); have Q3 := Lib.hid (Q1.out.kept Hg.out); have Q4 := Lib.hid (Q2.out.kept Hg.out); have G6 := Lib.hid (gtr G5.out Hg.out); have hS6 := eight_of D6.out X6.out; unfold Eight at hS6; clear hg hr1 hr2 hbb)
    | (go_at_call 23; (with_reducible refine (eqkey _ need many _ _ _ _ n1 _ _ z1 n2 _ _ z2 Q3.out Q4.out P1.out P2.out hl1 hl2).mono ?_); rintro e w7 ⟨rfl, hg⟩; have G7 := Lib.hid (gtr G6.out hg); have hS7 := eight_of (D6.out.kept hg) (X6.out.kept hg); unfold Eight at hS7; clear hg))
  all_goals
    go_wp2
    go_ret
    exact ⟨rfl, Draw.below_of G7.out⟩

set_option maxRecDepth 100000 in
set_option maxHeartbeats 4000000 in
theorem FnExactKeyPub (need many : Int) (a1 : Option Addr) (n1 c1 : Nat) (z1 : Nat → Int) (a2 : Option Addr) (n2 c2 : Nat) (z2 : Nat → Int) (w : World) (hA : Ints w a1 n1 z1) (hB : Ints w a2 n2 z2) (hm1 : n1 ≤ maxLen) (hm2 : n2 ≤ maxLen) :
    Calls Try.prog 7 #[.agg #[.int .i64 need, .int .i64 many, .slice a1 n1 c1, .slice a2 n2 c2]] w (Yes w) := by
  have HO := Lib.hid (Draw.grown_alloc w (.cells #[.int .i64 need, .int .i64 many, .slice a1 n1 c1, .slice a2 n2 c2] 36) none)
  have HD := Lib.hid (Ky.new w need many (.slice a1 n1 c1) (.slice a2 n2 c2) 36)
  have HA := Lib.hid hA; have HB := Lib.hid hB; clear hA hB
  by_cases hbig : (1048576 : Int) < (n1 : Int) + (n2 : Int)
  · go_enter Try.func7, Try.ntmps7
    go_wp2_with fail
    refine (szkey_no _ need many a1 n1 c1 a2 n2 c2 1048576 (by omega) (by omega) hm1 hm2 (by omega)).mono ?_
    rintro e w1 ⟨rfl, hg⟩
    have G1 := Lib.hid (gtr HO.out hg); clear hg
    go_wp2
    go_ret
    exact ⟨rfl, Draw.below_of G1.out⟩
  have hl1 : n1 ≤ 2000000 := by omega
  have hl2 : n2 ≤ 2000000 := by omega
  have hpos : ¬ (1048576 : Int) - (n1 : Int) - (n2 : Int) < 0 := by omega
  go_enter Try.func7, Try.ntmps7
  go_wp2_with fail
  refine (szkey_yes _ need many a1 n1 c1 a2 n2 c2 1048576 (by omega) (by omega)).mono ?_
  rintro e w1 ⟨rfl, hg⟩
  have G1 := Lib.hid (gtr HO.out hg); have D1 := Lib.hid (HD.out.kept hg); clear hg HO HD
  obtain ⟨_, k0, k1, k2, k3⟩ := D1.out
  go_wp2_with fail
  refine (tokey _ need many a1 n1 c1 z1 a2 n2 c2 z2 (HA.out.kept G1.out) (HB.out.kept G1.out) hl1 hl2).mono ?_
  rintro e w2 ⟨b1, b2, rfl, hbb, hr1, hr2, hg⟩
  have G2 := Lib.hid (gtr G1.out hg); have D2 := Lib.hid (D1.out.kept hg); have P1 := Lib.hid hr1.ints; have P2 := Lib.hid hr2.ints
  clear hr1 hr2 hg D1 k0 k1 k2 k3 hbb
  go_wp2_with fail
  refine (skeypub _ need many _ n1 _ z1 _ n2 _ z2 P1.out P2.out hl1 hl2).mono ?_
  rintro e w3 ⟨rfl, hg⟩
  have G3 := Lib.hid (gtr G2.out hg); have D3 := Lib.hid (D2.out.kept hg); clear hg D2 P1 P2
  obtain ⟨_, k0, k1, k2, k3⟩ := D3.out
  go_wp2_with fail
  refine (tokey _ need many a1 n1 c1 z1 a2 n2 c2 z2 (HA.out.kept G3.out) (HB.out.kept G3.out) hl1 hl2).mono ?_
  rintro e w4 ⟨b3, b4, rfl, hbb, hr1, hr2, hg⟩
  have HO := Lib.hid (Draw.grown_alloc w4 (.cells #[.int .i64 need, .int .i64 many, .slice (some ⟨b3, 0, none⟩) n1 n1, .slice (some ⟨b4, 0, none⟩) n2 n2] 25) none)
  have X4 := Lib.hid (Ky.new w4 need many (.slice (some ⟨b3, 0, none⟩) n1 n1) (.slice (some ⟨b4, 0, none⟩) n2 n2) 25)
  have G4 := Lib.hid (gtr (gtr G3.out hg) HO.out); have D4 := Lib.hid ((D3.out.kept hg).kept HO.out); have P1 := Lib.hid (hr1.ints.kept HO.out); have P2 := Lib.hid (hr2.ints.kept HO.out)
  clear hr1 hr2 hg D3 k0 k1 k2 k3 hbb HO
  go_wp2_with fail
  refine (ikeypub _ need many _ n1 _ z1 _ n2 _ z2 P1.out P2.out hl1 hl2).mono ?_
  rintro e w5 ⟨rfl, hg⟩
  have G5 := Lib.hid (gtr G4.out hg); have D5 := Lib.hid (D4.out.kept hg); have X5 := Lib.hid (X4.out.kept hg); have Q1 := Lib.hid (P1.out.kept hg); have Q2 := Lib.hid (P2.out.kept hg)
  clear hg D4 X4 P1 P2
  obtain ⟨_, k0, k1, k2, k3⟩ := D5.out
  obtain ⟨_, x0, x1, x2, x3⟩ := X5.out
  have hne : (kpub need many n1 z1 n2 z2 != kpub need many n1 z1 n2 z2) = false := by simp
  generalize hdl : kpub need many n1 z1 n2 z2 = dl at hne ⊢
  have HAd := Lib.hid ((HA.out.kept G5.out).keptB (w' := w5.drew) (fun _ _ => rfl) (Nat.le_refl _)); have HBd := Lib.hid ((HB.out.kept G5.out).keptB (w' := w5.drew) (fun _ _ => rfl) (Nat.le_refl _))
  go_wp2_with fail
  go_region_held3 (fun w' => w'.cell? ⟨w.heap.size, 0, none⟩ = some (.int .i64 need) ∧ w'.cell? ⟨w.heap.size, 1, none⟩ = some (.int .i64 many) ∧ w'.cell? ⟨w.heap.size, 2, none⟩ = some (.slice a1 n1 c1) ∧ w'.cell? ⟨w.heap.size, 3, none⟩ = some (.slice a2 n2 c2) ∧ w'.cell? ⟨w4.heap.size, 0, none⟩ = some (.int .i64 need) ∧ w'.cell? ⟨w4.heap.size, 1, none⟩ = some (.int .i64 many) ∧ w'.cell? ⟨w4.heap.size, 2, none⟩ = some (.slice (some ⟨b3, 0, none⟩) n1 n1) ∧ w'.cell? ⟨w4.heap.size, 3, none⟩ = some (.slice (some ⟨b4, 0, none⟩) n2 n2)) (first | exact hS7 | exact hS6 | exact ⟨k0, k1, k2, k3, x0, x1, x2, x3⟩) (first
    | (go_at_call 22; (with_reducible refine (tokey _ need many a1 n1 c1 z1 a2 n2 c2 z2 HAd.out HBd.out hl1 hl2).mono ?_); rintro e w6 ⟨b5, b6, rfl, hbb, hr1, hr2, hg⟩; have Hg := Lib.hid (show w5.grownBy w6 none from ⟨hg.os, hg.tape, hg.output, hg.size, hg.block⟩); have P1 := Lib.hid hr1.ints; have P2 := Lib.hid hr2.ints; have D6 := Lib.hid (D5.out.kept Hg.out); have X6 := Lib.hid (X5.out.kept Hg.out); have Q3 := Lib.hid (Q1.out.kept Hg.out); have Q4 := Lib.hid (Q2.out.kept Hg.out); have G6 := Lib.hid (gtr G5.out Hg.out); have hS6 := eight_of D6.out X6.out; unfold Eight at hS6; clear hg hr1 hr2 hbb)
    | (go_at_call 23; (with_reducible refine (eqkey _ need many _ _ _ _ n1 _ _ z1 n2 _ _ z2 Q3.out Q4.out P1.out P2.out hl1 hl2).mono ?_); rintro e w7 ⟨rfl, hg⟩; have G7 := Lib.hid (gtr G6.out hg); have hS7 := eight_of (D6.out.kept hg) (X6.out.kept hg); unfold Eight at hS7; clear hg))
  all_goals
    go_wp2
    go_ret
    exact ⟨rfl, Draw.below_of G7.out⟩

set_option maxRecDepth 100000 in
set_option maxHeartbeats 4000000 in
theorem FnExactKeyFits (need many : Int) (a1 : Option Addr) (n1 c1 : Nat) (z1 : Nat → Int) (a2 : Option Addr) (n2 c2 : Nat) (z2 : Nat → Int) (m : Int) (s : Int) (w : World) (hA : Ints w a1 n1 z1) (hB : Ints w a2 n2 z2) (hm1 : n1 ≤ maxLen) (hm2 : n2 ≤ maxLen) :
    Calls Try.prog 8 #[.agg #[.int .i64 need, .int .i64 many, .slice a1 n1 c1, .slice a2 n2 c2], .int .i64 m, .int .i64 s] w (Yes w) := by
  have HO := Lib.hid (Draw.grown_alloc w (.cells #[.int .i64 need, .int .i64 many, .slice a1 n1 c1, .slice a2 n2 c2] 36) none)
  have HD := Lib.hid (Ky.new w need many (.slice a1 n1 c1) (.slice a2 n2 c2) 36)
  have HA := Lib.hid hA; have HB := Lib.hid hB; clear hA hB
  by_cases hbig : (1048576 : Int) < (n1 : Int) + (n2 : Int)
  · go_enter Try.func8, Try.ntmps8
    go_wp2_with fail
    refine (szkey_no _ need many a1 n1 c1 a2 n2 c2 1048576 (by omega) (by omega) hm1 hm2 (by omega)).mono ?_
    rintro e w1 ⟨rfl, hg⟩
    have G1 := Lib.hid (gtr HO.out hg); clear hg
    go_wp2
    go_ret
    exact ⟨rfl, Draw.below_of G1.out⟩
  have hl1 : n1 ≤ 2000000 := by omega
  have hl2 : n2 ≤ 2000000 := by omega
  have hpos : ¬ (1048576 : Int) - (n1 : Int) - (n2 : Int) < 0 := by omega
  go_enter Try.func8, Try.ntmps8
  go_wp2_with fail
  refine (szkey_yes _ need many a1 n1 c1 a2 n2 c2 1048576 (by omega) (by omega)).mono ?_
  rintro e w1 ⟨rfl, hg⟩
  have G1 := Lib.hid (gtr HO.out hg); have D1 := Lib.hid (HD.out.kept hg); clear hg HO HD
  obtain ⟨_, k0, k1, k2, k3⟩ := D1.out
  go_wp2_with fail
  refine (tokey _ need many a1 n1 c1 z1 a2 n2 c2 z2 (HA.out.kept G1.out) (HB.out.kept G1.out) hl1 hl2).mono ?_
  rintro e w2 ⟨b1, b2, rfl, hbb, hr1, hr2, hg⟩
  have G2 := Lib.hid (gtr G1.out hg); have D2 := Lib.hid (D1.out.kept hg); have P1 := Lib.hid hr1.ints; have P2 := Lib.hid hr2.ints
  clear hr1 hr2 hg D1 k0 k1 k2 k3 hbb
  go_wp2_with fail
  refine (skeyfits _ need many _ n1 _ z1 _ n2 _ z2 m s P1.out P2.out hl1 hl2).mono ?_
  rintro e w3 ⟨rfl, hg⟩
  have G3 := Lib.hid (gtr G2.out hg); have D3 := Lib.hid (D2.out.kept hg); clear hg D2 P1 P2
  obtain ⟨_, k0, k1, k2, k3⟩ := D3.out
  go_wp2_with fail
  refine (tokey _ need many a1 n1 c1 z1 a2 n2 c2 z2 (HA.out.kept G3.out) (HB.out.kept G3.out) hl1 hl2).mono ?_
  rintro e w4 ⟨b3, b4, rfl, hbb, hr1, hr2, hg⟩
  have HO := Lib.hid (Draw.grown_alloc w4 (.cells #[.int .i64 need, .int .i64 many, .slice (some ⟨b3, 0, none⟩) n1 n1, .slice (some ⟨b4, 0, none⟩) n2 n2] 25) none)
  have X4 := Lib.hid (Ky.new w4 need many (.slice (some ⟨b3, 0, none⟩) n1 n1) (.slice (some ⟨b4, 0, none⟩) n2 n2) 25)
  have G4 := Lib.hid (gtr (gtr G3.out hg) HO.out); have D4 := Lib.hid ((D3.out.kept hg).kept HO.out); have P1 := Lib.hid (hr1.ints.kept HO.out); have P2 := Lib.hid (hr2.ints.kept HO.out)
  clear hr1 hr2 hg D3 k0 k1 k2 k3 hbb HO
  go_wp2_with fail
  refine (ikeyfits _ need many _ n1 _ z1 _ n2 _ z2 m s P1.out P2.out hl1 hl2).mono ?_
  rintro e w5 ⟨rfl, hg⟩
  have G5 := Lib.hid (gtr G4.out hg); have D5 := Lib.hid (D4.out.kept hg); have X5 := Lib.hid (X4.out.kept hg); have Q1 := Lib.hid (P1.out.kept hg); have Q2 := Lib.hid (P2.out.kept hg)
  clear hg D4 X4 P1 P2
  obtain ⟨_, k0, k1, k2, k3⟩ := D5.out
  obtain ⟨_, x0, x1, x2, x3⟩ := X5.out
  have hne : (kfit need many n1 z1 n2 z2 m s != kfit need many n1 z1 n2 z2 m s) = false := by simp
  generalize hdl : kfit need many n1 z1 n2 z2 m s = dl at hne ⊢
  have HAd := Lib.hid ((HA.out.kept G5.out).keptB (w' := w5.drew) (fun _ _ => rfl) (Nat.le_refl _)); have HBd := Lib.hid ((HB.out.kept G5.out).keptB (w' := w5.drew) (fun _ _ => rfl) (Nat.le_refl _))
  go_wp2_with fail
  go_region_held3 (fun w' => w'.cell? ⟨w.heap.size, 0, none⟩ = some (.int .i64 need) ∧ w'.cell? ⟨w.heap.size, 1, none⟩ = some (.int .i64 many) ∧ w'.cell? ⟨w.heap.size, 2, none⟩ = some (.slice a1 n1 c1) ∧ w'.cell? ⟨w.heap.size, 3, none⟩ = some (.slice a2 n2 c2) ∧ w'.cell? ⟨w4.heap.size, 0, none⟩ = some (.int .i64 need) ∧ w'.cell? ⟨w4.heap.size, 1, none⟩ = some (.int .i64 many) ∧ w'.cell? ⟨w4.heap.size, 2, none⟩ = some (.slice (some ⟨b3, 0, none⟩) n1 n1) ∧ w'.cell? ⟨w4.heap.size, 3, none⟩ = some (.slice (some ⟨b4, 0, none⟩) n2 n2)) (first | exact hS7 | exact hS6 | exact ⟨k0, k1, k2, k3, x0, x1, x2, x3⟩) (first
    | (go_at_call 22; (with_reducible refine (tokey _ need many a1 n1 c1 z1 a2 n2 c2 z2 HAd.out HBd.out hl1 hl2).mono ?_); rintro e w6 ⟨b5, b6, rfl, hbb, hr1, hr2, hg⟩; have Hg := Lib.hid (show w5.grownBy w6 none from ⟨hg.os, hg.tape, hg.output, hg.size, hg.block⟩); have P1 := Lib.hid hr1.ints; have P2 := Lib.hid hr2.ints; have D6 := Lib.hid (D5.out.kept Hg.out); have X6 := Lib.hid (X5.out.kept Hg.out); have Q3 := Lib.hid (Q1.out.kept Hg.out); have Q4 := Lib.hid (Q2.out.kept Hg.out); have G6 := Lib.hid (gtr G5.out Hg.out); have hS6 := eight_of D6.out X6.out; unfold Eight at hS6; clear hg hr1 hr2 hbb)
    | (go_at_call 23; (with_reducible refine (eqkey _ need many _ _ _ _ n1 _ _ z1 n2 _ _ z2 Q3.out Q4.out P1.out P2.out hl1 hl2).mono ?_); rintro e w7 ⟨rfl, hg⟩; have G7 := Lib.hid (gtr G6.out hg); have hS7 := eight_of (D6.out.kept hg) (X6.out.kept hg); unfold Eight at hS7; clear hg))
  all_goals
    go_wp2
    go_ret
    exact ⟨rfl, Draw.below_of G7.out⟩

end Run
end Go.Proofs.Ytocecdnebkeeoaa