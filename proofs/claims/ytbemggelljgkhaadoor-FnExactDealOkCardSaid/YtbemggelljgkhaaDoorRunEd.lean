/-
  The walks of the exact laws on deals: whether one is well formed, who complains about it.
-/
import Derived.Test.YtbemggelljgkhaaDoorEk
import Derived.Test.YtbemggelljgkhaaDoorRunKit
import Derived.Deep.RegionHeld3
namespace Go.Proofs.YtbemggelljgkhaaDoor
namespace Run
open Go.RowKit Alg Mem Con
set_option linter.unusedVariables false

/-- The six cells of two deals in memory. -/
def Six (w' : World) (B : Nat) (f : Int) (s1 s2 : Value) (X : Nat) (t1 t2 : Value) : Prop :=
  w'.cell? ⟨B, 0, none⟩ = some (.int .i64 f) ∧ w'.cell? ⟨B, 1, none⟩ = some s1 ∧ w'.cell? ⟨B, 2, none⟩ = some s2 ∧ w'.cell? ⟨X, 0, none⟩ = some (.int .i64 f) ∧ w'.cell? ⟨X, 1, none⟩ = some t1 ∧ w'.cell? ⟨X, 2, none⟩ = some t2
theorem six_of {w' : World} {B : Nat} {f : Int} {s1 s2 : Value} {X : Nat} {t1 t2 : Value} (h : Dl w' B f s1 s2) (k : Dl w' X f t1 t2) : Six w' B f s1 s2 X t1 t2 := ⟨h.c0, h.c1, h.c2, k.c0, k.c1, k.c2⟩

/-- A slice of the call's own that may be nil: marked, held against its marks. -/
def mks (l : List Int) : List Int := (List.range l.length).map fun j => ((1 + j : Nat) : Int)
theorem mks_len (l : List Int) : (mks l).length = l.length := by simp [mks]
theorem mks_at (l : List Int) (j : Nat) (h : j < l.length) : li (mks l) j = ((1 + j : Nat) : Int) := by simp [li, mks, h]
theorem mark_lst (w : World) (lo : Nat) (v : Value) (l : List Int) (h : Lst w lo v l) (hl : l.length ≤ 2000000) :
    Calls Tryd.prog 24 #[v, .int .i64 1] w fun e w' => e = .returned (.int .i64 ((1 + l.length : Nat) : Int)) ∧ w.grownBy w' v.ownBlock ∧ Lst w' lo v (mks l) := by
  rcases h with ⟨rfl, rfl⟩ | ⟨b, c, rfl, hr⟩
  · refine (mark_zero _ _ _ _).mono ?_
    rintro e w' ⟨rfl, rfl⟩
    exact ⟨rfl, Draw.grown_refl _ _, .inl ⟨rfl, rfl⟩⟩
  · refine (mark_row _ _ _ l.length _ (li l) 1 hr hl (by omega)).mono ?_
    rintro e w' ⟨rfl, hg, hr⟩
    exact ⟨rfl, hg, .inr ⟨b, c, by rw [mks_len], by rw [mks_len]; exact hr.congr fun j hj => (mks_at l j hj).symm⟩⟩
theorem held_lst (w : World) (lo : Nat) (v : Value) (l : List Int) (h : Lst w lo v (mks l)) (hl : l.length ≤ 2000000) :
    Calls Tryd.prog 25 #[v, .int .i64 1] w fun e w' => e = .returned (.int .i64 ((1 + l.length : Nat) : Int)) ∧ w = w' := by
  obtain ⟨a, c, rfl, hI, _, _⟩ := h.slice
  rw [mks_len] at hI ⊢
  exact held _ _ l.length _ 1 (hI.congr fun j hj => mks_at l j hj) hl (by omega)
theorem Lst.grown {w wr w1 : World} {lo : Nat} {v : Value} {l : List Int} (h : Lst wr lo v l) (hlo : w.heap.size ≤ lo) (hg : w.grownBy wr none) (hk : wr.grownBy w1 v.ownBlock) : w.grownBy w1 none := by
  rcases h with ⟨rfl, rfl⟩ | ⟨b, c, rfl, hr⟩
  · exact gtr hg hk
  · exact grown_new hg (Nat.le_trans hlo hr.from_) hk

set_option maxRecDepth 100000 in
set_option maxHeartbeats 4000000 in
theorem FnExactDealOk (f : Int) (a1 : Option Addr) (n1 c1 : Nat) (z1 : Nat → Int) (a2 : Option Addr) (n2 c2 : Nat) (z2 : Nat → Int) (need many : Int) (w : World) (a0 : Addr) (hv : Sent w a0) (hA : Ints w a1 n1 z1) (hB : Ints w a2 n2 z2) (hm1 : n1 ≤ maxLen) (hm2 : n2 ≤ maxLen) :
    Calls Tryd.prog 6 #[.agg #[.int .i64 f, .slice a1 n1 c1, .slice a2 n2 c2], .int .i64 need, .int .i64 many] w (Yes w) := by
  have HO := Lib.hid (Draw.grown_alloc w (.cells #[.int .i64 f, .slice a1 n1 c1, .slice a2 n2 c2] 36) none)
  have HD := Lib.hid (Dl.new w f (.slice a1 n1 c1) (.slice a2 n2 c2) 36)
  have HA := Lib.hid hA; have HB := Lib.hid hB; have HV := Lib.hid hv; clear hA hB hv
  by_cases hbig : (1048576 : Int) < (n1 : Int) + (n2 : Int)
  · go_enter Tryd.func6, Tryd.ntmps6
    go_wp2_with fail
    refine (szdeal_no _ f a1 n1 c1 a2 n2 c2 1048576 (by omega) (by omega) hm1 hm2 (by omega)).mono ?_
    rintro e w1 ⟨rfl, hg⟩
    have G1 := Lib.hid (gtr HO.out hg); clear hg
    go_wp2
    go_ret
    exact ⟨rfl, Draw.below_of G1.out⟩
  have hl1 : n1 ≤ 2000000 := by omega
  have hl2 : n2 ≤ 2000000 := by omega
  have hpos : ¬ (1048576 : Int) - (n1 : Int) - (n2 : Int) < 0 := by omega
  go_enter Tryd.func6, Tryd.ntmps6
  go_wp2_with fail
  refine (szdeal_yes _ f a1 n1 c1 a2 n2 c2 1048576 (by omega) (by omega)).mono ?_
  rintro e w1 ⟨rfl, hg⟩
  have G1 := Lib.hid (gtr HO.out hg); have D1 := Lib.hid (HD.out.kept hg); clear hg HO HD
  obtain ⟨_, k0, k1, k2⟩ := D1.out
  go_wp2_with fail
  refine (todeal _ f a1 n1 c1 z1 a2 n2 c2 z2 (HA.out.kept G1.out) (HB.out.kept G1.out) hl1 hl2).mono ?_
  rintro e w2 ⟨b1, b2, rfl, hbb, hr1, hr2, hg⟩
  have G2 := Lib.hid (gtr G1.out hg); have D2 := Lib.hid (D1.out.kept hg); have P1 := Lib.hid hr1.ints; have P2 := Lib.hid hr2.ints
  clear hr1 hr2 hg D1 k0 k1 k2 hbb
  go_wp2_with fail
  refine (sdealok _ f _ n1 _ z1 _ n2 _ z2 need many P1.out P2.out hl1 hl2).mono ?_
  rintro e w3 ⟨rfl, hg⟩
  have G3 := Lib.hid (gtr G2.out hg); have D3 := Lib.hid (D2.out.kept hg); clear hg D2 P1 P2
  obtain ⟨_, k0, k1, k2⟩ := D3.out
  go_wp2_with fail
  refine (todeal _ f a1 n1 c1 z1 a2 n2 c2 z2 (HA.out.kept G3.out) (HB.out.kept G3.out) hl1 hl2).mono ?_
  rintro e w4 ⟨b3, b4, rfl, hbb, hr1, hr2, hg⟩
  have HO := Lib.hid (Draw.grown_alloc w4 (.cells #[.int .i64 f, .slice (some ⟨b3, 0, none⟩) n1 n1, .slice (some ⟨b4, 0, none⟩) n2 n2] 25) none)
  have X4 := Lib.hid (Dl.new w4 f (.slice (some ⟨b3, 0, none⟩) n1 n1) (.slice (some ⟨b4, 0, none⟩) n2 n2) 25)
  have G4 := Lib.hid (gtr (gtr G3.out hg) HO.out); have D4 := Lib.hid ((D3.out.kept hg).kept HO.out); have P1 := Lib.hid (hr1.ints.kept HO.out); have P2 := Lib.hid (hr2.ints.kept HO.out)
  clear hr1 hr2 hg D3 k0 k1 k2 hbb HO
  go_wp2_with fail
  refine (idealok _ f _ n1 _ z1 _ n2 _ z2 need many P1.out P2.out hl1 hl2 a0 (HV.out.kept G4.out)).mono ?_
  rintro e w5 ⟨rfl, hg⟩
  have G5 := Lib.hid (gtr G4.out hg); have D5 := Lib.hid (D4.out.kept hg); have X5 := Lib.hid (X4.out.kept hg); have Q1 := Lib.hid (P1.out.kept hg); have Q2 := Lib.hid (P2.out.kept hg)
  clear hg D4 X4 P1 P2
  obtain ⟨_, k0, k1, k2⟩ := D5.out
  obtain ⟨_, x0, x1, x2⟩ := X5.out
  have hne : (dlF f n1 z1 n2 z2 need many != dlF f n1 z1 n2 z2 need many) = false := by simp
  generalize hdl : dlF f n1 z1 n2 z2 need many = dl at hne ⊢
  have HAd := Lib.hid ((HA.out.kept G5.out).keptB (w' := w5.drew) (fun _ _ => rfl) (Nat.le_refl _)); have HBd := Lib.hid ((HB.out.kept G5.out).keptB (w' := w5.drew) (fun _ _ => rfl) (Nat.le_refl _))
  go_wp2_with fail
  go_region_held3 (fun w' => w'.cell? ⟨w.heap.size, 0, none⟩ = some (.int .i64 f) ∧ w'.cell? ⟨w.heap.size, 1, none⟩ = some (.slice a1 n1 c1) ∧ w'.cell? ⟨w.heap.size, 2, none⟩ = some (.slice a2 n2 c2) ∧ w'.cell? ⟨w4.heap.size, 0, none⟩ = some (.int .i64 f) ∧ w'.cell? ⟨w4.heap.size, 1, none⟩ = some (.slice (some ⟨b3, 0, none⟩) n1 n1) ∧ w'.cell? ⟨w4.heap.size, 2, none⟩ = some (.slice (some ⟨b4, 0, none⟩) n2 n2)) (first | exact hS7 | exact hS6 | exact ⟨k0, k1, k2, x0, x1, x2⟩) (first
    | (go_at_call 20; (with_reducible refine (todeal _ f a1 n1 c1 z1 a2 n2 c2 z2 HAd.out HBd.out hl1 hl2).mono ?_); rintro e w6 ⟨b5, b6, rfl, hbb, hr1, hr2, hg⟩; have Hg := Lib.hid (show w5.grownBy w6 none from ⟨hg.os, hg.tape, hg.output, hg.size, hg.block⟩); have P1 := Lib.hid hr1.ints; have P2 := Lib.hid hr2.ints; have D6 := Lib.hid (D5.out.kept Hg.out); have X6 := Lib.hid (X5.out.kept Hg.out); have Q3 := Lib.hid (Q1.out.kept Hg.out); have Q4 := Lib.hid (Q2.out.kept Hg.out); have G6 := Lib.hid (gtr G5.out Hg.out); have hS6 := six_of D6.out X6.out; unfold Six at hS6; clear hg hr1 hr2 hbb)
    | (go_at_call 21; (with_reducible refine (eqdeal _ f _ _ _ _ n1 _ _ z1 n2 _ _ z2 Q3.out Q4.out P1.out P2.out hl1 hl2).mono ?_); rintro e w7 ⟨rfl, hg⟩; have G7 := Lib.hid (gtr G6.out hg); have hS7 := six_of (D6.out.kept hg) (X6.out.kept hg); unfold Six at hS7; clear hg))
  all_goals
    go_wp2
    go_ret
    exact ⟨rfl, Draw.below_of G7.out⟩
set_option maxRecDepth 100000 in
set_option maxHeartbeats 8000000 in
theorem FnExactDealBad (f : Int) (a1 : Option Addr) (n1 c1 : Nat) (z1 : Nat → Int) (a2 : Option Addr) (n2 c2 : Nat) (z2 : Nat → Int) (need many : Int) (w : World) (a0 : Addr) (hv : Sent w a0) (hA : Ints w a1 n1 z1) (hB : Ints w a2 n2 z2) (hm1 : n1 ≤ maxLen) (hm2 : n2 ≤ maxLen) :
    Calls Tryd.prog 7 #[.agg #[.int .i64 f, .slice a1 n1 c1, .slice a2 n2 c2], .int .i64 need, .int .i64 many] w (Yes w) := by
  have HO := Lib.hid (Draw.grown_alloc w (.cells #[.int .i64 f, .slice a1 n1 c1, .slice a2 n2 c2] 36) none)
  have HD := Lib.hid (Dl.new w f (.slice a1 n1 c1) (.slice a2 n2 c2) 36)
  have HA := Lib.hid hA; have HB := Lib.hid hB; have HV := Lib.hid hv; clear hA hB hv
  by_cases hbig : (1048576 : Int) < (n1 : Int) + (n2 : Int)
  · go_enter Tryd.func7, Tryd.ntmps7
    go_wp2_with fail
    refine (szdeal_no _ f a1 n1 c1 a2 n2 c2 1048576 (by omega) (by omega) hm1 hm2 (by omega)).mono ?_
    rintro e w1 ⟨rfl, hg⟩
    have G1 := Lib.hid (gtr HO.out hg); clear hg
    go_wp2
    go_ret
    exact ⟨rfl, Draw.below_of G1.out⟩
  have hl1 : n1 ≤ 1048576 := by omega
  have hl2 : n2 ≤ 1048576 := by omega
  have hpos : ¬ (1048576 : Int) - (n1 : Int) - (n2 : Int) < 0 := by omega
  have hll : (bads f n1 z1 n2 z2 need many).length ≤ 1048576 := Nat.le_trans (bads_len f n1 z1 n2 z2 need many) hl2
  go_enter Tryd.func7, Tryd.ntmps7
  go_wp2_with fail
  refine (szdeal_yes _ f a1 n1 c1 a2 n2 c2 1048576 (by omega) (by omega)).mono ?_
  rintro e w1 ⟨rfl, hg⟩
  have G1 := Lib.hid (gtr HO.out hg); have D1 := Lib.hid (HD.out.kept hg); clear hg HO HD
  obtain ⟨hD1, k0, k1, k2⟩ := D1.out
  go_wp2_with fail
  refine (todeal _ f a1 n1 c1 z1 a2 n2 c2 z2 (HA.out.kept G1.out) (HB.out.kept G1.out) (by omega) (by omega)).mono ?_
  rintro e w2 ⟨b1, b2, rfl, hbb, hr1, hr2, hg⟩
  have G2 := Lib.hid (gtr G1.out hg); have D2 := Lib.hid (D1.out.kept hg); have P1 := Lib.hid hr1.ints; have P2 := Lib.hid hr2.ints
  clear hr1 hr2 hg D1 k0 k1 k2 hbb
  go_wp2_with fail
  refine (sdealbad _ f _ n1 _ z1 _ n2 _ z2 need many P1.out P2.out (by omega) (by omega)).mono ?_
  rintro e w3 ⟨bw, cw, rfl, hrw, hg⟩
  have G3 := Lib.hid (gtr G2.out hg); have D3 := Lib.hid (D2.out.kept hg); have R3 := Lib.hid hrw; have hbw := hrw.lt; have hDw3 := D3.out.lt; clear hg D2 P1 P2 hrw
  obtain ⟨_, k0, k1, k2⟩ := D3.out
  go_wp2_with fail
  refine (todeal _ f a1 n1 c1 z1 a2 n2 c2 z2 (HA.out.kept G3.out) (HB.out.kept G3.out) (by omega) (by omega)).mono ?_
  rintro e w4 ⟨b3, b4, rfl, hbb, hr1, hr2, hg⟩
  have hge3 := hr1.from_; have hlt4 := hr2.lt
  have HO := Lib.hid (Draw.grown_alloc w4 (.cells #[.int .i64 f, .slice (some ⟨b3, 0, none⟩) n1 n1, .slice (some ⟨b4, 0, none⟩) n2 n2] 25) none)
  have hs4 : (w4.alloc (.cells #[.int .i64 f, .slice (some ⟨b3, 0, none⟩) n1 n1, .slice (some ⟨b4, 0, none⟩) n2 n2] 25)).heap.size = w4.heap.size + 1 := by show (w4.heap.push _).size = _; simp
  have X4 := Lib.hid (Dl.new w4 f (.slice (some ⟨b3, 0, none⟩) n1 n1) (.slice (some ⟨b4, 0, none⟩) n2 n2) 25)
  have G4 := Lib.hid (gtr (gtr G3.out hg) HO.out); have D4 := Lib.hid ((D3.out.kept hg).kept HO.out); have P1 := Lib.hid (hr1.alloc (.cells #[.int .i64 f, .slice (some ⟨b3, 0, none⟩) n1 n1, .slice (some ⟨b4, 0, none⟩) n2 n2] 25)); have P2 := Lib.hid (hr2.alloc (.cells #[.int .i64 f, .slice (some ⟨b3, 0, none⟩) n1 n1, .slice (some ⟨b4, 0, none⟩) n2 n2] 25))
  have R4 := Lib.hid ((R3.out.keptN hg).keptN HO.out)
  clear hr1 hr2 hg D3 R3 k0 k1 k2 HO
  have HS4 := Lib.hid hs4; clear hs4
  go_wp2_with fail
  refine (idealbad _ f _ n1 _ z1 _ n2 _ z2 need many P1.out.ints P2.out.ints (by omega) (by omega) a0 (HV.out.kept G4.out)).mono ?_
  rintro e w5 ⟨v, rfl, hL, hg⟩
  rw [HS4.out] at hL
  have L5 := Lib.hid hL; have G5 := Lib.hid (gtr G4.out hg); have D5 := Lib.hid (D4.out.kept hg); have X5 := Lib.hid (X4.out.kept hg); have Q1 := Lib.hid (P1.out.keptN hg); have Q2 := Lib.hid (P2.out.keptN hg); have R5 := Lib.hid (R4.out.keptN hg)
  clear hg D4 X4 P1 P2 R4 hL
  obtain ⟨av, cv, hvv, hLi, _, _⟩ := L5.out.slice
  have HLi := Lib.hid hLi; have HVV := Lib.hid hvv; clear hLi hvv
  go_wp2_with fail
  refine Calls.mono (by rw [HVV.out]; exact eqint _ _ _ _ _ _ (li (bads f n1 z1 n2 z2 need many)) HLi.out R5.out.ints (by omega)) ?_
  rintro e w6 ⟨rfl, hg⟩
  have L6 := Lib.hid (L5.out.kept hg); have G6 := Lib.hid (gtr G5.out hg); have D6 := Lib.hid (D5.out.kept hg); have X6 := Lib.hid (X5.out.kept hg); have U1 := Lib.hid (Q1.out.keptN hg); have U2 := Lib.hid (Q2.out.keptN hg); have R6 := Lib.hid (R5.out.keptN hg)
  clear hg L5 G5 D5 X5 Q1 Q2 R5 HLi
  obtain ⟨_, k0, k1, k2⟩ := D6.out
  obtain ⟨_, x0, x1, x2⟩ := X6.out
  have HAd := Lib.hid ((HA.out.kept G6.out).keptB (w' := w6.drew) (fun _ _ => rfl) (Nat.le_refl _)); have HBd := Lib.hid ((HB.out.kept G6.out).keptB (w' := w6.drew) (fun _ _ => rfl) (Nat.le_refl _))
  go_wp2_with fail
  go_region_held3 (fun w' => w'.cell? ⟨w.heap.size, 0, none⟩ = some (.int .i64 f) ∧ w'.cell? ⟨w.heap.size, 1, none⟩ = some (.slice a1 n1 c1) ∧ w'.cell? ⟨w.heap.size, 2, none⟩ = some (.slice a2 n2 c2) ∧ w'.cell? ⟨w4.heap.size, 0, none⟩ = some (.int .i64 f) ∧ w'.cell? ⟨w4.heap.size, 1, none⟩ = some (.slice (some ⟨b3, 0, none⟩) n1 n1) ∧ w'.cell? ⟨w4.heap.size, 2, none⟩ = some (.slice (some ⟨b4, 0, none⟩) n2 n2)) (first | exact hS8 | exact hS7 | exact ⟨k0, k1, k2, x0, x1, x2⟩) (first
    | (go_at_call 20; (with_reducible refine (todeal _ f a1 n1 c1 z1 a2 n2 c2 z2 HAd.out HBd.out (by omega) (by omega)).mono ?_); rintro e w7 ⟨b5, b6, rfl, hbb, hr1, hr2, hg⟩; have Hg7 := Lib.hid (show w6.grownBy w7 none from ⟨hg.os, hg.tape, hg.output, hg.size, hg.block⟩); have P1 := Lib.hid hr1.ints; have P2 := Lib.hid hr2.ints; have D7 := Lib.hid (D6.out.kept Hg7.out); have X7 := Lib.hid (X6.out.kept Hg7.out); have Q3 := Lib.hid (U1.out.keptN Hg7.out).ints; have Q4 := Lib.hid (U2.out.keptN Hg7.out).ints; have hS7 := six_of D7.out X7.out; unfold Six at hS7; clear hg hr1 hr2 hbb)
    | (go_at_call 21; (with_reducible refine (eqdeal _ f _ _ _ _ n1 _ _ z1 n2 _ _ z2 (U1.out.keptN Hg7.out).ints (U2.out.keptN Hg7.out).ints P1.out P2.out (by omega) (by omega)).mono ?_); rintro e w8 ⟨rfl, hg⟩; have Hg8 := Lib.hid (gtr Hg7.out hg); have hS8 := six_of (D7.out.kept hg) (X7.out.kept hg); unfold Six at hS8; clear hg))
  all_goals
    clear k0 k1 k2 x0 x1 x2 hS7 hS8
    have hlo1 : w.heap.size ≤ b3 := by have := G3.out.size; omega
    have hDb : w.heap.size < b3 := by have := hDw3; omega
    have hlo : w.heap.size ≤ w4.heap.size + 1 := by omega
    have L8 := Lib.hid (L6.out.kept Hg8.out); have G8 := Lib.hid (gtr G6.out Hg8.out); have D8 := Lib.hid (D6.out.kept Hg8.out); have V1 := Lib.hid (U1.out.keptN Hg8.out); have V2 := Lib.hid (U2.out.keptN Hg8.out); have R8 := Lib.hid (R6.out.keptN Hg8.out)
    obtain ⟨_, x0, x1, x2⟩ := X6.out.kept Hg8.out
    go_wp2_with fail
    refine (markdeal _ f _ b3 b4 n1 n2 z1 z2 1 hbb V1.out V2.out (by omega) (by omega) (by omega)).mono ?_
    rintro e w9 ⟨rfl, wm, hm1, hm2⟩
    have G9 := Lib.hid (grown_new (grown_new G8.out hlo1 hm1) (by omega) hm2)
    have L9 := Lib.hid ((L8.out.keptB hm1 (by omega)).keptB hm2 (by omega))
    have R9 := Lib.hid ((R8.out.kept hm1 (by intro e; have e := Option.some.inj e; omega)).kept hm2 (by intro e; have e := Option.some.inj e; omega))
    have D9 := Lib.hid ((D8.out.keptB hm1 (by intro e; have e := Option.some.inj e; omega)).keptB hm2 (by intro e; have e := Option.some.inj e; omega))
    clear hm1 hm2 x0 x1 x2
    have hkk : ¬ ((1 + n1 + n2 : Nat) : Int) < 0 := by omega
    obtain ⟨av9, cv9, hvv9, hLi9, _, _⟩ := L9.out.slice
    have HLi9 := Lib.hid hLi9; have HVV9 := Lib.hid hvv9; clear hLi9 hvv9
    go_wp2_with fail
    refine Calls.mono (by rw [HVV9.out]; exact eqint _ _ _ _ _ _ (li (bads f n1 z1 n2 z2 need many)) HLi9.out R9.out.ints (by omega)) ?_
    rintro e w10 ⟨rfl, hg⟩
    have L10 := Lib.hid (L9.out.kept hg); have G10 := Lib.hid (gtr G9.out hg); have R10 := Lib.hid (R9.out.keptN hg); have D10 := Lib.hid (D9.out.kept hg)
    clear hg
    go_wp2_with fail
    refine (mark_lst _ _ v _ L10.out (by omega)).mono ?_
    rintro e w11 ⟨rfl, hg, hL⟩
    have L11 := Lib.hid hL; have G11 := Lib.hid (Lst.grown L10.out hlo G10.out hg)
    have R11 := Lib.hid (R10.out.kept hg (L10.out.own_ne (by omega))); have D11 := Lib.hid (D10.out.keptB hg (L10.out.own_ne (by omega)))
    clear hg hL
    have hq0 : ¬ ((1 + (bads f n1 z1 n2 z2 need many).length : Nat) : Int) < 0 := by omega
    have hqm := bne_f (rfl : ((1 + (bads f n1 z1 n2 z2 need many).length : Nat) : Int) = ((1 + (bads f n1 z1 n2 z2 need many).length : Nat) : Int))
    go_wp2_with fail
    refine (held_lst _ _ v _ L11.out (by omega)).mono ?_
    rintro e w' ⟨rfl, rfl⟩
    obtain ⟨_, k0, k1, k2⟩ := D11.out
    go_wp2_with fail
    refine (todeal _ f a1 n1 c1 z1 a2 n2 c2 z2 (HA.out.kept G11.out) (HB.out.kept G11.out) (by omega) (by omega)).mono ?_
    rintro e w12 ⟨b7, b8, rfl, hbb2, hr1, hr2, hg⟩
    have G12 := Lib.hid (gtr G11.out hg); have P1 := Lib.hid hr1.ints; have P2 := Lib.hid hr2.ints; have R12 := Lib.hid (R11.out.keptN hg); have L12 := Lib.hid (L11.out.kept hg)
    clear hr1 hr2 hg k0 k1 k2
    go_wp2_with fail
    refine (idealbad _ f _ n1 _ z1 _ n2 _ z2 need many P1.out P2.out (by omega) (by omega) a0 (HV.out.kept G12.out)).mono ?_
    rintro e w13 ⟨v2, rfl, hL, hg⟩
    have R13 := Lib.hid (R12.out.keptN hg); have L13 := Lib.hid (L12.out.kept hg); have G13 := Lib.hid (gtr G12.out hg)
    obtain ⟨av2, cv2, rfl, hLi2, _, _⟩ := hL.slice
    have HLi2 := Lib.hid hLi2; clear hLi2 hL hg
    go_wp2_with fail
    refine (eqint _ _ _ _ _ _ (li (bads f n1 z1 n2 z2 need many)) HLi2.out R13.out.ints (by omega)).mono ?_
    rintro e w14 ⟨rfl, hg⟩
    have L14 := Lib.hid (L13.out.kept hg); have G14 := Lib.hid (gtr G13.out hg); clear hg
    go_wp2_with fail
    refine (held_lst _ _ v _ L14.out (by omega)).mono ?_
    rintro e w' ⟨rfl, rfl⟩
    go_wp2
    go_ret
    exact ⟨rfl, Draw.below_of G14.out⟩
end Run
end Go.Proofs.YtbemggelljgkhaaDoor
