/-
  The walks of the laws on which deals count.
-/
import Derived.Test.YtocecdnebkeeoaaDoorQc
import Derived.Test.YtocecdnebkeeoaaDoorSk
import Derived.Test.YtocecdnebkeeoaaDoorRunKit
import Derived.BigQuiet
namespace Go.Proofs.YtocecdnebkeeoaaDoor
namespace Run
open Go.RowKit Alg Mem Con Mp
set_option linter.unusedVariables false

/-- Does the dealt share, or one of the first answered ones, fit? -/
def fitk (g : Int → Bool) (s : Int) (A : Nat → Ans) (f t : Int) (q : Nat) : Bool := g s || (shs A f t q).any g
theorem fitk_yes {g : Int → Bool} {s : Int} {A : Nat → Ans} {f t : Int} {q : Nat} (h : fitk g s A f t q = true) : fitk g s A f t (q + 1) = true := by
  unfold fitk at *; rw [Bool.or_eq_true] at *
  rcases h with h | h
  · exact .inl h
  · refine .inr ?_; simp only [shs, List.any_append, h, Bool.true_or]
theorem fitk_skip {g : Int → Bool} {s : Int} {A : Nat → Ans} {f t : Int} {q : Nat} (h : ¬ ((A q).f = f ∧ (A q).t = t)) : fitk g s A f t (q + 1) = fitk g s A f t q := by unfold fitk; rw [shs_no h]
theorem fitk_try {g : Int → Bool} {s : Int} {A : Nat → Ans} {f t : Int} {q : Nat} (h : fitk g s A f t q = false) (e : (A q).f = f ∧ (A q).t = t) : fitk g s A f t (q + 1) = g (A q).s := by
  unfold fitk at *; rw [shs_yes e, List.any_append]
  rw [Bool.or_eq_false_iff] at h
  simp [h.1, h.2]
theorem find_any {g : Int → Bool} : ∀ (l : List Int), (l.find? g).isSome = l.any g
  | [] => rfl
  | x :: r => by
    rw [List.find?_cons, List.any_cons]
    cases g x with
    | true => rfl
    | false => simpa using find_any r
theorem fitk_end {g : Int → Bool} {s : Int} {A : Nat → Ans} {f t : Int} {q : Nat} : fitk g s A f t q = (acc g s (shs A f t q)).isSome := by
  unfold fitk acc
  cases g s with
  | true => rfl
  | false => simp [find_any]
theorem badl_all {g : Nat → Bool} {k : Nat} (h : (badl g k).length = 0) : ∀ j, j < k → g j = true := by
  induction k with
  | zero => intro j hj; omega
  | succ k ih =>
    cases hg : g k with
    | false => rw [badl_no hg] at h; simp at h
    | true =>
      rw [badl_yes hg] at h
      intro j hj
      rcases Nat.lt_or_ge j k with h' | h'
      · exact ih h j h'
      · obtain rfl : j = k := by omega
        exact hg
theorem accs_all {f : Int} {n1 : Nat} {z1 z2 : Nat → Int} {A : Nat → Ans} {na k : Nat} (h : ∀ j, j < k → cfz n1 z1 ((j : Int) + 1) (z2 j) = true) : accs f n1 z1 z2 A na k = true := by
  rw [accs_iff]; intro j hj; rw [acc_dealt (h j hj)]; rfl
set_option maxRecDepth 100000 in
set_option maxHeartbeats 16000000 in
theorem FnGood (a : Option Addr) (len cap : Nat) (w : World) (a0 : Addr) (hv : Sent w a0) (hB : Draw.Bytes w w.heap.size a len) (hc : len ≤ cap) (hm : cap ≤ maxLen) :
    Calls Tryd.prog 3 #[.slice a len cap] w (Yes w) := by
  by_cases hbig : 1048576 < len
  · have hbig' : (1048576 : Int) < (len : Int) := by omega
    clear hB
    go_enter Tryd.func3, Tryd.ntmps3
    go_wp2
    go_ret
    exact ⟨rfl, Below.refl _ _⟩
  have hbig' : ¬ (1048576 : Int) < (len : Int) := by omega
  go_enter Tryd.func3, Tryd.ntmps3
  go_wp2_with fail
  refine (Draw.drawKG _ a len cap hB hc hm).mono ?_
  rintro e w1 ⟨f, b1, n, c1, z1, b2, m, c2, z2, aA, na, cA, A, need, many, rfl, hn5, hm5, hc1, hc1', hc2, hc2', q1, q2, q3, q4, ⟨hf1, hf2⟩, hI1, hI2, hAn, hWf, hna, hg⟩
  have HO := Lib.hid (Draw.grown_alloc w1 (.cells #[.int .i64 f, .slice (some ⟨b1, 0, none⟩) n c1, .slice (some ⟨b2, 0, none⟩) m c2] 25) none)
  have HD := Lib.hid (Dl.new w1 f (.slice (some ⟨b1, 0, none⟩) n c1) (.slice (some ⟨b2, 0, none⟩) m c2) 25)
  have HA := Lib.hid (hI1.kept HO.out); have HB := Lib.hid (hI2.kept HO.out); have HN := Lib.hid (hAn.kept HO.out); have HWF := Lib.hid hWf; have G2 := Lib.hid (gtr hg HO.out); have HV := Lib.hid (hv.kept G2.out)
  clear hB hI1 hI2 hAn hWf hg hv HO
  go_wp2_with fail
  refine (ikeygood _ f _ n c1 z1 _ m c2 z2 _ na cA A need many HA.out HB.out HN.out HWF.out (by omega) (by omega) (by omega) a0 HV.out).mono ?_
  rintro e w3 ⟨rfl, hg⟩
  have HA3 := Lib.hid (HA.out.kept hg); have HB3 := Lib.hid (HB.out.kept hg); have HD3 := Lib.hid (HD.out.kept hg); have HN3 := Lib.hid (HN.out.kept hg); have G3 := Lib.hid (gtr G2.out hg); have HV3 := Lib.hid (HV.out.kept hg)
  clear hg HA HB HD HN G2 HV
  obtain ⟨_, k0, k1, k2⟩ := HD3.out
  have hne : (gdF f n z1 m z2 A na need many != gdF f n z1 m z2 A na need many) = false := by simp
  have heq : (gdF f n z1 m z2 A na need many == gdF f n z1 m z2 A na need many) = true := by simp
  have HGD := Lib.hid (gd_iff (f := f) (n1 := n) (z1 := z1) (n2 := m) (z2 := z2) (A := A) (na := na) (need := need) (many := many))
  generalize hgd : gdF f n z1 m z2 A na need many = gd at hne heq HGD ⊢
  go_wp2_with fail
  refine (skeygood _ f _ n c1 z1 _ m c2 z2 _ na cA A need many HA3.out HB3.out HN3.out (by omega) (by omega) (by omega)).mono ?_
  rintro e w4 ⟨rfl, hg⟩
  rw [hgd]
  have HA4 := Lib.hid (HA3.out.kept hg); have HB4 := Lib.hid (HB3.out.kept hg); have HD4 := Lib.hid (HD3.out.kept hg); have HN4 := Lib.hid (HN3.out.kept hg); have G4 := Lib.hid (gtr G3.out hg); have HV4 := Lib.hid (HV3.out.kept hg)
  clear hg HA3 HB3 HD3 HN3 G3 HV3 k0 k1 k2
  obtain ⟨_, k0, k1, k2⟩ := HD4.out
  go_wp2_with fail
  refine (sdealok _ f _ n c1 z1 _ m c2 z2 need many HA4.out HB4.out (by omega) (by omega)).mono ?_
  rintro e w6 ⟨rfl, hg⟩
  have HA6 := Lib.hid (HA4.out.kept hg); have HB6 := Lib.hid (HB4.out.kept hg); have HD6 := Lib.hid (HD4.out.kept hg); have HN6 := Lib.hid (HN4.out.kept hg); have G6 := Lib.hid (gtr G4.out hg); have HV6 := Lib.hid (HV4.out.kept hg)
  clear hg HA4 HB4 HD4 HN4 G4 HV4 k0 k1 k2
  obtain ⟨_, k0, k1, k2⟩ := HD6.out
  cases hp : dlF f n z1 m z2 need many with
  | false =>
    go_wp2_with fail
    refine (skeygood _ f _ n c1 z1 _ m c2 z2 _ na cA A need many HA6.out HB6.out HN6.out (by omega) (by omega) (by omega)).mono ?_
    rintro e w7 ⟨rfl, hg⟩
    rw [hgd]
    have G7 := Lib.hid (gtr G6.out hg); clear hg
    go_wp2
    go_ret
    exact ⟨by first | rfl | exact Mem.ret_b heq, Draw.below_of G7.out⟩
  | true =>
    have hmm : (m : Int) = many := (dl_iff.1 hp).2.2.2.1
    subst hmm
    have HGE := Lib.hid (show gd = accs f n z1 z2 A na m by
      cases ha : accs f n z1 z2 A na m with
      | true => exact HGD.out.2 ⟨hp, hf2, ha⟩
      | false => cases hg : gd with
        | false => rfl
        | true => have := (HGD.out.1 hg).2.2; rw [ha] at this; cases this)
    clear HGD hgd
    go_wp2
    go_loopw [8, 9] (fun c i wr => ∃ k : Nat, k ≤ m ∧ i = .int .i64 ((k : Int) + 1) ∧ c = .bool (accs f n z1 z2 A na k) ∧ w6.grownBy wr none) (fun _ i _ => m + 1 - (intOf i).toNat)
    case atStart => exact ⟨0, by omega, rfl, rfl, Draw.grown_refl _ _⟩
    case round =>
      obtain ⟨k, hk, rfl, rfl, hg⟩ := hrel
      obtain ⟨W1, hW⟩ : ∃ W, W = wr := ⟨_, rfl⟩; subst hW
      have HG1 := Lib.hid hg; clear hg k0 k1 k2
      obtain ⟨_, k0, k1, k2⟩ := HD6.out.kept HG1.out
      by_cases hlt : k < m
      · have hle : (k : Int) + 1 ≤ (m : Int) := by omega
        obtain ⟨bx, ox, hbo, hbx, hcc⟩ := (HB6.out.kept HG1.out).ptr (by omega)
        cases hbo
        have hcx := hcc k hlt
        rw [Nat.zero_add] at hcx
        clear hcc
        have hsub : ((k : Int) + 1 - 1) = (k : Int) := by omega
        have hwr : IntKind.i64.wrap ((k : Int) + 1 - 1) = (k : Int) := by rw [IntKind.wrap_i64]; omega
        have hwr2 : IntKind.i64.wrap (k : Int) = (k : Int) := by rw [IntKind.wrap_i64]; omega
        have hj1 : (0 : Int) ≤ (k : Int) := by omega
        have hj2 : (k : Int) < (m : Int) := by omega
        have HAd := Lib.hid ((HA6.out.kept HG1.out).keptB (w' := W1.drew) (fun _ _ => rfl) (Nat.le_refl _))
        have HE0 := Lib.hid (show fitk (cfz n z1 ((k : Int) + 1)) (z2 k) A f ((k : Int) + 1) 0 = cfz n z1 ((k : Int) + 1) (z2 k) by simp [fitk, shs])
        have HE1 := Lib.hid (show accs f n z1 z2 A na (k + 1) = (accs f n z1 z2 A na k && fitk (cfz n z1 ((k : Int) + 1)) (z2 k) A f ((k : Int) + 1) na) by rw [fitk_end]; rfl)
        generalize hac : accs f n z1 z2 A na k = ack at HE1 ⊢
        generalize hc0 : cfz n z1 ((k : Int) + 1) (z2 k) = c0 at HE0
        have HC0 := Lib.hid hc0; have HAC := Lib.hid hac; clear hc0 hac
        go_wp2_with fail
        go_region_held3 (fun w' => w'.cell? ⟨w1.heap.size, 1, none⟩ = some (.slice (some ⟨b1, 0, none⟩) n c1) ∧ w'.cell? ⟨w1.heap.size, 2, none⟩ = some (.slice (some ⟨b2, 0, none⟩) m c2) ∧ w'.cell? ⟨b2, k, none⟩ = some (.int .i64 (z2 k))) (first | exact hS2 | exact ⟨k1, k2, hcx⟩) ((go_at_call 12; (with_reducible refine (icfit _ _ _ _ z1 _ _ HAd.out (by omega)).mono ?_); rintro e W2 ⟨rfl, hg2⟩; rw [HC0.out]; have Hg2 := Lib.hid (show W1.grownBy W2 none from ⟨hg2.os, hg2.tape, hg2.output, hg2.size, hg2.block⟩); have hS2 : W2.cell? ⟨w1.heap.size, 1, none⟩ = some (.slice (some ⟨b1, 0, none⟩) n c1) ∧ W2.cell? ⟨w1.heap.size, 2, none⟩ = some (.slice (some ⟨b2, 0, none⟩) m c2) ∧ W2.cell? ⟨b2, k, none⟩ = some (.int .i64 (z2 k)) := ⟨(HD6.out.kept (gtr HG1.out Hg2.out)).c1, (HD6.out.kept (gtr HG1.out Hg2.out)).c2, (World.cell?_of_block (Hg2.out.block b2 hbx (by simp))).trans hcx⟩; clear hg2))
        all_goals
          have HG2 := Lib.hid (gtr HG1.out Hg2.out)
          clear hS2 k0 k1 k2 hcx
          go_wp2
          go_loopw [10, 11] (fun ft i wr => ∃ (q : Nat) (b : Bool), q ≤ na ∧ i = .int .i64 q ∧ ft = .bool b ∧ fitk (cfz n z1 ((k : Int) + 1)) (z2 k) A f ((k : Int) + 1) q = b ∧ w6.grownBy wr none) (fun _ i _ => na - (intOf i).toNat)
          case atStart => exact ⟨0, c0, by omega, rfl, rfl, HE0.out, HG2.out⟩
          case round =>
            obtain ⟨q, b, hq, rfl, rfl, hft, hg⟩ := hrel
            obtain ⟨W3, hW⟩ : ∃ W, W = wr := ⟨_, rfl⟩; subst hW
            have HG3 := Lib.hid hg; have HF := Lib.hid hft; clear hg hft
            obtain ⟨_, k0, k1, k2⟩ := HD6.out.kept HG3.out
            by_cases hlq : q < na
            · have hq1 : (0 : Int) ≤ (q : Int) := by omega
              have hq2 : (q : Int) < (na : Int) := by omega
              rcases HN6.out.kept HG3.out with h0 | ⟨ba, oa, rfl, hba, hcc⟩
              · omega
              obtain ⟨d0, d1, d2⟩ := hcc q hlq
              clear hcc
              cases b with
              | true =>
                have HF' := Lib.hid (fitk_yes HF.out)
                go_wp2_with fail
                go_quiet (fail)
                go_wp2
                go_roundw
                case rel => exact ⟨q + 1, true, by omega, by go_num, rfl, HF'.out, ⟨HG3.out.os, HG3.out.tape, HG3.out.output, HG3.out.size, HG3.out.block⟩⟩
                case measure => simp [intOf]; omega
              | false =>
                by_cases hf : (A q).f = f
                · have hf' : ((A q).f == f) = true := by simpa using hf
                  by_cases ht : (A q).t = (k : Int) + 1
                  · have ht' : ((A q).t == (k : Int) + 1) = true := by simpa using ht
                    have HF' := Lib.hid (fitk_try HF.out ⟨hf, ht⟩)
                    clear hf ht
                    generalize hcv : cfz n z1 ((k : Int) + 1) (A q).s = cv at HF'
                    have HCV := Lib.hid hcv; clear hcv
                    have HAe := Lib.hid ((HA6.out.kept HG3.out).keptB (w' := W3.drew) (fun _ _ => rfl) (Nat.le_refl _))
                    go_wp2_with fail
                    go_region_held3 (fun w' => w'.cell? ⟨w1.heap.size, 0, none⟩ = some (.int .i64 f) ∧ w'.cell? ⟨w1.heap.size, 1, none⟩ = some (.slice (some ⟨b1, 0, none⟩) n c1) ∧ w'.cell? ⟨ba, oa + q * 3, none⟩ = some (.int .i64 (A q).f) ∧ w'.cell? ⟨ba, oa + q * 3 + 1, none⟩ = some (.int .i64 (A q).t) ∧ w'.cell? ⟨ba, oa + q * 3 + 2, none⟩ = some (.int .i64 (A q).s)) (first | exact hS4 | exact ⟨k0, k1, d0, d1, d2⟩) ((go_at_call 12; (with_reducible refine (icfit _ _ _ _ z1 _ _ HAe.out (by omega)).mono ?_); rintro e W4 ⟨rfl, hg2⟩; rw [HCV.out]; have Hg4 := Lib.hid (show W3.grownBy W4 none from ⟨hg2.os, hg2.tape, hg2.output, hg2.size, hg2.block⟩); have eb := Hg4.out.block ba hba (by simp); have hS4 : W4.cell? ⟨w1.heap.size, 0, none⟩ = some (.int .i64 f) ∧ W4.cell? ⟨w1.heap.size, 1, none⟩ = some (.slice (some ⟨b1, 0, none⟩) n c1) ∧ W4.cell? ⟨ba, oa + q * 3, none⟩ = some (.int .i64 (A q).f) ∧ W4.cell? ⟨ba, oa + q * 3 + 1, none⟩ = some (.int .i64 (A q).t) ∧ W4.cell? ⟨ba, oa + q * 3 + 2, none⟩ = some (.int .i64 (A q).s) := ⟨(HD6.out.kept (gtr HG3.out Hg4.out)).c0, (HD6.out.kept (gtr HG3.out Hg4.out)).c1, (World.cell?_of_block eb).trans d0, (World.cell?_of_block eb).trans d1, (World.cell?_of_block eb).trans d2⟩; clear hg2 eb))
                    all_goals
                      have HG4 := Lib.hid (gtr HG3.out Hg4.out)
                      clear hS4
                      go_wp2
                      go_roundw
                      case rel => exact ⟨q + 1, cv, by omega, by go_num, rfl, HF'.out, HG4.out⟩
                      case measure => simp [intOf]; omega
                  · have ht' : ((A q).t == (k : Int) + 1) = false := by simpa using ht
                    have HF' := Lib.hid ((fitk_skip (g := cfz n z1 ((k : Int) + 1)) (s := z2 k) (fun h => ht h.2)).trans HF.out)
                    clear hf ht
                    go_wp2_with fail
                    go_quiet (fail)
                    go_wp2
                    go_roundw
                    case rel => exact ⟨q + 1, false, by omega, by go_num, rfl, HF'.out, ⟨HG3.out.os, HG3.out.tape, HG3.out.output, HG3.out.size, HG3.out.block⟩⟩
                    case measure => simp [intOf]; omega
                · have hf' : ((A q).f == f) = false := by simpa using hf
                  have HF' := Lib.hid ((fitk_skip (g := cfz n z1 ((k : Int) + 1)) (s := z2 k) (fun h => hf h.1)).trans HF.out)
                  clear hf
                  go_wp2_with fail
                  go_quiet (fail)
                  go_wp2
                  go_roundw
                  case rel => exact ⟨q + 1, false, by omega, by go_num, rfl, HF'.out, ⟨HG3.out.os, HG3.out.tape, HG3.out.output, HG3.out.size, HG3.out.block⟩⟩
                  case measure => simp [intOf]; omega
            · obtain rfl : q = na := by omega
              cases ack with
              | false =>
                have HE2 := Lib.hid (HE1.out.trans (Bool.false_and _))
                go_wp2
                go_roundw
                case rel => exact ⟨k + 1, by omega, by go_num, by rw [HE2.out], HG3.out⟩
                case measure => simp [intOf]; omega
              | true =>
                have HE2 := Lib.hid ((HE1.out.trans (Bool.true_and _)).trans HF.out)
                cases b with
                | true =>
                  go_wp2
                  go_roundw
                  case rel => exact ⟨k + 1, by omega, by go_num, by rw [HE2.out], HG3.out⟩
                  case measure => simp [intOf]; omega
                | false =>
                  go_wp2
                  go_roundw
                  case rel => exact ⟨k + 1, by omega, by go_num, by rw [HE2.out], HG3.out⟩
                  case measure => simp [intOf]; omega
      · obtain rfl : k = m := by omega
        have hle : ¬ (k : Int) + 1 ≤ (k : Int) := by omega
        have hll := bads_len f n z1 k z2 need (k : Int)
        have HYB := Lib.hid (show (bads f n z1 k z2 need (k : Int)).length = 0 → gd = true from fun h0 => by
          rw [HGE.out]
          rw [bads_yes hp] at h0
          exact accs_all (badl_all h0))
        rw [← HGE.out]
        go_wp2_with fail
        refine (idealbad _ f _ n c1 z1 _ k c2 z2 need (k : Int) (HA6.out.kept HG1.out) (HB6.out.kept HG1.out) (by omega) (by omega) a0 (HV6.out.kept HG1.out)).mono ?_
        rintro e W5 ⟨v, rfl, hL, hg⟩
        obtain ⟨av, cv, rfl, _, hLc, hLm⟩ := hL.slice
        have HG5 := Lib.hid (gtr HG1.out hg); clear hL hg
        generalize (bads f n z1 k z2 need (k : Int)).length = lb at HYB hLc hll ⊢
        by_cases hb0 : lb = 0
        · have hgt := HYB.out hb0
          subst hgt
          have hnp : ¬ (0 : Int) < (lb : Int) := by omega
          clear hb0
          go_wp2
          go_ret
          exact ⟨by first | rfl | (exact Mem.ret_b (by simp)), Draw.below_of (gtr G6.out HG5.out)⟩
        · have hnp : (0 : Int) < (lb : Int) := by omega
          clear hb0
          go_wp2
          go_ret
          exact ⟨by first | rfl | (exact Mem.ret_b (by simp)), Draw.below_of (gtr G6.out HG5.out)⟩
end Run
end Go.Proofs.YtocecdnebkeeoaaDoor
