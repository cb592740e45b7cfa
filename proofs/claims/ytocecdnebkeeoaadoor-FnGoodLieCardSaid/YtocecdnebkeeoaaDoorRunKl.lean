/-
  The walk of the law on answers that are wrong.
-/
import Derived.Test.YtocecdnebkeeoaaDoorRunKq
namespace Go.Proofs.YtocecdnebkeeoaaDoor
namespace Run
open Go.RowKit Alg Mem Con Mp
set_option linter.unusedVariables false

theorem shs_mem {A : Nat → Ans} {f t x : Int} {k : Nat} (h : x ∈ shs A f t k) : ∃ j, j < k ∧ (A j).t = t ∧ (A j).s = x := by
  induction k with
  | zero => simp [shs] at h
  | succ k ih =>
    by_cases e : (A k).f = f ∧ (A k).t = t
    · rw [shs_yes e] at h
      rcases List.mem_append.1 h with h | h
      · obtain ⟨j, h1, h2⟩ := ih h; exact ⟨j, by omega, h2⟩
      · simp at h; exact ⟨k, by omega, e.2, h.symm⟩
    · rw [shs_no e] at h
      obtain ⟨j, h1, h2⟩ := ih h; exact ⟨j, by omega, h2⟩
/-- Where no answer fits just the dealt shares count. -/
theorem accs_wrong {f : Int} {n1 : Nat} {z1 z2 : Nat → Int} {A : Nat → Ans} {na k : Nat} (h : ∀ j, j < na → cfz n1 z1 (A j).t (A j).s = false) : accs f n1 z1 z2 A na k = decide ((badl (bfit n1 z1 z2) k).length = 0) := by
  induction k with
  | zero => rfl
  | succ k ih =>
    have hacc : (acc (cfz n1 z1 ((k : Int) + 1)) (z2 k) (shs A f ((k : Int) + 1) na)).isSome = cfz n1 z1 ((k : Int) + 1) (z2 k) := by
      cases hc : cfz n1 z1 ((k : Int) + 1) (z2 k) with
      | true => rw [acc_dealt hc]; rfl
      | false =>
        rw [acc_ans hc, List.find?_eq_none.2]
        · rfl
        · intro x hx
          obtain ⟨j, h1, h2, h3⟩ := shs_mem hx
          have := h j h1
          rw [h2, h3] at this
          simp [this]
    have hstep : accs f n1 z1 z2 A na (k + 1) = (accs f n1 z1 z2 A na k && cfz n1 z1 ((k : Int) + 1) (z2 k)) := by rw [← hacc]; rfl
    rw [hstep, ih]
    cases hc : cfz n1 z1 ((k : Int) + 1) (z2 k) with
    | true => rw [badl_yes (g := bfit n1 z1 z2) hc]; simp
    | false => rw [badl_no (g := bfit n1 z1 z2) hc]; simp
/-- Answers of which none fits. -/
def Wrong (n1 : Nat) (z1 : Nat → Int) (L : List Ans) : Prop := ∀ x ∈ L, cfz n1 z1 x.t x.s = false
theorem Wrong.at {n1 : Nat} {z1 : Nat → Int} {L : List Ans} (h : Wrong n1 z1 L) : ∀ j, j < L.length → cfz n1 z1 (Draw.aAt L j).t (Draw.aAt L j).s = false := fun j hj => h _ (by simp [Draw.aAt, hj])
theorem Wrong.add {n1 : Nat} {z1 : Nat → Int} {L : List Ans} {x : Ans} (h : Wrong n1 z1 L) (hx : cfz n1 z1 x.t x.s = false) : Wrong n1 z1 (L ++ [x]) := fun y hy => by
  rcases List.mem_append.1 hy with hy | hy
  · exact h y hy
  · simp at hy; subst hy; exact hx
theorem own_add {W W' : World} {lo : Nat} {v v' : Value} {L : List Ans} {x : Ans} (h : Draw.OwnA W lo v L) (ho : W'.ownsRow lo 33 3 v' (L.length + 1) (Draw.cellsA L ++ [.int .i64 x.f, .int .i64 x.t, .int .i64 x.s])) (hw : wf x.f = true ∧ wf x.t = true ∧ wf x.s = true) : Draw.OwnA W' lo v' (L ++ [x]) := by
  refine ⟨by rw [Draw.cellsA_app]; simpa using ho, fun y hy => ?_⟩
  rcases List.mem_append.1 hy with hy | hy
  · exact h.2 y hy
  · simp at hy; subst hy; exact hw
theorem lpnum (w : World) (x : Nat) (hx : x ≤ 4000000) : Calls Tryd.prog 14 #[.int .i64 (x : Int)] w fun e w' => e = .returned (.int .i64 ((x % 23 : Nat) : Int)) ∧ w = w' := by
  have h1 : ((x : Int)).tmod 23 = ((x % 23 : Nat) : Int) := by rw [Int.tmod_eq_emod_of_nonneg (by omega)]; omega
  go_enter Tryd.func14, Tryd.ntmps14
  go_wp2
  go_ret
  exact ⟨by first | rfl | (congr 2) | exact Mem.ret_i (by first | exact h1 | omega), rfl⟩
set_option maxRecDepth 100000 in
set_option maxHeartbeats 16000000 in
theorem FnGoodLie (a : Option Addr) (len cap : Nat) (ax : Option Addr) (lenx capx : Nat) (w : World) (a0 : Addr) (hv : Sent w a0) (hB : Draw.Bytes w w.heap.size a len) (hc : len ≤ cap) (hm : cap ≤ maxLen) :
    Calls Tryd.prog 4 #[.slice a len cap, .slice ax lenx capx] w (Yes w) := by
  by_cases hbig : 1048576 < len
  · have hbig' : (1048576 : Int) < (len : Int) := by omega
    clear hB
    go_enter Tryd.func4, Tryd.ntmps4
    go_wp2
    go_ret
    exact ⟨rfl, Below.refl _ _⟩
  have hbig' : ¬ (1048576 : Int) < (len : Int) := by omega
  by_cases hbigx : 1048576 < lenx
  · have hbigx' : (1048576 : Int) < (lenx : Int) := by omega
    clear hB
    go_enter Tryd.func4, Tryd.ntmps4
    go_wp2
    go_ret
    exact ⟨rfl, Below.refl _ _⟩
  have hbigx' : ¬ (1048576 : Int) < (lenx : Int) := by omega
  go_enter Tryd.func4, Tryd.ntmps4
  go_wp2_with fail
  refine (Draw.drawKG _ a len cap hB hc hm).mono ?_
  rintro e w1 ⟨f, b1, n, c1, z1, b2, m, c2, z2, aA, na, cA, A, need, many, rfl, hn5, hm5, hc1, hc1', hc2, hc2', q1, q2, q3, q4, ⟨hf1, hf2⟩, hI1, hI2, hAn, hWf, hna, hg⟩
  have HO := Lib.hid (Draw.grown_alloc w1 (.cells #[.int .i64 f, .slice (some ⟨b1, 0, none⟩) n c1, .slice (some ⟨b2, 0, none⟩) m c2] 25) none)
  have HD := Lib.hid (Dl.new w1 f (.slice (some ⟨b1, 0, none⟩) n c1) (.slice (some ⟨b2, 0, none⟩) m c2) 25)
  have HA := Lib.hid (hI1.kept HO.out); have HB := Lib.hid (hI2.kept HO.out); have HN := Lib.hid (hAn.kept HO.out); have HWF := Lib.hid hWf; have G2 := Lib.hid (gtr hg HO.out); have HV := Lib.hid (hv.kept G2.out)
  clear hB hI1 hI2 hAn hWf hg hv HO
  go_wp2_with fail
  refine (ikeygood _ f _ n c1 z1 _ m c2 z2 _ na cA A need many HA.out HB.out HN.out HWF.out (by omega) (by omega) (by omega) a0 HV.out).mono ?_
  rintro e w3 ⟨rfl, hg⟩
  have HA3 := Lib.hid (HA.out.kept hg); have HB3 := Lib.hid (HB.out.kept hg); have HD3 := Lib.hid (HD.out.kept hg); have HN3 := Lib.hid (HN.out.kept hg); have G3 := Lib.hid (gtr G2.out hg); have HV3 := Lib.hid (HV.out.kept hg)
  clear hg HA HB HD HN G2 HV
  obtain ⟨_, k0, k1, k2⟩ := HD3.out
  have hne : (gdF f n z1 m z2 A na need many != gdF f n z1 m z2 A na need many) = false := by simp
  have heq : (gdF f n z1 m z2 A na need many == gdF f n z1 m z2 A na need many) = true := by simp
  have HGD := Lib.hid (gd_iff (f := f) (n1 := n) (z1 := z1) (n2 := m) (z2 := z2) (A := A) (na := na) (need := need) (many := many))
  generalize hgd : gdF f n z1 m z2 A na need many = gd at hne heq HGD ⊢
  go_wp2_with fail
  refine (skeygood _ f _ n c1 z1 _ m c2 z2 _ na cA A need many HA3.out HB3.out HN3.out (by omega) (by omega) (by omega)).mono ?_
  rintro e w4 ⟨rfl, hg⟩
  rw [hgd]
  have HA4 := Lib.hid (HA3.out.kept hg); have HB4 := Lib.hid (HB3.out.kept hg); have HD4 := Lib.hid (HD3.out.kept hg); have HN4 := Lib.hid (HN3.out.kept hg); have G4 := Lib.hid (gtr G3.out hg); have HV4 := Lib.hid (HV3.out.kept hg)
  clear hg HA3 HB3 HD3 HN3 G3 HV3 k0 k1 k2
  obtain ⟨_, k0, k1, k2⟩ := HD4.out
  go_wp2_with fail
  refine (sdealok _ f _ n c1 z1 _ m c2 z2 need many HA4.out HB4.out (by omega) (by omega)).mono ?_
  rintro e w6 ⟨rfl, hg⟩
  have HA6 := Lib.hid (HA4.out.kept hg); have HB6 := Lib.hid (HB4.out.kept hg); have HD6 := Lib.hid (HD4.out.kept hg); have HN6 := Lib.hid (HN4.out.kept hg); have G6 := Lib.hid (gtr G4.out hg); have HV6 := Lib.hid (HV4.out.kept hg)
  clear hg HA4 HB4 HD4 HN4 G4 HV4 k0 k1 k2
  obtain ⟨_, k0, k1, k2⟩ := HD6.out
  cases hp : dlF f n z1 m z2 need many with
  | false =>
    go_wp2_with fail
    refine (skeygood _ f _ n c1 z1 _ m c2 z2 _ na cA A need many HA6.out HB6.out HN6.out (by omega) (by omega) (by omega)).mono ?_
    rintro e w7 ⟨rfl, hg⟩
    rw [hgd]
    have G7 := Lib.hid (gtr G6.out hg); clear hg
    go_wp2
    go_ret
    exact ⟨by first | rfl | exact Mem.ret_b heq, Draw.below_of G7.out⟩
  | true =>
    have hmm : (m : Int) = many := (dl_iff.1 hp).2.2.2.1
    subst hmm
    have HNil := Lib.hid (show ∀ (A' : Nat → Ans) (na' : Nat), (∀ j, j < na' → cfz n z1 (A' j).t (A' j).s = false) → gdF f n z1 m z2 A' na' need (m : Int) = decide ((bads f n z1 m z2 need (m : Int)).length = 0) from fun A' na' h => by
      rw [bads_yes hp, ← accs_wrong (f := f) (z2 := z2) (A := A') (na := na') h]
      cases ha : accs f n z1 z2 A' na' m with
      | true => exact gd_y hp hf2 ha
      | false => exact gd_a ha)
    have HRG := Lib.hid (show ∀ j, j < (bads f n z1 m z2 need (m : Int)).length → 1 ≤ li (bads f n z1 m z2 need (m : Int)) j ∧ li (bads f n z1 m z2 need (m : Int)) j ≤ (m : Int) from fun j hj => by rw [bads_yes hp] at hj ⊢; exact badl_rng hj)
    have hll := bads_len f n z1 m z2 need (m : Int)
    clear HGD hgd
    go_wp2_with fail
    refine (idealbad _ f _ n c1 z1 _ m c2 z2 need (m : Int) HA6.out HB6.out (by omega) (by omega) a0 HV6.out).mono ?_
    rintro e w7 ⟨v, rfl, hL, hg⟩
    obtain ⟨av, cv, rfl, hLi, hLc, hLm⟩ := hL.slice
    have HO7 := Lib.hid (Draw.grown_alloc w7 (.cells #[] 33) none)
    have HL7 := Lib.hid hLi; have HA7 := Lib.hid (HA6.out.kept hg); have HB7 := Lib.hid (HB6.out.kept hg); have HD7 := Lib.hid (HD6.out.kept hg); have HV7 := Lib.hid (HV6.out.kept hg); have G7 := Lib.hid (gtr G6.out hg)
    clear hL hLi hg HA6 HB6 HD6 HN6 HV6 G6 k0 k1 k2
    generalize bads f n z1 m z2 need (m : Int) = LB at HNil HRG hll hLc HL7 ⊢
    obtain ⟨i0, hi, hz0, hz1, hz2⟩ := info_parts info_ans
    have H0 := Lib.hid (show Draw.OwnA (w7.alloc (.cells #[] 33)) w7.heap.size (.slice (some ⟨w7.heap.size, 0, none⟩) 0 0) [] from
      ⟨⟨rfl, .inr ⟨w7.heap.size, 0, #[], rfl, Nat.le_refl _, by show (w7.heap.push _)[w7.heap.size]? = _; simp, Nat.le_refl _, by decide, rfl, rfl⟩⟩, fun x hx => by simp at hx⟩)
    have hlo7 : w7.heap.size ≤ (w7.alloc (.cells #[] 33)).heap.size := by simp
    go_wp2
    go_loopw [11, 12] (fun v i wr => ∃ (k : Nat) (L : List Ans), k ≤ LB.length ∧ i = .int .i64 k ∧ Draw.OwnA wr w7.heap.size v L ∧ Wrong n z1 L ∧ L.length ≤ k ∧ w7.grownBy wr none) (fun _ i _ => LB.length - (intOf i).toNat)
    case atStart => exact ⟨0, [], by omega, rfl, H0.out, fun x hx => by simp at hx, by simp, Draw.grown_alloc _ _ _⟩
    case round =>
      obtain ⟨i, L, hk, rfl, hown, hwr, hlen, hg⟩ := hrel
      obtain ⟨W1, hW⟩ : ∃ W, W = wr := ⟨_, rfl⟩; subst hW
      obtain ⟨v1, hW⟩ : ∃ W, W = u11 := ⟨_, rfl⟩; subst hW
      have HOw := Lib.hid hown; have HWr := Lib.hid hwr; have HG1 := Lib.hid hg; clear hown hwr hg
      obtain ⟨_, k0, k1, k2⟩ := HD7.out.kept HG1.out
      by_cases hlt : i < LB.length
      · obtain ⟨hr1, hr2⟩ := HRG.out i hlt
        have hi1 : (0 : Int) ≤ (i : Int) := by omega
        have hi2 : (i : Int) < (LB.length : Int) := by omega
        obtain ⟨bb, ob, rfl, hbb, hcc⟩ := (HL7.out.kept HG1.out).ptr (by omega)
        have hcb := hcc i hlt
        clear hcc
        have hw7 := HG1.out.size
        have HWFf := Lib.hid (wf_small (n := f) (by omega) (by omega))
        have HWFt := Lib.hid (wf_small (n := li LB i) (by omega) (by omega))
        have HAd := Lib.hid ((HA7.out.kept HG1.out).keptB (w' := W1.drew) (fun _ _ => rfl) (Nat.le_refl _))
        go_wp2_with fail
        refine (lp _ _ (by omega)).mono ?_
        rintro e w' ⟨c, hc, rfl, rfl⟩
        have hcr := fok_iff.1 hc
        have HWFc := Lib.hid (wf_small (n := c) (by omega) (by omega))
        cases hq : cfz n z1 (li LB i) c with
        | true =>
          go_wp2_with fail
          go_region_held3 (fun w' => w'.cell? ⟨w1.heap.size, 1, none⟩ = some (.slice (some ⟨b1, 0, none⟩) n c1) ∧ w'.cell? ⟨bb, ob + i, none⟩ = some (.int .i64 (li LB i))) (first | exact hS2 | exact ⟨k1, hcb⟩) ((go_at_call 12; (with_reducible refine (icfit _ _ _ _ z1 _ _ HAd.out (by omega)).mono ?_); rintro e W2 ⟨rfl, hg2⟩; rw [hq]; have Hg2 := Lib.hid (show W1.grownBy W2 none from ⟨hg2.os, hg2.tape, hg2.output, hg2.size, hg2.block⟩); have hD2 := HD7.out.kept (gtr HG1.out Hg2.out); have hS2 : W2.cell? ⟨w1.heap.size, 1, none⟩ = some (.slice (some ⟨b1, 0, none⟩) n c1) ∧ W2.cell? ⟨bb, ob + i, none⟩ = some (.int .i64 (li LB i)) := ⟨hD2.c1, (World.cell?_of_block (Hg2.out.block bb hbb (by simp))).trans hcb⟩; clear hg2))
          all_goals
            have HOw2 := Lib.hid (show Draw.OwnA W2 w7.heap.size v1 L from ⟨HOw.out.1.kept Hg2.out (by cases v1.ownBlock <;> simp), HOw.out.2⟩)
            have HG2 := Lib.hid (gtr HG1.out Hg2.out)
            clear hS2
            go_wp2
            go_roundw
            case rel => exact ⟨i + 1, L, by omega, by go_num, HOw2.out, HWr.out, by omega, HG2.out⟩
            case measure => simp [intOf]; omega
        | false =>
          have HWr2 := Lib.hid (HWr.out.add (x := ⟨f, li LB i, c⟩) hq)
          go_wp2_with fail
          go_region_held3 (fun w' => w'.cell? ⟨w1.heap.size, 1, none⟩ = some (.slice (some ⟨b1, 0, none⟩) n c1) ∧ w'.cell? ⟨bb, ob + i, none⟩ = some (.int .i64 (li LB i))) (first | exact hS2 | exact ⟨k1, hcb⟩) ((go_at_call 12; (with_reducible refine (icfit _ _ _ _ z1 _ _ HAd.out (by omega)).mono ?_); rintro e W2 ⟨rfl, hg2⟩; rw [hq]; have Hg2 := Lib.hid (show W1.grownBy W2 none from ⟨hg2.os, hg2.tape, hg2.output, hg2.size, hg2.block⟩); have hD2 := HD7.out.kept (gtr HG1.out Hg2.out); have hS2 : W2.cell? ⟨w1.heap.size, 1, none⟩ = some (.slice (some ⟨b1, 0, none⟩) n c1) ∧ W2.cell? ⟨bb, ob + i, none⟩ = some (.int .i64 (li LB i)) := ⟨hD2.c1, (World.cell?_of_block (Hg2.out.block bb hbb (by simp))).trans hcb⟩; clear hg2))
          all_goals
            have HOw2 := Lib.hid (show Draw.OwnA W2 w7.heap.size v1 L from ⟨HOw.out.1.kept Hg2.out (by cases v1.ownBlock <;> simp), HOw.out.2⟩)
            have HG2 := Lib.hid (gtr HG1.out Hg2.out)
            have y0 := hD2.c0
            have y1 := hS2.2
            have hw2 := HG2.out.size
            have hbb2 : bb < W2.heap.size := Nat.lt_of_lt_of_le hbb Hg2.out.size
            have hD2l := hD2.lt
            clear hS2 hD2
            go_wp2_with fail
            go_region_law ((refine step_app _ (by rfl) (.tmp 80) (.tmp 89) 26 rfl w7.heap.size 33 i0 (.agg #[.int .i64 0, .int .i64 0, .int .i64 0]) 3 24 und_anss hi hz0 hz1 hz2 rfl (by decide) _ _ _ rfl (HOw2.out.1.alloc (.cells #[.int .i64 f, .int .i64 (li LB i), .int .i64 c] 33)).drew ⟨W2.heap.size, 0, none⟩ 1 1 [.int .i64 f, .int .i64 (li LB i), .int .i64 c] rfl rfl (World.news_of_block (cs := #[.int .i64 f, .int .i64 (li LB i), .int .i64 c]) (t := 33) (fr := (0, 0)) (heap_alloc_new W2 _)) (by simp [Value.oneCell']) (by unfold maxLen; omega) (by omega) (by show w7.heap.size ≤ (W2.alloc _).heap.size; simp; omega) ?_; intro v' W3 hown' hgrow _; have hgr : (W2.alloc (.cells #[.int .i64 f, .int .i64 (li LB i), .int .i64 c] 33)).grownBy W3 v1.ownBlock := ⟨hgrow.os, hgrow.tape, hgrow.output, hgrow.size, hgrow.block⟩; have HOw3 := Lib.hid (own_add (x := ⟨f, li LB i, c⟩) HOw2.out hown' ⟨HWFf.out, HWFt.out, HWFc.out⟩); have HG3 := Lib.hid (grown_own (gtr HG2.out (Draw.grown_alloc W2 (.cells #[.int .i64 f, .int .i64 (li LB i), .int .i64 c] 33) none)) hgr (fun g hgg => (HOw2.out.1.lt g hgg).1)); clear hown' hgrow hgr))
            all_goals
              go_wp2
              go_roundw
              case rel => exact ⟨i + 1, _, by omega, by go_num, HOw3.out, HWr2.out, by simp; omega, HG3.out⟩
              case measure => simp [intOf]; omega
      · obtain rfl : i = LB.length := by omega
        obtain ⟨aL, cL, rfl, hAL, hWL⟩ := HOw.out.ans
        have HAL := Lib.hid hAL; have HWL := Lib.hid hWL; clear hAL hWL
        have e1 := HNil.out (fun _ => ⟨0, 0, 0⟩) 0 (fun j hj => by omega)
        have e2 := HNil.out _ _ HWr.out.at
        have HG9 := Lib.hid (gtr G7.out HG1.out)
        generalize hlb : LB.length = lb at *
        obtain ⟨dz, hdz, hlz⟩ : ∃ dz : Bool, decide (lb = 0) = dz ∧ ((lb : Int) == 0) = dz := ⟨decide (lb = 0), rfl, by
          by_cases h0 : lb = 0
          · simp [h0]
          · have : ((lb : Int) == 0) = false := by simp; omega
            simp [h0, this]⟩
        rw [hdz] at e1 e2
        have hself : (dz == dz) = true := by simp
        clear hdz
        go_wp2_with fail
        refine (ikeygood _ f _ n c1 z1 _ m c2 z2 none 0 0 (fun _ => ⟨0, 0, 0⟩) need (m : Int) (HA7.out.kept HG1.out) (HB7.out.kept HG1.out) (.inl rfl) (fun j hj => by omega) (by omega) (by omega) (by omega) a0 (HV7.out.kept HG1.out)).mono ?_
        rintro e W4 ⟨rfl, hg4⟩
        rw [e1]
        have HG4 := Lib.hid (gtr HG1.out hg4); have HAL4 := Lib.hid (HAL.out.kept hg4)
        clear hg4 k0 k1 k2
        obtain ⟨_, k0, k1, k2⟩ := HD7.out.kept HG4.out
        go_wp2_with fail
        refine (ikeygood _ f _ n c1 z1 _ m c2 z2 _ L.length cL (Draw.aAt L) need (m : Int) (HA7.out.kept HG4.out) (HB7.out.kept HG4.out) HAL4.out HWL.out (by omega) (by omega) (by omega) a0 (HV7.out.kept HG4.out)).mono ?_
        rintro e W5 ⟨rfl, hg5⟩
        rw [e2]
        have HG5 := Lib.hid (gtr G7.out (gtr HG4.out hg5)); clear hg5
        cases dz with
        | true =>
          go_wp2
          go_ret
          exact ⟨by first | rfl | exact Mem.ret_b (by simp), Draw.below_of HG5.out⟩
        | false =>
          go_wp2
          go_ret
          exact ⟨by first | rfl | exact Mem.ret_b (by simp), Draw.below_of HG5.out⟩
end Run
end Go.Proofs.YtocecdnebkeeoaaDoor
