/-
  The walks of the laws on polynomials: sums, sums of three, the form, and the roots.
-/
import Derived.Test.YtlhemnpoamlfiaaPi
import Derived.Test.YtlhemnpoamlfiaaPj
import Derived.Test.YtlhemnpoamlfiaaDrawLine
import Derived.Test.YtlhemnpoamlfiaaRunKit
namespace Go.Proofs.Ytlhemnpoamlfiaa
namespace Run
open Go.RowKit Alg Mem Con
set_option linter.unusedVariables false

theorem fl_zsum (la : Nat) (za : Nat → Int) (lb : Nat) (zb : Nat → Int) : fl (zsum la za lb zb) (max la lb) = Pol.padd (fl za la) (fl zb lb) := by
  have h := fl_fi (Pol.padd (fl za la) (fl zb lb))
  rw [Pol.padd_length, fl_length, fl_length] at h
  exact h
theorem pokz_zsum {la lb : Nat} {za zb : Nat → Int} (hp : pokz la za = true) (hq : pokz lb zb = true) : pokz (max la lb) (zsum la za lb zb) = true := by
  obtain ⟨p1, p5, _⟩ := pokz_iff.1 hp
  obtain ⟨q1, q5, _⟩ := pokz_iff.1 hq
  exact pokz_iff.2 ⟨by omega, by omega, fun j _ => Pol.fi_ok _⟩
theorem patz_zsum {la lb : Nat} {za zb : Nat → Int} {x : Int} (hp : pokz la za = true) (hq : pokz lb zb = true) (hx : fok x = true) :
    patz (max la lb) (zsum la za lb zb) x = sumF (patz la za x) (patz lb zb x) := by
  rw [patz_in (pokz_zsum hp hq) hx, patz_in hp hx, patz_in hq hx, fl_zsum, Pol.ev_padd, Pol.fi_sum]
theorem zsum_assoc (la : Nat) (za : Nat → Int) (lb : Nat) (zb : Nat → Int) (lc : Nat) (zc : Nat → Int) : zsum (max la lb) (zsum la za lb zb) lc zc = zsum la za (max lb lc) (zsum lb zb lc zc) := by
  funext j; unfold zsum
  have h1 := fl_zsum la za lb zb; unfold zsum at h1
  have h2 := fl_zsum lb zb lc zc; unfold zsum at h2
  rw [h1, h2, Pol.padd_assoc]

/-- What the laws' own polynomial leaves. -/
def LpOut (w : World) (many : Nat) (e : Ending) (w' : World) : Prop :=
  ∃ (b c : Nat) (z : Nat → Int), e = .returned (.slice (some ⟨b, 0, none⟩) many c) ∧ (∀ j, j < many → fok (z j) = true) ∧ Row w' w.heap.size 3 b many c z ∧ w.grownBy w' none
theorem lpPoly_any (n many : Nat) (w : World) (hn : n ≤ 1048576) (hm : many ≤ 5) : Calls Try.prog 32 #[.int .i64 (n : Int), .int .i64 (many : Int)] w (LpOut w many) := by
  obtain ⟨i0, hi, hz0, hz1, hz2⟩ := info_parts info_int
  go_enter Try.func32, Try.ntmps32
  go_wp2
  go_loopw [5, 6] (fun v i wr => ∃ (k b c : Nat) (z : Nat → Int), k ≤ many ∧ v = .slice (some ⟨b, 0, none⟩) k c ∧ i = .int .i64 k ∧ (∀ j, j < k → fok (z j) = true) ∧ Row wr w.heap.size 3 b k c z ∧ w.grownBy wr none) (fun _ i _ => many - (intOf i).toNat)
  case atStart => exact ⟨0, w.heap.size, 0, fun _ => 0, by omega, rfl, rfl, fun j hj => by omega, row_empty w _ _, Draw.grown_alloc _ _ _⟩
  case round =>
    obtain ⟨k, b, c, z, hk, rfl, rfl, hz, hr, hg⟩ := hrel
    have HZ := Lib.hid hz; have HR := Lib.hid hr; have HG := Lib.hid hg; have hge := hr.from_; have hsz := hg.size; clear hz hr hg
    by_cases hlt : k < many
    · have u0 : 0 ≤ (n : Int) * ((k : Int) + 3) := Int.mul_nonneg (by omega) (by omega)
      have u1 : (n : Int) * ((k : Int) + 3) ≤ 1048576 * 8 := Int.mul_le_mul (by omega) (by omega) (by omega) (by decide)
      have v0 : 0 ≤ (k : Int) * (k : Int) := Int.mul_nonneg (by omega) (by omega)
      have v1 : (k : Int) * (k : Int) ≤ 5 * 5 := Int.mul_le_mul (by omega) (by omega) (by omega) (by decide)
      go_wp2_with fail
      refine (lp _ _ (by omega)).mono ?_
      rintro e w' ⟨y, hy, rfl, rfl⟩
      have HY := Lib.hid hy; clear hy
      go_wp2_with (at_builtin; refine wpList_append_own _ rfl _ _ 23 rfl w.heap.size 3 i0 (.int .i64 0) 1 8 und_ints hi hz0 hz1 hz2 rfl (by decide) _ k (vals z k) rfl (HR.out.alloc _).owns ⟨wr.heap.size, 0, none⟩ 1 1 [.int .i64 y] rfl rfl (cell_one_new _ _ _) (by simp [Value.oneCell']) (by unfold maxLen; omega) (by omega) (by simp; omega) ?_; intro v' w1 hown' hgrow _)
      obtain ⟨b', c', rfl, hrow⟩ := row_of_owns (z := fun j => if j = k then y else z j) hown' (by omega) fun j hj => by
        by_cases e : j < k
        · rw [List.getElem?_append_left (by rw [vals_length]; exact e), vals_get z e, if_neg (by omega)]
        · obtain rfl : j = k := by omega
          rw [List.getElem?_append_right (by rw [vals_length]; exact Nat.le_refl _), vals_length, Nat.sub_self, if_pos rfl]; rfl
      have HR2 := Lib.hid hrow; have HGr := Lib.hid (app_grown HG.out hge hgrow)
      clear hown' hgrow hrow
      go_wp2
      go_roundw
      case rel => exact ⟨k + 1, b', c', _, by omega, rfl, by go_num, fun j hj => by
          by_cases e : j = k
          · simp only [e, if_pos]; exact HY.out
          · simp only [e, if_false]; exact HZ.out j (by omega), HR2.out, HGr.out⟩
      case measure => simp [intOf]; omega
    · obtain rfl : k = many := by omega
      go_wp2
      go_ret
      exact ⟨_, _, _, rfl, HZ.out, HR.out, HG.out⟩

set_option maxHeartbeats 2000000 in
theorem FnPolySum (a : Option Addr) (len cap : Nat) (a1 : Option Addr) (len1 cap1 : Nat) (w : World) (hB : Draw.Bytes w w.heap.size a len) (hc : len ≤ cap) (hm : cap ≤ maxLen) (hc1 : len1 ≤ cap1) (hm1 : cap1 ≤ maxLen) :
    Calls Try.prog 4 #[.slice a len cap, .slice a1 len1 cap1] w (Yes w) := by
  by_cases hbig : 1048576 < len
  · have hbig' : (1048576 : Int) < (len : Int) := by omega
    clear hB
    go_enter Try.func4, Try.ntmps4
    go_wp2
    go_ret
    exact ⟨rfl, Below.refl _ _⟩
  have hbig' : ¬ (1048576 : Int) < (len : Int) := by omega
  by_cases hbih : 1048576 < len1
  · have hbih' : (1048576 : Int) < (len1 : Int) := by omega
    clear hB
    go_enter Try.func4, Try.ntmps4
    go_wp2
    go_ret
    exact ⟨rfl, Below.refl _ _⟩
  have hbih' : ¬ (1048576 : Int) < (len1 : Int) := by omega
  go_enter Try.func4, Try.ntmps4
  go_wp2_with fail
  refine (Draw.drawPSum _ a len cap hB hc hm).mono ?_
  rintro e w1 ⟨b, la, ca, za, b', lb, cb, zb, rfl, ⟨l5, lc, lm, hA⟩, ⟨l5', lc', lm', hB2⟩, hg⟩
  have HA := Lib.hid hA; have HB := Lib.hid hB2; have G1 := Lib.hid hg; clear hA hB2 hg hB
  by_cases hyes : pokz la za = true ∧ pokz lb zb = true
  · have HP := Lib.hid hyes.1; have HQ := Lib.hid hyes.2; clear hyes
    have h1 := (pokz_iff.1 HP.out).1
    obtain ⟨m, hmx⟩ : ∃ m, m = max la lb := ⟨_, rfl⟩
    obtain ⟨ZS, hZS⟩ : ∃ ZS, ZS = zsum la za lb zb := ⟨_, rfl⟩
    have hm5 : m ≤ 5 := by omega
    have hm0 : ((m : Int) == 0) = false := by simp; omega
    have hm1 : la ≤ m := by omega
    have hm2 : lb ≤ m := by omega
    have hm3 : m ≤ la ∨ m ≤ lb := by omega
    have HMX := Lib.hid hmx; have HZS := Lib.hid hZS; clear hmx hZS
    go_wp2_with fail
    refine (ipsum_yes _ _ _ _ _ _ _ za zb HA.out HB.out HP.out HQ.out).mono ?_
    rintro e w2 ⟨s, rfl, hr, hg⟩
    rw [← HMX.out, ← HZS.out] at hr
    rw [← HMX.out]
    have HS := Lib.hid hr; have G2 := Lib.hid hg; clear hr hg
    go_wp2_with fail
    refine (spsum_yes _ _ _ _ _ _ _ za zb (HA.out.kept G2.out) (HB.out.kept G2.out) HP.out HQ.out).mono ?_
    rintro e w3 ⟨t, ct, rfl, hr, hg⟩
    rw [← HMX.out, ← HZS.out] at hr
    rw [← HMX.out]
    have HT := Lib.hid hr; have G3 := Lib.hid hg; clear hr hg
    go_wp2_with fail
    refine (lpints _ _ _ m _ _ ZS (HS.out.ints.kept G3.out) HT.out.ints (by omega)).mono ?_
    rintro e w4 ⟨rfl, hg⟩
    have G4 := Lib.hid hg; clear hg
    have G14 := Lib.hid (gtr (gtr G2.out G3.out) G4.out)
    go_wp2_with fail
    refine (lp _ _ (by omega)).mono ?_
    rintro e w' ⟨x, hx, rfl, rfl⟩
    have HX := Lib.hid hx; clear hx
    have hEQ := beq_t (show patz m ZS x = sumF (patz la za x) (patz lb zb x) by rw [HMX.out, HZS.out]; exact patz_zsum HP.out HQ.out HX.out)
    go_wp2_with fail
    refine (ipat _ _ _ _ ZS x (HS.out.ints.kept (gtr G3.out G4.out)) (by omega)).mono ?_
    rintro e w5 ⟨rfl, hg⟩
    have G5 := Lib.hid hg; clear hg
    go_wp2_with fail
    refine (ipat _ _ _ _ za x (HA.out.kept (gtr G14.out G5.out)) (by omega)).mono ?_
    rintro e w6 ⟨rfl, hg⟩
    have G6 := Lib.hid hg; clear hg
    go_wp2_with fail
    refine (ipat _ _ _ _ zb x (HB.out.kept (gtr (gtr G14.out G5.out) G6.out)) (by omega)).mono ?_
    rintro e w7 ⟨rfl, hg⟩
    have G7 := Lib.hid hg; clear hg
    have G17 := Lib.hid (gtr (gtr (gtr G14.out G5.out) G6.out) G7.out)
    go_wp2_with fail
    refine (isum _ _ _).mono ?_
    rintro e w' ⟨rfl, rfl⟩
    go_wp2_with fail
    refine (ipsum_yes _ _ _ _ _ _ _ zb za (HB.out.kept G17.out) (HA.out.kept G17.out) HQ.out HP.out).mono ?_
    rintro e w8 ⟨u, rfl, hr, hg⟩
    rw [zsum_comm lb zb la za, Nat.max_comm lb la, ← HMX.out, ← HZS.out] at hr
    rw [Nat.max_comm lb la, ← HMX.out]
    have HU := Lib.hid hr; have G8 := Lib.hid hg; clear hr hg
    go_wp2_with fail
    refine (lpints _ _ _ m _ _ ZS HU.out.ints (HS.out.ints.kept (gtr (gtr (gtr (gtr (gtr G3.out G4.out) G5.out) G6.out) G7.out) G8.out)) (by omega)).mono ?_
    rintro e w9 ⟨rfl, hg⟩
    have G9 := Lib.hid hg; clear hg
    go_wp2
    all_goals
      go_ret
      exact ⟨ret_b (by simp; omega), Draw.below_of (gtr G1.out (gtr (gtr G17.out G8.out) G9.out))⟩
  · have HP := Lib.hid (show pokz la za = false ∨ pokz lb zb = false by
      cases h1 : pokz la za <;> cases h2 : pokz lb zb <;> simp_all)
    clear hyes
    go_wp2_with fail
    refine (ipsum_no _ _ _ _ _ _ _ za zb HA.out HB.out (by omega) (by omega) HP.out).mono ?_
    rintro e w' ⟨rfl, rfl⟩
    go_wp2_with fail
    refine (spsum_no _ _ _ _ _ _ _ za zb HA.out HB.out (by omega) (by omega) HP.out).mono ?_
    rintro e w2 ⟨rfl, hg⟩
    have G2 := Lib.hid hg; clear hg
    go_wp2_with fail
    refine (lpints _ _ _ 0 _ _ za (.inl rfl) (.inl rfl) (by omega)).mono ?_
    rintro e w3 ⟨rfl, hg⟩
    have G3 := Lib.hid hg; clear hg
    go_wp2_with fail
    refine (spsum_no _ _ _ _ _ _ _ za zb (HA.out.kept (gtr G2.out G3.out)) (HB.out.kept (gtr G2.out G3.out)) (by omega) (by omega) HP.out).mono ?_
    rintro e w4 ⟨rfl, hg⟩
    have G4 := Lib.hid hg; clear hg
    go_wp2_with fail
    refine (lpints _ _ _ 0 _ _ za (.inl rfl) (.inl rfl) (by omega)).mono ?_
    rintro e w5 ⟨rfl, hg⟩
    have G5 := Lib.hid hg; clear hg
    go_wp2
    go_ret
    exact ⟨rfl, Draw.below_of (gtr G1.out (gtr (gtr (gtr G2.out G3.out) G4.out) G5.out))⟩

set_option maxHeartbeats 2000000 in
theorem FnSumThree (a : Option Addr) (len cap : Nat) (a1 : Option Addr) (len1 cap1 : Nat) (w : World) (hB : Draw.Bytes w w.heap.size a len) (hc : len ≤ cap) (hm : cap ≤ maxLen) (hc1 : len1 ≤ cap1) (hm1 : cap1 ≤ maxLen) :
    Calls Try.prog 10 #[.slice a len cap, .slice a1 len1 cap1] w (Yes w) := by
  by_cases hbig : 1048576 < len
  · have hbig' : (1048576 : Int) < (len : Int) := by omega
    clear hB
    go_enter Try.func10, Try.ntmps10
    go_wp2
    go_ret
    exact ⟨rfl, Below.refl _ _⟩
  have hbig' : ¬ (1048576 : Int) < (len : Int) := by omega
  by_cases hbih : 1048576 < len1
  · have hbih' : (1048576 : Int) < (len1 : Int) := by omega
    clear hB
    go_enter Try.func10, Try.ntmps10
    go_wp2
    go_ret
    exact ⟨rfl, Below.refl _ _⟩
  have hbih' : ¬ (1048576 : Int) < (len1 : Int) := by omega
  go_enter Try.func10, Try.ntmps10
  go_wp2_with fail
  refine (Draw.drawPSum _ a len cap hB hc hm).mono ?_
  rintro e w1 ⟨b, la, ca, za, b', lb, cb, zb, rfl, ⟨l5, lc, lm, hA⟩, ⟨l5', lc', lm', hB2⟩, hg⟩
  have HA := Lib.hid hA; have HB := Lib.hid hB2; have G1 := Lib.hid hg; clear hA hB2 hg hB
  by_cases hyes : pokz la za = true ∧ pokz lb zb = true
  · have HP := Lib.hid hyes.1; have HQ := Lib.hid hyes.2; clear hyes
    have h1 := (pokz_iff.1 HP.out).1
    have h1' := (pokz_iff.1 HQ.out).1
    obtain ⟨m, hmx⟩ : ∃ m, m = max la lb := ⟨_, rfl⟩
    obtain ⟨ZS, hZS⟩ : ∃ ZS, ZS = zsum la za lb zb := ⟨_, rfl⟩
    have hm5 : m ≤ 5 := by omega
    have hm0 : ((m : Int) == 0) = false := by simp; omega
    have HMX := Lib.hid hmx; have HZS := Lib.hid hZS; clear hmx hZS
    have HPS := Lib.hid (show pokz m ZS = true by rw [HMX.out, HZS.out]; exact pokz_zsum HP.out HQ.out)
    go_wp2_with fail
    refine (ipsum_yes _ _ _ _ _ _ _ za zb HA.out HB.out HP.out HQ.out).mono ?_
    rintro e w2 ⟨s, rfl, hr, hg⟩
    rw [← HMX.out, ← HZS.out] at hr
    rw [← HMX.out]
    have HS := Lib.hid hr; have G2 := Lib.hid hg; clear hr hg
    go_wp2_with fail
    refine (spsum_yes _ _ _ _ _ _ _ za zb (HA.out.kept G2.out) (HB.out.kept G2.out) HP.out HQ.out).mono ?_
    rintro e w3 ⟨t, ct, rfl, hr, hg⟩
    rw [← HMX.out, ← HZS.out] at hr
    rw [← HMX.out]
    have HT := Lib.hid hr; have G3 := Lib.hid hg; clear hr hg
    go_wp2_with fail
    refine (lpints _ _ _ m _ _ ZS (HS.out.ints.kept G3.out) HT.out.ints (by omega)).mono ?_
    rintro e w4 ⟨rfl, hg⟩
    have G4 := Lib.hid hg; clear hg
    obtain ⟨q, hq⟩ : ∃ q : Nat, (q : Int) = 1 + (len1 : Int) % 5 := ⟨1 + len1 % 5, by omega⟩
    have hq1 : 1 ≤ q := by omega
    have hq5 : q ≤ 5 := by omega
    have HQE := Lib.hid hq; clear hq
    go_wp2_with fail
    rw [← HQE.out]
    refine (lpPoly_any len1 q _ (by omega) hq5).mono ?_
    rintro e w5 ⟨v, cv, zq, rfl, hzq, hr, hg⟩
    have HV := Lib.hid hr; have G5 := Lib.hid hg
    have HPQ := Lib.hid (pokz_iff.2 ⟨hq1, hq5, hzq⟩)
    clear hr hg hzq
    have G25 := Lib.hid (gtr (gtr (gtr G2.out G3.out) G4.out) G5.out)
    have G35 := Lib.hid (gtr (gtr G3.out G4.out) G5.out)
    go_wp2_with fail
    refine (ipsum_yes _ _ _ _ _ _ _ ZS zq (HS.out.ints.kept G35.out) HV.out.ints HPS.out HPQ.out).mono ?_
    rintro e w6 ⟨s6, rfl, hr, hg⟩
    have H6 := Lib.hid hr; have G6 := Lib.hid hg; clear hr hg
    have HAS := Lib.hid (show max m q = max la (max lb q) by rw [HMX.out]; omega)
    have HZA := Lib.hid (show zsum m ZS q zq = zsum la za (max lb q) (zsum lb zb q zq) by rw [HMX.out, HZS.out]; exact zsum_assoc la za lb zb q zq)
    obtain ⟨m2, hm2⟩ : ∃ m2, m2 = max m q := ⟨_, rfl⟩
    have hm25 : m2 ≤ 5 := by omega
    have HM2 := Lib.hid hm2; clear hm2
    rw [← HM2.out] at H6 ⊢
    go_wp2_with fail
    refine (ipsum_yes _ _ _ _ _ _ _ zb zq (HB.out.kept (gtr G25.out G6.out)) (HV.out.ints.kept G6.out) HQ.out HPQ.out).mono ?_
    rintro e w7 ⟨s7, rfl, hr, hg⟩
    have H7 := Lib.hid hr; have G7 := Lib.hid hg; clear hr hg
    go_wp2_with fail
    refine (ipsum_yes _ _ _ _ _ _ _ za (zsum lb zb q zq) (HA.out.kept (gtr (gtr G25.out G6.out) G7.out)) H7.out.ints HP.out (pokz_zsum HQ.out HPQ.out)).mono ?_
    rintro e w8 ⟨s8, rfl, hr, hg⟩
    rw [← HAS.out, ← HM2.out, ← HZA.out] at hr
    rw [← HAS.out, ← HM2.out]
    have H8 := Lib.hid hr; have G8 := Lib.hid hg; clear hr hg
    go_wp2_with fail
    refine (lpints _ _ _ m2 _ _ (zsum m ZS q zq) (H6.out.ints.kept (gtr G7.out G8.out)) H8.out.ints (by omega)).mono ?_
    rintro e w9 ⟨rfl, hg⟩
    have G9 := Lib.hid hg; clear hg
    go_wp2
    go_ret
    exact ⟨rfl, Draw.below_of (gtr G1.out (gtr (gtr (gtr (gtr G25.out G6.out) G7.out) G8.out) G9.out))⟩
  · have HP := Lib.hid (show pokz la za = false ∨ pokz lb zb = false by
      cases h1 : pokz la za <;> cases h2 : pokz lb zb <;> simp_all)
    clear hyes
    go_wp2_with fail
    refine (ipsum_no _ _ _ _ _ _ _ za zb HA.out HB.out (by omega) (by omega) HP.out).mono ?_
    rintro e w' ⟨rfl, rfl⟩
    go_wp2_with fail
    refine (spsum_no _ _ _ _ _ _ _ za zb HA.out HB.out (by omega) (by omega) HP.out).mono ?_
    rintro e w2 ⟨rfl, hg⟩
    have G2 := Lib.hid hg; clear hg
    go_wp2_with fail
    refine (lpints _ _ _ 0 _ _ za (.inl rfl) (.inl rfl) (by omega)).mono ?_
    rintro e w3 ⟨rfl, hg⟩
    have G3 := Lib.hid hg; clear hg
    go_wp2_with fail
    refine (spsum_no _ _ _ _ _ _ _ za zb (HA.out.kept (gtr G2.out G3.out)) (HB.out.kept (gtr G2.out G3.out)) (by omega) (by omega) HP.out).mono ?_
    rintro e w4 ⟨rfl, hg⟩
    have G4 := Lib.hid hg; clear hg
    go_wp2_with fail
    refine (lpints _ _ _ 0 _ _ za (.inl rfl) (.inl rfl) (by omega)).mono ?_
    rintro e w5 ⟨rfl, hg⟩
    have G5 := Lib.hid hg; clear hg
    go_wp2
    go_ret
    exact ⟨rfl, Draw.below_of (gtr G1.out (gtr (gtr (gtr G2.out G3.out) G4.out) G5.out))⟩
end Run
end Go.Proofs.Ytlhemnpoamlfiaa
