/-
  The walk of the law on shares that are all what is shown.
-/
import Derived.Test.YtbemggelljgkhaaDoorDo
import Derived.Test.YtbemggelljgkhaaDoorLn
namespace Go.Proofs.YtbemggelljgkhaaDoor
namespace Run
open Go.RowKit Alg Mem Con Ln
set_option linter.unusedVariables false

theorem badl_nil {g : Nat → Bool} {m : Nat} (h : (badl g m).length = 0) : ∀ k, k < m → g k = true := by
  induction m with
  | zero => intro k hk; omega
  | succ m ih =>
    intro k hk
    cases hg : g m with
    | true =>
      rw [badl_yes hg] at h
      rcases Nat.lt_or_ge k m with h' | h'
      · exact ih h k h'
      · obtain rfl : k = m := by omega
        exact hg
    | false => rw [badl_no hg] at h; simp at h
/-- All shares that fit are values of one polynomial. -/
theorem share_value {n : Nat} {z1 z2 : Nat → Int} {j : Nat} (hk : cokz n z1 = true) (hj : j < 5) (hz : fok (z2 j) = true) (h : cfz n z1 ((j : Int) + 1) (z2 j) = true) : z2 j = Pol.fi (Pol.ev (fl (lz z1) n) (Pol.cv ((j : Int) + 1))) := by
  have hx : fok ((j : Int) + 1) = true := fok_mk (by omega) (by omega)
  rw [cfz_in hk hx hz, catz_in hk hx] at h
  exact (gof_same hz (Pol.fi_ok _)).1 (by simpa using h)

theorem wrap_small {y : Int} (h0 : 0 ≤ y) (h1 : y ≤ 1000) : wrap64 y = y := by unfold wrap64; omega
theorem turn_wrap {l m k : Nat} (hm : 1 ≤ m) (h5 : m ≤ 5) (hk : k ≤ 5) : wrap64 ((wrap64 ((l : Int) % (m : Int) + (k : Int))).tmod (m : Int) + 1) = turn (l % m) m k := by
  have h0 : (0 : Int) ≤ (l : Int) % (m : Int) := Int.emod_nonneg _ (by omega)
  have h1 : (l : Int) % (m : Int) < (m : Int) := Int.emod_lt_of_pos _ (by omega)
  rw [wrap_small (y := (l : Int) % (m : Int) + (k : Int)) (by omega) (by omega), Int.tmod_eq_emod_of_nonneg (by omega)]
  have h2 : (0 : Int) ≤ ((l : Int) % (m : Int) + (k : Int)) % (m : Int) := Int.emod_nonneg _ (by omega)
  have h3 : ((l : Int) % (m : Int) + (k : Int)) % (m : Int) < (m : Int) := Int.emod_lt_of_pos _ (by omega)
  rw [wrap_small (by omega) (by omega)]
  unfold turn
  rw [Int.natCast_emod, Int.natCast_add, Int.natCast_emod]

set_option maxRecDepth 100000 in
set_option maxHeartbeats 4000000 in
theorem FnDealOnly (a : Option Addr) (len cap : Nat) (a1 : Option Addr) (len1 cap1 : Nat) (w : World) (a0 : Addr) (hv : Sent w a0) (hB : Draw.Bytes w w.heap.size a len) (hc : len ≤ cap) (hm : cap ≤ maxLen) (hc1 : len1 ≤ cap1) (hm1 : cap1 ≤ maxLen) :
    Calls Tryd.prog 4 #[.slice a len cap, .slice a1 len1 cap1] w (Yes w) := by
  by_cases hbig : 1048576 < len
  · have hbig' : (1048576 : Int) < (len : Int) := by omega
    clear hB
    go_enter Tryd.func4, Tryd.ntmps4
    go_wp2
    go_ret
    exact ⟨rfl, Below.refl _ _⟩
  have hbig' : ¬ (1048576 : Int) < (len : Int) := by omega
  by_cases hbih : 1048576 < len1
  · have hbih' : (1048576 : Int) < (len1 : Int) := by omega
    clear hB
    go_enter Tryd.func4, Tryd.ntmps4
    go_wp2
    go_ret
    exact ⟨rfl, Below.refl _ _⟩
  have hbih' : ¬ (1048576 : Int) < (len1 : Int) := by omega
  obtain ⟨i0, hi, hz0, hz1, hz2⟩ := info_parts info_int
  go_enter Tryd.func4, Tryd.ntmps4
  go_wp2_with fail
  refine (Draw.drawDBad _ a len cap hB hc hm).mono ?_
  rintro e w1 ⟨f, b1, n, c1, z1, b2, m, c2, z2, need, many, rfl, hn5, hm6, hc1, hc1', hc2, hc2', q1, q2, q3, q4, hI1, hI2, hg⟩
  have HO := Lib.hid (Draw.grown_alloc w1 (.cells #[.int .i64 f, .slice (some ⟨b1, 0, none⟩) n c1, .slice (some ⟨b2, 0, none⟩) m c2] 25) none)
  have HD := Lib.hid (Dl.new w1 f (.slice (some ⟨b1, 0, none⟩) n c1) (.slice (some ⟨b2, 0, none⟩) m c2) 25)
  have HA := Lib.hid (hI1.kept HO.out); have HB := Lib.hid (hI2.kept HO.out); have G2 := Lib.hid (gtr hg HO.out); have HV := Lib.hid (hv.kept G2.out)
  clear hB hI1 hI2 hg hv HO
  go_wp2_with fail
  refine (idealbad _ f _ n c1 z1 _ m c2 z2 need many HA.out HB.out (by omega) (by omega) a0 HV.out).mono ?_
  rintro e w3 ⟨v, rfl, hL, hg⟩
  obtain ⟨av, cv, rfl, hLi, hLc, hLm⟩ := hL.slice
  have hll := bads_len f n z1 m z2 need many
  have HL := Lib.hid hLi; have HA3 := Lib.hid (HA.out.kept hg); have HB3 := Lib.hid (HB.out.kept hg); have HD3 := Lib.hid (HD.out.kept hg); have G3 := Lib.hid (gtr G2.out hg)
  clear hL hLi hg HA HB HD G2 HV
  obtain ⟨_, k0, k1, k2⟩ := HD3.out
  go_wp2_with fail
  refine (sdealbad _ f _ n c1 z1 _ m c2 z2 need many HA3.out HB3.out (by omega) (by omega)).mono ?_
  rintro e w4 ⟨b4, c4, rfl, hr, hg⟩
  have HR4 := Lib.hid hr.ints; have HL4 := Lib.hid (HL.out.kept hg); have HA4 := Lib.hid (HA3.out.kept hg); have HB4 := Lib.hid (HB3.out.kept hg); have HD4 := Lib.hid (HD3.out.kept hg); have G4 := Lib.hid (gtr G3.out hg)
  clear hr hg HA3 HB3 G3 HL k0 k1 k2
  obtain ⟨_, k0, k1, k2⟩ := HD4.out
  go_wp2_with fail
  refine (lpints _ _ _ _ _ _ (li (bads f n z1 m z2 need many)) HL4.out HR4.out (by omega)).mono ?_
  rintro e w5 ⟨rfl, hg⟩
  have HL5 := Lib.hid (HL4.out.kept hg); have HA5 := Lib.hid (HA4.out.kept hg); have HB5 := Lib.hid (HB4.out.kept hg); have HD5 := Lib.hid (HD4.out.kept hg); have G5 := Lib.hid (gtr G4.out hg)
  clear hg HA4 HB4 G4 HL4 HD4 HD3 HR4 k0 k1 k2
  obtain ⟨_, k0, k1, k2⟩ := HD5.out
  go_wp2_with fail
  refine (sdealok _ f _ n c1 z1 _ m c2 z2 need many HA5.out HB5.out (by omega) (by omega)).mono ?_
  rintro e w6 ⟨rfl, hg⟩
  have HL6 := Lib.hid (HL5.out.kept hg); have HA6 := Lib.hid (HA5.out.kept hg); have HB6 := Lib.hid (HB5.out.kept hg); have HD6 := Lib.hid (HD5.out.kept hg); have G6 := Lib.hid (gtr G5.out hg)
  clear hg HA5 HB5 G5 HL5 HD5 k0 k1 k2
  obtain ⟨_, k0, k1, k2⟩ := HD6.out
  by_cases hstop : dlF f n z1 m z2 need many = true ∧ (bads f n z1 m z2 need many).length = 0
  case neg =>
    cases hp : dlF f n z1 m z2 need many with
    | false =>
      clear hstop
      go_wp2_with fail
      refine (sdealbad _ f _ n c1 z1 _ m c2 z2 need many HA6.out HB6.out (by omega) (by omega)).mono ?_
      rintro e w7 ⟨b7, c7, rfl, hr, hg⟩
      have HR7 := Lib.hid hr.ints; have HL7 := Lib.hid (HL6.out.kept hg); have G7 := Lib.hid (gtr G6.out hg)
      clear hr hg
      go_wp2_with fail
      refine (lpints _ _ _ _ _ _ (li (bads f n z1 m z2 need many)) HL7.out HR7.out (by omega)).mono ?_
      rintro e w8 ⟨rfl, hg⟩
      have G8 := Lib.hid (gtr G7.out hg); clear hg
      go_wp2
      go_ret
      exact ⟨rfl, Draw.below_of G8.out⟩
    | true =>
      have hpos : (0 : Int) < ((bads f n z1 m z2 need many).length : Int) := by
        rcases Nat.eq_zero_or_pos (bads f n z1 m z2 need many).length with h | h
        · exact absurd ⟨hp, h⟩ hstop
        · omega
      clear hstop
      go_wp2_with fail
      refine (sdealbad _ f _ n c1 z1 _ m c2 z2 need many HA6.out HB6.out (by omega) (by omega)).mono ?_
      rintro e w7 ⟨b7, c7, rfl, hr, hg⟩
      have HR7 := Lib.hid hr.ints; have HL7 := Lib.hid (HL6.out.kept hg); have G7 := Lib.hid (gtr G6.out hg)
      clear hr hg
      go_wp2_with fail
      refine (lpints _ _ _ _ _ _ (li (bads f n z1 m z2 need many)) HL7.out HR7.out (by omega)).mono ?_
      rintro e w8 ⟨rfl, hg⟩
      have G8 := Lib.hid (gtr G7.out hg); clear hg
      go_wp2
      go_ret
      exact ⟨rfl, Draw.below_of G8.out⟩
  obtain ⟨hp, hz⟩ := hstop
  obtain ⟨⟨f1, f5⟩, ⟨cr1, cr2, cr3⟩, ⟨hnn, hck⟩, hmm, hzz⟩ := dl_iff.1 hp
  have hn1 : 1 ≤ n := by omega
  have hnm : n ≤ m := by omega
  have hm5 : m ≤ 5 := by omega
  have HSV := Lib.hid (show ∀ j, j < m → z2 j = Pol.fi (Pol.ev (fl (lz z1) n) (Pol.cv ((j : Int) + 1))) from fun j hj =>
    share_value hck (by omega) (okz_iff.1 hzz j hj) (badl_nil (g := bfit n z1 z2) (by rw [← bads_yes hp]; exact hz) j hj))
  have HPL := Lib.hid (turn_ok (k := len1 % m) (m := m) (n := n) (by omega) hm5 hnm)
  have hz' : ¬ (0 : Int) < ((bads f n z1 m z2 need many).length : Int) := by omega
  subst hmm; subst hnn
  rw [hp]
  clear hck hzz HL6 HA6
  have hmod0 : (0 : Int) ≤ (len1 : Int) % (m : Int) := Int.emod_nonneg _ (by omega)
  have hm0 : ¬ (m : Int) = 0 := by omega
  have hmz : ((m : Int) == 0) = false := by simp; omega
  have HR0 := Lib.hid (row_empty w6 3 (turn (len1 % m) m))
  go_wp2
  go_loopw [10, 11] (fun v i wr => ∃ k b cap : Nat, k ≤ n ∧ v = .slice (some ⟨b, 0, none⟩) k cap ∧ i = .int .i64 k ∧ Row wr w6.heap.size 3 b k cap (turn (len1 % m) m) ∧ w6.grownBy wr none) (fun _ i _ => n - (intOf i).toNat)
  case atStart => exact ⟨0, _, 0, by omega, rfl, rfl, HR0.out, Draw.grown_alloc _ _ _⟩
  case round =>
    obtain ⟨k, bo, co, hk, rfl, rfl, hr, hg⟩ := hrel
    have HG := Lib.hid hg; have hge := hr.from_; have HW := Lib.hid hr; clear hg hr k0 k1 k2
    have hsz := HG.out.size
    by_cases hka : k < n
    · go_wp2_with (at_builtin; refine wpList_append_own _ rfl _ _ 23 rfl w6.heap.size 3 i0 (.int .i64 0) 1 8 und_ints hi hz0 hz1 hz2 rfl (by decide) _ k (vals (turn (len1 % m) m) k) rfl (HW.out.alloc _).owns ⟨wr.heap.size, 0, none⟩ 1 1 [.int .i64 _] rfl rfl (cell_one_new _ _ _) (by simp [Value.oneCell']) (by unfold maxLen; omega) (by omega) (by simp; omega) ?_; intro v' w7 hown' hgrow _)
      obtain ⟨b', cap', rfl, hrow⟩ := app_row hown' (turn_wrap (by omega) hm5 (by omega))
      have HR := Lib.hid hrow; have HGr := Lib.hid (app_grown HG.out hge hgrow)
      clear hown' hgrow hrow
      go_wp2
      go_roundw
      case rel => exact ⟨k + 1, b', cap', by omega, rfl, by go_num, HR.out, HGr.out⟩
      case measure => simp [intOf]; omega
    · obtain rfl : k = n := by omega
      have hcl := HW.out.le; have hcm := HW.out.most
      go_wp2
      go_loopw [12] (fun x wr2 => ∃ q : Nat, q ≤ m ∧ x = .int .i64 ((q : Int) + 1) ∧ wr.grownBy wr2 none) (fun x _ => m + 1 - (intOf x).toNat)
      case atStart => exact ⟨0, by omega, rfl, Draw.grown_refl _ _⟩
      case round =>
        obtain ⟨q, hq, rfl, hg⟩ := hrel
        have HG2 := Lib.hid hg; clear hg
        by_cases hlt : q < m
        · have hx : fok ((q : Int) + 1) = true := fok_mk (by omega) (by omega)
          have HX := Lib.hid hx; clear hx
          have hle : (q : Int) + 1 ≤ (m : Int) := by omega
          go_wp2_with fail
          refine (ipline_yes _ _ _ _ (turn (len1 % m) m) ((q : Int) + 1) (HW.out.ints.kept HG2.out) hcl hcm HPL.out HX.out).mono ?_
          rintro e w7 ⟨s, rfl, hr, hg⟩
          have HS := Lib.hid hr.ints; have HG7 := Lib.hid (gtr HG2.out hg); clear hr hg
          go_wp2
          go_loopw [14, 15] (fun sm i w8 => ∃ j : Nat, j ≤ k ∧ i = .int .i64 j ∧ sm = .int .i64 (Pol.fi (psum (fun t => Pol.lag (fl (turn (len1 % m) m) k) t (Pol.cv ((q : Int) + 1)) * Pol.ev (fl (lz z1) k) (Pol.cv (turn (len1 % m) m t))) j)) ∧ w7.grownBy w8 none) (fun _ i _ => k - (intOf i).toNat)
          case atStart => exact ⟨0, by omega, rfl, rfl, Draw.grown_refl _ _⟩
          case round =>
            obtain ⟨j, hj, rfl, rfl, hg⟩ := hrel
            have HGi := Lib.hid hg; have HG8 := Lib.hid (gtr HG7.out hg); have HS8 := Lib.hid (HS.out.kept hg); clear hg
            obtain ⟨hlb, k0, k1, k2⟩ := (HD6.out.kept (gtr HG.out HG8.out))
            by_cases hjn : j < k
            · have hpm : (len1 % m + j) % m < m := Nat.mod_lt _ (by omega)
              have HE := Lib.hid (show sumF (Pol.fi (psum (fun t => Pol.lag (fl (turn (len1 % m) m) k) t (Pol.cv ((q : Int) + 1)) * Pol.ev (fl (lz z1) k) (Pol.cv (turn (len1 % m) m t))) j)) (mulF (zline k (turn (len1 % m) m) ((q : Int) + 1) j) (z2 ((len1 % m + j) % m))) = Pol.fi (psum (fun t => Pol.lag (fl (turn (len1 % m) m) k) t (Pol.cv ((q : Int) + 1)) * Pol.ev (fl (lz z1) k) (Pol.cv (turn (len1 % m) m t))) (j + 1)) by
                rw [HSV.out _ hpm, show zline k (turn (len1 % m) m) ((q : Int) + 1) j = Pol.fi (Pol.lag (fl (turn (len1 % m) m) k) j (Pol.cv ((q : Int) + 1))) from rfl, Pol.fi_mul, Pol.fi_sum]; rfl)
              obtain ⟨b0, o0, hbo, hb0, hcs⟩ := (HB6.out.kept (gtr HG.out HG8.out)).ptr (by omega)
              cases hbo
              obtain ⟨b3, o3, hbo, hb3, hcl3⟩ := HS8.out.ptr (by omega)
              cases hbo
              have hcx := hcl3 j hjn
              have hcz := hcs _ hpm
              have hcy := (HW.out.ints.kept HG8.out)
              obtain ⟨b5, o5, hbo, hb5, hcl5⟩ := hcy.ptr (by omega)
              cases hbo
              have hcy := hcl5 j hjn
              rw [Nat.zero_add] at hcx hcy hcz
              clear hcs hcl3 hcl5
              generalize hSM : Pol.fi (psum (fun t => Pol.lag (fl (turn (len1 % m) m) k) t (Pol.cv ((q : Int) + 1)) * Pol.ev (fl (lz z1) k) (Pol.cv (turn (len1 % m) m t))) j) = SM at HE ⊢
              generalize hZL : zline k (turn (len1 % m) m) ((q : Int) + 1) j = ZL at HE hcx
              clear hSM hZL
              unfold turn at hcy
              generalize hpp : (len1 % m + j) % m = p at *
              have e1 : (p : Int) + 1 - 1 = p := by omega
              go_wp2
              go_quiet ((first
                | (go_at_call 16; exact q_imul)
                | (go_at_call 15; exact q_isum)))
              go_wp2
              go_roundw
              case rel => exact ⟨j + 1, by omega, by go_num, by rw [← HE.out], grown_drew HGi.out _⟩
              case measure => simp [intOf]; omega
            · obtain rfl : j = k := by omega
              have hs := bne_f (show Pol.fi (psum (fun t => Pol.lag (fl (turn (len1 % m) m) j) t (Pol.cv ((q : Int) + 1)) * Pol.ev (fl (lz z1) j) (Pol.cv (turn (len1 % m) m t))) j) = z2 q by
                rw [line_value HPL.out hn1 (by rw [fl_length]; exact Nat.le_refl _), HSV.out q hlt])
              obtain ⟨b0, o0, hbo, hb0, hcs⟩ := (HB6.out.kept (gtr HG.out HG8.out)).ptr (by omega)
              cases hbo
              have hcz := hcs q hlt
              rw [Nat.zero_add] at hcz
              clear hcs
              have e1 : (q : Int) + 1 - 1 = q := by omega
              generalize hSM : Pol.fi (psum (fun t => Pol.lag (fl (turn (len1 % m) m) j) t (Pol.cv ((q : Int) + 1)) * Pol.ev (fl (lz z1) j) (Pol.cv (turn (len1 % m) m t))) j) = SM at hs ⊢
              clear hSM
              go_wp2
              go_roundw
              case rel => exact ⟨q + 1, by omega, by go_num, HG8.out⟩
              case measure => simp [intOf]; omega
        · obtain rfl : q = m := by omega
          go_wp2
          go_ret
          exact ⟨rfl, Draw.below_of (gtr G6.out (gtr HG.out HG2.out))⟩
end Run
end Go.Proofs.YtbemggelljgkhaaDoor
