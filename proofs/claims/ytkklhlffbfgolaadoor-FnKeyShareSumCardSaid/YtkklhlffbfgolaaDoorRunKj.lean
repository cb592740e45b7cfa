/-
  The walk of the law on a member's share.
-/
import Derived.Test.YtkklhlffbfgolaaDoorQl
import Derived.Test.YtkklhlffbfgolaaDoorKs
import Derived.Test.YtkklhlffbfgolaaDoorRunKit
namespace Go.Proofs.YtkklhlffbfgolaaDoor
namespace Run
open Go.RowKit Alg Mem Con Mp
set_option linter.unusedVariables false

theorem lpin (w : World) (a : Option Addr) (len cap : Nat) (z : Nat → Int) (n : Int) (hI : Ints w a len z) (hl : len ≤ 2000000) :
    Calls Tryd.prog 7 #[.slice a len cap, .int .i64 n] w fun e w' => e = .returned (.bool (hasz z n len)) ∧ w = w' := by
  go_enter Tryd.func7, Tryd.ntmps7
  go_wp2
  go_loop [5] (fun i => ∃ k : Nat, k ≤ len ∧ i = .int .i64 k ∧ hasz z n k = false) (fun i => len - (intOf i).toNat)
  case atStart => exact ⟨0, by omega, rfl, rfl⟩
  case round =>
    obtain ⟨k, hk, rfl, hz⟩ := hrel
    have HZ := Lib.hid hz; clear hz
    by_cases hlt : k < len
    · rcases hI with h | ⟨b, off, rfl, hb, hc⟩
      · omega
      have hcx := hc k hlt
      clear hc
      by_cases he : z k = n
      · have HR := Lib.hid (hasz_yes hlt he)
        have ht : (z k == n) = true := by simpa using he
        clear he
        go_wp2
        go_ret
        exact ⟨Mem.ret_b HR.out.symm, rfl⟩
      · have HR := Lib.hid (hasz_next HZ.out he)
        have ht : (z k == n) = false := by simpa using he
        clear he
        go_wp2
        go_round
        case rel => exact ⟨k + 1, by omega, by go_num, HR.out⟩
        case measure => simp [intOf]; omega
    · obtain rfl : k = len := by omega
      clear hI
      go_wp2
      go_ret
      exact ⟨Mem.ret_b HZ.out.symm, rfl⟩
/-- The product of what the first k deals that count show at a member. -/
def prd (ng : Nat) (zg : Nat → Int) (D : Nat → DV) (m : Int) : Nat → Int
  | 0 => 1
  | k + 1 => if hasz zg (D k).f ng then gmulF (prd ng zg D m k) (catz (D k).n1 (D k).z1 m) else prd ng zg D m k
theorem prd_yes {ng : Nat} {zg : Nat → Int} {D : Nat → DV} {m : Int} {k : Nat} (h : hasz zg (D k).f ng = true) : prd ng zg D m (k + 1) = gmulF (prd ng zg D m k) (catz (D k).n1 (D k).z1 m) := by simp [prd, h]
theorem prd_no {ng : Nat} {zg : Nat → Int} {D : Nat → DV} {m : Int} {k : Nat} (h : hasz zg (D k).f ng = false) : prd ng zg D m (k + 1) = prd ng zg D m k := by simp [prd, h]
theorem acc_fits {g : Int → Bool} {s t : Int} {l : List Int} (h : acc g s l = some t) : g t = true := by
  unfold acc at h
  split at h
  · rename_i hg
    have h := Option.some.inj h
    subst h; exact hg
  · exact List.find?_some h
/-- Each share is what is shown: so all together. -/
theorem ks_prd {ng : Nat} {zg : Nat → Int} {need many : Int} {D : Nat → DV} {na : Nat} {A : Nat → Ans} {m : Nat} (hm : fok ((m : Int) + 1) = true) : ∀ (k : Nat) (n : Int), ksF ng zg need many D na A m k = some n → fok n = true ∧ gofF n = prd ng zg D ((m : Int) + 1) k
  | 0, n, h => by
    have h := Option.some.inj h
    subst h
    exact ⟨rfl, gof_zero⟩
  | k + 1, n, h => by
    cases hp : ksF ng zg need many D na A m k with
    | none => simp [ksF, hp] at h
    | some n0 =>
      obtain ⟨f0, e0⟩ := ks_prd hm k n0 hp
      cases hh : hasz zg (D k).f ng with
      | false =>
        rw [ks_skip hp hh] at h
        have h := Option.some.inj h
        subst h
        exact ⟨f0, by rw [prd_no hh, e0]⟩
      | true =>
        cases hd : dlF (D k).f (D k).n1 (D k).z1 (D k).n2 (D k).z2 need many with
        | false => rw [ks_bad hp hh hd] at h; cases h
        | true =>
          obtain ⟨_, _, hcm, _, _⟩ := dl_iff.1 hd
          cases ha : acc (cfz (D k).n1 (D k).z1 ((m : Int) + 1)) ((D k).z2 m) (shs A (D k).f ((m : Int) + 1) na) with
          | none => rw [ks_none hp hh hd ha] at h; cases h
          | some s =>
            rw [ks_add hp hh hd ha] at h
            have h := Option.some.inj h
            subst h
            have hs := acc_fits ha
            have hfs : fok s = true := by
              cases hq : fok s with
              | true => rfl
              | false => rw [cfz_nof hq] at hs; cases hs
            rw [cfz_in hcm.2 hm hfs] at hs
            have hs := eq_of_beq hs
            exact ⟨sumF_ok _ _, by rw [prd_yes hh, ← e0, ← hs, gmul_of f0 hfs]⟩
/-- What a share that is told is. -/
theorem ksh_prd {need many : Int} {ng : Nat} {zg : Nat → Int} {nc : Nat} {zc : Nat → Int} {D : Nat → DV} {nd : Nat} {A : Nat → Ans} {na : Nat} {m n : Int} (h : kshF need many ng zg nc zc D nd A na m = some n) : fok m = true ∧ gofF n = prd ng zg D m nd := by
  cases hk : kyF need many ng zg nc zc with
  | false => rw [ksh_k hk] at h; cases h
  | true =>
    obtain ⟨⟨_, _, h5⟩, _, _, _, _⟩ := ky_iff.1 hk
    cases hb : mbF many m with
    | false => rw [ksh_m hb] at h; cases h
    | true =>
      obtain ⟨m1, m2⟩ := mb_iff.1 hb
      obtain ⟨j, rfl⟩ : ∃ j : Nat, m = (j : Int) + 1 := ⟨(m - 1).toNat, by omega⟩
      have hm : fok ((j : Int) + 1) = true := fok_iff.2 (by omega)
      cases hd : dsF D nd with
      | false => rw [ksh_d hd] at h; cases h
      | true =>
        rw [ksh_y hk hb hd] at h
        exact ⟨hm, (ks_prd hm nd n h).2⟩
set_option maxRecDepth 100000 in
set_option maxHeartbeats 4000000 in
theorem FnKeyShareSum (a : Option Addr) (len cap : Nat) (w : World) (a0 : Addr) (hv : Sent w a0) (hB : Draw.Bytes w w.heap.size a len) (hc : len ≤ cap) (hm : cap ≤ maxLen) :
    Calls Tryd.prog 3 #[.slice a len cap] w (Yes w) := by
  by_cases hbig : 1048576 < len
  · have hbig' : (1048576 : Int) < (len : Int) := by omega
    clear hB
    go_enter Tryd.func3, Tryd.ntmps3
    go_wp2
    go_ret
    exact ⟨rfl, Below.refl _ _⟩
  have hbig' : ¬ (1048576 : Int) < (len : Int) := by omega
  have HV0 := Lib.hid hv; clear hv
  go_enter Tryd.func3, Tryd.ntmps3
  go_wp2_with fail
  refine (Draw.drawKS _ a len cap hB hc hm).mono ?_
  rintro e w1 ⟨need, many, ag, ng, cg, zg, ac, nc, cc, zc, ad, nd, cd, D, aa, na, ca, A, m, rfl, hk, hD, hL, hnd, hA, hW, hna, hg⟩
  have hng := hk.g6; have hnc := hk.c5
  have g0 := Draw.grown_alloc w1 (.cells #[.int .i64 need, .int .i64 many, .slice ag ng cg, .slice ac nc cc] 25) none
  have HG1 := Lib.hid (hk.ig.kept g0); have HC1 := Lib.hid (hk.ic.kept g0); have HD1 := Lib.hid (hD.kept g0); have HA1 := Lib.hid (hA.kept g0); have HWf := Lib.hid hW
  have HL := Lib.hid (show ∀ j, j < nd → (D j).n1 ≤ 2000000 ∧ (D j).n2 ≤ 2000000 from fun j hj => by have := hL j hj; exact ⟨by omega, by omega⟩)
  have G2 := Lib.hid (gtr hg g0)
  have HK1 := Lib.hid (Ky.new w1 need many (.slice ag ng cg) (.slice ac nc cc) 25)
  have HV1 := Lib.hid (HV0.out.kept G2.out)
  clear g0 hk hg hB hD hA hW hL
  go_wp2_with fail
  refine (skeyshare _ need many _ _ _ zg _ _ _ zc _ _ _ D _ _ _ A m HG1.out HC1.out HD1.out HL.out HA1.out (by omega) (by omega) (by omega) (by omega)).mono ?_
  rintro e w2 ⟨rfl, hg⟩
  have HG2 := Lib.hid (HG1.out.kept hg); have HC2 := Lib.hid (HC1.out.kept hg); have HD2 := Lib.hid (HD1.out.kept hg); have HA2 := Lib.hid (HA1.out.kept hg); have HK2 := Lib.hid (HK1.out.kept hg); have HV2 := Lib.hid (HV1.out.kept hg); have G3 := Lib.hid (gtr G2.out hg); clear hg
  obtain ⟨_, k0, k1, k2, k3⟩ := HK2.out
  cases hs : kshF need many ng zg nc zc D nd A na m with
  | none =>
    simp only [accV]
    go_wp2_with fail
    refine (ikeyshare _ need many _ _ _ zg _ _ _ zc _ _ _ D _ _ _ A m HG2.out HC2.out HD2.out HL.out HA2.out HWf.out (by omega) (by omega) (by omega) (by omega) a0 HV2.out).mono ?_
    rintro e w3 ⟨rfl, hg⟩
    rw [hs]
    simp only [accV]
    have G4 := Lib.hid (gtr G3.out hg); clear hg
    go_wp2
    go_ret
    exact ⟨rfl, Draw.below_of G4.out⟩
  | some n =>
    obtain ⟨hfm, hprd⟩ := ksh_prd hs
    have HP := Lib.hid hprd; clear hprd
    simp only [accV]
    go_wp2_with fail
    refine (ikeyshare _ need many _ _ _ zg _ _ _ zc _ _ _ D _ _ _ A m HG2.out HC2.out HD2.out HL.out HA2.out HWf.out (by omega) (by omega) (by omega) (by omega) a0 HV2.out).mono ?_
    rintro e w3 ⟨rfl, hg⟩
    rw [hs]
    simp only [accV]
    have HG3 := Lib.hid (HG2.out.kept hg); have HD3 := Lib.hid (HD2.out.kept hg); have HK3 := Lib.hid (HK2.out.kept hg); have G4 := Lib.hid (gtr G3.out hg)
    clear hg hs k0 k1 k2 k3
    have hl1 : ng ≤ 2000000 := by omega
    go_wp2
    go_loopw [11, 12] (fun g i W => ∃ k : Nat, k ≤ nd ∧ i = .int .i64 k ∧ g = .int .i64 (prd ng zg D m k) ∧ w3.grownBy W none) (fun _ i _ => nd - (intOf i).toNat)
    case atStart => exact ⟨0, by omega, rfl, rfl, Draw.grown_refl _ _⟩
    case round =>
      obtain ⟨k, hk, rfl, rfl, hg⟩ := hrel
      have HGr := Lib.hid hg; clear hg
      by_cases hlt : k < nd
      · have hj1 : (0 : Int) ≤ (k : Int) := by omega
        have hj2 : (k : Int) < (nd : Int) := by omega
        have HKr := Lib.hid (HK3.out.kept HGr.out)
        obtain ⟨_, k0, k1, k2, k3⟩ := HKr.out
        have HDr := Lib.hid (HD3.out.kept HGr.out)
        rcases HDr.out with h | ⟨b, off, rfl, hb, hcc⟩
        · omega
        obtain ⟨⟨hc0, hc1, hc2⟩, hrow⟩ := hcc k hlt
        obtain ⟨hn1, hn2⟩ := HL.out k hlt
        have HRow := Lib.hid hrow; have HGrd := Lib.hid (HG3.out.kept HGr.out)
        clear hcc hrow
        cases hh : hasz zg (D k).f ng with
        | false =>
          have HS' := Lib.hid (prd_no (m := m) hh)
          have HH := Lib.hid hh
          go_wp2_with fail
          go_quiet ((go_at_call 7; refine Calls.quiet_of_same ((lpin _ _ _ _ zg (D k).f (HGrd.out.drew _) hl1).mono fun _ _ h => ⟨by rw [h.1, HH.out], h.2.symm⟩)))
          go_wp2
          go_roundw
          case rel => exact ⟨k + 1, by omega, by go_num, by rw [HS'.out], ⟨HGr.out.os, HGr.out.tape, HGr.out.output, HGr.out.size, HGr.out.block⟩⟩
          case measure => simp [intOf]; omega
        | true =>
          have HS' := Lib.hid (prd_yes (m := m) hh)
          have HH := Lib.hid hh
          go_wp2_with fail
          go_quiet ((go_at_call 7; refine Calls.quiet_of_same ((lpin _ _ _ _ zg (D k).f (HGrd.out.drew _) hl1).mono fun _ _ h => ⟨by rw [h.1, HH.out], h.2.symm⟩)))
          obtain ⟨wn, hwn, hgn⟩ : ∃ wn, wr.drewN nq = wn ∧ wr.grownBy wn none := ⟨_, rfl, rfl, rfl, rfl, Nat.le_refl _, fun _ _ _ => rfl⟩
          rw [hwn]
          have Hgn := Lib.hid (gtr HGr.out hgn)
          have q1 := (World.cell?_of_block (hgn.block b hb (by simp))).trans hc1
          have HRown := Lib.hid (HRow.out.kept hgn)
          clear hwn hgn hc0 hc1 hc2 k0 k1 k2 k3 hb
          go_wp2_with fail
          refine (icat _ _ _ _ (D k).z1 m HRown.out.i1 hn1).mono ?_
          rintro e w5 ⟨rfl, hg⟩
          have HG5 := Lib.hid (gtr Hgn.out hg); clear hg
          go_wp2_with fail
          refine (igmul _ _ _).mono ?_
          rintro e w6 ⟨rfl, hg⟩
          have HG6 := Lib.hid (gtr HG5.out hg); clear hg
          go_wp2
          go_roundw
          case rel => exact ⟨k + 1, by omega, by go_num, by rw [HS'.out], HG6.out⟩
          case measure => simp [intOf]; omega
      · obtain rfl : k = nd := by omega
        have heq : (gofF n == prd ng zg D m k) = true := by rw [HP.out]; simp
        go_wp2_with fail
        refine (igof _ _).mono ?_
        rintro e w5 ⟨rfl, hg⟩
        have G6 := Lib.hid (gtr (gtr G4.out HGr.out) hg); clear hg
        go_wp2
        go_ret
        exact ⟨rfl, Draw.below_of G6.out⟩
end Run
end Go.Proofs.YtkklhlffbfgolaaDoor
