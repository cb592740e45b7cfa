/-
  Which keys are valid, what all know of one, and whether a share is a member's: the functions whole.
-/
import Derived.Test.YtkklhlffbfgolaaDoorKa
namespace Go.Proofs.YtkklhlffbfgolaaDoor
namespace Con
open Go.RowKit Alg Mem
set_option linter.unusedVariables false

theorem ikeyok (w : World) (need many : Int) (a1 : Option Addr) (n1 c1 : Nat) (z1 : Nat → Int) (a2 : Option Addr) (n2 c2 : Nat) (z2 : Nat → Int) (hA : Ints w a1 n1 z1) (hB : Ints w a2 n2 z2) (hl1 : n1 ≤ 2000000) (hl2 : n2 ≤ 2000000) :
    Calls Tryd.prog 21 #[.agg #[.int .i64 need, .int .i64 many, .slice a1 n1 c1, .slice a2 n2 c2]] w fun e w' => e = .returned (.bool (kyF need many n1 z1 n2 z2)) ∧ w.grownBy w' none := by
  have HG0 := Lib.hid (Draw.grown_alloc w (.cells #[.int .i64 need, .int .i64 many, .slice a1 n1 c1, .slice a2 n2 c2] 25) none)
  have HA := Lib.hid (hA.kept HG0.out); have HB := Lib.hid (hB.kept HG0.out); clear hA hB
  have HD := Lib.hid (Ky.new w need many (.slice a1 n1 c1) (.slice a2 n2 c2) 25)
  cases hc : crewF need many with
  | false =>
    have HR := Lib.hid (ky_crew (n1 := n1) (z1 := z1) (n2 := n2) (z2 := z2) hc)
    go_enter Tryd.func21, Tryd.ntmps21
    go_wp2_with fail
    refine (icrew _ _ _).mono ?_
    rintro e w' ⟨rfl, rfl⟩
    rw [hc]
    go_wp2
    go_ret
    exact ⟨ret_b HR.out.symm, HG0.out⟩
  | true =>
    by_cases hn : (n2 : Int) = need
    · cases hk : cokz n2 z2 with
      | false =>
        have HR := Lib.hid (ky_com (need := need) (many := many) (n1 := n1) (z1 := z1) hk)
        have hn' : ((n2 : Int) == need) = true := by simpa using hn
        clear hn
        go_enter Tryd.func21, Tryd.ntmps21
        go_wp2_with fail
        refine (icrew _ _ _).mono ?_
        rintro e w' ⟨rfl, rfl⟩
        rw [hc]
        go_wp2_with fail
        refine (icok _ _ _ _ z2 HB.out (by omega)).mono ?_
        rintro e w1 ⟨rfl, hg⟩
        have HG := Lib.hid (gtr HG0.out hg); have HA1 := Lib.hid (HA.out.kept hg); have HD1 := Lib.hid (HD.out.kept hg); clear hg
        rw [hk]
        obtain ⟨_, k0, k1, k2, k3⟩ := HD1.out
        go_wp2
        go_ret
        exact ⟨ret_b HR.out.symm, HG.out⟩
      | true =>
        cases hd : dmz z1 n1 with
        | false =>
          have HR := Lib.hid (ky_dm (need := need) (many := many) (n2 := n2) (z2 := z2) hd)
          have hn' : ((n2 : Int) == need) = true := by simpa using hn
          clear hn
          go_enter Tryd.func21, Tryd.ntmps21
          go_wp2_with fail
          refine (icrew _ _ _).mono ?_
          rintro e w' ⟨rfl, rfl⟩
          rw [hc]
          go_wp2_with fail
          refine (icok _ _ _ _ z2 HB.out (by omega)).mono ?_
          rintro e w1 ⟨rfl, hg⟩
          have HG := Lib.hid (gtr HG0.out hg); have HA1 := Lib.hid (HA.out.kept hg); have HD1 := Lib.hid (HD.out.kept hg); clear hg
          rw [hk]
          obtain ⟨_, k0, k1, k2, k3⟩ := HD1.out
          go_wp2_with fail
          refine (iall_d _ _ _ _ z1 HA1.out (by omega)).mono ?_
          rintro e w' ⟨rfl, rfl⟩
          rw [hd]
          go_wp2
          go_ret
          exact ⟨ret_b HR.out.symm, HG.out⟩
        | true =>
          cases hu : upz z1 n1 with
          | false =>
            have HR := Lib.hid (ky_up (need := need) (many := many) (n2 := n2) (z2 := z2) hu)
            have hn' : ((n2 : Int) == need) = true := by simpa using hn
            clear hn
            go_enter Tryd.func21, Tryd.ntmps21
            go_wp2_with fail
            refine (icrew _ _ _).mono ?_
            rintro e w' ⟨rfl, rfl⟩
            rw [hc]
            go_wp2_with fail
            refine (icok _ _ _ _ z2 HB.out (by omega)).mono ?_
            rintro e w1 ⟨rfl, hg⟩
            have HG := Lib.hid (gtr HG0.out hg); have HA1 := Lib.hid (HA.out.kept hg); have HD1 := Lib.hid (HD.out.kept hg); clear hg
            rw [hk]
            obtain ⟨_, k0, k1, k2, k3⟩ := HD1.out
            go_wp2_with fail
            refine (iall_d _ _ _ _ z1 HA1.out (by omega)).mono ?_
            rintro e w' ⟨rfl, rfl⟩
            rw [hd]
            go_wp2_with fail
            refine (iasc _ _ _ _ z1 HA1.out (by omega)).mono ?_
            rintro e w' ⟨rfl, rfl⟩
            rw [hu]
            go_wp2
            go_ret
            exact ⟨ret_b HR.out.symm, HG.out⟩
          | true =>
            have HR := Lib.hid (ky_yes hc hn hk hd hu)
            have hn' : ((n2 : Int) == need) = true := by simpa using hn
            clear hn
            go_enter Tryd.func21, Tryd.ntmps21
            go_wp2_with fail
            refine (icrew _ _ _).mono ?_
            rintro e w' ⟨rfl, rfl⟩
            rw [hc]
            go_wp2_with fail
            refine (icok _ _ _ _ z2 HB.out (by omega)).mono ?_
            rintro e w1 ⟨rfl, hg⟩
            have HG := Lib.hid (gtr HG0.out hg); have HA1 := Lib.hid (HA.out.kept hg); have HD1 := Lib.hid (HD.out.kept hg); clear hg
            rw [hk]
            obtain ⟨_, k0, k1, k2, k3⟩ := HD1.out
            go_wp2_with fail
            refine (iall_d _ _ _ _ z1 HA1.out (by omega)).mono ?_
            rintro e w' ⟨rfl, rfl⟩
            rw [hd]
            go_wp2_with fail
            refine (iasc _ _ _ _ z1 HA1.out (by omega)).mono ?_
            rintro e w' ⟨rfl, rfl⟩
            rw [hu]
            go_wp2
            go_ret
            exact ⟨ret_b HR.out.symm, HG.out⟩
    · have HR := Lib.hid (ky_len (many := many) (n1 := n1) (z1 := z1) (z2 := z2) hn)
      have hn' : ((n2 : Int) == need) = false := by simpa using hn
      clear hn
      go_enter Tryd.func21, Tryd.ntmps21
      go_wp2_with fail
      refine (icrew _ _ _).mono ?_
      rintro e w' ⟨rfl, rfl⟩
      rw [hc]
      go_wp2
      go_ret
      exact ⟨ret_b HR.out.symm, HG0.out⟩

/-- What all know of a key. -/
def kpub (need many : Int) (n1 : Nat) (z1 : Nat → Int) (n2 : Nat) (z2 : Nat → Int) : Int := if kyF need many n1 z1 n2 z2 then z2 0 else 0
theorem kpub_no {need many : Int} {n1 : Nat} {z1 : Nat → Int} {n2 : Nat} {z2 : Nat → Int} (h : kyF need many n1 z1 n2 z2 = false) : kpub need many n1 z1 n2 z2 = 0 := by simp [kpub, h]
theorem kpub_yes {need many : Int} {n1 : Nat} {z1 : Nat → Int} {n2 : Nat} {z2 : Nat → Int} (h : kyF need many n1 z1 n2 z2 = true) : kpub need many n1 z1 n2 z2 = z2 0 := by simp [kpub, h]
/-- Is he a member? -/
def mbF (many m : Int) : Bool := decide (1 ≤ m ∧ m ≤ many)
theorem mb_iff {many m : Int} : mbF many m = true ↔ 1 ≤ m ∧ m ≤ many := by simp [mbF]
theorem imem (w : World) (need many : Int) (s1 s2 : Value) (m : Int) :
    Calls Tryd.prog 22 #[.agg #[.int .i64 need, .int .i64 many, s1, s2], .int .i64 m] w fun e w' => e = .returned (.bool (mbF many m)) ∧ w.grownBy w' none := by
  have HD := Lib.hid (Ky.new w need many s1 s2 25)
  obtain ⟨_, k0, k1, k2, k3⟩ := HD.out
  by_cases h1 : 1 ≤ m
  · by_cases h2 : m ≤ many
    · have HR := Lib.hid (show mbF many m = true from decide_eq_true ⟨h1, h2⟩)
      go_enter Tryd.func22, Tryd.ntmps22
      go_wp2
      go_ret
      exact ⟨ret_b HR.out.symm, Draw.grown_alloc _ _ _⟩
    · have HR := Lib.hid (show mbF many m = false from decide_eq_false (by omega))
      go_enter Tryd.func22, Tryd.ntmps22
      go_wp2
      go_ret
      exact ⟨ret_b HR.out.symm, Draw.grown_alloc _ _ _⟩
  · have HR := Lib.hid (show mbF many m = false from decide_eq_false (by omega))
    go_enter Tryd.func22, Tryd.ntmps22
    go_wp2
    go_ret
    exact ⟨ret_b HR.out.symm, Draw.grown_alloc _ _ _⟩
/-- Is the share the member's? -/
def kfit (need many : Int) (n1 : Nat) (z1 : Nat → Int) (n2 : Nat) (z2 : Nat → Int) (m s : Int) : Bool := kyF need many n1 z1 n2 z2 && mbF many m && cfz n2 z2 m s
theorem kfit_k {need many : Int} {n1 : Nat} {z1 : Nat → Int} {n2 : Nat} {z2 : Nat → Int} {m s : Int} (h : kyF need many n1 z1 n2 z2 = false) : kfit need many n1 z1 n2 z2 m s = false := by simp [kfit, h]
theorem kfit_m {need many : Int} {n1 : Nat} {z1 : Nat → Int} {n2 : Nat} {z2 : Nat → Int} {m s : Int} (h : mbF many m = false) : kfit need many n1 z1 n2 z2 m s = false := by simp [kfit, h]
theorem kfit_y {need many : Int} {n1 : Nat} {z1 : Nat → Int} {n2 : Nat} {z2 : Nat → Int} {m s : Int} (h : kyF need many n1 z1 n2 z2 = true) (h2 : mbF many m = true) : kfit need many n1 z1 n2 z2 m s = cfz n2 z2 m s := by simp [kfit, h, h2]
theorem cfz_nof {len : Nat} {z : Nat → Int} {x n : Int} (h : fok n = false) : cfz len z x n = false := by simp [cfz, h]
/-- The model's test of a key. -/
theorem skeyok (w : World) (need many : Int) (a1 : Option Addr) (n1 c1 : Nat) (z1 : Nat → Int) (a2 : Option Addr) (n2 c2 : Nat) (z2 : Nat → Int) (hA : Ints w a1 n1 z1) (hB : Ints w a2 n2 z2) (hl1 : n1 ≤ 2000000) (hl2 : n2 ≤ 2000000) :
    Calls Tryd.prog 14 #[.agg #[.int .i64 need, .int .i64 many, .slice a1 n1 c1, .slice a2 n2 c2]] w fun e w' => e = .returned (.bool (kyF need many n1 z1 n2 z2)) ∧ w.grownBy w' none := by
  have HG0 := Lib.hid (Draw.grown_alloc w (.cells #[.int .i64 need, .int .i64 many, .slice a1 n1 c1, .slice a2 n2 c2] 25) none)
  have HA := Lib.hid (hA.kept HG0.out); have HB := Lib.hid (hB.kept HG0.out); clear hA hB
  have HD := Lib.hid (Ky.new w need many (.slice a1 n1 c1) (.slice a2 n2 c2) 25)
  go_enter Tryd.func14, Tryd.ntmps14
  go_wp2
  go_loopw [3] (fun i wr => ∃ k : Nat, k ≤ n1 ∧ i = .int .i64 k ∧ dmz z1 k = true ∧ upz z1 k = true ∧ (w.alloc (.cells #[.int .i64 need, .int .i64 many, .slice a1 n1 c1, .slice a2 n2 c2] 25)).grownBy wr none) (fun i _ => n1 - (intOf i).toNat)
  case atStart => exact ⟨0, by omega, rfl, rfl, rfl, Draw.grown_refl _ _⟩
  case round =>
    obtain ⟨k, hk, rfl, hz, hu, hg⟩ := hrel
    have HZ := Lib.hid hz; have HU := Lib.hid hu; have HGr := Lib.hid hg; clear hz hu hg
    have HD1 := Lib.hid (HD.out.kept HGr.out)
    obtain ⟨_, k0, k1, k2, k3⟩ := HD1.out
    by_cases hlt : k < n1
    · obtain ⟨b, off, rfl, hb, hcc⟩ := (HA.out.kept HGr.out).ptr (by omega)
      have hcx := hcc k hlt
      cases hd : dmk (z1 k) with
      | false =>
        have HR := Lib.hid (ky_dm (need := need) (many := many) (n2 := n2) (z2 := z2) (dmz_no hlt hd))
        have HN := Lib.hid (show ¬ (1 ≤ z1 k ∧ z1 k ≤ 5) from fun h => by rw [dmk_iff.2 h] at hd; cases hd)
        clear hcc hd
        go_wp2_with fail
        go_quiet (first | (go_at_call 15; refine Calls.quiet_of_same ((s6in_no _ _ _ _ HN.out).mono fun _ _ h => ⟨h.1, h.2.symm⟩)))
        go_wp2
        go_ret
        exact ⟨ret_b HR.out.symm, gtr HG0.out ⟨HGr.out.os, HGr.out.tape, HGr.out.output, HGr.out.size, HGr.out.block⟩⟩
      | true =>
        have HZ1 := Lib.hid (dmz_next HZ.out hd)
        obtain ⟨q1, q2⟩ := dmk_iff.1 hd
        clear hd
        by_cases h0 : k = 0
        · subst h0
          clear hcc
          rw [Nat.add_zero] at hcx
          have HU1 := Lib.hid (upz_next HU.out (.inl rfl))
          have hz0 : ¬ (0 : Int) < ((0 : Nat) : Int) := by omega
          go_wp2_with fail
          go_quiet (first | (go_at_call 15; refine Calls.quiet_of_same ((s6in_yes _ _ _ _ q1 q2).mono fun _ _ h => ⟨h.1, h.2.symm⟩)))
          go_wp2
          go_roundw
          case rel => exact ⟨0 + 1, by omega, by go_num, HZ1.out, HU1.out, ⟨HGr.out.os, HGr.out.tape, HGr.out.output, HGr.out.size, HGr.out.block⟩⟩
          case measure => simp [intOf]; omega
        · obtain ⟨j, rfl⟩ : ∃ j, k = j + 1 := ⟨k - 1, by omega⟩
          have hcy := hcc j (by omega)
          clear hcc
          have hpos : (0 : Int) < ((j + 1 : Nat) : Int) := by omega
          have hsub : (((j + 1 : Nat) : Int) - 1) = (j : Int) := by omega
          by_cases hle : z1 (j + 1) ≤ z1 j
          · have HR := Lib.hid (ky_up (need := need) (many := many) (n2 := n2) (z2 := z2) (upz_no (z := z1) hlt (by omega) (by simpa using hle)))
            go_wp2_with fail
            go_quiet (first | (go_at_call 15; refine Calls.quiet_of_same ((s6in_yes _ _ _ _ q1 q2).mono fun _ _ h => ⟨h.1, h.2.symm⟩)))
            go_wp2
            go_ret
            exact ⟨ret_b HR.out.symm, gtr HG0.out ⟨HGr.out.os, HGr.out.tape, HGr.out.output, HGr.out.size, HGr.out.block⟩⟩
          · have HU1 := Lib.hid (upz_next HU.out (.inr (by simp; omega)))
            go_wp2_with fail
            go_quiet (first | (go_at_call 15; refine Calls.quiet_of_same ((s6in_yes _ _ _ _ q1 q2).mono fun _ _ h => ⟨h.1, h.2.symm⟩)))
            go_wp2
            go_roundw
            case rel => exact ⟨j + 1 + 1, by omega, by go_num, HZ1.out, HU1.out, ⟨HGr.out.os, HGr.out.tape, HGr.out.output, HGr.out.size, HGr.out.block⟩⟩
            case measure => simp [intOf]; omega
    · obtain rfl : k = n1 := by omega
      have HB1 := Lib.hid (HB.out.kept HGr.out)
      have HE := Lib.hid (gtr HG0.out HGr.out)
      cases hc : crewF need many with
      | false =>
        have HR := Lib.hid (ky_crew (n1 := k) (z1 := z1) (n2 := n2) (z2 := z2) hc)
        go_wp2_with fail
        refine (screw _ _ _).mono ?_
        rintro e w' ⟨rfl, rfl⟩
        rw [hc]
        go_wp2
        go_ret
        exact ⟨ret_b HR.out.symm, HE.out⟩
      | true =>
        cases hq : cokz n2 z2 with
        | false =>
          have HR := Lib.hid (ky_com (need := need) (many := many) (n1 := k) (z1 := z1) hq)
          go_wp2_with fail
          refine (screw _ _ _).mono ?_
          rintro e w' ⟨rfl, rfl⟩
          rw [hc]
          go_wp2_with fail
          refine (scok _ _ _ _ z2 HB1.out (by omega)).mono ?_
          rintro e w' ⟨rfl, rfl⟩
          rw [hq]
          go_wp2
          go_ret
          exact ⟨ret_b HR.out.symm, HE.out⟩
        | true =>
          by_cases hn : (n2 : Int) = need
          · have HR := Lib.hid (ky_yes hc hn hq HZ.out HU.out)
            have hn' : ((n2 : Int) == need) = true := by simpa using hn
            clear hn
            go_wp2_with fail
            refine (screw _ _ _).mono ?_
            rintro e w' ⟨rfl, rfl⟩
            rw [hc]
            go_wp2_with fail
            refine (scok _ _ _ _ z2 HB1.out (by omega)).mono ?_
            rintro e w' ⟨rfl, rfl⟩
            rw [hq]
            go_wp2
            go_ret
            exact ⟨ret_b HR.out.symm, HE.out⟩
          · have HR := Lib.hid (ky_len (many := many) (n1 := k) (z1 := z1) (z2 := z2) hn)
            have hn' : ((n2 : Int) == need) = false := by simpa using hn
            clear hn
            go_wp2_with fail
            refine (screw _ _ _).mono ?_
            rintro e w' ⟨rfl, rfl⟩
            rw [hc]
            go_wp2_with fail
            refine (scok _ _ _ _ z2 HB1.out (by omega)).mono ?_
            rintro e w' ⟨rfl, rfl⟩
            rw [hq]
            go_wp2
            go_ret
            exact ⟨ret_b HR.out.symm, HE.out⟩
end Con
end Go.Proofs.YtkklhlffbfgolaaDoor