/-
  Signatures: the model's SignPart and SignFits.
-/
import Derived.Test.YthbigmcklacbnaaGreatDoorGn
import Derived.Test.YthbigmcklacbnaaGreatDoorMp
namespace Go.Proofs.YthbigmcklacbnaaGreatDoor
namespace Con
open Go.RowKit Alg Mem Draw
set_option linter.unusedVariables false

set_option maxHeartbeats 2000000 in
theorem s31crew (w : World) (need many : Int) (s1 s2 : Value) (a : Option Addr) (len cap : Nat) (z : Nat → Int) (hI : Ints w a len z) (hl : len ≤ 2000000) :
    Calls Tryz.prog 36 #[.agg #[.int .i64 need, .int .i64 many, s1, s2], .slice a len cap] w fun e w' => e = .returned (.bool (crw need many len z)) ∧ w.grownBy w' none := by
  have HG0 := Lib.hid (Draw.grown_alloc w (.cells #[.int .i64 need, .int .i64 many, s1, s2] 25) none)
  have HA := Lib.hid (hI.kept HG0.out); clear hI
  have HD := Lib.hid (Ky.new w need many s1 s2 25)
  go_enter Tryz.func36, Tryz.ntmps36
  go_wp2
  go_loopw [5] (fun i wr => ∃ k : Nat, k ≤ len ∧ i = .int .i64 k ∧ mbz many z k = true ∧ upz z k = true ∧ (w.alloc (.cells #[.int .i64 need, .int .i64 many, s1, s2] 25)).grownBy wr none) (fun i _ => len - (intOf i).toNat)
  case atStart => exact ⟨0, by omega, rfl, rfl, rfl, Draw.grown_refl _ _⟩
  case round =>
    obtain ⟨k, hk, rfl, hz, hu, hg⟩ := hrel
    have HZ := Lib.hid hz; have HU := Lib.hid hu; have HGr := Lib.hid hg; clear hz hu hg
    have HD1 := Lib.hid (HD.out.kept HGr.out)
    obtain ⟨_, k0, k1, k2, k3⟩ := HD1.out
    by_cases hlt : k < len
    · obtain ⟨b, off, rfl, hb, hcc⟩ := (HA.out.kept HGr.out).ptr (by omega)
      have hcx := hcc k hlt
      cases hd : mbF many (z k) with
      | false =>
        have HR := Lib.hid (crw_not (need := need) (many := many) (n := len) (z := z) (by rw [mbz_no hlt hd]; simp))
        have HN := Lib.hid (show ¬ (1 ≤ z k ∧ z k ≤ many) from fun h => by rw [mb_iff.2 h] at hd; cases hd)
        clear hcc hd
        go_wp2_with fail
        go_quiet (first | (go_at_call 38; refine Calls.quiet_of_same ((s6in_no _ _ _ _ HN.out).mono fun _ _ h => ⟨h.1, h.2.symm⟩)))
        go_wp2
        go_ret
        exact ⟨ret_b HR.out.symm, gtr HG0.out ⟨HGr.out.os, HGr.out.tape, HGr.out.output, HGr.out.size, HGr.out.block⟩⟩
      | true =>
        have HZ1 := Lib.hid (mbz_next HZ.out hd)
        obtain ⟨q1, q2⟩ := mb_iff.1 hd
        clear hd
        by_cases h0 : k = 0
        · subst h0
          clear hcc
          rw [Nat.add_zero] at hcx
          have HU1 := Lib.hid (upz_next HU.out (.inl rfl))
          have hz0 : ¬ (0 : Int) < ((0 : Nat) : Int) := by omega
          go_wp2_with fail
          go_quiet (first | (go_at_call 38; refine Calls.quiet_of_same ((s6in_yes _ _ _ _ q1 q2).mono fun _ _ h => ⟨h.1, h.2.symm⟩)))
          go_wp2
          go_roundw
          case rel => exact ⟨0 + 1, by omega, by go_num, HZ1.out, HU1.out, ⟨HGr.out.os, HGr.out.tape, HGr.out.output, HGr.out.size, HGr.out.block⟩⟩
          case measure => simp [intOf]; omega
        · obtain ⟨j, rfl⟩ : ∃ j, k = j + 1 := ⟨k - 1, by omega⟩
          have hcy := hcc j (by omega)
          clear hcc
          have hpos : (0 : Int) < ((j + 1 : Nat) : Int) := by omega
          have hsub : (((j + 1 : Nat) : Int) - 1) = (j : Int) := by omega
          by_cases hle : z (j + 1) ≤ z j
          · have HR := Lib.hid (crw_not (need := need) (many := many) (n := len) (z := z) (by rw [upz_no (z := z) hlt (by omega) (by simpa using hle)]; simp))
            go_wp2_with fail
            go_quiet (first | (go_at_call 38; refine Calls.quiet_of_same ((s6in_yes _ _ _ _ q1 q2).mono fun _ _ h => ⟨h.1, h.2.symm⟩)))
            go_wp2
            go_ret
            exact ⟨ret_b HR.out.symm, gtr HG0.out ⟨HGr.out.os, HGr.out.tape, HGr.out.output, HGr.out.size, HGr.out.block⟩⟩
          · have HU1 := Lib.hid (upz_next HU.out (.inr (by simp; omega)))
            go_wp2_with fail
            go_quiet (first | (go_at_call 38; refine Calls.quiet_of_same ((s6in_yes _ _ _ _ q1 q2).mono fun _ _ h => ⟨h.1, h.2.symm⟩)))
            go_wp2
            go_roundw
            case rel => exact ⟨j + 1 + 1, by omega, by go_num, HZ1.out, HU1.out, ⟨HGr.out.os, HGr.out.tape, HGr.out.output, HGr.out.size, HGr.out.block⟩⟩
            case measure => simp [intOf]; omega
    · obtain rfl : k = len := by omega
      have HE := Lib.hid (gtr HG0.out HGr.out)
      by_cases hn : need ≤ (k : Int)
      · have HR := Lib.hid (crw_iff.2 ⟨hn, HU.out, HZ.out⟩)
        go_wp2
        go_ret
        exact ⟨ret_b HR.out.symm, HE.out⟩
      · have HR := Lib.hid (crw_not (need := need) (many := many) (n := k) (z := z) (by omega))
        go_wp2
        go_ret
        exact ⟨ret_b HR.out.symm, HE.out⟩
def goF (need many : Int) (ng : Nat) (zg : Nat → Int) (nc : Nat) (zc : Nat → Int) (nm : Nat) (zm : Nat → Int) (m r msg : Int) : Bool := gaF need many ng zg nc zc nm zm m && (gok r && mok msg)
theorem go_iff {need many : Int} {ng : Nat} {zg : Nat → Int} {nc : Nat} {zc : Nat → Int} {nm : Nat} {zm : Nat → Int} {m r msg : Int} : goF need many ng zg nc zc nm zm m r msg = true ↔ gaF need many ng zg nc zc nm zm m = true ∧ gok r = true ∧ mok msg = true := by simp [goF]
theorem go_not {need many : Int} {ng : Nat} {zg : Nat → Int} {nc : Nat} {zc : Nat → Int} {nm : Nat} {zm : Nat → Int} {m r msg : Int} (h : ¬ (gaF need many ng zg nc zc nm zm m = true ∧ gok r = true ∧ mok msg = true)) : goF need many ng zg nc zc nm zm m r msg = false := by
  cases hh : goF need many ng zg nc zc nm zm m r msg with
  | false => rfl
  | true => exact absurd (go_iff.1 hh) h
/-! What the model answers. -/
end Con
end Go.Proofs.YthbigmcklacbnaaGreatDoor
