/-
  The walk of the law on the number that fits what is shown.
-/
import Derived.Test.YtpdmolphmimomaaCd
import Derived.Test.YtpdmolphmimomaaDrawFit
import Derived.Test.YtpdmolphmimomaaRunKit
import Derived.Deep.RegionWith
namespace Go.Proofs.Ytpdmolphmimomaa
namespace Run
open Go.RowKit Alg Mem Con
set_option linter.unusedVariables false

/-- How many of the first k numbers fit. -/
def hits (V : Int) (k : Nat) : Int := if V < (k : Int) then 1 else 0
theorem hits_zero {V : Int} (h : 0 ≤ V) : hits V 0 = 0 := by unfold hits; rw [if_neg (by omega)]
theorem hits_yes {V : Int} {k : Nat} (h : (k : Int) = V) : hits V k + 1 = hits V (k + 1) := by unfold hits; rw [if_neg (by omega), if_pos (by omega)]; rfl
theorem hits_no {V : Int} {k : Nat} (h : ¬ (k : Int) = V) : hits V k = hits V (k + 1) := by
  unfold hits; by_cases h' : V < (k : Int)
  · rw [if_pos h', if_pos (by omega)]
  · rw [if_neg h', if_neg (by omega)]
theorem hits_all {V : Int} (h : V ≤ 22) : hits V 23 = 1 := by unfold hits; rw [if_pos (by omega)]
theorem cfz_hit {n : Nat} {z : Nat → Int} {x i : Int} (hp : cokz n z = true) (hx : fok x = true) (hi : fok i = true) : cfz n z x i = decide (i = Pol.fi (Pol.ev (fl (lz z) n) (Pol.cv x))) := by
  rw [cfz_in hp hx hi, catz_in hp hx]
  have := gof_same hi (Pol.fi_ok (Pol.ev (fl (lz z) n) (Pol.cv x)))
  by_cases h : i = Pol.fi (Pol.ev (fl (lz z) n) (Pol.cv x))
  · rw [decide_eq_true h, this.2 h]; simp
  · rw [decide_eq_false h]; exact beq_eq_false_iff_ne.2 fun e => h (this.1 e)

set_option maxRecDepth 100000 in
set_option maxHeartbeats 2000000 in
theorem FnFits (a : Option Addr) (len cap : Nat) (w : World) (hB : Draw.Bytes w w.heap.size a len) (hc : len ≤ cap) (hm : cap ≤ maxLen) :
    Calls Try.prog 6 #[.slice a len cap] w (Yes w) := by
  by_cases hbig : 1048576 < len
  · have hbig' : (1048576 : Int) < (len : Int) := by omega
    clear hB
    go_enter Try.func6, Try.ntmps6
    go_wp2
    go_ret
    exact ⟨rfl, Below.refl _ _⟩
  have hbig' : ¬ (1048576 : Int) < (len : Int) := by omega
  go_enter Try.func6, Try.ntmps6
  go_wp2_with fail
  refine (Draw.drawCFit _ a len cap hB hc hm).mono ?_
  rintro e w1 ⟨b, n, c, z, x, y, rfl, l6, lc, lm, hA, hg⟩
  have HA := Lib.hid hA; have G1 := Lib.hid hg; clear hA hg hB
  go_wp2_with fail
  refine (icfit _ _ _ _ z x y HA.out (by omega)).mono ?_
  rintro e w2 ⟨rfl, hg⟩
  have HA2 := Lib.hid (HA.out.kept hg); have G2 := Lib.hid (gtr G1.out hg); clear hg
  go_wp2_with fail
  refine (scfit _ _ _ _ z x y HA2.out (by omega)).mono ?_
  rintro e w3 ⟨rfl, hg⟩
  have HA3 := Lib.hid (HA2.out.kept hg); have G3 := Lib.hid (gtr G2.out hg); clear hg
  have hself : (cfz n z x y == cfz n z x y) = true := by simp
  cases hp : cokz n z with
  | false =>
    go_wp2_with fail
    refine (scok _ _ _ _ z HA3.out (by omega)).mono ?_
    rintro e w' ⟨rfl, rfl⟩
    go_wp2_with fail
    refine (scfit _ _ _ _ z x y HA3.out (by omega)).mono ?_
    rintro e w4 ⟨rfl, hg⟩
    have G4 := Lib.hid (gtr G3.out hg); clear hg
    go_wp2
    go_ret
    exact ⟨rfl, Draw.below_of G4.out⟩
  | true =>
    cases hx : fok x with
    | false =>
      go_wp2_with fail
      refine (scok _ _ _ _ z HA3.out (by omega)).mono ?_
      rintro e w' ⟨rfl, rfl⟩
      go_wp2_with fail
      refine (sok_no _ _ (by assumption)).mono ?_
      rintro e w' ⟨rfl, rfl⟩
      go_wp2_with fail
      refine (scfit _ _ _ _ z x y HA3.out (by omega)).mono ?_
      rintro e w4 ⟨rfl, hg⟩
      have G4 := Lib.hid (gtr G3.out hg); clear hg
      go_wp2
      go_ret
      exact ⟨rfl, Draw.below_of G4.out⟩
    | true =>
      have HX := Lib.hid hx
      have HP := Lib.hid hp
      go_wp2_with fail
      refine (scok _ _ _ _ z HA3.out (by omega)).mono ?_
      rintro e w' ⟨rfl, rfl⟩
      go_wp2_with fail
      refine (sok_yes _ _ HX.out).mono ?_
      rintro e w' ⟨rfl, rfl⟩
      go_wp2
      clear hp hx hself
      obtain ⟨V0, V1⟩ := Pol.fi_range (Pol.ev (fl (lz z) n) (Pol.cv x))
      have HH : ∀ i : Int, fok i = true → cfz n z x i = decide (i = Pol.fi (Pol.ev (fl (lz z) n) (Pol.cv x))) := fun i hi => cfz_hit HP.out HX.out hi
      obtain ⟨V, hV⟩ : ∃ V, Pol.fi (Pol.ev (fl (lz z) n) (Pol.cv x)) = V := ⟨_, rfl⟩
      rw [hV] at V0 V1 HH
      clear hV
      have HHH := Lib.hid HH; clear HH
      go_loopw [7, 8] (fun m i wr => ∃ k : Nat, k ≤ 23 ∧ i = .int .i64 (k : Int) ∧ m = .int .i64 (hits V k) ∧ w3.grownBy wr none) (fun _ i _ => 23 - (intOf i).toNat)
      case atStart => exact ⟨0, by omega, rfl, by rw [hits_zero V0], Draw.grown_refl _ _⟩
      case round =>
        obtain ⟨k, hk, rfl, rfl, hg⟩ := hrel
        have HG := Lib.hid hg; clear hg
        by_cases hlt : k < 23
        · have hfk : fok (k : Int) = true := fok_iff.2 (by omega)
          have hc := HHH.out k hfk
          have hh0 : 0 ≤ hits V k := by unfold hits; split <;> omega
          have hh1 : hits V k ≤ 1 := by unfold hits; split <;> omega
          by_cases hkV : (k : Int) = V
          · rw [decide_eq_true hkV] at hc
            have HE := Lib.hid (hits_yes hkV)
            clear hkV hfk
            go_wp2_with fail
            refine (icfit _ _ _ _ z x k (HA3.out.kept HG.out) (by omega)).mono ?_
            rintro e w4 ⟨rfl, hg⟩
            have HG4 := Lib.hid (gtr HG.out hg); clear hg
            rw [hc]
            go_wp2
            go_roundw
            case rel => exact ⟨k + 1, by omega, by go_num, by rw [← HE.out], HG4.out⟩
            case measure => simp [intOf]; omega
          · rw [decide_eq_false hkV] at hc
            have HE := Lib.hid (hits_no hkV)
            clear hkV hfk
            go_wp2_with fail
            refine (icfit _ _ _ _ z x k (HA3.out.kept HG.out) (by omega)).mono ?_
            rintro e w4 ⟨rfl, hg⟩
            have HG4 := Lib.hid (gtr HG.out hg); clear hg
            rw [hc]
            go_wp2
            go_roundw
            case rel => exact ⟨k + 1, by omega, by go_num, by rw [← HE.out], HG4.out⟩
            case measure => simp [intOf]; omega
        · obtain rfl : k = 23 := by omega
          have hall := hits_all V1
          have HA4 := Lib.hid (HA3.out.kept HG.out)
          cases hy : fok y with
          | false =>
            have hfin : (cfz n z x y == false) = true := by rw [cfz_out (.inr (.inr hy))]; rfl
            go_wp2_with fail
            refine (sok_no _ _ (by assumption)).mono ?_
            rintro e w' ⟨rfl, rfl⟩
            go_wp2
            go_ret
            exact ⟨by first | rfl | exact ret_b hfin, Draw.below_of (gtr G3.out HG.out)⟩
          | true =>
            have HY := Lib.hid hy
            have hfin : (cfz n z x y == (gofF y == catz n z x)) = true := by rw [cfz_in HP.out HX.out hy]; simp
            have HF := Lib.hid hfin; clear hfin
            go_wp2_with fail
            refine (sok_yes _ _ HY.out).mono ?_
            rintro e w' ⟨rfl, rfl⟩
            go_wp2_with fail
            refine (igof _ _).mono ?_
            rintro e w5 ⟨rfl, hg⟩
            have HA5 := Lib.hid (HA4.out.kept hg); have HG5 := Lib.hid (gtr HG.out hg); clear hg
            go_wp2_with fail
            refine (icat _ _ _ _ z x HA5.out (by omega)).mono ?_
            rintro e w6 ⟨rfl, hg⟩
            have HG6 := Lib.hid (gtr HG5.out hg); clear hg
            have hfin := HF.out
            go_wp2
            go_ret
            exact ⟨by first | rfl | exact ret_b hfin, Draw.below_of (gtr G3.out HG6.out)⟩
end Run
end Go.Proofs.Ytpdmolphmimomaa
