/-
  The walk of the law on a polynomial's roots.
-/
import Derived.Test.YtlhemnpoamlfiaaPi
import Derived.Test.YtlhemnpoamlfiaaDrawLine
import Derived.Test.YtlhemnpoamlfiaaRunKit
namespace Go.Proofs.Ytlhemnpoamlfiaa
namespace Run
open Go.RowKit Alg Mem Con
set_option linter.unusedVariables false

/-- Are the first k numbers all 0? -/
def az (z : Nat → Int) : Nat → Bool
  | 0 => true
  | k + 1 => az z k && (z k == 0)
theorem az_iff {z : Nat → Int} {n : Nat} : az z n = true ↔ ∀ j, j < n → z j = 0 := by
  induction n with
  | zero => simp [az]
  | succ n ih =>
    simp only [az, Bool.and_eq_true, ih, beq_iff_eq]
    exact ⟨fun h j hj => by rcases Nat.lt_or_ge j n with h' | h'; exact h.1 j h'; obtain rfl : j = n := by omega
                            exact h.2, fun h => ⟨fun j hj => h j (by omega), h n (by omega)⟩⟩
theorem az_all {n : Nat} {z : Nat → Int} (hz : ∀ j, j < n → fok (z j) = true) : az z n = true ↔ ∀ c ∈ fl z n, c = 0 := by
  rw [az_iff]
  constructor
  · intro h c hc
    simp only [fl, List.mem_map, List.mem_range] at hc
    obtain ⟨j, hj, rfl⟩ := hc
    rw [h j hj]; decide
  · intro h j hj
    have := h (Pol.cv (z j)) (by simp only [fl, List.mem_map, List.mem_range]; exact ⟨j, hj, rfl⟩)
    rw [← Pol.fi_cv (hz j hj), this]; rfl
theorem cnt_le_k (p : List Pol.F) (k : Nat) : Pol.cnt p k ≤ k := by
  induction k with
  | zero => simp [Pol.cnt]
  | succ k ih => simp only [Pol.cnt]; split <;> omega

set_option maxHeartbeats 2000000 in
theorem FnPolyRoots (a : Option Addr) (len cap : Nat) (w : World) (hB : Draw.Bytes w w.heap.size a len) (hc : len ≤ cap) (hm : cap ≤ maxLen) :
    Calls Try.prog 7 #[.slice a len cap] w (Yes w) := by
  by_cases hbig : 1048576 < len
  · have hbig' : (1048576 : Int) < (len : Int) := by omega
    clear hB
    go_enter Try.func7, Try.ntmps7
    go_wp2
    go_ret
    exact ⟨rfl, Below.refl _ _⟩
  have hbig' : ¬ (1048576 : Int) < (len : Int) := by omega
  go_enter Try.func7, Try.ntmps7
  go_wp2_with fail
  refine (Draw.drawPAt _ a len cap hB hc hm).mono ?_
  rintro e w1 ⟨b, n, c, z, x, rfl, l5, lc, lm, hA, hg⟩
  have HA := Lib.hid hA; have G1 := Lib.hid hg; clear hA hg hB
  have hself := beq_t (rfl : patz n z x = patz n z x)
  go_wp2_with fail
  refine (ipat _ _ _ _ z x HA.out (by omega)).mono ?_
  rintro e w2 ⟨rfl, hg⟩
  have G2 := Lib.hid hg; clear hg
  have HA2 := Lib.hid (HA.out.kept G2.out)
  go_wp2_with fail
  refine (spat _ _ _ _ z x HA2.out (by omega)).mono ?_
  rintro e w' ⟨rfl, rfl⟩
  cases hp : pokz n z with
  | false =>
    go_wp2_with fail
    refine (spok _ _ _ _ z HA2.out (by omega)).mono ?_
    rintro e w' ⟨rfl, rfl⟩
    go_wp2_with fail
    refine (spat _ _ _ _ z x HA2.out (by omega)).mono ?_
    rintro e w' ⟨rfl, rfl⟩
    go_wp2
    go_ret
    exact ⟨rfl, Draw.below_of (gtr G1.out G2.out)⟩
  | true =>
    have HP := Lib.hid hp
    obtain ⟨p1, p5, pz⟩ := pokz_iff.1 HP.out
    have HZ := Lib.hid pz; clear pz
    go_wp2_with fail
    refine (spok _ _ _ _ z HA2.out (by omega)).mono ?_
    rintro e w' ⟨rfl, rfl⟩
    go_wp2
    clear hself hp
    go_loop [6, 7] (fun q i => ∃ k : Nat, k ≤ n ∧ i = .int .i64 k ∧ q = .bool (az z k)) (fun _ i => n - (intOf i).toNat)
    case atStart => exact ⟨0, by omega, rfl, rfl⟩
    case round =>
      obtain ⟨k, hk, rfl, rfl⟩ := hrel
      by_cases hlt : k < n
      · obtain ⟨b0, o0, hbo, hb1, hcs⟩ := HA2.out.ptr p1
        cases hbo
        have hcx : w2.cell? ⟨b, k, none⟩ = some (.int .i64 (z k)) := by simpa using hcs k hlt
        clear hcs
        cases haz : az z k with
        | false =>
          have HR := Lib.hid (show az z (k + 1) = false by simp [az, haz])
          go_wp2
          go_round
          case rel => exact ⟨k + 1, by omega, by go_num, by rw [HR.out]⟩
          case measure => simp [intOf]; omega
        | true =>
          cases hz0 : (z k == 0) with
          | false =>
            have HR := Lib.hid (show az z (k + 1) = false by simp [az, haz, hz0])
            go_wp2
            go_round
            case rel => exact ⟨k + 1, by omega, by go_num, by rw [HR.out]⟩
            case measure => simp [intOf]; omega
          | true =>
            have HR := Lib.hid (show az z (k + 1) = true by simp [az, haz, hz0])
            go_wp2
            go_round
            case rel => exact ⟨k + 1, by omega, by go_num, by rw [HR.out]⟩
            case measure => simp [intOf]; omega
      · obtain rfl : k = n := by omega
        go_wp2
        go_loopw [8, 9] (fun q i wr => ∃ m : Nat, m ≤ 23 ∧ i = .int .i64 m ∧ q = .int .i64 ((Pol.cnt (fl z k) m : Nat) : Int) ∧ w2.grownBy wr none) (fun _ i _ => 23 - (intOf i).toNat)
        case atStart => exact ⟨0, by omega, rfl, rfl, Draw.grown_refl _ _⟩
        case round =>
          obtain ⟨m, hm, rfl, rfl, hg⟩ := hrel
          have HG := Lib.hid hg; clear hg
          by_cases hlm : m < 23
          · have hcl := cnt_le_k (fl z k) m
            have hmf : fok (m : Int) = true := fok_mk (by omega) (by omega)
            have HV := Lib.hid (patz_in HP.out hmf)
            go_wp2_with fail
            refine (ipat _ _ _ _ z (m : Int) (HA2.out.kept HG.out) (by omega)).mono ?_
            rintro e w3 ⟨rfl, hg⟩
            have HG3 := Lib.hid (gtr HG.out hg); clear hg
            by_cases h0 : Pol.ev (fl z k) (Pol.cv (m : Int)) = 0
            · have ht := beq_t (show patz k z (m : Int) = 0 by rw [HV.out, h0]; rfl)
              have HR := Lib.hid (show Pol.cnt (fl z k) (m + 1) = Pol.cnt (fl z k) m + 1 by simp only [Pol.cnt, if_pos h0])
              clear h0 hmf
              go_wp2
              go_roundw
              case rel => exact ⟨m + 1, by omega, by go_num, by rw [HR.out]; go_num, HG3.out⟩
              case measure => simp [intOf]; omega
            · have ht := beq_f (show ¬ patz k z (m : Int) = 0 by rw [HV.out]; exact fun e => h0 (Pol.fi_eq_zero.1 e))
              have HR := Lib.hid (show Pol.cnt (fl z k) (m + 1) = Pol.cnt (fl z k) m by simp only [Pol.cnt, if_neg h0]; rfl)
              clear h0 hmf
              go_wp2
              go_roundw
              case rel => exact ⟨m + 1, by omega, by go_num, by rw [HR.out], HG3.out⟩
              case measure => simp [intOf]; omega
          · obtain rfl : m = 23 := by omega
            cases haz : az z k with
            | true =>
              have HR := Lib.hid (Pol.cnt_all (fl z k) ((az_all HZ.out).1 haz) 23)
              rw [HR.out]
              go_wp2
              go_ret
              exact ⟨rfl, Draw.below_of (gtr (gtr G1.out G2.out) HG.out)⟩
            | false =>
              have hr : Pol.cnt (fl z k) 23 < k := by
                have := Pol.roots (fl z k) (fun h => by rw [(az_all HZ.out).2 h] at haz; cases haz)
                rwa [fl_length] at this
              have hr' : ((Pol.cnt (fl z k) 23 : Nat) : Int) < (k : Int) := by omega
              go_wp2
              go_ret
              exact ⟨rfl, Draw.below_of (gtr (gtr G1.out G2.out) HG.out)⟩
end Run
end Go.Proofs.Ytlhemnpoamlfiaa
