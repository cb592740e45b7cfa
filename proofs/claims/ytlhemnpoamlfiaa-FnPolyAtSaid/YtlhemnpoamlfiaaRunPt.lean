/-
  The walk of the law on a polynomial's value.
-/
import Derived.Test.YtlhemnpoamlfiaaPi
import Derived.Test.YtlhemnpoamlfiaaDrawLine
import Derived.Test.YtlhemnpoamlfiaaRunKit
import Derived.Deep.RegionWith
namespace Go.Proofs.Ytlhemnpoamlfiaa
namespace Run
open Go.RowKit Alg Mem Con
set_option linter.unusedVariables false

theorem q_isum {a b : Int} {w : World} {n : Nat} : Calls Try.prog 22 #[.int .i64 a, .int .i64 b] (w.drewN n) fun e w'' => e = .returned (.int .i64 (sumF a b)) ∧ ∃ m, w'' = w.drewN m :=
  Calls.quiet_of_same ((isum a b _).mono fun _ _ h => ⟨h.1, h.2.symm⟩)
theorem q_imul {a b : Int} {w : World} {n : Nat} : Calls Try.prog 23 #[.int .i64 a, .int .i64 b] (w.drewN n) fun e w'' => e = .returned (.int .i64 (mulF a b)) ∧ ∃ m, w'' = w.drewN m :=
  Calls.quiet_of_same ((imul a b _).mono fun _ _ h => ⟨h.1, h.2.symm⟩)
theorem ints_drew {w : World} {a : Option Addr} {len : Nat} {z : Nat → Int} (h : Ints w a len z) : Ints w.drew a len z := h.keptB (fun _ _ => rfl) (Nat.le_refl _)
theorem fl_head {z : Nat → Int} {n : Nat} (h : 1 ≤ n) (hz : fok (z 0) = true) : Pol.fi (Pol.ev (fl z n) (Pol.cv 0)) = z 0 := by
  obtain ⟨m, rfl⟩ : ∃ m, n = m + 1 := ⟨n - 1, by omega⟩
  rw [show Pol.cv 0 = 0 from rfl, Pol.ev_zero]
  rw [show (fl z (m + 1)).headD 0 = Pol.cv (z 0) from by simp [fl, List.range_succ_eq_map]]
  exact Pol.fi_cv hz

set_option maxHeartbeats 2000000 in
theorem FnPolyAt (a : Option Addr) (len cap : Nat) (w : World) (hB : Draw.Bytes w w.heap.size a len) (hc : len ≤ cap) (hm : cap ≤ maxLen) :
    Calls Try.prog 3 #[.slice a len cap] w (Yes w) := by
  by_cases hbig : 1048576 < len
  · have hbig' : (1048576 : Int) < (len : Int) := by omega
    clear hB
    go_enter Try.func3, Try.ntmps3
    go_wp2
    go_ret
    exact ⟨rfl, Below.refl _ _⟩
  have hbig' : ¬ (1048576 : Int) < (len : Int) := by omega
  go_enter Try.func3, Try.ntmps3
  go_wp2_with fail
  refine (Draw.drawPAt _ a len cap hB hc hm).mono ?_
  rintro e w1 ⟨b, n, c, z, x, rfl, l5, lc, lm, hA, hg⟩
  have HA := Lib.hid hA; have G1 := Lib.hid hg; clear hA hg hB
  have hself := beq_t (rfl : patz n z x = patz n z x)
  go_wp2_with fail
  refine (ipat _ _ _ _ z x HA.out (by omega)).mono ?_
  rintro e w2 ⟨rfl, hg⟩
  have G2 := Lib.hid hg; clear hg
  have HA2 := Lib.hid (HA.out.kept G2.out)
  go_wp2_with fail
  refine (spat _ _ _ _ z x HA2.out (by omega)).mono ?_
  rintro e w' ⟨rfl, rfl⟩
  cases hp : pokz n z with
  | false =>
    go_wp2_with fail
    refine (spok _ _ _ _ z HA2.out (by omega)).mono ?_
    rintro e w' ⟨rfl, rfl⟩
    go_wp2_with fail
    refine (spat _ _ _ _ z x HA2.out (by omega)).mono ?_
    rintro e w' ⟨rfl, rfl⟩
    go_wp2
    go_ret
    exact ⟨rfl, Draw.below_of (gtr G1.out G2.out)⟩
  | true =>
    have HP := Lib.hid hp
    obtain ⟨p1, p5, pz⟩ := pokz_iff.1 HP.out
    have HZ := Lib.hid pz; clear pz
    cases hx : fok x with
    | false =>
      go_wp2_with fail
      refine (spok _ _ _ _ z HA2.out (by omega)).mono ?_
      rintro e w' ⟨rfl, rfl⟩
      go_wp2_with fail
      refine (sok_no _ _ (by assumption)).mono ?_
      rintro e w' ⟨rfl, rfl⟩
      go_wp2_with fail
      refine (spat _ _ _ _ z x HA2.out (by omega)).mono ?_
      rintro e w' ⟨rfl, rfl⟩
      go_wp2
      go_ret
      exact ⟨rfl, Draw.below_of (gtr G1.out G2.out)⟩
    | true =>
      have HX := Lib.hid hx
      go_wp2_with fail
      refine (spok _ _ _ _ z HA2.out (by omega)).mono ?_
      rintro e w' ⟨rfl, rfl⟩
      go_wp2_with fail
      refine (sok_yes _ _ HX.out).mono ?_
      rintro e w' ⟨rfl, rfl⟩
      go_wp2
      clear hself hp hx
      obtain ⟨b0, o0, hbo, hb1, hcs⟩ := HA2.out.ptr p1
      cases hbo
      have HCS := Lib.hid hcs; clear hcs
      go_loopw [6, 7] (fun q i wr => ∃ k : Nat, k ≤ n ∧ i = .int .i64 ((k : Int) - 1) ∧ q = .int .i64 (Pol.fi (pv z n (Pol.cv x) k)) ∧ w2.grownBy wr none) (fun _ i _ => (intOf i + 1).toNat)
      case atStart => exact ⟨n, by omega, by first | rfl | go_num, by rw [pv_last]; rfl, Draw.grown_refl _ _⟩
      case round =>
        obtain ⟨k, hk, rfl, rfl, hg⟩ := hrel
        have HG := Lib.hid hg; clear hg
        by_cases hlt : 1 ≤ k
        · obtain ⟨m, rfl⟩ : ∃ m, k = m + 1 := ⟨k - 1, by omega⟩
          have hcx : wr.cell? ⟨b, m, none⟩ = some (.int .i64 (z m)) := by
            have := HCS.out m (by omega)
            rw [Nat.zero_add] at this
            rw [World.cell?_of_block (w := w2) (HG.out.block b hb1 (by simp))]; exact this
          have HE := Lib.hid (show sumF (mulF (Pol.fi (pv z n (Pol.cv x) (m + 1))) x) (z m) = Pol.fi (pv z n (Pol.cv x) m) by
            rw [pv_step z (Pol.cv x) (by omega : m < n), ← Pol.fi_sum, ← Pol.fi_mul, Pol.fi_cv HX.out, Pol.fi_cv (HZ.out m (by omega))])
          have t0 : 0 ≤ ((m + 1 : Nat) : Int) - 1 := by omega
          have t1 : (((m + 1 : Nat) : Int) - 1).toNat = m := by omega
          have t2 : ((m + 1 : Nat) : Int) - 1 < (n : Int) := by omega
          go_wp2
          go_quiet ((first
            | (go_at_call 23; exact q_imul)
            | (go_at_call 22; exact q_isum)))
          go_wp2
          go_roundw
          case rel => exact ⟨m, by omega, by go_num, by rw [← HE.out], grown_drew HG.out _⟩
          case measure => simp [intOf]
        · obtain rfl : k = 0 := by omega
          have heq := beq_t (show patz n z x = Pol.fi (pv z n (Pol.cv x) 0) by rw [patz_in HP.out HX.out, pv_all])
          have hz0 := beq_t (show patz n z 0 = z 0 by rw [patz_in HP.out rfl]; exact fl_head p1 (HZ.out 0 (by omega)))
          have hc0 : wr.cell? ⟨b, 0, none⟩ = some (.int .i64 (z 0)) := by
            have := HCS.out 0 (by omega)
            rw [World.cell?_of_block (w := w2) (HG.out.block b hb1 (by simp))]; exact this
          have hbr : b < wr.heap.size := Nat.lt_of_lt_of_le hb1 HG.out.size
          have hn0 : (0 : Int) < (n : Int) := by omega
          have HI := Lib.hid (ints_drew (HA2.out.kept HG.out))
          go_wp2_with fail
          go_region_with (go_at_call 18; refine (ipat _ _ _ _ z 0 HI.out (by omega)).mono ?_; rintro e w5 ⟨rfl, hg⟩; have hc5 : w5.cell? ⟨b, 0, none⟩ = some (.int .i64 (z 0)) := (by rw [World.cell?_of_block (w := wr) (hg.block b hbr (by simp))]; exact hc0); have HG5 := Lib.hid hg; clear hg)
          all_goals
            go_wp2
            go_ret
            exact ⟨rfl, Draw.below_of (gtr (gtr (gtr G1.out G2.out) HG.out) ⟨HG5.out.os, HG5.out.tape, HG5.out.output, HG5.out.size, HG5.out.block⟩)⟩
end Run
end Go.Proofs.Ytlhemnpoamlfiaa
