/-
  The walks of the laws on what is shown at a place, and on what is of the group.
-/
import Derived.Test.YtpdmolphmimomaaCd
import Derived.Test.YtpdmolphmimomaaDrawFit
import Derived.Test.YtpdmolphmimomaaRunKit
import Derived.Deep.RegionWith
namespace Go.Proofs.Ytpdmolphmimomaa
namespace Run
open Go.RowKit Alg Mem Con
set_option linter.unusedVariables false

theorem one_step {z : Nat → Int} {n m : Nat} {x : Int} (hm : m < n) (hz : gok (z m) = true) (hx : fok x = true) :
    gmulF (gpowF (gofF (Pol.fi (pv (lz z) n (Pol.cv x) (m + 1)))) x) (z m) = gofF (Pol.fi (pv (lz z) n (Pol.cv x) m)) := by
  rw [pv_step (lz z) (Pol.cv x) hm, gpow_of (Pol.fi_ok _) hx]
  conv => lhs; rw [← lz_of hz]
  rw [gmul_of (mulF_ok _ _) (lz_ok hz), ← Pol.fi_sum, ← Pol.fi_mul, Pol.fi_cv hx, Pol.fi_cv (lz_ok hz)]
theorem back_grown {a b c : World} (h : a.grownBy b none) (e1 : c.os = b.os) (e2 : c.tape = b.tape) (e3 : c.output = b.output) (e4 : c.heap = b.heap) : a.grownBy c none :=
  ⟨e1.trans h.os, e2.trans h.tape, e3.trans h.output, by rw [e4]; exact h.size, fun k hk hne => by rw [e4]; exact h.block k hk hne⟩
set_option maxRecDepth 100000 in
set_option maxHeartbeats 2000000 in
theorem FnCommitOne (a : Option Addr) (len cap : Nat) (w : World) (hB : Draw.Bytes w w.heap.size a len) (hc : len ≤ cap) (hm : cap ≤ maxLen) :
    Calls Try.prog 5 #[.slice a len cap] w (Yes w) := by
  by_cases hbig : 1048576 < len
  · have hbig' : (1048576 : Int) < (len : Int) := by omega
    clear hB
    go_enter Try.func5, Try.ntmps5
    go_wp2
    go_ret
    exact ⟨rfl, Below.refl _ _⟩
  have hbig' : ¬ (1048576 : Int) < (len : Int) := by omega
  go_enter Try.func5, Try.ntmps5
  go_wp2_with fail
  refine (Draw.drawCAt _ a len cap hB hc hm).mono ?_
  rintro e w1 ⟨b, n, c, z, x, rfl, l6, lc, lm, hA, hg⟩
  have HA := Lib.hid hA; have G1 := Lib.hid hg; clear hA hg hB
  go_wp2_with fail
  refine (icat _ _ _ _ z x HA.out (by omega)).mono ?_
  rintro e w2 ⟨rfl, hg⟩
  have HA2 := Lib.hid (HA.out.kept hg); have G2 := Lib.hid (gtr G1.out hg); clear hg
  go_wp2_with fail
  refine (scat _ _ _ _ z x HA2.out (by omega)).mono ?_
  rintro e w3 ⟨rfl, hg⟩
  have HA3 := Lib.hid (HA2.out.kept hg); have G3 := Lib.hid (gtr G2.out hg); clear hg
  cases hp : cokz n z with
  | false =>
    go_wp2_with fail
    refine (scok _ _ _ _ z HA3.out (by omega)).mono ?_
    rintro e w' ⟨rfl, rfl⟩
    go_wp2_with fail
    refine (scat _ _ _ _ z x HA3.out (by omega)).mono ?_
    rintro e w4 ⟨rfl, hg⟩
    have G4 := Lib.hid (gtr G3.out hg); clear hg
    go_wp2
    go_ret
    exact ⟨rfl, Draw.below_of G4.out⟩
  | true =>
    cases hx : fok x with
    | false =>
      go_wp2_with fail
      refine (scok _ _ _ _ z HA3.out (by omega)).mono ?_
      rintro e w' ⟨rfl, rfl⟩
      go_wp2_with fail
      refine (sok_no _ _ (by assumption)).mono ?_
      rintro e w' ⟨rfl, rfl⟩
      go_wp2_with fail
      refine (scat _ _ _ _ z x HA3.out (by omega)).mono ?_
      rintro e w4 ⟨rfl, hg⟩
      have G4 := Lib.hid (gtr G3.out hg); clear hg
      go_wp2
      go_ret
      exact ⟨rfl, Draw.below_of G4.out⟩
    | true =>
      have HX := Lib.hid hx
      have HZ := Lib.hid (cokz_iff.1 hp)
      have HC := Lib.hid (catz_in hp hx)
      go_wp2_with fail
      refine (scok _ _ _ _ z HA3.out (by omega)).mono ?_
      rintro e w' ⟨rfl, rfl⟩
      go_wp2_with fail
      refine (sok_yes _ _ HX.out).mono ?_
      rintro e w' ⟨rfl, rfl⟩
      go_wp2
      clear hp hx
      obtain ⟨b0, o0, hbo, hb1, hcs⟩ := HA3.out.ptr HZ.out.1
      cases hbo
      have HCS := Lib.hid hcs; clear hcs
      have HN5 := HZ.out.2.1
      go_loopw [6, 7] (fun g i wr => ∃ k : Nat, k ≤ n ∧ i = .int .i64 ((k : Int) - 1) ∧ g = .int .i64 (gofF (Pol.fi (pv (lz z) n (Pol.cv x) k))) ∧ w3.grownBy wr none) (fun _ i _ => (intOf i + 1).toNat)
      case atStart => exact ⟨n, by omega, by first | rfl | go_num, by rw [pv_last]; rfl, Draw.grown_refl _ _⟩
      case round =>
        obtain ⟨k, hk, rfl, rfl, hg⟩ := hrel
        have HG := Lib.hid hg; clear hg
        by_cases hlt : 1 ≤ k
        · obtain ⟨m, rfl⟩ : ∃ m, k = m + 1 := ⟨k - 1, by omega⟩
          have hbr : b < wr.heap.size := Nat.lt_of_lt_of_le hb1 HG.out.size
          have hcx : wr.cell? ⟨b, m, none⟩ = some (.int .i64 (z m)) := by
            have := HCS.out m (by omega)
            rw [Nat.zero_add] at this
            rw [World.cell?_of_block (w := w3) (HG.out.block b hb1 (by simp))]; exact this
          have HE := Lib.hid (one_step (by omega : m < n) (HZ.out.2.2 m (by omega)) HX.out)
          have t0 : 0 ≤ ((m + 1 : Nat) : Int) - 1 := by omega
          have t1 : (((m + 1 : Nat) : Int) - 1).toNat = m := by omega
          have t2 : ((m + 1 : Nat) : Int) - 1 < (n : Int) := by omega
          go_wp2
          go_region_with (first
            | (go_at_call 34; refine (igpow _ _ _).mono ?_; rintro e w5 ⟨rfl, hg5⟩; have hc5 : w5.cell? ⟨b, m, none⟩ = some (.int .i64 (z m)) := (by rw [World.cell?_of_block (w := wr) (hg5.block b hbr (by simp))]; exact hcx))
            | (go_at_call 33; refine (igmul _ _ _).mono ?_; rintro e w6 ⟨rfl, hg6⟩))
          all_goals
            have HG6 := Lib.hid (gtr (gtr HG.out (show wr.grownBy w5 none from ⟨hg5.os, hg5.tape, hg5.output, hg5.size, hg5.block⟩)) (show w5.grownBy w6 none from ⟨hg6.os, hg6.tape, hg6.output, hg6.size, hg6.block⟩))
            clear hg5 hg6
            go_wp2
            go_roundw
            case rel => exact ⟨m, by omega, by go_num, by rw [← HE.out], ⟨HG6.out.os, HG6.out.tape, HG6.out.output, HG6.out.size, HG6.out.block⟩⟩
            case measure => simp [intOf]
        · obtain rfl : k = 0 := by omega
          have HQ := Lib.hid (show gofF (Pol.fi (pv (lz z) n (Pol.cv x) 0)) = catz n z x by rw [HC.out, pv_all])
          have hok : gok (catz n z x) = true := by rw [HC.out]; exact gof_ok (Pol.fi_ok _)
          rw [HQ.out]
          go_wp2_with fail
          refine (igok_yes _ _ hok).mono ?_
          rintro e w5 ⟨rfl, hg5⟩
          go_wp2
          go_ret
          exact ⟨rfl, Draw.below_of (gtr (gtr G3.out HG.out) hg5)⟩
end Run
end Go.Proofs.Ytpdmolphmimomaa
