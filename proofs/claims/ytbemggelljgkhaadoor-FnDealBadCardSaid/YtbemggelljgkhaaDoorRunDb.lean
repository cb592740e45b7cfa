/-
  The walks of the laws on who complains about a deal.
-/
import Derived.Test.YtbemggelljgkhaaDoorDo
import Derived.Test.YtbemggelljgkhaaDoorRunKit
namespace Go.Proofs.YtbemggelljgkhaaDoor
namespace Run
open Go.RowKit Alg Mem Con
set_option linter.unusedVariables false

theorem badl_at {g : Nat → Bool} {k m : Nat} (hk : k < m) (h : g k = false) : (badl g k).length < (badl g m).length ∧ li (badl g m) (badl g k).length = (k : Int) + 1 := by
  induction m with
  | zero => omega
  | succ m ih =>
    rcases Nat.lt_or_ge k m with hlt | hge
    · obtain ⟨h1, h2⟩ := ih hlt
      cases hg : g m with
      | true => rw [badl_yes hg]; exact ⟨h1, h2⟩
      | false => rw [badl_no hg]; exact ⟨by simp; omega, by rw [li_app h1]; exact h2⟩
    · obtain rfl : k = m := by omega
      rw [badl_no h]
      exact ⟨by simp, li_last _ _⟩

set_option maxRecDepth 100000 in
set_option maxHeartbeats 2000000 in
theorem FnDealBad (a : Option Addr) (len cap : Nat) (w : World) (a0 : Addr) (hv : Sent w a0) (hB : Draw.Bytes w w.heap.size a len) (hc : len ≤ cap) (hm : cap ≤ maxLen) :
    Calls Tryd.prog 3 #[.slice a len cap] w (Yes w) := by
  by_cases hbig : 1048576 < len
  · have hbig' : (1048576 : Int) < (len : Int) := by omega
    clear hB
    go_enter Tryd.func3, Tryd.ntmps3
    go_wp2
    go_ret
    exact ⟨rfl, Below.refl _ _⟩
  have hbig' : ¬ (1048576 : Int) < (len : Int) := by omega
  go_enter Tryd.func3, Tryd.ntmps3
  go_wp2_with fail
  refine (Draw.drawDBad _ a len cap hB hc hm).mono ?_
  rintro e w1 ⟨f, b1, n, c1, z1, b2, m, c2, z2, need, many, rfl, hn5, hm6, hc1, hc1', hc2, hc2', q1, q2, q3, q4, hI1, hI2, hg⟩
  have HO := Lib.hid (Draw.grown_alloc w1 (.cells #[.int .i64 f, .slice (some ⟨b1, 0, none⟩) n c1, .slice (some ⟨b2, 0, none⟩) m c2] 25) none)
  have HD := Lib.hid (Dl.new w1 f (.slice (some ⟨b1, 0, none⟩) n c1) (.slice (some ⟨b2, 0, none⟩) m c2) 25)
  have HA := Lib.hid (hI1.kept HO.out); have HB := Lib.hid (hI2.kept HO.out); have G2 := Lib.hid (gtr hg HO.out); have HV := Lib.hid (hv.kept G2.out)
  clear hB hI1 hI2 hg hv HO
  go_wp2_with fail
  refine (idealbad _ f _ n c1 z1 _ m c2 z2 need many HA.out HB.out (by omega) (by omega) a0 HV.out).mono ?_
  rintro e w3 ⟨v, rfl, hL, hg⟩
  obtain ⟨av, cv, rfl, hLi, hLc, hLm⟩ := hL.slice
  have hll := bads_len f n z1 m z2 need many
  have HL := Lib.hid hLi; have HA3 := Lib.hid (HA.out.kept hg); have HB3 := Lib.hid (HB.out.kept hg); have HD3 := Lib.hid (HD.out.kept hg); have G3 := Lib.hid (gtr G2.out hg)
  clear hL hLi hg HA HB HD G2 HV
  obtain ⟨_, k0, k1, k2⟩ := HD3.out
  go_wp2_with fail
  refine (sdealbad _ f _ n c1 z1 _ m c2 z2 need many HA3.out HB3.out (by omega) (by omega)).mono ?_
  rintro e w4 ⟨b4, c4, rfl, hr, hg⟩
  have HR4 := Lib.hid hr.ints; have HL4 := Lib.hid (HL.out.kept hg); have HA4 := Lib.hid (HA3.out.kept hg); have HB4 := Lib.hid (HB3.out.kept hg); have HD4 := Lib.hid (HD3.out.kept hg); have G4 := Lib.hid (gtr G3.out hg)
  clear hr hg HA3 HB3 G3 HL k0 k1 k2
  obtain ⟨_, k0, k1, k2⟩ := HD4.out
  go_wp2_with fail
  refine (lpints _ _ _ _ _ _ (li (bads f n z1 m z2 need many)) HL4.out HR4.out (by omega)).mono ?_
  rintro e w5 ⟨rfl, hg⟩
  have HL5 := Lib.hid (HL4.out.kept hg); have HA5 := Lib.hid (HA4.out.kept hg); have HB5 := Lib.hid (HB4.out.kept hg); have HD5 := Lib.hid (HD4.out.kept hg); have G5 := Lib.hid (gtr G4.out hg)
  clear hg HA4 HB4 G4 HL4 HD4 HD3 HR4 k0 k1 k2
  obtain ⟨_, k0, k1, k2⟩ := HD5.out
  go_wp2_with fail
  refine (sdealok _ f _ n c1 z1 _ m c2 z2 need many HA5.out HB5.out (by omega) (by omega)).mono ?_
  rintro e w6 ⟨rfl, hg⟩
  have HL6 := Lib.hid (HL5.out.kept hg); have HA6 := Lib.hid (HA5.out.kept hg); have HB6 := Lib.hid (HB5.out.kept hg); have HD6 := Lib.hid (HD5.out.kept hg); have G6 := Lib.hid (gtr G5.out hg)
  clear hg HA5 HB5 G5 HL5 HD5 k0 k1 k2
  obtain ⟨_, k0, k1, k2⟩ := HD6.out
  cases hp : dlF f n z1 m z2 need many with
  | false =>
    go_wp2_with fail
    refine (sdealbad _ f _ n c1 z1 _ m c2 z2 need many HA6.out HB6.out (by omega) (by omega)).mono ?_
    rintro e w7 ⟨b7, c7, rfl, hr, hg⟩
    have HR7 := Lib.hid hr.ints; have HL7 := Lib.hid (HL6.out.kept hg); have G7 := Lib.hid (gtr G6.out hg)
    clear hr hg
    go_wp2_with fail
    refine (lpints _ _ _ _ _ _ (li (bads f n z1 m z2 need many)) HL7.out HR7.out (by omega)).mono ?_
    rintro e w8 ⟨rfl, hg⟩
    have G8 := Lib.hid (gtr G7.out hg); clear hg
    go_wp2
    go_ret
    exact ⟨rfl, Draw.below_of G8.out⟩
  | true =>
    have hmm : (m : Int) = many := (dl_iff.1 hp).2.2.2.1
    have hm5 : m ≤ 5 := by omega
    have HE0 := Lib.hid (bads_yes hp)
    have HLL := Lib.hid (show Ints w6 av (badl (bfit n z1 z2) m).length (li (badl (bfit n z1 z2) m)) by rw [← HE0.out]; exact HL6.out)
    have hlen : (bads f n z1 m z2 need many).length = (badl (bfit n z1 z2) m).length := by rw [HE0.out]
    subst hmm
    clear HL6
    go_wp2
    go_loopw [7, 8] (fun q i wr => ∃ k : Nat, k ≤ m ∧ i = .int .i64 k ∧ q = .int .i64 (badl (bfit n z1 z2) k).length ∧ w6.grownBy wr none) (fun _ i _ => m - (intOf i).toNat)
    case atStart => exact ⟨0, by omega, rfl, rfl, Draw.grown_refl _ _⟩
    case round =>
      obtain ⟨k, hk, rfl, rfl, hg⟩ := hrel
      have HGr := Lib.hid hg; clear hg k0 k1 k2
      obtain ⟨hlb, k0, k1, k2⟩ := HD6.out.kept HGr.out
      have hlk := badl_len (bfit n z1 z2) k
      have hlm := badl_len (bfit n z1 z2) m
      by_cases hlt : k < m
      · obtain ⟨b, off, hbo, hb, hcc⟩ := (HB6.out.kept HGr.out).ptr (by omega)
        obtain ⟨rfl, rfl⟩ : b2 = b ∧ 0 = off := by injection hbo with h; injection h with h1 h2; exact ⟨h1, h2⟩
        have hcx := hcc k hlt
        rw [Nat.zero_add] at hcx
        clear hcc hbo
        have hwr : IntKind.i64.wrap ((k : Int) + 1) = (k : Int) + 1 := by rw [IntKind.wrap_i64]; omega
        have HAd := Lib.hid ((HA6.out.kept HGr.out).keptB (w' := wr.drew) (fun _ _ => rfl) (Nat.le_refl _))
        cases hf : cfz n z1 ((k : Int) + 1) (z2 k) with
        | true =>
          have HE := Lib.hid (badl_yes (g := bfit n z1 z2) (k := k) hf)
          go_wp2_with fail
          go_region_held3 (fun w' => w'.cell? ⟨w1.heap.size, 1, none⟩ = some (.slice (some ⟨b1, 0, none⟩) n c1) ∧ w'.cell? ⟨w1.heap.size, 2, none⟩ = some (.slice (some ⟨b2, 0, none⟩) m c2) ∧ w'.cell? ⟨b2, k, none⟩ = some (.int .i64 (z2 k))) (first | exact hS2 | exact ⟨k1, k2, hcx⟩) ((go_at_call 13; (with_reducible refine (icfit _ _ _ _ z1 _ _ HAd.out (by omega)).mono ?_); rintro e w7 ⟨rfl, hg2⟩; rw [hf]; have HGw := Lib.hid (show wr.grownBy w7 none from ⟨hg2.os, hg2.tape, hg2.output, hg2.size, hg2.block⟩); have HG2 := HGw; clear hg2; have hS2 : w7.cell? ⟨w1.heap.size, 1, none⟩ = some (.slice (some ⟨b1, 0, none⟩) n c1) ∧ w7.cell? ⟨w1.heap.size, 2, none⟩ = some (.slice (some ⟨b2, 0, none⟩) m c2) ∧ w7.cell? ⟨b2, k, none⟩ = some (.int .i64 (z2 k)) := ⟨((HD6.out.kept HGr.out).kept HGw.out).c1, ((HD6.out.kept HGr.out).kept HGw.out).c2, (World.cell?_of_block (w := wr) (HGw.out.block b2 hb (by simp))).trans hcx⟩))
          all_goals
            go_wp2
            go_roundw
            case rel => exact ⟨k + 1, by omega, by go_num, by rw [HE.out], gtr HGr.out HG2.out⟩
            case measure => simp [intOf]; omega
        | false =>
          obtain ⟨hlt2, hat⟩ := badl_at (g := bfit n z1 z2) hlt hf
          have HE := Lib.hid (badl_no (g := bfit n z1 z2) (k := k) hf)
          obtain ⟨b', off', rfl, hb', hcc'⟩ := HLL.out.ptr (by omega)
          have hcy := Lib.hid (hcc' _ hlt2)
          rw [hat] at hcy
          clear hcc' hat
          have hne : ((k : Int) + 1 != (k : Int) + 1) = false := by simp
          go_wp2_with fail
          go_region_held3 (fun w' => w'.cell? ⟨w1.heap.size, 1, none⟩ = some (.slice (some ⟨b1, 0, none⟩) n c1) ∧ w'.cell? ⟨w1.heap.size, 2, none⟩ = some (.slice (some ⟨b2, 0, none⟩) m c2) ∧ w'.cell? ⟨b2, k, none⟩ = some (.int .i64 (z2 k))) (first | exact hS2 | exact ⟨k1, k2, hcx⟩) ((go_at_call 13; (with_reducible refine (icfit _ _ _ _ z1 _ _ HAd.out (by omega)).mono ?_); rintro e w7 ⟨rfl, hg2⟩; rw [hf]; have HGw := Lib.hid (show wr.grownBy w7 none from ⟨hg2.os, hg2.tape, hg2.output, hg2.size, hg2.block⟩); have HG2 := HGw; clear hg2; have hS2 : w7.cell? ⟨w1.heap.size, 1, none⟩ = some (.slice (some ⟨b1, 0, none⟩) n c1) ∧ w7.cell? ⟨w1.heap.size, 2, none⟩ = some (.slice (some ⟨b2, 0, none⟩) m c2) ∧ w7.cell? ⟨b2, k, none⟩ = some (.int .i64 (z2 k)) := ⟨((HD6.out.kept HGr.out).kept HGw.out).c1, ((HD6.out.kept HGr.out).kept HGw.out).c2, (World.cell?_of_block (w := wr) (HGw.out.block b2 hb (by simp))).trans hcx⟩))
          all_goals
            have hcz := (World.cell?_of_block (w := w6) ((gtr HGr.out HG2.out).block b' hb' (by simp))).trans hcy.out
            go_wp2
            go_roundw
            case rel => exact ⟨k + 1, by omega, by go_num, by rw [HE.out]; simp, gtr HGr.out HG2.out⟩
            case measure => simp [intOf]; omega
      · obtain rfl : k = m := by omega
        have hself : (((badl (bfit n z1 z2) k).length : Int) == ((bads f n z1 k z2 need (k : Int)).length : Int)) = true := by rw [hlen]; simp
        go_wp2
        go_ret
        exact ⟨by first | rfl | exact ret_b hself, Draw.below_of (gtr G6.out HGr.out)⟩
end Run
end Go.Proofs.YtbemggelljgkhaaDoor
