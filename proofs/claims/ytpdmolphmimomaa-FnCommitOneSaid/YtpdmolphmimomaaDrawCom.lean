/-
  How the model draws what is shown: slices of its own of at most four numbers (five where it adds one), and all that was there stays, but the reader's own place.
-/
import Derived.Test.YtpdmolphmimomaaDrawLine
import Derived.Test.YtpdmolphmimomaaDrawGrp
namespace Go.Proofs.Ytpdmolphmimomaa
namespace Draw
open Go.RowKit Mem Con
set_option linter.unusedVariables false

set_option maxRecDepth 100000 in
set_option maxHeartbeats 2000000 in
theorem com_any (w : World) (base B : Nat) (a : Option Addr) (len cap p : Nat) (h : Rd w base B a len cap p) (hp : p ≤ 10000000) :
    Calls Try.prog 67 #[.pointer (some ⟨B, 0, none⟩)] w (DrawnS w base B a len cap p 9 4) := by
  obtain ⟨i0, hi, hz0, hz1, hz2⟩ := info_parts info_int
  have hB := h.lt
  go_enter Try.func67, Try.ntmps67
  go_wp2_with fail
  refine (pick_any _ base B a len cap p 4 (h.alloc _) (by omega) (by omega)).mono ?_
  rintro e w1 ⟨x, x0, x1, rfl, hr1, hg1, hs1⟩
  have H1 := Lib.hid (Held.pick (lo := p) (hi := p + 1) (row_empty w 3 (fun _ => 0)) (grown_alloc w (.cells #[] 3) (some B)) hB hg1 (Nat.le_refl _) (Nat.le_refl _) hr1)
  obtain ⟨t, rfl⟩ : ∃ t : Nat, x = t := ⟨x.toNat, by omega⟩
  clear hs1 hr1 hg1 h
  go_wp2_with fail
  go_loopw [3, 4] (fun v i wr => ∃ (k b c n : Nat) (z : Nat → Int), v = .slice (some ⟨b, 0, none⟩) k c ∧ i = .int .i64 n ∧ k + n = t + 1 ∧ Held w base B a len cap p (p + 1 + k) k b c z wr) (fun _ i _ => (intOf i).toNat)
  case atStart => exact ⟨0, w.heap.size, 0, t + 1, fun _ => 0, rfl, by first | rfl | go_num, by omega, H1.out⟩
  case round =>
    obtain ⟨k, b, c, n, z, rfl, rfl, hkn, hr, hg, p1, q1, q2, hrd⟩ := hrel
    have HR := Lib.hid hr; have HG := Lib.hid hg; have HD := Lib.hid hrd; have hge := hr.from_; clear hr hg hrd
    have hsz := HG.out.size
    by_cases hn : 1 ≤ n
    · have hn' : (0 : Int) < (n : Int) := by omega
      go_wp2_with fail
      refine (pick_any _ base B a len cap p1 23 HD.out (by omega) (by omega)).mono ?_
      rintro e w2 ⟨y, y0, y1, rfl, hr2, hg2, hs2⟩
      have H2 := Lib.hid (Held.pick (lo := p) (hi := p + 1 + (k + 1)) HR.out HG.out hB hg2 q1 (by omega) hr2)
      have hs3 : wr.heap.size ≤ w2.heap.size := by omega
      clear hr2 hg2 hs2
      go_wp2_with fail
      refine (Con.spow _ _ _ (by omega) (by omega) (by omega) (by omega)).mono ?_
      rintro e w' ⟨rfl, rfl⟩
      generalize Alg.pw 2 y.toNat = u
      go_wp2_with (at_builtin; refine wpList_append_own _ rfl _ _ 23 rfl w.heap.size 3 i0 (.int .i64 0) 1 8 und_ints hi hz0 hz1 hz2 rfl (by decide) _ k (vals z k) rfl (H2.out.1.alloc _).owns ⟨w2.heap.size, 0, none⟩ 1 1 [.int .i64 u] rfl rfl (cell_one_new _ _ _) (by simp [Value.oneCell']) (by unfold maxLen; omega) (by omega) (by simp; omega) ?_; intro v' w3 hown' hgrow _)
      obtain ⟨b', c', z', rfl, hh⟩ := H2.out.app hB hown' hgrow
      have HH := Lib.hid hh
      clear hown' hgrow hh
      go_wp2
      go_roundw
      case rel => exact ⟨k + 1, b', c', n - 1, z', rfl, by go_num, by omega, HH.out⟩
      case measure => simp [intOf]; omega
    · obtain rfl : n = 0 := by omega
      go_wp2_with fail
      refine (pick_any _ base B a len cap p1 30 HD.out (by omega) (by omega)).mono ?_
      rintro e w2 ⟨y, y0, y1, rfl, hr2, hg2, hs2⟩
      have H2 := Lib.hid (Held.pick (lo := p) (hi := p + 6) HR.out HG.out hB hg2 q1 (by omega) hr2)
      have hs3 : wr.heap.size ≤ w2.heap.size := by omega
      have HD2 := Lib.hid hr2
      clear hr2 hg2 hs2
      rcases (by omega : y = 0 ∨ 1 ≤ y) with rfl | hy
      · go_wp2_with fail
        refine (pick_any _ base B a len cap (p1 + 1) (k : Int) HD2.out (by omega) (by omega)).mono ?_
        rintro e w3 ⟨u, u0, u1, rfl, hr3, hg3, hs3'⟩
        have H3 := Lib.hid (Held.pick (lo := p) (hi := p + 7) H2.out.1 H2.out.2.1 hB hg3 (by omega : p ≤ p1 + 1) (by omega) hr3)
        have HD3 := Lib.hid hr3
        have hs4 : wr.heap.size ≤ w3.heap.size := by omega
        obtain ⟨m, rfl⟩ : ∃ m : Nat, u = m := ⟨u.toNat, by omega⟩
        clear hr3 hg3 hs3'
        go_wp2_with fail
        refine (grp_any _ base B a len cap (p1 + 1 + 1) HD3.out (by omega)).mono ?_
        rintro e w4 ⟨v, v0, v1, rfl, hg4, p4, r1, r2, hr4⟩
        have HR4 := Lib.hid (H3.out.1.kept hg4 (by intro e; injection e with e; omega)); have HG4 := Lib.hid (grown_trans H3.out.2.1 hg4); have HD4 := Lib.hid hr4
        have hmk : m < k := by omega
        have c0 := HR4.out.cell hmk
        have f0 := HR4.out.frozen m
        have hcap := HR4.out.le
        clear hr4 hg4
        have HS := Lib.hid (HR4.out.set m v)
        have HGS := Lib.hid (grown_newR HG4.out hge (grown_set w4 b m (.int .i64 v)))
        go_wp2_with fail
        go_ret
        exact ⟨_, _, _, _, rfl, by omega, HS.out, HGS.out, p4, by omega, by omega, HD4.out.grown (grown_set w4 b m _) (by omega)⟩
      · have e0 : (y == 0) = false := by simp; omega
        go_wp2_with fail
        go_ret
        obtain ⟨p4, r1, r2, hrd⟩ := H2.out.2.2
        exact ⟨_, _, _, _, rfl, by omega, H2.out.1, H2.out.2.1, p4, r1, by omega, hrd⟩
set_option maxRecDepth 100000 in
theorem drawCAt (w : World) (a : Option Addr) (len cap : Nat) (hB : Bytes w w.heap.size a len) (hc : len ≤ cap) (hm : cap ≤ maxLen) :
    Calls Try.prog 29 #[.slice a len cap] w (GotSN w 5) := by
  go_enter Try.func29, Try.ntmps29
  go_wp2_with fail
  refine (open_any _ w.heap.size a len cap hB (by omega) hc hm).mono ?_
  rintro e w1 ⟨rfl, hg1, hs1, l1, c1, hr1⟩
  have hlt := hr1.lt
  clear hs1
  go_wp2_with fail
  refine (com_any _ _ _ a l1 c1 0 hr1 (by omega)).mono ?_
  rintro e w2 ⟨b, n, c, z, rfl, hn, hrow, hg2, p2, _, hp2, hr2⟩
  have HR := Lib.hid hrow; have HG := Lib.hid hg2; have hge := hrow.from_; clear hrow hg2
  go_wp2_with fail
  refine (num_any _ _ _ a l1 c1 p2 hr2 (by omega)).mono ?_
  rintro e w3 ⟨x, x0, x1, rfl, hg3, p3, _, _, hr3⟩
  have HR3 := Lib.hid (HR.out.kept hg3 (by intro e; injection e with e; omega)); have HG3 := Lib.hid hg3; clear hg3
  go_wp2_with fail
  go_ret2
  exact ⟨_, _, _, _, _, rfl, by omega, HR3.out.le, HR3.out.most, HR3.out.ints, grown_old hg1 (grown_trans HG.out HG3.out)⟩
set_option maxRecDepth 100000 in
theorem drawCOf (w : World) (a : Option Addr) (len cap : Nat) (hB : Bytes w w.heap.size a len) (hc : len ≤ cap) (hm : cap ≤ maxLen) :
    Calls Try.prog 19 #[.slice a len cap] w (GotS w 5) := by
  go_enter Try.func19, Try.ntmps19
  go_wp2_with fail
  refine (open_any _ w.heap.size a len cap hB (by omega) hc hm).mono ?_
  rintro e w1 ⟨rfl, hg1, hs1, l1, c1, hr1⟩
  have hlt := hr1.lt
  clear hs1
  go_wp2_with fail
  refine (poly_any _ _ _ a l1 c1 0 hr1 (by omega)).mono ?_
  rintro e w2 ⟨b, n, c, z, rfl, hn, hrow, hg2, p2, _, hp2, hr2⟩
  have HR := Lib.hid hrow; have HG := Lib.hid hg2; clear hrow hg2
  go_wp2_with fail
  go_ret
  exact ⟨_, _, _, _, rfl, hn, HR.out.le, HR.out.most, HR.out.ints, grown_old hg1 HG.out⟩
set_option maxRecDepth 100000 in
theorem drawCOk (w : World) (a : Option Addr) (len cap : Nat) (hB : Bytes w w.heap.size a len) (hc : len ≤ cap) (hm : cap ≤ maxLen) :
    Calls Try.prog 44 #[.slice a len cap] w (GotS w 5) := by
  obtain ⟨i0, hi, hz0, hz1, hz2⟩ := info_parts info_int
  go_enter Try.func44, Try.ntmps44
  go_wp2_with fail
  refine (open_any _ w.heap.size a len cap hB (by omega) hc hm).mono ?_
  rintro e w1 ⟨rfl, hg1, hs1, l1, c1, hr1⟩
  have hlt := hr1.lt
  clear hs1
  go_wp2_with fail
  refine (com_any _ _ _ a l1 c1 0 hr1 (by omega)).mono ?_
  rintro e w2 ⟨b, n, c, z, rfl, hn, hrow, hg2, p2, _, hp2, hr2⟩
  have HR := Lib.hid hrow; have HG := Lib.hid hg2; have hge := hrow.from_; have HD := Lib.hid hr2; clear hrow hg2 hr2
  have hsz := HG.out.size
  go_wp2_with fail
  refine (pick_any _ _ _ a l1 c1 p2 4 HD.out (by omega) (by omega)).mono ?_
  rintro e w3 ⟨y, y0, y1, rfl, hr3, hg3, hs3⟩
  have H3 := Lib.hid (Held.pick (lo := 0) (hi := 10) HR.out HG.out hlt hg3 (Nat.zero_le _) (by omega) hr3)
  have HD3 := Lib.hid hr3; have hs5 : w1.heap.size ≤ w3.heap.size := by omega
  clear hr3 hg3 hs3
  rcases (by omega : y = 0 ∨ 1 ≤ y) with rfl | hy
  · go_wp2_with fail
    refine (pick_any _ _ _ a l1 c1 (p2 + 1) 50 HD3.out (by omega) (by omega)).mono ?_
    rintro e w4 ⟨u, u0, u1, rfl, hr4, hg4, hs4⟩
    have H4 := Lib.hid (Held.pick (lo := 0) (hi := 11) H3.out.1 H3.out.2.1 hlt hg4 (Nat.zero_le _) (by omega) hr4)
    have hs6 : w1.heap.size ≤ w4.heap.size := by omega
    clear hr4 hg4 hs4
    go_wp2_with (at_builtin; refine wpList_append_own _ rfl _ _ 23 rfl w1.heap.size 3 i0 (.int .i64 0) 1 8 und_ints hi hz0 hz1 hz2 rfl (by decide) _ n (vals z n) rfl (H4.out.1.alloc _).owns ⟨w4.heap.size, 0, none⟩ 1 1 [.int .i64 u] rfl rfl (cell_one_new _ _ _) (by simp [Value.oneCell']) (by unfold maxLen; omega) (by omega) (by simp; omega) ?_; intro v' w5 hown' hgrow _)
    obtain ⟨b', c', z', rfl, hh⟩ := H4.out.app hlt hown' hgrow
    have HH := Lib.hid hh
    clear hown' hgrow hh
    go_wp2
    go_ret
    exact ⟨_, _, _, _, rfl, by omega, HH.out.1.le, HH.out.1.most, HH.out.1.ints, grown_old hg1 HH.out.2.1⟩
  · have e0 : (y == 0) = false := by simp; omega
    go_wp2_with fail
    go_ret
    exact ⟨_, _, _, _, rfl, by omega, H3.out.1.le, H3.out.1.most, H3.out.1.ints, grown_old hg1 H3.out.2.1⟩
end Draw
end Go.Proofs.Ytpdmolphmimomaa
