/-
  How the model draws places, and what it draws from a code: polynomials, places, and a number beside.
-/
import Derived.Test.YtchgjdbmianajaaPe
namespace Go.Proofs.Ytchgjdbmianajaa
namespace Draw
open Go.RowKit Mem Con
set_option linter.unusedVariables false

set_option maxRecDepth 100000 in
set_option maxHeartbeats 2000000 in
theorem places_any (w : World) (base B : Nat) (a : Option Addr) (len cap p : Nat) (h : Rd w base B a len cap p) (hp : p ≤ 10000000) :
    Calls Try.prog 31 #[.pointer (some ⟨B, 0, none⟩)] w (DrawnS w base B a len cap p 11 5) := by
  obtain ⟨i0, hi, hz0, hz1, hz2⟩ := info_parts info_int
  have hB := h.lt
  go_enter Try.func31, Try.ntmps31
  go_wp2_with fail
  refine (pick_any _ base B a len cap p 6 (h.alloc _) (by omega) (by omega)).mono ?_
  rintro e w1 ⟨x, x0, x1, rfl, hr1, hg1, hs1⟩
  have H1 := Lib.hid (Held.pick (lo := p) (hi := p + 1) (row_empty w 3 (fun _ => 0)) (grown_alloc w (.cells #[] 3) (some B)) hB hg1 (Nat.le_refl _) (Nat.le_refl _) hr1)
  obtain ⟨t, rfl⟩ : ∃ t : Nat, x = t := ⟨x.toNat, by omega⟩
  clear hs1 hr1 hg1 h
  go_wp2_with fail
  go_loopw [3, 4] (fun v i wr => ∃ (k b c n : Nat) (z : Nat → Int), v = .slice (some ⟨b, 0, none⟩) k c ∧ i = .int .i64 n ∧ k + n ≤ t ∧ n ≤ t ∧ Held w base B a len cap p (p + 1 + 2 * (t - n)) k b c z wr) (fun _ i _ => (intOf i).toNat)
  case atStart => exact ⟨0, w.heap.size, 0, t, fun _ => 0, rfl, rfl, by omega, by omega, by rw [Nat.sub_self]; exact H1.out⟩
  case round =>
    obtain ⟨k, b, c, n, z, rfl, rfl, hkn, hnt, hr, hg, p1, q1, q2, hrd⟩ := hrel
    have HR := Lib.hid hr; have HG := Lib.hid hg; have HD := Lib.hid hrd; have hge := hr.from_; clear hr hg hrd
    have hsz := HG.out.size
    by_cases hn : 1 ≤ n
    · have hn' : (0 : Int) < (n : Int) := by omega
      go_wp2_with fail
      refine (pick_any _ base B a len cap p1 23 HD.out (by omega) (by omega)).mono ?_
      rintro e w2 ⟨y, y0, y1, rfl, hr2, hg2, hs2⟩
      have H2 := Lib.hid (Held.pick (lo := p) (hi := p + 1 + 2 * (t - (n - 1))) HR.out HG.out hB hg2 q1 (by omega) hr2)
      have hs3 : wr.heap.size ≤ w2.heap.size := by omega
      have HD2 := Lib.hid hr2
      clear hr2 hg2 hs2
      cases hh : hasz z y k with
      | false =>
        go_wp2_with (first
          | (go_at_call 50; refine (shas _ _ _ _ z y H2.out.1.ints (by omega)).mono ?_; rintro e w' ⟨rfl, rfl⟩)
          | (at_builtin; refine wpList_append_own _ rfl _ _ 23 rfl w.heap.size 3 i0 (.int .i64 0) 1 8 und_ints hi hz0 hz1 hz2 rfl (by decide) _ k (vals z k) rfl (H2.out.1.alloc _).owns ⟨w2.heap.size, 0, none⟩ 1 1 [.int .i64 y] rfl rfl (cell_one_new _ _ _) (by simp [Value.oneCell']) (by unfold maxLen; omega) (by omega) (by simp; omega) ?_; intro v' w3 hown' hgrow _))
        obtain ⟨b', c', z', rfl, hh'⟩ := H2.out.app hB hown' hgrow
        have HH := Lib.hid hh'
        clear hown' hgrow hh'
        go_wp2
        go_roundw
        case rel => exact ⟨k + 1, b', c', n - 1, z', rfl, by go_num, by omega, by omega, HH.out⟩
        case measure => simp [intOf]; omega
      | true =>
        go_wp2_with fail
        refine (shas _ _ _ _ z y H2.out.1.ints (by omega)).mono ?_
        rintro e w' ⟨rfl, rfl⟩
        go_wp2_with fail
        refine (pick_any _ base B a len cap (p1 + 1) 24 HD2.out (by omega) (by omega)).mono ?_
        rintro e w3 ⟨u, u0, u1, rfl, hr3, hg3, hs3'⟩
        have H3 := Lib.hid (Held.pick (lo := p) (hi := p + 1 + 2 * (t - (n - 1))) H2.out.1 H2.out.2.1 hB hg3 (by omega : p ≤ p1 + 1) (by omega) hr3)
        have hs4 : wr.heap.size ≤ w3.heap.size := by omega
        clear hr3 hg3 hs3'
        rcases (by omega : u = 0 ∨ 1 ≤ u) with rfl | hu
        · go_wp2_with (at_builtin; refine wpList_append_own _ rfl _ _ 23 rfl w.heap.size 3 i0 (.int .i64 0) 1 8 und_ints hi hz0 hz1 hz2 rfl (by decide) _ k (vals z k) rfl (H3.out.1.alloc _).owns ⟨w3.heap.size, 0, none⟩ 1 1 [.int .i64 y] rfl rfl (cell_one_new _ _ _) (by simp [Value.oneCell']) (by unfold maxLen; omega) (by omega) (by simp; omega) ?_; intro v' w4 hown' hgrow _)
          obtain ⟨b', c', z', rfl, hh'⟩ := H3.out.app hB hown' hgrow
          have HH := Lib.hid hh'
          clear hown' hgrow hh'
          go_wp2
          go_roundw
          case rel => exact ⟨k + 1, b', c', n - 1, z', rfl, by go_num, by omega, by omega, HH.out⟩
          case measure => simp [intOf]; omega
        · have e0 : (u == 0) = false := by simp; omega
          go_wp2_with fail
          go_roundw
          case rel => exact ⟨k, b, c, n - 1, z, rfl, by go_num, by omega, by omega, H3.out⟩
          case measure => simp [intOf]; omega
    · obtain rfl : n = 0 := by omega
      go_wp2_with fail
      go_ret
      exact ⟨_, _, _, _, rfl, by omega, HR.out, HG.out, p1, q1, by omega, HD.out⟩

/-- What drawing a slice from a code leaves. -/
def GotS (w : World) (m : Nat) (e : Ending) (w' : World) : Prop :=
  ∃ (b n c : Nat) (z : Nat → Int), e = .returned (.slice (some ⟨b, 0, none⟩) n c) ∧ n ≤ m ∧ n ≤ c ∧ c ≤ maxLen ∧ Ints w' (some ⟨b, 0, none⟩) n z ∧ w.grownBy w' none
def GotSN (w : World) (m : Nat) (e : Ending) (w' : World) : Prop :=
  ∃ (b n c : Nat) (z : Nat → Int) (x : Int), e = .returned (.tuple #[.slice (some ⟨b, 0, none⟩) n c, .int .i64 x]) ∧ n ≤ m ∧ n ≤ c ∧ c ≤ maxLen ∧ Ints w' (some ⟨b, 0, none⟩) n z ∧ w.grownBy w' none
def GotSS (w : World) (m : Nat) (e : Ending) (w' : World) : Prop :=
  ∃ (b n c : Nat) (z : Nat → Int) (b' n' c' : Nat) (z' : Nat → Int), e = .returned (.tuple #[.slice (some ⟨b, 0, none⟩) n c, .slice (some ⟨b', 0, none⟩) n' c']) ∧ (n ≤ m ∧ n ≤ c ∧ c ≤ maxLen ∧ Ints w' (some ⟨b, 0, none⟩) n z) ∧ (n' ≤ m ∧ n' ≤ c' ∧ c' ≤ maxLen ∧ Ints w' (some ⟨b', 0, none⟩) n' z') ∧ w.grownBy w' none

theorem drawLine (w : World) (a : Option Addr) (len cap : Nat) (hB : Bytes w w.heap.size a len) (hc : len ≤ cap) (hm : cap ≤ maxLen) :
    Calls Try.prog 10 #[.slice a len cap] w (GotSN w 5) := by
  go_enter Try.func10, Try.ntmps10
  go_wp2_with fail
  refine (open_any _ w.heap.size a len cap hB (by omega) hc hm).mono ?_
  rintro e w1 ⟨rfl, hg1, hs1, l1, c1, hr1⟩
  have hlt := hr1.lt
  clear hs1
  go_wp2_with fail
  refine (places_any _ _ _ a l1 c1 0 hr1 (by omega)).mono ?_
  rintro e w2 ⟨b, n, c, z, rfl, hn, hrow, hg2, p2, _, hp2, hr2⟩
  have HR := Lib.hid hrow; have HG := Lib.hid hg2; have hge := hrow.from_; clear hrow hg2
  go_wp2_with fail
  refine (num_any _ _ _ a l1 c1 p2 hr2 (by omega)).mono ?_
  rintro e w3 ⟨x, x0, x1, rfl, hg3, p3, _, _, hr3⟩
  have HR3 := Lib.hid (HR.out.kept hg3 (by intro e; injection e with e; omega)); have HG3 := Lib.hid hg3; clear hg3
  go_wp2_with fail
  go_ret2
  exact ⟨_, _, _, _, _, rfl, hn, HR3.out.le, HR3.out.most, HR3.out.ints, grown_old hg1 (grown_trans HG.out HG3.out)⟩
theorem drawPlOk (w : World) (a : Option Addr) (len cap : Nat) (hB : Bytes w w.heap.size a len) (hc : len ≤ cap) (hm : cap ≤ maxLen) :
    Calls Try.prog 15 #[.slice a len cap] w (GotS w 6) := by
  obtain ⟨i0, hi, hz0, hz1, hz2⟩ := info_parts info_int
  go_enter Try.func15, Try.ntmps15
  go_wp2_with fail
  refine (open_any _ w.heap.size a len cap hB (by omega) hc hm).mono ?_
  rintro e w1 ⟨rfl, hg1, hs1, l1, c1, hr1⟩
  have hlt := hr1.lt
  clear hs1
  go_wp2_with fail
  refine (places_any _ _ _ a l1 c1 0 hr1 (by omega)).mono ?_
  rintro e w2 ⟨b, n, c, z, rfl, hn, hh⟩
  have HH := Lib.hid (show Held w1 w.heap.size w.heap.size a l1 c1 0 11 n b c z w2 from ⟨hh.1, hh.2.1, by obtain ⟨p', h1, h2, h3⟩ := hh.2.2; exact ⟨p', h1, by omega, h3⟩⟩)
  clear hh hr1
  obtain ⟨p2, _, hp2, hr2⟩ := HH.out.2.2
  go_wp2_with fail
  refine (pick_any _ _ _ a l1 c1 p2 4 hr2 (by omega) (by omega)).mono ?_
  rintro e w3 ⟨y, y0, y1, rfl, hr3, hg3, hs3⟩
  have H3 := Lib.hid (Held.pick (lo := 0) (hi := 12) HH.out.1 HH.out.2.1 hlt hg3 (by omega : 0 ≤ p2) (by omega) hr3)
  clear hr2 hg3 hs3
  rcases (by omega : y = 0 ∨ 1 ≤ y) with rfl | hy
  · go_wp2_with fail
    refine (pick_any _ _ _ a l1 c1 (p2 + 1) 30 hr3 (by omega) (by omega)).mono ?_
    rintro e w4 ⟨u, u0, u1, rfl, hr4, hg4, hs4⟩
    have H4 := Lib.hid (Held.pick (lo := 0) (hi := 13) H3.out.1 H3.out.2.1 hlt hg4 (by omega : 0 ≤ p2 + 1) (by omega) hr4)
    have hsz := H4.out.2.1.size
    clear hr3 hr4 hg4 hs4
    go_wp2_with (at_builtin; refine wpList_append_own _ rfl _ _ 23 rfl w1.heap.size 3 i0 (.int .i64 0) 1 8 und_ints hi hz0 hz1 hz2 rfl (by decide) _ n (vals z n) rfl (H4.out.1.alloc _).owns ⟨w4.heap.size, 0, none⟩ 1 1 [.int .i64 (u - 3)] rfl rfl (cell_one_new _ _ _) (by simp [Value.oneCell']) (by unfold maxLen; omega) (by omega) (by simp; omega) ?_; intro v' w5 hown' hgrow _)
    obtain ⟨b', c', z', rfl, hh'⟩ := H4.out.app hlt hown' hgrow
    have H5 := Lib.hid hh'
    clear hown' hgrow hh'
    go_wp2_with fail
    go_ret
    exact ⟨_, _, _, _, rfl, by omega, H5.out.1.le, H5.out.1.most, H5.out.1.ints, grown_old hg1 H5.out.2.1⟩
  · have e0 : (y == 0) = false := by simp; omega
    clear hr3
    go_wp2_with fail
    go_ret
    exact ⟨_, _, _, _, rfl, by omega, H3.out.1.le, H3.out.1.most, H3.out.1.ints, grown_old hg1 H3.out.2.1⟩
end Draw
end Go.Proofs.Ytchgjdbmianajaa
