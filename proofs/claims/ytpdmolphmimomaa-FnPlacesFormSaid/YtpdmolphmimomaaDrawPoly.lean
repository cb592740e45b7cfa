/-
  How the model draws polynomials and places: slices of its own of at most five numbers (six where it spoils one), and all that was there stays, but the reader's own place.
-/
import Derived.Test.YtpdmolphmimomaaPb
import Derived.Test.YtpdmolphmimomaaPe
namespace Go.Proofs.Ytpdmolphmimomaa
namespace Draw
open Go.RowKit Mem Con
set_option linter.unusedVariables false

theorem grown_newR {a b c : World} {r : Option Nat} {B : Nat} (h : a.grownBy b r) (hB : a.heap.size ≤ B) (k : b.grownBy c (some B)) : a.grownBy c r :=
  ⟨k.os.trans h.os, k.tape.trans h.tape, k.output.trans h.output, Nat.le_trans h.size k.size,
    fun i hi hne => (k.block i (Nat.lt_of_lt_of_le hi h.size) (by intro e; injection e with e; omega)).trans (h.block i hi hne)⟩
theorem Rd.grown {w w' : World} {base B b : Nat} {a : Option Addr} {len cap p : Nat} (h : Rd w base B a len cap p) (hg : w.grownBy w' (some b)) (hb : B < b) : Rd w' base B a len cap p :=
  h.kept (fun k hk => hg.block k (by have := h.lt; have := h.from_; omega) (by intro e; injection e with e; have := h.from_; omega)) (hg.block B h.lt (by intro e; injection e with e; omega))
theorem app_any {w1 : World} {lo : Nat} {E : TypeId} {v' : Value} {k : Nat} {z : Nat → Int} {n : Int} (h : w1.ownsRow lo E 1 v' (k + 1) (vals z k ++ [.int .i64 n])) :
    ∃ b cap z', v' = .slice (some ⟨b, 0, none⟩) (k + 1) cap ∧ Row w1 lo E b (k + 1) cap z' := by
  obtain ⟨b, cap, hv, hr⟩ := row_of_owns (z := fun j => if j = k then n else z j) h (by omega) fun j hj => by
    by_cases e : j < k
    · rw [List.getElem?_append_left (by rw [vals_length]; exact e), vals_get z e, if_neg (by omega)]
    · obtain rfl : j = k := by omega
      rw [List.getElem?_append_right (by rw [vals_length]; exact Nat.le_refl _), vals_length, Nat.sub_self, if_pos rfl]; rfl
  exact ⟨b, cap, _, hv, hr⟩

/-- What a draw of a slice leaves. -/
def DrawnS (w : World) (base B : Nat) (a : Option Addr) (len cap p k m : Nat) (e : Ending) (w' : World) : Prop :=
  ∃ (b n c : Nat) (z : Nat → Int), e = .returned (.slice (some ⟨b, 0, none⟩) n c) ∧ n ≤ m ∧ Row w' w.heap.size 3 b n c z ∧ w.grownBy w' (some B) ∧ ∃ p', p ≤ p' ∧ p' ≤ p + k ∧ Rd w' base B a len cap p'
/-- What a loop holds that draws and appends. -/
def Held (w : World) (base B : Nat) (a : Option Addr) (len cap lo hi k b c : Nat) (z : Nat → Int) (wr : World) : Prop :=
  Row wr w.heap.size 3 b k c z ∧ w.grownBy wr (some B) ∧ ∃ p', lo ≤ p' ∧ p' ≤ hi ∧ Rd wr base B a len cap p'
theorem Held.app {w : World} {base B : Nat} {a : Option Addr} {len cap lo hi k b c : Nat} {z : Nat → Int} {wr : World} {o : Obj} (h : Held w base B a len cap lo hi k b c z wr) (hB : B < w.heap.size) {v' : Value} {n : Int} {w1 : World}
    (hown : w1.ownsRow w.heap.size 3 1 v' (k + 1) (vals z k ++ [.int .i64 n])) (hg : (wr.alloc o).grownBy w1 (Value.slice (some ⟨b, 0, none⟩) k c).ownBlock) :
    ∃ b' c' z', v' = .slice (some ⟨b', 0, none⟩) (k + 1) c' ∧ Held w base B a len cap lo hi (k + 1) b' c' z' w1 := by
  obtain ⟨hr, hgr, p', h1, h2, hrd⟩ := h
  obtain ⟨b', c', z', hv, hrow⟩ := app_any hown
  have hg : (wr.alloc o).grownBy w1 (some b) := hg
  exact ⟨b', c', z', hv, hrow, grown_newR (grown_trans hgr (grown_alloc _ _ _)) hr.from_ hg, p', h1, h2, (hrd.alloc o).grown hg (by have := hr.from_; omega)⟩
theorem Held.pick {w : World} {base B : Nat} {a : Option Addr} {len cap lo hi k b c p' : Nat} {z : Nat → Int} {wr w' : World} (hr : Row wr w.heap.size 3 b k c z) (hg : w.grownBy wr (some B)) (hB : B < w.heap.size)
    (hg' : wr.grownBy w' (some B)) (h1 : lo ≤ p') (h2 : p' + 1 ≤ hi) (hrd : Rd w' base B a len cap (p' + 1)) : Held w base B a len cap lo hi k b c z w' :=
  ⟨hr.kept hg' (by intro e; injection e with e; have := hr.from_; omega), grown_trans hg hg', p' + 1, by omega, h2, hrd⟩

set_option maxRecDepth 100000 in
set_option maxHeartbeats 2000000 in
theorem poly_any (w : World) (base B : Nat) (a : Option Addr) (len cap p : Nat) (h : Rd w base B a len cap p) (hp : p ≤ 10000000) :
    Calls Try.prog 53 #[.pointer (some ⟨B, 0, none⟩)] w (DrawnS w base B a len cap p 9 5) := by
  obtain ⟨i0, hi, hz0, hz1, hz2⟩ := info_parts info_int
  have hB := h.lt
  go_enter Try.func53, Try.ntmps53
  go_wp2_with fail
  refine (pick_any _ base B a len cap p 5 (h.alloc _) (by omega) (by omega)).mono ?_
  rintro e w1 ⟨x, x0, x1, rfl, hr1, hg1, hs1⟩
  have H1 := Lib.hid (Held.pick (lo := p) (hi := p + 1) (row_empty w 3 (fun _ => 0)) (grown_alloc w (.cells #[] 3) (some B)) hB hg1 (Nat.le_refl _) (Nat.le_refl _) hr1)
  obtain ⟨t, rfl⟩ : ∃ t : Nat, x = t := ⟨x.toNat, by omega⟩
  clear hs1 hr1 hg1 h
  go_wp2_with fail
  go_loopw [3, 4] (fun v i wr => ∃ (k b c n : Nat) (z : Nat → Int), v = .slice (some ⟨b, 0, none⟩) k c ∧ i = .int .i64 n ∧ k + n = t + 1 ∧ Held w base B a len cap p (p + 1 + k) k b c z wr) (fun _ i _ => (intOf i).toNat)
  case atStart => exact ⟨0, w.heap.size, 0, t + 1, fun _ => 0, rfl, by first | rfl | go_num, by omega, H1.out⟩
  case round =>
    obtain ⟨k, b, c, n, z, rfl, rfl, hkn, hr, hg, p1, q1, q2, hrd⟩ := hrel
    have HR := Lib.hid hr; have HG := Lib.hid hg; have HD := Lib.hid hrd; have hge := hr.from_; clear hr hg hrd
    have hsz := HG.out.size
    by_cases hn : 1 ≤ n
    · have hn' : (0 : Int) < (n : Int) := by omega
      go_wp2_with fail
      refine (pick_any _ base B a len cap p1 23 HD.out (by omega) (by omega)).mono ?_
      rintro e w2 ⟨y, y0, y1, rfl, hr2, hg2, hs2⟩
      have H2 := Lib.hid (Held.pick (lo := p) (hi := p + 1 + (k + 1)) HR.out HG.out hB hg2 q1 (by omega) hr2)
      have hs3 : wr.heap.size ≤ w2.heap.size := by omega
      clear hr2 hg2 hs2
      go_wp2_with (at_builtin; refine wpList_append_own _ rfl _ _ 23 rfl w.heap.size 3 i0 (.int .i64 0) 1 8 und_ints hi hz0 hz1 hz2 rfl (by decide) _ k (vals z k) rfl (H2.out.1.alloc _).owns ⟨w2.heap.size, 0, none⟩ 1 1 [.int .i64 y] rfl rfl (cell_one_new _ _ _) (by simp [Value.oneCell']) (by unfold maxLen; omega) (by omega) (by simp; omega) ?_; intro v' w3 hown' hgrow _)
      obtain ⟨b', c', z', rfl, hh⟩ := H2.out.app hB hown' hgrow
      have HH := Lib.hid hh
      clear hown' hgrow hh
      go_wp2
      go_roundw
      case rel => exact ⟨k + 1, b', c', n - 1, z', rfl, by go_num, by omega, HH.out⟩
      case measure => simp [intOf]; omega
    · obtain rfl : n = 0 := by omega
      go_wp2_with fail
      refine (pick_any _ base B a len cap p1 40 HD.out (by omega) (by omega)).mono ?_
      rintro e w2 ⟨y, y0, y1, rfl, hr2, hg2, hs2⟩
      have H2 := Lib.hid (Held.pick (lo := p) (hi := p + 7) HR.out HG.out hB hg2 q1 (by omega) hr2)
      have hs3 : wr.heap.size ≤ w2.heap.size := by omega
      have HD2 := Lib.hid hr2
      clear hr2 hg2 hs2
      rcases (by omega : y = 0 ∨ y = 1 ∨ 2 ≤ y) with rfl | rfl | hy
      · go_wp2_with fail
        refine (pick_any _ base B a len cap (p1 + 1) (k : Int) HD2.out (by omega) (by omega)).mono ?_
        rintro e w3 ⟨u, u0, u1, rfl, hr3, hg3, hs3'⟩
        have H3 := Lib.hid (Held.pick (lo := p) (hi := p + 8) H2.out.1 H2.out.2.1 hB hg3 (by omega : p ≤ p1 + 1) (by omega) hr3)
        have HD3 := Lib.hid hr3
        have hlt3 := hr3.lt
        have hs4 : wr.heap.size ≤ w3.heap.size := by omega
        obtain ⟨m, rfl⟩ : ∃ m : Nat, u = m := ⟨u.toNat, by omega⟩
        clear hr3 hg3 hs3'
        go_wp2_with fail
        refine (pick_any _ base B a len cap (p1 + 1 + 1) 2 (HD3.out.alloc _) (by omega) (by omega)).mono ?_
        rintro e w4 ⟨v, v0, v1, rfl, hr4, hg4, hs4'⟩
        obtain ⟨k0, k1⟩ := two_cells hg4 hlt3
        have H4 := Lib.hid (Held.pick (lo := p) (hi := p + 9) (H3.out.1.alloc (.cells #[.int .i64 (-1), .int .i64 23] 3)) (grown_trans H3.out.2.1 (grown_alloc _ _ _)) hB hg4 (by omega : p ≤ p1 + 1 + 1) (by omega) hr4)
        have hmk : m < k := by omega
        have c0 := H4.out.1.cell hmk
        have f0 := H4.out.1.frozen m
        have hcap := H4.out.1.le
        clear hr4 hg4 hs4'
        rcases (by omega : v = 0 ∨ v = 1) with rfl | rfl
        · have HS := Lib.hid (H4.out.1.set m (-1))
          have HGS := Lib.hid (grown_newR H4.out.2.1 hge (grown_set w4 b m (.int .i64 (-1))))
          go_wp2_with fail
          go_ret
          obtain ⟨p4, r1, r2, hrd⟩ := H4.out.2.2
          exact ⟨_, _, _, _, rfl, by omega, HS.out, HGS.out, p4, r1, r2, hrd.grown (grown_set w4 b m _) (by omega)⟩
        · have HS := Lib.hid (H4.out.1.set m 23)
          have HGS := Lib.hid (grown_newR H4.out.2.1 hge (grown_set w4 b m (.int .i64 23)))
          go_wp2_with fail
          go_ret
          obtain ⟨p4, r1, r2, hrd⟩ := H4.out.2.2
          exact ⟨_, _, _, _, rfl, by omega, HS.out, HGS.out, p4, r1, r2, hrd.grown (grown_set w4 b m _) (by omega)⟩
      · go_wp2_with fail
        go_ret
        obtain ⟨p4, r1, r2, hrd⟩ := H2.out.2.2
        exact ⟨_, _, _, _, rfl, by omega, (row_empty w2 3 (fun _ => 0)).lower H2.out.2.1.size, grown_trans H2.out.2.1 (grown_alloc _ _ _), p4, r1, by omega, hrd.alloc _⟩
      · have e0 : (y == 0) = false := by simp; omega
        have e1 : (y == 1) = false := by simp; omega
        go_wp2_with fail
        go_ret
        obtain ⟨p4, r1, r2, hrd⟩ := H2.out.2.2
        exact ⟨_, _, _, _, rfl, by omega, H2.out.1, H2.out.2.1, p4, r1, by omega, hrd⟩
end Draw
end Go.Proofs.Ytpdmolphmimomaa
