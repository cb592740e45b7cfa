/-
  What the model's draws ask of its own functions, at whatever numbers: that they answer something, and leave memory as it was.
-/
import Derived.Test.YtchgjdbmianajaaDo
import Derived.Test.YtchgjdbmianajaaOps
import Derived.Test.YtchgjdbmianajaaMem
namespace Go.Proofs.Ytchgjdbmianajaa
namespace Con
open Go.RowKit Alg Mem
set_option linter.unusedVariables false

/-- The model's power, at whatever number. -/
def qpw (a : Int) : Nat → Int
  | 0 => 1
  | k + 1 => (wrap64 (qpw a k * a)).tmod 47
theorem q2pow (a n : Int) (w : World) (hn : n ≤ 1000000) : Calls Try.prog 84 #[.int .i64 a, .int .i64 n] w fun e w' => e = .returned (.int .i64 (qpw a n.toNat)) ∧ w = w' := by
  go_enter Try.func84, Try.ntmps84
  go_wp2
  go_loop [5, 6] (fun p i => ∃ k : Nat, ((k : Int) ≤ n ∨ k = 0) ∧ i = .int .i64 k ∧ p = .int .i64 (qpw a k)) (fun _ i => n.toNat - (intOf i).toNat)
  case atStart => exact ⟨0, .inr rfl, rfl, rfl⟩
  case round =>
    obtain ⟨k, hk, rfl, rfl⟩ := hrel
    by_cases hlt : (k : Int) < n
    · go_wp2
      go_round
      case rel => exact ⟨k + 1, .inl (by omega), by go_num, rfl⟩
      case measure => simp [intOf]; omega
    · obtain rfl : k = n.toNat := by omega
      go_wp2
      go_ret
      exact ⟨rfl, rfl⟩
/-- The model's value, behind k numbers from the last. -/
def qat (z : Nat → Int) (len : Nat) (x : Int) : Nat → Int
  | 0 => 1
  | k + 1 => (wrap64 (qpw (qat z len x k) x.toNat * z (len - 1 - k))).tmod 47
set_option maxHeartbeats 1000000 in
theorem q4at (w : World) (a : Option Addr) (len cap : Nat) (z : Nat → Int) (x : Int) (hI : Ints w a len z) (hl : len ≤ 2000000) (hx : x ≤ 1000000) :
    Calls Try.prog 85 #[.slice a len cap, .int .i64 x] w fun e w' => e = .returned (.int .i64 (qat z len x len)) ∧ w.grownBy w' none := by
  go_enter Try.func85, Try.ntmps85
  go_wp2
  go_loopw [5, 6] (fun o i wr => ∃ k : Nat, k ≤ len ∧ i = .int .i64 ((k : Int) - 1) ∧ o = .int .i64 (qat z len x (len - k)) ∧ w.grownBy wr none) (fun _ i _ => (intOf i + 1).toNat)
  case atStart => exact ⟨len, by omega, by first | rfl | go_num, by rw [Nat.sub_self]; rfl, Draw.grown_refl _ _⟩
  case round =>
    obtain ⟨k, hk, rfl, rfl, hg⟩ := hrel
    have HI := Lib.hid (hI.kept hg)
    have HG := Lib.hid hg; clear hI hg
    by_cases hlt : 1 ≤ k
    · obtain ⟨m, rfl⟩ : ∃ m, k = m + 1 := ⟨k - 1, by omega⟩
      obtain ⟨b1, off1, rfl, hb1, hc1⟩ := HI.out.ptr (by omega)
      have hcx := hc1 m (by omega)
      have t0 : 0 ≤ ((m + 1 : Nat) : Int) - 1 := by omega
      have t1 : (((m + 1 : Nat) : Int) - 1).toNat = m := by omega
      have t2 : ((m + 1 : Nat) : Int) - 1 < (len : Int) := by omega
      have HR := Lib.hid (show qat z len x (len - m) = (wrap64 (qpw (qat z len x (len - (m + 1))) x.toNat * z m)).tmod 47 by
        rw [show len - m = (len - (m + 1)) + 1 by omega]
        show (wrap64 (qpw (qat z len x (len - (m + 1))) x.toNat * z (len - 1 - (len - (m + 1))))).tmod 47 = _
        rw [show len - 1 - (len - (m + 1)) = m by omega])
      clear hc1
      generalize qat z len x (len - (m + 1)) = q at HR ⊢
      go_wp2_with fail
      go_quiet (first | (go_at_call 84; refine Calls.quiet_of_same ((q2pow _ _ _ (by omega)).mono fun _ _ h => ⟨h.1, h.2.symm⟩)))
      have HG2 := Lib.hid (grown_drew HG.out nq)
      go_wp2
      go_roundw
      case rel => exact ⟨m, by omega, by go_num, by rw [HR.out], HG2.out⟩
      case measure => simp [intOf]
    · obtain rfl : k = 0 := by omega
      go_wp2
      go_ret
      exact ⟨rfl, HG.out⟩
/-- The model's test, at whatever numbers. -/
def qfit (z : Nat → Int) (len : Nat) (x n : Int) : Bool := qpw 2 n.toNat == qat z len x len
theorem q4fit (w : World) (a : Option Addr) (len cap : Nat) (z : Nat → Int) (x n : Int) (hI : Ints w a len z) (hl : len ≤ 2000000) (hx : x ≤ 1000000) (hn : n ≤ 1000000) :
    Calls Try.prog 75 #[.slice a len cap, .int .i64 x, .int .i64 n] w fun e w' => e = .returned (.bool (qfit z len x n)) ∧ w.grownBy w' none := by
  have HI := Lib.hid hI; clear hI
  go_enter Try.func75, Try.ntmps75
  go_wp2_with (first
    | (go_at_call 84; refine (q2pow _ _ _ (by omega)).mono ?_; rintro e w' ⟨rfl, rfl⟩)
    | (go_at_call 85; refine (q4at _ _ _ _ z x HI.out (by omega) hx).mono ?_; rintro e w' ⟨rfl, hg⟩))
  go_ret
  exact ⟨rfl, hg⟩
theorem badl_rng {g : Nat → Bool} {k j : Nat} (h : j < (badl g k).length) : 1 ≤ li (badl g k) j ∧ li (badl g k) j ≤ (k : Int) := by
  induction k with
  | zero => simp [badl] at h
  | succ k ih =>
    cases hg : g k with
    | true => rw [badl_yes hg] at h ⊢; have := ih h; omega
    | false =>
      rw [badl_no hg] at h ⊢
      rcases Nat.lt_or_ge j (badl g k).length with h' | h'
      · rw [li_app h']; have := ih h'; omega
      · obtain rfl : j = (badl g k).length := by simp at h; omega
        rw [li_last]; omega
def qbad (n1 : Nat) (z1 z2 : Nat → Int) (k : Nat) : Bool := qfit z1 n1 ((k : Int) + 1) (z2 k)
set_option maxRecDepth 100000 in
set_option maxHeartbeats 2000000 in
theorem q11bad (w : World) (f : Int) (a1 : Option Addr) (n1 c1 : Nat) (z1 : Nat → Int) (a2 : Option Addr) (n2 c2 : Nat) (z2 : Nat → Int) (hA : Ints w a1 n1 z1) (hB : Ints w a2 n2 z2) (hl1 : n1 ≤ 2000000) (hm5 : n2 ≤ 6) (hp2 : ∀ j, j < n2 → z2 j ≤ 1000000) :
    Calls Try.prog 74 #[.agg #[.int .i64 f, .slice a1 n1 c1, .slice a2 n2 c2]] w (Own1 3 w (badl (qbad n1 z1 z2) n2).length (li (badl (qbad n1 z1 z2) n2))) := by
  have HA := Lib.hid hA; have HB := Lib.hid hB; clear hA hB
  have HD := Lib.hid (Dl.new w f (.slice a1 n1 c1) (.slice a2 n2 c2) 91)
  have HQ := Lib.hid hp2; clear hp2
  obtain ⟨i0, hi, hz0, hz1, hz2⟩ := info_parts info_int
  have hs1 : (w.alloc (.cells #[.int .i64 f, .slice a1 n1 c1, .slice a2 n2 c2] 91)).heap.size = w.heap.size + 1 := by show (w.heap.push _).size = _; simp
  have HR0 := row_empty (w.alloc (.cells #[.int .i64 f, .slice a1 n1 c1, .slice a2 n2 c2] 91)) 3 (li [])
  rw [hs1] at HR0
  have HR0 := Lib.hid HR0
  clear hs1
  go_enter Try.func74, Try.ntmps74
  go_wp2
  go_loopw [3, 4] (fun v i wr => ∃ k b cap : Nat, k ≤ n2 ∧ v = .slice (some ⟨b, 0, none⟩) (badl (qbad n1 z1 z2) k).length cap ∧ i = .int .i64 k ∧ Row wr (w.heap.size + 1) 3 b (badl (qbad n1 z1 z2) k).length cap (li (badl (qbad n1 z1 z2) k)) ∧ Dl wr w.heap.size f (.slice a1 n1 c1) (.slice a2 n2 c2) ∧ w.grownBy wr none) (fun _ i _ => n2 - (intOf i).toNat)
  case atStart => exact ⟨0, _, 0, by omega, rfl, rfl, HR0.out, HD.out.kept (Draw.grown_alloc _ _ _), gtr (Draw.grown_alloc _ _ _) (Draw.grown_alloc _ _ _)⟩
  case round =>
    obtain ⟨k, bo, co, hk, rfl, rfl, hr, hd, hg⟩ := hrel
    have HG := Lib.hid hg; have hge := hr.from_; have HW := Lib.hid hr; have HDr := Lib.hid hd; clear hg hr hd
    obtain ⟨hlb, k0, k1, k2⟩ := HDr.out
    have hlen := badl_len (qbad n1 z1 z2) k
    by_cases hlt : k < n2
    · have hfn := HQ.out k hlt
      have HN := Lib.hid hfn; clear hfn
      obtain ⟨b, off, rfl, hb, hc⟩ := (HB.out.kept HG.out).ptr (by omega)
      have hcx := hc k hlt
      clear hc
      cases hf : qfit z1 n1 ((k : Int) + 1) (z2 k) with
      | true =>
        have HE := Lib.hid (badl_yes (g := qbad n1 z1 z2) (k := k) hf)
        have hwr : IntKind.i64.wrap ((k : Int) + 1) = (k : Int) + 1 := by rw [IntKind.wrap_i64]; omega
        have HAd := Lib.hid ((HA.out.kept HG.out).keptB (w' := wr.drew) (fun _ _ => rfl) (Nat.le_refl _))
        go_wp2_with fail
        go_region_held3 (fun w' => w'.cell? ⟨w.heap.size, 1, none⟩ = some (.slice a1 n1 c1) ∧ w'.cell? ⟨w.heap.size, 2, none⟩ = some (.slice (some ⟨b, off, none⟩) n2 c2) ∧ w'.cell? ⟨b, off + k, none⟩ = some (.int .i64 (z2 k))) (first | exact hS2 | exact ⟨k1, k2, hcx⟩) ((go_at_call 75; (with_reducible refine (q4fit _ _ _ _ z1 _ _ HAd.out (by omega) (by omega) HN.out).mono ?_); rintro e w2 ⟨rfl, hg2⟩; rw [hf]; have HGw := Lib.hid (show wr.grownBy w2 none from ⟨hg2.os, hg2.tape, hg2.output, hg2.size, hg2.block⟩); have HG2 := HGw; clear hg2; have hS2 : w2.cell? ⟨w.heap.size, 1, none⟩ = some (.slice a1 n1 c1) ∧ w2.cell? ⟨w.heap.size, 2, none⟩ = some (.slice (some ⟨b, off, none⟩) n2 c2) ∧ w2.cell? ⟨b, off + k, none⟩ = some (.int .i64 (z2 k)) := ⟨(HDr.out.kept HGw.out).c1, (HDr.out.kept HGw.out).c2, (World.cell?_of_block (w := wr) (HGw.out.block b hb (by simp))).trans hcx⟩))
        all_goals
          go_wp2
          go_roundw
          case rel => exact ⟨k + 1, _, _, by omega, by rw [HE.out], by go_num, by rw [HE.out]; exact HW.out.keptN HG2.out, HDr.out.kept HG2.out, gtr HG.out HG2.out⟩
          case measure => simp [intOf]; omega
      | false =>
        have HE := Lib.hid (badl_no (g := qbad n1 z1 z2) (k := k) hf)
        have hwr : IntKind.i64.wrap ((k : Int) + 1) = (k : Int) + 1 := by rw [IntKind.wrap_i64]; omega
        have HAd := Lib.hid ((HA.out.kept HG.out).keptB (w' := wr.drew) (fun _ _ => rfl) (Nat.le_refl _))
        go_wp2_with fail
        go_region_held3 (fun w' => w'.cell? ⟨w.heap.size, 1, none⟩ = some (.slice a1 n1 c1) ∧ w'.cell? ⟨w.heap.size, 2, none⟩ = some (.slice (some ⟨b, off, none⟩) n2 c2) ∧ w'.cell? ⟨b, off + k, none⟩ = some (.int .i64 (z2 k))) (first | exact hS2 | exact ⟨k1, k2, hcx⟩) ((go_at_call 75; (with_reducible refine (q4fit _ _ _ _ z1 _ _ HAd.out (by omega) (by omega) HN.out).mono ?_); rintro e w2 ⟨rfl, hg2⟩; rw [hf]; have HGw := Lib.hid (show wr.grownBy w2 none from ⟨hg2.os, hg2.tape, hg2.output, hg2.size, hg2.block⟩); have HG2 := Lib.hid (gtr HG.out HGw.out); have HW2 := Lib.hid (HW.out.keptN HGw.out); have HD2 := Lib.hid (HDr.out.kept HGw.out); clear hg2; have hsz := HD2.out.lt; have hS2 : w2.cell? ⟨w.heap.size, 1, none⟩ = some (.slice a1 n1 c1) ∧ w2.cell? ⟨w.heap.size, 2, none⟩ = some (.slice (some ⟨b, off, none⟩) n2 c2) ∧ w2.cell? ⟨b, off + k, none⟩ = some (.int .i64 (z2 k)) := ⟨(HDr.out.kept HGw.out).c1, (HDr.out.kept HGw.out).c2, (World.cell?_of_block (w := wr) (HGw.out.block b hb (by simp))).trans hcx⟩))
        all_goals
          go_wp2_with (at_builtin; refine wpList_append_own _ rfl _ _ 23 rfl (w.heap.size + 1) 3 i0 (.int .i64 0) 1 8 und_ints hi hz0 hz1 hz2 rfl (by decide) _ _ (vals (li (badl (qbad n1 z1 z2) k)) (badl (qbad n1 z1 z2) k).length) rfl (HW2.out.alloc _).owns ⟨w2.heap.size, 0, none⟩ 1 1 [.int .i64 ((k : Int) + 1)] rfl rfl (cell_one_new _ _ _) (by simp [Value.oneCell']) (by unfold maxLen; omega) (by omega) (by simp; omega) ?_; intro v' w3 hown' hgrow _)
          rw [vals_congr (y := li (badl (qbad n1 z1 z2) k ++ [(k : Int) + 1])) fun j hj => (li_app hj).symm] at hown'
          obtain ⟨b', cap', rfl, hrow⟩ := app_row hown' (li_last _ _).symm
          have HR := Lib.hid (show Row w3 (w.heap.size + 1) 3 b' (badl (qbad n1 z1 z2) (k + 1)).length cap' (li (badl (qbad n1 z1 z2) (k + 1))) by rw [HE.out]; simpa using hrow)
          have HL := Lib.hid (show (Value.slice (some ⟨b', 0, none⟩) ((badl (qbad n1 z1 z2) k).length + 1) cap') = .slice (some ⟨b', 0, none⟩) (badl (qbad n1 z1 z2) (k + 1)).length cap' by rw [HE.out]; simp)
          have HG3 := Lib.hid (Mem.app_grown HG2.out (by omega) hgrow)
          have HD3 := Lib.hid (HD2.out.keptB (gtr' (Draw.grown_alloc _ _ _) hgrow) (by intro e; have e := Option.some.inj e; simp at e; omega))
          clear hown' hgrow hrow
          go_wp2
          go_roundw
          case rel => exact ⟨k + 1, b', cap', by omega, HL.out, by go_num, HR.out, HD3.out, HG3.out⟩
          case measure => simp [intOf]; omega
    · obtain rfl : k = n2 := by omega
      go_wp2
      go_ret
      exact ⟨_, _, rfl, HW.out.lower (by omega), HG.out⟩
end Con
end Go.Proofs.Ytchgjdbmianajaa
/-
  Answers and deals while the model draws them: what holds of the answers laid so far, of the reader, and of the deals that they answer.
-/

namespace Go.Proofs.Ytchgjdbmianajaa
namespace Draw
open Go.RowKit Alg Mem Con Mp
set_option linter.unusedVariables false

/-- Deals whose blocks lie from lo to hi. -/
structure DIn (w : World) (lo hi : Nat) (a : Option Addr) (len : Nat) (D : Nat → DV) : Prop where
  di : DealsIn w a len D
  rng : ∀ b off, a = some ⟨b, off, none⟩ → lo ≤ b ∧ b < hi
  rows : ∀ j, j < len → (∀ b off, (D j).a1 = some ⟨b, off, none⟩ → lo ≤ b ∧ b < hi) ∧ (∀ b off, (D j).a2 = some ⟨b, off, none⟩ → lo ≤ b ∧ b < hi)
theorem ints_keptR {w w' : World} {a : Option Addr} {len lo hi : Nat} {z : Nat → Int} {r : Option Nat} (h : Ints w a len z) (hg : w.grownBy w' r) (hb : ∀ b off, a = some ⟨b, off, none⟩ → lo ≤ b ∧ b < hi) (hr : ∀ g, r = some g → g < lo ∨ hi ≤ g) : Ints w' a len z := by
  rcases h with h | ⟨b, off, ha, hl, hc⟩
  · exact .inl h
  · refine .inr ⟨b, off, ha, Nat.lt_of_lt_of_le hl hg.size, fun j hj => ?_⟩
    rw [World.cell?_of_block (w := w) (hg.block b hl (by intro e; have h1 := hr b e.symm; have h2 := hb b off ha; omega))]
    exact hc j hj
theorem DIn.kept {w w' : World} {lo hi : Nat} {a : Option Addr} {len : Nat} {D : Nat → DV} {r : Option Nat} (h : DIn w lo hi a len D) (hg : w.grownBy w' r) (hr : ∀ g, r = some g → g < lo ∨ hi ≤ g) : DIn w' lo hi a len D := by
  refine ⟨?_, h.rng, h.rows⟩
  rcases h.di with h0 | ⟨b, off, ha, hl, hc⟩
  · exact .inl h0
  · have hb := hg.block b hl (by intro e; have h1 := hr b e.symm; have h2 := h.rng b off ha; omega)
    refine .inr ⟨b, off, ha, Nat.lt_of_lt_of_le hl hg.size, fun j hj => ?_⟩
    obtain ⟨⟨h0, h1, h2⟩, hrw⟩ := hc j hj
    exact ⟨⟨(World.cell?_of_block hb).trans h0, (World.cell?_of_block hb).trans h1, (World.cell?_of_block hb).trans h2⟩, ints_keptR hrw.i1 hg (h.rows j hj).1 hr, ints_keptR hrw.i2 hg (h.rows j hj).2 hr⟩

theorem wf_few {n : Int} (h : 0 ≤ n) (h' : n ≤ 1000) : wf n = true := WalkArith.wf_i64 (by omega)
/-- The cells of answers. -/
def cellsA : List Ans → List Value
  | [] => []
  | x :: r => .int .i64 x.f :: .int .i64 x.t :: .int .i64 x.s :: cellsA r
theorem cellsA_len (L : List Ans) : (cellsA L).length = L.length * 3 := by
  induction L with
  | nil => rfl
  | cons x r ih => simp [cellsA, ih]; omega
theorem cellsA_app (L : List Ans) (x : Ans) : cellsA (L ++ [x]) = cellsA L ++ [.int .i64 x.f, .int .i64 x.t, .int .i64 x.s] := by
  induction L with
  | nil => rfl
  | cons y r ih => simp [cellsA, ih]
def aAt (L : List Ans) (j : Nat) : Ans := L.getD j ⟨0, 0, 0⟩
theorem cellsA_get : ∀ (L : List Ans) (j : Nat), j < L.length → (cellsA L)[j * 3]? = some (.int .i64 (aAt L j).f) ∧ (cellsA L)[j * 3 + 1]? = some (.int .i64 (aAt L j).t) ∧ (cellsA L)[j * 3 + 2]? = some (.int .i64 (aAt L j).s)
  | [], j, h => by simp at h
  | x :: r, 0, _ => ⟨rfl, rfl, rfl⟩
  | x :: r, j + 1, h => by
    have := cellsA_get r j (by simpa using h)
    rw [show (j + 1) * 3 = j * 3 + 3 by omega]
    simpa [cellsA, aAt] using this
def wfL (L : List Ans) : Prop := ∀ x ∈ L, wf x.f = true ∧ wf x.t = true ∧ wf x.s = true
/-- Answers of the call's own. -/
def OwnA (w : World) (lo : Nat) (v : Value) (L : List Ans) : Prop := w.ownsRow lo 102 3 v L.length (cellsA L) ∧ wfL L
theorem OwnA.ans {w : World} {lo : Nat} {v : Value} {L : List Ans} (h : OwnA w lo v L) : ∃ a c, v = .slice a L.length c ∧ AnsIn w a L.length (aAt L) ∧ WfA L.length (aAt L) := by
  have hw : WfA L.length (aAt L) := fun j hj => h.2 _ (by simp [aAt, hj])
  rcases h.1.2 with ⟨hv, h0⟩ | ⟨g, cap, cur, hv, _⟩
  · exact ⟨none, 0, by rw [hv, h0], .inl h0, hw⟩
  · by_cases h0 : L.length = 0
    · exact ⟨_, cap, hv, .inl h0, hw⟩
    · have ho := h.1
      rw [hv] at ho
      have hlt := (ho.lt g rfl).2
      refine ⟨_, cap, hv, .inr ⟨g, 0, rfl, hlt, fun j hj => ?_⟩, hw⟩
      obtain ⟨q0, q1, q2⟩ := cellsA_get L j hj
      rw [Nat.zero_add]
      exact ⟨(ho.cellAt _ (by omega)).trans q0, (ho.cellAt _ (by omega)).trans q1, (ho.cellAt _ (by omega)).trans q2⟩
/-- What holds while answers are drawn. -/
structure ASt (w : World) (base B : Nat) (a : Option Addr) (len cap p p' : Nat) (W : World) (v : Value) (L : List Ans) : Prop where
  own : OwnA W w.heap.size v L
  g : w.grownBy W (some B)
  rd : Rd W base B a len cap p'
  few : L.length + p ≤ p'
theorem own_far {W : World} {lo B : Nat} {T : TypeId} {v : Value} {n k : Nat} {xs : List Value} (h : W.ownsRow lo T k v n xs) (hB : B < lo) : v.ownBlock = none ∨ v.ownBlock ≠ some B := by
  cases hv : v.ownBlock with
  | none => exact .inl rfl
  | some g => refine .inr (fun e => ?_); have := (h.lt g hv).1; injection e with e; omega
theorem ASt.quiet {w : World} {base B : Nat} {a : Option Addr} {len cap p p' : Nat} {W W' : World} {v : Value} {L : List Ans} (h : ASt w base B a len cap p p' W v L) (hg : W.grownBy W' none) : ASt w base B a len cap p p' W' v L :=
  ⟨⟨h.own.1.kept hg (by cases v.ownBlock <;> simp), h.own.2⟩, grown_trans h.g (grown_some hg), h.rd.kept (fun k hk => hg.block k (by have := h.rd.lt; have := h.rd.from_; omega) (by simp)) (hg.block B h.rd.lt (by simp)), h.few⟩
theorem ASt.pick {w : World} {base B : Nat} {a : Option Addr} {len cap p p' p2 : Nat} {W W' : World} {v : Value} {L : List Ans} (h : ASt w base B a len cap p p' W v L) (hB : B < w.heap.size) (hg : W.grownBy W' (some B)) (hr : Rd W' base B a len cap p2) (hp : p' ≤ p2) : ASt w base B a len cap p p2 W' v L :=
  ⟨⟨h.own.1.kept hg (own_far h.own.1 hB), h.own.2⟩, grown_trans h.g hg, hr, by have := h.few; omega⟩
theorem ASt.app {w : World} {base B : Nat} {a : Option Addr} {len cap p p' : Nat} {W W' : World} {v v' : Value} {L : List Ans} {x : Ans} {T : TypeId} (h : ASt w base B a len cap p p' W v L) (hB : B < w.heap.size) (hf : L.length + 1 + p ≤ p')
    (hg : (W.alloc (.cells #[.int .i64 x.f, .int .i64 x.t, .int .i64 x.s] T)).grownBy W' v.ownBlock) (ho : W'.ownsRow w.heap.size 102 3 v' (L.length + 1) (cellsA L ++ [.int .i64 x.f, .int .i64 x.t, .int .i64 x.s])) (hw : wf x.f = true ∧ wf x.t = true ∧ wf x.s = true) :
    ASt w base B a len cap p p' W' v' (L ++ [x]) := by
  have hg' : W.grownBy W' v.ownBlock := grown_trans (grown_alloc W _ _) hg
  have hne : ∀ g, v.ownBlock = some g → w.heap.size ≤ g := fun g hv => (h.own.1.lt g hv).1
  refine ⟨⟨by rw [cellsA_app]; simpa using ho, fun y hy => ?_⟩, ?_, ?_, by simpa using hf⟩
  · rcases List.mem_append.1 hy with hy | hy
    · exact h.own.2 y hy
    · simp at hy; subst hy; exact hw
  · cases hv : v.ownBlock with
    | none => rw [hv] at hg'; exact grown_trans h.g (grown_some hg')
    | some g => rw [hv] at hg'; exact grown_newR h.g (hne g hv) hg'
  · have hlt := h.rd.lt; have hfr := h.rd.from_
    exact h.rd.kept (fun k hk => hg'.block k (by omega) (by intro e; have := hne k e.symm; omega)) (hg'.block B hlt (by intro e; have := hne B e.symm; omega))
/-- A row of numbers is no row of answers. -/
theorem row_own_ne {W : World} {lo lo2 k : Nat} {T E : TypeId} {v : Value} {n b len cap : Nat} {xs : List Value} {z : Nat → Int} (h : W.ownsRow lo T k v n xs) (r : Row W lo2 E b len cap z) (hne : T ≠ E) : some b ≠ v.ownBlock := by
  rcases h.2 with ⟨rfl, _⟩ | ⟨g, c, cur, rfl, _, hg, _⟩
  · intro e; cases e
  · intro e
    have e := Option.some.inj e
    simp at e
    subst e
    obtain ⟨f, ⟨cur', hb, _, _⟩, _⟩ := r.row
    rw [hg] at hb
    injection hb with hb
    injection hb with _ hb
    exact hne hb
theorem row_app {w W W' : World} {base B : Nat} {a : Option Addr} {len cap p p' : Nat} {v : Value} {L : List Ans} {lo2 b n c : Nat} {z : Nat → Int} {o : Obj} (h : ASt w base B a len cap p p' W v L) (r : Row W lo2 3 b n c z) (hg : (W.alloc o).grownBy W' v.ownBlock) : Row W' lo2 3 b n c z :=
  r.kept (grown_trans (grown_alloc W o _) hg) (row_own_ne h.own.1 r (by decide))
end Draw
end Go.Proofs.Ytchgjdbmianajaa
