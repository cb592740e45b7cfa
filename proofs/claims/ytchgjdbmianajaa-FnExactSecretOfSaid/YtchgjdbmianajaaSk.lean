/-
  Which share a member accepts of a deal; whether a deal counts: the program's functions, at every deal and all answers.
-/
import Derived.Test.YtchgjdbmianajaaMp
import Derived.Test.YtchgjdbmianajaaDo
import Derived.Maps.OwnOps
import Derived.Deep.RegionHeld3
namespace Go.Proofs.Ytchgjdbmianajaa
namespace Mp
open Go.RowKit Alg Mem Con Me
set_option linter.unusedVariables false

/-- The share that a member accepts: the dealt one, if it fits, or else the first answered one that does. -/
def acc (g : Int → Bool) (s : Int) (l : List Int) : Option Int := if g s then some s else l.find? g
theorem acc_dealt {g : Int → Bool} {s : Int} {l : List Int} (h : g s = true) : acc g s l = some s := by simp [acc, h]
theorem acc_ans {g : Int → Bool} {s : Int} {l : List Int} (h : g s = false) : acc g s l = l.find? g := by simp [acc, h]
def accV : Option Int → Value
  | some s => .tuple #[.int .i64 s, .bool true]
  | none => .tuple #[.int .i64 0, .bool false]
theorem find_at {g : Int → Bool} : ∀ {l : List Int} {k : Nat}, (∀ j, j < k → g (li l j) = false) → k < l.length → g (li l k) = true → l.find? g = some (li l k)
  | [], k, _, h, _ => by simp at h
  | x :: r, 0, _, _, hg => by
    have : g x = true := by simpa [li] using hg
    simp [this, li]
  | x :: r, k + 1, hn, hk, hg => by
    have h0 : g x = false := by simpa [li] using hn 0 (by omega)
    have := find_at (g := g) (l := r) (k := k) (fun j hj => by simpa [li] using hn (j + 1) (by omega)) (by simpa using hk) (by simpa [li] using hg)
    rw [List.find?_cons, h0]
    simpa [li] using this
theorem find_no {g : Int → Bool} {l : List Int} (h : ∀ j, j < l.length → g (li l j) = false) : l.find? g = none := by
  rw [List.find?_eq_none]
  intro x hx
  obtain ⟨j, hj, rfl⟩ := List.getElem_of_mem hx
  have := h j hj
  simp [li, hj] at this
  simp [this]
theorem own_ints {w : World} {base : Nat} {e : TypeId} {v : Value} {zs : List Int} (h : w.ownsInts base e .i64 v zs) : ∃ a c, v = .slice a zs.length c ∧ Ints w a zs.length (li zs) := by
  by_cases h0 : zs.length = 0
  · rcases h.1.2 with ⟨rfl, _⟩ | ⟨g, cap, cur, rfl, _⟩
    · exact ⟨none, 0, by rw [h0], .inl h0⟩
    · exact ⟨_, cap, rfl, .inl h0⟩
  · obtain ⟨b, cap, rfl, hr⟩ := row_of_owns (z := li zs) h.1 (by omega) (fun j hj => by simp [li, hj])
    exact ⟨_, cap, rfl, hr.ints⟩
theorem wf_small {n : Int} (h : 0 ≤ n) (h' : n ≤ 1000) : wf n = true := WalkArith.wf_i64 (by omega)

/-- Do the first k members accept a share? -/
def accs (f : Int) (n1 : Nat) (z1 : Nat → Int) (z2 : Nat → Int) (A : Nat → Ans) (na : Nat) : Nat → Bool
  | 0 => true
  | k + 1 => accs f n1 z1 z2 A na k && (acc (cfz n1 z1 ((k : Int) + 1)) (z2 k) (shs A f ((k : Int) + 1) na)).isSome
theorem accs_iff {f : Int} {n1 : Nat} {z1 z2 : Nat → Int} {A : Nat → Ans} {na k : Nat} : accs f n1 z1 z2 A na k = true ↔ ∀ j, j < k → (acc (cfz n1 z1 ((j : Int) + 1)) (z2 j) (shs A f ((j : Int) + 1) na)).isSome = true := by
  induction k with
  | zero => simp [accs]
  | succ k ih =>
    simp only [accs, Bool.and_eq_true, ih]
    exact ⟨fun h j hj => by rcases Nat.lt_or_ge j k with h' | h'; exact h.1 j h'; obtain rfl : j = k := by omega
                            exact h.2, fun h => ⟨fun j hj => h j (by omega), h k (by omega)⟩⟩
theorem accs_no {f : Int} {n1 : Nat} {z1 z2 : Nat → Int} {A : Nat → Ans} {na k m : Nat} (hk : k < m) (h : acc (cfz n1 z1 ((k : Int) + 1)) (z2 k) (shs A f ((k : Int) + 1) na) = none) : accs f n1 z1 z2 A na m = false := by
  cases h' : accs f n1 z1 z2 A na m with
  | false => rfl
  | true => have := accs_iff.1 h' k hk; rw [h] at this; cases this
theorem accs_next {f : Int} {n1 : Nat} {z1 z2 : Nat → Int} {A : Nat → Ans} {na k : Nat} {s : Int} (h : accs f n1 z1 z2 A na k = true) (hs : acc (cfz n1 z1 ((k : Int) + 1)) (z2 k) (shs A f ((k : Int) + 1) na) = some s) : accs f n1 z1 z2 A na (k + 1) = true := by simp [accs, h, hs]
/-- Does a deal count? -/
def gdF (f : Int) (n1 : Nat) (z1 : Nat → Int) (n2 : Nat) (z2 : Nat → Int) (A : Nat → Ans) (na : Nat) (need many : Int) : Bool := dlF f n1 z1 n2 z2 need many && (decide (f ≤ many) && accs f n1 z1 z2 A na n2)
section
variable {f : Int} {n1 : Nat} {z1 : Nat → Int} {n2 : Nat} {z2 : Nat → Int} {A : Nat → Ans} {na : Nat} {need many : Int}
theorem gd_iff : gdF f n1 z1 n2 z2 A na need many = true ↔ dlF f n1 z1 n2 z2 need many = true ∧ f ≤ many ∧ accs f n1 z1 z2 A na n2 = true := by simp [gdF]
theorem gd_d (h : dlF f n1 z1 n2 z2 need many = false) : gdF f n1 z1 n2 z2 A na need many = false := by simp [gdF, h]
theorem gd_f (h : ¬ f ≤ many) : gdF f n1 z1 n2 z2 A na need many = false := by simp [gdF, h]
theorem gd_a (h : accs f n1 z1 z2 A na n2 = false) : gdF f n1 z1 n2 z2 A na need many = false := by simp [gdF, h]
theorem gd_y (h : dlF f n1 z1 n2 z2 need many = true) (h2 : f ≤ many) (h3 : accs f n1 z1 z2 A na n2 = true) : gdF f n1 z1 n2 z2 A na need many = true := by simp [gdF, h, h2, h3]
end
end Mp
end Go.Proofs.Ytchgjdbmianajaa
/-
  Which share a member accepts of a deal; whether a deal counts: the model's functions.
-/

namespace Go.Proofs.Ytchgjdbmianajaa
namespace Mp
open Go.RowKit Alg Mem Con Me
set_option linter.unusedVariables false

theorem find_snoc_no {g : Int → Bool} {l : List Int} {s : Int} (h : l.find? g = none) (hs : g s = false) : (l ++ [s]).find? g = none := by
  rw [List.find?_append, h]; simp [hs]
theorem find_snoc_yes {g : Int → Bool} {l : List Int} {s : Int} (h : l.find? g = none) (hs : g s = true) : (l ++ [s]).find? g = some s := by
  rw [List.find?_append, h]; simp [hs]
theorem find_pre {g : Int → Bool} {A : Nat → Ans} {f t s : Int} {k n : Nat} (hk : k ≤ n) (h : (shs A f t k).find? g = some s) : (shs A f t n).find? g = some s := by
  induction n with
  | zero => obtain rfl : k = 0 := by omega
            exact h
  | succ n ih =>
    rcases Nat.lt_or_ge n k with h' | h'
    · obtain rfl : k = n + 1 := by omega
      exact h
    · simp only [shs]
      rw [List.find?_append, ih h']; rfl

set_option maxRecDepth 100000 in
set_option maxHeartbeats 2000000 in
theorem s12ans (w : World) (f : Int) (a1 : Option Addr) (n1 c1 : Nat) (z1 : Nat → Int) (s2 : Value) (a3 : Option Addr) (na ca : Nat) (A : Nat → Ans) (m : Int) (hA : Ints w a1 n1 z1) (hI : AnsIn w a3 na A) (hl1 : n1 ≤ 2000000) (hna : na ≤ 2000000) (hk : cokz n1 z1 = true) (hm : fok m = true) :
    Calls Try.prog 82 #[.agg #[.int .i64 f, .slice a1 n1 c1, s2], .slice a3 na ca, .int .i64 m] w fun e w' => e = .returned (accV ((shs A f m na).find? (cfz n1 z1 m))) ∧ w.grownBy w' none := by
  have HG0 := Lib.hid (Draw.grown_alloc w (.cells #[.int .i64 f, .slice a1 n1 c1, s2] 91) none)
  have HA := Lib.hid (hA.kept HG0.out); have HI := Lib.hid (hI.kept HG0.out)
  have HD := Lib.hid (Dl.new w f (.slice a1 n1 c1) s2 91)
  have HK := Lib.hid (cokz_iff.1 hk).2.2; have HM := Lib.hid hm; have HC := Lib.hid hk
  clear hA hI hk hm
  generalize hg : cfz n1 z1 m = g
  have HGD := Lib.hid hg; clear hg
  go_enter Try.func82, Try.ntmps82
  go_wp2
  go_loopw [8] (fun i wr => ∃ k : Nat, k ≤ na ∧ i = .int .i64 k ∧ (shs A f m k).find? g = none ∧ (w.alloc (.cells #[.int .i64 f, .slice a1 n1 c1, s2] 91)).grownBy wr none) (fun i _ => na - (intOf i).toNat)
  case atStart => exact ⟨0, by omega, rfl, rfl, Draw.grown_refl _ _⟩
  case round =>
    obtain ⟨k, hk, rfl, hno, hg⟩ := hrel
    have HN := Lib.hid hno; have HGr := Lib.hid hg; clear hno hg
    by_cases hlt : k < na
    · obtain ⟨_, k0, k1, k2⟩ := HD.out.kept HGr.out
      rcases HI.out.kept HGr.out with h | ⟨b, off, rfl, hb, hcc⟩
      · omega
      obtain ⟨hc0, hc1, hc2⟩ := hcc k hlt
      clear hcc
      have HX := Lib.hid (Dl.new wr (A k).f (.int .i64 (A k).t) (.int .i64 (A k).s) 102)
      have HGx := Lib.hid (gtr HGr.out (Draw.grown_alloc wr (.cells #[.int .i64 (A k).f, .int .i64 (A k).t, .int .i64 (A k).s] 102) none))
      by_cases hf : (A k).f = f
      · have hf' : ((A k).f == f) = true := by simpa using hf
        by_cases ht : (A k).t = m
        · have ht' : ((A k).t == m) = true := by simpa using ht
          have HY := Lib.hid (shs_yes (A := A) (k := k) ⟨hf, ht⟩)
          clear hf ht
          cases hs : fok (A k).s with
          | false =>
            have HS := Lib.hid hs
            have HN' := Lib.hid (show (shs A f m (k + 1)).find? g = none by rw [HY.out]; exact find_snoc_no HN.out (by rw [← HGD.out]; exact cfz_nof HS.out))
            clear hs
            go_wp2_with fail
            refine (sok_no _ _ HS.out).mono ?_
            rintro e w' ⟨rfl, rfl⟩
            go_wp2
            go_roundw
            case rel => exact ⟨k + 1, by omega, by go_num, HN'.out, HGx.out⟩
            case measure => simp [intOf]; omega
          | true =>
            have HS := Lib.hid hs
            have HF := Lib.hid (show g (A k).s = (gofF (A k).s == gofF (Pol.fi (Pol.ev (fl (lz z1) n1) (Pol.cv m)))) by rw [← HGD.out]; exact (cfz_in HC.out HM.out HS.out).trans (by rw [catz_in HC.out HM.out]))
            clear hs
            cases hq : g (A k).s with
            | true =>
              have HR := Lib.hid (find_pre (n := na) (Nat.succ_le_of_lt hlt) (show (shs A f m (k + 1)).find? g = some (A k).s by rw [HY.out]; exact find_snoc_yes HN.out hq))
              go_wp2_with fail
              refine (sok_yes _ _ HS.out).mono ?_
              rintro e w' ⟨rfl, rfl⟩
              go_wp2_with fail
              refine (s4fit _ _ _ _ z1 _ _ (HA.out.kept HGx.out) (by omega) HK.out HM.out HS.out).mono ?_
              rintro e w2 ⟨rfl, hg2⟩
              rw [← HF.out, hq]
              have HG2 := Lib.hid (gtr HG0.out (gtr HGx.out hg2))
              obtain ⟨_, x0, x1, x2⟩ := HX.out.kept hg2
              clear hg2
              go_wp2
              go_ret2
              exact ⟨by rw [HR.out]; rfl, HG2.out⟩
            | false =>
              have HN' := Lib.hid (show (shs A f m (k + 1)).find? g = none by rw [HY.out]; exact find_snoc_no HN.out hq)
              go_wp2_with fail
              refine (sok_yes _ _ HS.out).mono ?_
              rintro e w' ⟨rfl, rfl⟩
              go_wp2_with fail
              refine (s4fit _ _ _ _ z1 _ _ (HA.out.kept HGx.out) (by omega) HK.out HM.out HS.out).mono ?_
              rintro e w2 ⟨rfl, hg2⟩
              rw [← HF.out, hq]
              have HG2 := Lib.hid (gtr HGx.out hg2)
              clear hg2
              go_wp2
              go_roundw
              case rel => exact ⟨k + 1, by omega, by go_num, HN'.out, HG2.out⟩
              case measure => simp [intOf]; omega
        · have HN' := Lib.hid (show (shs A f m (k + 1)).find? g = none by rw [shs_no (fun h => ht h.2)]; exact HN.out)
          have ht' : ((A k).t == m) = false := by simpa using ht
          clear hf ht
          go_wp2
          go_roundw
          case rel => exact ⟨k + 1, by omega, by go_num, HN'.out, HGx.out⟩
          case measure => simp [intOf]; omega
      · have HN' := Lib.hid (show (shs A f m (k + 1)).find? g = none by rw [shs_no (fun h => hf h.1)]; exact HN.out)
        have hf' : ((A k).f == f) = false := by simpa using hf
        clear hf
        go_wp2
        go_roundw
        case rel => exact ⟨k + 1, by omega, by go_num, HN'.out, HGx.out⟩
        case measure => simp [intOf]; omega
    · obtain rfl : k = na := by omega
      go_wp2
      go_ret2
      exact ⟨by rw [HN.out]; rfl, gtr HG0.out HGr.out⟩
set_option maxRecDepth 100000 in
set_option maxHeartbeats 4000000 in
theorem s12share (w : World) (f : Int) (a1 : Option Addr) (n1 c1 : Nat) (z1 : Nat → Int) (a2 : Option Addr) (n2 c2 : Nat) (z2 : Nat → Int) (a3 : Option Addr) (na ca : Nat) (A : Nat → Ans) (j : Nat) (hA : Ints w a1 n1 z1) (hB : Ints w a2 n2 z2) (hI : AnsIn w a3 na A) (hl1 : n1 ≤ 2000000) (hna : na ≤ 2000000) (hj : j < n2) (hn5 : n2 ≤ 5) (hk : cokz n1 z1 = true) (hz : okz z2 n2 = true) :
    Calls Try.prog 71 #[.agg #[.int .i64 f, .slice a1 n1 c1, .slice a2 n2 c2], .slice a3 na ca, .int .i64 ((j : Int) + 1)] w fun e w' => e = .returned (accV (acc (cfz n1 z1 ((j : Int) + 1)) (z2 j) (shs A f ((j : Int) + 1) na))) ∧ w.grownBy w' none := by
  have HG0 := Lib.hid (grown_alloc_drew w (.cells #[.int .i64 f, .slice a1 n1 c1, .slice a2 n2 c2] 91))
  have HA := Lib.hid (hA.kept HG0.out); have HB := Lib.hid (hB.kept HG0.out); have HI := Lib.hid (hI.kept HG0.out)
  have HD := Lib.hid (Dl.new w f (.slice a1 n1 c1) (.slice a2 n2 c2) 91)
  have hm : fok ((j : Int) + 1) = true := fok_iff.2 (by omega)
  have HK := Lib.hid (cokz_iff.1 hk).2.2; have HM := Lib.hid hm; have HC := Lib.hid hk; have HS := Lib.hid (okz_iff.1 hz j hj)
  have HF := Lib.hid (show cfz n1 z1 ((j : Int) + 1) (z2 j) = _ from (cfz_in HC.out HM.out HS.out).trans (by rw [catz_in HC.out HM.out]))
  obtain ⟨b, off, rfl, hb, hcc⟩ := (hB.kept (Draw.grown_alloc w (.cells #[.int .i64 f, .slice a1 n1 c1, .slice a2 n2 c2] 91) none)).ptr (by omega)
  have hcx := hcc j hj
  have hsub : ((j : Int) + 1 - 1) = (j : Int) := by omega
  have hwr : IntKind.i64.wrap ((j : Int) + 1 - 1) = (j : Int) := by rw [IntKind.wrap_i64]; omega
  have hwr2 : IntKind.i64.wrap (j : Int) = (j : Int) := by rw [IntKind.wrap_i64]; omega
  have hj1 : (0 : Int) ≤ (j : Int) := by omega
  have hj2 : (j : Int) < (n2 : Int) := by omega
  clear hA hB hI hk hm hz hcc
  obtain ⟨_, k0, k1, k2⟩ := HD.out
  cases hq : cfz n1 z1 ((j : Int) + 1) (z2 j) with
  | true =>
    have HE := Lib.hid (acc_dealt (l := shs A f ((j : Int) + 1) na) hq)
    go_enter Try.func71, Try.ntmps71
    go_wp2_with fail
    go_region_held3 (fun w' => w'.cell? ⟨w.heap.size, 1, none⟩ = some (.slice a1 n1 c1) ∧ w'.cell? ⟨w.heap.size, 2, none⟩ = some (.slice (some ⟨b, off, none⟩) n2 c2) ∧ w'.cell? ⟨b, off + j, none⟩ = some (.int .i64 (z2 j))) (first | exact hS2 | exact ⟨k1, k2, hcx⟩) ((go_at_call 75; (with_reducible refine (s4fit _ _ _ _ z1 _ _ HA.out (by omega) HK.out HM.out HS.out).mono ?_); rintro e w2 ⟨rfl, hg2⟩; rw [← HF.out, hq]; have HG2 := Lib.hid (gtr HG0.out hg2); have hD2 := Dl.kept (w' := w2) HD.out ⟨hg2.os, hg2.tape, hg2.output, hg2.size, hg2.block⟩; have hS2 : w2.cell? ⟨w.heap.size, 1, none⟩ = some (.slice a1 n1 c1) ∧ w2.cell? ⟨w.heap.size, 2, none⟩ = some (.slice (some ⟨b, off, none⟩) n2 c2) ∧ w2.cell? ⟨b, off + j, none⟩ = some (.int .i64 (z2 j)) := ⟨hD2.c1, hD2.c2, (World.cell?_of_block (w := (w.alloc (.cells #[.int .i64 f, .slice a1 n1 c1, .slice (some ⟨b, off, none⟩) n2 c2] 91)).drew) (hg2.block b hb (by simp))).trans hcx⟩; clear hg2 hD2))
    all_goals
      obtain ⟨e1, e2, e3⟩ := hS2
      go_wp2
      go_ret2
      exact ⟨by rw [HE.out]; rfl, HG2.out⟩
  | false =>
    have HE := Lib.hid (acc_ans (l := shs A f ((j : Int) + 1) na) hq)
    go_enter Try.func71, Try.ntmps71
    go_wp2_with fail
    go_region_held3 (fun w' => w'.cell? ⟨w.heap.size, 1, none⟩ = some (.slice a1 n1 c1) ∧ w'.cell? ⟨w.heap.size, 2, none⟩ = some (.slice (some ⟨b, off, none⟩) n2 c2) ∧ w'.cell? ⟨b, off + j, none⟩ = some (.int .i64 (z2 j))) (first | exact hS2 | exact ⟨k1, k2, hcx⟩) ((go_at_call 75; (with_reducible refine (s4fit _ _ _ _ z1 _ _ HA.out (by omega) HK.out HM.out HS.out).mono ?_); rintro e w2 ⟨rfl, hg2⟩; rw [← HF.out, hq]; have HG2 := Lib.hid (gtr HG0.out hg2); have HA2 := Lib.hid (HA.out.kept hg2); have HI2 := Lib.hid (HI.out.kept hg2); have hD2 := Dl.kept (w' := w2) HD.out ⟨hg2.os, hg2.tape, hg2.output, hg2.size, hg2.block⟩; have HD2 := Lib.hid hD2; have hS2 : w2.cell? ⟨w.heap.size, 1, none⟩ = some (.slice a1 n1 c1) ∧ w2.cell? ⟨w.heap.size, 2, none⟩ = some (.slice (some ⟨b, off, none⟩) n2 c2) ∧ w2.cell? ⟨b, off + j, none⟩ = some (.int .i64 (z2 j)) := ⟨hD2.c1, hD2.c2, (World.cell?_of_block (w := (w.alloc (.cells #[.int .i64 f, .slice a1 n1 c1, .slice (some ⟨b, off, none⟩) n2 c2] 91)).drew) (hg2.block b hb (by simp))).trans hcx⟩; clear hg2 hD2))
    all_goals
      clear hS2
      obtain ⟨_, e0, e1, e2⟩ := HD2.out
      go_wp2_with fail
      refine (s12ans _ f _ n1 _ z1 _ _ na _ A _ HA2.out HI2.out hl1 hna HC.out HM.out).mono ?_
      rintro e w3 ⟨rfl, hg3⟩
      have HG3 := Lib.hid (gtr HG2.out hg3); clear hg3
      cases hfd : (shs A f ((j : Int) + 1) na).find? (cfz n1 z1 ((j : Int) + 1)) with
      | none =>
        simp only [accV]
        have HE' := Lib.hid (HE.out.trans hfd)
        clear hfd
        go_wp2
        go_ret2
        exact ⟨by rw [HE'.out]; rfl, HG3.out⟩
      | some s =>
        simp only [accV]
        have HE' := Lib.hid (HE.out.trans hfd)
        clear hfd
        go_wp2
        go_ret2
        exact ⟨by rw [HE'.out]; rfl, HG3.out⟩
set_option maxRecDepth 100000 in
set_option maxHeartbeats 2000000 in
theorem skeygood (w : World) (f : Int) (a1 : Option Addr) (n1 c1 : Nat) (z1 : Nat → Int) (a2 : Option Addr) (n2 c2 : Nat) (z2 : Nat → Int) (a3 : Option Addr) (na ca : Nat) (A : Nat → Ans) (need many : Int) (hA : Ints w a1 n1 z1) (hB : Ints w a2 n2 z2) (hI : AnsIn w a3 na A) (hl1 : n1 ≤ 2000000) (hl2 : n2 ≤ 2000000) (hna : na ≤ 2000000) :
    Calls Try.prog 77 #[.agg #[.int .i64 f, .slice a1 n1 c1, .slice a2 n2 c2], .slice a3 na ca, .int .i64 need, .int .i64 many] w fun e w' => e = .returned (.bool (gdF f n1 z1 n2 z2 A na need many)) ∧ w.grownBy w' none := by
  have HG0 := Lib.hid (Draw.grown_alloc w (.cells #[.int .i64 f, .slice a1 n1 c1, .slice a2 n2 c2] 91) none)
  have HA := Lib.hid (hA.kept HG0.out); have HB := Lib.hid (hB.kept HG0.out); have HI := Lib.hid (hI.kept HG0.out)
  have HD := Lib.hid (Dl.new w f (.slice a1 n1 c1) (.slice a2 n2 c2) 91)
  clear hA hB hI
  cases hp : dlF f n1 z1 n2 z2 need many with
  | false =>
    have HR := Lib.hid (gd_d (A := A) (na := na) hp)
    go_enter Try.func77, Try.ntmps77
    go_wp2_with fail
    refine (sdealok _ f _ _ _ z1 _ _ _ z2 _ _ HA.out HB.out hl1 hl2).mono ?_
    rintro e w1 ⟨rfl, hg⟩
    rw [hp]
    have HG1 := Lib.hid (gtr HG0.out hg); clear hg
    go_wp2
    go_ret
    exact ⟨Mem.ret_b HR.out.symm, HG1.out⟩
  | true =>
    obtain ⟨hf, hcr, hcm, hnm, hok⟩ := dl_iff.1 hp
    have HCM := Lib.hid hcm.2; have HOK := Lib.hid hok; clear hcm hok
    by_cases hfm : f ≤ many
    · have hfm' : ¬ many < f := by omega
      go_enter Try.func77, Try.ntmps77
      go_wp2_with fail
      refine (sdealok _ f _ _ _ z1 _ _ _ z2 _ _ HA.out HB.out hl1 hl2).mono ?_
      rintro e w1 ⟨rfl, hg⟩
      rw [hp]
      have HG1 := Lib.hid (gtr HG0.out hg); have HA1 := Lib.hid (HA.out.kept hg); have HB1 := Lib.hid (HB.out.kept hg); have HD1 := Lib.hid (HD.out.kept hg); have HI1 := Lib.hid (HI.out.kept hg)
      clear hg HA HB HD HI
      obtain ⟨_, k0, k1, k2⟩ := HD1.out
      go_wp2
      go_loopw [9] (fun i wr => ∃ k : Nat, k ≤ n2 ∧ i = .int .i64 ((k : Int) + 1) ∧ accs f n1 z1 z2 A na k = true ∧ w1.grownBy wr none) (fun i _ => n2 + 1 - (intOf i).toNat)
      case atStart => exact ⟨0, by omega, rfl, rfl, Draw.grown_refl _ _⟩
      case round =>
        obtain ⟨k, hk, rfl, hac, hg⟩ := hrel
        have HC := Lib.hid hac; have HGr := Lib.hid hg; clear hac hg k0 k1 k2
        obtain ⟨_, k0, k1, k2⟩ := HD1.out.kept HGr.out
        by_cases hlt : k < n2
        · have hle : (k : Int) + 1 ≤ many := by omega
          cases hq : acc (cfz n1 z1 ((k : Int) + 1)) (z2 k) (shs A f ((k : Int) + 1) na) with
          | none =>
            have HR := Lib.hid (gd_a (n1 := n1) (z1 := z1) (need := need) (many := many) (accs_no hlt hq))
            go_wp2_with fail
            refine (s12share _ f _ n1 _ z1 _ n2 _ z2 _ na _ A k (HA1.out.kept HGr.out) (HB1.out.kept HGr.out) (HI1.out.kept HGr.out) hl1 hna hlt (by omega) HCM.out HOK.out).mono ?_
            rintro e w2 ⟨rfl, hg2⟩
            rw [hq]
            simp only [accV]
            have HG2 := Lib.hid (gtr (gtr HG1.out HGr.out) hg2); clear hg2
            go_wp2
            go_ret
            exact ⟨Mem.ret_b HR.out.symm, HG2.out⟩
          | some s =>
            have HC' := Lib.hid (accs_next HC.out hq)
            go_wp2_with fail
            refine (s12share _ f _ n1 _ z1 _ n2 _ z2 _ na _ A k (HA1.out.kept HGr.out) (HB1.out.kept HGr.out) (HI1.out.kept HGr.out) hl1 hna hlt (by omega) HCM.out HOK.out).mono ?_
            rintro e w2 ⟨rfl, hg2⟩
            rw [hq]
            simp only [accV]
            have HG2 := Lib.hid (gtr HGr.out hg2); clear hg2
            go_wp2
            go_roundw
            case rel => exact ⟨k + 1, by omega, by go_num, HC'.out, HG2.out⟩
            case measure => simp [intOf]; omega
        · obtain rfl : k = n2 := by omega
          have hle : ¬ (k : Int) + 1 ≤ many := by omega
          have HR := Lib.hid (gd_y hp hfm HC.out)
          go_wp2
          go_ret
          exact ⟨Mem.ret_b HR.out.symm, gtr HG1.out HGr.out⟩
    · have HR := Lib.hid (gd_f (f := f) (n1 := n1) (z1 := z1) (n2 := n2) (z2 := z2) (A := A) (na := na) (need := need) hfm)
      have hfm' : many < f := by omega
      go_enter Try.func77, Try.ntmps77
      go_wp2_with fail
      refine (sdealok _ f _ _ _ z1 _ _ _ z2 _ _ HA.out HB.out hl1 hl2).mono ?_
      rintro e w1 ⟨rfl, hg⟩
      rw [hp]
      have HG1 := Lib.hid (gtr HG0.out hg); have HD1 := Lib.hid (HD.out.kept hg); clear hg
      obtain ⟨_, k0, k1, k2⟩ := HD1.out
      go_wp2
      go_ret
      exact ⟨Mem.ret_b HR.out.symm, HG1.out⟩
end Mp
end Go.Proofs.Ytchgjdbmianajaa
