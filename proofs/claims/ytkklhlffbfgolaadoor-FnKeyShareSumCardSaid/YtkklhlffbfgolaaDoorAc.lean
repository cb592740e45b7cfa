/-
  Which share a member accepts of a deal; whether a deal counts: the program's functions, at every deal and all answers.
-/
import Derived.Test.YtkklhlffbfgolaaDoorMp
import Derived.Test.YtkklhlffbfgolaaDoorDk
import Derived.Maps.OwnOps
import Derived.Deep.RegionHeld3
namespace Go.Proofs.YtkklhlffbfgolaaDoor
namespace Mp
open Go.RowKit Alg Mem Con Me
set_option linter.unusedVariables false

/-- The share that a member accepts: the dealt one, if it fits, or else the first answered one that does. -/
def acc (g : Int → Bool) (s : Int) (l : List Int) : Option Int := if g s then some s else l.find? g
theorem acc_dealt {g : Int → Bool} {s : Int} {l : List Int} (h : g s = true) : acc g s l = some s := by simp [acc, h]
theorem acc_ans {g : Int → Bool} {s : Int} {l : List Int} (h : g s = false) : acc g s l = l.find? g := by simp [acc, h]
def accV : Option Int → Value
  | some s => .tuple #[.int .i64 s, .bool true]
  | none => .tuple #[.int .i64 0, .bool false]
theorem find_at {g : Int → Bool} : ∀ {l : List Int} {k : Nat}, (∀ j, j < k → g (li l j) = false) → k < l.length → g (li l k) = true → l.find? g = some (li l k)
  | [], k, _, h, _ => by simp at h
  | x :: r, 0, _, _, hg => by
    have : g x = true := by simpa [li] using hg
    simp [this, li]
  | x :: r, k + 1, hn, hk, hg => by
    have h0 : g x = false := by simpa [li] using hn 0 (by omega)
    have := find_at (g := g) (l := r) (k := k) (fun j hj => by simpa [li] using hn (j + 1) (by omega)) (by simpa using hk) (by simpa [li] using hg)
    rw [List.find?_cons, h0]
    simpa [li] using this
theorem find_no {g : Int → Bool} {l : List Int} (h : ∀ j, j < l.length → g (li l j) = false) : l.find? g = none := by
  rw [List.find?_eq_none]
  intro x hx
  obtain ⟨j, hj, rfl⟩ := List.getElem_of_mem hx
  have := h j hj
  simp [li, hj] at this
  simp [this]
theorem own_ints {w : World} {base : Nat} {e : TypeId} {v : Value} {zs : List Int} (h : w.ownsInts base e .i64 v zs) : ∃ a c, v = .slice a zs.length c ∧ Ints w a zs.length (li zs) := by
  by_cases h0 : zs.length = 0
  · rcases h.1.2 with ⟨rfl, _⟩ | ⟨g, cap, cur, rfl, _⟩
    · exact ⟨none, 0, by rw [h0], .inl h0⟩
    · exact ⟨_, cap, rfl, .inl h0⟩
  · obtain ⟨b, cap, rfl, hr⟩ := row_of_owns (z := li zs) h.1 (by omega) (fun j hj => by simp [li, hj])
    exact ⟨_, cap, rfl, hr.ints⟩
theorem wf_small {n : Int} (h : 0 ≤ n) (h' : n ≤ 1000) : wf n = true := WalkArith.wf_i64 (by omega)

set_option maxRecDepth 100000 in
set_option maxHeartbeats 2000000 in
theorem iacc (w : World) (p : Value) (A : Nat → Ans) (na : Nat) (f : Int) (a1 : Option Addr) (n1 c1 : Nat) (z1 : Nat → Int) (a2 : Option Addr) (n2 c2 : Nat) (z2 : Nat → Int) (j : Nat) (hP : Pub w p A na) (hna : na ≤ 2000000) (hA : Ints w a1 n1 z1) (hB : Ints w a2 n2 z2) (hl1 : n1 ≤ 2000000) (hj : j < n2) (hn5 : n2 ≤ 5) (hf : 0 ≤ f ∧ f ≤ 5) :
    Calls Tryd.prog 27 #[p, .agg #[.int .i64 f, .slice a1 n1 c1, .slice a2 n2 c2], .int .i64 ((j : Int) + 1)] w fun e w' => e = .returned (accV (acc (cfz n1 z1 ((j : Int) + 1)) (z2 j) (shs A f ((j : Int) + 1) na))) ∧ w.grownBy w' none := by
  obtain ⟨bp, base, D, rfl, hO, hR⟩ := hP
  have HG0 := Lib.hid (Draw.grown_alloc w (.cells #[.int .i64 f, .slice a1 n1 c1, .slice a2 n2 c2] 34) none)
  have HO := Lib.hid (groups_kept hO HG0.out)
  have HA := Lib.hid (hA.kept HG0.out); have HB := Lib.hid (hB.kept HG0.out)
  have HD := Lib.hid (Dl.new w f (.slice a1 n1 c1) (.slice a2 n2 c2) 34)
  clear hA hB hO
  have hwf : wf f = true := wf_small hf.1 (by omega)
  have hwm : wf ((j : Int) + 1) = true := wf_small (by omega) (by omega)
  have HKY := Lib.hid (hkeyC hwf hwm)
  have HR := Lib.hid (hR _ _ hwf hwm)
  have hll := shs_len A f ((j : Int) + 1) na
  clear hR hwf hwm
  generalize shs A f ((j : Int) + 1) na = L at HR hll ⊢
  obtain ⟨b, off, rfl, hb, hcc⟩ := HB.out.ptr (by omega)
  have hcx := hcc j hj
  have hsub : ((j : Int) + 1 - 1) = (j : Int) := by omega
  clear hcc
  obtain ⟨_, k0, k1, k2⟩ := HD.out
  cases hq : cfz n1 z1 ((j : Int) + 1) (z2 j) with
  | true =>
    have HE := Lib.hid (acc_dealt (l := L) hq)
    go_enter Tryd.func27, Tryd.ntmps27
    go_wp2_with fail
    refine (icfit _ _ _ _ z1 _ _ HA.out (by omega)).mono ?_
    rintro e w1 ⟨rfl, hg⟩
    rw [hq]
    have HG1 := Lib.hid (gtr HG0.out hg); clear hg
    go_wp2
    go_ret2
    exact ⟨by rw [HE.out]; rfl, HG1.out⟩
  | false =>
    have HE := Lib.hid (acc_ans (l := L) hq)
    go_enter Tryd.func27, Tryd.ntmps27
    go_wp2_with fail
    refine (icfit _ _ _ _ z1 _ _ HA.out (by omega)).mono ?_
    rintro e w1 ⟨rfl, hg⟩
    rw [hq]
    have HG1 := Lib.hid (gtr HG0.out hg); have HO1 := Lib.hid (groups_kept HO.out hg); have HA1 := Lib.hid (HA.out.kept hg); have HD1 := Lib.hid (HD.out.kept hg)
    clear hg k0 k1 k2 HO HD HA
    obtain ⟨_, k0, k1, k2⟩ := HD1.out
    go_wp2_with (first
      | (at_lookup; refine wpList_lookup_groups _ rfl _ _ 50 rfl 79 23 3 .i64 keyedC und_map (zeroI _) base bp na _ rfl HO1.out (by unfold maxLen; omega) _ _ rfl HKY.out ?_; intro v zs hat hoi hzl _; obtain rfl := (reads_eq HR.out hoi hat).symm; obtain ⟨av, cv, rfl, hI⟩ := own_ints hoi; have HI := Lib.hid hI; clear hat hoi hI hzl)
      | go_in)
    go_loopw [30] (fun i wr => ∃ k : Nat, k ≤ L.length ∧ i = .int .i64 k ∧ (∀ q, q < k → cfz n1 z1 ((j : Int) + 1) (li L q) = false) ∧ w1.grownBy wr none) (fun i _ => L.length - (intOf i).toNat)
    case atStart => exact ⟨0, by omega, rfl, fun q hq => by omega, Draw.grown_refl _ _⟩
    case round =>
      obtain ⟨k, hk, rfl, hno, hg⟩ := hrel
      have HN := Lib.hid hno; have HGr := Lib.hid hg; clear hno hg k0 k1 k2
      obtain ⟨_, k0, k1, k2⟩ := HD1.out.kept HGr.out
      by_cases hlt : k < L.length
      · obtain ⟨b', off', rfl, hb', hcc⟩ := (HI.out.kept HGr.out).ptr (by omega)
        have hcy := hcc k hlt
        clear hcc
        cases hf' : cfz n1 z1 ((j : Int) + 1) (li L k) with
        | true =>
          have HR' := Lib.hid (HE.out.trans (find_at HN.out hlt hf'))
          go_wp2_with fail
          refine (icfit _ _ _ _ z1 _ _ (HA1.out.kept HGr.out) (by omega)).mono ?_
          rintro e w2 ⟨rfl, hg2⟩
          rw [hf']
          have HG2 := Lib.hid (gtr (gtr HG1.out HGr.out) hg2); clear hg2
          go_wp2
          go_ret2
          exact ⟨by rw [HR'.out]; rfl, HG2.out⟩
        | false =>
          have HN' := Lib.hid (show ∀ q, q < k + 1 → cfz n1 z1 ((j : Int) + 1) (li L q) = false from fun q hq => by
            rcases Nat.lt_or_ge q k with h | h
            · exact HN.out q h
            · obtain rfl : q = k := by omega
              exact hf')
          go_wp2_with fail
          refine (icfit _ _ _ _ z1 _ _ (HA1.out.kept HGr.out) (by omega)).mono ?_
          rintro e w2 ⟨rfl, hg2⟩
          rw [hf']
          have HG2 := Lib.hid (gtr HGr.out hg2); clear hg2
          go_wp2
          go_roundw
          case rel => exact ⟨k + 1, by omega, by go_num, HN'.out, HG2.out⟩
          case measure => simp [intOf]; omega
      · obtain rfl : k = L.length := by omega
        have HR' := Lib.hid (HE.out.trans (find_no HN.out))
        go_wp2
        go_ret2
        exact ⟨by rw [HR'.out]; rfl, gtr HG1.out HGr.out⟩
/-- Do the first k members accept a share? -/
def accs (f : Int) (n1 : Nat) (z1 : Nat → Int) (z2 : Nat → Int) (A : Nat → Ans) (na : Nat) : Nat → Bool
  | 0 => true
  | k + 1 => accs f n1 z1 z2 A na k && (acc (cfz n1 z1 ((k : Int) + 1)) (z2 k) (shs A f ((k : Int) + 1) na)).isSome
theorem accs_iff {f : Int} {n1 : Nat} {z1 z2 : Nat → Int} {A : Nat → Ans} {na k : Nat} : accs f n1 z1 z2 A na k = true ↔ ∀ j, j < k → (acc (cfz n1 z1 ((j : Int) + 1)) (z2 j) (shs A f ((j : Int) + 1) na)).isSome = true := by
  induction k with
  | zero => simp [accs]
  | succ k ih =>
    simp only [accs, Bool.and_eq_true, ih]
    exact ⟨fun h j hj => by rcases Nat.lt_or_ge j k with h' | h'; exact h.1 j h'; obtain rfl : j = k := by omega
                            exact h.2, fun h => ⟨fun j hj => h j (by omega), h k (by omega)⟩⟩
theorem accs_no {f : Int} {n1 : Nat} {z1 z2 : Nat → Int} {A : Nat → Ans} {na k m : Nat} (hk : k < m) (h : acc (cfz n1 z1 ((k : Int) + 1)) (z2 k) (shs A f ((k : Int) + 1) na) = none) : accs f n1 z1 z2 A na m = false := by
  cases h' : accs f n1 z1 z2 A na m with
  | false => rfl
  | true => have := accs_iff.1 h' k hk; rw [h] at this; cases this
theorem accs_next {f : Int} {n1 : Nat} {z1 z2 : Nat → Int} {A : Nat → Ans} {na k : Nat} {s : Int} (h : accs f n1 z1 z2 A na k = true) (hs : acc (cfz n1 z1 ((k : Int) + 1)) (z2 k) (shs A f ((k : Int) + 1) na) = some s) : accs f n1 z1 z2 A na (k + 1) = true := by simp [accs, h, hs]
/-- Does a deal count? -/
def gdF (f : Int) (n1 : Nat) (z1 : Nat → Int) (n2 : Nat) (z2 : Nat → Int) (A : Nat → Ans) (na : Nat) (need many : Int) : Bool := dlF f n1 z1 n2 z2 need many && (decide (f ≤ many) && accs f n1 z1 z2 A na n2)
section
variable {f : Int} {n1 : Nat} {z1 : Nat → Int} {n2 : Nat} {z2 : Nat → Int} {A : Nat → Ans} {na : Nat} {need many : Int}
theorem gd_iff : gdF f n1 z1 n2 z2 A na need many = true ↔ dlF f n1 z1 n2 z2 need many = true ∧ f ≤ many ∧ accs f n1 z1 z2 A na n2 = true := by simp [gdF]
theorem gd_d (h : dlF f n1 z1 n2 z2 need many = false) : gdF f n1 z1 n2 z2 A na need many = false := by simp [gdF, h]
theorem gd_f (h : ¬ f ≤ many) : gdF f n1 z1 n2 z2 A na need many = false := by simp [gdF, h]
theorem gd_a (h : accs f n1 z1 z2 A na n2 = false) : gdF f n1 z1 n2 z2 A na need many = false := by simp [gdF, h]
theorem gd_y (h : dlF f n1 z1 n2 z2 need many = true) (h2 : f ≤ many) (h3 : accs f n1 z1 z2 A na n2 = true) : gdF f n1 z1 n2 z2 A na need many = true := by simp [gdF, h, h2, h3]
end
end Mp
end Go.Proofs.YtkklhlffbfgolaaDoor
