/-
  The model's sum of two polynomials, and its factors of places.
-/
import Derived.Test.YthbigmcklacbnaaGreatDoorPe
import Derived.Test.YthbigmcklacbnaaGreatDoorPg
import Derived.Test.YthbigmcklacbnaaGreatDoorPh
import Derived.Test.YthbigmcklacbnaaGreatDoorMem
import Derived.Deep.QuietTactic
import Derived.BigQuiet
namespace Go.Proofs.YthbigmcklacbnaaGreatDoor
namespace Con
open Go.RowKit Alg Mem Pol
set_option linter.unusedVariables false

theorem zsum_right {la lb : Nat} {za zb : Nat → Int} {j : Nat} (ha : la ≤ j) (hb : j < lb) (hf : fok (zb j) = true) : zsum la za lb zb j = zb j := by
  rw [zsum_comm]; exact zsum_left hb ha hf
theorem sum_zero_left {b : Int} (hb : fok b = true) : sumF 0 b = b := by
  rw [sumF_in rfl hb]; have := fok_iff.1 hb; omega

/-- The model's factor, of the first k places. -/
def sp (z : Nat → Int) (x : F) (i : Nat) : Nat → F
  | 0 => 1
  | k + 1 => if k = i then sp z x i k else sp z x i k * ((x - cv (z k)) * inv (cv (z i) - cv (z k)))
theorem sp_own (z : Nat → Int) (x : F) (i : Nat) : sp z x i (i + 1) = sp z x i i := if_pos rfl
theorem sp_next (z : Nat → Int) (x : F) {i k : Nat} (h : ¬ k = i) : sp z x i (k + 1) = sp z x i k * ((x - cv (z k)) * inv (cv (z i) - cv (z k))) := if_neg h
theorem sp_oth (z : Nat → Int) (x : F) (i k : Nat) : sp z x i k = prd (oth z i k) x * inv (prd (oth z i k) (cv (z i))) := by
  induction k with
  | zero => simp only [sp, oth, prd]; rw [show inv (1 : F) = 1 from by decide +kernel]; grind
  | succ k ih =>
    by_cases e : k = i
    · subst e; rw [sp_own, oth_own, ih]
    · rw [sp_next z x e, oth_next z e, ih, prd_append, prd_append, Pol.inv_mul]
      simp only [prd]
      rw [show (cv (z i) - cv (z k)) * 1 = cv (z i) - cv (z k) from by grind]
      grind
theorem sp_lag (z : Nat → Int) (x : F) {i len : Nat} (h : i < len) : sp z x i len = lag (fl z len) i x := by
  rw [sp_oth, oth_erase z i len h]; unfold lag; rw [fl_getD z h]
/-- The factors' numbers. -/
def zline (len : Nat) (z : Nat → Int) (x : Int) (i : Nat) : Int := fi (lag (fl z len) i (cv x))
end Con
end Go.Proofs.YthbigmcklacbnaaGreatDoor
/-
  The factors of places, the program's and the model's, at every argument.
-/

namespace Go.Proofs.YthbigmcklacbnaaGreatDoor
namespace Con
open Go.RowKit Alg Mem Pol
set_option linter.unusedVariables false

theorem plok_apart {len : Nat} {z : Nat → Int} (h : plok len z = true) : ∀ i j, i < len → j < len → i ≠ j → z i ≠ z j := by
  have h2 := (plok_iff.1 h).2
  intro i j hi hj hij e
  rcases Nat.lt_or_gt_of_ne hij with h | h
  · exact hasz_no.1 (h2 j hj).2 i h e
  · exact hasz_no.1 (h2 i hi).2 j h e.symm
theorem mem_oth {z : Nat → Int} {i k : Nat} {x : F} (h : x ∈ oth z i k) : ∃ j, j < k ∧ j ≠ i ∧ x = cv (z j) := by
  induction k with
  | zero => cases h
  | succ k ih =>
    by_cases e : k = i
    · subst e; rw [oth_own] at h
      obtain ⟨j, hj, hne, hx⟩ := ih h
      exact ⟨j, by omega, hne, hx⟩
    · rw [oth_next z e] at h
      rcases List.mem_append.1 h with h | h
      · obtain ⟨j, hj, hne, hx⟩ := ih h
        exact ⟨j, by omega, hne, hx⟩
      · exact ⟨k, by omega, e, by simpa using h⟩
theorem prd_own_ne {len : Nat} {z : Nat → Int} (h : plok len z = true) {i : Nat} (hi : i < len) : prd ((fl z len).eraseIdx i) (cv (z i)) ≠ 0 := by
  rw [← oth_erase z i len hi]
  apply prd_ne
  intro hm
  obtain ⟨j, hj, hne, hx⟩ := mem_oth hm
  have h2 := (plok_iff.1 h).2
  exact plok_apart h i j hi hj (fun e => hne e.symm) ((cv_inj (h2 i hi).1 (h2 j hj).1).1 hx)
theorem fl_nodup {len : Nat} {z : Nat → Int} (h : plok len z = true) : (fl z len).Nodup := by
  have h2 := (plok_iff.1 h).2
  rw [List.nodup_iff_pairwise_ne, List.pairwise_iff_getElem]
  intro i j hi hj hij
  rw [fl_length] at hi hj
  rw [fl_get z hi, fl_get z hj]
  intro e
  exact plok_apart h i j hi hj (by omega) ((cv_inj (h2 i hi).1 (h2 j hj).1).1 e)

theorem ipline_no (w : World) (a : Option Addr) (len cap : Nat) (z : Nat → Int) (x : Int) (hI : Ints w a len z) (hl : len ≤ 2000000) (hc : len ≤ cap) (hm : cap ≤ maxLen) (h : plok len z = false ∨ fok x = false) :
    Calls Tryz.prog 98 #[.slice a len cap, .int .i64 x] w fun e w' => e = .returned (.slice none 0 0) ∧ w = w' := by
  have HI := Lib.hid hI; clear hI
  cases hp : plok len z with
  | false =>
    clear h
    go_enter Tryz.func98, Tryz.ntmps98
    go_wp2_with fail
    refine (iplok _ _ _ _ z HI.out (by omega) hc hm).mono ?_
    rintro e w1 ⟨rfl, rfl⟩
    go_wp2
    go_ret
    exact ⟨rfl, rfl⟩
  | true =>
    have hx : fok x = false := by rcases h with h | h; rw [hp] at h; cases h; exact h
    clear h
    go_enter Tryz.func98, Tryz.ntmps98
    go_wp2_with fail
    refine (iplok _ _ _ _ z HI.out (by omega) hc hm).mono ?_
    rintro e w1 ⟨rfl, rfl⟩
    go_wp2_with fail
    refine (iok_no _ _ hx).mono ?_
    rintro e w' ⟨rfl, rfl⟩
    go_wp2
    go_ret
    exact ⟨rfl, rfl⟩
theorem ipline_yes (w : World) (a : Option Addr) (len cap : Nat) (z : Nat → Int) (x : Int) (hI : Ints w a len z) (hc : len ≤ cap) (hm : cap ≤ maxLen) (hp : plok len z = true) (hx : fok x = true) :
    Calls Tryz.prog 98 #[.slice a len cap, .int .i64 x] w (NewRow 3 w len (zline len z x)) := by
  have HI := Lib.hid hI; clear hI
  have HP := Lib.hid hp; have HX := Lib.hid hx
  have hl := (plok_iff.1 hp).1
  have hmk := run_make_row' (P := Tryz.prog) 23 3 (.int .i64 0) 8 und_ints info_int rfl .i64 .i64 len (by omega) (by omega)
  go_enter Tryz.func98, Tryz.ntmps98
  go_wp2_with fail
  refine (iplok _ _ _ _ z HI.out (by omega) hc hm).mono ?_
  rintro e w1 ⟨rfl, rfl⟩
  go_wp2_with fail
  refine (iok_yes _ _ hx).mono ?_
  rintro e w' ⟨rfl, rfl⟩
  go_wp2_with fail
  refine (conv_ie _ _ _ _ z HI.out (by omega)).mono ?_
  rintro e w1 ⟨b1, rfl, hr, hg⟩
  have HR := Lib.hid hr; have HG1 := Lib.hid hg; clear hr hg
  clear hp hx
  go_wp2
  go_loopw [23] (fun i wr => ∃ k : Nat, k ≤ len ∧ i = .int .i64 k ∧ Row wr w1.heap.size 3 w1.heap.size len len (fun j => if j < k then zline len z x j else 0) ∧ w1.grownBy wr none) (fun i _ => len - (intOf i).toNat)
  case atStart => exact ⟨0, by omega, rfl, first_row w1 _ _ (by unfold maxLen; omega) _, Draw.grown_alloc _ _ _⟩
  case round =>
    clear hmk
    obtain ⟨k, hk, rfl, hr, hg⟩ := hrel
    have HG := Lib.hid hg; have HW := Lib.hid hr; clear hg hr
    by_cases hlt : k < len
    · go_wp2_with fail
      refine (lagr _ _ _ _ k z x (HR.out.ints.kept HG.out) (by omega) hlt (fun j hj => ((plok_iff.1 HP.out).2 j hj).1) HX.out (prd_own_ne HP.out hlt)).mono ?_
      rintro e w2 ⟨rfl, hg2⟩
      have HG2 := Lib.hid hg2; clear hg2
      have hr2 := HW.out.keptN HG2.out
      have c0 := zero_row hr2 hlt
      have f0 := hr2.frozen k
      have HS := Lib.hid (step_row hr2)
      clear hr2
      go_wp2
      go_roundw
      case rel => exact ⟨k + 1, by omega, by go_num, HS.out, grown_new (gtr HG.out HG2.out) (Nat.le_refl _) (grown_set _ _ _ _)⟩
      case measure => simp [intOf]; omega
    · obtain rfl : k = len := by omega
      have HF := Lib.hid (full_row HW.out)
      go_wp2
      go_ret
      exact ⟨_, rfl, HF.out.lower HG1.out.size, gtr HG1.out HG.out⟩
end Con
end Go.Proofs.YthbigmcklacbnaaGreatDoor
/-
  Sums number by number, and the value of a polynomial by as many values as it has numbers.
-/

namespace Go.Proofs.YthbigmcklacbnaaGreatDoor
namespace Ln
open Go.RowKit Alg Mem Con
set_option linter.unusedVariables false

/-- A sum, number by number. -/
def psum (f : Nat → Pol.F) : Nat → Pol.F
  | 0 => 0
  | k + 1 => psum f k + f k
theorem acc_snoc (g : Pol.F → Pol.F) (us bs : List Pol.F) (u b : Pol.F) (h : us.length = bs.length) : Pol.acc g (us ++ [u]) (bs ++ [b]) = Pol.acc g us bs + u * g b := by
  induction us generalizing bs with
  | nil =>
    cases bs with
    | nil => simp only [List.nil_append, Pol.acc]; grind
    | cons b' bs => simp at h
  | cons v us ih => cases bs with
    | nil => simp at h
    | cons b' bs => simp only [List.cons_append, Pol.acc, ih bs (by simpa using h)]; grind
theorem acc_psum (g : Pol.F → Pol.F) (u v : Nat → Pol.F) (n : Nat) : Pol.acc g ((List.range n).map u) ((List.range n).map v) = psum (fun j => u j * g (v j)) n := by
  induction n with
  | zero => rfl
  | succ n ih =>
    rw [List.range_succ, List.map_append, List.map_append, List.map_singleton, List.map_singleton, acc_snoc _ _ _ _ _ (by simp), ih]; rfl
theorem line_range (z : Nat → Int) (n : Nat) (x : Pol.F) : Pol.ws (fl z n) x = (List.range n).map fun i => Pol.lag (fl z n) i x := by
  rw [← Pol.line_ws]; unfold Pol.line; rw [fl_length]
theorem fl_ne {z : Nat → Int} {n : Nat} (h : 1 ≤ n) : fl z n ≠ [] := by
  intro e; have := congrArg List.length e; rw [fl_length] at this; simp at this; omega
theorem line_value {n : Nat} {z : Nat → Int} {p : List Pol.F} {x : Int} (hp : plok n z = true) (hn : 1 ≤ n) (hl : p.length ≤ n) : psum (fun j => Pol.lag (fl z n) j (Pol.cv x) * Pol.ev p (Pol.cv (z j))) n = Pol.ev p (Pol.cv x) := by
  have h := Pol.interp (fl z n) p (Pol.cv x) (fl_nodup hp) (fl_ne hn) (by rw [fl_length]; exact hl)
  rw [line_range] at h
  rw [← h]
  exact (acc_psum (Pol.ev p) (fun i => Pol.lag (fl z n) i (Pol.cv x)) (fun j => Pol.cv (z j)) n).symm
theorem q_isum {a b : Int} {w : World} {n : Nat} : Calls Tryz.prog 24 #[.int .i64 a, .int .i64 b] (w.drewN n) fun e w'' => e = .returned (.int .i64 (sumF a b)) ∧ ∃ m, w'' = w.drewN m :=
  Calls.quiet_of_same ((isum a b _).mono fun _ _ h => ⟨h.1, h.2.symm⟩)
theorem q_imul {a b : Int} {w : World} {n : Nat} : Calls Tryz.prog 94 #[.int .i64 a, .int .i64 b] (w.drewN n) fun e w'' => e = .returned (.int .i64 (mulF a b)) ∧ ∃ m, w'' = w.drewN m :=
  Calls.quiet_of_same ((imul a b _).mono fun _ _ h => ⟨h.1, h.2.symm⟩)
/-- Places one behind the other, turned. -/
def turn (k m : Nat) (j : Nat) : Int := (((k + j) % m : Nat) : Int) + 1
theorem turn_ok {k m n : Nat} (hm1 : 1 ≤ m) (hm5 : m ≤ 5) (hn : n ≤ m) : plok n (turn k m) = true := by
  refine plok_iff.2 ⟨by omega, fun j hj => ⟨?_, hasz_no.2 fun i hi => ?_⟩⟩
  · unfold turn
    have := Nat.mod_lt (k + j) (show 0 < m by omega)
    exact fok_mk (by omega) (by omega)
  · unfold turn
    rcases (by omega : m = 1 ∨ m = 2 ∨ m = 3 ∨ m = 4 ∨ m = 5) with rfl | rfl | rfl | rfl | rfl <;> omega
end Ln
end Go.Proofs.YthbigmcklacbnaaGreatDoor
