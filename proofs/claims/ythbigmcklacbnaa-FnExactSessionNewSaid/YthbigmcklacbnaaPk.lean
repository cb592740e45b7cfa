/-
  The model's sum of two polynomials, and its factors of places.
-/
import Derived.Test.YthbigmcklacbnaaPe
import Derived.Test.YthbigmcklacbnaaPg
import Derived.Test.YthbigmcklacbnaaPh
import Derived.Test.YthbigmcklacbnaaMem
import Derived.Deep.QuietTactic
import Derived.BigQuiet
namespace Go.Proofs.Ythbigmcklacbnaa
namespace Con
open Go.RowKit Alg Mem Pol
set_option linter.unusedVariables false

theorem zsum_right {la lb : Nat} {za zb : Nat → Int} {j : Nat} (ha : la ≤ j) (hb : j < lb) (hf : fok (zb j) = true) : zsum la za lb zb j = zb j := by
  rw [zsum_comm]; exact zsum_left hb ha hf
theorem sum_zero_left {b : Int} (hb : fok b = true) : sumF 0 b = b := by
  rw [sumF_in rfl hb]; have := fok_iff.1 hb; omega

/-- The model's factor, of the first k places. -/
def sp (z : Nat → Int) (x : F) (i : Nat) : Nat → F
  | 0 => 1
  | k + 1 => if k = i then sp z x i k else sp z x i k * ((x - cv (z k)) * inv (cv (z i) - cv (z k)))
theorem sp_own (z : Nat → Int) (x : F) (i : Nat) : sp z x i (i + 1) = sp z x i i := if_pos rfl
theorem sp_next (z : Nat → Int) (x : F) {i k : Nat} (h : ¬ k = i) : sp z x i (k + 1) = sp z x i k * ((x - cv (z k)) * inv (cv (z i) - cv (z k))) := if_neg h
theorem sp_oth (z : Nat → Int) (x : F) (i k : Nat) : sp z x i k = prd (oth z i k) x * inv (prd (oth z i k) (cv (z i))) := by
  induction k with
  | zero => simp only [sp, oth, prd]; rw [show inv (1 : F) = 1 from by decide +kernel]; grind
  | succ k ih =>
    by_cases e : k = i
    · subst e; rw [sp_own, oth_own, ih]
    · rw [sp_next z x e, oth_next z e, ih, prd_append, prd_append, Pol.inv_mul]
      simp only [prd]
      rw [show (cv (z i) - cv (z k)) * 1 = cv (z i) - cv (z k) from by grind]
      grind
theorem sp_lag (z : Nat → Int) (x : F) {i len : Nat} (h : i < len) : sp z x i len = lag (fl z len) i x := by
  rw [sp_oth, oth_erase z i len h]; unfold lag; rw [fl_getD z h]
/-- The factors' numbers. -/
def zline (len : Nat) (z : Nat → Int) (x : Int) (i : Nat) : Int := fi (lag (fl z len) i (cv x))
end Con
end Go.Proofs.Ythbigmcklacbnaa
/-
  The factors of places, the program's and the model's, at every argument.
-/

namespace Go.Proofs.Ythbigmcklacbnaa
namespace Con
open Go.RowKit Alg Mem Pol
set_option linter.unusedVariables false

theorem plok_apart {len : Nat} {z : Nat → Int} (h : plok len z = true) : ∀ i j, i < len → j < len → i ≠ j → z i ≠ z j := by
  have h2 := (plok_iff.1 h).2
  intro i j hi hj hij e
  rcases Nat.lt_or_gt_of_ne hij with h | h
  · exact hasz_no.1 (h2 j hj).2 i h e
  · exact hasz_no.1 (h2 i hi).2 j h e.symm
theorem mem_oth {z : Nat → Int} {i k : Nat} {x : F} (h : x ∈ oth z i k) : ∃ j, j < k ∧ j ≠ i ∧ x = cv (z j) := by
  induction k with
  | zero => cases h
  | succ k ih =>
    by_cases e : k = i
    · subst e; rw [oth_own] at h
      obtain ⟨j, hj, hne, hx⟩ := ih h
      exact ⟨j, by omega, hne, hx⟩
    · rw [oth_next z e] at h
      rcases List.mem_append.1 h with h | h
      · obtain ⟨j, hj, hne, hx⟩ := ih h
        exact ⟨j, by omega, hne, hx⟩
      · exact ⟨k, by omega, e, by simpa using h⟩
theorem prd_own_ne {len : Nat} {z : Nat → Int} (h : plok len z = true) {i : Nat} (hi : i < len) : prd ((fl z len).eraseIdx i) (cv (z i)) ≠ 0 := by
  rw [← oth_erase z i len hi]
  apply prd_ne
  intro hm
  obtain ⟨j, hj, hne, hx⟩ := mem_oth hm
  have h2 := (plok_iff.1 h).2
  exact plok_apart h i j hi hj (fun e => hne e.symm) ((cv_inj (h2 i hi).1 (h2 j hj).1).1 hx)
theorem fl_nodup {len : Nat} {z : Nat → Int} (h : plok len z = true) : (fl z len).Nodup := by
  have h2 := (plok_iff.1 h).2
  rw [List.nodup_iff_pairwise_ne, List.pairwise_iff_getElem]
  intro i j hi hj hij
  rw [fl_length] at hi hj
  rw [fl_get z hi, fl_get z hj]
  intro e
  exact plok_apart h i j hi hj (by omega) ((cv_inj (h2 i hi).1 (h2 j hj).1).1 e)

end Con
end Go.Proofs.Ythbigmcklacbnaa
/-
  Sums number by number, and the value of a polynomial by as many values as it has numbers.
-/

namespace Go.Proofs.Ythbigmcklacbnaa
namespace Ln
open Go.RowKit Alg Mem Con
set_option linter.unusedVariables false

/-- A sum, number by number. -/
def psum (f : Nat → Pol.F) : Nat → Pol.F
  | 0 => 0
  | k + 1 => psum f k + f k
theorem acc_snoc (g : Pol.F → Pol.F) (us bs : List Pol.F) (u b : Pol.F) (h : us.length = bs.length) : Pol.acc g (us ++ [u]) (bs ++ [b]) = Pol.acc g us bs + u * g b := by
  induction us generalizing bs with
  | nil =>
    cases bs with
    | nil => simp only [List.nil_append, Pol.acc]; grind
    | cons b' bs => simp at h
  | cons v us ih => cases bs with
    | nil => simp at h
    | cons b' bs => simp only [List.cons_append, Pol.acc, ih bs (by simpa using h)]; grind
theorem acc_psum (g : Pol.F → Pol.F) (u v : Nat → Pol.F) (n : Nat) : Pol.acc g ((List.range n).map u) ((List.range n).map v) = psum (fun j => u j * g (v j)) n := by
  induction n with
  | zero => rfl
  | succ n ih =>
    rw [List.range_succ, List.map_append, List.map_append, List.map_singleton, List.map_singleton, acc_snoc _ _ _ _ _ (by simp), ih]; rfl
theorem line_range (z : Nat → Int) (n : Nat) (x : Pol.F) : Pol.ws (fl z n) x = (List.range n).map fun i => Pol.lag (fl z n) i x := by
  rw [← Pol.line_ws]; unfold Pol.line; rw [fl_length]
theorem fl_ne {z : Nat → Int} {n : Nat} (h : 1 ≤ n) : fl z n ≠ [] := by
  intro e; have := congrArg List.length e; rw [fl_length] at this; simp at this; omega
theorem line_value {n : Nat} {z : Nat → Int} {p : List Pol.F} {x : Int} (hp : plok n z = true) (hn : 1 ≤ n) (hl : p.length ≤ n) : psum (fun j => Pol.lag (fl z n) j (Pol.cv x) * Pol.ev p (Pol.cv (z j))) n = Pol.ev p (Pol.cv x) := by
  have h := Pol.interp (fl z n) p (Pol.cv x) (fl_nodup hp) (fl_ne hn) (by rw [fl_length]; exact hl)
  rw [line_range] at h
  rw [← h]
  exact (acc_psum (Pol.ev p) (fun i => Pol.lag (fl z n) i (Pol.cv x)) (fun j => Pol.cv (z j)) n).symm
/-- Places one behind the other, turned. -/
def turn (k m : Nat) (j : Nat) : Int := (((k + j) % m : Nat) : Int) + 1
theorem turn_ok {k m n : Nat} (hm1 : 1 ≤ m) (hm5 : m ≤ 5) (hn : n ≤ m) : plok n (turn k m) = true := by
  refine plok_iff.2 ⟨by omega, fun j hj => ⟨?_, hasz_no.2 fun i hi => ?_⟩⟩
  · unfold turn
    have := Nat.mod_lt (k + j) (show 0 < m by omega)
    exact fok_mk (by omega) (by omega)
  · unfold turn
    rcases (by omega : m = 1 ∨ m = 2 ∨ m = 3 ∨ m = 4 ∨ m = 5) with rfl | rfl | rfl | rfl | rfl <;> omega
end Ln
end Go.Proofs.Ythbigmcklacbnaa
