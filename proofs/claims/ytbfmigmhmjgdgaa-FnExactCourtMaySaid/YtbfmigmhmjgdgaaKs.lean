/-
  Whether deals are in order; a member's share of a key: the program's and the model's functions.
-/
import Derived.Test.YtbfmigmhmjgdgaaSk
import Derived.Test.YtbfmigmhmjgdgaaOps
import Derived.Test.YtbfmigmhmjgdgaaPe
import Derived.Test.YtbfmigmhmjgdgaaKc
namespace Go.Proofs.Ytbfmigmhmjgdgaa
namespace Mp
open Go.RowKit Alg Mem Con Me
set_option linter.unusedVariables false

abbrev frm (D : Nat → DV) (j : Nat) : Int := (D j).f
/-- Are the deals in order? -/
def dsF (D : Nat → DV) (n : Nat) : Bool := decide (n ≤ 5) && upz (frm D) n
theorem ds_iff {D : Nat → DV} {n : Nat} : dsF D n = true ↔ n ≤ 5 ∧ upz (frm D) n = true := by simp [dsF]
theorem ds_len {D : Nat → DV} {n : Nat} (h : 5 < n) : dsF D n = false := by simp [dsF]; omega
theorem ds_in {D : Nat → DV} {n : Nat} (h : n ≤ 5) : dsF D n = upz (frm D) n := by simp [dsF, h]
theorem ds_no {D : Nat → DV} {n : Nat} (h : upz (frm D) n = false) : dsF D n = false := by simp [dsF, h]
/-- A member's share behind the first k deals. -/
def ksF (ng : Nat) (zg : Nat → Int) (need many : Int) (D : Nat → DV) (na : Nat) (A : Nat → Ans) (m : Nat) : Nat → Option Int
  | 0 => some 0
  | k + 1 => match ksF ng zg need many D na A m k with
    | none => none
    | some n => if hasz zg (D k).f ng then (if dlF (D k).f (D k).n1 (D k).z1 (D k).n2 (D k).z2 need many then (acc (cfz (D k).n1 (D k).z1 ((m : Int) + 1)) ((D k).z2 m) (shs A (D k).f ((m : Int) + 1) na)).map (sumF n) else none) else some n
section
variable {ng : Nat} {zg : Nat → Int} {need many : Int} {D : Nat → DV} {na : Nat} {A : Nat → Ans} {m k : Nat} {n s : Int}
theorem ks_skip (h : ksF ng zg need many D na A m k = some n) (hh : hasz zg (D k).f ng = false) : ksF ng zg need many D na A m (k + 1) = some n := by simp [ksF, h, hh]
theorem ks_bad (h : ksF ng zg need many D na A m k = some n) (hh : hasz zg (D k).f ng = true) (hd : dlF (D k).f (D k).n1 (D k).z1 (D k).n2 (D k).z2 need many = false) : ksF ng zg need many D na A m (k + 1) = none := by simp [ksF, h, hh, hd]
theorem ks_none (h : ksF ng zg need many D na A m k = some n) (hh : hasz zg (D k).f ng = true) (hd : dlF (D k).f (D k).n1 (D k).z1 (D k).n2 (D k).z2 need many = true) (ha : acc (cfz (D k).n1 (D k).z1 ((m : Int) + 1)) ((D k).z2 m) (shs A (D k).f ((m : Int) + 1) na) = none) : ksF ng zg need many D na A m (k + 1) = none := by simp [ksF, h, hh, hd, ha]
theorem ks_add (h : ksF ng zg need many D na A m k = some n) (hh : hasz zg (D k).f ng = true) (hd : dlF (D k).f (D k).n1 (D k).z1 (D k).n2 (D k).z2 need many = true) (ha : acc (cfz (D k).n1 (D k).z1 ((m : Int) + 1)) ((D k).z2 m) (shs A (D k).f ((m : Int) + 1) na) = some s) : ksF ng zg need many D na A m (k + 1) = some (sumF n s) := by simp [ksF, h, hh, hd, ha]
theorem ks_stop {q : Nat} (h : ksF ng zg need many D na A m k = none) (hk : k ≤ q) : ksF ng zg need many D na A m q = none := by
  induction q with
  | zero => obtain rfl : k = 0 := by omega
            exact h
  | succ q ih =>
    rcases Nat.lt_or_ge q k with h' | h'
    · obtain rfl : k = q + 1 := by omega
      exact h
    · simp [ksF, ih h']
end
/-- A member's share of a key. -/
def kshF (need many : Int) (ng : Nat) (zg : Nat → Int) (nc : Nat) (zc : Nat → Int) (D : Nat → DV) (nd : Nat) (A : Nat → Ans) (na : Nat) (m : Int) : Option Int :=
  if kyF need many ng zg nc zc && (mbF many m && dsF D nd) then ksF ng zg need many D na A (m - 1).toNat nd else none
section
variable {need many : Int} {ng : Nat} {zg : Nat → Int} {nc : Nat} {zc : Nat → Int} {D : Nat → DV} {nd : Nat} {A : Nat → Ans} {na : Nat} {m : Int}
theorem ksh_k (h : kyF need many ng zg nc zc = false) : kshF need many ng zg nc zc D nd A na m = none := by simp [kshF, h]
theorem ksh_m (h : mbF many m = false) : kshF need many ng zg nc zc D nd A na m = none := by simp [kshF, h]
theorem ksh_d (h : dsF D nd = false) : kshF need many ng zg nc zc D nd A na m = none := by simp [kshF, h]
theorem ksh_y {j : Nat} (h1 : kyF need many ng zg nc zc = true) (h2 : mbF many ((j : Int) + 1) = true) (h3 : dsF D nd = true) : kshF need many ng zg nc zc D nd A na ((j : Int) + 1) = ksF ng zg need many D na A j nd := by simp [kshF, h1, h2, h3]
end
end Mp
end Go.Proofs.Ytbfmigmhmjgdgaa
/-
  The words of the exact laws that take a slice of deals: its size, the deals anew, whether two such read alike.
-/

namespace Go.Proofs.Ytbfmigmhmjgdgaa
namespace Mp
open Go.RowKit Alg Mem Con Me
set_option linter.unusedVariables false

/-- The same deals at other addresses. -/
def re (D : Nat → DV) (B1 B2 : Nat → Nat) (j : Nat) : DV := { D j with a1 := some ⟨B1 j, 0, none⟩, c1 := (D j).n1, a2 := some ⟨B2 j, 0, none⟩, c2 := (D j).n2 }
theorem ds_re (D : Nat → DV) (B1 B2 : Nat → Nat) (n : Nat) : dsF (re D B1 B2) n = dsF D n := rfl
theorem ksF_re (ng : Nat) (zg : Nat → Int) (need many : Int) (D : Nat → DV) (B1 B2 : Nat → Nat) (na : Nat) (A : Nat → Ans) (m k : Nat) : ksF ng zg need many (re D B1 B2) na A m k = ksF ng zg need many D na A m k := by
  induction k with
  | zero => rfl
  | succ k ih => simp only [ksF, ih]; rfl
theorem ksh_re (need many : Int) (ng : Nat) (zg : Nat → Int) (nc : Nat) (zc : Nat → Int) (D : Nat → DV) (B1 B2 : Nat → Nat) (nd : Nat) (A : Nat → Ans) (na : Nat) (m : Int) : kshF need many ng zg nc zc (re D B1 B2) nd A na m = kshF need many ng zg nc zc D nd A na m := by
  unfold kshF; rw [ksF_re, ds_re]
theorem ints_keptO {w w' : World} {a : Option Addr} {len B : Nat} {z : Nat → Int} (h : Ints w a len z) (hg : w.grownBy w' (some B)) (hne : ∀ b off, a = some ⟨b, off, none⟩ → b ≠ B) : Ints w' a len z := by
  rcases h with h | ⟨b, off, ha, hl, hc⟩
  · exact .inl h
  · refine .inr ⟨b, off, ha, Nat.lt_of_lt_of_le hl hg.size, fun j hj => ?_⟩
    rw [World.cell?_of_block (w := w) (hg.block b hl (by intro e; injection e with e; exact hne b off ha e))]
    exact hc j hj
def zDl : Tri := (.int .i64 0, .slice none 0 0, .slice none 0 0)
/-- Deals of the call's own. -/
def NewDls (w : World) (n : Nat) (D : Nat → DV) (e : Ending) (w' : World) : Prop :=
  ∃ (b : Nat) (B1 B2 : Nat → Nat), e = .returned (.slice (some ⟨b, 0, none⟩) n n) ∧ DealsIn w' (some ⟨b, 0, none⟩) n (re D B1 B2) ∧ w.grownBy w' none
def upd (B : Nat → Nat) (k b : Nat) (j : Nat) : Nat := if j = k then b else B j
theorem re_upd_old {D : Nat → DV} {B1 B2 : Nat → Nat} {k b1 b2 j : Nat} (h : j ≠ k) : re D (upd B1 k b1) (upd B2 k b2) j = re D B1 B2 j := by simp [re, upd, h]
theorem re_upd_new {D : Nat → DV} {B1 B2 : Nat → Nat} {k b1 b2 : Nat} : re D (upd B1 k b1) (upd B2 k b2) k = { D k with a1 := some ⟨b1, 0, none⟩, c1 := (D k).n1, a2 := some ⟨b2, 0, none⟩, c2 := (D k).n2 } := by simp [re, upd]
end Mp
end Go.Proofs.Ytbfmigmhmjgdgaa
