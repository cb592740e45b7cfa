/-
  The words of the exact laws that take a slice of deals: its size, the deals anew, whether two such read alike.
-/
import Derived.Test.YtkklhlffbfgolaaDoorKs
import Derived.Test.YtkklhlffbfgolaaDoorKc
namespace Go.Proofs.YtkklhlffbfgolaaDoor
namespace Mp
open Go.RowKit Alg Mem Con Me
set_option linter.unusedVariables false

/-- The same deals at other addresses. -/
def re (D : Nat → DV) (B1 B2 : Nat → Nat) (j : Nat) : DV := { D j with a1 := some ⟨B1 j, 0, none⟩, c1 := (D j).n1, a2 := some ⟨B2 j, 0, none⟩, c2 := (D j).n2 }
theorem ds_re (D : Nat → DV) (B1 B2 : Nat → Nat) (n : Nat) : dsF (re D B1 B2) n = dsF D n := rfl
theorem ksF_re (ng : Nat) (zg : Nat → Int) (need many : Int) (D : Nat → DV) (B1 B2 : Nat → Nat) (na : Nat) (A : Nat → Ans) (m k : Nat) : ksF ng zg need many (re D B1 B2) na A m k = ksF ng zg need many D na A m k := by
  induction k with
  | zero => rfl
  | succ k ih => simp only [ksF, ih]; rfl
theorem ksh_re (need many : Int) (ng : Nat) (zg : Nat → Int) (nc : Nat) (zc : Nat → Int) (D : Nat → DV) (B1 B2 : Nat → Nat) (nd : Nat) (A : Nat → Ans) (na : Nat) (m : Int) : kshF need many ng zg nc zc (re D B1 B2) nd A na m = kshF need many ng zg nc zc D nd A na m := by
  unfold kshF; rw [ksF_re, ds_re]
theorem ints_keptO {w w' : World} {a : Option Addr} {len B : Nat} {z : Nat → Int} (h : Ints w a len z) (hg : w.grownBy w' (some B)) (hne : ∀ b off, a = some ⟨b, off, none⟩ → b ≠ B) : Ints w' a len z := by
  rcases h with h | ⟨b, off, ha, hl, hc⟩
  · exact .inl h
  · refine .inr ⟨b, off, ha, Nat.lt_of_lt_of_le hl hg.size, fun j hj => ?_⟩
    rw [World.cell?_of_block (w := w) (hg.block b hl (by intro e; injection e with e; exact hne b off ha e))]
    exact hc j hj
theorem und_dls : Tryd.prog.underlying 26 = some (.slice 34) := by kernel_rfl
theorem info_dl : (Tryd.prog.info? 34).map (fun i => (i.zero, i.size, i.bytes)) = some (some (.agg #[.int .i64 0, .slice none 0 0, .slice none 0 0]), 3, 56) := by kernel_rfl
def zDl : Tri := (.int .i64 0, .slice none 0 0, .slice none 0 0)
/-- Deals of the call's own. -/
def NewDls (w : World) (n : Nat) (D : Nat → DV) (e : Ending) (w' : World) : Prop :=
  ∃ (b : Nat) (B1 B2 : Nat → Nat), e = .returned (.slice (some ⟨b, 0, none⟩) n n) ∧ DealsIn w' (some ⟨b, 0, none⟩) n (re D B1 B2) ∧ w.grownBy w' none
def upd (B : Nat → Nat) (k b : Nat) (j : Nat) : Nat := if j = k then b else B j
theorem re_upd_old {D : Nat → DV} {B1 B2 : Nat → Nat} {k b1 b2 j : Nat} (h : j ≠ k) : re D (upd B1 k b1) (upd B2 k b2) j = re D B1 B2 j := by simp [re, upd, h]
theorem re_upd_new {D : Nat → DV} {B1 B2 : Nat → Nat} {k b1 b2 : Nat} : re D (upd B1 k b1) (upd B2 k b2) k = { D k with a1 := some ⟨b1, 0, none⟩, c1 := (D k).n1, a2 := some ⟨b2, 0, none⟩, c2 := (D k).n2 } := by simp [re, upd]
end Mp
end Go.Proofs.YtkklhlffbfgolaaDoor
