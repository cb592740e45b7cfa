/-
  errors.Is by its contracts, where the target is the program's own error value: the value itself is found, no error is not.
-/
import Derived.Test.YtchgjdbmianajaaMem
import Derived.Test.YtchgjdbmianajaaChecked
import Derived.WalkKit
import Derived.LaidEql
import Derived.Stop.Asserts
import Derived.RowKitTokens
import Derived.Test.YtchgjdbmianajaaDa
import Derived.Test.YtchgjdbmianajaaCe
import Derived.Deep.RegionWith
namespace Go.Proofs.Ytchgjdbmianajaa
namespace Con
open Go.RowKit Go.Extern.Stop Go.Stop Go.Extern Mem
set_option linter.unusedVariables false

end Con
end Go.Proofs.Ytchgjdbmianajaa
/-
  Which deals are well formed: the program's and the model's functions, at every deal.
-/

namespace Go.Proofs.Ytchgjdbmianajaa
namespace Con
open Go.RowKit Alg Mem
set_option linter.unusedVariables false

def deF (f : Int) : Bool := decide (1 ≤ f ∧ f ≤ 5)
def shF (m : Int) (n : Nat) (z : Nat → Int) : Bool := decide ((n : Int) = m) && okz z n
def coF (m : Int) (n : Nat) (z : Nat → Int) : Bool := decide ((n : Int) = m) && cokz n z
/-- Is the deal well formed? -/
def dlF (f : Int) (n1 : Nat) (z1 : Nat → Int) (n2 : Nat) (z2 : Nat → Int) (need many : Int) : Bool := deF f && crewF need many && coF need n1 z1 && shF many n2 z2
theorem dl_iff {f : Int} {n1 : Nat} {z1 : Nat → Int} {n2 : Nat} {z2 : Nat → Int} {need many : Int} :
    dlF f n1 z1 n2 z2 need many = true ↔ (1 ≤ f ∧ f ≤ 5) ∧ (1 ≤ need ∧ need ≤ many ∧ many ≤ 5) ∧ ((n1 : Int) = need ∧ cokz n1 z1 = true) ∧ ((n2 : Int) = many ∧ okz z2 n2 = true) := by
  unfold dlF deF coF shF; simp only [Bool.and_eq_true, decide_eq_true_eq, crew_iff, and_assoc]
theorem dl_d {f : Int} {n1 : Nat} {z1 : Nat → Int} {n2 : Nat} {z2 : Nat → Int} {need many : Int} (h : deF f = false) : dlF f n1 z1 n2 z2 need many = false := by simp [dlF, h]
theorem dl_c {f : Int} {n1 : Nat} {z1 : Nat → Int} {n2 : Nat} {z2 : Nat → Int} {need many : Int} (h : crewF need many = false) : dlF f n1 z1 n2 z2 need many = false := by simp [dlF, h]
theorem dl_n {f : Int} {n1 : Nat} {z1 : Nat → Int} {n2 : Nat} {z2 : Nat → Int} {need many : Int} (h : ¬ (n1 : Int) = need) : dlF f n1 z1 n2 z2 need many = false := by simp [dlF, coF, h]
theorem dl_k {f : Int} {n1 : Nat} {z1 : Nat → Int} {n2 : Nat} {z2 : Nat → Int} {need many : Int} (h : cokz n1 z1 = false) : dlF f n1 z1 n2 z2 need many = false := by simp [dlF, coF, h]
theorem dl_s {f : Int} {n1 : Nat} {z1 : Nat → Int} {n2 : Nat} {z2 : Nat → Int} {need many : Int} (h : shF many n2 z2 = false) : dlF f n1 z1 n2 z2 need many = false := by simp [dlF, h]
theorem dl_yes {f : Int} {n1 : Nat} {z1 : Nat → Int} {n2 : Nat} {z2 : Nat → Int} {need many : Int} (h1 : deF f = true) (h2 : crewF need many = true) (h3 : (n1 : Int) = need) (h4 : cokz n1 z1 = true) (h5 : shF many n2 z2 = true) : dlF f n1 z1 n2 z2 need many = true := by simp [dlF, coF, h1, h2, h3, h4, h5]

/-- A deal that lies in memory. -/
structure Dl (w : World) (b : Nat) (f : Int) (s1 s2 : Value) : Prop where
  lt : b < w.heap.size
  c0 : w.cell? ⟨b, 0, none⟩ = some (.int .i64 f)
  c1 : w.cell? ⟨b, 1, none⟩ = some s1
  c2 : w.cell? ⟨b, 2, none⟩ = some s2
theorem Dl.new (w : World) (f : Int) (s1 s2 : Value) (T : TypeId) : Dl (w.alloc (.cells #[.int .i64 f, s1, s2] T)) w.heap.size f s1 s2 := by
  have hb : (w.alloc (.cells #[.int .i64 f, s1, s2] T)).heap[w.heap.size]? = some (.cells #[.int .i64 f, s1, s2] T) := by show (w.heap.push _)[w.heap.size]? = _; simp
  exact ⟨by show _ < (w.heap.push _).size; simp, by simp only [World.cell?, hb]; rfl, by simp only [World.cell?, hb]; rfl, by simp only [World.cell?, hb]; rfl⟩
theorem grown_alloc_drew (w : World) (o : Obj) : w.grownBy (w.alloc o).drew none := ⟨rfl, rfl, rfl, (Draw.grown_alloc w o none).size, (Draw.grown_alloc w o none).block⟩
theorem Dl.kept {w w' : World} {b : Nat} {f : Int} {s1 s2 : Value} (h : Dl w b f s1 s2) (hg : w.grownBy w' none) : Dl w' b f s1 s2 := by
  have hb := hg.block b h.lt (by simp)
  exact ⟨Nat.lt_of_lt_of_le h.lt hg.size, by rw [World.cell?_of_block (w := w) hb]; exact h.c0, by rw [World.cell?_of_block (w := w) hb]; exact h.c1, by rw [World.cell?_of_block (w := w) hb]; exact h.c2⟩
end Con
end Go.Proofs.Ytchgjdbmianajaa
