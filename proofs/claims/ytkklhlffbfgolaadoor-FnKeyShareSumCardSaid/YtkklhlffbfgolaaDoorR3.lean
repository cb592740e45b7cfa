/-
  Slices of structs of three cells in memory: what each element's cells hold; one that a call has made; and the words of the exact laws on answers.
-/
import Derived.Test.YtkklhlffbfgolaaDoorMp
import Derived.Test.YtkklhlffbfgolaaDoorEk
import Derived.Test.YtkklhlffbfgolaaDoorRunKit
import Derived.Deep.RegionHeld3
namespace Go.Proofs.YtkklhlffbfgolaaDoor
namespace Mp
open Go.RowKit Alg Mem Con Me
set_option linter.unusedVariables false

abbrev Tri := Value × Value × Value
def cut3 (g : Nat → Tri) (i : Nat) : Value := if i % 3 = 0 then (g (i / 3)).1 else if i % 3 = 1 then (g (i / 3)).2.1 else (g (i / 3)).2.2
theorem cut3_0 (g : Nat → Tri) (j : Nat) : cut3 g (j * 3) = (g j).1 := by
  unfold cut3; rw [show j * 3 % 3 = 0 by omega, show j * 3 / 3 = j by omega]; rfl
theorem cut3_1 (g : Nat → Tri) (j : Nat) : cut3 g (j * 3 + 1) = (g j).2.1 := by
  unfold cut3; rw [show (j * 3 + 1) % 3 = 1 by omega, show (j * 3 + 1) / 3 = j by omega]; rfl
theorem cut3_2 (g : Nat → Tri) (j : Nat) : cut3 g (j * 3 + 2) = (g j).2.2 := by
  unfold cut3; rw [show (j * 3 + 2) % 3 = 2 by omega, show (j * 3 + 2) / 3 = j by omega]; rfl
/-- A slice of the call's own, of structs of three cells. -/
structure Row3 (w : World) (lo : Nat) (T : TypeId) (b n : Nat) (g : Nat → Tri) : Prop where
  from_ : lo ≤ b
  row : w.rowIs b T (n * 3) (cut3 g)
theorem Row3.lt {w : World} {lo : Nat} {T : TypeId} {b n : Nat} {g : Nat → Tri} (h : Row3 w lo T b n g) : b < w.heap.size := h.row.lt
theorem Row3.kept {w w' : World} {lo : Nat} {T : TypeId} {b n : Nat} {g : Nat → Tri} {r : Option Nat} (h : Row3 w lo T b n g) (hg : w.grownBy w' r) (hne : some b ≠ r) : Row3 w' lo T b n g := ⟨h.from_, h.row.of_block (hg.block b h.lt hne)⟩
theorem Row3.keptN {w w' : World} {lo : Nat} {T : TypeId} {b n : Nat} {g : Nat → Tri} (h : Row3 w lo T b n g) (hg : w.grownBy w' none) : Row3 w' lo T b n g := h.kept hg (by simp)
theorem Row3.lower {w : World} {lo lo' : Nat} {T : TypeId} {b n : Nat} {g : Nat → Tri} (h : Row3 w lo T b n g) (hl : lo' ≤ lo) : Row3 w lo' T b n g := ⟨by have := h.from_; omega, h.row⟩
theorem Row3.c0 {w : World} {lo : Nat} {T : TypeId} {b n : Nat} {g : Nat → Tri} (h : Row3 w lo T b n g) {j : Nat} (hj : j < n) : w.cell? ⟨b, j * 3, none⟩ = some (g j).1 := by rw [h.row.cell (by omega), cut3_0]
theorem Row3.c1 {w : World} {lo : Nat} {T : TypeId} {b n : Nat} {g : Nat → Tri} (h : Row3 w lo T b n g) {j : Nat} (hj : j < n) : w.cell? ⟨b, j * 3 + 1, none⟩ = some (g j).2.1 := by rw [h.row.cell (by omega), cut3_1]
theorem Row3.c2 {w : World} {lo : Nat} {T : TypeId} {b n : Nat} {g : Nat → Tri} (h : Row3 w lo T b n g) {j : Nat} (hj : j < n) : w.cell? ⟨b, j * 3 + 2, none⟩ = some (g j).2.2 := by rw [h.row.cell (by omega), cut3_2]
theorem Row3.free {w : World} {lo : Nat} {T : TypeId} {b n : Nat} {g : Nat → Tri} (h : Row3 w lo T b n g) (i : Nat) : w.frozen? ⟨b, i, none⟩ = false := h.row.frozen i
theorem Row3.congr {w : World} {lo : Nat} {T : TypeId} {b n : Nat} {g g' : Nat → Tri} (h : Row3 w lo T b n g) (e : ∀ j, j < n → g j = g' j) : Row3 w lo T b n g' :=
  ⟨h.from_, h.row.congr fun i hi => by unfold cut3; rw [e (i / 3) (by omega)]⟩
/-- A whole element stored. -/
def set3 (w : World) (b j : Nat) (v : Tri) : World := ((w.setCell ⟨b, j * 3, none⟩ v.1).setCell ⟨b, j * 3 + 1, none⟩ v.2.1).setCell ⟨b, j * 3 + 2, none⟩ v.2.2
theorem Row3.set {w : World} {lo : Nat} {T : TypeId} {b n : Nat} {g : Nat → Tri} (h : Row3 w lo T b n g) (j : Nat) (v : Tri) : Row3 (set3 w b j v) lo T b n (fun i => if i = j then v else g i) := by
  refine ⟨h.from_, (((h.row.set (j * 3) v.1).set (j * 3 + 1) v.2.1).set (j * 3 + 2) v.2.2).congr fun i hi => ?_⟩
  by_cases e : i / 3 = j
  · rcases (by omega : i = j * 3 ∨ i = j * 3 + 1 ∨ i = j * 3 + 2) with rfl | rfl | rfl
    · rw [cut3_0 (fun i => if i = j then v else g i) j]; simp
    · rw [cut3_1 (fun i => if i = j then v else g i) j]; simp
    · rw [cut3_2 (fun i => if i = j then v else g i) j]; simp
  · rw [if_neg (by omega), if_neg (by omega), if_neg (by omega)]
    unfold cut3; simp [e]
theorem set3_grown (w : World) (b j : Nat) (v : Tri) : w.grownBy (set3 w b j v) (some b) := by
  have g0 := Mem.grown_set w b (j * 3) v.1
  have g1 := Con.gtr' g0 (Mem.grown_set _ b (j * 3 + 1) v.2.1)
  exact Con.gtr' g1 (Mem.grown_set _ b (j * 3 + 2) v.2.2)
theorem Row3.made (w : World) (T : TypeId) (n : Nat) (z0 z1 z2 : Value) : Row3 (w.alloc (.cells (madeCells #[z0, z1, z2] (n * 3)) T)) w.heap.size T w.heap.size n (fun _ => (z0, z1, z2)) := by
  refine ⟨Nat.le_refl _, ?_⟩
  have h := World.rowIs_alloc w (madeCells #[z0, z1, z2] (n * 3)) T (cut3 fun _ => (z0, z1, z2)) (by
    intro i hi
    rw [size_madeCells] at hi
    unfold madeCells cut3
    simp only [Array.getElem?_map, Array.getElem?_range, hi, if_true, Option.map_some, List.size_toArray, List.length_cons, List.length_nil]
    rcases (by omega : i % 3 = 0 ∨ i % 3 = 1 ∨ i % 3 = 2) with e | e | e <;> simp [e])
  rw [size_madeCells] at h
  exact h

def ansT (A : Nat → Ans) (j : Nat) : Tri := (.int .i64 (A j).f, .int .i64 (A j).t, .int .i64 (A j).s)
theorem Row3.ans {w : World} {lo : Nat} {T : TypeId} {b n : Nat} {A : Nat → Ans} (h : Row3 w lo T b n (ansT A)) : AnsIn w (some ⟨b, 0, none⟩) n A := by
  refine .inr ⟨b, 0, rfl, h.lt, fun j hj => ?_⟩
  rw [Nat.zero_add]
  exact ⟨h.c0 hj, h.c1 hj, h.c2 hj⟩
theorem size_ans : (Tryd.prog.info? 77).map (·.size) = some 3 := by kernel_rfl
theorem ret_ans {fn : Func} {p : Tmp} (h : fn.results = #[.cell p 77]) (tmps : Array Value) {w : World} {b : Nat} {v0 v1 v2 : Value} {T : TypeId} (hp : tmps.getD p undef = .pointer (some ⟨b, 0, none⟩)) (hb : Blk w b #[v0, v1, v2] T) :
    (results fn tmps).run Tryd.prog w = .ok (.agg #[v0, v1, v2]) w :=
  results_cell_row h tmps w b T #[v0, v1, v2] (0, 0) _ hp hb Tryd.underlying77 rfl size_ans
theorem run_make3 {P : Program} (t e : TypeId) (z0 z1 z2 : Value) (bytes : Nat) (ht : P.underlying t = some (.slice e)) (hinfo : (P.info? e).map (fun i => (i.zero, i.size, i.bytes)) = some (some (.agg #[z0, z1, z2]), 3, bytes))
    (kl kc : IntKind) (n : Nat) (hbytes : bytes * n ≤ 281474976710656) (h63 : n ≤ 9223372036854775807) (w : World) :
    (Instr.makeSlice t (.int kl (n : Int)) (.int kc (n : Int))).run P w = .ok (.slice (some ⟨w.heap.size, 0, none⟩) n n) (w.alloc (.cells (madeCells #[z0, z1, z2] (n * 3)) e)) := by
  obtain ⟨i, hi, hzz⟩ := Option.map_eq_some_iff.1 hinfo
  simp only [Prod.mk.injEq] at hzz
  obtain ⟨hz, hs, hb⟩ := hzz
  have hb' : (i.bytes : Int) * (n : Int) ≤ 281474976710656 := by
    have h : ((i.bytes * n : Nat) : Int) ≤ 281474976710656 := by rw [hb]; omega
    rwa [Int.natCast_mul] at h
  have hr := run_make (P := P) w t e i _ ht hi hz kl kc n n (by omega) (Int.le_refl _) hb' (by omega)
  simp only [Int.toNat_natCast, hs] at hr
  exact hr
theorem und_anss : Tryd.prog.underlying 27 = some (.slice 77) := by kernel_rfl
theorem info_ans : (Tryd.prog.info? 77).map (fun i => (i.zero, i.size, i.bytes)) = some (some (.agg #[.int .i64 0, .int .i64 0, .int .i64 0]), 3, 24) := by kernel_rfl
/-- Answers of the call's own. -/
def NewAns (w : World) (n : Nat) (A : Nat → Ans) (e : Ending) (w' : World) : Prop :=
  ∃ b : Nat, e = .returned (.slice (some ⟨b, 0, none⟩) n n) ∧ Row3 w' w.heap.size 77 b n (ansT A) ∧ w.grownBy w' none
end Mp
end Go.Proofs.YtkklhlffbfgolaaDoor
