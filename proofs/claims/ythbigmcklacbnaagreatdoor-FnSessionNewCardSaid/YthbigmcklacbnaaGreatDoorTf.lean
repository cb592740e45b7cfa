/-
  What signers showed in the words of the exact laws: sz, to, eq of such slices; one that came in as an argument.
-/
import Derived.Test.YthbigmcklacbnaaGreatDoorTa
import Derived.Test.YthbigmcklacbnaaGreatDoorSm
namespace Go.Proofs.YthbigmcklacbnaaGreatDoor
namespace Con
open Go.RowKit Alg Mem Draw Hd
set_option linter.unusedVariables false

/-- A slice of the call's own, of structs of four cells. -/
structure Row4 (w : World) (lo : Nat) (T : TypeId) (b n : Nat) (g : Nat → Nat → Value) : Prop where
  from_ : lo ≤ b
  row : w.rowIs b T (n * 4) (fun i => g (i / 4) (i % 4))
theorem Row4.lt {w : World} {lo : Nat} {T : TypeId} {b n : Nat} {g : Nat → Nat → Value} (h : Row4 w lo T b n g) : b < w.heap.size := h.row.lt
theorem Row4.kept {w w' : World} {lo : Nat} {T : TypeId} {b n : Nat} {g : Nat → Nat → Value} {r : Option Nat} (h : Row4 w lo T b n g) (hg : w.grownBy w' r) (hne : some b ≠ r) : Row4 w' lo T b n g := ⟨h.from_, h.row.of_block (hg.block b h.lt hne)⟩
theorem Row4.keptN {w w' : World} {lo : Nat} {T : TypeId} {b n : Nat} {g : Nat → Nat → Value} (h : Row4 w lo T b n g) (hg : w.grownBy w' none) : Row4 w' lo T b n g := h.kept hg (by simp)
theorem Row4.lower {w : World} {lo lo' : Nat} {T : TypeId} {b n : Nat} {g : Nat → Nat → Value} (h : Row4 w lo T b n g) (hl : lo' ≤ lo) : Row4 w lo' T b n g := ⟨by have := h.from_; omega, h.row⟩
theorem Row4.c {w : World} {lo : Nat} {T : TypeId} {b n : Nat} {g : Nat → Nat → Value} (h : Row4 w lo T b n g) {j i : Nat} (hj : j < n) (hi : i < 4) : w.cell? ⟨b, j * 4 + i, none⟩ = some (g j i) := by
  rw [h.row.cell (by omega), show (j * 4 + i) / 4 = j by omega, show (j * 4 + i) % 4 = i by omega]
theorem Row4.free {w : World} {lo : Nat} {T : TypeId} {b n : Nat} {g : Nat → Nat → Value} (h : Row4 w lo T b n g) (i : Nat) : w.frozen? ⟨b, i, none⟩ = false := h.row.frozen i
theorem Row4.congr {w : World} {lo : Nat} {T : TypeId} {b n : Nat} {g g' : Nat → Nat → Value} (h : Row4 w lo T b n g) (e : ∀ j i, j < n → i < 4 → g j i = g' j i) : Row4 w lo T b n g' :=
  ⟨h.from_, h.row.congr fun i hi => e _ _ (by omega) (by omega)⟩
/-- A whole element stored. -/
def set4 (w : World) (b j : Nat) (v : Nat → Value) : World := (((w.setCell ⟨b, j * 4, none⟩ (v 0)).setCell ⟨b, j * 4 + 1, none⟩ (v 1)).setCell ⟨b, j * 4 + 2, none⟩ (v 2)).setCell ⟨b, j * 4 + 3, none⟩ (v 3)
theorem Row4.set {w : World} {lo : Nat} {T : TypeId} {b n : Nat} {g : Nat → Nat → Value} (h : Row4 w lo T b n g) (j : Nat) (v : Nat → Value) : Row4 (set4 w b j v) lo T b n (fun i => if i = j then v else g i) := by
  refine ⟨h.from_, ((((h.row.set (j * 4) (v 0)).set (j * 4 + 1) (v 1)).set (j * 4 + 2) (v 2)).set (j * 4 + 3) (v 3)).congr fun i hi => ?_⟩
  by_cases e : i / 4 = j
  · have e' : (if i / 4 = j then v else g (i / 4)) = v := if_pos e
    rw [e']
    rcases (by omega : i = j * 4 ∨ i = j * 4 + 1 ∨ i = j * 4 + 2 ∨ i = j * 4 + 3) with h0 | h0 | h0 | h0
    · rw [if_neg (by omega), if_neg (by omega), if_neg (by omega), if_pos h0, show i % 4 = 0 by omega]
    · rw [if_neg (by omega), if_neg (by omega), if_pos h0, show i % 4 = 1 by omega]
    · rw [if_neg (by omega), if_pos h0, show i % 4 = 2 by omega]
    · rw [if_pos h0, show i % 4 = 3 by omega]
  · have e' : (if i / 4 = j then v else g (i / 4)) = g (i / 4) := if_neg e
    rw [e', if_neg (by omega), if_neg (by omega), if_neg (by omega), if_neg (by omega)]
theorem set4_grown (w : World) (b j : Nat) (v : Nat → Value) : w.grownBy (set4 w b j v) (some b) :=
  gtr' (gtr' (gtr' (Mem.grown_set w b (j * 4) (v 0)) (Mem.grown_set _ b (j * 4 + 1) (v 1))) (Mem.grown_set _ b (j * 4 + 2) (v 2))) (Mem.grown_set _ b (j * 4 + 3) (v 3))
def zeT (i : Nat) : Value := if i = 2 then .bool false else .int .i64 0
theorem Row4.made (w : World) (T : TypeId) (n : Nat) : Row4 (w.alloc (.cells (madeCells #[.int .i64 0, .int .i64 0, .bool false, .int .i64 0] (n * 4)) T)) w.heap.size T w.heap.size n (fun _ => zeT) := by
  refine ⟨Nat.le_refl _, ?_⟩
  have h := World.rowIs_alloc w (madeCells #[.int .i64 0, .int .i64 0, .bool false, .int .i64 0] (n * 4)) T (fun i => zeT (i % 4)) (by
    intro i hi
    rw [size_madeCells] at hi
    unfold madeCells
    simp only [Array.getElem?_map, Array.getElem?_range, hi, if_true, Option.map_some, List.size_toArray, List.length_cons, List.length_nil]
    rcases (by omega : i % 4 = 0 ∨ i % 4 = 1 ∨ i % 4 = 2 ∨ i % 4 = 3) with e | e | e | e <;> simp [e, zeT])
  rw [size_madeCells] at h
  exact h
def shT (S : Nat → SV) (j i : Nat) : Value := if i = 0 then .int .i64 (S j).m else if i = 1 then .int .i64 (S j).R else if i = 2 then .bool (S j).on else .int .i64 (S j).Z
theorem Row4.sh {w : World} {lo : Nat} {T : TypeId} {b n : Nat} {S : Nat → SV} (h : Row4 w lo T b n (shT S)) : ShIn w (some ⟨b, 0, none⟩) n S := by
  refine .inr ⟨b, 0, rfl, h.lt, fun j hj => ?_⟩
  rw [Nat.zero_add]
  exact ⟨h.c hj (by omega : 0 < 4), h.c hj (by omega : 1 < 4), h.c hj (by omega : 2 < 4), h.c hj (by omega : 3 < 4)⟩
theorem size_shn : (Tryz.prog.info? 35).map (·.size) = some 4 := by kernel_rfl
theorem ret_shn {fn : Func} {p : Tmp} (h : fn.results = #[.cell p 35]) (tmps : Array Value) {w : World} {b : Nat} {v0 v1 v2 v3 : Value} {T : TypeId} (hp : tmps.getD p undef = .pointer (some ⟨b, 0, none⟩)) (hb : Blk w b #[v0, v1, v2, v3] T) :
    (results fn tmps).run Tryz.prog w = .ok (.agg #[v0, v1, v2, v3]) w :=
  results_cell_row h tmps w b T #[v0, v1, v2, v3] (0, 0) _ hp hb Tryz.underlying35 rfl size_shn
theorem run_make4 {P : Program} (t e : TypeId) (z0 z1 z2 z3 : Value) (bytes : Nat) (ht : P.underlying t = some (.slice e)) (hinfo : (P.info? e).map (fun i => (i.zero, i.size, i.bytes)) = some (some (.agg #[z0, z1, z2, z3]), 4, bytes))
    (kl kc : IntKind) (n : Nat) (hbytes : bytes * n ≤ 281474976710656) (h63 : n ≤ 9223372036854775807) (w : World) :
    (Instr.makeSlice t (.int kl (n : Int)) (.int kc (n : Int))).run P w = .ok (.slice (some ⟨w.heap.size, 0, none⟩) n n) (w.alloc (.cells (madeCells #[z0, z1, z2, z3] (n * 4)) e)) := by
  obtain ⟨i, hi, hzz⟩ := Option.map_eq_some_iff.1 hinfo
  simp only [Prod.mk.injEq] at hzz
  obtain ⟨hz, hs, hb⟩ := hzz
  have hb' : (i.bytes : Int) * (n : Int) ≤ 281474976710656 := by
    have h : ((i.bytes * n : Nat) : Int) ≤ 281474976710656 := by rw [hb]; omega
    rwa [Int.natCast_mul] at h
  have hr := run_make (P := P) w t e i _ ht hi hz kl kc n n (by omega) (Int.le_refl _) hb' (by omega)
  simp only [Int.toNat_natCast, hs] at hr
  exact hr
theorem und_shns : Tryz.prog.underlying 28 = some (.slice 35) := by kernel_rfl
theorem info_shn : (Tryz.prog.info? 35).map (fun i => (i.zero, i.size, i.bytes)) = some (some (.agg #[.int .i64 0, .int .i64 0, .bool false, .int .i64 0]), 4, 32) := by kernel_rfl
/-- Such of the call's own. -/
def NewSh (w : World) (n : Nat) (S : Nat → SV) (e : Ending) (w' : World) : Prop :=
  ∃ b : Nat, e = .returned (.slice (some ⟨b, 0, none⟩) n n) ∧ Row4 w' w.heap.size 35 b n (shT S) ∧ w.grownBy w' none
/-- The cells of one. -/
def At4 (w : World) (b o : Nat) (s : SV) : Prop := w.cell? ⟨b, o, none⟩ = some (.int .i64 s.m) ∧ w.cell? ⟨b, o + 1, none⟩ = some (.int .i64 s.R) ∧ w.cell? ⟨b, o + 2, none⟩ = some (.bool s.on) ∧ w.cell? ⟨b, o + 3, none⟩ = some (.int .i64 s.Z)
end Con
end Go.Proofs.YthbigmcklacbnaaGreatDoor
