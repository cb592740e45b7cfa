/-
  Slices of structs of three cells in memory: what each element's cells hold; one that a call has made; and the words of the exact laws on answers.
-/
import Derived.Test.YtchgjdbmianajaaMp
import Derived.Test.YtchgjdbmianajaaDo
import Derived.Test.YtchgjdbmianajaaMem
import Derived.Deep.RegionHeld3
import Derived.Deep.Slices
namespace Go.Proofs.Ytchgjdbmianajaa
namespace Mp
open Go.RowKit Alg Mem Con Me
set_option linter.unusedVariables false

abbrev Tri := Value × Value × Value
def cut3 (g : Nat → Tri) (i : Nat) : Value := if i % 3 = 0 then (g (i / 3)).1 else if i % 3 = 1 then (g (i / 3)).2.1 else (g (i / 3)).2.2
theorem cut3_0 (g : Nat → Tri) (j : Nat) : cut3 g (j * 3) = (g j).1 := by
  unfold cut3; rw [show j * 3 % 3 = 0 by omega, show j * 3 / 3 = j by omega]; rfl
theorem cut3_1 (g : Nat → Tri) (j : Nat) : cut3 g (j * 3 + 1) = (g j).2.1 := by
  unfold cut3; rw [show (j * 3 + 1) % 3 = 1 by omega, show (j * 3 + 1) / 3 = j by omega]; rfl
theorem cut3_2 (g : Nat → Tri) (j : Nat) : cut3 g (j * 3 + 2) = (g j).2.2 := by
  unfold cut3; rw [show (j * 3 + 2) % 3 = 2 by omega, show (j * 3 + 2) / 3 = j by omega]; rfl
/-- A slice of the call's own, of structs of three cells. -/
structure Row3 (w : World) (lo : Nat) (T : TypeId) (b n : Nat) (g : Nat → Tri) : Prop where
  from_ : lo ≤ b
  row : w.rowIs b T (n * 3) (cut3 g)
theorem Row3.lt {w : World} {lo : Nat} {T : TypeId} {b n : Nat} {g : Nat → Tri} (h : Row3 w lo T b n g) : b < w.heap.size := h.row.lt
theorem Row3.kept {w w' : World} {lo : Nat} {T : TypeId} {b n : Nat} {g : Nat → Tri} {r : Option Nat} (h : Row3 w lo T b n g) (hg : w.grownBy w' r) (hne : some b ≠ r) : Row3 w' lo T b n g := ⟨h.from_, h.row.of_block (hg.block b h.lt hne)⟩
theorem Row3.keptN {w w' : World} {lo : Nat} {T : TypeId} {b n : Nat} {g : Nat → Tri} (h : Row3 w lo T b n g) (hg : w.grownBy w' none) : Row3 w' lo T b n g := h.kept hg (by simp)
theorem Row3.lower {w : World} {lo lo' : Nat} {T : TypeId} {b n : Nat} {g : Nat → Tri} (h : Row3 w lo T b n g) (hl : lo' ≤ lo) : Row3 w lo' T b n g := ⟨by have := h.from_; omega, h.row⟩
theorem Row3.c0 {w : World} {lo : Nat} {T : TypeId} {b n : Nat} {g : Nat → Tri} (h : Row3 w lo T b n g) {j : Nat} (hj : j < n) : w.cell? ⟨b, j * 3, none⟩ = some (g j).1 := by rw [h.row.cell (by omega), cut3_0]
theorem Row3.c1 {w : World} {lo : Nat} {T : TypeId} {b n : Nat} {g : Nat → Tri} (h : Row3 w lo T b n g) {j : Nat} (hj : j < n) : w.cell? ⟨b, j * 3 + 1, none⟩ = some (g j).2.1 := by rw [h.row.cell (by omega), cut3_1]
theorem Row3.c2 {w : World} {lo : Nat} {T : TypeId} {b n : Nat} {g : Nat → Tri} (h : Row3 w lo T b n g) {j : Nat} (hj : j < n) : w.cell? ⟨b, j * 3 + 2, none⟩ = some (g j).2.2 := by rw [h.row.cell (by omega), cut3_2]
theorem Row3.free {w : World} {lo : Nat} {T : TypeId} {b n : Nat} {g : Nat → Tri} (h : Row3 w lo T b n g) (i : Nat) : w.frozen? ⟨b, i, none⟩ = false := h.row.frozen i
theorem Row3.congr {w : World} {lo : Nat} {T : TypeId} {b n : Nat} {g g' : Nat → Tri} (h : Row3 w lo T b n g) (e : ∀ j, j < n → g j = g' j) : Row3 w lo T b n g' :=
  ⟨h.from_, h.row.congr fun i hi => by unfold cut3; rw [e (i / 3) (by omega)]⟩
/-- A whole element stored. -/
def set3 (w : World) (b j : Nat) (v : Tri) : World := ((w.setCell ⟨b, j * 3, none⟩ v.1).setCell ⟨b, j * 3 + 1, none⟩ v.2.1).setCell ⟨b, j * 3 + 2, none⟩ v.2.2
theorem Row3.set {w : World} {lo : Nat} {T : TypeId} {b n : Nat} {g : Nat → Tri} (h : Row3 w lo T b n g) (j : Nat) (v : Tri) : Row3 (set3 w b j v) lo T b n (fun i => if i = j then v else g i) := by
  refine ⟨h.from_, (((h.row.set (j * 3) v.1).set (j * 3 + 1) v.2.1).set (j * 3 + 2) v.2.2).congr fun i hi => ?_⟩
  by_cases e : i / 3 = j
  · rcases (by omega : i = j * 3 ∨ i = j * 3 + 1 ∨ i = j * 3 + 2) with rfl | rfl | rfl
    · rw [cut3_0 (fun i => if i = j then v else g i) j]; simp
    · rw [cut3_1 (fun i => if i = j then v else g i) j]; simp
    · rw [cut3_2 (fun i => if i = j then v else g i) j]; simp
  · rw [if_neg (by omega), if_neg (by omega), if_neg (by omega)]
    unfold cut3; simp [e]
theorem set3_grown (w : World) (b j : Nat) (v : Tri) : w.grownBy (set3 w b j v) (some b) := by
  have g0 := Mem.grown_set w b (j * 3) v.1
  have g1 := Con.gtr' g0 (Mem.grown_set _ b (j * 3 + 1) v.2.1)
  exact Con.gtr' g1 (Mem.grown_set _ b (j * 3 + 2) v.2.2)
theorem Row3.made (w : World) (T : TypeId) (n : Nat) (z0 z1 z2 : Value) : Row3 (w.alloc (.cells (madeCells #[z0, z1, z2] (n * 3)) T)) w.heap.size T w.heap.size n (fun _ => (z0, z1, z2)) := by
  refine ⟨Nat.le_refl _, ?_⟩
  have h := World.rowIs_alloc w (madeCells #[z0, z1, z2] (n * 3)) T (cut3 fun _ => (z0, z1, z2)) (by
    intro i hi
    rw [size_madeCells] at hi
    unfold madeCells cut3
    simp only [Array.getElem?_map, Array.getElem?_range, hi, if_true, Option.map_some, List.size_toArray, List.length_cons, List.length_nil]
    rcases (by omega : i % 3 = 0 ∨ i % 3 = 1 ∨ i % 3 = 2) with e | e | e <;> simp [e])
  rw [size_madeCells] at h
  exact h

def ansT (A : Nat → Ans) (j : Nat) : Tri := (.int .i64 (A j).f, .int .i64 (A j).t, .int .i64 (A j).s)
theorem Row3.ans {w : World} {lo : Nat} {T : TypeId} {b n : Nat} {A : Nat → Ans} (h : Row3 w lo T b n (ansT A)) : AnsIn w (some ⟨b, 0, none⟩) n A := by
  refine .inr ⟨b, 0, rfl, h.lt, fun j hj => ?_⟩
  rw [Nat.zero_add]
  exact ⟨h.c0 hj, h.c1 hj, h.c2 hj⟩
theorem size_ans : (Try.prog.info? 102).map (·.size) = some 3 := by kernel_rfl
theorem ret_ans {fn : Func} {p : Tmp} (h : fn.results = #[.cell p 102]) (tmps : Array Value) {w : World} {b : Nat} {v0 v1 v2 : Value} {T : TypeId} (hp : tmps.getD p undef = .pointer (some ⟨b, 0, none⟩)) (hb : Blk w b #[v0, v1, v2] T) :
    (results fn tmps).run Try.prog w = .ok (.agg #[v0, v1, v2]) w :=
  results_cell_row h tmps w b T #[v0, v1, v2] (0, 0) _ hp hb Try.underlying102 rfl size_ans
theorem run_make3 {P : Program} (t e : TypeId) (z0 z1 z2 : Value) (bytes : Nat) (ht : P.underlying t = some (.slice e)) (hinfo : (P.info? e).map (fun i => (i.zero, i.size, i.bytes)) = some (some (.agg #[z0, z1, z2]), 3, bytes))
    (kl kc : IntKind) (n : Nat) (hbytes : bytes * n ≤ 281474976710656) (h63 : n ≤ 9223372036854775807) (w : World) :
    (Instr.makeSlice t (.int kl (n : Int)) (.int kc (n : Int))).run P w = .ok (.slice (some ⟨w.heap.size, 0, none⟩) n n) (w.alloc (.cells (madeCells #[z0, z1, z2] (n * 3)) e)) := by
  obtain ⟨i, hi, hzz⟩ := Option.map_eq_some_iff.1 hinfo
  simp only [Prod.mk.injEq] at hzz
  obtain ⟨hz, hs, hb⟩ := hzz
  have hb' : (i.bytes : Int) * (n : Int) ≤ 281474976710656 := by
    have h : ((i.bytes * n : Nat) : Int) ≤ 281474976710656 := by rw [hb]; omega
    rwa [Int.natCast_mul] at h
  have hr := run_make (P := P) w t e i _ ht hi hz kl kc n n (by omega) (Int.le_refl _) hb' (by omega)
  simp only [Int.toNat_natCast, hs] at hr
  exact hr
theorem und_anss : Try.prog.underlying 79 = some (.slice 102) := by kernel_rfl
theorem info_ans : (Try.prog.info? 102).map (fun i => (i.zero, i.size, i.bytes)) = some (some (.agg #[.int .i64 0, .int .i64 0, .int .i64 0]), 3, 24) := by kernel_rfl
/-- Answers of the call's own. -/
def NewAns (w : World) (n : Nat) (A : Nat → Ans) (e : Ending) (w' : World) : Prop :=
  ∃ b : Nat, e = .returned (.slice (some ⟨b, 0, none⟩) n n) ∧ Row3 w' w.heap.size 102 b n (ansT A) ∧ w.grownBy w' none
end Mp
end Go.Proofs.Ytchgjdbmianajaa
/-
  What a slice of answers, and a slice of deals, that came in as an argument is.
-/

namespace Go.Proofs.Ytchgjdbmianajaa
namespace Mp
open Go.RowKit Mem Con
set_option linter.unusedVariables false
/-- Deals. -/
structure DV where
  f : Int
  a1 : Option Addr
  n1 : Nat
  c1 : Nat
  z1 : Nat → Int
  a2 : Option Addr
  n2 : Nat
  c2 : Nat
  z2 : Nat → Int
def dlT (D : Nat → DV) (j : Nat) : Tri := (.int .i64 (D j).f, .slice (D j).a1 (D j).n1 (D j).c1, .slice (D j).a2 (D j).n2 (D j).c2)
/-- A deal's two rows. -/
structure Rows2 (w : World) (d : DV) : Prop where
  i1 : Ints w d.a1 d.n1 d.z1
  i2 : Ints w d.a2 d.n2 d.z2
theorem Rows2.kept {w w' : World} {d : DV} (h : Rows2 w d) (hg : w.grownBy w' none) : Rows2 w' d := ⟨h.i1.kept hg, h.i2.kept hg⟩
/-- Deals in memory. -/
def DealsIn (w : World) (a : Option Addr) (len : Nat) (D : Nat → DV) : Prop :=
  len = 0 ∨ ∃ b off, a = some ⟨b, off, none⟩ ∧ b < w.heap.size ∧ ∀ j, j < len → (w.cell? ⟨b, off + j * 3, none⟩ = some (.int .i64 (D j).f) ∧ w.cell? ⟨b, off + j * 3 + 1, none⟩ = some (.slice (D j).a1 (D j).n1 (D j).c1) ∧ w.cell? ⟨b, off + j * 3 + 2, none⟩ = some (.slice (D j).a2 (D j).n2 (D j).c2)) ∧ Rows2 w (D j)
theorem DealsIn.kept {w w' : World} {a : Option Addr} {len : Nat} {D : Nat → DV} (h : DealsIn w a len D) (hg : w.grownBy w' none) : DealsIn w' a len D := by
  rcases h with h | ⟨b, off, ha, hl, hc⟩
  · exact .inl h
  · have hb := hg.block b hl (by simp)
    refine .inr ⟨b, off, ha, Nat.lt_of_lt_of_le hl hg.size, fun j hj => ?_⟩
    obtain ⟨⟨h0, h1, h2⟩, hr⟩ := hc j hj
    exact ⟨⟨(World.cell?_of_block hb).trans h0, (World.cell?_of_block hb).trans h1, (World.cell?_of_block hb).trans h2⟩, hr.kept hg⟩
end Mp
namespace Op
open Go.ChangeShapes Go.WideShapes Go.ChangeAt Go.RowKit Go.Joins Mem Mp Go.Deep
set_option linter.unusedVariables false

section
variable {H : Type} {enc : TypeId × Value → H} {P : Program} {w : World} {base : Nat} {spare : Nat → Bool} {held : Bool}
theorem open_tri {t e : TypeId} {f0 f1 f2 : Field} {fuel : Nat} {cs : List Value} {x : DataW H × List MemPlace} (ht : P.underlying t = some (.slice e)) (he : P.underlying e = some (.struct #[f0, f1, f2]))
    (ce : P.cellsOf e = 3) (o0 : f0.offset = 0) (o1 : f1.offset = 1) (o2 : f2.offset = 2) (c0 : P.cellsOf f0.type = 1) (c1 : P.cellsOf f1.type = 1) (c2 : P.cellsOf f2.type = 1)
    (h : DataW.trod enc P w base spare held fuel t cs = some x) :
    (∃ a len cap, cs = [.slice a len cap] ∧ len = 0 ∧ cap ≤ maxLen) ∨ ∃ b off len cap n, cs = [.slice (some ⟨b, off, none⟩) len cap] ∧ len ≤ cap ∧ cap ≤ maxLen ∧ b < w.heap.size ∧
      ∀ j, j < len → ∃ (v0 v1 v2 : Value) (y0 y1 y2 : DataW H × List MemPlace), (w.cell? ⟨b, off + j * 3, none⟩ = some v0 ∧ w.cell? ⟨b, off + j * 3 + 1, none⟩ = some v1 ∧ w.cell? ⟨b, off + j * 3 + 2, none⟩ = some v2) ∧
        DataW.trod enc P w base spare held n f0.type [v0] = some y0 ∧ DataW.trod enc P w base spare held n f1.type [v1] = some y1 ∧ DataW.trod enc P w base spare held n f2.type [v2] = some y2 := by
  rcases open_slice ht h with ⟨h0, _⟩ | ⟨a, len, cap, m, n, D, Pl, rfl, hb, hl, hm, hmm, _, hx⟩
  · exact .inl ⟨none, 0, 0, h0, rfl, Nat.zero_le _⟩
  by_cases hz : len = 0
  · exact .inl ⟨_, _, _, rfl, hz, hm⟩
  right
  have hlm : len ≤ m := by rw [hmm]; split <;> omega
  have each : ∀ i, i < m → ∃ (v0 v1 v2 : Value) (y0 y1 y2 : DataW H × List MemPlace), (w.cell? (a.add (i * 3)) = some v0 ∧ w.cell? (a.add (i * 3 + 1)) = some v1 ∧ w.cell? (a.add (i * 3 + 2)) = some v2) ∧
        DataW.trod enc P w base spare held (n - 1) f0.type [v0] = some y0 ∧ DataW.trod enc P w base spare held (n - 1) f1.type [v1] = some y1 ∧ DataW.trod enc P w base spare held (n - 1) f2.type [v2] = some y2 := by
    intro i hi
    obtain ⟨cs', h1, h2⟩ := hx i hi
    rw [ce] at h1
    obtain ⟨_, hlen, hcell⟩ := World.cells?_some h1
    obtain ⟨xs, k, hk, hxy, _, hxl, hf⟩ := DataW.trod_struct he h2
    have hk' : k = n - 1 := by omega
    subst hk'
    match xs, hxl, cs', hlen with
    | [y0, y1, y2], _, [v0, v1, v2], _ =>
      have g0 := hf 0 f0 rfl
      have g1 := hf 1 f1 rfl
      have g2 := hf 2 f2 rfl
      simp [o0, o1, o2, c0, c1, c2] at g0 g1 g2
      have e0 := hcell 0 (by omega)
      have e1 := hcell 1 (by omega)
      have e2 := hcell 2 (by omega)
      rw [add_add] at e0 e1 e2
      exact ⟨v0, v1, v2, y0, y1, y2, ⟨by simpa using e0, by simpa using e1, by simpa using e2⟩, g0, g1, g2⟩
  obtain ⟨b, off, spot⟩ := a
  have hspot : spot = none := by
    obtain ⟨v0, _, _, _, _, _, ⟨h0, _, _⟩, _⟩ := each 0 (by omega)
    simpa [Addr.add] using World.cell?_spot h0
  subst hspot
  have hlt : b < w.heap.size := by
    obtain ⟨v0, _, _, _, _, _, ⟨h0, _, _⟩, _⟩ := each 0 (by omega)
    rcases Nat.lt_or_ge b w.heap.size with h' | h'
    · exact h'
    · rw [Go.WideShapes.add_plain] at h0; simp [World.cell?, Array.getElem?_eq_none h'] at h0
  refine ⟨b, off, len, cap, n - 1, rfl, hl, hm, hlt, fun j hj => ?_⟩
  obtain ⟨v0, v1, v2, y0, y1, y2, ⟨h0, h1, h2⟩, g0, g1, g2⟩ := each j (by omega)
  rw [Go.WideShapes.add_plain] at h0 h1 h2
  exact ⟨v0, v1, v2, y0, y1, y2, ⟨h0, by rw [Nat.add_assoc]; exact h1, by rw [Nat.add_assoc]; exact h2⟩, g0, g1, g2⟩
end
theorem c_int : Try.prog.cellsOf 3 = 1 := by kernel_rfl
theorem c_ints : Try.prog.cellsOf 23 = 1 := by kernel_rfl
theorem op_intw {H : Type} {enc : TypeId × Value → H} {W : World} {fuel : Nat} {c : Value} {y : DataW H × List MemPlace} (h : DataW.trod enc Try.prog W 0 (fun _ => true) true fuel 3 [c] = some y) : ∃ n : Int, c = .int .i64 n ∧ wf n = true := by
  obtain ⟨n, e0, _, hw⟩ := DataW.trod_int Try.underlying3 h
  exact ⟨n, by simpa using e0, hw⟩
end Op
end Go.Proofs.Ytchgjdbmianajaa
