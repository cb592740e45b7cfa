/-
  Slices of structs of three cells in memory: what each element's cells hold; one that a call has made; and the words of the exact laws on answers.
-/
import Derived.Test.YtocecdnebkeeoaaDoorMp
import Derived.Test.YtocecdnebkeeoaaDoorEk
import Derived.Test.YtocecdnebkeeoaaDoorRunKit
import Derived.Deep.RegionHeld3
namespace Go.Proofs.YtocecdnebkeeoaaDoor
namespace Mp
open Go.RowKit Alg Mem Con Me
set_option linter.unusedVariables false

abbrev Tri := Value × Value × Value
def cut3 (g : Nat → Tri) (i : Nat) : Value := if i % 3 = 0 then (g (i / 3)).1 else if i % 3 = 1 then (g (i / 3)).2.1 else (g (i / 3)).2.2
theorem cut3_0 (g : Nat → Tri) (j : Nat) : cut3 g (j * 3) = (g j).1 := by
  unfold cut3; rw [show j * 3 % 3 = 0 by omega, show j * 3 / 3 = j by omega]; rfl
theorem cut3_1 (g : Nat → Tri) (j : Nat) : cut3 g (j * 3 + 1) = (g j).2.1 := by
  unfold cut3; rw [show (j * 3 + 1) % 3 = 1 by omega, show (j * 3 + 1) / 3 = j by omega]; rfl
theorem cut3_2 (g : Nat → Tri) (j : Nat) : cut3 g (j * 3 + 2) = (g j).2.2 := by
  unfold cut3; rw [show (j * 3 + 2) % 3 = 2 by omega, show (j * 3 + 2) / 3 = j by omega]; rfl
/-- A slice of the call's own, of structs of three cells. -/
structure Row3 (w : World) (lo : Nat) (T : TypeId) (b n : Nat) (g : Nat → Tri) : Prop where
  from_ : lo ≤ b
  row : w.rowIs b T (n * 3) (cut3 g)
theorem Row3.lt {w : World} {lo : Nat} {T : TypeId} {b n : Nat} {g : Nat → Tri} (h : Row3 w lo T b n g) : b < w.heap.size := h.row.lt
theorem Row3.kept {w w' : World} {lo : Nat} {T : TypeId} {b n : Nat} {g : Nat → Tri} {r : Option Nat} (h : Row3 w lo T b n g) (hg : w.grownBy w' r) (hne : some b ≠ r) : Row3 w' lo T b n g := ⟨h.from_, h.row.of_block (hg.block b h.lt hne)⟩
theorem Row3.keptN {w w' : World} {lo : Nat} {T : TypeId} {b n : Nat} {g : Nat → Tri} (h : Row3 w lo T b n g) (hg : w.grownBy w' none) : Row3 w' lo T b n g := h.kept hg (by simp)
theorem Row3.lower {w : World} {lo lo' : Nat} {T : TypeId} {b n : Nat} {g : Nat → Tri} (h : Row3 w lo T b n g) (hl : lo' ≤ lo) : Row3 w lo' T b n g := ⟨by have := h.from_; omega, h.row⟩
theorem Row3.c0 {w : World} {lo : Nat} {T : TypeId} {b n : Nat} {g : Nat → Tri} (h : Row3 w lo T b n g) {j : Nat} (hj : j < n) : w.cell? ⟨b, j * 3, none⟩ = some (g j).1 := by rw [h.row.cell (by omega), cut3_0]
theorem Row3.c1 {w : World} {lo : Nat} {T : TypeId} {b n : Nat} {g : Nat → Tri} (h : Row3 w lo T b n g) {j : Nat} (hj : j < n) : w.cell? ⟨b, j * 3 + 1, none⟩ = some (g j).2.1 := by rw [h.row.cell (by omega), cut3_1]
theorem Row3.c2 {w : World} {lo : Nat} {T : TypeId} {b n : Nat} {g : Nat → Tri} (h : Row3 w lo T b n g) {j : Nat} (hj : j < n) : w.cell? ⟨b, j * 3 + 2, none⟩ = some (g j).2.2 := by rw [h.row.cell (by omega), cut3_2]
theorem Row3.free {w : World} {lo : Nat} {T : TypeId} {b n : Nat} {g : Nat → Tri} (h : Row3 w lo T b n g) (i : Nat) : w.frozen? ⟨b, i, none⟩ = false := h.row.frozen i
theorem Row3.congr {w : World} {lo : Nat} {T : TypeId} {b n : Nat} {g g' : Nat → Tri} (h : Row3 w lo T b n g) (e : ∀ j, j < n → g j = g' j) : Row3 w lo T b n g' :=
  ⟨h.from_, h.row.congr fun i hi => by unfold cut3; rw [e (i / 3) (by omega)]⟩
/-- A whole element stored. -/
def set3 (w : World) (b j : Nat) (v : Tri) : World := ((w.setCell ⟨b, j * 3, none⟩ v.1).setCell ⟨b, j * 3 + 1, none⟩ v.2.1).setCell ⟨b, j * 3 + 2, none⟩ v.2.2
theorem Row3.set {w : World} {lo : Nat} {T : TypeId} {b n : Nat} {g : Nat → Tri} (h : Row3 w lo T b n g) (j : Nat) (v : Tri) : Row3 (set3 w b j v) lo T b n (fun i => if i = j then v else g i) := by
  refine ⟨h.from_, (((h.row.set (j * 3) v.1).set (j * 3 + 1) v.2.1).set (j * 3 + 2) v.2.2).congr fun i hi => ?_⟩
  by_cases e : i / 3 = j
  · rcases (by omega : i = j * 3 ∨ i = j * 3 + 1 ∨ i = j * 3 + 2) with rfl | rfl | rfl
    · rw [cut3_0 (fun i => if i = j then v else g i) j]; simp
    · rw [cut3_1 (fun i => if i = j then v else g i) j]; simp
    · rw [cut3_2 (fun i => if i = j then v else g i) j]; simp
  · rw [if_neg (by omega), if_neg (by omega), if_neg (by omega)]
    unfold cut3; simp [e]
theorem set3_grown (w : World) (b j : Nat) (v : Tri) : w.grownBy (set3 w b j v) (some b) := by
  have g0 := Mem.grown_set w b (j * 3) v.1
  have g1 := Con.gtr' g0 (Mem.grown_set _ b (j * 3 + 1) v.2.1)
  exact Con.gtr' g1 (Mem.grown_set _ b (j * 3 + 2) v.2.2)
theorem Row3.made (w : World) (T : TypeId) (n : Nat) (z0 z1 z2 : Value) : Row3 (w.alloc (.cells (madeCells #[z0, z1, z2] (n * 3)) T)) w.heap.size T w.heap.size n (fun _ => (z0, z1, z2)) := by
  refine ⟨Nat.le_refl _, ?_⟩
  have h := World.rowIs_alloc w (madeCells #[z0, z1, z2] (n * 3)) T (cut3 fun _ => (z0, z1, z2)) (by
    intro i hi
    rw [size_madeCells] at hi
    unfold madeCells cut3
    simp only [Array.getElem?_map, Array.getElem?_range, hi, if_true, Option.map_some, List.size_toArray, List.length_cons, List.length_nil]
    rcases (by omega : i % 3 = 0 ∨ i % 3 = 1 ∨ i % 3 = 2) with e | e | e <;> simp [e])
  rw [size_madeCells] at h
  exact h

def ansT (A : Nat → Ans) (j : Nat) : Tri := (.int .i64 (A j).f, .int .i64 (A j).t, .int .i64 (A j).s)
theorem Row3.ans {w : World} {lo : Nat} {T : TypeId} {b n : Nat} {A : Nat → Ans} (h : Row3 w lo T b n (ansT A)) : AnsIn w (some ⟨b, 0, none⟩) n A := by
  refine .inr ⟨b, 0, rfl, h.lt, fun j hj => ?_⟩
  rw [Nat.zero_add]
  exact ⟨h.c0 hj, h.c1 hj, h.c2 hj⟩
theorem szans_yes (w : World) (a : Option Addr) (len cap : Nat) (left : Int) (h1 : left ≤ 2000000) (h : (len : Int) ≤ left) :
    Calls Tryd.prog 23 #[.slice a len cap, .int .i64 left] w fun e w' => e = .returned (.int .i64 (left - (len : Int))) ∧ w = w' := by
  have hlt : ¬ left - (len : Int) < 0 := by omega
  go_enter Tryd.func23, Tryd.ntmps23
  go_wp2
  go_ret
  exact ⟨rfl, rfl⟩
theorem szans_no (w : World) (a : Option Addr) (len cap : Nat) (left : Int) (h0 : 0 ≤ left) (h1 : left ≤ 2000000) (hl : len ≤ maxLen) (h : left < (len : Int)) :
    Calls Tryd.prog 23 #[.slice a len cap, .int .i64 left] w fun e w' => e = .returned (.int .i64 (-1)) ∧ w = w' := by
  unfold maxLen at hl
  have hlt : left - (len : Int) < 0 := by omega
  go_enter Tryd.func23, Tryd.ntmps23
  go_wp2
  go_ret
  exact ⟨rfl, rfl⟩
theorem size_ans : (Tryd.prog.info? 33).map (·.size) = some 3 := by kernel_rfl
theorem ret_ans {fn : Func} {p : Tmp} (h : fn.results = #[.cell p 33]) (tmps : Array Value) {w : World} {b : Nat} {v0 v1 v2 : Value} {T : TypeId} (hp : tmps.getD p undef = .pointer (some ⟨b, 0, none⟩)) (hb : Blk w b #[v0, v1, v2] T) :
    (results fn tmps).run Tryd.prog w = .ok (.agg #[v0, v1, v2]) w :=
  results_cell_row h tmps w b T #[v0, v1, v2] (0, 0) _ hp hb Tryd.underlying33 rfl size_ans
set_option maxHeartbeats 2000000 in
theorem toans (w : World) (f t s : Int) :
    Calls Tryd.prog 67 #[.agg #[.int .i64 f, .int .i64 t, .int .i64 s]] w fun e w' => e = .returned (.agg #[.int .i64 f, .int .i64 t, .int .i64 s]) ∧ w.grownBy w' none := by
  have HR := Lib.hid ((blk_new2 w (.cells #[.int .i64 f, .int .i64 t, .int .i64 s] 96) #[.int .i64 f, .int .i64 t, .int .i64 s] 33).keptN (Draw.grown_alloc _ (.cells #[.int .i64 f, .int .i64 t, .int .i64 s] 33) none))
  have HG := Lib.hid (gtr (gtr (Draw.grown_alloc w (.cells #[.int .i64 f, .int .i64 t, .int .i64 s] 96) none) (Draw.grown_alloc _ (.cells #[.int .i64 f, .int .i64 t, .int .i64 s] 33) none)) (Draw.grown_alloc _ (.cells #[.int .i64 f, .int .i64 t, .int .i64 s] 33) none))
  go_enter Tryd.func67, Tryd.ntmps67
  go_wp2
  (try simp only [Exit.inBlock, Exit.then])
  refine bodyPost_ret (ret_ans rfl _ rfl HR.out) rfl ?_
  exact ⟨rfl, HG.out⟩
theorem run_make3 {P : Program} (t e : TypeId) (z0 z1 z2 : Value) (bytes : Nat) (ht : P.underlying t = some (.slice e)) (hinfo : (P.info? e).map (fun i => (i.zero, i.size, i.bytes)) = some (some (.agg #[z0, z1, z2]), 3, bytes))
    (kl kc : IntKind) (n : Nat) (hbytes : bytes * n ≤ 281474976710656) (h63 : n ≤ 9223372036854775807) (w : World) :
    (Instr.makeSlice t (.int kl (n : Int)) (.int kc (n : Int))).run P w = .ok (.slice (some ⟨w.heap.size, 0, none⟩) n n) (w.alloc (.cells (madeCells #[z0, z1, z2] (n * 3)) e)) := by
  obtain ⟨i, hi, hzz⟩ := Option.map_eq_some_iff.1 hinfo
  simp only [Prod.mk.injEq] at hzz
  obtain ⟨hz, hs, hb⟩ := hzz
  have hb' : (i.bytes : Int) * (n : Int) ≤ 281474976710656 := by
    have h : ((i.bytes * n : Nat) : Int) ≤ 281474976710656 := by rw [hb]; omega
    rwa [Int.natCast_mul] at h
  have hr := run_make (P := P) w t e i _ ht hi hz kl kc n n (by omega) (Int.le_refl _) hb' (by omega)
  simp only [Int.toNat_natCast, hs] at hr
  exact hr
theorem und_anss : Tryd.prog.underlying 26 = some (.slice 33) := by kernel_rfl
theorem info_ans : (Tryd.prog.info? 33).map (fun i => (i.zero, i.size, i.bytes)) = some (some (.agg #[.int .i64 0, .int .i64 0, .int .i64 0]), 3, 24) := by kernel_rfl
/-- Answers of the call's own. -/
def NewAns (w : World) (n : Nat) (A : Nat → Ans) (e : Ending) (w' : World) : Prop :=
  ∃ b : Nat, e = .returned (.slice (some ⟨b, 0, none⟩) n n) ∧ Row3 w' w.heap.size 33 b n (ansT A) ∧ w.grownBy w' none
set_option maxHeartbeats 2000000 in
theorem toanss (w : World) (a : Option Addr) (len cap : Nat) (A : Nat → Ans) (hI : AnsIn w a len A) (hl : len ≤ 2000000) :
    Calls Tryd.prog 25 #[.slice a len cap] w (NewAns w len A) := by
  have hmk := run_make3 (P := Tryd.prog) 26 33 (.int .i64 0) (.int .i64 0) (.int .i64 0) 24 und_anss info_ans .i64 .i64 len (by omega) (by omega)
  have HI := Lib.hid hI; clear hI
  go_enter Tryd.func25, Tryd.ntmps25
  go_wp2
  go_loopw [4] (fun i wr => ∃ k : Nat, k ≤ len ∧ i = .int .i64 k ∧ Row3 wr w.heap.size 33 w.heap.size len (fun j => if j < k then ansT A j else (.int .i64 0, .int .i64 0, .int .i64 0)) ∧ w.grownBy wr none) (fun i _ => len - (intOf i).toNat)
  case atStart => exact ⟨0, by omega, rfl, (Row3.made w _ len _ _ _).congr fun j _ => by simp, Draw.grown_alloc _ _ _⟩
  case round =>
    clear hmk
    obtain ⟨k, hk, rfl, hr, hg⟩ := hrel
    have HG := Lib.hid hg; have HR := Lib.hid hr; clear hg hr
    by_cases hlt : k < len
    · rcases HI.out.kept HG.out with h | ⟨b, off, rfl, hb, hcc⟩
      · omega
      obtain ⟨hc0, hc1, hc2⟩ := hcc k hlt
      clear hcc
      go_wp2_with fail
      refine (toans _ _ _ _).mono ?_
      rintro e w1 ⟨rfl, hg1⟩
      have HG1 := Lib.hid (gtr HG.out hg1); have HR1 := Lib.hid (HR.out.keptN hg1); clear hg1
      have d0 := HR1.out.c0 hlt
      have d1 := HR1.out.c1 hlt
      have d2 := HR1.out.c2 hlt
      have f0 := HR1.out.free (k * 3)
      have f1 := HR1.out.free (k * 3 + 1)
      have f2 := HR1.out.free (k * 3 + 2)
      have HR2 := Lib.hid ((HR1.out.set k (ansT A k)).congr (g' := fun j => if j < k + 1 then ansT A j else (.int .i64 0, .int .i64 0, .int .i64 0)) fun j hj => by
        by_cases e : j = k
        · subst e; simp
        · by_cases h : j < k
          · simp [e, h]; omega
          · simp [e, h]; omega)
      have HG2 := Lib.hid (grown_new HG1.out (Nat.le_refl _) (set3_grown w1 w.heap.size k (ansT A k)))
      go_wp2
      go_roundw
      case rel => exact ⟨k + 1, by omega, by go_num, HR2.out, HG2.out⟩
      case measure => simp [intOf]; omega
    · obtain rfl : k = len := by omega
      have HR2 := Lib.hid (HR.out.congr (g' := ansT A) fun j hj => by simp [hj])
      go_wp2
      go_ret
      exact ⟨_, rfl, HR2.out, HG.out⟩
theorem eqans (w : World) (f t s : Int) :
    Calls Tryd.prog 69 #[.agg #[.int .i64 f, .int .i64 t, .int .i64 s], .agg #[.int .i64 f, .int .i64 t, .int .i64 s]] w fun e w' => e = .returned (.bool true) ∧ w.grownBy w' none := by
  have h0 : (f != f) = false := by simp
  have h1 : (t != t) = false := by simp
  have h2 : (s != s) = false := by simp
  go_enter Tryd.func69, Tryd.ntmps69
  go_wp2
  go_ret
  exact ⟨rfl, gtr (Draw.grown_alloc _ _ _) (Draw.grown_alloc _ _ _)⟩
set_option maxHeartbeats 2000000 in
theorem eqanss (w : World) (a a' : Option Addr) (len cap cap' : Nat) (A : Nat → Ans) (h1 : AnsIn w a len A) (h2 : AnsIn w a' len A) (hl : len ≤ 2000000) :
    Calls Tryd.prog 27 #[.slice a len cap, .slice a' len cap'] w fun e w' => e = .returned (.bool true) ∧ w.grownBy w' none := by
  have H1 := Lib.hid h1; have H2 := Lib.hid h2; clear h1 h2
  have hne : ((len : Int) != (len : Int)) = false := by simp
  go_enter Tryd.func27, Tryd.ntmps27
  go_wp2
  go_loopw [5] (fun i wr => ∃ k : Nat, k ≤ len ∧ i = .int .i64 k ∧ w.grownBy wr none) (fun i _ => len - (intOf i).toNat)
  case atStart => exact ⟨0, by omega, rfl, Draw.grown_refl _ _⟩
  case round =>
    obtain ⟨k, hk, rfl, hg⟩ := hrel
    have HG := Lib.hid hg; clear hg
    by_cases hlt : k < len
    · rcases H1.out.kept HG.out with h | ⟨b, off, rfl, hb, hcc⟩
      · omega
      obtain ⟨hc0, hc1, hc2⟩ := hcc k hlt
      rcases H2.out.kept HG.out with h | ⟨b', off', rfl, hb', hcc'⟩
      · omega
      obtain ⟨hd0, hd1, hd2⟩ := hcc' k hlt
      clear hcc hcc'
      have hj1 : (0 : Int) ≤ (k : Int) := by omega
      have hj2 : (k : Int) < (len : Int) := by omega
      go_wp2_with fail
      go_region_held3 (fun w' => w'.cell? ⟨b, off + k * 3, none⟩ = some (.int .i64 (A k).f) ∧ w'.cell? ⟨b, off + k * 3 + 1, none⟩ = some (.int .i64 (A k).t) ∧ w'.cell? ⟨b, off + k * 3 + 2, none⟩ = some (.int .i64 (A k).s) ∧ w'.cell? ⟨b', off' + k * 3, none⟩ = some (.int .i64 (A k).f) ∧ w'.cell? ⟨b', off' + k * 3 + 1, none⟩ = some (.int .i64 (A k).t) ∧ w'.cell? ⟨b', off' + k * 3 + 2, none⟩ = some (.int .i64 (A k).s)) (first | exact hS2 | exact ⟨hc0, hc1, hc2, hd0, hd1, hd2⟩) ((go_at_call 69; (with_reducible refine (eqans _ _ _ _).mono ?_); rintro e w2 ⟨rfl, hg2⟩; have Hg := Lib.hid (show wr.grownBy w2 none from ⟨hg2.os, hg2.tape, hg2.output, hg2.size, hg2.block⟩); have HG2 := Lib.hid (gtr HG.out Hg.out); have e1 := Hg.out.block b hb (by simp); have e2 := Hg.out.block b' hb' (by simp); have hS2 : w2.cell? ⟨b, off + k * 3, none⟩ = some (.int .i64 (A k).f) ∧ w2.cell? ⟨b, off + k * 3 + 1, none⟩ = some (.int .i64 (A k).t) ∧ w2.cell? ⟨b, off + k * 3 + 2, none⟩ = some (.int .i64 (A k).s) ∧ w2.cell? ⟨b', off' + k * 3, none⟩ = some (.int .i64 (A k).f) ∧ w2.cell? ⟨b', off' + k * 3 + 1, none⟩ = some (.int .i64 (A k).t) ∧ w2.cell? ⟨b', off' + k * 3 + 2, none⟩ = some (.int .i64 (A k).s) := ⟨(World.cell?_of_block e1).trans hc0, (World.cell?_of_block e1).trans hc1, (World.cell?_of_block e1).trans hc2, (World.cell?_of_block e2).trans hd0, (World.cell?_of_block e2).trans hd1, (World.cell?_of_block e2).trans hd2⟩; clear hg2 e1 e2))
      all_goals
        go_wp2
        go_roundw
        case rel => exact ⟨k + 1, by omega, by go_num, HG2.out⟩
        case measure => simp [intOf]; omega
    · obtain rfl : k = len := by omega
      go_wp2
      go_ret
      exact ⟨rfl, HG.out⟩
end Mp
end Go.Proofs.YtocecdnebkeeoaaDoor
