/-
  Shares with their members in memory: slices of structs of two ints; one that a call has made; the words of the exact laws on them; what such a slice that came in as an argument is.
-/
import Derived.Test.YtchgjdbmianajaaMem
import Derived.Test.YtchgjdbmianajaaDo
import Derived.Deep.RegionHeld3
import Derived.Deep.Slices
import Derived.Test.YtchgjdbmianajaaDa
import Derived.Test.YtchgjdbmianajaaPk
import Derived.BigQuiet
import Derived.Test.YtchgjdbmianajaaPe
namespace Go.Proofs.Ytchgjdbmianajaa
namespace Hd
open Go.RowKit Alg Mem Con
set_option linter.unusedVariables false

/-- A share with its member. -/
structure HV where
  m : Int
  s : Int
/-- Such shares in memory. -/
def HldIn (w : World) (a : Option Addr) (len : Nat) (H : Nat → HV) : Prop :=
  len = 0 ∨ ∃ b off, a = some ⟨b, off, none⟩ ∧ b < w.heap.size ∧ ∀ j, j < len → w.cell? ⟨b, off + j * 2, none⟩ = some (.int .i64 (H j).m) ∧ w.cell? ⟨b, off + j * 2 + 1, none⟩ = some (.int .i64 (H j).s)
theorem HldIn.keptB {w w' : World} {a : Option Addr} {len : Nat} {H : Nat → HV} (h : HldIn w a len H) (hb : ∀ k, k < w.heap.size → w'.heap[k]? = w.heap[k]?) (hs : w.heap.size ≤ w'.heap.size) : HldIn w' a len H := by
  rcases h with h | ⟨b, off, ha, hl, hc⟩
  · exact .inl h
  · refine .inr ⟨b, off, ha, by omega, fun j hj => ?_⟩
    obtain ⟨h0, h1⟩ := hc j hj
    have e := hb b hl
    exact ⟨(World.cell?_of_block e).trans h0, (World.cell?_of_block e).trans h1⟩
theorem HldIn.kept {w w' : World} {a : Option Addr} {len : Nat} {H : Nat → HV} (h : HldIn w a len H) (hg : w.grownBy w' none) : HldIn w' a len H := h.keptB (fun k hk => hg.block k hk (by simp)) hg.size
theorem HldIn.drew {w : World} {a : Option Addr} {len : Nat} {H : Nat → HV} (h : HldIn w a len H) (n : Nat) : HldIn (w.drewN n) a len H := h.keptB (fun _ _ => rfl) (Nat.le_refl _)
theorem HldIn.less {w : World} {a : Option Addr} {len k : Nat} {H : Nat → HV} (h : HldIn w a len H) (hk : k ≤ len) : HldIn w a k H := by
  rcases h with h | ⟨b, off, ha, hl, hc⟩
  · exact .inl (by omega)
  · exact .inr ⟨b, off, ha, hl, fun j hj => hc j (by omega)⟩
theorem HldIn.congr {w : World} {a : Option Addr} {len : Nat} {H H' : Nat → HV} (h : HldIn w a len H) (e : ∀ j, j < len → H j = H' j) : HldIn w a len H' := by
  rcases h with h | ⟨b, off, ha, hl, hc⟩
  · exact .inl h
  · exact .inr ⟨b, off, ha, hl, fun j hj => by rw [← e j hj]; exact hc j hj⟩
abbrev Duo := Value × Value
def cut2 (g : Nat → Duo) (i : Nat) : Value := if i % 2 = 0 then (g (i / 2)).1 else (g (i / 2)).2
theorem cut2_0 (g : Nat → Duo) (j : Nat) : cut2 g (j * 2) = (g j).1 := by
  unfold cut2; rw [show j * 2 % 2 = 0 by omega, show j * 2 / 2 = j by omega]; rfl
theorem cut2_1 (g : Nat → Duo) (j : Nat) : cut2 g (j * 2 + 1) = (g j).2 := by
  unfold cut2; rw [show (j * 2 + 1) % 2 = 1 by omega, show (j * 2 + 1) / 2 = j by omega]; rfl
/-- A slice of the call's own, of structs of two cells. -/
structure Row2 (w : World) (lo : Nat) (T : TypeId) (b n : Nat) (g : Nat → Duo) : Prop where
  from_ : lo ≤ b
  row : w.rowIs b T (n * 2) (cut2 g)
theorem Row2.lt {w : World} {lo : Nat} {T : TypeId} {b n : Nat} {g : Nat → Duo} (h : Row2 w lo T b n g) : b < w.heap.size := h.row.lt
theorem Row2.kept {w w' : World} {lo : Nat} {T : TypeId} {b n : Nat} {g : Nat → Duo} {r : Option Nat} (h : Row2 w lo T b n g) (hg : w.grownBy w' r) (hne : some b ≠ r) : Row2 w' lo T b n g := ⟨h.from_, h.row.of_block (hg.block b h.lt hne)⟩
theorem Row2.keptN {w w' : World} {lo : Nat} {T : TypeId} {b n : Nat} {g : Nat → Duo} (h : Row2 w lo T b n g) (hg : w.grownBy w' none) : Row2 w' lo T b n g := h.kept hg (by simp)
theorem Row2.lower {w : World} {lo lo' : Nat} {T : TypeId} {b n : Nat} {g : Nat → Duo} (h : Row2 w lo T b n g) (hl : lo' ≤ lo) : Row2 w lo' T b n g := ⟨by have := h.from_; omega, h.row⟩
theorem Row2.c0 {w : World} {lo : Nat} {T : TypeId} {b n : Nat} {g : Nat → Duo} (h : Row2 w lo T b n g) {j : Nat} (hj : j < n) : w.cell? ⟨b, j * 2, none⟩ = some (g j).1 := by rw [h.row.cell (by omega), cut2_0]
theorem Row2.c1 {w : World} {lo : Nat} {T : TypeId} {b n : Nat} {g : Nat → Duo} (h : Row2 w lo T b n g) {j : Nat} (hj : j < n) : w.cell? ⟨b, j * 2 + 1, none⟩ = some (g j).2 := by rw [h.row.cell (by omega), cut2_1]
theorem Row2.free {w : World} {lo : Nat} {T : TypeId} {b n : Nat} {g : Nat → Duo} (h : Row2 w lo T b n g) (i : Nat) : w.frozen? ⟨b, i, none⟩ = false := h.row.frozen i
theorem Row2.congr {w : World} {lo : Nat} {T : TypeId} {b n : Nat} {g g' : Nat → Duo} (h : Row2 w lo T b n g) (e : ∀ j, j < n → g j = g' j) : Row2 w lo T b n g' :=
  ⟨h.from_, h.row.congr fun i hi => by unfold cut2; rw [e (i / 2) (by omega)]⟩
/-- A whole element stored. -/
def set2 (w : World) (b j : Nat) (v : Duo) : World := (w.setCell ⟨b, j * 2, none⟩ v.1).setCell ⟨b, j * 2 + 1, none⟩ v.2
theorem Row2.set {w : World} {lo : Nat} {T : TypeId} {b n : Nat} {g : Nat → Duo} (h : Row2 w lo T b n g) (j : Nat) (v : Duo) : Row2 (set2 w b j v) lo T b n (fun i => if i = j then v else g i) := by
  refine ⟨h.from_, ((h.row.set (j * 2) v.1).set (j * 2 + 1) v.2).congr fun i hi => ?_⟩
  by_cases e : i / 2 = j
  · rcases (by omega : i = j * 2 ∨ i = j * 2 + 1) with rfl | rfl
    · rw [cut2_0 (fun i => if i = j then v else g i) j]; simp
    · rw [cut2_1 (fun i => if i = j then v else g i) j]; simp
  · rw [if_neg (by omega), if_neg (by omega)]
    unfold cut2; simp [e]
theorem set2_grown (w : World) (b j : Nat) (v : Duo) : w.grownBy (set2 w b j v) (some b) :=
  Con.gtr' (Mem.grown_set w b (j * 2) v.1) (Mem.grown_set _ b (j * 2 + 1) v.2)
theorem Row2.made (w : World) (T : TypeId) (n : Nat) (z0 z1 : Value) : Row2 (w.alloc (.cells (madeCells #[z0, z1] (n * 2)) T)) w.heap.size T w.heap.size n (fun _ => (z0, z1)) := by
  refine ⟨Nat.le_refl _, ?_⟩
  have h := World.rowIs_alloc w (madeCells #[z0, z1] (n * 2)) T (cut2 fun _ => (z0, z1)) (by
    intro i hi
    rw [size_madeCells] at hi
    unfold madeCells cut2
    simp only [Array.getElem?_map, Array.getElem?_range, hi, if_true, Option.map_some, List.size_toArray, List.length_cons, List.length_nil]
    rcases (by omega : i % 2 = 0 ∨ i % 2 = 1) with e | e <;> simp [e])
  rw [size_madeCells] at h
  exact h

def hldT (H : Nat → HV) (j : Nat) : Duo := (.int .i64 (H j).m, .int .i64 (H j).s)
theorem Row2.hld {w : World} {lo : Nat} {T : TypeId} {b n : Nat} {H : Nat → HV} (h : Row2 w lo T b n (hldT H)) : HldIn w (some ⟨b, 0, none⟩) n H := by
  refine .inr ⟨b, 0, rfl, h.lt, fun j hj => ?_⟩
  rw [Nat.zero_add]
  exact ⟨h.c0 hj, h.c1 hj⟩
theorem szhld_yes (w : World) (a : Option Addr) (len cap : Nat) (left : Int) (h1 : left ≤ 2000000) (h : (len : Int) ≤ left) :
    Calls Try.prog 23 #[.slice a len cap, .int .i64 left] w fun e w' => e = .returned (.int .i64 (left - (len : Int))) ∧ w = w' := by
  have hlt : ¬ left - (len : Int) < 0 := by omega
  go_enter Try.func23, Try.ntmps23
  go_wp2
  go_ret
  exact ⟨rfl, rfl⟩
theorem szhld_no (w : World) (a : Option Addr) (len cap : Nat) (left : Int) (h0 : 0 ≤ left) (h1 : left ≤ 2000000) (hl : len ≤ maxLen) (h : left < (len : Int)) :
    Calls Try.prog 23 #[.slice a len cap, .int .i64 left] w fun e w' => e = .returned (.int .i64 (-1)) ∧ w = w' := by
  unfold maxLen at hl
  have hlt : left - (len : Int) < 0 := by omega
  go_enter Try.func23, Try.ntmps23
  go_wp2
  go_ret
  exact ⟨rfl, rfl⟩
theorem size_hld : (Try.prog.info? 40).map (·.size) = some 2 := by kernel_rfl
theorem ret_hld {fn : Func} {p : Tmp} (h : fn.results = #[.cell p 40]) (tmps : Array Value) {w : World} {b : Nat} {v0 v1 : Value} {T : TypeId} (hp : tmps.getD p undef = .pointer (some ⟨b, 0, none⟩)) (hb : Blk w b #[v0, v1] T) :
    (results fn tmps).run Try.prog w = .ok (.agg #[v0, v1]) w :=
  results_cell_row h tmps w b T #[v0, v1] (0, 0) _ hp hb Try.underlying40 rfl size_hld
set_option maxHeartbeats 2000000 in
theorem tohld (w : World) (m s : Int) :
    Calls Try.prog 48 #[.agg #[.int .i64 m, .int .i64 s]] w fun e w' => e = .returned (.agg #[.int .i64 m, .int .i64 s]) ∧ w.grownBy w' none := by
  have HR := Lib.hid ((blk_new2 w (.cells #[.int .i64 m, .int .i64 s] 69) #[.int .i64 m, .int .i64 s] 40).keptN (Draw.grown_alloc _ (.cells #[.int .i64 m, .int .i64 s] 40) none))
  have HG := Lib.hid (gtr (gtr (Draw.grown_alloc w (.cells #[.int .i64 m, .int .i64 s] 69) none) (Draw.grown_alloc _ (.cells #[.int .i64 m, .int .i64 s] 40) none)) (Draw.grown_alloc _ (.cells #[.int .i64 m, .int .i64 s] 40) none))
  go_enter Try.func48, Try.ntmps48
  go_wp2
  (try simp only [Exit.inBlock, Exit.then])
  refine bodyPost_ret (ret_hld rfl _ rfl HR.out) rfl ?_
  exact ⟨rfl, HG.out⟩
theorem run_make2 {P : Program} (t e : TypeId) (z0 z1 : Value) (bytes : Nat) (ht : P.underlying t = some (.slice e)) (hinfo : (P.info? e).map (fun i => (i.zero, i.size, i.bytes)) = some (some (.agg #[z0, z1]), 2, bytes))
    (kl kc : IntKind) (n : Nat) (hbytes : bytes * n ≤ 281474976710656) (h63 : n ≤ 9223372036854775807) (w : World) :
    (Instr.makeSlice t (.int kl (n : Int)) (.int kc (n : Int))).run P w = .ok (.slice (some ⟨w.heap.size, 0, none⟩) n n) (w.alloc (.cells (madeCells #[z0, z1] (n * 2)) e)) := by
  obtain ⟨i, hi, hzz⟩ := Option.map_eq_some_iff.1 hinfo
  simp only [Prod.mk.injEq] at hzz
  obtain ⟨hz, hs, hb⟩ := hzz
  have hb' : (i.bytes : Int) * (n : Int) ≤ 281474976710656 := by
    have h : ((i.bytes * n : Nat) : Int) ≤ 281474976710656 := by rw [hb]; omega
    rwa [Int.natCast_mul] at h
  have hr := run_make (P := P) w t e i _ ht hi hz kl kc n n (by omega) (Int.le_refl _) hb' (by omega)
  simp only [Int.toNat_natCast, hs] at hr
  exact hr
theorem und_hlds : Try.prog.underlying 33 = some (.slice 40) := by kernel_rfl
theorem info_hld : (Try.prog.info? 40).map (fun i => (i.zero, i.size, i.bytes)) = some (some (.agg #[.int .i64 0, .int .i64 0]), 2, 16) := by kernel_rfl
/-- Shares of the call's own. -/
def NewHld (w : World) (n : Nat) (H : Nat → HV) (e : Ending) (w' : World) : Prop :=
  ∃ b : Nat, e = .returned (.slice (some ⟨b, 0, none⟩) n n) ∧ Row2 w' w.heap.size 40 b n (hldT H) ∧ w.grownBy w' none
set_option maxHeartbeats 2000000 in
theorem tohlds (w : World) (a : Option Addr) (len cap : Nat) (H : Nat → HV) (hI : HldIn w a len H) (hl : len ≤ 2000000) :
    Calls Try.prog 24 #[.slice a len cap] w (NewHld w len H) := by
  have hmk := run_make2 (P := Try.prog) 33 40 (.int .i64 0) (.int .i64 0) 16 und_hlds info_hld .i64 .i64 len (by omega) (by omega)
  have HI := Lib.hid hI; clear hI
  go_enter Try.func24, Try.ntmps24
  go_wp2
  go_loopw [4] (fun i wr => ∃ k : Nat, k ≤ len ∧ i = .int .i64 k ∧ Row2 wr w.heap.size 40 w.heap.size len (fun j => if j < k then hldT H j else (.int .i64 0, .int .i64 0)) ∧ w.grownBy wr none) (fun i _ => len - (intOf i).toNat)
  case atStart => exact ⟨0, by omega, rfl, (Row2.made w _ len _ _).congr fun j _ => by simp, Draw.grown_alloc _ _ _⟩
  case round =>
    clear hmk
    obtain ⟨k, hk, rfl, hr, hg⟩ := hrel
    have HG := Lib.hid hg; have HR := Lib.hid hr; clear hg hr
    by_cases hlt : k < len
    · rcases HI.out.kept HG.out with h | ⟨b, off, rfl, hb, hcc⟩
      · omega
      obtain ⟨hc0, hc1⟩ := hcc k hlt
      clear hcc
      go_wp2_with fail
      refine (tohld _ _ _).mono ?_
      rintro e w1 ⟨rfl, hg1⟩
      have HG1 := Lib.hid (gtr HG.out hg1); have HR1 := Lib.hid (HR.out.keptN hg1); clear hg1
      have d0 := HR1.out.c0 hlt
      have d1 := HR1.out.c1 hlt
      have f0 := HR1.out.free (k * 2)
      have f1 := HR1.out.free (k * 2 + 1)
      have HR2 := Lib.hid ((HR1.out.set k (hldT H k)).congr (g' := fun j => if j < k + 1 then hldT H j else (.int .i64 0, .int .i64 0)) fun j hj => by
        by_cases e : j = k
        · subst e; simp
        · by_cases h : j < k
          · simp [e, h]; omega
          · simp [e, h]; omega)
      have HG2 := Lib.hid (grown_new HG1.out (Nat.le_refl _) (set2_grown w1 w.heap.size k (hldT H k)))
      go_wp2
      go_roundw
      case rel => exact ⟨k + 1, by omega, by go_num, HR2.out, HG2.out⟩
      case measure => simp [intOf]; omega
    · obtain rfl : k = len := by omega
      have HR2 := Lib.hid (HR.out.congr (g' := hldT H) fun j hj => by simp [hj])
      go_wp2
      go_ret
      exact ⟨_, rfl, HR2.out, HG.out⟩
theorem eqhld (w : World) (m s : Int) :
    Calls Try.prog 49 #[.agg #[.int .i64 m, .int .i64 s], .agg #[.int .i64 m, .int .i64 s]] w fun e w' => e = .returned (.bool true) ∧ w.grownBy w' none := by
  have h0 : (m != m) = false := by simp
  have h2 : (s != s) = false := by simp
  go_enter Try.func49, Try.ntmps49
  go_wp2
  go_ret
  exact ⟨rfl, gtr (Draw.grown_alloc _ _ _) (Draw.grown_alloc _ _ _)⟩
set_option maxHeartbeats 2000000 in
theorem eqhlds (w : World) (a a' : Option Addr) (len cap cap' : Nat) (H : Nat → HV) (h1 : HldIn w a len H) (h2 : HldIn w a' len H) (hl : len ≤ 2000000) :
    Calls Try.prog 25 #[.slice a len cap, .slice a' len cap'] w fun e w' => e = .returned (.bool true) ∧ w.grownBy w' none := by
  have H1 := Lib.hid h1; have H2 := Lib.hid h2; clear h1 h2
  have hne : ((len : Int) != (len : Int)) = false := by simp
  go_enter Try.func25, Try.ntmps25
  go_wp2
  go_loopw [5] (fun i wr => ∃ k : Nat, k ≤ len ∧ i = .int .i64 k ∧ w.grownBy wr none) (fun i _ => len - (intOf i).toNat)
  case atStart => exact ⟨0, by omega, rfl, Draw.grown_refl _ _⟩
  case round =>
    obtain ⟨k, hk, rfl, hg⟩ := hrel
    have HG := Lib.hid hg; clear hg
    by_cases hlt : k < len
    · rcases H1.out.kept HG.out with h | ⟨b, off, rfl, hb, hcc⟩
      · omega
      obtain ⟨hc0, hc1⟩ := hcc k hlt
      rcases H2.out.kept HG.out with h | ⟨b', off', rfl, hb', hcc'⟩
      · omega
      obtain ⟨hd0, hd1⟩ := hcc' k hlt
      clear hcc hcc'
      have hj1 : (0 : Int) ≤ (k : Int) := by omega
      have hj2 : (k : Int) < (len : Int) := by omega
      go_wp2_with fail
      go_region_held3 (fun w' => w'.cell? ⟨b, off + k * 2, none⟩ = some (.int .i64 (H k).m) ∧ w'.cell? ⟨b, off + k * 2 + 1, none⟩ = some (.int .i64 (H k).s) ∧ w'.cell? ⟨b', off' + k * 2, none⟩ = some (.int .i64 (H k).m) ∧ w'.cell? ⟨b', off' + k * 2 + 1, none⟩ = some (.int .i64 (H k).s)) (first | exact hS2 | exact ⟨hc0, hc1, hd0, hd1⟩) ((go_at_call 49; (with_reducible refine (eqhld _ _ _).mono ?_); rintro e w2 ⟨rfl, hg2⟩; have Hg := Lib.hid (show wr.grownBy w2 none from ⟨hg2.os, hg2.tape, hg2.output, hg2.size, hg2.block⟩); have HG2 := Lib.hid (gtr HG.out Hg.out); have e1 := Hg.out.block b hb (by simp); have e2 := Hg.out.block b' hb' (by simp); have hS2 : w2.cell? ⟨b, off + k * 2, none⟩ = some (.int .i64 (H k).m) ∧ w2.cell? ⟨b, off + k * 2 + 1, none⟩ = some (.int .i64 (H k).s) ∧ w2.cell? ⟨b', off' + k * 2, none⟩ = some (.int .i64 (H k).m) ∧ w2.cell? ⟨b', off' + k * 2 + 1, none⟩ = some (.int .i64 (H k).s) := ⟨(World.cell?_of_block e1).trans hc0, (World.cell?_of_block e1).trans hc1, (World.cell?_of_block e2).trans hd0, (World.cell?_of_block e2).trans hd1⟩; clear hg2 e1 e2))
      all_goals
        go_wp2
        go_roundw
        case rel => exact ⟨k + 1, by omega, by go_num, HG2.out⟩
        case measure => simp [intOf]; omega
    · obtain rfl : k = len := by omega
      go_wp2
      go_ret
      exact ⟨rfl, HG.out⟩
end Hd
namespace Op
open Go.ChangeShapes Go.WideShapes Go.ChangeAt Go.RowKit Go.Joins Mem Hd Go.Deep
set_option linter.unusedVariables false

section
variable {H : Type} {enc : TypeId × Value → H} {P : Program} {w : World} {base : Nat} {spare : Nat → Bool} {held : Bool}
theorem open_duo {t e : TypeId} {f0 f1 : Field} {fuel : Nat} {cs : List Value} {x : DataW H × List MemPlace} (ht : P.underlying t = some (.slice e)) (he : P.underlying e = some (.struct #[f0, f1]))
    (ce : P.cellsOf e = 2) (o0 : f0.offset = 0) (o1 : f1.offset = 1) (c0 : P.cellsOf f0.type = 1) (c1 : P.cellsOf f1.type = 1)
    (h : DataW.trod enc P w base spare held fuel t cs = some x) :
    (∃ a len cap, cs = [.slice a len cap] ∧ len = 0 ∧ cap ≤ maxLen) ∨ ∃ b off len cap n, cs = [.slice (some ⟨b, off, none⟩) len cap] ∧ len ≤ cap ∧ cap ≤ maxLen ∧ b < w.heap.size ∧
      ∀ j, j < len → ∃ (v0 v1 : Value) (y0 y1 : DataW H × List MemPlace), (w.cell? ⟨b, off + j * 2, none⟩ = some v0 ∧ w.cell? ⟨b, off + j * 2 + 1, none⟩ = some v1) ∧
        DataW.trod enc P w base spare held n f0.type [v0] = some y0 ∧ DataW.trod enc P w base spare held n f1.type [v1] = some y1 := by
  rcases open_slice ht h with ⟨h0, _⟩ | ⟨a, len, cap, m, n, D, Pl, rfl, hb, hl, hm, hmm, _, hx⟩
  · exact .inl ⟨none, 0, 0, h0, rfl, Nat.zero_le _⟩
  by_cases hz : len = 0
  · exact .inl ⟨_, _, _, rfl, hz, hm⟩
  right
  have hlm : len ≤ m := by rw [hmm]; split <;> omega
  have each : ∀ i, i < m → ∃ (v0 v1 : Value) (y0 y1 : DataW H × List MemPlace), (w.cell? (a.add (i * 2)) = some v0 ∧ w.cell? (a.add (i * 2 + 1)) = some v1) ∧
        DataW.trod enc P w base spare held (n - 1) f0.type [v0] = some y0 ∧ DataW.trod enc P w base spare held (n - 1) f1.type [v1] = some y1 := by
    intro i hi
    obtain ⟨cs', h1, h2⟩ := hx i hi
    rw [ce] at h1
    obtain ⟨_, hlen, hcell⟩ := World.cells?_some h1
    obtain ⟨xs, k, hk, hxy, _, hxl, hf⟩ := DataW.trod_struct he h2
    have hk' : k = n - 1 := by omega
    subst hk'
    match xs, hxl, cs', hlen with
    | [y0, y1], _, [v0, v1], _ =>
      have g0 := hf 0 f0 rfl
      have g1 := hf 1 f1 rfl
      simp [o0, o1, c0, c1] at g0 g1
      have e0 := hcell 0 (by omega)
      have e1 := hcell 1 (by omega)
      rw [add_add] at e0 e1
      exact ⟨v0, v1, y0, y1, ⟨by simpa using e0, by simpa using e1⟩, g0, g1⟩
  obtain ⟨b, off, spot⟩ := a
  have hspot : spot = none := by
    obtain ⟨v0, _, _, _, ⟨h0, _⟩, _⟩ := each 0 (by omega)
    simpa [Addr.add] using World.cell?_spot h0
  subst hspot
  have hlt : b < w.heap.size := by
    obtain ⟨v0, _, _, _, ⟨h0, _⟩, _⟩ := each 0 (by omega)
    rcases Nat.lt_or_ge b w.heap.size with h' | h'
    · exact h'
    · rw [Go.WideShapes.add_plain] at h0; simp [World.cell?, Array.getElem?_eq_none h'] at h0
  refine ⟨b, off, len, cap, n - 1, rfl, hl, hm, hlt, fun j hj => ?_⟩
  obtain ⟨v0, v1, y0, y1, ⟨h0, h1⟩, g0, g1⟩ := each j (by omega)
  rw [Go.WideShapes.add_plain] at h0 h1
  exact ⟨v0, v1, y0, y1, ⟨h0, by rw [Nat.add_assoc]; exact h1⟩, g0, g1⟩
end
theorem c_hld : Try.prog.cellsOf 69 = 2 := by kernel_rfl
theorem c_inth : Try.prog.cellsOf 3 = 1 := by kernel_rfl
set_option maxRecDepth 100000 in
theorem op_hlds {H : Type} {enc : TypeId × Value → H} {W : World} {base : Nat} {v : Value} {d : DataW H} {p : List MemPlace} (hv : Value.okWide Try.prog W .any base 41 v) (h : DataW.Trod enc Try.prog W 0 (fun _ => true) true 41 v d p) :
    ∃ (a : Option Addr) (len cap : Nat) (A : Nat → HV), v = .slice a len cap ∧ HldIn W a len A ∧ len ≤ maxLen := by
  obtain ⟨a, len, cap, rfl⟩ := okWide_slice Try.underlying41 hv
  obtain ⟨fuel, hf⟩ := h
  rcases open_duo Try.underlying41 Try.underlying69 c_hld rfl rfl c_inth c_inth hf with ⟨x, l, c, hcs, hl, hm⟩ | ⟨b, off, l, c, n, hcs, hl, hm, hb, hx⟩
  · simp [Value.cells] at hcs
    obtain ⟨rfl, rfl, rfl⟩ := hcs
    exact ⟨a, len, cap, fun _ => ⟨0, 0⟩, rfl, .inl hl, by omega⟩
  · simp [Value.cells] at hcs
    obtain ⟨rfl, rfl, rfl⟩ := hcs
    have each : ∀ j, j < len → ∃ A : HV, W.cell? ⟨b, off + j * 2, none⟩ = some (.int .i64 A.m) ∧ W.cell? ⟨b, off + j * 2 + 1, none⟩ = some (.int .i64 A.s) := by
      intro j hj
      obtain ⟨v0, v1, y0, y1, hc, g0, g1⟩ := hx j hj
      obtain ⟨x0, rfl⟩ := op_int g0
      obtain ⟨x1, rfl⟩ := op_int g1
      exact ⟨⟨x0, x1⟩, hc⟩
    have ⟨A, hA⟩ : ∃ A : Nat → HV, ∀ j, j < len → W.cell? ⟨b, off + j * 2, none⟩ = some (.int .i64 (A j).m) ∧ W.cell? ⟨b, off + j * 2 + 1, none⟩ = some (.int .i64 (A j).s) := by
      classical
      exact ⟨fun j => if h : j < len then (each j h).choose else ⟨0, 0⟩, fun j hj => by simp only [dif_pos hj]; exact (each j hj).choose_spec⟩
    exact ⟨_, _, _, A, rfl, .inr ⟨b, off, rfl, hb, hA⟩, by omega⟩
end Op
end Go.Proofs.Ytchgjdbmianajaa
/-
  Secrets: which shares are valid, what they tell together; the model's functions.
-/

namespace Go.Proofs.Ytchgjdbmianajaa
namespace Hd
open Go.RowKit Alg Mem Con
set_option linter.unusedVariables false

def hm (m : Int) : Bool := decide (1 ≤ m ∧ m ≤ 5)
theorem hm_iff {m : Int} : hm m = true ↔ 1 ≤ m ∧ m ≤ 5 := by simp [hm]
/-- One share fits behind those ahead of it. -/
def hkE (H : Nat → HV) (k : Nat) : Bool := hm (H k).m && (fok (H k).s && (k == 0 || decide ((H (k - 1)).m < (H k).m)))
/-- Are the first so many valid? -/
def hkF (H : Nat → HV) : Nat → Bool
  | 0 => true
  | k + 1 => hkF H k && hkE H k
theorem hkE_iff {H : Nat → HV} {k : Nat} : hkE H k = true ↔ (1 ≤ (H k).m ∧ (H k).m ≤ 5) ∧ fok (H k).s = true ∧ (k = 0 ∨ (H (k - 1)).m < (H k).m) := by
  simp [hkE, hm]
theorem hk_next {H : Nat → HV} {k : Nat} (h : hkF H k = true) (e : hkE H k = true) : hkF H (k + 1) = true := by simp [hkF, h, e]
theorem hk_iff {H : Nat → HV} {n : Nat} : hkF H n = true ↔ ∀ j, j < n → hkE H j = true := by
  induction n with
  | zero => simp [hkF]
  | succ n ih =>
    rw [hkF, Bool.and_eq_true, ih]
    refine ⟨fun h j hj => ?_, fun h => ⟨fun j hj => h j (by omega), h n (by omega)⟩⟩
    rcases (by omega : j < n ∨ j = n) with h' | rfl
    · exact h.1 j h'
    · exact h.2
theorem hk_no {H : Nat → HV} {k n : Nat} (hk : k < n) (e : hkE H k = false) : hkF H n = false := by
  cases h : hkF H n with
  | false => rfl
  | true => rw [hk_iff.1 h k hk] at e; cases e
theorem hk_less {H : Nat → HV} {k n : Nat} (h : hkF H n = true) (hk : k ≤ n) : hkF H k = true := hk_iff.2 fun j hj => hk_iff.1 h j (by omega)
theorem hk_at {H : Nat → HV} {n : Nat} (h : hkF H n = true) {j : Nat} (hj : j < n) : (1 ≤ (H j).m ∧ (H j).m ≤ 5) ∧ fok (H j).s = true := by
  obtain ⟨h1, h2, _⟩ := hkE_iff.1 (hk_iff.1 h j hj); exact ⟨h1, h2⟩
theorem hk_asc {H : Nat → HV} {n : Nat} (h : hkF H n = true) {i j : Nat} (hij : i < j) (hj : j < n) : (H i).m < (H j).m := by
  induction j with
  | zero => omega
  | succ j ih =>
    obtain ⟨_, _, h3⟩ := hkE_iff.1 (hk_iff.1 h (j + 1) hj)
    have h3 : (H j).m < (H (j + 1)).m := by rcases h3 with h3 | h3; omega; simpa using h3
    rcases (by omega : i < j ∨ i = j) with h' | rfl
    · have := ih h' (by omega); omega
    · exact h3
theorem hk_low {H : Nat → HV} {n : Nat} (h : hkF H n = true) {j : Nat} (hj : j < n) : (j : Int) + 1 ≤ (H j).m := by
  induction j with
  | zero => have := (hk_at h hj).1; omega
  | succ j ih => have := ih (by omega); have := hk_asc h (show j < j + 1 by omega) hj; omega
theorem hk_five {H : Nat → HV} {n : Nat} (h : hkF H n = true) : n ≤ 5 := by
  rcases (by omega : n ≤ 5 ∨ 5 < n) with h' | h'
  · exact h'
  · have h1 := hk_low h (show 5 < n from h'); have h2 := (hk_at h (show 5 < n from h')).1; omega
/-- The members. -/
def ms (H : Nat → HV) (j : Nat) : Int := (H j).m
theorem ms_fok {H : Nat → HV} {n : Nat} (h : hkF H n = true) : ∀ j, j < n → fok (ms H j) = true := fun j hj => by have := (hk_at h hj).1; exact fok_iff.2 (by unfold ms; omega)
theorem ms_ne {H : Nat → HV} {n : Nat} (h : hkF H n = true) : ∀ i j, i < n → j < n → i ≠ j → ms H i ≠ ms H j := fun i j hi hj hne => by
  unfold ms
  rcases (by omega : i < j ∨ j < i) with h' | h'
  · have := hk_asc h h' hj; omega
  · have := hk_asc h h' hi; omega
set_option maxHeartbeats 2000000 in
theorem shok (w : World) (a : Option Addr) (len cap : Nat) (H : Nat → HV) (hI : HldIn w a len H) (hl : len ≤ 2000000) :
    Calls Try.prog 44 #[.slice a len cap] w fun e w' => e = .returned (.bool (hkF H len)) ∧ w.grownBy w' none := by
  have HI := Lib.hid hI; clear hI
  go_enter Try.func44, Try.ntmps44
  go_wp2
  go_loopw [3] (fun i wr => ∃ k : Nat, k ≤ len ∧ i = .int .i64 k ∧ hkF H k = true ∧ w.grownBy wr none) (fun i _ => len - (intOf i).toNat)
  case atStart => exact ⟨0, by omega, rfl, rfl, Draw.grown_refl _ _⟩
  case round =>
    obtain ⟨k, hk, rfl, hz, hg⟩ := hrel
    have HZ := Lib.hid hz; have HG := Lib.hid hg; clear hz hg
    by_cases hlt : k < len
    · rcases HI.out.kept HG.out with h | ⟨b, off, rfl, hb, hcc⟩
      · omega
      obtain ⟨hc0, hc1⟩ := hcc k hlt
      cases hd : hm (H k).m with
      | false =>
        have HR := Lib.hid (hk_no (H := H) hlt (by simp [hkE, hd]))
        have HN := Lib.hid (show ¬ (1 ≤ (H k).m ∧ (H k).m ≤ 5) from fun h => by rw [hm_iff.2 h] at hd; cases hd)
        clear hcc hd
        go_wp2_with fail
        go_quiet (first | (go_at_call 45; refine Calls.quiet_of_same ((s6in_no _ _ _ _ HN.out).mono fun _ _ h => ⟨h.1, h.2.symm⟩)))
        go_wp2
        go_ret
        exact ⟨Mem.ret_b HR.out.symm, ⟨HG.out.os, HG.out.tape, HG.out.output, HG.out.size, HG.out.block⟩⟩
      | true =>
        obtain ⟨q1, q2⟩ := hm_iff.1 hd
        cases hs : fok (H k).s with
        | false =>
          have HR := Lib.hid (hk_no (H := H) hlt (by simp [hkE, hs]))
          have HS := Lib.hid hs
          clear hcc hd hs
          go_wp2_with fail
          go_quiet (first
            | (go_at_call 45; refine Calls.quiet_of_same ((s6in_yes _ _ _ _ q1 q2).mono fun _ _ h => ⟨h.1, h.2.symm⟩))
            | (go_at_call 36; refine Calls.quiet_of_same ((sok_no _ _ HS.out).mono fun _ _ h => ⟨h.1, h.2.symm⟩)))
          go_wp2
          go_ret
          exact ⟨Mem.ret_b HR.out.symm, ⟨HG.out.os, HG.out.tape, HG.out.output, HG.out.size, HG.out.block⟩⟩
        | true =>
          have HS := Lib.hid hs
          by_cases h0 : k = 0
          · subst h0
            have HZ1 := Lib.hid (hk_next HZ.out (hkE_iff.2 ⟨⟨q1, q2⟩, hs, .inl rfl⟩))
            clear hcc hd hs
            have e0 : off + 0 * 2 = off := by omega
            have e1 : off + 0 * 2 + 1 = off + 1 := by omega
            rw [e0] at hc0; rw [e1] at hc1
            have hz0 : ¬ (0 : Int) < ((0 : Nat) : Int) := by omega
            go_wp2_with fail
            go_quiet (first
              | (go_at_call 45; refine Calls.quiet_of_same ((s6in_yes _ _ _ _ q1 q2).mono fun _ _ h => ⟨h.1, h.2.symm⟩))
              | (go_at_call 36; refine Calls.quiet_of_same ((sok_yes _ _ HS.out).mono fun _ _ h => ⟨h.1, h.2.symm⟩)))
            go_wp2
            go_roundw
            case rel => exact ⟨0 + 1, by omega, by go_num, HZ1.out, ⟨HG.out.os, HG.out.tape, HG.out.output, HG.out.size, HG.out.block⟩⟩
            case measure => simp [intOf]; omega
          · obtain ⟨j, rfl⟩ : ∃ j, k = j + 1 := ⟨k - 1, by omega⟩
            obtain ⟨hd0, _⟩ := hcc j (by omega)
            have hpos : (0 : Int) < ((j + 1 : Nat) : Int) := by omega
            have hsub : (((j + 1 : Nat) : Int) - 1) = (j : Int) := by omega
            by_cases hle : (H (j + 1)).m ≤ (H j).m
            · have HR := Lib.hid (hk_no (H := H) hlt (by simp [hkE, hle]))
              clear hcc hd hs
              go_wp2_with fail
              go_quiet (first
                | (go_at_call 45; refine Calls.quiet_of_same ((s6in_yes _ _ _ _ q1 q2).mono fun _ _ h => ⟨h.1, h.2.symm⟩))
                | (go_at_call 36; refine Calls.quiet_of_same ((sok_yes _ _ HS.out).mono fun _ _ h => ⟨h.1, h.2.symm⟩)))
              go_wp2
              go_ret
              exact ⟨Mem.ret_b HR.out.symm, ⟨HG.out.os, HG.out.tape, HG.out.output, HG.out.size, HG.out.block⟩⟩
            · have HZ1 := Lib.hid (hk_next HZ.out (hkE_iff.2 ⟨⟨q1, q2⟩, hs, .inr (by simp; omega)⟩))
              clear hcc hd hs
              go_wp2_with fail
              go_quiet (first
                | (go_at_call 45; refine Calls.quiet_of_same ((s6in_yes _ _ _ _ q1 q2).mono fun _ _ h => ⟨h.1, h.2.symm⟩))
                | (go_at_call 36; refine Calls.quiet_of_same ((sok_yes _ _ HS.out).mono fun _ _ h => ⟨h.1, h.2.symm⟩)))
              go_wp2
              go_roundw
              case rel => exact ⟨j + 1 + 1, by omega, by go_num, HZ1.out, ⟨HG.out.os, HG.out.tape, HG.out.output, HG.out.size, HG.out.block⟩⟩
              case measure => simp [intOf]; omega
    · obtain rfl : k = len := by omega
      go_wp2
      go_ret
      exact ⟨Mem.ret_b HZ.out.symm, HG.out⟩
/-- What the first so many shares tell together: their sum, each with its factor at 0. -/
def jn (H : Nat → HV) (n k : Nat) : Pol.F := Ln.psum (fun j => Pol.lag (fl (ms H) n) j 0 * Pol.cv (H j).s) k
def jnF (H : Nat → HV) (n : Nat) : Int := Pol.fi (jn H n n)
theorem jn_step {H : Nat → HV} {n k : Nat} (hs : fok (H k).s = true) : (Pol.fi (jn H n k) + zline n (ms H) 0 k * (H k).s) % 23 = Pol.fi (jn H n (k + 1)) := by
  have h1 : Pol.fi (jn H n (k + 1)) = sumF (Pol.fi (jn H n k)) (mulF (zline n (ms H) 0 k) (H k).s) := by
    have e : jn H n (k + 1) = jn H n k + Pol.lag (fl (ms H) n) k 0 * Pol.cv (H k).s := rfl
    rw [e, ← Pol.fi_sum, ← Pol.fi_mul, Pol.fi_cv hs]; rfl
  have hz : fok (zline n (ms H) 0 k) = true := Pol.fi_ok _
  have hj : fok (Pol.fi (jn H n k)) = true := Pol.fi_ok _
  rw [h1, sumF_in hj (mulF_ok _ _), mulF_in hz hs]
  generalize zline n (ms H) 0 k * (H k).s = t
  omega
set_option maxRecDepth 100000 in
set_option maxHeartbeats 2000000 in
theorem s13join (w : World) (a : Option Addr) (len cap : Nat) (H : Nat → HV) (hI : HldIn w a len H) (hk : hkF H len = true) (h1 : 1 ≤ len) :
    Calls Try.prog 46 #[.slice a len cap] w fun e w' => e = .returned (.int .i64 (jnF H len)) ∧ w.grownBy w' none := by
  have HI := Lib.hid hI; have HK := Lib.hid hk; have h5 := hk_five hk; clear hI hk
  obtain ⟨i0, hi, hz0, hz1, hz2⟩ := info_parts info_int
  go_enter Try.func46, Try.ntmps46
  go_wp2
  go_loopw [3, 4] (fun v i wr => ∃ k b cap : Nat, k ≤ len ∧ v = .slice (some ⟨b, 0, none⟩) k cap ∧ i = .int .i64 k ∧ Row wr w.heap.size 3 b k cap (ms H) ∧ w.grownBy wr none) (fun _ i _ => len - (intOf i).toNat)
  case atStart => exact ⟨0, w.heap.size, 0, by omega, rfl, rfl, row_empty w _ _, Draw.grown_alloc _ _ _⟩
  case round =>
    obtain ⟨k, bo, co, hk, rfl, rfl, hr, hg⟩ := hrel
    have HG := Lib.hid hg; have hge := hr.from_; have HW := Lib.hid hr; clear hg hr
    have hsz := HG.out.size
    by_cases hlt : k < len
    · have hlt' : (k : Int) < (len : Int) := by omega
      rcases HI.out.kept HG.out with h | ⟨b, off, rfl, hb, hcc⟩
      · omega
      obtain ⟨hc0, _⟩ := hcc k hlt
      clear hcc
      go_wp2_with (at_builtin; refine wpList_append_own _ rfl _ _ 23 rfl w.heap.size 3 i0 (.int .i64 0) 1 8 und_ints hi hz0 hz1 hz2 rfl (by decide) _ k (vals (ms H) k) rfl (HW.out.alloc _).owns ⟨wr.heap.size, 0, none⟩ 1 1 [.int .i64 (H k).m] rfl rfl (cell_one_new _ _ _) (by simp [Value.oneCell']) (by unfold maxLen; omega) (by omega) (by simp; omega) ?_; intro v' w1 hown' hgrow _)
      obtain ⟨b', cap', rfl, hrow⟩ := app_row hown' (show (H k).m = ms H k from rfl)
      have HR := Lib.hid hrow; have HGr := Lib.hid (app_grown HG.out hge hgrow)
      clear hown' hgrow hrow
      go_wp2
      go_roundw
      case rel => exact ⟨k + 1, b', cap', by omega, rfl, by go_num, HR.out, HGr.out⟩
      case measure => simp [intOf]; omega
    · obtain rfl : k = len := by omega
      have hlt' : ¬ (k : Int) < (k : Int) := by omega
      obtain ⟨w2, hW⟩ : ∃ W, W = wr := ⟨_, rfl⟩; subst hW
      go_wp2_with fail
      refine (s3line _ _ k _ (ms H) 0 HW.out.ints h5 (ms_fok HK.out) (ms_ne HK.out) rfl).mono ?_
      rintro e w3 ⟨b3, c3, rfl, hr3, hg3⟩
      have HR3 := Lib.hid hr3; have HG3 := Lib.hid (gtr HG.out hg3)
      clear hr3 hg3
      go_wp2
      go_loopw [6, 7] (fun n i W => ∃ q : Nat, q ≤ k ∧ i = .int .i64 q ∧ n = .int .i64 (Pol.fi (jn H k q)) ∧ w3.grownBy W none) (fun _ i _ => k - (intOf i).toNat)
      case atStart => exact ⟨0, by omega, rfl, rfl, Draw.grown_refl _ _⟩
      case round =>
        obtain ⟨q, hq, rfl, rfl, hg⟩ := hrel
        have HGq := Lib.hid hg; clear hg
        by_cases hlt : q < k
        · have hlt' : (q : Int) < (k : Int) := by omega
          rcases HI.out.kept (gtr HG3.out HGq.out) with h | ⟨b, off, rfl, hb, hcc⟩
          · omega
          obtain ⟨_, hc1⟩ := hcc q hlt
          clear hcc
          have hl := (HR3.out.keptN HGq.out).cell hlt
          obtain ⟨s0, s1⟩ := fok_iff.1 (hk_at HK.out hlt).2
          obtain ⟨n0, n1⟩ := Pol.fi_range (jn H k q)
          obtain ⟨z0, z1⟩ := Pol.fi_range (Pol.lag (fl (ms H) k) q (Pol.cv 0))
          have HE := Lib.hid (jn_step (H := H) (n := k) (k := q) (hk_at HK.out hlt).2)
          have HZ0 : 0 ≤ zline k (ms H) 0 q := z0
          have HZ1 : zline k (ms H) 0 q ≤ 22 := z1
          have hm0 : 0 ≤ zline k (ms H) 0 q * (H q).s := Int.mul_nonneg HZ0 s0
          have hm1 : zline k (ms H) 0 q * (H q).s ≤ 22 * 22 := Int.mul_le_mul HZ1 (by omega) s0 (by decide)
          go_wp2_with fail
          go_quiet (fail)
          go_wp2
          go_roundw
          case rel => exact ⟨q + 1, by omega, by go_num, by rw [← HE.out], ⟨HGq.out.os, HGq.out.tape, HGq.out.output, HGq.out.size, HGq.out.block⟩⟩
          case measure => simp [intOf]; omega
        · obtain rfl : q = k := by omega
          go_wp2
          go_ret
          exact ⟨rfl, gtr HG3.out HGq.out⟩
/-- What SecretOf answers. -/
def soF (need : Int) (H : Nat → HV) (n : Nat) : Option Int := if hkF H n = true ∧ 1 ≤ need ∧ need ≤ n then some (jnF H need.toNat) else none
def soV : Option Int → Value
  | some s => .tuple #[.int .i64 s, .bool true]
  | none => .tuple #[.int .i64 0, .bool false]
theorem so_none {need : Int} {H : Nat → HV} {n : Nat} (h : hkF H n = false ∨ ¬ (1 ≤ need ∧ need ≤ n)) : soF need H n = none := by
  unfold soF; rw [if_neg]; rintro ⟨h1, h2⟩; rcases h with h | h
  · rw [h] at h1; cases h1
  · exact h h2
theorem so_some {q : Nat} {H : Nat → HV} {n : Nat} (h : hkF H n = true) (h1 : 1 ≤ q) (h2 : q ≤ n) : soF (q : Int) H n = some (jnF H q) := by
  unfold soF; rw [if_pos ⟨h, by omega, by omega⟩]; rfl
set_option maxHeartbeats 1000000 in
theorem s13of (w : World) (need : Int) (a : Option Addr) (len cap : Nat) (H : Nat → HV) (hI : HldIn w a len H) (hl : len ≤ 2000000) (hc : len ≤ cap) :
    Calls Try.prog 19 #[.int .i64 need, .slice a len cap] w fun e w' => e = .returned (soV (soF need H len)) ∧ w.grownBy w' none := by
  have HI := Lib.hid hI; clear hI
  cases hk : hkF H len with
  | false =>
    have HR := Lib.hid (so_none (need := need) (.inl hk))
    go_enter Try.func19, Try.ntmps19
    go_wp2_with fail
    refine (shok _ _ _ _ H HI.out hl).mono ?_
    rintro e w1 ⟨rfl, hg⟩
    rw [hk]
    have HG := Lib.hid hg; clear hg
    go_wp2
    go_ret2
    exact ⟨by rw [HR.out]; rfl, HG.out⟩
  | true =>
    by_cases hn : 1 ≤ need ∧ need ≤ (len : Int)
    · obtain ⟨q, rfl⟩ : ∃ q : Nat, need = q := ⟨need.toNat, by omega⟩
      have hq1 : 1 ≤ q := by omega
      have hq2 : q ≤ len := by omega
      have HR := Lib.hid (so_some hk hq1 hq2)
      have HK := Lib.hid (hk_less hk hq2)
      obtain ⟨n1, n2⟩ := hn
      go_enter Try.func19, Try.ntmps19
      go_wp2_with fail
      refine (shok _ _ _ _ H HI.out hl).mono ?_
      rintro e w1 ⟨rfl, hg⟩
      rw [hk]
      have HG := Lib.hid hg; clear hg
      have HI1 := Lib.hid ((HI.out.kept HG.out).less hq2)
      obtain ⟨b, off, rfl, _, _⟩ : ∃ b off, a = some ⟨b, off, none⟩ ∧ True ∧ True := by
        rcases HI.out with h | ⟨b, off, rfl, _, _⟩
        · omega
        · exact ⟨b, off, rfl, trivial, trivial⟩
      go_wp2_with fail
      refine (s6in_yes _ _ _ _ n1 n2).mono ?_
      rintro e w' ⟨rfl, rfl⟩
      go_wp2_with fail
      refine (s13join _ _ q _ H HI1.out HK.out hq1).mono ?_
      rintro e w2 ⟨rfl, hg⟩
      have HG2 := Lib.hid (gtr HG.out hg); clear hg
      go_wp2
      go_ret2
      exact ⟨by rw [HR.out]; rfl, HG2.out⟩
    · have HR := Lib.hid (so_none (H := H) (n := len) (.inr hn))
      go_enter Try.func19, Try.ntmps19
      go_wp2_with fail
      refine (shok _ _ _ _ H HI.out hl).mono ?_
      rintro e w1 ⟨rfl, hg⟩
      rw [hk]
      have HG := Lib.hid hg; clear hg
      go_wp2_with fail
      refine (s6in_no _ _ _ _ hn).mono ?_
      rintro e w' ⟨rfl, rfl⟩
      go_wp2
      go_ret2
      exact ⟨by rw [HR.out]; rfl, HG.out⟩
end Hd
end Go.Proofs.Ytchgjdbmianajaa
/-
  Secrets: in how many ways; the model's functions.
-/

namespace Go.Proofs.Ytchgjdbmianajaa
namespace Hd
open Go.RowKit Alg Mem Con
set_option linter.unusedVariables false

/-- Has a polynomial the first k shares? -/
def hsF (z : Nat → Int) (p : Nat) (H : Nat → HV) : Nat → Bool
  | 0 => true
  | k + 1 => hsF z p H k && (Pol.fi (Pol.ev (fl z p) (Pol.cv (H k).m)) == (H k).s)
theorem hs_iff {z : Nat → Int} {p : Nat} {H : Nat → HV} {n : Nat} : hsF z p H n = true ↔ ∀ j, j < n → Pol.fi (Pol.ev (fl z p) (Pol.cv (H j).m)) = (H j).s := by
  induction n with
  | zero => simp [hsF]
  | succ n ih =>
    rw [hsF, Bool.and_eq_true, ih, beq_iff_eq]
    refine ⟨fun h j hj => ?_, fun h => ⟨fun j hj => h j (by omega), h n (by omega)⟩⟩
    rcases (by omega : j < n ∨ j = n) with h' | rfl
    · exact h.1 j h'
    · exact h.2
theorem hs_no {z : Nat → Int} {p : Nat} {H : Nat → HV} {k n : Nat} (hk : k < n) (e : ¬ Pol.fi (Pol.ev (fl z p) (Pol.cv (H k).m)) = (H k).s) : hsF z p H n = false := by
  cases h : hsF z p H n with
  | false => rfl
  | true => exact absurd (hs_iff.1 h k hk) e
/-- How many of the first k. -/
def cN (f : Nat → Bool) : Nat → Nat
  | 0 => 0
  | k + 1 => if f k then cN f k + 1 else cN f k
def sN (f : Nat → Nat) : Nat → Nat
  | 0 => 0
  | k + 1 => sN f k + f k
theorem cN_le (f : Nat → Bool) (k : Nat) : cN f k ≤ k := by
  induction k with
  | zero => exact Nat.le_refl _
  | succ k ih => unfold cN; split <;> omega
theorem cN_yes {f : Nat → Bool} {k : Nat} (h : f k = true) : cN f (k + 1) = cN f k + 1 := by simp [cN, h]
theorem cN_no {f : Nat → Bool} {k : Nat} (h : f k = false) : cN f (k + 1) = cN f k := by simp [cN, h]
theorem sN_le (f : Nat → Nat) (m k : Nat) (h : ∀ j, f j ≤ m) : sN f k ≤ k * m := by
  induction k with
  | zero => simp [sN]
  | succ k ih => unfold sN; have := h k; rw [Nat.succ_mul]; omega
/-- The polynomials of one, two and three numbers. -/
def z1 (s : Int) (_ : Nat) : Int := s
def z2 (s a : Int) (j : Nat) : Int := if j = 0 then s else a
def z3 (s a b : Int) (j : Nat) : Int := if j = 0 then s else if j = 1 then a else b
theorem lit1 (w : World) (T : TypeId) (s : Int) : Ints (w.alloc (.cells #[.int .i64 s] T)) (some ⟨w.heap.size, 0, none⟩) 1 (z1 s) := by
  have q := Blk.new w #[.int .i64 s] T
  refine .inr ⟨_, 0, rfl, q.lt, fun j hj => ?_⟩
  obtain rfl : j = 0 := by omega
  exact q.cell 0
theorem lit2 (w : World) (T : TypeId) (s a : Int) : Ints (w.alloc (.cells #[.int .i64 s, .int .i64 a] T)) (some ⟨w.heap.size, 0, none⟩) 2 (z2 s a) := by
  have q := Blk.new w #[.int .i64 s, .int .i64 a] T
  refine .inr ⟨_, 0, rfl, q.lt, fun j hj => ?_⟩
  rw [Nat.zero_add]
  rcases (by omega : j = 0 ∨ j = 1) with rfl | rfl
  · exact q.cell 0
  · exact q.cell 1
theorem lit3 (w : World) (T : TypeId) (s a b : Int) : Ints (w.alloc (.cells #[.int .i64 s, .int .i64 a, .int .i64 b] T)) (some ⟨w.heap.size, 0, none⟩) 3 (z3 s a b) := by
  have q := Blk.new w #[.int .i64 s, .int .i64 a, .int .i64 b] T
  refine .inr ⟨_, 0, rfl, q.lt, fun j hj => ?_⟩
  rw [Nat.zero_add]
  rcases (by omega : j = 0 ∨ j = 1 ∨ j = 2) with rfl | rfl | rfl
  · exact q.cell 0
  · exact q.cell 1
  · exact q.cell 2
theorem z1_fok {s : Int} (h : fok s = true) : ∀ j, j < 1 → fok (z1 s j) = true := fun j _ => h
theorem z2_fok {s a : Int} (h : fok s = true) (h2 : fok a = true) : ∀ j, j < 2 → fok (z2 s a j) = true := fun j _ => by unfold z2; split <;> assumption
theorem z3_fok {s a b : Int} (h : fok s = true) (h2 : fok a = true) (h3 : fok b = true) : ∀ j, j < 3 → fok (z3 s a b j) = true := fun j _ => by
  unfold z3; split
  · assumption
  · split <;> assumption
def h2F (H : Nat → HV) (n : Nat) (s : Int) (a : Nat) : Bool := hsF (z2 s a) 2 H n
def h3F (H : Nat → HV) (n : Nat) (s : Int) (a b : Nat) : Bool := hsF (z3 s a b) 3 H n
def w1N (H : Nat → HV) (n : Nat) (s : Int) : Nat := if hsF (z1 s) 1 H n then 1 else 0
def w2N (H : Nat → HV) (n : Nat) (s : Int) (k : Nat) : Nat := cN (h2F H n s) k
def w3I (H : Nat → HV) (n : Nat) (s : Int) (a k : Nat) : Nat := cN (h3F H n s a) k
def w3N (H : Nat → HV) (n : Nat) (s : Int) (k : Nat) : Nat := sN (fun a => w3I H n s a 23) k
/-- In how many ways. -/
def wyN (need : Int) (H : Nat → HV) (n : Nat) (s : Int) : Nat := if need = 1 then w1N H n s else if need = 2 then w2N H n s 23 else w3N H n s 23
def wyOk (need : Int) (H : Nat → HV) (n : Nat) (s : Int) : Bool := decide (1 ≤ need ∧ need ≤ 3) && (hkF H n && fok s)
def wyF (need : Int) (H : Nat → HV) (n : Nat) (s : Int) : Int := if wyOk need H n s = true then (wyN need H n s : Int) else -1
theorem wy_no {need : Int} {H : Nat → HV} {n : Nat} {s : Int} (h : wyOk need H n s = false) : wyF need H n s = -1 := by simp [wyF, h]
theorem wy_yes {need : Int} {H : Nat → HV} {n : Nat} {s : Int} (h1 : 1 ≤ need) (h3 : need ≤ 3) (hk : hkF H n = true) (hs : fok s = true) : wyF need H n s = (wyN need H n s : Int) := by
  unfold wyF; rw [if_pos (by simp [wyOk, h1, h3, hk, hs])]
theorem w3_le (H : Nat → HV) (n : Nat) (s : Int) (k : Nat) : w3N H n s k ≤ k * 23 := sN_le _ 23 k fun j => cN_le _ 23
end Hd
end Go.Proofs.Ytchgjdbmianajaa
/-
  Secrets: how many polynomials have a value at 0 and so many shares. Plain counting.
-/

namespace Go.Proofs.Ytchgjdbmianajaa
namespace Hd
open Alg Con Pol
set_option linter.unusedVariables false

abbrev MM (H : Nat → HV) (j : Nat) : F := cv (H j).m
abbrev SS (H : Nat → HV) (j : Nat) : F := cv (H j).s
def nf (x : F) : Nat := x.val
theorem nf_lt (x : F) : nf x < 23 := x.isLt
theorem cv_nf (x : F) : cv ((nf x : Nat) : Int) = x := cv_fi x
theorem nf_cv {a : Nat} (h : a < 23) : nf (cv (a : Int)) = a := by
  have := fi_cv (a := (a : Int)) (fok_mk (by omega) (by omega))
  have h2 : ((nf (cv (a : Int)) : Nat) : Int) = (a : Int) := this
  omega
theorem nf_eq {a : Nat} {x : F} (h : a < 23) : cv (a : Int) = x ↔ a = nf x := ⟨fun e => by rw [← e, nf_cv h], fun e => by rw [e, cv_nf]⟩
/-! Counting. -/
theorem cN_congr {f g : Nat → Bool} {k : Nat} (h : ∀ j, j < k → f j = g j) : cN f k = cN g k := by
  induction k with
  | zero => rfl
  | succ k ih => unfold cN; rw [ih fun j hj => h j (by omega), h k (by omega)]
theorem cN_all {k : Nat} {f : Nat → Bool} (h : ∀ j, j < k → f j = true) : cN f k = k := by
  induction k with
  | zero => rfl
  | succ k ih => unfold cN; rw [ih fun j hj => h j (by omega), h k (by omega)]; rfl
theorem cN_none {k : Nat} {f : Nat → Bool} (h : ∀ j, j < k → f j = false) : cN f k = 0 := by
  induction k with
  | zero => rfl
  | succ k ih => unfold cN; rw [ih fun j hj => h j (by omega), h k (by omega)]; rfl
theorem cN_at {f : Nat → Bool} {e : Nat} {k : Nat} (h : ∀ j, j < k → f j = true → j = e) : cN f k = if e < k ∧ f e = true then 1 else 0 := by
  induction k with
  | zero => simp [cN]
  | succ k ih =>
    have ih := ih fun j hj => h j (by omega)
    cases hf : f k with
    | true =>
      obtain rfl := h k (by omega) hf
      rw [cN_yes hf, ih]; simp [hf]
    | false =>
      rw [cN_no hf, ih]
      by_cases he : e = k
      · subst he; simp [hf]
      · congr 1; apply propext; constructor
        · rintro ⟨h1, h2⟩; exact ⟨by omega, h2⟩
        · rintro ⟨h1, h2⟩; exact ⟨by omega, h2⟩
theorem sN_all {f : Nat → Nat} {m k : Nat} (h : ∀ j, j < k → f j = m) : sN f k = k * m := by
  induction k with
  | zero => simp [sN]
  | succ k ih => unfold sN; rw [ih fun j hj => h j (by omega), h k (by omega), Nat.succ_mul]
theorem sN_at {f : Nat → Nat} {e k : Nat} (h : ∀ j, j < k → j ≠ e → f j = 0) : sN f k = if e < k then f e else 0 := by
  induction k with
  | zero => simp [sN]
  | succ k ih =>
    unfold sN; rw [ih fun j hj => h j (by omega)]
    by_cases he : e = k
    · subst he; simp
    · rw [h k (by omega) (by omega), Nat.add_zero]
      by_cases h1 : e < k
      · rw [if_pos h1, if_pos (by omega)]
      · rw [if_neg h1, if_neg (by omega)]
/-! Which polynomials fit. -/
theorem fit_iff {H : Nat → HV} {n : Nat} (hk : hkF H n = true) {z : Nat → Int} {p : Nat} : hsF z p H n = true ↔ ∀ j, j < n → ev (fl z p) (MM H j) = SS H j := by
  rw [hs_iff]
  refine forall_congr' fun j => forall_congr' fun hj => ?_
  have hs := (hk_at hk hj).2
  constructor
  · intro h; rw [← cv_fi (ev (fl z p) (MM H j)), h]
  · intro h; rw [h, fi_cv hs]
theorem fl1 (s : Int) : fl (z1 s) 1 = [cv s] := rfl
theorem fl2 (s a : Int) : fl (z2 s a) 2 = [cv s, cv a] := rfl
theorem fl3 (s a b : Int) : fl (z3 s a b) 3 = [cv s, cv a, cv b] := rfl
theorem ev1 (a x : F) : ev [a] x = a := by simp only [ev]; grind
theorem ev2 (a b x : F) : ev [a, b] x = a + x * b := by simp only [ev]; grind
theorem ev3 (a b c x : F) : ev [a, b, c] x = a + x * b + x * x * c := by simp only [ev]; grind
theorem h1_iff {H : Nat → HV} {n : Nat} (hk : hkF H n = true) {s : Int} : hsF (z1 s) 1 H n = true ↔ ∀ j, j < n → cv s = SS H j := by
  rw [fit_iff hk, fl1]; simp only [ev1]
theorem h2_iff {H : Nat → HV} {n : Nat} (hk : hkF H n = true) {s : Int} {a : Nat} : h2F H n s a = true ↔ ∀ j, j < n → cv s + MM H j * cv (a : Int) = SS H j := by
  unfold h2F; rw [fit_iff hk, fl2]; simp only [ev2]
theorem h3_iff {H : Nat → HV} {n : Nat} (hk : hkF H n = true) {s : Int} {a b : Nat} : h3F H n s a b = true ↔ ∀ j, j < n → cv s + MM H j * cv (a : Int) + MM H j * MM H j * cv (b : Int) = SS H j := by
  unfold h3F; rw [fit_iff hk, fl3]; simp only [ev3]
theorem mm_ne {H : Nat → HV} {n : Nat} (hk : hkF H n = true) {j : Nat} (hj : j < n) : MM H j ≠ 0 := by
  have h := (hk_at hk hj).1
  intro e
  have := (cv_inj (a := (H j).m) (b := 0) (fok_mk (by omega) (by omega)) rfl).1 e
  omega
theorem mm_sub {H : Nat → HV} {n : Nat} (hk : hkF H n = true) {i j : Nat} (hi : i < n) (hj : j < n) (hne : i ≠ j) : MM H i - MM H j ≠ 0 := by
  refine sub_ne fun e => ?_
  exact ms_ne hk i j hi hj hne ((cv_inj (ms_fok hk i hi) (ms_fok hk j hj)).1 e)
/-! Two numbers: the second is told by one share. -/
theorem two_a {s m d : F} (hm : m ≠ 0) (a : F) : s + m * a = d ↔ a = (d - s) * inv m := by
  have hi := mul_inv hm
  constructor
  · intro h; subst h; grind
  · intro h; subst h; grind
theorem w2_one {H : Nat → HV} {s : Int} (hk : hkF H 1 = true) : w2N H 1 s 23 = 1 := by
  have hm := mm_ne hk (show 0 < 1 by omega)
  have hf : ∀ a, a < 23 → (h2F H 1 s a = true ↔ a = nf ((SS H 0 - cv s) * inv (MM H 0))) := fun a ha => by
    rw [h2_iff hk, ← nf_eq ha, ← two_a hm]
    exact ⟨fun h => h 0 (by omega), fun h j hj => by obtain rfl : j = 0 := by omega
                                                     exact h⟩
  unfold w2N
  rw [cN_at fun j hj h => (hf j hj).1 h, if_pos ⟨nf_lt _, (hf _ (nf_lt _)).2 rfl⟩]
theorem w2_le {H : Nat → HV} {n : Nat} {s : Int} (hk : hkF H n = true) (hn : 1 ≤ n) : w2N H n s 23 ≤ 1 := by
  have hm := mm_ne hk (show 0 < n by omega)
  have hf : ∀ a, a < 23 → h2F H n s a = true → a = nf ((SS H 0 - cv s) * inv (MM H 0)) := fun a ha h => by
    rw [← nf_eq ha, ← two_a hm]; exact (h2_iff hk).1 h 0 (by omega)
  unfold w2N
  rw [cN_at hf]; split <;> omega
/-! Three numbers: the third is told by one share and the second; both by two shares. -/
theorem three_b {s m d a : F} (hm : m ≠ 0) (b : F) : s + m * a + m * m * b = d ↔ b = (d - s - m * a) * (inv m * inv m) := by
  have hi := mul_inv hm
  constructor
  · intro h; subst h; grind
  · intro h; subst h; grind
theorem w3_one {H : Nat → HV} {s : Int} (hk : hkF H 1 = true) : w3N H 1 s 23 = 23 := by
  have hm := mm_ne hk (show 0 < 1 by omega)
  unfold w3N
  rw [sN_all (m := 1)]
  intro a ha
  have hf : ∀ b, b < 23 → (h3F H 1 s a b = true ↔ b = nf ((SS H 0 - cv s - MM H 0 * cv (a : Int)) * (inv (MM H 0) * inv (MM H 0)))) := fun b hb => by
    rw [h3_iff hk, ← nf_eq hb, ← three_b hm]
    exact ⟨fun h => h 0 (by omega), fun h j hj => by obtain rfl : j = 0 := by omega
                                                     exact h⟩
  unfold w3I
  rw [cN_at fun j hj h => (hf j hj).1 h, if_pos ⟨nf_lt _, (hf _ (nf_lt _)).2 rfl⟩]
theorem cancel {m u : F} (i : m * u = 1) (d : F) : m * (d * u) = d := by
  have h : m * (d * u) = d * (m * u) := by grind
  rw [h, i]; grind
theorem cancel' {m u : F} (i : m * u = 1) (d : F) : m * d * u = d := by
  have h : m * d * u = d * (m * u) := by grind
  rw [h, i]; grind
theorem part (s m a b : F) : s + m * a + m * m * b - s = m * (a + m * b) := by grind
def bSol (s m0 m1 d0 d1 : F) : F := ((d1 - s) * inv m1 - (d0 - s) * inv m0) * inv (m1 - m0)
def aSol (s m0 m1 d0 d1 : F) : F := (d0 - s) * inv m0 - m0 * bSol s m0 m1 d0 d1
theorem three_ab {s m0 m1 d0 d1 : F} (h0 : m0 ≠ 0) (h1 : m1 ≠ 0) (h : m1 - m0 ≠ 0) (a b : F) :
    (s + m0 * a + m0 * m0 * b = d0 ∧ s + m1 * a + m1 * m1 * b = d1) ↔ (a = aSol s m0 m1 d0 d1 ∧ b = bSol s m0 m1 d0 d1) := by
  have i0 := mul_inv h0; have i1 := mul_inv h1; have i2 := mul_inv h
  unfold aSol bSol
  generalize inv m0 = u at *
  generalize inv m1 = v at *
  generalize inv (m1 - m0) = x at *
  constructor
  · rintro ⟨e0, e1⟩
    subst e0; subst e1
    rw [part, part, cancel' i1, cancel' i0]
    have hb : (a + m1 * b - (a + m0 * b)) * x = b := by
      have e : a + m1 * b - (a + m0 * b) = (m1 - m0) * b := by grind
      rw [e]; exact cancel' i2 b
    rw [hb]
    exact ⟨by grind, rfl⟩
  · rintro ⟨ea, eb⟩
    have h0' := cancel i0 (d0 - s)
    have h1' := cancel i1 (d1 - s)
    have hb : (m1 - m0) * b = (d1 - s) * v - (d0 - s) * u := by rw [eb]; exact cancel i2 _
    rw [← eb] at ea
    generalize (d0 - s) * u = y0 at *
    generalize (d1 - s) * v = y1 at *
    clear eb i0 i1 i2 h0 h1 h
    have ha0 : a + m0 * b = y0 := by rw [ea]; grind
    have e0 : s + m0 * a + m0 * m0 * b = s + m0 * (a + m0 * b) := by grind
    refine ⟨by rw [e0, ha0, h0']; grind, ?_⟩
    have hb' : m1 * b - m0 * b = y1 - y0 := by rw [← hb]; grind
    have ha' : a + m1 * b = y1 := by
      have e : a + m1 * b = a + m0 * b + (m1 * b - m0 * b) := by grind
      rw [e, ha0, hb']; grind
    have : s + m1 * a + m1 * m1 * b = s + m1 * (a + m1 * b) := by grind
    rw [this, ha', h1']; grind
theorem w3_sol {H : Nat → HV} {n : Nat} {s : Int} (hk : hkF H n = true) (hn : 2 ≤ n) : ∀ a b, a < 23 → b < 23 → h3F H n s a b = true → a = nf (aSol (cv s) (MM H 0) (MM H 1) (SS H 0) (SS H 1)) ∧ b = nf (bSol (cv s) (MM H 0) (MM H 1) (SS H 0) (SS H 1)) := fun a b ha hb h => by
  have h' := (h3_iff hk).1 h
  have := (three_ab (mm_ne hk (show 0 < n by omega)) (mm_ne hk (show 1 < n by omega)) (mm_sub hk (show 1 < n by omega) (show 0 < n by omega) (by omega)) (cv (a : Int)) (cv (b : Int))).1 ⟨h' 0 (by omega), h' 1 (by omega)⟩
  exact ⟨(nf_eq ha).1 this.1, (nf_eq hb).1 this.2⟩
theorem w3_at {H : Nat → HV} {n : Nat} {s : Int} {ea eb : Nat} (ha : ea < 23) (hb : eb < 23) (h : ∀ a b, a < 23 → b < 23 → h3F H n s a b = true → a = ea ∧ b = eb) : w3N H n s 23 = if h3F H n s ea eb = true then 1 else 0 := by
  unfold w3N
  rw [sN_at (e := ea) fun a ha' hne => by
    unfold w3I
    refine cN_none fun b hb' => ?_
    cases hq : h3F H n s a b with
    | false => rfl
    | true => exact absurd (h a b ha' hb' hq).1 hne, if_pos ha]
  unfold w3I
  rw [cN_at (e := eb) fun b hb' hq => (h ea b ha hb' hq).2]
  simp [hb]
theorem w3_two {H : Nat → HV} {s : Int} (hk : hkF H 2 = true) : w3N H 2 s 23 = 1 := by
  rw [w3_at (nf_lt _) (nf_lt _) (w3_sol hk (Nat.le_refl 2)), if_pos]
  rw [h3_iff hk]
  have := (three_ab (mm_ne hk (show 0 < 2 by omega)) (mm_ne hk (show 1 < 2 by omega)) (mm_sub hk (show 1 < 2 by omega) (show 0 < 2 by omega) (by omega)) _ _).2 (⟨rfl, rfl⟩ : aSol (cv s) (MM H 0) (MM H 1) (SS H 0) (SS H 1) = _ ∧ bSol (cv s) (MM H 0) (MM H 1) (SS H 0) (SS H 1) = _)
  intro j hj
  rw [cv_nf, cv_nf]
  rcases (by omega : j = 0 ∨ j = 1) with rfl | rfl
  · exact this.1
  · exact this.2
theorem w3_le1 {H : Nat → HV} {n : Nat} {s : Int} (hk : hkF H n = true) (hn : 2 ≤ n) : w3N H n s 23 ≤ 1 := by
  rw [w3_at (nf_lt _) (nf_lt _) (w3_sol hk hn)]; split <;> omega
/-- Fewer shares than numbers: as many ways as there are numbers left, but one. -/
theorem ways_few {H : Nat → HV} {n q : Nat} {s : Int} (hk : hkF H n = true) (h1 : 1 ≤ q) (h3 : q ≤ 3) (hn : n < q) : wyN (q : Int) H n s = 23 ^ (q - n - 1) := by
  unfold wyN
  rcases (by omega : (q = 1 ∧ n = 0) ∨ (q = 2 ∧ n = 0) ∨ (q = 2 ∧ n = 1) ∨ (q = 3 ∧ n = 0) ∨ (q = 3 ∧ n = 1) ∨ (q = 3 ∧ n = 2)) with ⟨rfl, rfl⟩ | ⟨rfl, rfl⟩ | ⟨rfl, rfl⟩ | ⟨rfl, rfl⟩ | ⟨rfl, rfl⟩ | ⟨rfl, rfl⟩
  · rfl
  · show w2N H 0 s 23 = 23
    exact cN_all fun _ _ => rfl
  · exact w2_one hk
  · show w3N H 0 s 23 = 529
    exact sN_all (m := 23) fun a _ => cN_all fun _ _ => rfl
  · exact w3_one hk
  · exact w3_two hk
/-- A polynomial of so many numbers that has the shares tells what they tell. -/
theorem own_of {H : Nat → HV} {n q : Nat} {z : Nat → Int} (hk : hkF H n = true) (h1 : 1 ≤ q) (hn : q ≤ n) (h : hsF z q H n = true) : jn H q q = ev (fl z q) 0 := by
  have hf := (fit_iff hk).1 h
  have hkq := hk_less hk hn
  have hv := Ln.line_value (n := q) (z := ms H) (p := fl z q) (x := 0) (plok_iff.2 ⟨hk_five hkq, fun j hj => ⟨ms_fok hkq j hj, hasz_no.2 fun i hi => ms_ne hkq i j (by omega) hj (by omega)⟩⟩) h1 (by rw [fl_length]; exact Nat.le_refl _)
  rw [show cv (0 : Int) = 0 from rfl] at hv
  rw [← hv]
  unfold jn
  suffices ∀ k, k ≤ q → Ln.psum (fun j => lag (fl (ms H) q) j 0 * cv (H j).s) k = Ln.psum (fun j => lag (fl (ms H) q) j 0 * ev (fl z q) (cv (ms H j))) k from this q (Nat.le_refl _)
  intro k
  induction k with
  | zero => intro _; rfl
  | succ k ih =>
    intro hk'
    show Ln.psum _ k + lag (fl (ms H) q) k 0 * SS H k = Ln.psum _ k + lag (fl (ms H) q) k 0 * ev (fl z q) (MM H k)
    rw [ih (by omega), hf k (by omega)]
theorem own_s {H : Nat → HV} {n q : Nat} {z : Nat → Int} {s : Int} (hk : hkF H n = true) (h1 : 1 ≤ q) (hn : q ≤ n) (hs : fok s = true) (hz : z 0 = s) (h : hsF z q H n = true) : jnF H q = s := by
  unfold jnF
  rw [own_of hk h1 hn h, ev_zero]
  obtain ⟨m, rfl⟩ : ∃ m, q = m + 1 := ⟨q - 1, by omega⟩
  rw [show (fl z (m + 1)).headD 0 = cv (z 0) by simp [fl, List.range_succ_eq_map], hz, fi_cv hs]
/-- As many shares as numbers, or more: at most one way; none, but for what they tell. -/
theorem ways_le {H : Nat → HV} {n q : Nat} {s : Int} (hk : hkF H n = true) (h1 : 1 ≤ q) (h3 : q ≤ 3) (hn : q ≤ n) : wyN (q : Int) H n s ≤ 1 := by
  unfold wyN
  rcases (by omega : q = 1 ∨ q = 2 ∨ q = 3) with rfl | rfl | rfl
  · show w1N H n s ≤ 1
    unfold w1N; split <;> omega
  · exact w2_le hk (by omega)
  · exact w3_le1 hk (by omega)
theorem ways_other {H : Nat → HV} {n q : Nat} {s : Int} (hk : hkF H n = true) (hs : fok s = true) (h1 : 1 ≤ q) (h3 : q ≤ 3) (hn : q ≤ n) (hne : s ≠ jnF H q) : wyN (q : Int) H n s = 0 := by
  unfold wyN
  rcases (by omega : q = 1 ∨ q = 2 ∨ q = 3) with rfl | rfl | rfl
  · show w1N H n s = 0
    unfold w1N; rw [if_neg fun h => hne (own_s hk h1 hn hs rfl h).symm]
  · show w2N H n s 23 = 0
    refine cN_none fun a _ => ?_
    cases hq : h2F H n s a with
    | false => rfl
    | true => exact absurd (own_s hk h1 hn hs rfl hq).symm hne
  · show w3N H n s 23 = 0
    have e : ∀ a, a < 23 → w3I H n s a 23 = 0 := fun a _ => cN_none fun b _ => by
      cases hq : h3F H n s a b with
      | false => rfl
      | true => exact absurd (own_s hk h1 hn hs rfl hq).symm hne
    unfold w3N
    rw [sN_all (m := 0) e]
theorem cN_pos {f : Nat → Bool} {k e : Nat} (he : e < k) (h : f e = true) : 1 ≤ cN f k := by
  induction k with
  | zero => omega
  | succ k ih =>
    unfold cN
    rcases (by omega : e < k ∨ e = k) with h' | rfl
    · have := ih h'; split <;> omega
    · rw [if_pos h]; omega
theorem sN_ge {f : Nat → Nat} {k e : Nat} (he : e < k) : f e ≤ sN f k := by
  induction k with
  | zero => omega
  | succ k ih =>
    unfold sN
    rcases (by omega : e < k ∨ e = k) with h' | rfl
    · have := ih h'; omega
    · omega
/-- Just as many shares as numbers: one way for what they tell. -/
theorem ways_own {H : Nat → HV} {q : Nat} (hk : hkF H q = true) (h1 : 1 ≤ q) (h3 : q ≤ 3) : wyN (q : Int) H q (jnF H q) = 1 := by
  have hle := ways_le (s := jnF H q) hk h1 h3 (Nat.le_refl q)
  suffices 1 ≤ wyN (q : Int) H q (jnF H q) by omega
  rcases (by omega : q = 1 ∨ q = 2 ∨ q = 3) with rfl | rfl | rfl
  · have hs := (hk_at hk (show 0 < 1 by omega)).2
    have hf : hsF (z1 (H 0).s) 1 H 1 = true := (h1_iff hk).2 fun j hj => by
      obtain rfl : j = 0 := by omega
      rfl
    rw [own_s hk h1 (Nat.le_refl _) hs rfl hf]
    show 1 ≤ w1N H 1 (H 0).s
    unfold w1N; rw [if_pos hf]; omega
  · have h10 := mm_sub hk (show 1 < 2 by omega) (show 0 < 2 by omega) (by omega)
    have i10 := mul_inv h10
    have hf : h2F H 2 (fi (SS H 0 - MM H 0 * ((SS H 1 - SS H 0) * inv (MM H 1 - MM H 0)))) (nf ((SS H 1 - SS H 0) * inv (MM H 1 - MM H 0))) = true := by
      rw [h2_iff hk]
      intro j hj
      rw [cv_nf, cv_fi]
      generalize inv (MM H 1 - MM H 0) = x at *
      rcases (by omega : j = 0 ∨ j = 1) with rfl | rfl
      · grind
      · have : (MM H 1 - MM H 0) * ((SS H 1 - SS H 0) * x) = SS H 1 - SS H 0 := by grind
        grind
    rw [own_s hk h1 (Nat.le_refl _) (fi_ok _) rfl hf]
    exact cN_pos (nf_lt _) hf
  · have h10 := mm_sub hk (show 1 < 3 by omega) (show 0 < 3 by omega) (by omega)
    have h20 := mm_sub hk (show 2 < 3 by omega) (show 0 < 3 by omega) (by omega)
    have h21 := mm_sub hk (show 2 < 3 by omega) (show 1 < 3 by omega) (by omega)
    have i10 := mul_inv h10; have i20 := mul_inv h20; have i21 := mul_inv h21
    obtain ⟨c0, c1, c2, e0, e1, e2⟩ : ∃ c0 c1 c2 : F, c0 + MM H 0 * c1 + MM H 0 * MM H 0 * c2 = SS H 0 ∧ c0 + MM H 1 * c1 + MM H 1 * MM H 1 * c2 = SS H 1 ∧ c0 + MM H 2 * c1 + MM H 2 * MM H 2 * c2 = SS H 2 := by
      generalize inv (MM H 1 - MM H 0) = x at *
      generalize inv (MM H 2 - MM H 0) = y at *
      generalize inv (MM H 2 - MM H 1) = u at *
      generalize MM H 0 = m0 at *
      generalize MM H 1 = m1 at *
      generalize MM H 2 = m2 at *
      generalize SS H 0 = s0 at *
      generalize SS H 1 = s1 at *
      generalize SS H 2 = s2 at *
      obtain ⟨d, hd⟩ : ∃ d, (m1 - m0) * d = s1 - s0 := ⟨_, cancel i10 _⟩
      obtain ⟨c, hc⟩ : ∃ c, (m2 - m0) * ((m2 - m1) * c) = s2 - s0 - d * (m2 - m0) := ⟨(s2 - s0 - d * (m2 - m0)) * y * u, by rw [cancel i21, cancel i20]⟩
      have f0 : s0 - d * m0 + c * m0 * m1 + m0 * (d - c * m0 - c * m1) + m0 * m0 * c = s0 := by grind
      have f1 : s0 - d * m0 + c * m0 * m1 + m1 * (d - c * m0 - c * m1) + m1 * m1 * c = s0 + (m1 - m0) * d := by grind
      have f2 : s0 - d * m0 + c * m0 * m1 + m2 * (d - c * m0 - c * m1) + m2 * m2 * c = s0 + d * (m2 - m0) + (m2 - m0) * ((m2 - m1) * c) := by grind
      exact ⟨s0 - d * m0 + c * m0 * m1, d - c * m0 - c * m1, c, f0, by rw [f1, hd]; grind, by rw [f2, hc]; grind⟩
    have hf : h3F H 3 (fi c0) (nf c1) (nf c2) = true := by
      rw [h3_iff hk]
      intro j hj
      rw [cv_nf, cv_nf, cv_fi]
      rcases (by omega : j = 0 ∨ j = 1 ∨ j = 2) with rfl | rfl | rfl
      · exact e0
      · exact e1
      · exact e2
    rw [own_s hk h1 (Nat.le_refl _) (fi_ok _) rfl hf]
    show 1 ≤ w3N H 3 (fi c0) 23
    have := sN_ge (f := fun a => w3I H 3 (fi c0) a 23) (nf_lt c1)
    have h2 : 1 ≤ w3I H 3 (fi c0) (nf c1) 23 := cN_pos (nf_lt c2) hf
    unfold w3N; omega
end Hd
end Go.Proofs.Ytchgjdbmianajaa
