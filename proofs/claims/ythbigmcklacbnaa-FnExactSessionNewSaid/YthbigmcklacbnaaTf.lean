/-
  What signers showed in the words of the exact laws: sz, to, eq of such slices; one that came in as an argument.
-/
import Derived.Test.YthbigmcklacbnaaTa
import Derived.Test.YthbigmcklacbnaaSm
namespace Go.Proofs.Ythbigmcklacbnaa
namespace Con
open Go.RowKit Alg Mem Draw Hd
set_option linter.unusedVariables false

/-- A slice of the call's own, of structs of four cells. -/
structure Row4 (w : World) (lo : Nat) (T : TypeId) (b n : Nat) (g : Nat → Nat → Value) : Prop where
  from_ : lo ≤ b
  row : w.rowIs b T (n * 4) (fun i => g (i / 4) (i % 4))
theorem Row4.lt {w : World} {lo : Nat} {T : TypeId} {b n : Nat} {g : Nat → Nat → Value} (h : Row4 w lo T b n g) : b < w.heap.size := h.row.lt
theorem Row4.kept {w w' : World} {lo : Nat} {T : TypeId} {b n : Nat} {g : Nat → Nat → Value} {r : Option Nat} (h : Row4 w lo T b n g) (hg : w.grownBy w' r) (hne : some b ≠ r) : Row4 w' lo T b n g := ⟨h.from_, h.row.of_block (hg.block b h.lt hne)⟩
theorem Row4.keptN {w w' : World} {lo : Nat} {T : TypeId} {b n : Nat} {g : Nat → Nat → Value} (h : Row4 w lo T b n g) (hg : w.grownBy w' none) : Row4 w' lo T b n g := h.kept hg (by simp)
theorem Row4.lower {w : World} {lo lo' : Nat} {T : TypeId} {b n : Nat} {g : Nat → Nat → Value} (h : Row4 w lo T b n g) (hl : lo' ≤ lo) : Row4 w lo' T b n g := ⟨by have := h.from_; omega, h.row⟩
theorem Row4.c {w : World} {lo : Nat} {T : TypeId} {b n : Nat} {g : Nat → Nat → Value} (h : Row4 w lo T b n g) {j i : Nat} (hj : j < n) (hi : i < 4) : w.cell? ⟨b, j * 4 + i, none⟩ = some (g j i) := by
  rw [h.row.cell (by omega), show (j * 4 + i) / 4 = j by omega, show (j * 4 + i) % 4 = i by omega]
theorem Row4.free {w : World} {lo : Nat} {T : TypeId} {b n : Nat} {g : Nat → Nat → Value} (h : Row4 w lo T b n g) (i : Nat) : w.frozen? ⟨b, i, none⟩ = false := h.row.frozen i
theorem Row4.congr {w : World} {lo : Nat} {T : TypeId} {b n : Nat} {g g' : Nat → Nat → Value} (h : Row4 w lo T b n g) (e : ∀ j i, j < n → i < 4 → g j i = g' j i) : Row4 w lo T b n g' :=
  ⟨h.from_, h.row.congr fun i hi => e _ _ (by omega) (by omega)⟩
/-- A whole element stored. -/
def set4 (w : World) (b j : Nat) (v : Nat → Value) : World := (((w.setCell ⟨b, j * 4, none⟩ (v 0)).setCell ⟨b, j * 4 + 1, none⟩ (v 1)).setCell ⟨b, j * 4 + 2, none⟩ (v 2)).setCell ⟨b, j * 4 + 3, none⟩ (v 3)
theorem Row4.set {w : World} {lo : Nat} {T : TypeId} {b n : Nat} {g : Nat → Nat → Value} (h : Row4 w lo T b n g) (j : Nat) (v : Nat → Value) : Row4 (set4 w b j v) lo T b n (fun i => if i = j then v else g i) := by
  refine ⟨h.from_, ((((h.row.set (j * 4) (v 0)).set (j * 4 + 1) (v 1)).set (j * 4 + 2) (v 2)).set (j * 4 + 3) (v 3)).congr fun i hi => ?_⟩
  by_cases e : i / 4 = j
  · have e' : (if i / 4 = j then v else g (i / 4)) = v := if_pos e
    rw [e']
    rcases (by omega : i = j * 4 ∨ i = j * 4 + 1 ∨ i = j * 4 + 2 ∨ i = j * 4 + 3) with h0 | h0 | h0 | h0
    · rw [if_neg (by omega), if_neg (by omega), if_neg (by omega), if_pos h0, show i % 4 = 0 by omega]
    · rw [if_neg (by omega), if_neg (by omega), if_pos h0, show i % 4 = 1 by omega]
    · rw [if_neg (by omega), if_pos h0, show i % 4 = 2 by omega]
    · rw [if_pos h0, show i % 4 = 3 by omega]
  · have e' : (if i / 4 = j then v else g (i / 4)) = g (i / 4) := if_neg e
    rw [e', if_neg (by omega), if_neg (by omega), if_neg (by omega), if_neg (by omega)]
theorem set4_grown (w : World) (b j : Nat) (v : Nat → Value) : w.grownBy (set4 w b j v) (some b) :=
  gtr' (gtr' (gtr' (Mem.grown_set w b (j * 4) (v 0)) (Mem.grown_set _ b (j * 4 + 1) (v 1))) (Mem.grown_set _ b (j * 4 + 2) (v 2))) (Mem.grown_set _ b (j * 4 + 3) (v 3))
def zeT (i : Nat) : Value := if i = 2 then .bool false else .int .i64 0
theorem Row4.made (w : World) (T : TypeId) (n : Nat) : Row4 (w.alloc (.cells (madeCells #[.int .i64 0, .int .i64 0, .bool false, .int .i64 0] (n * 4)) T)) w.heap.size T w.heap.size n (fun _ => zeT) := by
  refine ⟨Nat.le_refl _, ?_⟩
  have h := World.rowIs_alloc w (madeCells #[.int .i64 0, .int .i64 0, .bool false, .int .i64 0] (n * 4)) T (fun i => zeT (i % 4)) (by
    intro i hi
    rw [size_madeCells] at hi
    unfold madeCells
    simp only [Array.getElem?_map, Array.getElem?_range, hi, if_true, Option.map_some, List.size_toArray, List.length_cons, List.length_nil]
    rcases (by omega : i % 4 = 0 ∨ i % 4 = 1 ∨ i % 4 = 2 ∨ i % 4 = 3) with e | e | e | e <;> simp [e, zeT])
  rw [size_madeCells] at h
  exact h
def shT (S : Nat → SV) (j i : Nat) : Value := if i = 0 then .int .i64 (S j).m else if i = 1 then .int .i64 (S j).R else if i = 2 then .bool (S j).on else .int .i64 (S j).Z
theorem Row4.sh {w : World} {lo : Nat} {T : TypeId} {b n : Nat} {S : Nat → SV} (h : Row4 w lo T b n (shT S)) : ShIn w (some ⟨b, 0, none⟩) n S := by
  refine .inr ⟨b, 0, rfl, h.lt, fun j hj => ?_⟩
  rw [Nat.zero_add]
  exact ⟨h.c hj (by omega : 0 < 4), h.c hj (by omega : 1 < 4), h.c hj (by omega : 2 < 4), h.c hj (by omega : 3 < 4)⟩
theorem szshn (w : World) (a : Option Addr) (len cap : Nat) (left : Int) (h0 : 0 ≤ left) (h1 : left ≤ 2000000) (hl : len ≤ maxLen) :
    Calls Try.prog 89 #[.slice a len cap, .int .i64 left] w fun e w' => ∃ r : Int, e = .returned (.int .i64 r) ∧ w = w' ∧ (r = -1 ∨ (0 ≤ r ∧ r ≤ left ∧ len ≤ 2000000)) := by
  unfold maxLen at hl
  by_cases h : (len : Int) ≤ left
  · have hlt : ¬ left - (len : Int) < 0 := by omega
    go_enter Try.func89, Try.ntmps89
    go_wp2
    go_ret
    exact ⟨_, rfl, rfl, .inr ⟨by omega, by omega, by omega⟩⟩
  · have hlt : left - (len : Int) < 0 := by omega
    go_enter Try.func89, Try.ntmps89
    go_wp2
    go_ret
    exact ⟨_, rfl, rfl, .inl rfl⟩
theorem size_shn : (Try.prog.info? 105).map (·.size) = some 4 := by kernel_rfl
theorem ret_shn {fn : Func} {p : Tmp} (h : fn.results = #[.cell p 105]) (tmps : Array Value) {w : World} {b : Nat} {v0 v1 v2 v3 : Value} {T : TypeId} (hp : tmps.getD p undef = .pointer (some ⟨b, 0, none⟩)) (hb : Blk w b #[v0, v1, v2, v3] T) :
    (results fn tmps).run Try.prog w = .ok (.agg #[v0, v1, v2, v3]) w :=
  results_cell_row h tmps w b T #[v0, v1, v2, v3] (0, 0) _ hp hb Try.underlying105 rfl size_shn
set_option maxHeartbeats 2000000 in
theorem toshn (w : World) (m R : Int) (on : Bool) (Z : Int) :
    Calls Try.prog 109 #[.agg #[.int .i64 m, .int .i64 R, .bool on, .int .i64 Z]] w fun e w' => e = .returned (.agg #[.int .i64 m, .int .i64 R, .bool on, .int .i64 Z]) ∧ w.grownBy w' none := by
  have HR := Lib.hid ((blk_new2 w (.cells #[.int .i64 m, .int .i64 R, .bool on, .int .i64 Z] 121) #[.int .i64 m, .int .i64 R, .bool on, .int .i64 Z] 105).keptN (Draw.grown_alloc _ (.cells #[.int .i64 m, .int .i64 R, .bool on, .int .i64 Z] 105) none))
  have HG := Lib.hid (gtr (gtr (Draw.grown_alloc w (.cells #[.int .i64 m, .int .i64 R, .bool on, .int .i64 Z] 121) none) (Draw.grown_alloc _ (.cells #[.int .i64 m, .int .i64 R, .bool on, .int .i64 Z] 105) none)) (Draw.grown_alloc _ (.cells #[.int .i64 m, .int .i64 R, .bool on, .int .i64 Z] 105) none))
  go_enter Try.func109, Try.ntmps109
  go_wp2
  (try simp only [Exit.inBlock, Exit.then])
  refine bodyPost_ret (ret_shn rfl _ rfl HR.out) rfl ?_
  exact ⟨rfl, HG.out⟩
theorem run_make4 {P : Program} (t e : TypeId) (z0 z1 z2 z3 : Value) (bytes : Nat) (ht : P.underlying t = some (.slice e)) (hinfo : (P.info? e).map (fun i => (i.zero, i.size, i.bytes)) = some (some (.agg #[z0, z1, z2, z3]), 4, bytes))
    (kl kc : IntKind) (n : Nat) (hbytes : bytes * n ≤ 281474976710656) (h63 : n ≤ 9223372036854775807) (w : World) :
    (Instr.makeSlice t (.int kl (n : Int)) (.int kc (n : Int))).run P w = .ok (.slice (some ⟨w.heap.size, 0, none⟩) n n) (w.alloc (.cells (madeCells #[z0, z1, z2, z3] (n * 4)) e)) := by
  obtain ⟨i, hi, hzz⟩ := Option.map_eq_some_iff.1 hinfo
  simp only [Prod.mk.injEq] at hzz
  obtain ⟨hz, hs, hb⟩ := hzz
  have hb' : (i.bytes : Int) * (n : Int) ≤ 281474976710656 := by
    have h : ((i.bytes * n : Nat) : Int) ≤ 281474976710656 := by rw [hb]; omega
    rwa [Int.natCast_mul] at h
  have hr := run_make (P := P) w t e i _ ht hi hz kl kc n n (by omega) (Int.le_refl _) hb' (by omega)
  simp only [Int.toNat_natCast, hs] at hr
  exact hr
theorem und_shns : Try.prog.underlying 64 = some (.slice 105) := by kernel_rfl
theorem info_shn : (Try.prog.info? 105).map (fun i => (i.zero, i.size, i.bytes)) = some (some (.agg #[.int .i64 0, .int .i64 0, .bool false, .int .i64 0]), 4, 32) := by kernel_rfl
/-- Such of the call's own. -/
def NewSh (w : World) (n : Nat) (S : Nat → SV) (e : Ending) (w' : World) : Prop :=
  ∃ b : Nat, e = .returned (.slice (some ⟨b, 0, none⟩) n n) ∧ Row4 w' w.heap.size 105 b n (shT S) ∧ w.grownBy w' none
set_option maxHeartbeats 4000000 in
theorem toshns (w : World) (a : Option Addr) (len cap : Nat) (S : Nat → SV) (hI : ShIn w a len S) (hl : len ≤ 2000000) :
    Calls Try.prog 91 #[.slice a len cap] w (NewSh w len S) := by
  have hmk := run_make4 (P := Try.prog) 64 105 (.int .i64 0) (.int .i64 0) (.bool false) (.int .i64 0) 32 und_shns info_shn .i64 .i64 len (by omega) (by omega)
  have HI := Lib.hid hI; clear hI
  go_enter Try.func91, Try.ntmps91
  go_wp2
  go_loopw [4] (fun i wr => ∃ k : Nat, k ≤ len ∧ i = .int .i64 k ∧ Row4 wr w.heap.size 105 w.heap.size len (fun j => if j < k then shT S j else zeT) ∧ w.grownBy wr none) (fun i _ => len - (intOf i).toNat)
  case atStart => exact ⟨0, by omega, rfl, (Row4.made w _ len).congr fun j _ _ _ => by simp, Draw.grown_alloc _ _ _⟩
  case round =>
    clear hmk
    obtain ⟨k, hk, rfl, hr, hg⟩ := hrel
    have HG := Lib.hid hg; have HR := Lib.hid hr; clear hg hr
    by_cases hlt : k < len
    · obtain ⟨b, off, rfl, hb, hcc⟩ := (HI.out.kept HG.out).ptr (by omega)
      obtain ⟨x0, x1, x2, x3⟩ := hcc k hlt
      clear hcc
      go_wp2_with fail
      refine (toshn _ _ _ _ _).mono ?_
      rintro e w1 ⟨rfl, hg1⟩
      have HG1 := Lib.hid (gtr HG.out hg1); have HR1 := Lib.hid (HR.out.keptN hg1); clear hg1
      have d0 := HR1.out.c hlt (by omega : 0 < 4)
      have d1 := HR1.out.c hlt (by omega : 1 < 4)
      have d2 := HR1.out.c hlt (by omega : 2 < 4)
      have d3 := HR1.out.c hlt (by omega : 3 < 4)
      have f0 := HR1.out.free (k * 4)
      have f1 := HR1.out.free (k * 4 + 1)
      have f2 := HR1.out.free (k * 4 + 2)
      have f3 := HR1.out.free (k * 4 + 3)
      rw [Nat.add_zero] at d0
      have HR2 := Lib.hid ((HR1.out.set k (shT S k)).congr (g' := fun j => if j < k + 1 then shT S j else zeT) fun j i hj hi => by
        show (if j = k then shT S k else if j < k then shT S j else zeT) i = (if j < k + 1 then shT S j else zeT) i
        by_cases e : j = k
        · subst e; rw [if_pos rfl, if_pos (by omega)]
        · by_cases h : j < k
          · rw [if_neg e, if_pos h, if_pos (by omega)]
          · rw [if_neg e, if_neg h, if_neg (by omega)])
      have HG2 := Lib.hid (grown_new HG1.out (Nat.le_refl _) (set4_grown w1 w.heap.size k (shT S k)))
      go_wp2
      go_roundw
      case rel => exact ⟨k + 1, by omega, by go_num, HR2.out, HG2.out⟩
      case measure => simp [intOf]; omega
    · obtain rfl : k = len := by omega
      have HR2 := Lib.hid (HR.out.congr (g' := shT S) fun j i hj hi => by simp [hj])
      go_wp2
      go_ret
      exact ⟨_, rfl, HR2.out, HG.out⟩
theorem eqshn (w : World) (m R : Int) (on : Bool) (Z : Int) :
    Calls Try.prog 107 #[.agg #[.int .i64 m, .int .i64 R, .bool on, .int .i64 Z], .agg #[.int .i64 m, .int .i64 R, .bool on, .int .i64 Z]] w fun e w' => e = .returned (.bool true) ∧ w.grownBy w' none := by
  have h0 : (m != m) = false := by simp
  have h1 : (R != R) = false := by simp
  have h2 : (on != on) = false := by simp
  have h3 : (Z != Z) = false := by simp
  go_enter Try.func107, Try.ntmps107
  go_wp2
  go_ret
  exact ⟨rfl, gtr (Draw.grown_alloc _ _ _) (Draw.grown_alloc _ _ _)⟩
/-- The cells of one. -/
def At4 (w : World) (b o : Nat) (s : SV) : Prop := w.cell? ⟨b, o, none⟩ = some (.int .i64 s.m) ∧ w.cell? ⟨b, o + 1, none⟩ = some (.int .i64 s.R) ∧ w.cell? ⟨b, o + 2, none⟩ = some (.bool s.on) ∧ w.cell? ⟨b, o + 3, none⟩ = some (.int .i64 s.Z)
set_option maxHeartbeats 4000000 in
theorem eqshns (w : World) (a a' : Option Addr) (len cap cap' : Nat) (S : Nat → SV) (h1 : ShIn w a len S) (h2 : ShIn w a' len S) (hl : len ≤ 2000000) :
    Calls Try.prog 85 #[.slice a len cap, .slice a' len cap'] w fun e w' => e = .returned (.bool true) ∧ w.grownBy w' none := by
  have H1 := Lib.hid h1; have H2 := Lib.hid h2; clear h1 h2
  have hne : ((len : Int) != (len : Int)) = false := by simp
  go_enter Try.func85, Try.ntmps85
  go_wp2
  go_loopw [5] (fun i wr => ∃ k : Nat, k ≤ len ∧ i = .int .i64 k ∧ w.grownBy wr none) (fun i _ => len - (intOf i).toNat)
  case atStart => exact ⟨0, by omega, rfl, Draw.grown_refl _ _⟩
  case round =>
    obtain ⟨k, hk, rfl, hg⟩ := hrel
    have HG := Lib.hid hg; clear hg
    by_cases hlt : k < len
    · obtain ⟨b, off, rfl, hb, hcc⟩ := (H1.out.kept HG.out).ptr (by omega)
      obtain ⟨x0, x1, x2, x3⟩ := hcc k hlt
      obtain ⟨b', off', rfl, hb', hcc'⟩ := (H2.out.kept HG.out).ptr (by omega)
      obtain ⟨y0, y1, y2, y3⟩ := hcc' k hlt
      clear hcc hcc'
      have hj1 : (0 : Int) ≤ (k : Int) := by omega
      have hj2 : (k : Int) < (len : Int) := by omega
      go_wp2_with fail
      go_region_held3 (fun w' => w'.cell? ⟨b, off + k * 4, none⟩ = some (.int .i64 (S k).m) ∧ w'.cell? ⟨b, off + k * 4 + 1, none⟩ = some (.int .i64 (S k).R) ∧ w'.cell? ⟨b, off + k * 4 + 2, none⟩ = some (.bool (S k).on) ∧ w'.cell? ⟨b, off + k * 4 + 3, none⟩ = some (.int .i64 (S k).Z) ∧ w'.cell? ⟨b', off' + k * 4, none⟩ = some (.int .i64 (S k).m) ∧ w'.cell? ⟨b', off' + k * 4 + 1, none⟩ = some (.int .i64 (S k).R) ∧ w'.cell? ⟨b', off' + k * 4 + 2, none⟩ = some (.bool (S k).on) ∧ w'.cell? ⟨b', off' + k * 4 + 3, none⟩ = some (.int .i64 (S k).Z)) (first | exact hS2 | exact ⟨x0, x1, x2, x3, y0, y1, y2, y3⟩) ((go_at_call 107; (with_reducible refine (eqshn _ _ _ _ _).mono ?_); rintro e w2 ⟨rfl, hg2⟩; have Hg := Lib.hid (show wr.grownBy w2 none from ⟨hg2.os, hg2.tape, hg2.output, hg2.size, hg2.block⟩); have HG2 := Lib.hid (gtr HG.out Hg.out); have e1 := Hg.out.block b hb (by simp); have e2 := Hg.out.block b' hb' (by simp); have hS2 := (And.intro ((World.cell?_of_block e1).trans x0) <| And.intro ((World.cell?_of_block e1).trans x1) <| And.intro ((World.cell?_of_block e1).trans x2) <| And.intro ((World.cell?_of_block e1).trans x3) <| And.intro ((World.cell?_of_block e2).trans y0) <| And.intro ((World.cell?_of_block e2).trans y1) <| And.intro ((World.cell?_of_block e2).trans y2) ((World.cell?_of_block e2).trans y3)); clear hg2 e1 e2))
      all_goals
        go_wp2
        go_roundw
        case rel => exact ⟨k + 1, by omega, by go_num, HG2.out⟩
        case measure => simp [intOf]; omega
    · obtain rfl : k = len := by omega
      go_wp2
      go_ret
      exact ⟨rfl, HG.out⟩
end Con
end Go.Proofs.Ythbigmcklacbnaa
