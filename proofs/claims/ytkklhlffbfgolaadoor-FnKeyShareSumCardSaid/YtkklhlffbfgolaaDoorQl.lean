/-
  How the model draws a key with deals, answers and a member.
-/
import Derived.Test.YtkklhlffbfgolaaDoorQg
import Derived.Deep.RegionHeld3
namespace Go.Proofs.YtkklhlffbfgolaaDoor
namespace Draw
open Go.RowKit Alg Mem Con Mp
set_option linter.unusedVariables false

theorem OwnA.at_ {w : World} {lo : Nat} {a : Option Addr} {n c : Nat} {L : List Ans} (h : OwnA w lo (.slice a n c) L) : n = L.length ∧ AnsIn w a L.length (aAt L) := by
  obtain ⟨a', c', hv, hI, _⟩ := h.ans
  injection hv with h1 h2 _
  subst h1
  exact ⟨h2, hI⟩
theorem OwnA.tail {w : World} {lo g n c : Nat} {L : List Ans} (h : OwnA w lo (.slice (some ⟨g, 0, none⟩) n c) L) {k : Nat} (hk : k + 1 = L.length) : AnsIn w (some ⟨g, 3, none⟩) k (fun j => aAt L (j + 1)) := by
  obtain ⟨_, hI⟩ := h.at_
  rcases hI with h0 | ⟨b, off, e, hb, hc⟩
  · omega
  · injection e with e; injection e with e1 e2; subst e1; subst e2
    refine .inr ⟨g, 3, rfl, hb, fun j hj => ?_⟩
    have := hc (j + 1) (by omega)
    rw [show 0 + (j + 1) * 3 = 3 + j * 3 by omega] at this
    exact this
theorem wfa_tail {L : List Ans} {k : Nat} (hk : k + 1 = L.length) (h : WfA L.length (aAt L)) : WfA k (fun j => aAt L (j + 1)) := fun j hj => h (j + 1) (by omega)
theorem OwnA.ptr {w : World} {lo : Nat} {a : Option Addr} {n c : Nat} {L : List Ans} (h : OwnA w lo (.slice a n c) L) (h1 : 1 ≤ L.length) : ∃ g, a = some ⟨g, 0, none⟩ ∧ n ≤ c ∧ c ≤ maxLen := by
  rcases h.1.2 with ⟨_, h0⟩ | ⟨g, cap, cur, hv, _, _, h2, h3, _⟩
  · omega
  · injection hv with e1 e2 e3; subst e3; exact ⟨g, e1, by omega, h3⟩
theorem OwnD.at_ {w : World} {lo : Nat} {a : Option Addr} {n c : Nat} {L : List DV} (h : OwnD w lo (.slice a n c) L) : DealsIn w a L.length (dAt L) := by
  obtain ⟨a', c', hv, hI⟩ := h.din
  injection hv with h1 _ _
  subst h1
  exact hI.di
/-- A key with deals, answers and a member, drawn from the program's input. -/
def GotKS (w : World) (e : Ending) (w' : World) : Prop :=
  ∃ (need many : Nat) (ag : Option Addr) (ng cg : Nat) (zg : Nat → Int) (ac : Option Addr) (nc cc : Nat) (zc : Nat → Int) (ad : Option Addr) (nd cd : Nat) (D : Nat → DV) (aa : Option Addr) (na ca : Nat) (A : Nat → Ans) (m : Int), e = .returned (.tuple #[.agg #[.int .i64 need, .int .i64 many, .slice ag ng cg, .slice ac nc cc], .slice ad nd cd, .slice aa na ca, .int .i64 m]) ∧ KeyIn w w' need many ag ng zg ac nc zc ∧ DealsIn w' ad nd D ∧ (∀ j, j < nd → (D j).n1 ≤ 5 ∧ (D j).n2 ≤ 5) ∧ nd ≤ 6 ∧ AnsIn w' aa na A ∧ WfA na A ∧ na ≤ 3000 ∧ w.grownBy w' none
theorem gotks_mk {w W : World} {R : Nat} {need many : Nat} {ag : Option Addr} {ng cg : Nat} {zg : Nat → Int} {ac : Option Addr} {nc cc : Nat} {zc : Nat → Int} {wk : World} {v0 v1 v2 v3 : Value} {ad : Option Addr} {cd : Nat} {L : List DV} {vA : Value} {LA : List Ans} {aa : Option Addr} {na ca : Nat} {A : Nat → Ans} (m : Int) (hb : Blk W R #[v0, v1, v2, v3] 25) (hR : w.heap.size ≤ R) (hRk : R < wk.heap.size) (hk : KeyIn wk W need many ag ng zg ac nc zc) (hD : OwnD W wk.heap.size (.slice ad L.length cd) L) (hL : L.length ≤ 6) (hA : OwnA W wk.heap.size vA LA) (hsl : ∀ W', OwnA W' wk.heap.size vA LA → AnsIn W' aa na A) (hW : WfA na A) (hna : na ≤ 3000) (hg : w.grownBy W none) :
    Blk (stored4 W R (.int .i64 need) (.int .i64 many) (.slice ag ng cg) (.slice ac nc cc)) R #[.int .i64 need, .int .i64 many, .slice ag ng cg, .slice ac nc cc] 25 ∧
    GotKS w (.returned (.tuple #[.agg #[.int .i64 need, .int .i64 many, .slice ag ng cg, .slice ac nc cc], .slice ad L.length cd, .slice aa na ca, .int .i64 m])) (stored4 W R (.int .i64 need) (.int .i64 many) (.slice ag ng cg) (.slice ac nc cc)) := by
  have g1 : W.grownBy (stored4 W R (.int .i64 need) (.int .i64 many) (.slice ag ng cg) (.slice ac nc cc)) (some R) := gtr' (gtr' (gtr' (grown_set W R 0 (.int .i64 need)) (grown_set _ R 1 (.int .i64 many))) (grown_set _ R 2 (.slice ag ng cg))) (grown_set _ R 3 (.slice ac nc cc))
  have hr : ∀ g, (some R : Option Nat) = some g → g < wk.heap.size := fun g e => by have e := Option.some.inj e; omega
  exact ⟨(((hb.set 0 _).set 1 _).set 2 _).set 3 _, need, many, ag, ng, cg, zg, ac, nc, cc, zc, ad, L.length, cd, dAt L, aa, na, ca, A, m, rfl, (hk.kept g1 hr).lower (by omega), (hD.kept g1 hr).at_, (fun j hj => by obtain ⟨h1, h2, _⟩ := hD.fine _ (dAt_mem hj); exact ⟨h1, h2⟩), hL, hsl _ (hA.kept g1 hr), hW, hna, grown_new hg hR g1⟩
theorem ret_key5 {fn : Func} {p u v x : Tmp} (h : fn.results = #[.cell p 25, .tmp u, .tmp v, .tmp x]) (tmps : Array Value) {w : World} {b : Nat} {v0 v1 v2 v3 : Value} {T : TypeId} (hp : tmps.getD p undef = .pointer (some ⟨b, 0, none⟩)) (hb : Blk w b #[v0, v1, v2, v3] T) :
    (results fn tmps).run Tryd.prog w = .ok (.tuple #[.agg #[v0, v1, v2, v3], tmps.getD u undef, tmps.getD v undef, tmps.getD x undef]) w := by
  have hp' : tmps[p]?.getD undef = .pointer (some ⟨b, 0, none⟩) := by simpa using hp
  simp [results, h, hp', asAddr, run_loadVar_row w b T 25 #[v0, v1, v2, v3] (0, 0) _ hb Tryd.underlying25 rfl size_key, Result.andThen]
set_option maxRecDepth 100000 in
set_option maxHeartbeats 4000000 in
theorem drawKS (w : World) (a : Option Addr) (len cap : Nat) (hB : Bytes w w.heap.size a len) (hc : len ≤ cap) (hm : cap ≤ maxLen) :
    Calls Tryd.prog 4 #[.slice a len cap] w (GotKS w) := by
  have HD0 := Lib.hid (Blk.new w #[.int .i64 0, .int .i64 0, .slice none 0 0, .slice none 0 0] 25)
  have hs0 : (w.alloc (.cells #[.int .i64 0, .int .i64 0, .slice none 0 0, .slice none 0 0] 25)).heap.size = w.heap.size + 1 := by show (w.heap.push _).size = _; simp
  have HB := Lib.hid (hB.kept (w' := w.alloc (.cells #[.int .i64 0, .int .i64 0, .slice none 0 0, .slice none 0 0] 25)) (fun k hk => Below.heap_alloc _ _ _ hk))
  have HG0 := Lib.hid (grown_alloc w (.cells #[.int .i64 0, .int .i64 0, .slice none 0 0, .slice none 0 0] 25) none)
  clear hB
  go_enter Tryd.func4, Tryd.ntmps4
  go_wp2_with fail
  refine (open_any _ w.heap.size a len cap HB.out (by omega) hc hm).mono ?_
  rintro e w1 ⟨rfl, hg1, hs1, l1, c1', hr1⟩
  rw [hs0] at hr1
  have HD1 := Lib.hid (HD0.out.keptN hg1); have HG1 := Lib.hid (gtr HG0.out hg1); have HR1 := Lib.hid hr1
  have hR1 := hr1.lt
  clear hr1 hg1
  go_wp2_with fail
  refine (key_any _ _ _ a l1 c1' 0 HR1.out (by omega)).mono ?_
  rintro e w2 ⟨need, many, ag, ng, cg, zg, ac, nc, cc, zc, v, L, vA, LA, rfl, hk, _, hD, ⟨hm1, hL⟩, hA, hLA, hg2, p2, hp2, hp2', hr2⟩
  have hs2 := hg2.size
  have hm6 := hk.m5
  obtain ⟨ad, cd, rfl, _⟩ := hD.din
  obtain ⟨aa, ca, rfl, _, hwf⟩ := hA.ans
  have HD2 := Lib.hid (HD1.out.kept hg2 (by intro e; have e := Option.some.inj e; omega)); have HG2 := Lib.hid (grown_new HG1.out (by omega) hg2); have HK2 := Lib.hid hk; have HR2 := Lib.hid hr2; have HO2 := Lib.hid hD; have HA2 := Lib.hid hA; have HWf := Lib.hid hwf
  clear hk hg2 hr2 hD hA hwf
  go_wp2_with fail
  refine (pick_any _ _ _ a l1 c1' p2 20 (HR2.out.alloc (.cells #[.int .i64 need, .int .i64 many, .slice ag ng cg, .slice ac nc cc] 25)) (by omega) (by omega)).mono ?_
  rintro e w3 ⟨x, x0, x1, rfl, hr, hg, hsz⟩
  have hsa : (w2.alloc (.cells #[.int .i64 need, .int .i64 many, .slice ag ng cg, .slice ac nc cc] 25)).heap.size = w2.heap.size + 1 := by show (w2.heap.push _).size = _; simp
  have hs3 := hg.size
  rw [hsa] at hs3
  have HK3 := Lib.hid ((HK2.out.kept (grown_alloc w2 _ none) (fun g e => by cases e)).kept hg (fun g e => by have e := Option.some.inj e; omega))
  have HB3 := Lib.hid ((Blk.new w2 #[.int .i64 need, .int .i64 many, .slice ag ng cg, .slice ac nc cc] 25).kept hg (by intro e; have e := Option.some.inj e; omega))
  have HD3 := Lib.hid ((HD2.out.keptN (grown_alloc w2 _ none)).kept hg (by intro e; have e := Option.some.inj e; omega))
  have HO3 := Lib.hid ((HO2.out.kept (grown_alloc w2 _ none) (fun g e => by cases e)).kept hg (fun g e => by have e := Option.some.inj e; omega))
  have HA3 := Lib.hid ((HA2.out.kept (grown_alloc w2 _ none) (fun g e => by cases e)).kept hg (fun g e => by have e := Option.some.inj e; omega))
  have HG3 := Lib.hid (grown_new (gtr HG2.out (grown_alloc w2 _ none)) (by omega) hg)
  have HR3 := Lib.hid hr
  clear hr hg hsz hsa
  have hl1 := HB3.out.lt; have hl0 := HD3.out.lt
  have hmp : (1 : Int) ≤ (many : Int) := by omega
  obtain ⟨k0, k1, k2, k3, f0, f1, f2, f3⟩ := HB3.out.all4
  obtain ⟨r0, r1, r2, r3, j0, j1, j2, j3⟩ := HD3.out.all4
  have hKR : w2.heap.size ≠ w.heap.size := by omega
  rcases (by omega : x = 0 ∧ 0 < LA.length ∨ ¬ (x = 0 ∧ 0 < LA.length)) with ⟨rfl, hpos⟩ | hno
  · have hpos' : (0 : Int) < (LA.length : Int) := by omega
    obtain ⟨g, rfl, hnc', hcm'⟩ := HA3.out.ptr (by omega)
    by_cases hca : ca = 1
    · subst hca
      have HR3d := Lib.hid (HR3.out.kept (w' := w3.drew) (fun _ _ => rfl) rfl)
      go_wp2_with fail
      go_region_held3 (fun w' => w'.cell? ⟨w2.heap.size, 0, none⟩ = some (.int .i64 need) ∧ w'.cell? ⟨w2.heap.size, 1, none⟩ = some (.int .i64 many) ∧ w'.cell? ⟨w2.heap.size, 2, none⟩ = some (.slice ag ng cg) ∧ w'.cell? ⟨w2.heap.size, 3, none⟩ = some (.slice ac nc cc)) (first | exact hS6 | exact hS5 | exact hS4 | exact ⟨k0, k1, k2, k3⟩) (first
        | (go_at_call 13; (with_reducible refine (pick_any _ _ _ a l1 c1' _ (many : Int) HR3d.out (by omega) (by omega)).mono ?_); rintro e wa ⟨r, r0', r1', rfl, hr, hg, hs⟩; have Hga := Lib.hid (show w3.grownBy wa (some (w.heap.size + 1)) from ⟨hg.os, hg.tape, hg.output, hg.size, hg.block⟩); have waR := Lib.hid hr; have waB := Lib.hid (HB3.out.kept Hga.out (by intro e; have e := Option.some.inj e; omega)); have waD := Lib.hid (HD3.out.kept Hga.out (by intro e; have e := Option.some.inj e; omega)); have hsa := Hga.out.size; have hS4 : wa.cell? ⟨w2.heap.size, 0, none⟩ = some (.int .i64 need) ∧ wa.cell? ⟨w2.heap.size, 1, none⟩ = some (.int .i64 many) ∧ wa.cell? ⟨w2.heap.size, 2, none⟩ = some (.slice ag ng cg) ∧ wa.cell? ⟨w2.heap.size, 3, none⟩ = some (.slice ac nc cc) := ⟨waB.out.cell 0, waB.out.cell 1, waB.out.cell 2, waB.out.cell 3⟩; clear hr hg hs)
        | (go_at_call 13; (with_reducible refine (pick_any _ _ _ a l1 c1' _ 24 waR.out (by omega) (by omega)).mono ?_); rintro e wb ⟨q, q0, q1, rfl, hr, hg, hs⟩; have Hgb := Lib.hid (grown_trans Hga.out hg); have wbB := Lib.hid (waB.out.kept hg (by intro e; have e := Option.some.inj e; omega)); have wbD := Lib.hid (waD.out.kept hg (by intro e; have e := Option.some.inj e; omega)); have hsb := hg.size; have hS5 : wb.cell? ⟨w2.heap.size, 0, none⟩ = some (.int .i64 need) ∧ wb.cell? ⟨w2.heap.size, 1, none⟩ = some (.int .i64 many) ∧ wb.cell? ⟨w2.heap.size, 2, none⟩ = some (.slice ag ng cg) ∧ wb.cell? ⟨w2.heap.size, 3, none⟩ = some (.slice ac nc cc) := ⟨wbB.out.cell 0, wbB.out.cell 1, wbB.out.cell 2, wbB.out.cell 3⟩; have hd10 := (((wbB.out.other (b' := w.heap.size) (i := 0) (v := .int .i64 need) hKR).other (b' := w.heap.size) (i := 1) (v := .int .i64 many) hKR).other (b' := w.heap.size) (i := 2) (v := .slice ag ng cg) hKR).other (b' := w.heap.size) (i := 3) (v := .slice ac nc cc) hKR; have hS6 : ((((wb.setCell ⟨w.heap.size, 0, none⟩ (.int .i64 need)).setCell ⟨w.heap.size, 1, none⟩ (.int .i64 many)).setCell ⟨w.heap.size, 2, none⟩ (.slice ag ng cg)).setCell ⟨w.heap.size, 3, none⟩ (.slice ac nc cc)).cell? ⟨w2.heap.size, 0, none⟩ = some (.int .i64 need) ∧ ((((wb.setCell ⟨w.heap.size, 0, none⟩ (.int .i64 need)).setCell ⟨w.heap.size, 1, none⟩ (.int .i64 many)).setCell ⟨w.heap.size, 2, none⟩ (.slice ag ng cg)).setCell ⟨w.heap.size, 3, none⟩ (.slice ac nc cc)).cell? ⟨w2.heap.size, 1, none⟩ = some (.int .i64 many) ∧ ((((wb.setCell ⟨w.heap.size, 0, none⟩ (.int .i64 need)).setCell ⟨w.heap.size, 1, none⟩ (.int .i64 many)).setCell ⟨w.heap.size, 2, none⟩ (.slice ag ng cg)).setCell ⟨w.heap.size, 3, none⟩ (.slice ac nc cc)).cell? ⟨w2.heap.size, 2, none⟩ = some (.slice ag ng cg) ∧ ((((wb.setCell ⟨w.heap.size, 0, none⟩ (.int .i64 need)).setCell ⟨w.heap.size, 1, none⟩ (.int .i64 many)).setCell ⟨w.heap.size, 2, none⟩ (.slice ag ng cg)).setCell ⟨w.heap.size, 3, none⟩ (.slice ac nc cc)).cell? ⟨w2.heap.size, 3, none⟩ = some (.slice ac nc cc) := ⟨hd10.cell 0, hd10.cell 1, hd10.cell 2, hd10.cell 3⟩; obtain ⟨r0b, r1b, r2b, r3b, j0b, j1b, j2b, j3b⟩ := wbD.out.all4; have HE := Lib.hid (fun m : Int => gotks_mk (w := w) (wk := w1) (cg := cg) (cc := cc) (cd := cd) (ca := 0) m wbD.out (Nat.le_refl _) (by omega) (HK3.out.kept Hgb.out (fun g e => by have e := Option.some.inj e; omega)) (HO3.out.kept Hgb.out (fun g e => by have e := Option.some.inj e; omega)) hL (HA3.out.kept Hgb.out (fun g e => by have e := Option.some.inj e; omega)) (aa := some ⟨g, 0, none⟩) (na := 0) (A := aAt []) (fun W' _ => .inl rfl) (fun j hj => by omega) (by omega) (grown_new HG3.out (by omega) Hgb.out)); have hlb := wbD.out.lt; clear hr hg hs hd10))
      all_goals
        clear hS4 hS5 hS6 k0 k1 k2 k3 f0 f1 f2 f3 r0 r1 r2 r3 j0 j1 j2 j3
        go_wp2
        (try simp only [Exit.inBlock, Exit.then])
        refine bodyPost_ret (ret_key5 rfl _ rfl (HE.out 0).1) rfl ?_
        exact (HE.out _).2
    · have hk1 : LA.length - 1 + 1 = LA.length := by omega
      have HR3d := Lib.hid (HR3.out.kept (w' := w3.drew) (fun _ _ => rfl) rfl)
      go_wp2_with fail
      go_region_held3 (fun w' => w'.cell? ⟨w2.heap.size, 0, none⟩ = some (.int .i64 need) ∧ w'.cell? ⟨w2.heap.size, 1, none⟩ = some (.int .i64 many) ∧ w'.cell? ⟨w2.heap.size, 2, none⟩ = some (.slice ag ng cg) ∧ w'.cell? ⟨w2.heap.size, 3, none⟩ = some (.slice ac nc cc)) (first | exact hS6 | exact hS5 | exact hS4 | exact ⟨k0, k1, k2, k3⟩) (first
        | (go_at_call 13; (with_reducible refine (pick_any _ _ _ a l1 c1' _ (many : Int) HR3d.out (by omega) (by omega)).mono ?_); rintro e wa ⟨r, r0', r1', rfl, hr, hg, hs⟩; have Hga := Lib.hid (show w3.grownBy wa (some (w.heap.size + 1)) from ⟨hg.os, hg.tape, hg.output, hg.size, hg.block⟩); have waR := Lib.hid hr; have waB := Lib.hid (HB3.out.kept Hga.out (by intro e; have e := Option.some.inj e; omega)); have waD := Lib.hid (HD3.out.kept Hga.out (by intro e; have e := Option.some.inj e; omega)); have hsa := Hga.out.size; have hS4 : wa.cell? ⟨w2.heap.size, 0, none⟩ = some (.int .i64 need) ∧ wa.cell? ⟨w2.heap.size, 1, none⟩ = some (.int .i64 many) ∧ wa.cell? ⟨w2.heap.size, 2, none⟩ = some (.slice ag ng cg) ∧ wa.cell? ⟨w2.heap.size, 3, none⟩ = some (.slice ac nc cc) := ⟨waB.out.cell 0, waB.out.cell 1, waB.out.cell 2, waB.out.cell 3⟩; clear hr hg hs)
        | (go_at_call 13; (with_reducible refine (pick_any _ _ _ a l1 c1' _ 24 waR.out (by omega) (by omega)).mono ?_); rintro e wb ⟨q, q0, q1, rfl, hr, hg, hs⟩; have Hgb := Lib.hid (grown_trans Hga.out hg); have wbB := Lib.hid (waB.out.kept hg (by intro e; have e := Option.some.inj e; omega)); have wbD := Lib.hid (waD.out.kept hg (by intro e; have e := Option.some.inj e; omega)); have hsb := hg.size; have hS5 : wb.cell? ⟨w2.heap.size, 0, none⟩ = some (.int .i64 need) ∧ wb.cell? ⟨w2.heap.size, 1, none⟩ = some (.int .i64 many) ∧ wb.cell? ⟨w2.heap.size, 2, none⟩ = some (.slice ag ng cg) ∧ wb.cell? ⟨w2.heap.size, 3, none⟩ = some (.slice ac nc cc) := ⟨wbB.out.cell 0, wbB.out.cell 1, wbB.out.cell 2, wbB.out.cell 3⟩; have hd10 := (((wbB.out.other (b' := w.heap.size) (i := 0) (v := .int .i64 need) hKR).other (b' := w.heap.size) (i := 1) (v := .int .i64 many) hKR).other (b' := w.heap.size) (i := 2) (v := .slice ag ng cg) hKR).other (b' := w.heap.size) (i := 3) (v := .slice ac nc cc) hKR; have hS6 : ((((wb.setCell ⟨w.heap.size, 0, none⟩ (.int .i64 need)).setCell ⟨w.heap.size, 1, none⟩ (.int .i64 many)).setCell ⟨w.heap.size, 2, none⟩ (.slice ag ng cg)).setCell ⟨w.heap.size, 3, none⟩ (.slice ac nc cc)).cell? ⟨w2.heap.size, 0, none⟩ = some (.int .i64 need) ∧ ((((wb.setCell ⟨w.heap.size, 0, none⟩ (.int .i64 need)).setCell ⟨w.heap.size, 1, none⟩ (.int .i64 many)).setCell ⟨w.heap.size, 2, none⟩ (.slice ag ng cg)).setCell ⟨w.heap.size, 3, none⟩ (.slice ac nc cc)).cell? ⟨w2.heap.size, 1, none⟩ = some (.int .i64 many) ∧ ((((wb.setCell ⟨w.heap.size, 0, none⟩ (.int .i64 need)).setCell ⟨w.heap.size, 1, none⟩ (.int .i64 many)).setCell ⟨w.heap.size, 2, none⟩ (.slice ag ng cg)).setCell ⟨w.heap.size, 3, none⟩ (.slice ac nc cc)).cell? ⟨w2.heap.size, 2, none⟩ = some (.slice ag ng cg) ∧ ((((wb.setCell ⟨w.heap.size, 0, none⟩ (.int .i64 need)).setCell ⟨w.heap.size, 1, none⟩ (.int .i64 many)).setCell ⟨w.heap.size, 2, none⟩ (.slice ag ng cg)).setCell ⟨w.heap.size, 3, none⟩ (.slice ac nc cc)).cell? ⟨w2.heap.size, 3, none⟩ = some (.slice ac nc cc) := ⟨hd10.cell 0, hd10.cell 1, hd10.cell 2, hd10.cell 3⟩; obtain ⟨r0b, r1b, r2b, r3b, j0b, j1b, j2b, j3b⟩ := wbD.out.all4; have HE := Lib.hid (fun m : Int => gotks_mk (w := w) (wk := w1) (cg := cg) (cc := cc) (cd := cd) (ca := (ca - 1)) m wbD.out (Nat.le_refl _) (by omega) (HK3.out.kept Hgb.out (fun g e => by have e := Option.some.inj e; omega)) (HO3.out.kept Hgb.out (fun g e => by have e := Option.some.inj e; omega)) hL (HA3.out.kept Hgb.out (fun g e => by have e := Option.some.inj e; omega)) (fun W' hW' => OwnA.tail hW' hk1) (wfa_tail hk1 HWf.out) (by omega) (grown_new HG3.out (by omega) Hgb.out)); have hlb := wbD.out.lt; clear hr hg hs hd10))
      all_goals
        clear hS4 hS5 hS6 k0 k1 k2 k3 f0 f1 f2 f3 r0 r1 r2 r3 j0 j1 j2 j3
        go_wp2
        (try simp only [Exit.inBlock, Exit.then])
        refine bodyPost_ret (ret_key5 rfl _ rfl (HE.out 0).1) rfl ?_
        exact (HE.out _).2
  · by_cases hx0 : x = 0
    · subst hx0
      have hpos' : ¬ (0 : Int) < (LA.length : Int) := by omega
      have HR3d := Lib.hid (HR3.out.kept (w' := w3.drew) (fun _ _ => rfl) rfl)
      go_wp2_with fail
      go_region_held3 (fun w' => w'.cell? ⟨w2.heap.size, 0, none⟩ = some (.int .i64 need) ∧ w'.cell? ⟨w2.heap.size, 1, none⟩ = some (.int .i64 many) ∧ w'.cell? ⟨w2.heap.size, 2, none⟩ = some (.slice ag ng cg) ∧ w'.cell? ⟨w2.heap.size, 3, none⟩ = some (.slice ac nc cc)) (first | exact hS6 | exact hS5 | exact hS4 | exact ⟨k0, k1, k2, k3⟩) (first
        | (go_at_call 13; (with_reducible refine (pick_any _ _ _ a l1 c1' _ (many : Int) HR3d.out (by omega) (by omega)).mono ?_); rintro e wa ⟨r, r0', r1', rfl, hr, hg, hs⟩; have Hga := Lib.hid (show w3.grownBy wa (some (w.heap.size + 1)) from ⟨hg.os, hg.tape, hg.output, hg.size, hg.block⟩); have waR := Lib.hid hr; have waB := Lib.hid (HB3.out.kept Hga.out (by intro e; have e := Option.some.inj e; omega)); have waD := Lib.hid (HD3.out.kept Hga.out (by intro e; have e := Option.some.inj e; omega)); have hsa := Hga.out.size; have hS4 : wa.cell? ⟨w2.heap.size, 0, none⟩ = some (.int .i64 need) ∧ wa.cell? ⟨w2.heap.size, 1, none⟩ = some (.int .i64 many) ∧ wa.cell? ⟨w2.heap.size, 2, none⟩ = some (.slice ag ng cg) ∧ wa.cell? ⟨w2.heap.size, 3, none⟩ = some (.slice ac nc cc) := ⟨waB.out.cell 0, waB.out.cell 1, waB.out.cell 2, waB.out.cell 3⟩; clear hr hg hs)
        | (go_at_call 13; (with_reducible refine (pick_any _ _ _ a l1 c1' _ 24 waR.out (by omega) (by omega)).mono ?_); rintro e wb ⟨q, q0, q1, rfl, hr, hg, hs⟩; have Hgb := Lib.hid (grown_trans Hga.out hg); have wbB := Lib.hid (waB.out.kept hg (by intro e; have e := Option.some.inj e; omega)); have wbD := Lib.hid (waD.out.kept hg (by intro e; have e := Option.some.inj e; omega)); have hsb := hg.size; have hS5 : wb.cell? ⟨w2.heap.size, 0, none⟩ = some (.int .i64 need) ∧ wb.cell? ⟨w2.heap.size, 1, none⟩ = some (.int .i64 many) ∧ wb.cell? ⟨w2.heap.size, 2, none⟩ = some (.slice ag ng cg) ∧ wb.cell? ⟨w2.heap.size, 3, none⟩ = some (.slice ac nc cc) := ⟨wbB.out.cell 0, wbB.out.cell 1, wbB.out.cell 2, wbB.out.cell 3⟩; have hd10 := (((wbB.out.other (b' := w.heap.size) (i := 0) (v := .int .i64 need) hKR).other (b' := w.heap.size) (i := 1) (v := .int .i64 many) hKR).other (b' := w.heap.size) (i := 2) (v := .slice ag ng cg) hKR).other (b' := w.heap.size) (i := 3) (v := .slice ac nc cc) hKR; have hS6 : ((((wb.setCell ⟨w.heap.size, 0, none⟩ (.int .i64 need)).setCell ⟨w.heap.size, 1, none⟩ (.int .i64 many)).setCell ⟨w.heap.size, 2, none⟩ (.slice ag ng cg)).setCell ⟨w.heap.size, 3, none⟩ (.slice ac nc cc)).cell? ⟨w2.heap.size, 0, none⟩ = some (.int .i64 need) ∧ ((((wb.setCell ⟨w.heap.size, 0, none⟩ (.int .i64 need)).setCell ⟨w.heap.size, 1, none⟩ (.int .i64 many)).setCell ⟨w.heap.size, 2, none⟩ (.slice ag ng cg)).setCell ⟨w.heap.size, 3, none⟩ (.slice ac nc cc)).cell? ⟨w2.heap.size, 1, none⟩ = some (.int .i64 many) ∧ ((((wb.setCell ⟨w.heap.size, 0, none⟩ (.int .i64 need)).setCell ⟨w.heap.size, 1, none⟩ (.int .i64 many)).setCell ⟨w.heap.size, 2, none⟩ (.slice ag ng cg)).setCell ⟨w.heap.size, 3, none⟩ (.slice ac nc cc)).cell? ⟨w2.heap.size, 2, none⟩ = some (.slice ag ng cg) ∧ ((((wb.setCell ⟨w.heap.size, 0, none⟩ (.int .i64 need)).setCell ⟨w.heap.size, 1, none⟩ (.int .i64 many)).setCell ⟨w.heap.size, 2, none⟩ (.slice ag ng cg)).setCell ⟨w.heap.size, 3, none⟩ (.slice ac nc cc)).cell? ⟨w2.heap.size, 3, none⟩ = some (.slice ac nc cc) := ⟨hd10.cell 0, hd10.cell 1, hd10.cell 2, hd10.cell 3⟩; obtain ⟨r0b, r1b, r2b, r3b, j0b, j1b, j2b, j3b⟩ := wbD.out.all4; have HE := Lib.hid (fun m : Int => gotks_mk (w := w) (wk := w1) (cg := cg) (cc := cc) (cd := cd) (ca := ca) m wbD.out (Nat.le_refl _) (by omega) (HK3.out.kept Hgb.out (fun g e => by have e := Option.some.inj e; omega)) (HO3.out.kept Hgb.out (fun g e => by have e := Option.some.inj e; omega)) hL (HA3.out.kept Hgb.out (fun g e => by have e := Option.some.inj e; omega)) (fun W' hW' => hW'.at_.2) HWf.out hLA (grown_new HG3.out (by omega) Hgb.out)); have hlb := wbD.out.lt; clear hr hg hs hd10))
      all_goals
        clear hS4 hS5 hS6 k0 k1 k2 k3 f0 f1 f2 f3 r0 r1 r2 r3 j0 j1 j2 j3
        go_wp2
        (try simp only [Exit.inBlock, Exit.then])
        refine bodyPost_ret (ret_key5 rfl _ rfl (HE.out 0).1) rfl ?_
        exact (HE.out _).2
    · have hx0' : (x == 0) = false := by simp; omega
      have HR3d := Lib.hid (HR3.out.kept (w' := w3.drew) (fun _ _ => rfl) rfl)
      go_wp2_with fail
      go_region_held3 (fun w' => w'.cell? ⟨w2.heap.size, 0, none⟩ = some (.int .i64 need) ∧ w'.cell? ⟨w2.heap.size, 1, none⟩ = some (.int .i64 many) ∧ w'.cell? ⟨w2.heap.size, 2, none⟩ = some (.slice ag ng cg) ∧ w'.cell? ⟨w2.heap.size, 3, none⟩ = some (.slice ac nc cc)) (first | exact hS6 | exact hS5 | exact hS4 | exact ⟨k0, k1, k2, k3⟩) (first
        | (go_at_call 13; (with_reducible refine (pick_any _ _ _ a l1 c1' _ (many : Int) HR3d.out (by omega) (by omega)).mono ?_); rintro e wa ⟨r, r0', r1', rfl, hr, hg, hs⟩; have Hga := Lib.hid (show w3.grownBy wa (some (w.heap.size + 1)) from ⟨hg.os, hg.tape, hg.output, hg.size, hg.block⟩); have waR := Lib.hid hr; have waB := Lib.hid (HB3.out.kept Hga.out (by intro e; have e := Option.some.inj e; omega)); have waD := Lib.hid (HD3.out.kept Hga.out (by intro e; have e := Option.some.inj e; omega)); have hsa := Hga.out.size; have hS4 : wa.cell? ⟨w2.heap.size, 0, none⟩ = some (.int .i64 need) ∧ wa.cell? ⟨w2.heap.size, 1, none⟩ = some (.int .i64 many) ∧ wa.cell? ⟨w2.heap.size, 2, none⟩ = some (.slice ag ng cg) ∧ wa.cell? ⟨w2.heap.size, 3, none⟩ = some (.slice ac nc cc) := ⟨waB.out.cell 0, waB.out.cell 1, waB.out.cell 2, waB.out.cell 3⟩; clear hr hg hs)
        | (go_at_call 13; (with_reducible refine (pick_any _ _ _ a l1 c1' _ 24 waR.out (by omega) (by omega)).mono ?_); rintro e wb ⟨q, q0, q1, rfl, hr, hg, hs⟩; have Hgb := Lib.hid (grown_trans Hga.out hg); have wbB := Lib.hid (waB.out.kept hg (by intro e; have e := Option.some.inj e; omega)); have wbD := Lib.hid (waD.out.kept hg (by intro e; have e := Option.some.inj e; omega)); have hsb := hg.size; have hS5 : wb.cell? ⟨w2.heap.size, 0, none⟩ = some (.int .i64 need) ∧ wb.cell? ⟨w2.heap.size, 1, none⟩ = some (.int .i64 many) ∧ wb.cell? ⟨w2.heap.size, 2, none⟩ = some (.slice ag ng cg) ∧ wb.cell? ⟨w2.heap.size, 3, none⟩ = some (.slice ac nc cc) := ⟨wbB.out.cell 0, wbB.out.cell 1, wbB.out.cell 2, wbB.out.cell 3⟩; have hd10 := (((wbB.out.other (b' := w.heap.size) (i := 0) (v := .int .i64 need) hKR).other (b' := w.heap.size) (i := 1) (v := .int .i64 many) hKR).other (b' := w.heap.size) (i := 2) (v := .slice ag ng cg) hKR).other (b' := w.heap.size) (i := 3) (v := .slice ac nc cc) hKR; have hS6 : ((((wb.setCell ⟨w.heap.size, 0, none⟩ (.int .i64 need)).setCell ⟨w.heap.size, 1, none⟩ (.int .i64 many)).setCell ⟨w.heap.size, 2, none⟩ (.slice ag ng cg)).setCell ⟨w.heap.size, 3, none⟩ (.slice ac nc cc)).cell? ⟨w2.heap.size, 0, none⟩ = some (.int .i64 need) ∧ ((((wb.setCell ⟨w.heap.size, 0, none⟩ (.int .i64 need)).setCell ⟨w.heap.size, 1, none⟩ (.int .i64 many)).setCell ⟨w.heap.size, 2, none⟩ (.slice ag ng cg)).setCell ⟨w.heap.size, 3, none⟩ (.slice ac nc cc)).cell? ⟨w2.heap.size, 1, none⟩ = some (.int .i64 many) ∧ ((((wb.setCell ⟨w.heap.size, 0, none⟩ (.int .i64 need)).setCell ⟨w.heap.size, 1, none⟩ (.int .i64 many)).setCell ⟨w.heap.size, 2, none⟩ (.slice ag ng cg)).setCell ⟨w.heap.size, 3, none⟩ (.slice ac nc cc)).cell? ⟨w2.heap.size, 2, none⟩ = some (.slice ag ng cg) ∧ ((((wb.setCell ⟨w.heap.size, 0, none⟩ (.int .i64 need)).setCell ⟨w.heap.size, 1, none⟩ (.int .i64 many)).setCell ⟨w.heap.size, 2, none⟩ (.slice ag ng cg)).setCell ⟨w.heap.size, 3, none⟩ (.slice ac nc cc)).cell? ⟨w2.heap.size, 3, none⟩ = some (.slice ac nc cc) := ⟨hd10.cell 0, hd10.cell 1, hd10.cell 2, hd10.cell 3⟩; obtain ⟨r0b, r1b, r2b, r3b, j0b, j1b, j2b, j3b⟩ := wbD.out.all4; have HE := Lib.hid (fun m : Int => gotks_mk (w := w) (wk := w1) (cg := cg) (cc := cc) (cd := cd) (ca := ca) m wbD.out (Nat.le_refl _) (by omega) (HK3.out.kept Hgb.out (fun g e => by have e := Option.some.inj e; omega)) (HO3.out.kept Hgb.out (fun g e => by have e := Option.some.inj e; omega)) hL (HA3.out.kept Hgb.out (fun g e => by have e := Option.some.inj e; omega)) (fun W' hW' => hW'.at_.2) HWf.out hLA (grown_new HG3.out (by omega) Hgb.out)); have hlb := wbD.out.lt; clear hr hg hs hd10))
      all_goals
        clear hS4 hS5 hS6 k0 k1 k2 k3 f0 f1 f2 f3 r0 r1 r2 r3 j0 j1 j2 j3
        go_wp2
        (try simp only [Exit.inBlock, Exit.then])
        refine bodyPost_ret (ret_key5 rfl _ rfl (HE.out 0).1) rfl ?_
        exact (HE.out _).2
end Draw
end Go.Proofs.YtkklhlffbfgolaaDoor
