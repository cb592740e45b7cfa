/-
  The model's deal of a polynomial.
-/
import Derived.Test.YtkklhlffbfgolaaDoorDk
import Derived.Test.YtkklhlffbfgolaaDoorPd
import Derived.Test.YtkklhlffbfgolaaDoorSa
namespace Go.Proofs.YtkklhlffbfgolaaDoor
namespace Con
open Go.RowKit Alg Mem Pol
set_option linter.unusedVariables false

/-- A block of memory, whole. -/
def Blk (w : World) (b : Nat) (vs : Array Value) (T : TypeId) : Prop := w.heap[b]? = some (.cells vs T (0, 0))
theorem Blk.lt {w : World} {b : Nat} {vs : Array Value} {T : TypeId} (h : Blk w b vs T) : b < w.heap.size := by
  rcases Nat.lt_or_ge b w.heap.size with h' | h'
  · exact h'
  · unfold Blk at h; simp [Array.getElem?_eq_none h'] at h
theorem Blk.new (w : World) (vs : Array Value) (T : TypeId) : Blk (w.alloc (.cells vs T)) w.heap.size vs T := by
  show (w.heap.push _)[w.heap.size]? = _; simp
theorem Blk.kept {w w' : World} {b : Nat} {vs : Array Value} {T : TypeId} {r : Option Nat} (h : Blk w b vs T) (hg : w.grownBy w' r) (hne : some b ≠ r) : Blk w' b vs T := (hg.block b h.lt hne).trans h
theorem Blk.keptN {w w' : World} {b : Nat} {vs : Array Value} {T : TypeId} (h : Blk w b vs T) (hg : w.grownBy w' none) : Blk w' b vs T := h.kept hg (by simp)
theorem Blk.set {w : World} {b : Nat} {vs : Array Value} {T : TypeId} (h : Blk w b vs T) (i : Nat) (v : Value) : Blk (w.setCell ⟨b, i, none⟩ v) b (vs.setIfInBounds i v) T := heap_setCell_same w b i vs T v h
theorem Blk.other {w : World} {b b' i : Nat} {vs : Array Value} {T : TypeId} {v : Value} (h : Blk w b vs T) (hne : b ≠ b') : Blk (w.setCell ⟨b', i, none⟩ v) b vs T := (heap_setCell_other w ⟨b', i, none⟩ b v hne).trans h
theorem Blk.cell {w : World} {b : Nat} {vs : Array Value} {T : TypeId} (h : Blk w b vs T) (i : Nat) : w.cell? ⟨b, i, none⟩ = vs[i]? := by
  unfold Blk at h; simp only [World.cell?, h]; rfl
theorem Blk.free {w : World} {b : Nat} {vs : Array Value} {T : TypeId} (h : Blk w b vs T) (i : Nat) : w.frozen? ⟨b, i, none⟩ = false := by
  unfold Blk at h; simp [World.frozen?, h]
theorem Blk.dl {w : World} {b : Nat} {f : Int} {s1 s2 : Value} {T : TypeId} (h : Blk w b #[.int .i64 f, s1, s2] T) : Dl w b f s1 s2 := ⟨h.lt, h.cell 0, h.cell 1, h.cell 2⟩
/-- What all three cells of a deal in memory hold, and that they may be written. -/
structure Blk3 (w : World) (b : Nat) (v0 v1 v2 : Value) : Prop where
  c0 : w.cell? ⟨b, 0, none⟩ = some v0
  c1 : w.cell? ⟨b, 1, none⟩ = some v1
  c2 : w.cell? ⟨b, 2, none⟩ = some v2
  f0 : w.frozen? ⟨b, 0, none⟩ = false
  f1 : w.frozen? ⟨b, 1, none⟩ = false
  f2 : w.frozen? ⟨b, 2, none⟩ = false
theorem Blk.all {w : World} {b : Nat} {v0 v1 v2 : Value} {T : TypeId} (h : Blk w b #[v0, v1, v2] T) : Blk3 w b v0 v1 v2 := ⟨h.cell 0, h.cell 1, h.cell 2, h.free 0, h.free 1, h.free 2⟩

theorem Lst.own_ne {w : World} {lo B : Nat} {v : Value} {l : List Int} (h : Lst w lo v l) (hB : B < lo) : some B ≠ v.ownBlock := by
  rcases h with ⟨rfl, rfl⟩ | ⟨b, c, rfl, hr⟩
  · intro e; cases e
  · intro e; have e := Option.some.inj e; have := hr.from_; simp at e; omega
theorem Lst.keptB {w w' : World} {lo B : Nat} {v : Value} {l : List Int} (h : Lst w lo v l) (hg : w.grownBy w' (some B)) (hB : B < lo) : Lst w' lo v l := by
  rcases h with h | ⟨b, c, hv, hr⟩
  · exact .inl h
  · exact .inr ⟨b, c, hv, hr.kept hg (by intro e; have e := Option.some.inj e; have := hr.from_; omega)⟩
theorem size_deal : (Tryd.prog.info? 34).map (·.size) = some 3 := by kernel_rfl
theorem ret_deal {fn : Func} {p : Tmp} (h : fn.results = #[.cell p 34]) (tmps : Array Value) {w : World} {b : Nat} {v0 v1 v2 : Value} {T : TypeId} (hp : tmps.getD p undef = .pointer (some ⟨b, 0, none⟩)) (hb : Blk w b #[v0, v1, v2] T) :
    (results fn tmps).run Tryd.prog w = .ok (.agg #[v0, v1, v2]) w :=
  results_cell_row h tmps w b T #[v0, v1, v2] (0, 0) _ hp hb Tryd.underlying34 rfl size_deal
/-- The shares that a polynomial gives. -/
def shl (len : Nat) (z : Nat → Int) (k : Nat) : List Int := (List.range k).map fun (i : Nat) => fi (ev (fl z len) (cv ((i : Int) + 1)))
theorem shl_len (len : Nat) (z : Nat → Int) (k : Nat) : (shl len z k).length = k := by simp [shl]
theorem shl_succ (len : Nat) (z : Nat → Int) (k : Nat) : shl len z (k + 1) = shl len z k ++ [fi (ev (fl z len) (cv ((k : Int) + 1)))] := by simp [shl, List.range_succ]
/-- What a deal of a polynomial leaves: two rows of its own, that of what is shown ahead of that of the shares. -/
def DealOf (w : World) (f : Int) (m len : Nat) (z : Nat → Int) (e : Ending) (w' : World) : Prop :=
  ∃ (b1 c1 B : Nat) (v : Value), e = .returned (.agg #[.int .i64 f, .slice (some ⟨b1, 0, none⟩) len c1, v]) ∧ w.heap.size ≤ B ∧ b1 < B ∧ Row w' w.heap.size 3 b1 len c1 (gz z) ∧ Lst w' B v (shl len z m) ∧ w.grownBy w' none
theorem own_list {w : World} {lo : Nat} {v : Value} {l : List Int} {X : Int} {w3 : World} {v' : Value} (h : w3.ownsRow lo 3 1 v' (l.length + 1) (vals (li l) l.length ++ [.int .i64 X])) :
    ∃ b c, v' = .slice (some ⟨b, 0, none⟩) (l.length + 1) c ∧ Row w3 lo 3 b (l ++ [X]).length c (li (l ++ [X])) := by
  rw [vals_congr (y := li (l ++ [X])) fun j hj => (li_app hj).symm] at h
  obtain ⟨b, c, hv, hr⟩ := app_row h (li_last l X).symm
  exact ⟨b, c, hv, by simpa using hr⟩

set_option maxRecDepth 100000 in
set_option maxHeartbeats 2000000 in
theorem s11make (w : World) (f : Int) (m : Nat) (a : Option Addr) (len cap : Nat) (z : Nat → Int) (hI : Ints w a len z) (hl : len ≤ 5) (hz : ∀ j, j < len → fok (z j) = true) (hm : m ≤ 5) :
    Calls Tryd.prog 40 #[.int .i64 f, .int .i64 m, .slice a len cap] w (DealOf w f m len z) := by
  have HI := Lib.hid hI; have HZ := Lib.hid hz; clear hI hz
  go_enter Tryd.func40, Tryd.ntmps40
  go_wp2_with fail
  refine (s4of _ _ _ _ z (HI.out.kept (Draw.grown_alloc _ _ _)) (by omega) HZ.out).mono ?_
  rintro e w1 ⟨b1, c1, rfl, hr, hg⟩
  have HD := Lib.hid ((Blk.new w #[.int .i64 0, .slice none 0 0, .slice none 0 0] 34).keptN hg)
  obtain ⟨k0, k1, k2, f0, f1, f2⟩ := HD.out.all
  have hge0 := hr.from_
  have HRg := Lib.hid (show w.heap.size + 1 ≤ b1 from by simpa using hge0)
  clear hge0
  have HR := Lib.hid (hr.lower (Draw.grown_alloc w (.cells #[.int .i64 0, .slice none 0 0, .slice none 0 0] 34) none).size); have HG := Lib.hid (gtr (Draw.grown_alloc _ _ _) hg); clear hr hg
  have hD0 := HD.out.lt
  have hb1 := HR.out.lt
  obtain ⟨i0, hi, hz0, hz1, hz2⟩ := info_parts info_int
  go_wp2_with fail
  clear k0 k1 k2 f0 f1 f2
  go_loopw [8] (fun i wr => ∃ (k : Nat) (v : Value), k ≤ m ∧ i = .int .i64 ((k : Int) + 1) ∧ Blk wr w1.heap.size #[.int .i64 f, .slice (some ⟨b1, 0, none⟩) len c1, v] 34 ∧ Lst wr (w1.heap.size + 1) v (shl len z k) ∧ w1.grownBy wr none) (fun i _ => m + 1 - (intOf i).toNat)
  case atStart => exact ⟨0, _, by omega, by first | rfl | go_num, Blk.new _ _ _, .inl ⟨rfl, rfl⟩, Draw.grown_alloc _ _ _⟩
  case round =>
    obtain ⟨k, v, hk, rfl, hb, hL, hg⟩ := hrel
    have HB := Lib.hid hb; have HL := Lib.hid hL; have HGr := Lib.hid hg; clear hb hL hg
    obtain ⟨k0, k1, k2, f0, f1, f2⟩ := HB.out.all
    have hlt1 := HB.out.lt
    have hlk := shl_len len z k
    by_cases hlt : k < m
    · have HX := Lib.hid (show fok ((k : Int) + 1) = true from fok_iff.2 (by omega))
      have HId := Lib.hid ((HI.out.kept (gtr HG.out HGr.out)).keptB (w' := wr.drew) (fun _ _ => rfl) (Nat.le_refl _))
      have hlt' : (k : Int) + 1 ≤ (m : Int) := by omega
      have HE := Lib.hid (shl_succ len z k)
      go_wp2_with fail
      generalize hXX : fi (ev (fl z len) (cv ((k : Int) + 1))) = X at HE
      generalize hLL : shl len z k = l at *
      go_region_law (first
        | (refine step_app _ (by rfl) (.tmp 19) (.tmp 23) 23 rfl (w1.heap.size + 1) 3 i0 (.int .i64 0) 1 8 und_ints hi hz0 hz1 hz2 rfl (by decide) v l.length (vals (li l) l.length) rfl (HL.out.alloc (.cells #[.int .i64 X] 3)).owns.drew ⟨wr.heap.size, 0, none⟩ 1 1 [.int .i64 X] rfl rfl (cell_one_new _ _ _) (by simp [Value.oneCell']) (by unfold maxLen; omega) (by omega) (by show _ ≤ (wr.alloc _).heap.size; simp; omega) ?_; intro v' w3 hown' hgrow hnil; have hgr : (wr.alloc (.cells #[.int .i64 X] 3)).grownBy w3 v.ownBlock := ⟨hgrow.os, hgrow.tape, hgrow.output, hgrow.size, hgrow.block⟩; obtain ⟨b3, c3, rfl, hrow⟩ := own_list (w := wr) (v := v) hown'; have HRw := Lib.hid hrow; have HB3 := Lib.hid ((HB.out.keptN (Draw.grown_alloc wr (.cells #[.int .i64 X] 3) none)).kept hgr (HL.out.own_ne (by omega))); have HG3 := Lib.hid (Lst.app_grown (HL.out.lower (Nat.le_succ _)) HGr.out hgr); obtain ⟨_, _, k2', _, _, f2'⟩ := HB3.out.all; clear hown' hgrow hgr hnil hrow)
        | (refine at_slot 22 rfl ?_; go_simp; go_at_call 66; (with_reducible refine (s3at _ _ _ _ z _ HId.out (by omega) HZ.out HX.out).mono ?_); rintro e w' ⟨rfl, rfl⟩; rw [hXX]; dsimp only))
      all_goals
        have hge := HRw.out.from_
        go_wp2
        go_roundw
        case rel => exact ⟨k + 1, .slice (some ⟨b3, 0, none⟩) (k + 1) c3, by omega, by go_num, HB3.out.set 2 _, by rw [HE.out]; exact .inr ⟨b3, c3, by simp [hlk], HRw.out.kept (grown_set _ _ _ _) (by intro e; have e := Option.some.inj e; omega)⟩, grown_new HG3.out (Nat.le_refl _) (grown_set _ _ _ _)⟩
        case measure => simp [intOf]; omega
    · obtain rfl : k = m := by omega
      have HD0 := Lib.hid (HD.out.keptN HGr.out)
      obtain ⟨j0, j1, j2, g0, g1, g2⟩ := HD0.out.all
      obtain ⟨av, cv', rfl, _⟩ := HL.out.slice
      have hb2 : b1 < w1.heap.size + 1 := by omega
      have hle : w.heap.size ≤ w1.heap.size := by omega
      have HGw := Lib.hid (gtr HG.out HGr.out)
      have HR3 := Lib.hid (HR.out.keptN HGr.out)
      have HLk := Lib.hid (show Lst wr (w1.heap.size + 1) (.slice av k cv') (shl len z k) by have h := HL.out; rwa [hlk] at h)
      go_wp2
      (try simp only [Exit.inBlock, Exit.then])
      refine bodyPost_ret (ret_deal rfl _ rfl (((HD0.out.set 0 (.int .i64 f)).set 1 (.slice (some ⟨b1, 0, none⟩) len c1)).set 2 (.slice av k cv'))) rfl ?_
      have g0 := grown_set wr w.heap.size 0 (.int .i64 f)
      have g1 := gtr' g0 (grown_set _ w.heap.size 1 (.slice (some ⟨b1, 0, none⟩) len c1))
      have g2 := gtr' g1 (grown_set _ w.heap.size 2 (.slice av k cv'))
      have hgt := HGw.out
      exact ⟨b1, c1, w1.heap.size + 1, _, rfl, by omega, hb2, HR3.out.kept g2 (by intro e; have e := Option.some.inj e; have := HRg.out; omega), HLk.out.keptB g2 (by omega), grown_new hgt (Nat.le_refl _) g2⟩
end Con
end Go.Proofs.YtkklhlffbfgolaaDoor
