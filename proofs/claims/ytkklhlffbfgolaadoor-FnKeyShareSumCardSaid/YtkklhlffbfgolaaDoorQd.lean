/-
  How the model draws deals; what the model shows of two together, at whatever numbers.
-/
import Derived.Test.YtkklhlffbfgolaaDoorQb
import Derived.Test.YtkklhlffbfgolaaDoorKd
namespace Go.Proofs.YtkklhlffbfgolaaDoor
namespace Draw
open Go.RowKit Alg Mem Con Mp
set_option linter.unusedVariables false

/-- The cells of deals. -/
def cellsD : List DV → List Value
  | [] => []
  | x :: r => .int .i64 x.f :: .slice x.a1 x.n1 x.c1 :: .slice x.a2 x.n2 x.c2 :: cellsD r
theorem cellsD_len (L : List DV) : (cellsD L).length = L.length * 3 := by
  induction L with
  | nil => rfl
  | cons x r ih => simp [cellsD, ih]; omega
theorem cellsD_app (L : List DV) (x : DV) : cellsD (L ++ [x]) = cellsD L ++ [.int .i64 x.f, .slice x.a1 x.n1 x.c1, .slice x.a2 x.n2 x.c2] := by
  induction L with
  | nil => rfl
  | cons y r ih => simp [cellsD, ih]
def dz0 : DV := ⟨0, none, 0, 0, fun _ => 0, none, 0, 0, fun _ => 0⟩
def dAt (L : List DV) (j : Nat) : DV := L.getD j dz0
theorem dAt_mem {L : List DV} {j : Nat} (h : j < L.length) : dAt L j ∈ L := by simp [dAt, h]
theorem cellsD_get : ∀ (L : List DV) (j : Nat), j < L.length → (cellsD L)[j * 3]? = some (.int .i64 (dAt L j).f) ∧ (cellsD L)[j * 3 + 1]? = some (.slice (dAt L j).a1 (dAt L j).n1 (dAt L j).c1) ∧ (cellsD L)[j * 3 + 2]? = some (.slice (dAt L j).a2 (dAt L j).n2 (dAt L j).c2)
  | [], j, h => by simp at h
  | x :: r, 0, _ => ⟨rfl, rfl, rfl⟩
  | x :: r, j + 1, h => by
    have := cellsD_get r j (by simpa using h)
    rw [show (j + 1) * 3 = j * 3 + 3 by omega]
    simpa [cellsD, dAt] using this
/-- A deal's two rows, the call's own. -/
def RowsD (w : World) (lo : Nat) (x : DV) : Prop :=
  ∃ b1 b2 : Nat, x.a1 = some ⟨b1, 0, none⟩ ∧ x.a2 = some ⟨b2, 0, none⟩ ∧ Row w lo 3 b1 x.n1 x.c1 x.z1 ∧ Row w lo 3 b2 x.n2 x.c2 x.z2
/-- What a drawn deal's numbers are. -/
def FineD (x : DV) : Prop := x.n1 ≤ 5 ∧ x.n2 ≤ 5 ∧ (∀ i, i < x.n2 → fok (x.z2 i) = true) ∧ 1 ≤ x.f ∧ x.f ≤ 5
/-- Deals of the call's own. -/
structure OwnD (w : World) (lo : Nat) (v : Value) (L : List DV) : Prop where
  own : w.ownsRow lo 34 3 v L.length (cellsD L)
  rows : ∀ x ∈ L, RowsD w lo x
  fine : ∀ x ∈ L, FineD x
theorem OwnD.kept {w w' : World} {lo : Nat} {v : Value} {L : List DV} {r : Option Nat} (h : OwnD w lo v L) (hg : w.grownBy w' r) (hr : ∀ g, r = some g → g < lo) : OwnD w' lo v L := by
  refine ⟨h.own.kept hg ?_, fun x hx => ?_, h.fine⟩
  · cases hv : v.ownBlock with
    | none => exact .inl rfl
    | some g => refine .inr (fun e => ?_); have h1 := (h.own.lt g hv).1; have h2 := hr g e.symm; omega
  · obtain ⟨b1, b2, e1, e2, r1, r2⟩ := h.rows x hx
    have f1 := r1.from_; have f2 := r2.from_
    exact ⟨b1, b2, e1, e2, r1.kept hg (by intro e; have := hr b1 e.symm; omega), r2.kept hg (by intro e; have := hr b2 e.symm; omega)⟩
theorem OwnD.app {w W W' : World} {lo : Nat} {v v' : Value} {L : List DV} {x : DV} {o : Obj} (h : OwnD W lo v L) (hx : RowsD W lo x) (hf : FineD x) (hg : (W.alloc o).grownBy W' v.ownBlock) (ho : W'.ownsRow lo 34 3 v' (L.length + 1) (cellsD L ++ [.int .i64 x.f, .slice x.a1 x.n1 x.c1, .slice x.a2 x.n2 x.c2])) : OwnD W' lo v' (L ++ [x]) := by
  have hg' : W.grownBy W' v.ownBlock := grown_trans (grown_alloc W o _) hg
  have hk : ∀ y, RowsD W lo y → RowsD W' lo y := fun y hy => by
    obtain ⟨b1, b2, e1, e2, r1, r2⟩ := hy
    exact ⟨b1, b2, e1, e2, r1.kept hg' (row_own_ne h.own r1 (by decide)), r2.kept hg' (row_own_ne h.own r2 (by decide))⟩
  refine ⟨by rw [cellsD_app]; simpa using ho, fun y hy => ?_, fun y hy => ?_⟩
  · rcases List.mem_append.1 hy with hy | hy
    · exact hk y (h.rows y hy)
    · simp at hy; subst hy; exact hk y hx
  · rcases List.mem_append.1 hy with hy | hy
    · exact h.fine y hy
    · simp at hy; subst hy; exact hf
theorem OwnD.din {w : World} {lo : Nat} {v : Value} {L : List DV} (h : OwnD w lo v L) : ∃ a c, v = .slice a L.length c ∧ DIn w lo w.heap.size a L.length (dAt L) := by
  have hrows : ∀ j, j < L.length → (∀ b off, (dAt L j).a1 = some ⟨b, off, none⟩ → lo ≤ b ∧ b < w.heap.size) ∧ (∀ b off, (dAt L j).a2 = some ⟨b, off, none⟩ → lo ≤ b ∧ b < w.heap.size) := fun j hj => by
    obtain ⟨b1, b2, e1, e2, r1, r2⟩ := h.rows _ (dAt_mem hj)
    have f1 := r1.from_; have f2 := r2.from_; have l1 := r1.lt; have l2 := r2.lt
    refine ⟨fun b off e => ?_, fun b off e => ?_⟩
    · rw [e1] at e; injection e with e; injection e with e; omega
    · rw [e2] at e; injection e with e; injection e with e; omega
  rcases h.own.2 with ⟨hv, h0⟩ | ⟨g, cap, cur, hv, _⟩
  · exact ⟨none, 0, by rw [hv, h0], ⟨.inl h0, (fun b off e => by cases e), hrows⟩⟩
  · have ho := h.own
    rw [hv] at ho
    have hlt := ho.lt g rfl
    refine ⟨_, cap, hv, ⟨?_, fun b off e => by injection e with e; injection e with e; omega, hrows⟩⟩
    by_cases h0 : L.length = 0
    · exact .inl h0
    · refine .inr ⟨g, 0, rfl, hlt.2, fun j hj => ?_⟩
      obtain ⟨q0, q1, q2⟩ := cellsD_get L j hj
      obtain ⟨b1, b2, e1, e2, r1, r2⟩ := h.rows _ (dAt_mem hj)
      rw [Nat.zero_add]
      exact ⟨⟨(ho.cellAt _ (by omega)).trans q0, (ho.cellAt _ (by omega)).trans q1, (ho.cellAt _ (by omega)).trans q2⟩, by rw [e1]; exact r1.ints, by rw [e2]; exact r2.ints⟩
/-- What holds while deals are drawn. -/
structure DSt (w : World) (base B : Nat) (a : Option Addr) (len cap p p' : Nat) (W : World) (v : Value) (L : List DV) : Prop where
  own : OwnD W w.heap.size v L
  g : w.grownBy W (some B)
  rd : Rd W base B a len cap p'
theorem DSt.app {w W W' : World} {base B : Nat} {a : Option Addr} {len cap p p' : Nat} {v v' : Value} {L : List DV} {x : DV} {o : Obj} (h : DSt w base B a len cap p p' W v L) (hx : RowsD W w.heap.size x) (hf : FineD x) (hg : (W.alloc o).grownBy W' v.ownBlock) (hB : B < w.heap.size) (ho : W'.ownsRow w.heap.size 34 3 v' (L.length + 1) (cellsD L ++ [.int .i64 x.f, .slice x.a1 x.n1 x.c1, .slice x.a2 x.n2 x.c2])) : DSt w base B a len cap p p' W' v' (L ++ [x]) := by
  have hg' : W.grownBy W' v.ownBlock := grown_trans (grown_alloc W o _) hg
  have hne : ∀ g, v.ownBlock = some g → w.heap.size ≤ g := fun g hv => (h.own.own.lt g hv).1
  refine ⟨h.own.app (w := w) hx hf hg ho, ?_, ?_⟩
  · cases hv : v.ownBlock with
    | none => rw [hv] at hg'; exact grown_trans h.g (grown_some hg')
    | some g => rw [hv] at hg'; exact grown_newR h.g (hne g hv) hg'
  · have hlt := h.rd.lt; have hfr := h.rd.from_
    exact h.rd.kept (fun k hk => hg'.block k (by omega) (by intro e; have := hne k e.symm; omega)) (hg'.block B hlt (by intro e; have := hne B e.symm; omega))
theorem DSt.first {w : World} {base B : Nat} {a : Option Addr} {len cap p : Nat} (h : Rd w base B a len cap p) : DSt w base B a len cap p p (w.alloc (.cells #[] 34)) (.slice (some ⟨w.heap.size, 0, none⟩) 0 0) [] :=
  ⟨⟨⟨rfl, .inr ⟨w.heap.size, 0, #[], rfl, Nat.le_refl _, by show (w.heap.push _)[w.heap.size]? = _; simp, Nat.le_refl _, by decide, rfl, rfl⟩⟩, fun x hx => by simp at hx, fun x hx => by simp at hx⟩, grown_alloc _ _ _, h.alloc _⟩
set_option maxRecDepth 100000 in
set_option maxHeartbeats 8000000 in
theorem deals_any (w : World) (base B : Nat) (a : Option Addr) (len cap p : Nat) (h : Rd w base B a len cap p) (n m : Nat) (hn : 1 ≤ n) (hnm : n ≤ m) (hm : m ≤ 5) (hp : p ≤ 1000000) :
    Calls Tryd.prog 37 #[.pointer (some ⟨B, 0, none⟩), .int .i64 n, .int .i64 m] w fun e w' => ∃ (v : Value) (L : List DV), e = .returned v ∧ OwnD w' w.heap.size v L ∧ L.length ≤ 6 ∧ w.grownBy w' (some B) ∧ ∃ p', p ≤ p' ∧ p' ≤ p + 100 ∧ Rd w' base B a len cap p' := by
  have hBw := h.lt
  obtain ⟨i0, hi, hz0, hz1, hz2⟩ := info_parts info_dl
  have H0 := Lib.hid (DSt.first h)
  clear h
  go_enter Tryd.func37, Tryd.ntmps37
  go_wp2
  go_loopw [7, 8] (fun v i W => ∃ (k p' : Nat) (L : List DV), k ≤ m ∧ i = .int .i64 ((k : Int) + 1) ∧ p ≤ p' ∧ p' ≤ p + 10 * k ∧ L.length ≤ k ∧ DSt w base B a len cap p p' W v L) (fun _ i _ => m + 1 - (intOf i).toNat)
  case atStart => exact ⟨0, p, [], by omega, rfl, by omega, by omega, by simp, H0.out⟩
  case round =>
    obtain ⟨k, p1, L, hk, rfl, hp0, hp1, hL, hs⟩ := hrel
    obtain ⟨W1, hW⟩ : ∃ W, W = wr := ⟨_, rfl⟩; subst hW
    obtain ⟨v1, hW⟩ : ∃ W, W = u7 := ⟨_, rfl⟩; subst hW
    have HS := Lib.hid hs; clear hs
    by_cases hlt : k < m
    · have hlt' : (k : Int) + 1 ≤ (m : Int) := by omega
      go_wp2_with fail
      refine (pick_any _ base B a len cap p1 8 HS.out.rd (by omega) (by omega)).mono ?_
      rintro e W2 ⟨x, x0, x1, rfl, hr, hg, hsz⟩
      have HR2 := Lib.hid hr; have HO2 := Lib.hid (HS.out.own.kept hg (fun g e => by injection e with e; omega)); have HG2 := Lib.hid (grown_trans HS.out.g hg)
      clear hr hg hsz
      rcases (by omega : x = 0 ∨ 1 ≤ x) with rfl | hx
      · go_wp2
        go_roundw
        case rel => exact ⟨k + 1, p1 + 1, L, by omega, by go_num, by omega, by omega, by omega, HO2.out, HG2.out, HR2.out⟩
        case measure => simp [intOf]; omega
      · have hx' : (0 : Int) < x := by omega
        go_wp2_with fail
        refine (deal_any _ base B a len cap (p1 + 1) ((k : Int) + 1) n m HR2.out (by omega) hn (by omega) (by omega) hm).mono ?_
        rintro e W3 ⟨b1, c1, z1, b2, c2, z2, rfl, hr1, hr2, hbb, hg3, p3, hp3, hp3', hrd⟩
        have hw2 := HG2.out.size
        have hrm1 := hr1.most; have hrm2 := hr2.most; have hrl1 := hr1.le; have hrl2 := hr2.le
        have HS3 := Lib.hid (show DSt w base B a len cap p p3 W3 v1 L from ⟨HO2.out.kept hg3 (fun g e => by injection e with e; omega), grown_trans HG2.out hg3, hrd⟩)
        have HX := Lib.hid (show RowsD W3 w.heap.size ⟨(k : Int) + 1, some ⟨b1, 0, none⟩, n, c1, z1, some ⟨b2, 0, none⟩, m, c2, z2⟩ from ⟨b1, b2, rfl, rfl, hr1.lower hw2, hr2.lower hw2⟩)
        have HF := Lib.hid (show FineD ⟨(k : Int) + 1, some ⟨b1, 0, none⟩, n, c1, z1, some ⟨b2, 0, none⟩, m, c2, z2⟩ from ⟨by show n ≤ 5; omega, hm, hbb.2, by show 1 ≤ (k : Int) + 1; omega, by show (k : Int) + 1 ≤ 5; omega⟩)
        have hw3 := HS3.out.g.size
        clear hr1 hr2 hbb hg3 hrd
        go_wp2_with (at_builtin; refine wpList_append_own _ rfl _ _ 26 rfl w.heap.size 34 i0 (.agg #[.int .i64 0, .slice none 0 0, .slice none 0 0]) 3 56 und_dls hi hz0 hz1 hz2 rfl (by decide) v1 L.length (cellsD L) rfl (HS3.out.own.own.alloc _) ⟨W3.heap.size, 0, none⟩ 1 1 [.int .i64 ((k : Int) + 1), .slice (some ⟨b1, 0, none⟩) n c1, .slice (some ⟨b2, 0, none⟩) m c2] rfl rfl (World.news_of_block (cs := #[.int .i64 ((k : Int) + 1), .slice (some ⟨b1, 0, none⟩) n c1, .slice (some ⟨b2, 0, none⟩) m c2]) (t := 34) (fr := (0, 0)) (heap_alloc_new W3 _)) (by simp [Value.oneCell']) (by unfold maxLen; omega) (by omega) (by simp; omega) ?_; intro v' W4 hown' hgrow _)
        have HS4 := Lib.hid (HS3.out.app HX.out HF.out hgrow hBw hown')
        clear hown' hgrow
        go_wp2
        go_roundw
        case rel => exact ⟨k + 1, p3, _, by omega, by go_num, by omega, by omega, by simp; omega, HS4.out⟩
        case measure => simp [intOf]; omega
    · obtain rfl : k = m := by omega
      have hlt' : ¬ (k : Int) + 1 ≤ (k : Int) := by omega
      obtain ⟨av, cv, rfl, hdi⟩ := HS.out.own.din
      go_wp2_with fail
      refine (pick_any _ base B a len cap p1 40 HS.out.rd (by omega) (by omega)).mono ?_
      rintro e W2 ⟨x, x0, x1, rfl, hr, hg, hsz⟩
      have HS2 := Lib.hid (show DSt w base B a len cap p (p1 + 1) W2 (.slice av L.length cv) L from ⟨HS.out.own.kept hg (fun g e => by injection e with e; omega), grown_trans HS.out.g hg, hr⟩)
      clear hr hg hsz hdi
      rcases (by omega : x = 0 ∨ 1 ≤ x) with rfl | hx
      · by_cases hL0 : L.length = 0
        · have hl' : ¬ (0 : Int) < (L.length : Int) := by omega
          have HO0 := Lib.hid (show OwnD W2 w.heap.size (.slice av 0 cv) L by have := HS2.out.own; rwa [hL0] at this)
          go_wp2
          go_ret
          exact ⟨.slice av 0 cv, L, rfl, HO0.out, by omega, HS2.out.g, p1 + 1, by omega, by omega, HS2.out.rd⟩
        · have hpos : 0 < L.length := by omega
          have hl' : (0 : Int) < (L.length : Int) := by omega
          have ho := HS2.out.own.own
          obtain ⟨g, rfl⟩ : ∃ g, av = some ⟨g, 0, none⟩ := by
            rcases ho.2 with ⟨hv, _⟩ | ⟨g, c', cur, hv, _⟩
            · injection hv with h1 h2 h3; omega
            · injection hv with h1 h2 h3; exact ⟨g, h1⟩
          obtain ⟨q0, q1, q2⟩ := cellsD_get L 0 hpos
          have y0 : W2.cell? ⟨g, 0, none⟩ = _ := (ho.cellAt 0 (by omega)).trans (by simpa using q0)
          have y1 : W2.cell? ⟨g, 1, none⟩ = _ := (ho.cellAt 1 (by omega)).trans (by simpa using q1)
          have y2 : W2.cell? ⟨g, 2, none⟩ = _ := (ho.cellAt 2 (by omega)).trans (by simpa using q2)
          have HX := Lib.hid (HS2.out.own.rows _ (dAt_mem hpos)); have HF := Lib.hid (HS2.out.own.fine _ (dAt_mem hpos))
          have hw2 := HS2.out.g.size
          have HL := Lib.hid hL
          clear q0 q1 q2 ho
          generalize hy : dAt L 0 = y at *
          obtain ⟨yf, ya1, yn1, yc1, yz1, ya2, yn2, yc2, yz2⟩ := y
          dsimp only at y0 y1 y2
          go_wp2_with (at_builtin; refine wpList_append_own _ rfl _ _ 26 rfl w.heap.size 34 i0 (.agg #[.int .i64 0, .slice none 0 0, .slice none 0 0]) 3 56 und_dls hi hz0 hz1 hz2 rfl (by decide) _ L.length (cellsD L) rfl (HS2.out.own.own.alloc _) ⟨W2.heap.size, 0, none⟩ 1 1 [.int .i64 yf, .slice ya1 yn1 yc1, .slice ya2 yn2 yc2] rfl rfl (World.news_of_block (cs := #[.int .i64 yf, .slice ya1 yn1 yc1, .slice ya2 yn2 yc2]) (t := 34) (fr := (0, 0)) (heap_alloc_new W2 _)) (by simp [Value.oneCell']) (by unfold maxLen; omega) (by omega) (by simp; omega) ?_; intro v' W4 hown' hgrow _)
          have HS4 := Lib.hid (HS2.out.app HX.out HF.out hgrow hBw hown')
          clear hown' hgrow
          go_wp2
          go_ret
          exact ⟨_, _, rfl, HS4.out.own, by simp; omega, HS4.out.g, p1 + 1, by omega, by omega, HS4.out.rd⟩
      · have hx0 : (x == 0) = false := by simp; omega
        go_wp2
        go_ret
        exact ⟨_, L, rfl, HS2.out.own, by omega, HS2.out.g, p1 + 1, by omega, by omega, HS2.out.rd⟩
/-- The product of two of what is shown, at a place. -/
def msum (n1 n2 : Nat) (z1 z2 : Nat → Int) (j : Nat) : Int := if j < n1 then (if j < n2 then z1 j * z2 j % 47 else z1 j) else z2 j % 47
set_option maxRecDepth 100000 in
set_option maxHeartbeats 4000000 in
/-- The model's product of two of what is shown, whatever it is. -/
theorem q4sum (w : World) (a : Option Addr) (n1 c1 : Nat) (z1 : Nat → Int) (b : Option Addr) (n2 c2 : Nat) (z2 : Nat → Int) (hA : Ints w a n1 z1) (hB : Ints w b n2 z2) (h1 : n1 ≤ 5) (h2 : n2 ≤ 5) :
    Calls Tryd.prog 64 #[.slice a n1 c1, .slice b n2 c2] w fun e w' => ∃ (B n c : Nat) (z : Nat → Int), e = .returned (.slice (some ⟨B, 0, none⟩) n c) ∧ Row w' w.heap.size 3 B n c z ∧ n ≤ 5 ∧ w.grownBy w' none := by
  have HG0 := Lib.hid (grown_alloc w (.cells #[] 3) none)
  have HA := Lib.hid (hA.kept HG0.out); have HB := Lib.hid (hB.kept HG0.out)
  have HR0 := Lib.hid (row_empty w 3 (fun _ => 0))
  obtain ⟨i0, hi, hz0, hz1, hz2⟩ := info_parts info_int
  have HA1 := Lib.hid hA; have HB1 := Lib.hid hB
  clear hA hB
  go_enter Tryd.func64, Tryd.ntmps64
  go_wp2_with fail
  refine (scok _ _ _ _ z1 HA.out (by omega)).mono ?_
  rintro e w' ⟨rfl, rfl⟩
  cases hk1 : cokz n1 z1 with
  | false =>
    go_wp2
    go_ret
    exact ⟨_, 0, 0, _, rfl, HR0.out, by omega, HG0.out⟩
  | true =>
    go_wp2_with fail
    refine (scok _ _ _ _ z2 HB.out (by omega)).mono ?_
    rintro e w' ⟨rfl, rfl⟩
    cases hk2 : cokz n2 z2 with
    | false =>
      go_wp2
      go_ret
      exact ⟨_, 0, 0, _, rfl, HR0.out, by omega, HG0.out⟩
    | true =>
      have HP := Lib.hid (cokz_iff.1 hk1).2.2; have HQ := Lib.hid (cokz_iff.1 hk2).2.2
      clear hk1 hk2
      go_wp2
      go_loopw [5, 6] (fun v i wr => ∃ k b cap : Nat, k ≤ max n1 n2 ∧ v = .slice (some ⟨b, 0, none⟩) k cap ∧ i = .int .i64 k ∧ Row wr w.heap.size 3 b k cap (msum n1 n2 z1 z2) ∧ w.grownBy wr none) (fun _ i _ => max n1 n2 - (intOf i).toNat)
      case atStart => exact ⟨0, w.heap.size, 0, by omega, rfl, rfl, row_empty w _ _, Draw.grown_alloc _ _ _⟩
      case round =>
        obtain ⟨k, bo, co, hk, rfl, rfl, hr, hg⟩ := hrel
        have HG := Lib.hid hg; have hge := hr.from_; have HW := Lib.hid hr; clear hg hr
        have hsz := HG.out.size
        have hmm : k ≤ 5 := by omega
        by_cases hka : k < n1
        · have hlt : (k : Int) < max (n1 : Int) (n2 : Int) := by omega
          obtain ⟨b1, o1, rfl, hb1, hc1⟩ := (HA1.out.kept HG.out).ptr (by omega)
          have hcx := hc1 k hka
          clear hc1
          by_cases hkb : k < n2
          · obtain ⟨b2, o2, rfl, hb2, hc2⟩ := (HB1.out.kept HG.out).ptr (by omega)
            have hcy := hc2 k hkb
            clear hc2
            have HS := Lib.hid (show z1 k * z2 k % 47 = msum n1 n2 z1 z2 k by simp [msum, hka, hkb])
            obtain ⟨u0, u1⟩ := gok_range (HP.out k hka); obtain ⟨v0, v1⟩ := gok_range (HQ.out k hkb)
            have hm0 : 0 ≤ z1 k * z2 k := Int.mul_nonneg (by omega) (by omega)
            have hm1 : z1 k * z2 k ≤ 46 * 46 := Int.mul_le_mul u1 v1 (by omega) (by decide)
            go_wp2_with (at_builtin; refine wpList_append_own _ rfl _ _ 23 rfl w.heap.size 3 i0 (.int .i64 0) 1 8 und_ints hi hz0 hz1 hz2 rfl (by decide) _ k (vals (msum n1 n2 z1 z2) k) rfl (HW.out.alloc _).owns ⟨wr.heap.size, 0, none⟩ 1 1 [.int .i64 (z1 k * z2 k % 47)] rfl rfl (cell_one_new _ _ _) (by simp [Value.oneCell']) (by unfold maxLen; omega) (by omega) (by simp; omega) ?_; intro v' w1 hown' hgrow _)
            obtain ⟨b', cap', rfl, hrow⟩ := app_row hown' HS.out
            have HR := Lib.hid hrow; have HGr := Lib.hid (app_grown HG.out hge hgrow)
            clear hown' hgrow hrow
            go_wp2
            go_roundw
            case rel => exact ⟨k + 1, b', cap', by omega, rfl, by go_num, HR.out, HGr.out⟩
            case measure => simp [intOf]; omega
          · have HS := Lib.hid (show z1 k = msum n1 n2 z1 z2 k by simp [msum, hka, hkb])
            have hnb : ¬ (k : Int) < (n2 : Int) := by omega
            go_wp2_with (at_builtin; refine wpList_append_own _ rfl _ _ 23 rfl w.heap.size 3 i0 (.int .i64 0) 1 8 und_ints hi hz0 hz1 hz2 rfl (by decide) _ k (vals (msum n1 n2 z1 z2) k) rfl (HW.out.alloc _).owns ⟨wr.heap.size, 0, none⟩ 1 1 [.int .i64 (z1 k)] rfl rfl (cell_one_new _ _ _) (by simp [Value.oneCell']) (by unfold maxLen; omega) (by omega) (by simp; omega) ?_; intro v' w1 hown' hgrow _)
            obtain ⟨b', cap', rfl, hrow⟩ := app_row hown' HS.out
            have HR := Lib.hid hrow; have HGr := Lib.hid (app_grown HG.out hge hgrow)
            clear hown' hgrow hrow
            go_wp2
            go_roundw
            case rel => exact ⟨k + 1, b', cap', by omega, rfl, by go_num, HR.out, HGr.out⟩
            case measure => simp [intOf]; omega
        · have hna : ¬ (k : Int) < (n1 : Int) := by omega
          by_cases hkb : k < n2
          · have hlt : (k : Int) < max (n1 : Int) (n2 : Int) := by omega
            obtain ⟨b2, o2, rfl, hb2, hc2⟩ := (HB1.out.kept HG.out).ptr (by omega)
            have hcy := hc2 k hkb
            clear hc2
            have HS := Lib.hid (show z2 k % 47 = msum n1 n2 z1 z2 k by simp [msum, hka])
            obtain ⟨v0, v1⟩ := gok_range (HQ.out k hkb)
            go_wp2_with (at_builtin; refine wpList_append_own _ rfl _ _ 23 rfl w.heap.size 3 i0 (.int .i64 0) 1 8 und_ints hi hz0 hz1 hz2 rfl (by decide) _ k (vals (msum n1 n2 z1 z2) k) rfl (HW.out.alloc _).owns ⟨wr.heap.size, 0, none⟩ 1 1 [.int .i64 (z2 k % 47)] rfl rfl (cell_one_new _ _ _) (by simp [Value.oneCell']) (by unfold maxLen; omega) (by omega) (by simp; omega) ?_; intro v' w1 hown' hgrow _)
            obtain ⟨b', cap', rfl, hrow⟩ := app_row hown' HS.out
            have HR := Lib.hid hrow; have HGr := Lib.hid (app_grown HG.out hge hgrow)
            clear hown' hgrow hrow
            go_wp2
            go_roundw
            case rel => exact ⟨k + 1, b', cap', by omega, rfl, by go_num, HR.out, HGr.out⟩
            case measure => simp [intOf]; omega
          · obtain rfl : k = max n1 n2 := by omega
            have hlt : ¬ ((max n1 n2 : Nat) : Int) < max (n1 : Int) (n2 : Int) := by omega
            go_wp2
            all_goals
              go_ret
              exact ⟨_, _, _, rfl, ⟨_, HW.out⟩, by omega, HG.out⟩
end Draw
end Go.Proofs.YtkklhlffbfgolaaDoor
