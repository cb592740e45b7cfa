/-
  How the model draws deals; what the model shows of two together, at whatever numbers.
-/
import Derived.Test.YtchgjdbmianajaaQb
import Derived.Test.YtchgjdbmianajaaKs
import Derived.Test.YtchgjdbmianajaaSk
import Derived.Test.YtchgjdbmianajaaKc
namespace Go.Proofs.Ytchgjdbmianajaa
namespace Draw
open Go.RowKit Alg Mem Con Mp
set_option linter.unusedVariables false

/-- The cells of deals. -/
def cellsD : List DV → List Value
  | [] => []
  | x :: r => .int .i64 x.f :: .slice x.a1 x.n1 x.c1 :: .slice x.a2 x.n2 x.c2 :: cellsD r
theorem cellsD_len (L : List DV) : (cellsD L).length = L.length * 3 := by
  induction L with
  | nil => rfl
  | cons x r ih => simp [cellsD, ih]; omega
theorem cellsD_app (L : List DV) (x : DV) : cellsD (L ++ [x]) = cellsD L ++ [.int .i64 x.f, .slice x.a1 x.n1 x.c1, .slice x.a2 x.n2 x.c2] := by
  induction L with
  | nil => rfl
  | cons y r ih => simp [cellsD, ih]
def dz0 : DV := ⟨0, none, 0, 0, fun _ => 0, none, 0, 0, fun _ => 0⟩
def dAt (L : List DV) (j : Nat) : DV := L.getD j dz0
theorem dAt_mem {L : List DV} {j : Nat} (h : j < L.length) : dAt L j ∈ L := by simp [dAt, h]
theorem cellsD_get : ∀ (L : List DV) (j : Nat), j < L.length → (cellsD L)[j * 3]? = some (.int .i64 (dAt L j).f) ∧ (cellsD L)[j * 3 + 1]? = some (.slice (dAt L j).a1 (dAt L j).n1 (dAt L j).c1) ∧ (cellsD L)[j * 3 + 2]? = some (.slice (dAt L j).a2 (dAt L j).n2 (dAt L j).c2)
  | [], j, h => by simp at h
  | x :: r, 0, _ => ⟨rfl, rfl, rfl⟩
  | x :: r, j + 1, h => by
    have := cellsD_get r j (by simpa using h)
    rw [show (j + 1) * 3 = j * 3 + 3 by omega]
    simpa [cellsD, dAt] using this
/-- A deal's two rows, the call's own. -/
def RowsD (w : World) (lo : Nat) (x : DV) : Prop :=
  ∃ b1 b2 : Nat, x.a1 = some ⟨b1, 0, none⟩ ∧ x.a2 = some ⟨b2, 0, none⟩ ∧ Row w lo 3 b1 x.n1 x.c1 x.z1 ∧ Row w lo 3 b2 x.n2 x.c2 x.z2
/-- What a drawn deal's numbers are. -/
def FineD (x : DV) : Prop := x.n1 ≤ 5 ∧ x.n2 ≤ 5 ∧ (∀ i, i < x.n2 → fok (x.z2 i) = true) ∧ 1 ≤ x.f ∧ x.f ≤ 5
/-- Deals of the call's own. -/
structure OwnD (w : World) (lo : Nat) (v : Value) (L : List DV) : Prop where
  own : w.ownsRow lo 91 3 v L.length (cellsD L)
  rows : ∀ x ∈ L, RowsD w lo x
  fine : ∀ x ∈ L, FineD x
theorem OwnD.kept {w w' : World} {lo : Nat} {v : Value} {L : List DV} {r : Option Nat} (h : OwnD w lo v L) (hg : w.grownBy w' r) (hr : ∀ g, r = some g → g < lo) : OwnD w' lo v L := by
  refine ⟨h.own.kept hg ?_, fun x hx => ?_, h.fine⟩
  · cases hv : v.ownBlock with
    | none => exact .inl rfl
    | some g => refine .inr (fun e => ?_); have h1 := (h.own.lt g hv).1; have h2 := hr g e.symm; omega
  · obtain ⟨b1, b2, e1, e2, r1, r2⟩ := h.rows x hx
    have f1 := r1.from_; have f2 := r2.from_
    exact ⟨b1, b2, e1, e2, r1.kept hg (by intro e; have := hr b1 e.symm; omega), r2.kept hg (by intro e; have := hr b2 e.symm; omega)⟩
theorem OwnD.app {w W W' : World} {lo : Nat} {v v' : Value} {L : List DV} {x : DV} {o : Obj} (h : OwnD W lo v L) (hx : RowsD W lo x) (hf : FineD x) (hg : (W.alloc o).grownBy W' v.ownBlock) (ho : W'.ownsRow lo 91 3 v' (L.length + 1) (cellsD L ++ [.int .i64 x.f, .slice x.a1 x.n1 x.c1, .slice x.a2 x.n2 x.c2])) : OwnD W' lo v' (L ++ [x]) := by
  have hg' : W.grownBy W' v.ownBlock := grown_trans (grown_alloc W o _) hg
  have hk : ∀ y, RowsD W lo y → RowsD W' lo y := fun y hy => by
    obtain ⟨b1, b2, e1, e2, r1, r2⟩ := hy
    exact ⟨b1, b2, e1, e2, r1.kept hg' (row_own_ne h.own r1 (by decide)), r2.kept hg' (row_own_ne h.own r2 (by decide))⟩
  refine ⟨by rw [cellsD_app]; simpa using ho, fun y hy => ?_, fun y hy => ?_⟩
  · rcases List.mem_append.1 hy with hy | hy
    · exact hk y (h.rows y hy)
    · simp at hy; subst hy; exact hk y hx
  · rcases List.mem_append.1 hy with hy | hy
    · exact h.fine y hy
    · simp at hy; subst hy; exact hf
theorem OwnD.din {w : World} {lo : Nat} {v : Value} {L : List DV} (h : OwnD w lo v L) : ∃ a c, v = .slice a L.length c ∧ DIn w lo w.heap.size a L.length (dAt L) := by
  have hrows : ∀ j, j < L.length → (∀ b off, (dAt L j).a1 = some ⟨b, off, none⟩ → lo ≤ b ∧ b < w.heap.size) ∧ (∀ b off, (dAt L j).a2 = some ⟨b, off, none⟩ → lo ≤ b ∧ b < w.heap.size) := fun j hj => by
    obtain ⟨b1, b2, e1, e2, r1, r2⟩ := h.rows _ (dAt_mem hj)
    have f1 := r1.from_; have f2 := r2.from_; have l1 := r1.lt; have l2 := r2.lt
    refine ⟨fun b off e => ?_, fun b off e => ?_⟩
    · rw [e1] at e; injection e with e; injection e with e; omega
    · rw [e2] at e; injection e with e; injection e with e; omega
  rcases h.own.2 with ⟨hv, h0⟩ | ⟨g, cap, cur, hv, _⟩
  · exact ⟨none, 0, by rw [hv, h0], ⟨.inl h0, (fun b off e => by cases e), hrows⟩⟩
  · have ho := h.own
    rw [hv] at ho
    have hlt := ho.lt g rfl
    refine ⟨_, cap, hv, ⟨?_, fun b off e => by injection e with e; injection e with e; omega, hrows⟩⟩
    by_cases h0 : L.length = 0
    · exact .inl h0
    · refine .inr ⟨g, 0, rfl, hlt.2, fun j hj => ?_⟩
      obtain ⟨q0, q1, q2⟩ := cellsD_get L j hj
      obtain ⟨b1, b2, e1, e2, r1, r2⟩ := h.rows _ (dAt_mem hj)
      rw [Nat.zero_add]
      exact ⟨⟨(ho.cellAt _ (by omega)).trans q0, (ho.cellAt _ (by omega)).trans q1, (ho.cellAt _ (by omega)).trans q2⟩, by rw [e1]; exact r1.ints, by rw [e2]; exact r2.ints⟩
/-- What holds while deals are drawn. -/
structure DSt (w : World) (base B : Nat) (a : Option Addr) (len cap p p' : Nat) (W : World) (v : Value) (L : List DV) : Prop where
  own : OwnD W w.heap.size v L
  g : w.grownBy W (some B)
  rd : Rd W base B a len cap p'
theorem DSt.app {w W W' : World} {base B : Nat} {a : Option Addr} {len cap p p' : Nat} {v v' : Value} {L : List DV} {x : DV} {o : Obj} (h : DSt w base B a len cap p p' W v L) (hx : RowsD W w.heap.size x) (hf : FineD x) (hg : (W.alloc o).grownBy W' v.ownBlock) (hB : B < w.heap.size) (ho : W'.ownsRow w.heap.size 91 3 v' (L.length + 1) (cellsD L ++ [.int .i64 x.f, .slice x.a1 x.n1 x.c1, .slice x.a2 x.n2 x.c2])) : DSt w base B a len cap p p' W' v' (L ++ [x]) := by
  have hg' : W.grownBy W' v.ownBlock := grown_trans (grown_alloc W o _) hg
  have hne : ∀ g, v.ownBlock = some g → w.heap.size ≤ g := fun g hv => (h.own.own.lt g hv).1
  refine ⟨h.own.app (w := w) hx hf hg ho, ?_, ?_⟩
  · cases hv : v.ownBlock with
    | none => rw [hv] at hg'; exact grown_trans h.g (grown_some hg')
    | some g => rw [hv] at hg'; exact grown_newR h.g (hne g hv) hg'
  · have hlt := h.rd.lt; have hfr := h.rd.from_
    exact h.rd.kept (fun k hk => hg'.block k (by omega) (by intro e; have := hne k e.symm; omega)) (hg'.block B hlt (by intro e; have := hne B e.symm; omega))
theorem DSt.first {w : World} {base B : Nat} {a : Option Addr} {len cap p : Nat} (h : Rd w base B a len cap p) : DSt w base B a len cap p p (w.alloc (.cells #[] 91)) (.slice (some ⟨w.heap.size, 0, none⟩) 0 0) [] :=
  ⟨⟨⟨rfl, .inr ⟨w.heap.size, 0, #[], rfl, Nat.le_refl _, by show (w.heap.push _)[w.heap.size]? = _; simp, Nat.le_refl _, by decide, rfl, rfl⟩⟩, fun x hx => by simp at hx, fun x hx => by simp at hx⟩, grown_alloc _ _ _, h.alloc _⟩
set_option maxRecDepth 100000 in
set_option maxHeartbeats 8000000 in
theorem deals_any (w : World) (base B : Nat) (a : Option Addr) (len cap p : Nat) (h : Rd w base B a len cap p) (n m : Nat) (hn : 1 ≤ n) (hnm : n ≤ m) (hm : m ≤ 5) (hp : p ≤ 1000000) :
    Calls Try.prog 63 #[.pointer (some ⟨B, 0, none⟩), .int .i64 n, .int .i64 m] w fun e w' => ∃ (v : Value) (L : List DV), e = .returned v ∧ OwnD w' w.heap.size v L ∧ L.length ≤ 6 ∧ w.grownBy w' (some B) ∧ ∃ p', p ≤ p' ∧ p' ≤ p + 100 ∧ Rd w' base B a len cap p' := by
  have hBw := h.lt
  obtain ⟨i0, hi, hz0, hz1, hz2⟩ := info_parts info_dl
  have H0 := Lib.hid (DSt.first h)
  clear h
  go_enter Try.func63, Try.ntmps63
  go_wp2
  go_loopw [7, 8] (fun v i W => ∃ (k p' : Nat) (L : List DV), k ≤ m ∧ i = .int .i64 ((k : Int) + 1) ∧ p ≤ p' ∧ p' ≤ p + 10 * k ∧ L.length ≤ k ∧ DSt w base B a len cap p p' W v L) (fun _ i _ => m + 1 - (intOf i).toNat)
  case atStart => exact ⟨0, p, [], by omega, rfl, by omega, by omega, by simp, H0.out⟩
  case round =>
    obtain ⟨k, p1, L, hk, rfl, hp0, hp1, hL, hs⟩ := hrel
    obtain ⟨W1, hW⟩ : ∃ W, W = wr := ⟨_, rfl⟩; subst hW
    obtain ⟨v1, hW⟩ : ∃ W, W = u7 := ⟨_, rfl⟩; subst hW
    have HS := Lib.hid hs; clear hs
    by_cases hlt : k < m
    · have hlt' : (k : Int) + 1 ≤ (m : Int) := by omega
      go_wp2_with fail
      refine (pick_any _ base B a len cap p1 8 HS.out.rd (by omega) (by omega)).mono ?_
      rintro e W2 ⟨x, x0, x1, rfl, hr, hg, hsz⟩
      have HR2 := Lib.hid hr; have HO2 := Lib.hid (HS.out.own.kept hg (fun g e => by injection e with e; omega)); have HG2 := Lib.hid (grown_trans HS.out.g hg)
      clear hr hg hsz
      rcases (by omega : x = 0 ∨ 1 ≤ x) with rfl | hx
      · go_wp2
        go_roundw
        case rel => exact ⟨k + 1, p1 + 1, L, by omega, by go_num, by omega, by omega, by omega, HO2.out, HG2.out, HR2.out⟩
        case measure => simp [intOf]; omega
      · have hx' : (0 : Int) < x := by omega
        go_wp2_with fail
        refine (deal_any _ base B a len cap (p1 + 1) ((k : Int) + 1) n m HR2.out (by omega) hn (by omega) (by omega) hm).mono ?_
        rintro e W3 ⟨b1, c1, z1, b2, c2, z2, rfl, hr1, hr2, hbb, hg3, p3, hp3, hp3', hrd⟩
        have hw2 := HG2.out.size
        have hrm1 := hr1.most; have hrm2 := hr2.most; have hrl1 := hr1.le; have hrl2 := hr2.le
        have HS3 := Lib.hid (show DSt w base B a len cap p p3 W3 v1 L from ⟨HO2.out.kept hg3 (fun g e => by injection e with e; omega), grown_trans HG2.out hg3, hrd⟩)
        have HX := Lib.hid (show RowsD W3 w.heap.size ⟨(k : Int) + 1, some ⟨b1, 0, none⟩, n, c1, z1, some ⟨b2, 0, none⟩, m, c2, z2⟩ from ⟨b1, b2, rfl, rfl, hr1.lower hw2, hr2.lower hw2⟩)
        have HF := Lib.hid (show FineD ⟨(k : Int) + 1, some ⟨b1, 0, none⟩, n, c1, z1, some ⟨b2, 0, none⟩, m, c2, z2⟩ from ⟨by show n ≤ 5; omega, hm, hbb.2, by show 1 ≤ (k : Int) + 1; omega, by show (k : Int) + 1 ≤ 5; omega⟩)
        have hw3 := HS3.out.g.size
        clear hr1 hr2 hbb hg3 hrd
        go_wp2_with (at_builtin; refine wpList_append_own _ rfl _ _ 78 rfl w.heap.size 91 i0 (.agg #[.int .i64 0, .slice none 0 0, .slice none 0 0]) 3 56 und_dls hi hz0 hz1 hz2 rfl (by decide) v1 L.length (cellsD L) rfl (HS3.out.own.own.alloc _) ⟨W3.heap.size, 0, none⟩ 1 1 [.int .i64 ((k : Int) + 1), .slice (some ⟨b1, 0, none⟩) n c1, .slice (some ⟨b2, 0, none⟩) m c2] rfl rfl (World.news_of_block (cs := #[.int .i64 ((k : Int) + 1), .slice (some ⟨b1, 0, none⟩) n c1, .slice (some ⟨b2, 0, none⟩) m c2]) (t := 91) (fr := (0, 0)) (heap_alloc_new W3 _)) (by simp [Value.oneCell']) (by unfold maxLen; omega) (by omega) (by simp; omega) ?_; intro v' W4 hown' hgrow _)
        have HS4 := Lib.hid (HS3.out.app HX.out HF.out hgrow hBw hown')
        clear hown' hgrow
        go_wp2
        go_roundw
        case rel => exact ⟨k + 1, p3, _, by omega, by go_num, by omega, by omega, by simp; omega, HS4.out⟩
        case measure => simp [intOf]; omega
    · obtain rfl : k = m := by omega
      have hlt' : ¬ (k : Int) + 1 ≤ (k : Int) := by omega
      obtain ⟨av, cv, rfl, hdi⟩ := HS.out.own.din
      go_wp2_with fail
      refine (pick_any _ base B a len cap p1 40 HS.out.rd (by omega) (by omega)).mono ?_
      rintro e W2 ⟨x, x0, x1, rfl, hr, hg, hsz⟩
      have HS2 := Lib.hid (show DSt w base B a len cap p (p1 + 1) W2 (.slice av L.length cv) L from ⟨HS.out.own.kept hg (fun g e => by injection e with e; omega), grown_trans HS.out.g hg, hr⟩)
      clear hr hg hsz hdi
      rcases (by omega : x = 0 ∨ 1 ≤ x) with rfl | hx
      · by_cases hL0 : L.length = 0
        · have hl' : ¬ (0 : Int) < (L.length : Int) := by omega
          have HO0 := Lib.hid (show OwnD W2 w.heap.size (.slice av 0 cv) L by have := HS2.out.own; rwa [hL0] at this)
          go_wp2
          go_ret
          exact ⟨.slice av 0 cv, L, rfl, HO0.out, by omega, HS2.out.g, p1 + 1, by omega, by omega, HS2.out.rd⟩
        · have hpos : 0 < L.length := by omega
          have hl' : (0 : Int) < (L.length : Int) := by omega
          have ho := HS2.out.own.own
          obtain ⟨g, rfl⟩ : ∃ g, av = some ⟨g, 0, none⟩ := by
            rcases ho.2 with ⟨hv, _⟩ | ⟨g, c', cur, hv, _⟩
            · injection hv with h1 h2 h3; omega
            · injection hv with h1 h2 h3; exact ⟨g, h1⟩
          obtain ⟨q0, q1, q2⟩ := cellsD_get L 0 hpos
          have y0 : W2.cell? ⟨g, 0, none⟩ = _ := (ho.cellAt 0 (by omega)).trans (by simpa using q0)
          have y1 : W2.cell? ⟨g, 1, none⟩ = _ := (ho.cellAt 1 (by omega)).trans (by simpa using q1)
          have y2 : W2.cell? ⟨g, 2, none⟩ = _ := (ho.cellAt 2 (by omega)).trans (by simpa using q2)
          have HX := Lib.hid (HS2.out.own.rows _ (dAt_mem hpos)); have HF := Lib.hid (HS2.out.own.fine _ (dAt_mem hpos))
          have hw2 := HS2.out.g.size
          have HL := Lib.hid hL
          clear q0 q1 q2 ho
          generalize hy : dAt L 0 = y at *
          obtain ⟨yf, ya1, yn1, yc1, yz1, ya2, yn2, yc2, yz2⟩ := y
          dsimp only at y0 y1 y2
          go_wp2_with (at_builtin; refine wpList_append_own _ rfl _ _ 78 rfl w.heap.size 91 i0 (.agg #[.int .i64 0, .slice none 0 0, .slice none 0 0]) 3 56 und_dls hi hz0 hz1 hz2 rfl (by decide) _ L.length (cellsD L) rfl (HS2.out.own.own.alloc _) ⟨W2.heap.size, 0, none⟩ 1 1 [.int .i64 yf, .slice ya1 yn1 yc1, .slice ya2 yn2 yc2] rfl rfl (World.news_of_block (cs := #[.int .i64 yf, .slice ya1 yn1 yc1, .slice ya2 yn2 yc2]) (t := 91) (fr := (0, 0)) (heap_alloc_new W2 _)) (by simp [Value.oneCell']) (by unfold maxLen; omega) (by omega) (by simp; omega) ?_; intro v' W4 hown' hgrow _)
          have HS4 := Lib.hid (HS2.out.app HX.out HF.out hgrow hBw hown')
          clear hown' hgrow
          go_wp2
          go_ret
          exact ⟨_, _, rfl, HS4.out.own, by simp; omega, HS4.out.g, p1 + 1, by omega, by omega, HS4.out.rd⟩
      · have hx0 : (x == 0) = false := by simp; omega
        go_wp2
        go_ret
        exact ⟨_, L, rfl, HS2.out.own, by omega, HS2.out.g, p1 + 1, by omega, by omega, HS2.out.rd⟩
/-- The product of two of what is shown, at a place. -/
def msum (n1 n2 : Nat) (z1 z2 : Nat → Int) (j : Nat) : Int := if j < n1 then (if j < n2 then z1 j * z2 j % 47 else z1 j) else z2 j % 47
set_option maxRecDepth 100000 in
set_option maxHeartbeats 4000000 in
/-- The model's product of two of what is shown, whatever it is. -/
theorem q4sum (w : World) (a : Option Addr) (n1 c1 : Nat) (z1 : Nat → Int) (b : Option Addr) (n2 c2 : Nat) (z2 : Nat → Int) (hA : Ints w a n1 z1) (hB : Ints w b n2 z2) (h1 : n1 ≤ 5) (h2 : n2 ≤ 5) :
    Calls Try.prog 78 #[.slice a n1 c1, .slice b n2 c2] w fun e w' => ∃ (B n c : Nat) (z : Nat → Int), e = .returned (.slice (some ⟨B, 0, none⟩) n c) ∧ Row w' w.heap.size 3 B n c z ∧ n ≤ 5 ∧ w.grownBy w' none := by
  have HG0 := Lib.hid (grown_alloc w (.cells #[] 3) none)
  have HA := Lib.hid (hA.kept HG0.out); have HB := Lib.hid (hB.kept HG0.out)
  have HR0 := Lib.hid (row_empty w 3 (fun _ => 0))
  obtain ⟨i0, hi, hz0, hz1, hz2⟩ := info_parts info_int
  have HA1 := Lib.hid hA; have HB1 := Lib.hid hB
  clear hA hB
  go_enter Try.func78, Try.ntmps78
  go_wp2_with fail
  refine (scok _ _ _ _ z1 HA.out (by omega)).mono ?_
  rintro e w' ⟨rfl, rfl⟩
  cases hk1 : cokz n1 z1 with
  | false =>
    go_wp2
    go_ret
    exact ⟨_, 0, 0, _, rfl, HR0.out, by omega, HG0.out⟩
  | true =>
    go_wp2_with fail
    refine (scok _ _ _ _ z2 HB.out (by omega)).mono ?_
    rintro e w' ⟨rfl, rfl⟩
    cases hk2 : cokz n2 z2 with
    | false =>
      go_wp2
      go_ret
      exact ⟨_, 0, 0, _, rfl, HR0.out, by omega, HG0.out⟩
    | true =>
      have HP := Lib.hid (cokz_iff.1 hk1).2.2; have HQ := Lib.hid (cokz_iff.1 hk2).2.2
      clear hk1 hk2
      go_wp2
      go_loopw [5, 6] (fun v i wr => ∃ k b cap : Nat, k ≤ max n1 n2 ∧ v = .slice (some ⟨b, 0, none⟩) k cap ∧ i = .int .i64 k ∧ Row wr w.heap.size 3 b k cap (msum n1 n2 z1 z2) ∧ w.grownBy wr none) (fun _ i _ => max n1 n2 - (intOf i).toNat)
      case atStart => exact ⟨0, w.heap.size, 0, by omega, rfl, rfl, row_empty w _ _, Draw.grown_alloc _ _ _⟩
      case round =>
        obtain ⟨k, bo, co, hk, rfl, rfl, hr, hg⟩ := hrel
        have HG := Lib.hid hg; have hge := hr.from_; have HW := Lib.hid hr; clear hg hr
        have hsz := HG.out.size
        have hmm : k ≤ 5 := by omega
        by_cases hka : k < n1
        · have hlt : (k : Int) < max (n1 : Int) (n2 : Int) := by omega
          obtain ⟨b1, o1, rfl, hb1, hc1⟩ := (HA1.out.kept HG.out).ptr (by omega)
          have hcx := hc1 k hka
          clear hc1
          by_cases hkb : k < n2
          · obtain ⟨b2, o2, rfl, hb2, hc2⟩ := (HB1.out.kept HG.out).ptr (by omega)
            have hcy := hc2 k hkb
            clear hc2
            have HS := Lib.hid (show z1 k * z2 k % 47 = msum n1 n2 z1 z2 k by simp [msum, hka, hkb])
            obtain ⟨u0, u1⟩ := gok_range (HP.out k hka); obtain ⟨v0, v1⟩ := gok_range (HQ.out k hkb)
            have hm0 : 0 ≤ z1 k * z2 k := Int.mul_nonneg (by omega) (by omega)
            have hm1 : z1 k * z2 k ≤ 46 * 46 := Int.mul_le_mul u1 v1 (by omega) (by decide)
            go_wp2_with (at_builtin; refine wpList_append_own _ rfl _ _ 23 rfl w.heap.size 3 i0 (.int .i64 0) 1 8 und_ints hi hz0 hz1 hz2 rfl (by decide) _ k (vals (msum n1 n2 z1 z2) k) rfl (HW.out.alloc _).owns ⟨wr.heap.size, 0, none⟩ 1 1 [.int .i64 (z1 k * z2 k % 47)] rfl rfl (cell_one_new _ _ _) (by simp [Value.oneCell']) (by unfold maxLen; omega) (by omega) (by simp; omega) ?_; intro v' w1 hown' hgrow _)
            obtain ⟨b', cap', rfl, hrow⟩ := app_row hown' HS.out
            have HR := Lib.hid hrow; have HGr := Lib.hid (app_grown HG.out hge hgrow)
            clear hown' hgrow hrow
            go_wp2
            go_roundw
            case rel => exact ⟨k + 1, b', cap', by omega, rfl, by go_num, HR.out, HGr.out⟩
            case measure => simp [intOf]; omega
          · have HS := Lib.hid (show z1 k = msum n1 n2 z1 z2 k by simp [msum, hka, hkb])
            have hnb : ¬ (k : Int) < (n2 : Int) := by omega
            go_wp2_with (at_builtin; refine wpList_append_own _ rfl _ _ 23 rfl w.heap.size 3 i0 (.int .i64 0) 1 8 und_ints hi hz0 hz1 hz2 rfl (by decide) _ k (vals (msum n1 n2 z1 z2) k) rfl (HW.out.alloc _).owns ⟨wr.heap.size, 0, none⟩ 1 1 [.int .i64 (z1 k)] rfl rfl (cell_one_new _ _ _) (by simp [Value.oneCell']) (by unfold maxLen; omega) (by omega) (by simp; omega) ?_; intro v' w1 hown' hgrow _)
            obtain ⟨b', cap', rfl, hrow⟩ := app_row hown' HS.out
            have HR := Lib.hid hrow; have HGr := Lib.hid (app_grown HG.out hge hgrow)
            clear hown' hgrow hrow
            go_wp2
            go_roundw
            case rel => exact ⟨k + 1, b', cap', by omega, rfl, by go_num, HR.out, HGr.out⟩
            case measure => simp [intOf]; omega
        · have hna : ¬ (k : Int) < (n1 : Int) := by omega
          by_cases hkb : k < n2
          · have hlt : (k : Int) < max (n1 : Int) (n2 : Int) := by omega
            obtain ⟨b2, o2, rfl, hb2, hc2⟩ := (HB1.out.kept HG.out).ptr (by omega)
            have hcy := hc2 k hkb
            clear hc2
            have HS := Lib.hid (show z2 k % 47 = msum n1 n2 z1 z2 k by simp [msum, hka])
            obtain ⟨v0, v1⟩ := gok_range (HQ.out k hkb)
            go_wp2_with (at_builtin; refine wpList_append_own _ rfl _ _ 23 rfl w.heap.size 3 i0 (.int .i64 0) 1 8 und_ints hi hz0 hz1 hz2 rfl (by decide) _ k (vals (msum n1 n2 z1 z2) k) rfl (HW.out.alloc _).owns ⟨wr.heap.size, 0, none⟩ 1 1 [.int .i64 (z2 k % 47)] rfl rfl (cell_one_new _ _ _) (by simp [Value.oneCell']) (by unfold maxLen; omega) (by omega) (by simp; omega) ?_; intro v' w1 hown' hgrow _)
            obtain ⟨b', cap', rfl, hrow⟩ := app_row hown' HS.out
            have HR := Lib.hid hrow; have HGr := Lib.hid (app_grown HG.out hge hgrow)
            clear hown' hgrow hrow
            go_wp2
            go_roundw
            case rel => exact ⟨k + 1, b', cap', by omega, rfl, by go_num, HR.out, HGr.out⟩
            case measure => simp [intOf]; omega
          · obtain rfl : k = max n1 n2 := by omega
            have hlt : ¬ ((max n1 n2 : Nat) : Int) < max (n1 : Int) (n2 : Int) := by omega
            go_wp2
            all_goals
              go_ret
              exact ⟨_, _, _, rfl, ⟨_, HW.out⟩, by omega, HG.out⟩
end Draw
end Go.Proofs.Ytchgjdbmianajaa
/-
  How the model makes a key of deals, whatever they are.
-/

namespace Go.Proofs.Ytchgjdbmianajaa
namespace Draw
open Go.RowKit Alg Mem Con Mp
set_option linter.unusedVariables false

theorem row_blk {w : World} {lo : Nat} {E : TypeId} {b len cap : Nat} {z : Nat → Int} {b' : Nat} {vs : Array Value} {T : TypeId} (h : Row w lo E b len cap z) (k : Blk w b' vs T) (hne : E ≠ T) : b ≠ b' := by
  rintro rfl
  obtain ⟨c, ⟨cur, hb, _, _⟩, _⟩ := h.row
  unfold Blk at k
  rw [hb] at k
  injection k with k
  injection k with _ k2 _
  exact hne k2
theorem app_row2 {w1 : World} {lo : Nat} {E : TypeId} {v' : Value} {k : Nat} {z : Nat → Int} {n : Int} (h : w1.ownsRow lo E 1 v' (k + 1) (vals z k ++ [.int .i64 n])) :
    ∃ b cap, v' = .slice (some ⟨b, 0, none⟩) (k + 1) cap ∧ Row w1 lo E b (k + 1) cap (fun j => if j < k then z j else n) := by
  have h' : w1.ownsRow lo E 1 v' (k + 1) (vals (fun j => if j < k then z j else n) k ++ [.int .i64 n]) := by
    rw [vals_congr (z := fun j => if j < k then z j else n) (y := z) (k := k) fun j hj => by simp [hj]]; exact h
  exact app_row h' (by simp)
theorem ret_key2 {fn : Func} {p u : Tmp} (h : fn.results = #[.cell p 62, .tmp u]) (tmps : Array Value) {w : World} {b : Nat} {v0 v1 v2 v3 : Value} {T : TypeId} (hp : tmps.getD p undef = .pointer (some ⟨b, 0, none⟩)) (hb : Blk w b #[v0, v1, v2, v3] T) :
    (results fn tmps).run Try.prog w = .ok (.tuple #[.agg #[v0, v1, v2, v3], tmps.getD u undef]) w := by
  have hp' : tmps[p]?.getD undef = .pointer (some ⟨b, 0, none⟩) := by simpa using hp
  simp [results, h, hp', asAddr, run_loadVar_row w b T 62 #[v0, v1, v2, v3] (0, 0) _ hb Try.underlying62 rfl size_key, Result.andThen]
/-- A key of the call's own, or none at all. -/
def GotK (w : World) (e : Ending) (w' : World) : Prop :=
  ∃ (need many : Nat) (ag : Option Addr) (ng cg : Nat) (zg : Nat → Int) (ac : Option Addr) (nc cc : Nat) (zc : Nat → Int) (ok : Bool), e = .returned (.tuple #[.agg #[.int .i64 need, .int .i64 many, .slice ag ng cg, .slice ac nc cc], .bool ok]) ∧ need ≤ 5 ∧ many ≤ 5 ∧ ng ≤ 6 ∧ nc ≤ 5 ∧ Ints w' ag ng zg ∧ Ints w' ac nc zc ∧ (∀ b off, ag = some ⟨b, off, none⟩ → w.heap.size ≤ b ∧ b < w'.heap.size) ∧ (∀ b off, ac = some ⟨b, off, none⟩ → w.heap.size ≤ b ∧ b < w'.heap.size) ∧ w.grownBy w' none ∧ (ok = true → 1 ≤ many ∧ 1 ≤ need ∧ need ≤ many) ∧ ((∃ b off, ac = some ⟨b, off, none⟩) ∨ ac = none ∧ nc = 0 ∧ cc = 0)
theorem gotk_none {w w1 : World} {R : Nat} (hb : Blk w1 R #[.int .i64 0, .int .i64 0, .slice none 0 0, .slice none 0 0] 62) (hR : w.heap.size ≤ R) (hg : w.grownBy w1 none) :
    Blk ((((w1.setCell ⟨R, 0, none⟩ (.int .i64 0)).setCell ⟨R, 1, none⟩ (.int .i64 0)).setCell ⟨R, 2, none⟩ (.slice none 0 0)).setCell ⟨R, 3, none⟩ (.slice none 0 0)) R #[.int .i64 0, .int .i64 0, .slice none 0 0, .slice none 0 0] 62 ∧
    GotK w (.returned (.tuple #[.agg #[.int .i64 0, .int .i64 0, .slice none 0 0, .slice none 0 0], .bool false])) ((((w1.setCell ⟨R, 0, none⟩ (.int .i64 0)).setCell ⟨R, 1, none⟩ (.int .i64 0)).setCell ⟨R, 2, none⟩ (.slice none 0 0)).setCell ⟨R, 3, none⟩ (.slice none 0 0)) := by
  have g1 := gtr' (gtr' (gtr' (grown_set w1 R 0 (.int .i64 0)) (grown_set _ R 1 (.int .i64 0))) (grown_set _ R 2 (.slice none 0 0))) (grown_set _ R 3 (.slice none 0 0))
  exact ⟨(((hb.set 0 _).set 1 _).set 2 _).set 3 _, 0, 0, none, 0, 0, fun _ => 0, none, 0, 0, fun _ => 0, false, rfl, by omega, by omega, by omega, by omega, .inl rfl, .inl rfl, (fun b off e => by cases e), (fun b off e => by cases e), grown_new hg hR g1, by simp, .inr ⟨rfl, rfl, rfl⟩⟩
/-- What holds while a key is made. -/
structure KSt (w2 : World) (need many : Int) (K bg ng cg : Nat) (zg : Nat → Int) (bc nc cc : Nat) (zc : Nat → Int) (W : World) : Prop where
  k : Blk W K #[.int .i64 need, .int .i64 many, .slice (some ⟨bg, 0, none⟩) ng cg, .slice (some ⟨bc, 0, none⟩) nc cc] 62
  rg : Row W w2.heap.size 3 bg ng cg zg
  rc : Row W w2.heap.size 3 bc nc cc zc
  ne : bg < bc
  K0 : w2.heap.size ≤ K
  g : w2.grownBy W none
theorem KSt.quiet {w2 : World} {need many : Int} {K bg ng cg : Nat} {zg : Nat → Int} {bc nc cc : Nat} {zc : Nat → Int} {W W' : World} (h : KSt w2 need many K bg ng cg zg bc nc cc zc W) (hg : W.grownBy W' none) : KSt w2 need many K bg ng cg zg bc nc cc zc W' :=
  ⟨h.k.keptN hg, h.rg.keptN hg, h.rc.keptN hg, h.ne, h.K0, gtr h.g hg⟩
def stored4 (w : World) (R : Nat) (v0 v1 v2 v3 : Value) : World := (((w.setCell ⟨R, 0, none⟩ v0).setCell ⟨R, 1, none⟩ v1).setCell ⟨R, 2, none⟩ v2).setCell ⟨R, 3, none⟩ v3
theorem gotk_some {w w3 W : World} {R need many K bg ng cg bc nc cc : Nat} {zg zc : Nat → Int} (hb : Blk W R #[.int .i64 0, .int .i64 0, .slice none 0 0, .slice none 0 0] 62) (hR : w.heap.size ≤ R) (hg : w.grownBy w3 none) (hR3 : R < w3.heap.size) (h : KSt w3 need many K bg ng cg zg bc nc cc zc W) (hng : ng ≤ 6) (hnc : nc ≤ 5) (hn : 1 ≤ need ∧ need ≤ 5) (hm : 1 ≤ many ∧ many ≤ 5) (hnm : need ≤ many) :
    Blk (stored4 W R (.int .i64 need) (.int .i64 many) (.slice (some ⟨bg, 0, none⟩) ng cg) (.slice (some ⟨bc, 0, none⟩) nc cc)) R #[.int .i64 need, .int .i64 many, .slice (some ⟨bg, 0, none⟩) ng cg, .slice (some ⟨bc, 0, none⟩) nc cc] 62 ∧
    GotK w (.returned (.tuple #[.agg #[.int .i64 need, .int .i64 many, .slice (some ⟨bg, 0, none⟩) ng cg, .slice (some ⟨bc, 0, none⟩) nc cc], .bool true])) (stored4 W R (.int .i64 need) (.int .i64 many) (.slice (some ⟨bg, 0, none⟩) ng cg) (.slice (some ⟨bc, 0, none⟩) nc cc)) := by
  have g1 : W.grownBy (stored4 W R (.int .i64 need) (.int .i64 many) (.slice (some ⟨bg, 0, none⟩) ng cg) (.slice (some ⟨bc, 0, none⟩) nc cc)) (some R) := gtr' (gtr' (gtr' (grown_set W R 0 (.int .i64 need)) (grown_set _ R 1 (.int .i64 many))) (grown_set _ R 2 (.slice (some ⟨bg, 0, none⟩) ng cg))) (grown_set _ R 3 (.slice (some ⟨bc, 0, none⟩) nc cc))
  have e1 := h.rg.from_; have e2 := h.rc.from_
  have r1 := h.rg.kept g1 (by intro e; have e := Option.some.inj e; omega)
  have r2 := h.rc.kept g1 (by intro e; have e := Option.some.inj e; omega)
  have l1 := r1.lt; have l2 := r2.lt; have hs := hg.size
  exact ⟨(((hb.set 0 _).set 1 _).set 2 _).set 3 _, need, many, _, ng, cg, zg, _, nc, cc, zc, true, rfl, hn.2, hm.2, hng, hnc, r1.ints, r2.ints, (fun b off e => by injection e with e; injection e with e _; omega), (fun b off e => by injection e with e; injection e with e _; omega), grown_new (gtr hg h.g) hR g1, (fun _ => ⟨hm.1, hn.1, hnm⟩), .inl ⟨_, _, rfl⟩⟩
/-- The key begun. -/
theorem KSt.first (w : World) (need many : Int) (W : World) (hW : W = ((w.alloc (.cells #[] 3)).alloc (.cells #[.int .i64 1] 3)).alloc (.cells #[.int .i64 need, .int .i64 many, .slice (some ⟨w.heap.size, 0, none⟩) 0 0, .slice (some ⟨w.heap.size + 1, 0, none⟩) 1 1] 62)) :
    KSt w need many (w.heap.size + 1 + 1) w.heap.size 0 0 (fun _ => 0) (w.heap.size + 1) 1 1 (fun _ => 1) W := by
  subst hW
  have h1 := row_lit1 (w.alloc (.cells #[] 3)) 3 1 (fun _ => 1) rfl
  have hs : (w.alloc (.cells #[] 3)).heap.size = w.heap.size + 1 := by show (w.heap.push _).size = _; simp
  rw [hs] at h1
  exact ⟨blk_new3 w _ _ _ _, ((row_empty w 3 (fun _ => 0)).alloc _).alloc _, (h1.alloc _).lower (Nat.le_succ _), Nat.lt_succ_self _, by omega, gtr (gtr (grown_alloc _ _ _) (grown_alloc _ _ _)) (grown_alloc _ _ _)⟩
/-- The dealer appended, not yet stored. -/
structure KMid (w2 : World) (need many : Int) (K bg ng cg b6 c6 : Nat) (z6 : Nat → Int) (bc nc cc : Nat) (zc : Nat → Int) (W : World) : Prop where
  k : Blk W K #[.int .i64 need, .int .i64 many, .slice (some ⟨bg, 0, none⟩) ng cg, .slice (some ⟨bc, 0, none⟩) nc cc] 62
  rg : Row W w2.heap.size 3 b6 (ng + 1) c6 z6
  rc : Row W w2.heap.size 3 bc nc cc zc
  K0 : w2.heap.size ≤ K
  g : w2.grownBy W none
theorem KSt.app {w2 : World} {need many : Int} {K bg ng cg : Nat} {zg : Nat → Int} {bc nc cc : Nat} {zc : Nat → Int} {W W' : World} {o : Obj} {b6 c6 : Nat} {z6 : Nat → Int} (h : KSt w2 need many K bg ng cg zg bc nc cc zc W) (hg : (W.alloc o).grownBy W' (some bg)) (hr : Row W' w2.heap.size 3 b6 (ng + 1) c6 z6) : KMid w2 need many K bg ng cg b6 c6 z6 bc nc cc zc W' := by
  have hne := h.ne
  have hK := row_blk h.rg h.k (by decide)
  have g' : W.grownBy W' (some bg) := gtr' (grown_alloc W o _) hg
  exact ⟨h.k.kept g' (by intro e; have e := Option.some.inj e; omega), hr, h.rc.kept g' (by intro e; have e := Option.some.inj e; omega), h.K0, grown_new (gtr h.g (grown_alloc _ _ _)) h.rg.from_ hg⟩
/-- The dealer stored. -/
structure KAft (w2 : World) (need many : Int) (K ng b6 c6 : Nat) (z6 : Nat → Int) (bc nc cc : Nat) (zc : Nat → Int) (W : World) : Prop where
  k : Blk W K #[.int .i64 need, .int .i64 many, .slice (some ⟨b6, 0, none⟩) (ng + 1) c6, .slice (some ⟨bc, 0, none⟩) nc cc] 62
  rg : Row W w2.heap.size 3 b6 (ng + 1) c6 z6
  rc : Row W w2.heap.size 3 bc nc cc zc
  K0 : w2.heap.size ≤ K
  g : w2.grownBy W none
theorem KMid.store {w2 : World} {need many : Int} {K bg ng cg b6 c6 : Nat} {z6 : Nat → Int} {bc nc cc : Nat} {zc : Nat → Int} {W : World} (h : KMid w2 need many K bg ng cg b6 c6 z6 bc nc cc zc W) : KAft w2 need many K ng b6 c6 z6 bc nc cc zc (W.setCell ⟨K, 2, none⟩ (.slice (some ⟨b6, 0, none⟩) (ng + 1) c6)) := by
  have h1 := row_blk h.rg h.k (by decide); have h2 := row_blk h.rc h.k (by decide)
  have hg := grown_set W K 2 (.slice (some ⟨b6, 0, none⟩) (ng + 1) c6)
  exact ⟨h.k.set 2 _, h.rg.kept hg (by intro e; have e := Option.some.inj e; omega), h.rc.kept hg (by intro e; have e := Option.some.inj e; omega), h.K0, grown_new h.g h.K0 hg⟩
theorem KAft.quiet {w2 : World} {need many : Int} {K ng b6 c6 : Nat} {z6 : Nat → Int} {bc nc cc : Nat} {zc : Nat → Int} {W W' : World} (h : KAft w2 need many K ng b6 c6 z6 bc nc cc zc W) (hg : W.grownBy W' none) : KAft w2 need many K ng b6 c6 z6 bc nc cc zc W' :=
  ⟨h.k.keptN hg, h.rg.keptN hg, h.rc.keptN hg, h.K0, gtr h.g hg⟩
theorem KAft.next {w2 : World} {need many : Int} {K ng b6 c6 : Nat} {z6 : Nat → Int} {bc nc cc : Nat} {zc : Nat → Int} {W W' : World} {bs n c : Nat} {z : Nat → Int} (h : KAft w2 need many K ng b6 c6 z6 bc nc cc zc W) (hg : W.grownBy W' none) (hr : Row W' W.heap.size 3 bs n c z) : KSt w2 need many K b6 (ng + 1) c6 z6 bs n c z (W'.setCell ⟨K, 3, none⟩ (.slice (some ⟨bs, 0, none⟩) n c)) := by
  have h' := h.quiet hg
  have h1 := row_blk h'.rg h'.k (by decide); have h2 := row_blk hr h'.k (by decide)
  have hs := grown_set W' K 3 (.slice (some ⟨bs, 0, none⟩) n c)
  have l1 := h.rg.lt; have l2 := hr.from_; have l3 := h.g.size
  exact ⟨h'.k.set 3 _, h'.rg.kept hs (by intro e; have e := Option.some.inj e; omega), (hr.lower (by omega)).kept hs (by intro e; have e := Option.some.inj e; omega), by omega, h.K0, grown_new h'.g h.K0 hs⟩
/-- Deals that all count, each of another dealer. -/
def Hon (D : Nat → DV) (nd : Nat) (A : Nat → Ans) (na : Nat) (need many : Int) : Prop :=
  dsF D nd = true ∧ ∀ j, j < nd → gdF (D j).f (D j).n1 (D j).z1 (D j).n2 (D j).z2 A na need many = true
/-- A key of the call's own, or none at all; of deals that all count, and are as many as are needed, a key. -/
def GotKH (need many nd : Nat) (D : Nat → DV) (A : Nat → Ans) (na : Nat) (w : World) (e : Ending) (w' : World) : Prop :=
  GotK w e w' ∧ (Hon D nd A na need many → need ≤ nd → ∃ x, e = .returned (.tuple #[x, .bool true]))
set_option maxRecDepth 100000 in
set_option maxHeartbeats 8000000 in
theorem qkeyof (w : World) (need many : Nat) (ad : Option Addr) (nd cd : Nat) (D : Nat → DV) (aa : Option Addr) (na ca : Nat) (A : Nat → Ans) (hD : DealsIn w ad nd D) (hL : ∀ j, j < nd → (D j).n1 ≤ 5 ∧ (D j).n2 ≤ 5) (hI : AnsIn w aa na A) (hl3 : nd ≤ 6) (hl4 : na ≤ 2000000) (hn : 1 ≤ need) (hnm : need ≤ many) (hm : many ≤ 5) :
    Calls Try.prog 65 #[.int .i64 need, .int .i64 many, .slice ad nd cd, .slice aa na ca] w (GotKH need many nd D A na w) := by
  have HDs := Lib.hid hD; have HI := Lib.hid hI; have HL := Lib.hid hL
  clear hD hL hI
  have hcr : crewF (need : Int) (many : Int) = true := by simp [crewF]; omega
  have HR0 := Lib.hid (Blk.new w #[.int .i64 0, .int .i64 0, .slice none 0 0, .slice none 0 0] 62)
  have HG0 := Lib.hid (grown_alloc w (.cells #[.int .i64 0, .int .i64 0, .slice none 0 0, .slice none 0 0] 62) none)
  cases hds : dsF D nd with
  | false =>
    go_enter Try.func65, Try.ntmps65
    go_wp2_with fail
    refine (screw _ _ _).mono ?_
    rintro e w1 ⟨rfl, rfl⟩
    rw [hcr]
    go_wp2_with fail
    refine (s12deals _ _ _ _ D (HDs.out.kept HG0.out) (by omega)).mono ?_
    rintro e w3 ⟨rfl, hg⟩
    rw [hds]
    have HR3 := Lib.hid (HR0.out.keptN hg); have HG3 := Lib.hid (gtr HG0.out hg); clear hg
    obtain ⟨r0, r1, r2, r3, j0, j1, j2, j3⟩ := HR3.out.all4
    have HE := Lib.hid (gotk_none HR3.out (Nat.le_refl _) HG3.out)
    go_wp2
    (try simp only [Exit.inBlock, Exit.then])
    refine bodyPost_ret (ret_key2 rfl _ rfl HE.out.1) rfl ?_
    exact ⟨HE.out.2, fun h _ => absurd h.1 (by rw [hds]; simp)⟩
  | true =>
    go_enter Try.func65, Try.ntmps65
    go_wp2_with fail
    refine (screw _ _ _).mono ?_
    rintro e w1 ⟨rfl, rfl⟩
    rw [hcr]
    go_wp2_with fail
    refine (s12deals _ _ _ _ D (HDs.out.kept HG0.out) (by omega)).mono ?_
    rintro e w3 ⟨rfl, hg⟩
    rw [hds]
    have HR3 := Lib.hid (HR0.out.keptN hg); have HG3 := Lib.hid (gtr HG0.out hg); have HD3 := Lib.hid (HDs.out.kept HG3.out); have HI3 := Lib.hid (HI.out.kept HG3.out); clear hg
    have HF := Lib.hid (KSt.first w3 need many _ rfl)
    obtain ⟨i0, hi, hz0, hz1, hz2⟩ := info_parts info_int
    go_wp2_with fail
    go_loopw [11] (fun i wr => ∃ (k bg ng cg : Nat) (zg : Nat → Int) (bc nc cc : Nat) (zc : Nat → Int), k ≤ nd ∧ i = .int .i64 k ∧ (ng ≤ k ∧ (Hon D nd A na need many → ng = k)) ∧ nc ≤ 5 ∧ KSt w3 need many (w3.heap.size + 1 + 1) bg ng cg zg bc nc cc zc wr) (fun i _ => nd - (intOf i).toNat)
    case atStart => exact ⟨0, _, 0, 0, _, _, 1, 1, _, by omega, rfl, ⟨by omega, fun _ => rfl⟩, by omega, HF.out⟩
    case round =>
      obtain ⟨k, bg, ng, cg, zg, bc, nc, cc, zc, hk, rfl, ⟨hng, hhn⟩, hnc, hs⟩ := hrel
      have HS := Lib.hid hs; have HH := Lib.hid hhn; clear hs hhn
      by_cases hlt : k < nd
      · have hj1 : (0 : Int) ≤ (k : Int) := by omega
        have hj2 : (k : Int) < (nd : Int) := by omega
        have HIr := Lib.hid (HI3.out.kept HS.out.g)
        rcases HD3.out with h | ⟨b, off, rfl, hb, hcc⟩
        · omega
        obtain ⟨⟨ha0, ha1, ha2⟩, hrow⟩ := hcc k hlt
        obtain ⟨hn1, hn2⟩ := HL.out k hlt
        have HRow := Lib.hid (hrow.kept HS.out.g)
        have hc0 := (World.cell?_of_block (HS.out.g.block b hb (by simp))).trans ha0
        have hc1 := (World.cell?_of_block (HS.out.g.block b hb (by simp))).trans ha1
        have hc2 := (World.cell?_of_block (HS.out.g.block b hb (by simp))).trans ha2
        have hrow3 := hrow
        clear hcc hrow
        cases hgd : gdF (D k).f (D k).n1 (D k).z1 (D k).n2 (D k).z2 A na need many with
        | false =>
          go_wp2_with fail
          refine (skeygood _ (D k).f _ _ _ (D k).z1 _ _ _ (D k).z2 _ na _ A _ _ HRow.out.i1 HRow.out.i2 HIr.out (by omega) (by omega) hl4).mono ?_
          rintro e w5 ⟨rfl, hg⟩
          rw [hgd]
          have HS5 := Lib.hid (HS.out.quiet hg); clear hg
          go_wp2
          go_roundw
          case rel => exact ⟨k + 1, bg, ng, cg, zg, bc, nc, cc, zc, by omega, by go_num, ⟨by omega, fun h => absurd (h.2 k hlt) (by rw [hgd]; simp)⟩, by omega, HS5.out⟩
          case measure => simp [intOf]; omega
        | true =>
          go_wp2_with fail
          refine (skeygood _ (D k).f _ _ _ (D k).z1 _ _ _ (D k).z2 _ na _ A _ _ HRow.out.i1 HRow.out.i2 HIr.out (by omega) (by omega) hl4).mono ?_
          rintro e w5 ⟨rfl, hg⟩
          rw [hgd]
          have HS5 := Lib.hid (HS.out.quiet hg); have HRow5 := Lib.hid (HRow.out.kept hg)
          have q0 := (World.cell?_of_block (HS5.out.g.block b hb (by simp))).trans ha0
          have q1 := (World.cell?_of_block (HS5.out.g.block b hb (by simp))).trans ha1
          clear hg hc0 hc1 hc2 ha0 ha2
          obtain ⟨k0, k1, k2, k3, f0, f1, f2, f3⟩ := HS5.out.k.all4
          have hlc := HS5.out.rg.le; have hmc := HS5.out.rg.most
          have hsz5 := HS5.out.g.size; have hlt5 := HS5.out.rg.from_; have hbc5 := HS5.out.rc.lt; have hne5 := HS5.out.ne
          have hKl := HS5.out.k.lt
          have hKg := (row_blk HS5.out.rg HS5.out.k (by decide))
          have hKc := (row_blk HS5.out.rc HS5.out.k (by decide))
          go_wp2_with fail
          go_region_law (refine step_app _ (by rfl) (.tmp 42) (.tmp 48) 23 rfl w3.heap.size 3 i0 (.int .i64 0) 1 8 und_ints hi hz0 hz1 hz2 rfl (by decide) (.slice (some ⟨bg, 0, none⟩) ng cg) ng (vals zg ng) rfl (HS5.out.rg.alloc (.cells #[.int .i64 (D k).f] 3)).owns.drew ⟨w5.heap.size, 0, none⟩ 1 1 [.int .i64 (D k).f] rfl rfl (cell_one_new _ _ _) (by simp [Value.oneCell']) (by unfold maxLen; omega) (by omega) (by show _ ≤ (w5.alloc _).heap.size; simp; omega) ?_; intro v' w6 hown' hgrow hnil; have hgr : (w5.alloc (.cells #[.int .i64 (D k).f] 3)).grownBy w6 (some bg) := ⟨hgrow.os, hgrow.tape, hgrow.output, hgrow.size, hgrow.block⟩; obtain ⟨b6, c6, rfl, hrow6⟩ := app_row2 hown'; have HQ6 := Lib.hid (HS5.out.app hgr hrow6); obtain ⟨k0', k1', k2', k3', f0', f1', f2', f3'⟩ := HQ6.out.k.all4; clear hown' hgrow hgr hnil hrow6)
          all_goals
            have HA6 := Lib.hid HQ6.out.store
            clear k0 k1 k2 k3 f0 f1 f2 f3 k0' k1' k2' k3' f0' f1' f2' f3' q0
            generalize hw7 : w6.setCell ⟨w3.heap.size + 1 + 1, 2, none⟩ (.slice (some ⟨b6, 0, none⟩) (ng + 1) c6) = w7 at *
            have y1 := (World.cell?_of_block (HA6.out.g.block b hb (by simp))).trans ha1
            obtain ⟨k0, k1, k2, k3, f0, f1, f2, f3⟩ := HA6.out.k.all4
            have HIc := Lib.hid (HA6.out.rc.ints.keptB (w' := w7.drew) (fun _ _ => rfl) (Nat.le_refl _))
            have HRd := Lib.hid ((hrow3.kept HA6.out.g).i1.keptB (w' := w7.drew) (fun _ _ => rfl) (Nat.le_refl _))
            have hK7 := HA6.out.k.lt
            go_wp2_with fail
            go_region_law (refine at_slot 58 rfl ?_; go_simp; go_at_call 78; (with_reducible refine (q4sum _ _ _ _ zc _ _ _ (D k).z1 HIc.out HRd.out (by omega) (by omega)).mono ?_); rintro e w8 ⟨bs, n8, c8, z8, rfl, hr8, hn8, hg8⟩; dsimp only; have Hg8 := Lib.hid (show w7.grownBy w8 none from ⟨hg8.os, hg8.tape, hg8.output, hg8.size, hg8.block⟩); have Hr8 := Lib.hid (show Row w8 w7.heap.size 3 bs n8 c8 z8 from hr8); obtain ⟨k0', k1', k2', k3', f0', f1', f2', f3'⟩ := (HA6.out.k.keptN Hg8.out).all4; clear hg8 hr8)
            all_goals
              have HN := Lib.hid (HA6.out.next Hg8.out Hr8.out)
              go_wp2
              go_roundw
              case rel => exact ⟨k + 1, _, _, _, _, _, _, _, _, by omega, by go_num, ⟨by omega, fun h => by rw [HH.out h]⟩, hn8, HN.out⟩
              case measure => simp [intOf]; omega
      · obtain rfl : k = nd := by omega
        have HR5 := Lib.hid (HR3.out.keptN HS.out.g); have HG5 := Lib.hid (gtr HG3.out HS.out.g)
        obtain ⟨r0, r1, r2, r3, j0, j1, j2, j3⟩ := HR5.out.all4
        obtain ⟨k0, k1, k2, k3, f0, f1, f2, f3⟩ := HS.out.k.all4
        by_cases hfew : ng < need
        · have hfew' : (ng : Int) < (need : Int) := by omega
          have HE := Lib.hid (gotk_none HR5.out (Nat.le_refl _) HG5.out)
          go_wp2
          (try simp only [Exit.inBlock, Exit.then])
          refine bodyPost_ret (ret_key2 rfl _ rfl HE.out.1) rfl ?_
          exact ⟨HE.out.2, fun h hn => by have := HH.out h; omega⟩
        · have hfew' : ¬ (ng : Int) < (need : Int) := by omega
          have HE := Lib.hid (gotk_some HR5.out (Nat.le_refl _) HG3.out HR3.out.lt HS.out (by omega) hnc (by omega) (by omega) (by omega))
          go_wp2
          (try simp only [Exit.inBlock, Exit.then])
          refine bodyPost_ret (ret_key2 rfl _ rfl HE.out.1) rfl ?_
          exact ⟨HE.out.2, fun _ _ => ⟨_, rfl⟩⟩
end Draw
end Go.Proofs.Ytchgjdbmianajaa
