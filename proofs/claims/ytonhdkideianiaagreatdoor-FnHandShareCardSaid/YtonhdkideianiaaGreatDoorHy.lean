/-
  How the model draws deals that hand a key on, and a key with them and a member.
-/
import Derived.Test.YtonhdkideianiaaGreatDoorHu
namespace Go.Proofs.YtonhdkideianiaaGreatDoor
namespace Draw
open Go.RowKit Alg Mem Con Mp
set_option linter.unusedVariables false

theorem grown_any {w W W' : World} {B g : Nat} (h : w.grownBy W (some B)) (k : W.grownBy W' (some g)) (hg : g = B ∨ w.heap.size ≤ g) : w.grownBy W' (some B) := by
  rcases hg with rfl | hg
  · exact gtr' h k
  · exact grown_newR h hg k
/-- Deals of the call's own, of few numbers each. -/
structure OwnW (w : World) (lo : Nat) (v : Value) (L : List DV) : Prop where
  own : w.ownsRow lo 35 3 v L.length (cellsD L)
  rows : ∀ x ∈ L, RowsD w lo x
  few : ∀ x ∈ L, x.n1 ≤ 5 ∧ x.n2 ≤ 5
theorem OwnW.kept {w w' : World} {lo : Nat} {v : Value} {L : List DV} {r : Option Nat} (h : OwnW w lo v L) (hg : w.grownBy w' r) (hr : ∀ g, r = some g → g < lo) : OwnW w' lo v L := by
  refine ⟨h.own.kept hg ?_, fun x hx => ?_, h.few⟩
  · cases hv : v.ownBlock with
    | none => exact .inl rfl
    | some g => refine .inr (fun e => ?_); have h1 := (h.own.lt g hv).1; have h2 := hr g e.symm; omega
  · obtain ⟨b1, b2, e1, e2, r1, r2⟩ := h.rows x hx
    have f1 := r1.from_; have f2 := r2.from_
    exact ⟨b1, b2, e1, e2, r1.kept hg (by intro e; have := hr b1 e.symm; omega), r2.kept hg (by intro e; have := hr b2 e.symm; omega)⟩
theorem OwnW.app {w W W' : World} {lo : Nat} {v v' : Value} {L : List DV} {x : DV} {o : Obj} (h : OwnW W lo v L) (hx : RowsD W lo x) (hf : x.n1 ≤ 5 ∧ x.n2 ≤ 5) (hg : (W.alloc o).grownBy W' v.ownBlock) (ho : W'.ownsRow lo 35 3 v' (L.length + 1) (cellsD L ++ [.int .i64 x.f, .slice x.a1 x.n1 x.c1, .slice x.a2 x.n2 x.c2])) : OwnW W' lo v' (L ++ [x]) := by
  have hg' : W.grownBy W' v.ownBlock := grown_trans (grown_alloc W o _) hg
  have hk : ∀ y, RowsD W lo y → RowsD W' lo y := fun y hy => by
    obtain ⟨b1, b2, e1, e2, r1, r2⟩ := hy
    exact ⟨b1, b2, e1, e2, r1.kept hg' (row_own_ne h.own r1 (by decide)), r2.kept hg' (row_own_ne h.own r2 (by decide))⟩
  refine ⟨by rw [cellsD_app]; simpa using ho, fun y hy => ?_, fun y hy => ?_⟩
  · rcases List.mem_append.1 hy with hy | hy
    · exact hk y (h.rows y hy)
    · simp at hy; subst hy; exact hk y hx
  · rcases List.mem_append.1 hy with hy | hy
    · exact h.few y hy
    · simp at hy; subst hy; exact hf
theorem OwnW.din {w : World} {lo : Nat} {v : Value} {L : List DV} (h : OwnW w lo v L) : ∃ a c, v = .slice a L.length c ∧ DealsIn w a L.length (dAt L) := by
  rcases h.own.2 with ⟨hv, h0⟩ | ⟨g, cap, cur, hv, _⟩
  · exact ⟨none, 0, by rw [hv, h0], .inl h0⟩
  · have ho := h.own
    rw [hv] at ho
    have hlt := ho.lt g rfl
    refine ⟨_, cap, hv, ?_⟩
    by_cases h0 : L.length = 0
    · exact .inl h0
    · refine .inr ⟨g, 0, rfl, hlt.2, fun j hj => ?_⟩
      obtain ⟨q0, q1, q2⟩ := cellsD_get L j hj
      obtain ⟨b1, b2, e1, e2, r1, r2⟩ := h.rows _ (dAt_mem hj)
      rw [Nat.zero_add]
      exact ⟨⟨(ho.cellAt _ (by omega)).trans q0, (ho.cellAt _ (by omega)).trans q1, (ho.cellAt _ (by omega)).trans q2⟩, by rw [e1]; exact r1.ints, by rw [e2]; exact r2.ints⟩
/-- The same, with all their blocks below a size. -/
structure OwnX (w : World) (lo hi : Nat) (v : Value) (L : List DV) : Prop where
  o : OwnW w lo v L
  b : ∀ g, v.ownBlock = some g → g < hi
  r : ∀ x ∈ L, ∀ b off, (x.a1 = some ⟨b, off, none⟩ ∨ x.a2 = some ⟨b, off, none⟩) → b < hi
theorem OwnX.of {w : World} {lo : Nat} {v : Value} {L : List DV} (h : OwnW w lo v L) : OwnX w lo w.heap.size v L :=
  ⟨h, fun g hv => (h.own.lt g hv).2, fun x hx b off e => by
    obtain ⟨b1, b2, e1, e2, r1, r2⟩ := h.rows x hx
    have l1 := r1.lt; have l2 := r2.lt
    rcases e with e | e
    · rw [e1] at e; injection e with e; injection e with e; omega
    · rw [e2] at e; injection e with e; injection e with e; omega⟩
theorem OwnX.kept {w w' : World} {lo hi : Nat} {v : Value} {L : List DV} {r : Option Nat} (h : OwnX w lo hi v L) (hg : w.grownBy w' r) (hr : ∀ g, r = some g → g < lo ∨ hi ≤ g) : OwnX w' lo hi v L := by
  refine ⟨⟨h.o.own.kept hg ?_, fun x hx => ?_, h.o.few⟩, h.b, h.r⟩
  · cases hv : v.ownBlock with
    | none => exact .inl rfl
    | some g => refine .inr (fun e => ?_); have h1 := (h.o.own.lt g hv).1; have h2 := hr g e.symm; have h3 := h.b g hv; omega
  · obtain ⟨b1, b2, e1, e2, r1, r2⟩ := h.o.rows x hx
    have f1 := r1.from_; have f2 := r2.from_
    have l1 := h.r x hx b1 0 (.inl e1); have l2 := h.r x hx b2 0 (.inr e2)
    exact ⟨b1, b2, e1, e2, r1.kept hg (by intro e; have := hr b1 e.symm; omega), r2.kept hg (by intro e; have := hr b2 e.symm; omega)⟩
/-- What holds while deals are drawn. -/
structure WSt (w : World) (base B : Nat) (a : Option Addr) (len cap p' : Nat) (W : World) (v : Value) (L : List DV) : Prop where
  own : OwnW W w.heap.size v L
  g : w.grownBy W (some B)
  rd : Rd W base B a len cap p'
theorem WSt.app {w W W' : World} {base B : Nat} {a : Option Addr} {len cap p' : Nat} {v v' : Value} {L : List DV} {x : DV} {o : Obj} (h : WSt w base B a len cap p' W v L) (hx : RowsD W w.heap.size x) (hf : x.n1 ≤ 5 ∧ x.n2 ≤ 5) (hg : (W.alloc o).grownBy W' v.ownBlock) (hB : B < w.heap.size) (ho : W'.ownsRow w.heap.size 35 3 v' (L.length + 1) (cellsD L ++ [.int .i64 x.f, .slice x.a1 x.n1 x.c1, .slice x.a2 x.n2 x.c2])) : WSt w base B a len cap p' W' v' (L ++ [x]) := by
  have hg' : W.grownBy W' v.ownBlock := grown_trans (grown_alloc W o _) hg
  have hne : ∀ g, v.ownBlock = some g → w.heap.size ≤ g := fun g hv => (h.own.own.lt g hv).1
  refine ⟨h.own.app (w := w) hx hf hg ho, ?_, ?_⟩
  · cases hv : v.ownBlock with
    | none => rw [hv] at hg'; exact grown_trans h.g (grown_some hg')
    | some g => rw [hv] at hg'; exact grown_newR h.g (hne g hv) hg'
  · have hlt := h.rd.lt; have hfr := h.rd.from_
    exact h.rd.kept (fun k hk => hg'.block k (by omega) (by intro e; have := hne k e.symm; omega)) (hg'.block B hlt (by intro e; have := hne B e.symm; omega))
theorem WSt.first {w : World} {base B : Nat} {a : Option Addr} {len cap p : Nat} (h : Rd w base B a len cap p) : WSt w base B a len cap p (w.alloc (.cells #[] 35)) (.slice (some ⟨w.heap.size, 0, none⟩) 0 0) [] :=
  ⟨⟨own_empty w 35 3, fun x hx => by simp at hx, fun x hx => by simp at hx⟩, grown_alloc _ _ _, h.alloc _⟩
set_option maxRecDepth 100000 in
set_option maxHeartbeats 8000000 in
theorem hand_any (w : World) (base B : Nat) (a : Option Addr) (len cap p : Nat) (h : Rd w base B a len cap p) (hp : p ≤ 100000) (lo km : Nat) (v : Value) (hO : OwnS w lo v km) (hk1 : 1 ≤ km) (hk6 : km ≤ 6) (hBlo : B < lo) (n m : Nat) (hn1 : 1 ≤ n) (hnm : n ≤ m) (hm5 : m ≤ 5) :
    Calls Tryz.prog 14 #[.pointer (some ⟨B, 0, none⟩), v, .int .i64 n, .int .i64 m] w fun e w' => ∃ (v' : Value) (L : List DV), e = .returned v' ∧ OwnW w' w.heap.size v' L ∧ L.length ≤ 6 ∧ w.grownBy w' (some B) ∧ ∃ p', p ≤ p' ∧ p' ≤ p + 100 ∧ Rd w' base B a len cap p' := by
  have hBw := h.lt; have hBf := h.from_
  obtain ⟨j0, hj, hy0, hy1, hy2⟩ := info_of' info_dl'
  obtain ⟨gb, gc, hz, rfl, hgl, hgs, hcel⟩ := hO.cells hk1
  have HS0 := Lib.hid (WSt.first h)
  have HFK := Lib.hid (fun (j : Nat) (hj : j < km) => (hcel j hj).2.2)
  have HCE := Lib.hid (show ∀ j, j < km → ∀ W : World, w.grownBy W (some B) → W.cell? ⟨gb, j * 2, none⟩ = some (.int .i64 ((j : Int) + 1)) ∧ W.cell? ⟨gb, j * 2 + 1, none⟩ = some (.int .i64 (hz j)) from fun j hj W hg => by
    have hb := hg.block gb hgs (by intro e; have e := Option.some.inj e; omega)
    exact ⟨(World.cell?_of_block hb).trans (hcel j hj).1, (World.cell?_of_block hb).trans (hcel j hj).2.1⟩)
  clear h hO hcel
  go_enter Tryz.func14, Tryz.ntmps14
  go_wp2
  go_loopw [9, 10] (fun v i W => ∃ (k p1 : Nat) (L : List DV), k ≤ km ∧ i = .int .i64 k ∧ p ≤ p1 ∧ p1 ≤ p + 10 * k ∧ L.length ≤ k ∧ WSt w base B a len cap p1 W v L) (fun _ i _ => km - (intOf i).toNat)
  case atStart => exact ⟨0, p, [], by omega, rfl, by omega, by omega, by simp, HS0.out⟩
  case round =>
    obtain ⟨k, p1, L, hk, rfl, hp0, hp1, hL, hs⟩ := hrel
    obtain ⟨v1, hW⟩ : ∃ W, W = u9 := ⟨_, rfl⟩; subst hW
    have O := Lib.hid hs.own; have GB := Lib.hid hs.g; have H := Lib.hid hs.rd
    clear hs HS0
    by_cases hlt : k < km
    · have hlt' : (k : Int) < (km : Int) := by omega
      have hk0 : (0 : Int) ≤ (k : Int) := by omega
      have HCEL := Lib.hid (HCE.out k hlt); have hfs := HFK.out k hlt
      generalize hz k = s at *
      have hwG0 := GB.out.size
      go_wp2_with fail
      refine (pick_any _ _ _ a len cap _ (6 : Int) H.out (by omega) (by omega)).mono ?_
      rintro e W0 ⟨x, x0, x1, rfl, hr, hg, hs⟩
      replace H := Lib.hid hr
      replace O := Lib.hid (O.out.kept hg (fun g e => by have e := Option.some.inj e; omega))
      replace GB := Lib.hid (grown_any GB.out hg (by omega))
      clear hg
      clear hr hs
      rcases (by omega : x = 0 ∨ 1 ≤ x) with rfl | hx
      · go_wp2
        go_roundw
        case rel => exact ⟨k + 1, p1 + 1, L, by omega, by go_num, by omega, by omega, by omega, ⟨O.out, GB.out, H.out⟩⟩
        case measure => simp [intOf] <;> omega
      · have hx0 : (x == 0) = false := by simp; omega
        go_wp2_with fail
        replace O := Lib.hid (OwnX.of O.out)
        have SZ := Lib.hid (Nat.le_refl W0.heap.size)
        have hwG1 := GB.out.size
        refine' (fun (hk : Later _) => ?main) (Later.mk ?rest)
        case main =>
          refine wp_region_held_drew (S := (fun w' => w'.cell? ⟨gb, k * 2, none⟩ = some (.int .i64 ((k : Int) + 1)) ∧ w'.cell? ⟨gb, k * 2 + 1, none⟩ = some (.int .i64 s))) (by kernel_rfl) ((HCEL.out W0 GB.out)) (fun hHeld => ?_)
          have hg := gdrew W0
          replace O := Lib.hid (O.out.kept hg (fun g e => by cases e))
          replace GB := Lib.hid (gtr' GB.out (Draw.grown_some hg))
          replace H := Lib.hid (H.out.gN hg)
          replace SZ := Lib.hid (Nat.le_trans SZ.out hg.size)
          clear hg
          generalize W0.drew = W at *
          refine wpAnyH_take (i := 0) (oi := ⟨some 22, _, _, _, _, _⟩) (v := ?_) rfl (by kernel_rfl) (by kernel_rfl) (by kernel_rfl) (fun _ _ _ h => h) (Or.inl ⟨by rfl, ?_⟩) (by assumption) ?_
          rotate_left
          · intro w hSw; (try dsimp only at hSw); go_simp; try with_reducible rfl
          simp only [Act.put, List.setIfInBounds_toArray, List.set_cons_zero, List.set_cons_succ]
          refine wpAnyH_take (i := 1) (oi := ⟨some 23, _, _, _, _, _⟩) (v := ?_) rfl (by kernel_rfl) (by kernel_rfl) (by kernel_rfl) (fun _ _ _ h => h) (Or.inl ⟨by rfl, ?_⟩) (by assumption) ?_
          rotate_left
          · intro w hSw; (try dsimp only at hSw); go_simp; try with_reducible rfl
          simp only [Act.put, List.setIfInBounds_toArray, List.set_cons_zero, List.set_cons_succ]
          refine wpAnyH_take (i := 2) (oi := ⟨some 24, _, _, _, _, _⟩) (v := ?_) rfl (by kernel_rfl) (by kernel_rfl) (by kernel_rfl) (fun _ _ _ h => h) (Or.inl ⟨by rfl, ?_⟩) (by assumption) ?_
          rotate_left
          · intro w hSw; (try dsimp only at hSw); go_simp; try with_reducible rfl
          simp only [Act.put, List.setIfInBounds_toArray, List.set_cons_zero, List.set_cons_succ]
          refine wpAnyH_take (i := 3) (oi := ⟨some 25, _, _, _, _, _⟩) (v := ?_) rfl (by kernel_rfl) (by kernel_rfl) (by kernel_rfl) (fun _ _ _ h => h) (Or.inl ⟨by rfl, ?_⟩) (by assumption) ?_
          rotate_left
          · intro w hSw; (try dsimp only at hSw); go_simp; try with_reducible rfl
          simp only [Act.put, List.setIfInBounds_toArray, List.set_cons_zero, List.set_cons_succ]
          refine wpAnyH_take (i := 4) (oi := ⟨some 26, _, _, _, _, _⟩) (v := ?_) rfl (by kernel_rfl) (by kernel_rfl) (by kernel_rfl) (fun _ _ _ h => h) (Or.inl ⟨by rfl, ?_⟩) (by assumption) ?_
          rotate_left
          · intro w hSw; (try dsimp only at hSw); go_simp; try with_reducible rfl
          simp only [Act.put, List.setIfInBounds_toArray, List.set_cons_zero, List.set_cons_succ]
          refine wpAnyH_take (i := 5) (oi := ⟨some 27, _, _, _, _, _⟩) (v := ?_) rfl (by kernel_rfl) (by kernel_rfl) (by kernel_rfl) (fun _ _ _ h => h) (Or.inl ⟨by rfl, ?_⟩) (by assumption) ?_
          rotate_left
          · intro w hSw; (try dsimp only at hSw); go_simp; try with_reducible rfl
          simp only [Act.put, List.setIfInBounds_toArray, List.set_cons_zero, List.set_cons_succ]
          refine wpAnyH_take (i := 6) (oi := ⟨some 28, _, _, _, _, _⟩) (v := ?_) rfl (by kernel_rfl) (by kernel_rfl) (by kernel_rfl) (fun _ _ _ h => h) (Or.inl ⟨by rfl, ?_⟩) (by assumption) ?_
          rotate_left
          · intro w hSw; (try dsimp only at hSw); go_simp; try with_reducible rfl
          simp only [Act.put, List.setIfInBounds_toArray, List.set_cons_zero, List.set_cons_succ]
          refine wpAnyH_take (i := 7) (oi := ⟨some 29, _, _, _, _, _⟩) (v := ?_) rfl (by kernel_rfl) (by kernel_rfl) (by kernel_rfl) (fun _ _ _ h => h) (Or.inl ⟨by rfl, ?_⟩) (by assumption) ?_
          rotate_left
          · intro w hSw; (try dsimp only at hSw); go_simp; try with_reducible rfl
          simp only [Act.put, List.setIfInBounds_toArray, List.set_cons_zero, List.set_cons_succ]
          refine wpAnyH_take (i := 8) (oi := ⟨some 30, _, _, _, _, _⟩) (v := ?_) rfl (by kernel_rfl) (by kernel_rfl) (by kernel_rfl) (fun _ _ _ h => h) (Or.inl ⟨by rfl, ?_⟩) (by assumption) ?_
          rotate_left
          · intro w hSw; (try dsimp only at hSw); go_simp; try with_reducible rfl
          simp only [Act.put, List.setIfInBounds_toArray, List.set_cons_zero, List.set_cons_succ]
          refine wpAnyH_take (i := 9) (oi := ⟨some 31, _, _, _, _, _⟩) (v := ?_) rfl (by kernel_rfl) (by kernel_rfl) (by kernel_rfl) (fun _ _ _ h => h) (Or.inl ⟨by rfl, ?_⟩) (by assumption) ?_
          rotate_left
          · intro w hSw; (try dsimp only at hSw); go_simp; try with_reducible rfl
          simp only [Act.put, List.setIfInBounds_toArray, List.set_cons_zero, List.set_cons_succ]
          refine wpAnyH_take (i := 10) (oi := ⟨some 32, _, _, _, _, _⟩) (v := ?_) rfl (by kernel_rfl) (by kernel_rfl) (by kernel_rfl) (fun _ _ _ h => h) (Or.inl ⟨by rfl, ?_⟩) (by assumption) ?_
          rotate_left
          · intro w hSw; (try dsimp only at hSw); go_simp; try with_reducible rfl
          simp only [Act.put, List.setIfInBounds_toArray, List.set_cons_zero, List.set_cons_succ]
          refine wpAnyH_take (i := 11) (oi := ⟨some 33, _, _, _, _, _⟩) (v := ?_) rfl (by kernel_rfl) (by kernel_rfl) (by kernel_rfl) (fun _ _ _ h => h) (Or.inl ⟨by rfl, ?_⟩) (by assumption) ?_
          rotate_left
          · intro w hSw; (try dsimp only at hSw); go_simp; try with_reducible rfl
          simp only [Act.put, List.setIfInBounds_toArray, List.set_cons_zero, List.set_cons_succ]
          refine wpAnyH_take (i := 12) (oi := ⟨some 34, _, _, _, _, _⟩) (v := ?_) rfl (by kernel_rfl) (by kernel_rfl) (by kernel_rfl) (fun _ _ _ h => h) (Or.inl ⟨by rfl, ?_⟩) (by assumption) ?_
          rotate_left
          · intro w hSw; (try dsimp only at hSw); go_simp; try with_reducible rfl
          simp only [Act.put, List.setIfInBounds_toArray, List.set_cons_zero, List.set_cons_succ]
          refine wpAnyH_ready (rs := [13, 16]) (by kernel_rfl) (by simp) ?_
          refine AllReadyH.cons (o := ⟨some 35, _, _, _, _, _⟩) rfl (fun Kq hKq => ?_) (AllReadyH.cons (o := ⟨some 11, _, _, _, _, _⟩) rfl (fun Kq hKq => ?_) AllReadyH.nil)
          · go_simp
            go_at_call 15
            refine (pick_any _ _ _ a len cap _ (1000 : Int) H.out (by omega) (by omega)).mono ?_
            rintro e W3 ⟨x3, x30, x31, rfl, hr, hg, hs⟩
            replace H := Lib.hid hr
            replace O := Lib.hid (O.out.kept hg (fun g e => by have e := Option.some.inj e; omega))
            replace GB := Lib.hid (grown_any GB.out hg (by omega))
            replace SZ := Lib.hid (Nat.le_trans SZ.out hg.size)
            clear hg
            clear hr hs
            refine hKq.out _ _ ((HCEL.out _ GB.out)) (fun hHeld => ?_)
            clear hKq Kq
            refine wpAnyH_ready (rs := [14, 16]) (by kernel_rfl) (by simp) ?_
            refine AllReadyH.cons (o := ⟨some 36, _, _, _, _, _⟩) rfl (fun Kq hKq => ?_) (AllReadyH.cons (o := ⟨some 11, _, _, _, _, _⟩) rfl (fun Kq hKq => ?_) AllReadyH.nil)
            · go_simp
              go_at_call 34
              refine (s11poly _ n s x3 hn1 (by omega) x30 (by omega)).mono ?_
              rintro e W4 ⟨b0, c0, rfl, hr, hg⟩
              have Z := Lib.hid (hr.lower (lo' := w.heap.size) (by have := GB.out.size; omega)); clear hr
              replace O := Lib.hid (O.out.kept hg (fun g e => by cases e))
              replace GB := Lib.hid (gtr' GB.out (Draw.grown_some hg))
              replace SZ := Lib.hid (Nat.le_trans SZ.out hg.size)
              replace H := Lib.hid (H.out.gN hg)
              clear hg
              refine hKq.out _ _ ((HCEL.out _ GB.out)) (fun hHeld => ?_)
              clear hKq Kq
              refine wpAnyH_ready (rs := [15, 16]) (by kernel_rfl) (by simp) ?_
              refine AllReadyH.cons (o := ⟨some 37, _, _, _, _, _⟩) rfl (fun Kq hKq => ?_) (AllReadyH.cons (o := ⟨some 11, _, _, _, _, _⟩) rfl (fun Kq hKq => ?_) AllReadyH.nil)
              · go_simp
                go_at_call 33
                refine (s11make _ _ m _ n _ _ Z.out.ints (by omega) (fun j _ => dz_ok hfs j) (by omega)).mono ?_
                rintro e W5 ⟨b1, c1, B2, v, rfl, hB2, hb1, hr1, hL9, hg⟩
                have hK9 := GB.out.size
                rcases hL9 with ⟨_, hL9⟩ | ⟨b2, c2, rfl, hr2⟩
                · have := shl_len n (dz s x3) m; rw [hL9] at this; simp at this; omega
                rw [shl_len] at hr2 ⊢
                have hb2 := hr2.from_; have hb1f := hr1.from_
                have hb1w : W0.heap.size ≤ b1 := Nat.le_trans SZ.out hb1f
                try have hxb : x6 < b1 ∨ b2 < x6 := .inl (by have := T6.out.lt; have := hr1.from_; omega)
                generalize gz _ = z1 at hr1
                generalize li _ = z2 at hr2
                clear Z
                replace O := Lib.hid (O.out.kept hg (fun g e => by cases e))
                replace GB := Lib.hid (gtr' GB.out (Draw.grown_some hg))
                replace SZ := Lib.hid (Nat.le_trans SZ.out hg.size)
                replace H := Lib.hid (H.out.gN hg)
                clear hg
                have R1 := Lib.hid (hr1.lower (lo' := w.heap.size) (by omega)); have R2 := Lib.hid (hr2.lower (lo' := w.heap.size) (by omega))
                have hb12 : b1 < b2 := by omega
                clear hr1 hr2 hb1 hB2 hb2 hK9 hb1f
                refine hKq.out _ _ ((HCEL.out _ GB.out)) (fun hHeld => ?_)
                clear hKq Kq
                refine wpAnyH_ready (rs := [16]) (by kernel_rfl) (by simp) ?_
                refine AllReadyH.cons (o := ⟨some 11, _, _, _, _, _⟩) rfl (fun Kq hKq => ?_) AllReadyH.nil
                go_simp
                refine at_alloc ?_
                intro Wa hg hT
                have hx6 : W0.heap.size ≤ W5.heap.size := SZ.out
                replace SZ := Lib.hid (Nat.le_trans SZ.out hg.size)
                try have hxb : W5.heap.size < b1 ∨ b2 < W5.heap.size := .inr R2.out.lt
                generalize W5.heap.size = x6 at *
                have T6 := Lib.hid hT
                replace O := Lib.hid (O.out.kept hg (fun g e => by cases e))
                replace GB := Lib.hid (gtr' GB.out (Draw.grown_some hg))
                replace H := Lib.hid (H.out.gN hg)
                replace R1 := Lib.hid (R1.out.keptN hg)
                replace R2 := Lib.hid (R2.out.keptN hg)
                clear hg
                clear hT
                refine hKq.out _ _ ((HCEL.out _ GB.out)) (fun hHeld => ?_)
                clear hKq Kq
                refine wpAnyH_ready (rs := [17]) (by kernel_rfl) (by simp) ?_
                refine AllReadyH.cons (o := ⟨none, _, _, _, _, _⟩) rfl (fun Kq hKq => ?_) AllReadyH.nil
                rw [if_pos (by rfl)]
                refine wp_store_blk 35 (.tmp 11) (.tmp 37) _ _ _ 35 T6.out rfl rfl rfl rfl (by kernel_rfl) (by simp [Value.oneCell']) rfl ?_
                intro W6 hg hT
                replace T6 := Lib.hid hT
                replace O := Lib.hid (O.out.kept hg (fun g e => by have e := Option.some.inj e; omega))
                replace GB := Lib.hid (grown_any GB.out hg (by omega))
                replace H := Lib.hid (H.out.grownN hg (by omega) (by omega))
                replace R1 := Lib.hid (R1.out.kept hg (by intro e; have e := Option.some.inj e; omega))
                replace R2 := Lib.hid (R2.out.kept hg (by intro e; have e := Option.some.inj e; omega))
                replace SZ := Lib.hid (Nat.le_trans SZ.out hg.size)
                clear hg
                clear hT
                refine hKq.out _ _ ((HCEL.out _ GB.out)) (fun hHeld => ?_)
                clear hKq Kq
                refine wpAnyH_done (by kernel_rfl) ?_ _
                clear hHeld x30 x31
                revert hx6; revert hb12; revert hb1w; revert hxb; revert R2; revert R1; revert T6; revert H; revert GB; revert O; revert SZ; revert x3; revert z2; revert z1; revert c2; revert b2; revert c1; revert b1; revert c0; revert b0; revert x6; revert W6
                exact hk.out
              · go_simp
                refine at_alloc ?_
                intro Wa hg hT
                have hx6 : W0.heap.size ≤ W4.heap.size := SZ.out
                replace SZ := Lib.hid (Nat.le_trans SZ.out hg.size)
                try have hxb : W4.heap.size < b1 ∨ b2 < W4.heap.size := .inr R2.out.lt
                generalize W4.heap.size = x6 at *
                have T6 := Lib.hid hT
                replace O := Lib.hid (O.out.kept hg (fun g e => by cases e))
                replace GB := Lib.hid (gtr' GB.out (Draw.grown_some hg))
                replace H := Lib.hid (H.out.gN hg)
                replace Z := Lib.hid (Z.out.keptN hg)
                clear hg
                clear hT
                refine hKq.out _ _ ((HCEL.out _ GB.out)) (fun hHeld => ?_)
                clear hKq Kq
                refine wpAnyH_ready (rs := [15]) (by kernel_rfl) (by simp) ?_
                refine AllReadyH.cons (o := ⟨some 37, _, _, _, _, _⟩) rfl (fun Kq hKq => ?_) AllReadyH.nil
                go_simp
                go_at_call 33
                refine (s11make _ _ m _ n _ _ Z.out.ints (by omega) (fun j _ => dz_ok hfs j) (by omega)).mono ?_
                rintro e W5 ⟨b1, c1, B2, v, rfl, hB2, hb1, hr1, hL9, hg⟩
                have hK9 := GB.out.size
                rcases hL9 with ⟨_, hL9⟩ | ⟨b2, c2, rfl, hr2⟩
                · have := shl_len n (dz s x3) m; rw [hL9] at this; simp at this; omega
                rw [shl_len] at hr2 ⊢
                have hb2 := hr2.from_; have hb1f := hr1.from_
                have hb1w : W0.heap.size ≤ b1 := Nat.le_trans SZ.out hb1f
                try have hxb : x6 < b1 ∨ b2 < x6 := .inl (by have := T6.out.lt; have := hr1.from_; omega)
                generalize gz _ = z1 at hr1
                generalize li _ = z2 at hr2
                clear Z
                replace O := Lib.hid (O.out.kept hg (fun g e => by cases e))
                replace GB := Lib.hid (gtr' GB.out (Draw.grown_some hg))
                replace H := Lib.hid (H.out.gN hg)
                replace T6 := Lib.hid (T6.out.keptN hg)
                replace SZ := Lib.hid (Nat.le_trans SZ.out hg.size)
                clear hg
                have R1 := Lib.hid (hr1.lower (lo' := w.heap.size) (by omega)); have R2 := Lib.hid (hr2.lower (lo' := w.heap.size) (by omega))
                have hb12 : b1 < b2 := by omega
                clear hr1 hr2 hb1 hB2 hb2 hK9 hb1f
                refine hKq.out _ _ ((HCEL.out _ GB.out)) (fun hHeld => ?_)
                clear hKq Kq
                refine wpAnyH_ready (rs := [17]) (by kernel_rfl) (by simp) ?_
                refine AllReadyH.cons (o := ⟨none, _, _, _, _, _⟩) rfl (fun Kq hKq => ?_) AllReadyH.nil
                rw [if_pos (by rfl)]
                refine wp_store_blk 35 (.tmp 11) (.tmp 37) _ _ _ 35 T6.out rfl rfl rfl rfl (by kernel_rfl) (by simp [Value.oneCell']) rfl ?_
                intro W6 hg hT
                replace T6 := Lib.hid hT
                replace O := Lib.hid (O.out.kept hg (fun g e => by have e := Option.some.inj e; omega))
                replace GB := Lib.hid (grown_any GB.out hg (by omega))
                replace H := Lib.hid (H.out.grownN hg (by omega) (by omega))
                replace SZ := Lib.hid (Nat.le_trans SZ.out hg.size)
                replace R1 := Lib.hid (R1.out.kept hg (by intro e; have e := Option.some.inj e; omega))
                replace R2 := Lib.hid (R2.out.kept hg (by intro e; have e := Option.some.inj e; omega))
                clear hg
                clear hT
                refine hKq.out _ _ ((HCEL.out _ GB.out)) (fun hHeld => ?_)
                clear hKq Kq
                refine wpAnyH_done (by kernel_rfl) ?_ _
                clear hHeld x30 x31
                revert hx6; revert hb12; revert hb1w; revert hxb; revert R2; revert R1; revert T6; revert H; revert GB; revert O; revert SZ; revert x3; revert z2; revert z1; revert c2; revert b2; revert c1; revert b1; revert c0; revert b0; revert x6; revert W6
                exact hk.out
            · go_simp
              refine at_alloc ?_
              intro Wa hg hT
              have hx6 : W0.heap.size ≤ W3.heap.size := SZ.out
              replace SZ := Lib.hid (Nat.le_trans SZ.out hg.size)
              try have hxb : W3.heap.size < b1 ∨ b2 < W3.heap.size := .inr R2.out.lt
              generalize W3.heap.size = x6 at *
              have T6 := Lib.hid hT
              replace O := Lib.hid (O.out.kept hg (fun g e => by cases e))
              replace GB := Lib.hid (gtr' GB.out (Draw.grown_some hg))
              replace H := Lib.hid (H.out.gN hg)
              clear hg
              clear hT
              refine hKq.out _ _ ((HCEL.out _ GB.out)) (fun hHeld => ?_)
              clear hKq Kq
              refine wpAnyH_ready (rs := [14]) (by kernel_rfl) (by simp) ?_
              refine AllReadyH.cons (o := ⟨some 36, _, _, _, _, _⟩) rfl (fun Kq hKq => ?_) AllReadyH.nil
              go_simp
              go_at_call 34
              refine (s11poly _ n s x3 hn1 (by omega) x30 (by omega)).mono ?_
              rintro e W4 ⟨b0, c0, rfl, hr, hg⟩
              have Z := Lib.hid (hr.lower (lo' := w.heap.size) (by have := GB.out.size; omega)); clear hr
              replace O := Lib.hid (O.out.kept hg (fun g e => by cases e))
              replace GB := Lib.hid (gtr' GB.out (Draw.grown_some hg))
              replace H := Lib.hid (H.out.gN hg)
              replace T6 := Lib.hid (T6.out.keptN hg)
              replace SZ := Lib.hid (Nat.le_trans SZ.out hg.size)
              clear hg
              refine hKq.out _ _ ((HCEL.out _ GB.out)) (fun hHeld => ?_)
              clear hKq Kq
              refine wpAnyH_ready (rs := [15]) (by kernel_rfl) (by simp) ?_
              refine AllReadyH.cons (o := ⟨some 37, _, _, _, _, _⟩) rfl (fun Kq hKq => ?_) AllReadyH.nil
              go_simp
              go_at_call 33
              refine (s11make _ _ m _ n _ _ Z.out.ints (by omega) (fun j _ => dz_ok hfs j) (by omega)).mono ?_
              rintro e W5 ⟨b1, c1, B2, v, rfl, hB2, hb1, hr1, hL9, hg⟩
              have hK9 := GB.out.size
              rcases hL9 with ⟨_, hL9⟩ | ⟨b2, c2, rfl, hr2⟩
              · have := shl_len n (dz s x3) m; rw [hL9] at this; simp at this; omega
              rw [shl_len] at hr2 ⊢
              have hb2 := hr2.from_; have hb1f := hr1.from_
              have hb1w : W0.heap.size ≤ b1 := Nat.le_trans SZ.out hb1f
              try have hxb : x6 < b1 ∨ b2 < x6 := .inl (by have := T6.out.lt; have := hr1.from_; omega)
              generalize gz _ = z1 at hr1
              generalize li _ = z2 at hr2
              clear Z
              replace O := Lib.hid (O.out.kept hg (fun g e => by cases e))
              replace GB := Lib.hid (gtr' GB.out (Draw.grown_some hg))
              replace H := Lib.hid (H.out.gN hg)
              replace T6 := Lib.hid (T6.out.keptN hg)
              replace SZ := Lib.hid (Nat.le_trans SZ.out hg.size)
              clear hg
              have R1 := Lib.hid (hr1.lower (lo' := w.heap.size) (by omega)); have R2 := Lib.hid (hr2.lower (lo' := w.heap.size) (by omega))
              have hb12 : b1 < b2 := by omega
              clear hr1 hr2 hb1 hB2 hb2 hK9 hb1f
              refine hKq.out _ _ ((HCEL.out _ GB.out)) (fun hHeld => ?_)
              clear hKq Kq
              refine wpAnyH_ready (rs := [17]) (by kernel_rfl) (by simp) ?_
              refine AllReadyH.cons (o := ⟨none, _, _, _, _, _⟩) rfl (fun Kq hKq => ?_) AllReadyH.nil
              rw [if_pos (by rfl)]
              refine wp_store_blk 35 (.tmp 11) (.tmp 37) _ _ _ 35 T6.out rfl rfl rfl rfl (by kernel_rfl) (by simp [Value.oneCell']) rfl ?_
              intro W6 hg hT
              replace T6 := Lib.hid hT
              replace O := Lib.hid (O.out.kept hg (fun g e => by have e := Option.some.inj e; omega))
              replace GB := Lib.hid (grown_any GB.out hg (by omega))
              replace H := Lib.hid (H.out.grownN hg (by omega) (by omega))
              replace SZ := Lib.hid (Nat.le_trans SZ.out hg.size)
              replace R1 := Lib.hid (R1.out.kept hg (by intro e; have e := Option.some.inj e; omega))
              replace R2 := Lib.hid (R2.out.kept hg (by intro e; have e := Option.some.inj e; omega))
              clear hg
              clear hT
              refine hKq.out _ _ ((HCEL.out _ GB.out)) (fun hHeld => ?_)
              clear hKq Kq
              refine wpAnyH_done (by kernel_rfl) ?_ _
              clear hHeld x30 x31
              revert hx6; revert hb12; revert hb1w; revert hxb; revert R2; revert R1; revert T6; revert H; revert GB; revert O; revert SZ; revert x3; revert z2; revert z1; revert c2; revert b2; revert c1; revert b1; revert c0; revert b0; revert x6; revert W6
              exact hk.out
          · go_simp
            refine at_alloc ?_
            intro Wa hg hT
            have hx6 : W0.heap.size ≤ W.heap.size := SZ.out
            replace SZ := Lib.hid (Nat.le_trans SZ.out hg.size)
            try have hxb : W.heap.size < b1 ∨ b2 < W.heap.size := .inr R2.out.lt
            generalize W.heap.size = x6 at *
            have T6 := Lib.hid hT
            replace O := Lib.hid (O.out.kept hg (fun g e => by cases e))
            replace GB := Lib.hid (gtr' GB.out (Draw.grown_some hg))
            replace H := Lib.hid (H.out.gN hg)
            clear hg
            clear hT
            refine hKq.out _ _ ((HCEL.out _ GB.out)) (fun hHeld => ?_)
            clear hKq Kq
            refine wpAnyH_ready (rs := [13]) (by kernel_rfl) (by simp) ?_
            refine AllReadyH.cons (o := ⟨some 35, _, _, _, _, _⟩) rfl (fun Kq hKq => ?_) AllReadyH.nil
            go_simp
            go_at_call 15
            refine (pick_any _ _ _ a len cap _ (1000 : Int) H.out (by omega) (by omega)).mono ?_
            rintro e W3 ⟨x3, x30, x31, rfl, hr, hg, hs⟩
            replace H := Lib.hid hr
            replace O := Lib.hid (O.out.kept hg (fun g e => by have e := Option.some.inj e; omega))
            replace GB := Lib.hid (grown_any GB.out hg (by omega))
            replace T6 := Lib.hid (T6.out.kept hg (by intro e; have e := Option.some.inj e; omega))
            replace SZ := Lib.hid (Nat.le_trans SZ.out hg.size)
            clear hg
            clear hr hs
            refine hKq.out _ _ ((HCEL.out _ GB.out)) (fun hHeld => ?_)
            clear hKq Kq
            refine wpAnyH_ready (rs := [14]) (by kernel_rfl) (by simp) ?_
            refine AllReadyH.cons (o := ⟨some 36, _, _, _, _, _⟩) rfl (fun Kq hKq => ?_) AllReadyH.nil
            go_simp
            go_at_call 34
            refine (s11poly _ n s x3 hn1 (by omega) x30 (by omega)).mono ?_
            rintro e W4 ⟨b0, c0, rfl, hr, hg⟩
            have Z := Lib.hid (hr.lower (lo' := w.heap.size) (by have := GB.out.size; omega)); clear hr
            replace O := Lib.hid (O.out.kept hg (fun g e => by cases e))
            replace GB := Lib.hid (gtr' GB.out (Draw.grown_some hg))
            replace T6 := Lib.hid (T6.out.keptN hg)
            replace SZ := Lib.hid (Nat.le_trans SZ.out hg.size)
            replace H := Lib.hid (H.out.gN hg)
            clear hg
            refine hKq.out _ _ ((HCEL.out _ GB.out)) (fun hHeld => ?_)
            clear hKq Kq
            refine wpAnyH_ready (rs := [15]) (by kernel_rfl) (by simp) ?_
            refine AllReadyH.cons (o := ⟨some 37, _, _, _, _, _⟩) rfl (fun Kq hKq => ?_) AllReadyH.nil
            go_simp
            go_at_call 33
            refine (s11make _ _ m _ n _ _ Z.out.ints (by omega) (fun j _ => dz_ok hfs j) (by omega)).mono ?_
            rintro e W5 ⟨b1, c1, B2, v, rfl, hB2, hb1, hr1, hL9, hg⟩
            have hK9 := GB.out.size
            rcases hL9 with ⟨_, hL9⟩ | ⟨b2, c2, rfl, hr2⟩
            · have := shl_len n (dz s x3) m; rw [hL9] at this; simp at this; omega
            rw [shl_len] at hr2 ⊢
            have hb2 := hr2.from_; have hb1f := hr1.from_
            have hb1w : W0.heap.size ≤ b1 := Nat.le_trans SZ.out hb1f
            try have hxb : x6 < b1 ∨ b2 < x6 := .inl (by have := T6.out.lt; have := hr1.from_; omega)
            generalize gz _ = z1 at hr1
            generalize li _ = z2 at hr2
            clear Z
            replace O := Lib.hid (O.out.kept hg (fun g e => by cases e))
            replace GB := Lib.hid (gtr' GB.out (Draw.grown_some hg))
            replace T6 := Lib.hid (T6.out.keptN hg)
            replace SZ := Lib.hid (Nat.le_trans SZ.out hg.size)
            replace H := Lib.hid (H.out.gN hg)
            clear hg
            have R1 := Lib.hid (hr1.lower (lo' := w.heap.size) (by omega)); have R2 := Lib.hid (hr2.lower (lo' := w.heap.size) (by omega))
            have hb12 : b1 < b2 := by omega
            clear hr1 hr2 hb1 hB2 hb2 hK9 hb1f
            refine hKq.out _ _ ((HCEL.out _ GB.out)) (fun hHeld => ?_)
            clear hKq Kq
            refine wpAnyH_ready (rs := [17]) (by kernel_rfl) (by simp) ?_
            refine AllReadyH.cons (o := ⟨none, _, _, _, _, _⟩) rfl (fun Kq hKq => ?_) AllReadyH.nil
            rw [if_pos (by rfl)]
            refine wp_store_blk 35 (.tmp 11) (.tmp 37) _ _ _ 35 T6.out rfl rfl rfl rfl (by kernel_rfl) (by simp [Value.oneCell']) rfl ?_
            intro W6 hg hT
            replace T6 := Lib.hid hT
            replace O := Lib.hid (O.out.kept hg (fun g e => by have e := Option.some.inj e; omega))
            replace GB := Lib.hid (grown_any GB.out hg (by omega))
            replace SZ := Lib.hid (Nat.le_trans SZ.out hg.size)
            replace H := Lib.hid (H.out.grownN hg (by omega) (by omega))
            replace R1 := Lib.hid (R1.out.kept hg (by intro e; have e := Option.some.inj e; omega))
            replace R2 := Lib.hid (R2.out.kept hg (by intro e; have e := Option.some.inj e; omega))
            clear hg
            clear hT
            refine hKq.out _ _ ((HCEL.out _ GB.out)) (fun hHeld => ?_)
            clear hKq Kq
            refine wpAnyH_done (by kernel_rfl) ?_ _
            clear hHeld x30 x31
            revert hx6; revert hb12; revert hb1w; revert hxb; revert R2; revert R1; revert T6; revert H; revert GB; revert O; revert SZ; revert x3; revert z2; revert z1; revert c2; revert b2; revert c1; revert b1; revert c0; revert b0; revert x6; revert W6
            exact hk.out
        case rest =>
          clear O GB H SZ
          intro W x6 b0 c0 b1 c1 b2 c2 z1 z2 x3 SZ O GB H T6 R1 R2 hxb hb1w hb12 hx6
          have hl6 := T6.out.lt; have hbl1 := R1.out.lt; have hbl2 := R2.out.lt
          go_wp2_with fail
          refine (pick_any _ _ _ a len cap _ (12 : Int) H.out (by omega) (by omega)).mono ?_
          rintro e W2 ⟨x4, x40, x41, rfl, hr, hg, hs⟩
          clear hl6 hbl1 hbl2
          replace H := Lib.hid hr
          replace O := Lib.hid (O.out.kept hg (fun g e => by have e := Option.some.inj e; omega))
          replace GB := Lib.hid (grown_any GB.out hg (by omega))
          replace T6 := Lib.hid (T6.out.kept hg (by intro e; have e := Option.some.inj e; omega))
          replace R1 := Lib.hid (R1.out.kept hg (by intro e; have e := Option.some.inj e; omega))
          replace R2 := Lib.hid (R2.out.kept hg (by intro e; have e := Option.some.inj e; omega))
          clear hg
          clear hr hs
          rcases (by omega : x4 = 0 ∨ 1 ≤ x4) with rfl | hx4
          · go_wp2_with fail
            refine wp_region_held_drew (S := (fun w' => w'.cell? ⟨x6, 2, none⟩ = some (.slice (some ⟨b2, 0, none⟩) m c2))) (by kernel_rfl) ((T6.out.cell 2)) (fun hHeld => ?_)
            have hg := gdrew W2
            replace O := Lib.hid (O.out.kept hg (fun g e => by cases e))
            replace GB := Lib.hid (gtr' GB.out (Draw.grown_some hg))
            replace T6 := Lib.hid (T6.out.keptN hg)
            replace R1 := Lib.hid (R1.out.keptN hg)
            replace R2 := Lib.hid (R2.out.keptN hg)
            replace H := Lib.hid (H.out.gN hg)
            clear hg
            generalize W2.drew = W3 at *
            refine wpAnyH_take (i := 0) (oi := ⟨some 41, _, _, _, _, _⟩) (v := ?_) rfl (by kernel_rfl) (by kernel_rfl) (by kernel_rfl) (fun _ _ _ h => h) (Or.inl ⟨by rfl, ?_⟩) (by assumption) ?_
            rotate_left
            · intro w hSw; (try dsimp only at hSw); go_simp; try with_reducible rfl
            simp only [Act.put, List.setIfInBounds_toArray, List.set_cons_zero, List.set_cons_succ]
            refine wpAnyH_take (i := 1) (oi := ⟨some 42, _, _, _, _, _⟩) (v := ?_) rfl (by kernel_rfl) (by kernel_rfl) (by kernel_rfl) (fun _ _ _ h => h) (Or.inl ⟨by rfl, ?_⟩) (by assumption) ?_
            rotate_left
            · intro w hSw; (try dsimp only at hSw); go_simp; try with_reducible rfl
            simp only [Act.put, List.setIfInBounds_toArray, List.set_cons_zero, List.set_cons_succ]
            refine wpAnyH_take (i := 2) (oi := ⟨some 43, _, _, _, _, _⟩) (v := ?_) rfl (by kernel_rfl) (by kernel_rfl) (by kernel_rfl) (fun _ _ _ h => h) (Or.inl ⟨by rfl, ?_⟩) (by assumption) ?_
            rotate_left
            · intro w hSw; (try dsimp only at hSw); go_simp; try with_reducible rfl
            simp only [Act.put, List.setIfInBounds_toArray, List.set_cons_zero, List.set_cons_succ]
            refine wpAnyH_take (i := 3) (oi := ⟨some 44, _, _, _, _, _⟩) (v := ?_) rfl (by kernel_rfl) (by kernel_rfl) (by kernel_rfl) (fun _ _ _ h => h) (Or.inl ⟨by rfl, ?_⟩) (by assumption) ?_
            rotate_left
            · intro w hSw; (try dsimp only at hSw); go_simp; try with_reducible rfl
            simp only [Act.put, List.setIfInBounds_toArray, List.set_cons_zero, List.set_cons_succ]
            refine wpAnyH_take (i := 5) (oi := ⟨some 46, _, _, _, _, _⟩) (v := ?_) rfl (by kernel_rfl) (by kernel_rfl) (by kernel_rfl) (fun _ _ _ h => h) (Or.inl ⟨by rfl, ?_⟩) (by assumption) ?_
            rotate_left
            · intro w hSw; (try dsimp only at hSw); go_simp; try with_reducible rfl
            simp only [Act.put, List.setIfInBounds_toArray, List.set_cons_zero, List.set_cons_succ]
            refine wpAnyH_ready (rs := [4]) (by kernel_rfl) (by simp) ?_
            refine AllReadyH.cons (o := ⟨some 45, _, _, _, _, _⟩) rfl (fun Kq hKq => ?_) AllReadyH.nil
            go_simp
            go_at_call 15
            refine (pick_any _ _ _ a len cap _ (m : Int) H.out (by omega) (by omega)).mono ?_
            rintro e W4 ⟨y1, y10, y11, rfl, hr, hg, hs⟩
            replace H := Lib.hid hr
            obtain ⟨yn, rfl⟩ : ∃ yn : Nat, y1 = yn := ⟨y1.toNat, by omega⟩
            have hyn : yn < m := by omega
            replace O := Lib.hid (O.out.kept hg (fun g e => by have e := Option.some.inj e; omega))
            replace GB := Lib.hid (grown_any GB.out hg (by omega))
            replace T6 := Lib.hid (T6.out.kept hg (by intro e; have e := Option.some.inj e; omega))
            replace R1 := Lib.hid (R1.out.kept hg (by intro e; have e := Option.some.inj e; omega))
            replace R2 := Lib.hid (R2.out.kept hg (by intro e; have e := Option.some.inj e; omega))
            clear hg
            clear hr hs
            refine hKq.out _ _ ((T6.out.cell 2)) (fun hHeld => ?_)
            clear hKq Kq
            refine wpAnyH_ready (rs := [6]) (by kernel_rfl) (by simp) ?_
            refine AllReadyH.cons (o := ⟨some 47, _, _, _, _, _⟩) rfl (fun Kq hKq => ?_) AllReadyH.nil
            go_simp
            go_at_call 15
            refine (pick_any _ _ _ a len cap _ (23 : Int) H.out (by omega) (by omega)).mono ?_
            rintro e W5 ⟨y2, y20, y21, rfl, hr, hg, hs⟩
            replace H := Lib.hid hr
            replace O := Lib.hid (O.out.kept hg (fun g e => by have e := Option.some.inj e; omega))
            replace GB := Lib.hid (grown_any GB.out hg (by omega))
            replace T6 := Lib.hid (T6.out.kept hg (by intro e; have e := Option.some.inj e; omega))
            replace R1 := Lib.hid (R1.out.kept hg (by intro e; have e := Option.some.inj e; omega))
            replace R2 := Lib.hid (R2.out.kept hg (by intro e; have e := Option.some.inj e; omega))
            clear hg
            clear hr hs
            refine hKq.out _ _ ((T6.out.cell 2)) (fun hHeld => ?_)
            clear hKq Kq
            refine wpAnyH_take (i := 7) (oi := ⟨some 48, _, _, _, _, _⟩) (v := ?_) rfl (by kernel_rfl) (by kernel_rfl) (by kernel_rfl) (fun _ _ _ h => h) (Or.inl ⟨by rfl, ?_⟩) (by assumption) ?_
            rotate_left
            · intro w hSw; (try dsimp only at hSw); go_simp; try with_reducible rfl
            simp only [Act.put, List.setIfInBounds_toArray, List.set_cons_zero, List.set_cons_succ]
            have t0 := R2.out.cell hyn
            have t1 := R2.out.frozen yn
            refine wpAnyH_ready (rs := [8]) (by kernel_rfl) (by simp) ?_
            refine AllReadyH.cons (o := ⟨none, _, _, _, _, _⟩) rfl (fun Kq hKq => ?_) AllReadyH.nil
            go_simp
            have hg := Mem.grown_set W5 b2 yn (.int .i64 y2)
            have hr2 := R2.out.set yn y2
            replace O := Lib.hid (O.out.kept hg (fun g e => by have e := Option.some.inj e; omega))
            replace GB := Lib.hid (grown_any GB.out hg (by omega))
            replace T6 := Lib.hid (T6.out.kept hg (by intro e; have e := Option.some.inj e; omega))
            replace R1 := Lib.hid (R1.out.kept hg (by intro e; have e := Option.some.inj e; omega))
            replace H := Lib.hid (H.out.grownN hg (by omega) (by omega))
            clear hg
            replace R2 := Lib.hid hr2
            clear hr2 t0 t1
            generalize W5.setCell ⟨b2, yn, none⟩ (.int .i64 y2) = W6 at *
            refine hKq.out _ _ ((T6.out.cell 2)) (fun hHeld => ?_)
            clear hKq Kq
            refine wpAnyH_done (by kernel_rfl) ?_ _
            generalize (fun j => if j = yn then y2 else z2 j) = z2 at *
            have HX := Lib.hid (show RowsD W6 w.heap.size ⟨(k : Int) + 1, some ⟨b1, 0, none⟩, n, c1, z1, some ⟨b2, 0, none⟩, m, c2, z2⟩ from ⟨b1, b2, rfl, rfl, R1.out, R2.out⟩)
            have HS := Lib.hid (show WSt w base B a len cap _ W6 v1 L from ⟨O.out.o, GB.out, H.out⟩)
            have t0 := T6.out.cell 0; have t1 := T6.out.cell 1; have t2 := T6.out.cell 2
            have hlT := T6.out.lt
            have hwG := GB.out.size
            go_wp2_with (at_builtin; refine wpList_append_own _ rfl _ _ 26 rfl w.heap.size 35 j0 (.agg #[.int .i64 0, .slice none 0 0, .slice none 0 0]) 3 56 und_dls' hj hy0 hy1 hy2 rfl (by decide) v1 L.length (cellsD L) rfl (O.out.o.own.alloc _) ⟨(World.heap W6).size, 0, none⟩ 1 1 [.int .i64 ((k : Int) + 1), .slice (some ⟨b1, 0, none⟩) n c1, .slice (some ⟨b2, 0, none⟩) m c2] rfl rfl (World.news_of_block (cs := #[.int .i64 ((k : Int) + 1), .slice (some ⟨b1, 0, none⟩) n c1, .slice (some ⟨b2, 0, none⟩) m c2]) (t := 35) (fr := (0, 0)) (heap_alloc_new W6 _)) (by simp [Value.oneCell']) (by unfold maxLen; omega) (by omega) (by simp; omega) ?_; intro v' W9 hown hgrow _; have HS9 := Lib.hid (HS.out.app (x := ⟨(k : Int) + 1, some ⟨b1, 0, none⟩, n, c1, z1, some ⟨b2, 0, none⟩, m, c2, z2⟩) HX.out ⟨by show n ≤ 5; omega, by show m ≤ 5; omega⟩ hgrow hBw hown); clear hown hgrow)
            go_roundw
            case rel => exact ⟨k + 1, _, _, by omega, by go_num, by omega, by omega, by simp; omega, HS9.out⟩
            case measure => simp [intOf] <;> omega
          · have hx0 : (x4 == 0) = false := by simp; omega
            have HX := Lib.hid (show RowsD W2 w.heap.size ⟨(k : Int) + 1, some ⟨b1, 0, none⟩, n, c1, z1, some ⟨b2, 0, none⟩, m, c2, z2⟩ from ⟨b1, b2, rfl, rfl, R1.out, R2.out⟩)
            have HS := Lib.hid (show WSt w base B a len cap _ W2 v1 L from ⟨O.out.o, GB.out, H.out⟩)
            have t0 := T6.out.cell 0; have t1 := T6.out.cell 1; have t2 := T6.out.cell 2
            have hlT := T6.out.lt
            have hwG := GB.out.size
            go_wp2_with (at_builtin; refine wpList_append_own _ rfl _ _ 26 rfl w.heap.size 35 j0 (.agg #[.int .i64 0, .slice none 0 0, .slice none 0 0]) 3 56 und_dls' hj hy0 hy1 hy2 rfl (by decide) v1 L.length (cellsD L) rfl (O.out.o.own.alloc _) ⟨(World.heap W2).size, 0, none⟩ 1 1 [.int .i64 ((k : Int) + 1), .slice (some ⟨b1, 0, none⟩) n c1, .slice (some ⟨b2, 0, none⟩) m c2] rfl rfl (World.news_of_block (cs := #[.int .i64 ((k : Int) + 1), .slice (some ⟨b1, 0, none⟩) n c1, .slice (some ⟨b2, 0, none⟩) m c2]) (t := 35) (fr := (0, 0)) (heap_alloc_new W2 _)) (by simp [Value.oneCell']) (by unfold maxLen; omega) (by omega) (by simp; omega) ?_; intro v' W9 hown hgrow _; have HS9 := Lib.hid (HS.out.app (x := ⟨(k : Int) + 1, some ⟨b1, 0, none⟩, n, c1, z1, some ⟨b2, 0, none⟩, m, c2, z2⟩) HX.out ⟨by show n ≤ 5; omega, by show m ≤ 5; omega⟩ hgrow hBw hown); clear hown hgrow)
            go_roundw
            case rel => exact ⟨k + 1, _, _, by omega, by go_num, by omega, by omega, by simp; omega, HS9.out⟩
            case measure => simp [intOf] <;> omega
    · obtain rfl : k = km := by omega
      have hlt' : ¬ (k : Int) < (k : Int) := by omega
      go_wp2
      go_ret
      exact ⟨v1, rfl, L, O.out, by omega, GB.out, p1, by omega, by omega, H.out⟩
/-- A key, deals, a committee and a member, drawn. -/
def GotKDs (w : World) (e : Ending) (w' : World) : Prop :=
  ∃ (need many : Nat) (ag : Option Addr) (ng cg : Nat) (zg : Nat → Int) (ac : Option Addr) (nc cc : Nat) (zc : Nat → Int) (ad : Option Addr) (nd cd : Nat) (D : Nat → DV) (n m : Nat) (mem : Int),
    e = .returned (.tuple #[.agg #[.int .i64 need, .int .i64 many, .slice ag ng cg, .slice ac nc cc], .slice ad nd cd, .int .i64 n, .int .i64 m, .int .i64 mem]) ∧ ng ≤ 6 ∧ nc ≤ 6 ∧ nd ≤ 6 ∧ (∀ j, j < nd → (D j).n1 ≤ 5 ∧ (D j).n2 ≤ 5) ∧ Ints w' ag ng zg ∧ Ints w' ac nc zc ∧ DealsIn w' ad nd D ∧ w.grownBy w' none
theorem ret_k5 {fn : Func} {p q u v x : Tmp} (h : fn.results = #[.cell p 25, .tmp q, .tmp u, .tmp v, .tmp x]) (tmps : Array Value) {w : World} {b : Nat} {v0 v1 v2 v3 : Value} {T : TypeId} (hp : tmps.getD p undef = .pointer (some ⟨b, 0, none⟩)) (hb : Blk w b #[v0, v1, v2, v3] T) :
    (results fn tmps).run Tryz.prog w = .ok (.tuple #[.agg #[v0, v1, v2, v3], tmps.getD q undef, tmps.getD u undef, tmps.getD v undef, tmps.getD x undef]) w := by
  have hp' : tmps[p]?.getD undef = .pointer (some ⟨b, 0, none⟩) := by simpa using hp
  simp [results, h, hp', asAddr, run_loadVar_row w b T 25 #[v0, v1, v2, v3] (0, 0) _ hb Tryz.underlying25 rfl size_key, Result.andThen]
set_option maxRecDepth 100000 in
set_option maxHeartbeats 4000000 in
theorem drawHandS (w : World) (a : Option Addr) (len cap : Nat) (hB : Bytes w w.heap.size a len) (hc : len ≤ cap) (hm : cap ≤ maxLen) :
    Calls Tryz.prog 4 #[.slice a len cap] w (GotKDs w) := by
  have hs0 : (w.alloc (.cells #[.int .i64 0, .int .i64 0, .slice none 0 0, .slice none 0 0] 25)).heap.size = w.heap.size + 1 := by show (w.heap.push _).size = _; simp
  have G := Lib.hid (grown_alloc w (.cells #[.int .i64 0, .int .i64 0, .slice none 0 0, .slice none 0 0] 25) none)
  have HB := Lib.hid (hB.kept (w' := w.alloc (.cells #[.int .i64 0, .int .i64 0, .slice none 0 0, .slice none 0 0] 25)) (fun k hk => Below.heap_alloc _ _ _ hk))
  have R := Lib.hid (Blk.new w #[.int .i64 0, .int .i64 0, .slice none 0 0, .slice none 0 0] 25)
  clear hB
  go_enter Tryz.func4, Tryz.ntmps4
  go_wp2_with fail
  refine (open_any _ w.heap.size a len cap HB.out (by omega) hc hm).mono ?_
  rintro e w1 ⟨rfl, hg, hs1, l1, c1', hr1⟩
  rw [hs0] at hr1 hs1
  have H := Lib.hid hr1
  replace G := Lib.hid (gtr G.out hg)
  replace R := Lib.hid (R.out.keptN hg)
  clear hg
  have hw1 : w.heap.size + 2 ≤ w1.heap.size := by omega
  clear hr1 hs1 HB hs0
  go_wp2_with fail
  refine (held_any _ _ _ a l1 c1' 0 H.out (by omega)).mono ?_
  rintro e w2 ⟨need, many, ag, ng, cg, zg, ac, nc, cc, zc, v, rfl, hk, hm1, hO, hg, p2, hp2, hp2', hr2⟩
  replace H := Lib.hid hr2
  have I1 := Lib.hid hk.irg; have I2 := Lib.hid hk.irc; have O := Lib.hid hO
  have hw2 : w1.heap.size ≤ w2.heap.size := hg.size
  have hng := hk.g6; have hnc := hk.c5; have hn5 := hk.n5; have hm6 := hk.m5
  replace G := Lib.hid (grown_new G.out (by omega) hg)
  replace R := Lib.hid (R.out.kept hg (by intro e; have e := Option.some.inj e; omega))
  clear hg
  clear hr2 hk hO
  have hg : w2.grownBy (w2.alloc (.cells #[.int .i64 need, .int .i64 many, .slice ag ng cg, .slice ac nc cc] 25)) none := grown_alloc _ _ _
  have K := Lib.hid (Blk.new w2 #[.int .i64 need, .int .i64 many, .slice ag ng cg, .slice ac nc cc] 25)
  replace G := Lib.hid (gtr G.out hg)
  replace R := Lib.hid (R.out.keptN hg)
  replace H := Lib.hid (H.out.gN hg)
  replace I1 := Lib.hid (I1.out.keptN hg)
  replace I2 := Lib.hid (I2.out.keptN hg)
  replace O := Lib.hid (O.out.kept hg (fun g e => by cases e))
  clear hg
  obtain ⟨gb, gc, hz, rfl, hgl, hgs, hcel⟩ := O.out.cells hm1
  clear hcel
  have hlk := K.out.lt
  go_wp2_with fail
  refine (fine_any _ _ _ a l1 c1' _ H.out (by omega)).mono ?_
  rintro e w3 ⟨n, m, rfl, hn1, hnm, hm5, hg, hr⟩
  replace H := Lib.hid hr
  replace G := Lib.hid (grown_new G.out (by omega) hg)
  replace R := Lib.hid (R.out.kept hg (by intro e; have e := Option.some.inj e; omega))
  replace I1 := Lib.hid (I1.out.kept hg (by omega))
  replace I2 := Lib.hid (I2.out.kept hg (by omega))
  replace O := Lib.hid (O.out.kept hg (fun g e => by have e := Option.some.inj e; omega))
  replace K := Lib.hid (K.out.kept hg (by intro e; have e := Option.some.inj e; omega))
  clear hg
  clear hr hlk
  have hw3 : w2.heap.size + 1 ≤ w3.heap.size := K.out.lt
  go_wp2_with fail
  refine wp_region_held_drew (S := (fun w' => w'.cell? ⟨w2.heap.size, 0, none⟩ = some (.int .i64 (need : Int)) ∧ w'.cell? ⟨w2.heap.size, 1, none⟩ = some (.int .i64 (many : Int)) ∧ w'.cell? ⟨w2.heap.size, 2, none⟩ = some (.slice ag ng cg) ∧ w'.cell? ⟨w2.heap.size, 3, none⟩ = some (.slice ac nc cc))) (by kernel_rfl) (⟨K.out.cell 0, K.out.cell 1, K.out.cell 2, K.out.cell 3⟩) (fun hHeld => ?_)
  have hg := gdrew w3
  replace G := Lib.hid (gtr G.out hg)
  replace R := Lib.hid (R.out.keptN hg)
  replace I1 := Lib.hid (I1.out.keptN hg)
  replace I2 := Lib.hid (I2.out.keptN hg)
  replace O := Lib.hid (O.out.kept hg (fun g e => by cases e))
  replace K := Lib.hid (K.out.keptN hg)
  replace H := Lib.hid (H.out.gN hg)
  clear hg
  generalize w3.drew = W at *
  refine wpAnyH_take (i := 0) (oi := ⟨some 24, _, _, _, _, _⟩) (v := ?_) rfl (by kernel_rfl) (by kernel_rfl) (by kernel_rfl) (fun _ _ _ h => h) (Or.inl ⟨by rfl, ?_⟩) (by assumption) ?_
  rotate_left
  · intro w hSw; (try dsimp only at hSw); go_simp; try with_reducible rfl
  simp only [Act.put, List.setIfInBounds_toArray, List.set_cons_zero, List.set_cons_succ]
  refine wpAnyH_take (i := 1) (oi := ⟨some 25, _, _, _, _, _⟩) (v := ?_) rfl (by kernel_rfl) (by kernel_rfl) (by kernel_rfl) (fun _ _ _ h => h) (Or.inl ⟨by rfl, ?_⟩) (by assumption) ?_
  rotate_left
  · intro w hSw; (try dsimp only at hSw); go_simp; try with_reducible rfl
  simp only [Act.put, List.setIfInBounds_toArray, List.set_cons_zero, List.set_cons_succ]
  refine wpAnyH_take (i := 2) (oi := ⟨some 26, _, _, _, _, _⟩) (v := ?_) rfl (by kernel_rfl) (by kernel_rfl) (by kernel_rfl) (fun _ _ _ h => h) (Or.inl ⟨by rfl, ?_⟩) (by assumption) ?_
  rotate_left
  · intro w hSw; (try dsimp only at hSw); go_simp; try with_reducible rfl
  simp only [Act.put, List.setIfInBounds_toArray, List.set_cons_zero, List.set_cons_succ]
  refine wpAnyH_take (i := 3) (oi := ⟨some 27, _, _, _, _, _⟩) (v := ?_) rfl (by kernel_rfl) (by kernel_rfl) (by kernel_rfl) (fun _ _ _ h => h) (Or.inl ⟨by rfl, ?_⟩) (by assumption) ?_
  rotate_left
  · intro w hSw; (try dsimp only at hSw); go_simp; try with_reducible rfl
  simp only [Act.put, List.setIfInBounds_toArray, List.set_cons_zero, List.set_cons_succ]
  refine wpAnyH_take (i := 4) (oi := ⟨some 28, _, _, _, _, _⟩) (v := ?_) rfl (by kernel_rfl) (by kernel_rfl) (by kernel_rfl) (fun _ _ _ h => h) (Or.inl ⟨by rfl, ?_⟩) (by assumption) ?_
  rotate_left
  · intro w hSw; (try dsimp only at hSw); go_simp; try with_reducible rfl
  simp only [Act.put, List.setIfInBounds_toArray, List.set_cons_zero, List.set_cons_succ]
  refine wpAnyH_take (i := 6) (oi := ⟨some 30, _, _, _, _, _⟩) (v := ?_) rfl (by kernel_rfl) (by kernel_rfl) (by kernel_rfl) (fun _ _ _ h => h) (Or.inl ⟨by rfl, ?_⟩) (by assumption) ?_
  rotate_left
  · intro w hSw; (try dsimp only at hSw); go_simp; try with_reducible rfl
  simp only [Act.put, List.setIfInBounds_toArray, List.set_cons_zero, List.set_cons_succ]
  refine wpAnyH_take (i := 7) (oi := ⟨some 31, _, _, _, _, _⟩) (v := ?_) rfl (by kernel_rfl) (by kernel_rfl) (by kernel_rfl) (fun _ _ _ h => h) (Or.inl ⟨by rfl, ?_⟩) (by assumption) ?_
  rotate_left
  · intro w hSw; (try dsimp only at hSw); go_simp; try with_reducible rfl
  simp only [Act.put, List.setIfInBounds_toArray, List.set_cons_zero, List.set_cons_succ]
  refine wpAnyH_take (i := 8) (oi := ⟨some 32, _, _, _, _, _⟩) (v := ?_) rfl (by kernel_rfl) (by kernel_rfl) (by kernel_rfl) (fun _ _ _ h => h) (Or.inl ⟨by rfl, ?_⟩) (by assumption) ?_
  rotate_left
  · intro w hSw; (try dsimp only at hSw); go_simp; try with_reducible rfl
  simp only [Act.put, List.setIfInBounds_toArray, List.set_cons_zero, List.set_cons_succ]
  refine wpAnyH_take (i := 9) (oi := ⟨some 33, _, _, _, _, _⟩) (v := ?_) rfl (by kernel_rfl) (by kernel_rfl) (by kernel_rfl) (fun _ _ _ h => h) (Or.inl ⟨by rfl, ?_⟩) (by assumption) ?_
  rotate_left
  · intro w hSw; (try dsimp only at hSw); go_simp; try with_reducible rfl
  simp only [Act.put, List.setIfInBounds_toArray, List.set_cons_zero, List.set_cons_succ]
  refine wpAnyH_take (i := 12) (oi := ⟨some 36, _, _, _, _, _⟩) (v := ?_) rfl (by kernel_rfl) (by kernel_rfl) (by kernel_rfl) (fun _ _ _ h => h) (Or.inl ⟨by rfl, ?_⟩) (by assumption) ?_
  rotate_left
  · intro w hSw; (try dsimp only at hSw); go_simp; try with_reducible rfl
  simp only [Act.put, List.setIfInBounds_toArray, List.set_cons_zero, List.set_cons_succ]
  refine wpAnyH_ready (rs := [5]) (by kernel_rfl) (by simp) ?_
  refine AllReadyH.cons (o := ⟨some 29, _, _, _, _, _⟩) rfl (fun Kq hKq => ?_) AllReadyH.nil
  go_simp
  go_at_call 14
  refine (hand_any _ _ _ a l1 c1' _ H.out (by omega) _ many _ O.out hm1 hm6 (by have := H.out.from_; have := H.out.lt; omega) n m hn1 hnm hm5).mono ?_
  rintro e W4 ⟨v', L, rfl, hOW, hL6, hg, p4, hp4, hp4', hr⟩
  replace H := Lib.hid hr
  have hwW := K.out.lt
  replace G := Lib.hid (grown_new G.out (by omega) hg)
  replace R := Lib.hid (R.out.kept hg (by intro e; have e := Option.some.inj e; omega))
  replace I1 := Lib.hid (I1.out.kept hg (by omega))
  replace I2 := Lib.hid (I2.out.kept hg (by omega))
  replace O := Lib.hid (O.out.kept hg (fun g e => by have e := Option.some.inj e; omega))
  replace K := Lib.hid (K.out.kept hg (by intro e; have e := Option.some.inj e; omega))
  clear hg
  clear hr
  have OW := Lib.hid hOW; clear hOW
  clear O
  refine hKq.out _ _ (⟨K.out.cell 0, K.out.cell 1, K.out.cell 2, K.out.cell 3⟩) (fun hHeld => ?_)
  clear hKq Kq
  refine wpAnyH_ready (rs := [10]) (by kernel_rfl) (by simp) ?_
  refine AllReadyH.cons (o := ⟨some 34, _, _, _, _, _⟩) rfl (fun Kq hKq => ?_) AllReadyH.nil
  go_simp
  go_at_call 15
  refine (pick_any _ _ _ a l1 c1' _ (m : Int) H.out (by omega) (by omega)).mono ?_
  rintro e W5 ⟨y1, y10, y11, rfl, hr, hg, hs⟩
  replace H := Lib.hid hr
  replace G := Lib.hid (grown_new G.out (by omega) hg)
  replace R := Lib.hid (R.out.kept hg (by intro e; have e := Option.some.inj e; omega))
  replace I1 := Lib.hid (I1.out.kept hg (by omega))
  replace I2 := Lib.hid (I2.out.kept hg (by omega))
  replace K := Lib.hid (K.out.kept hg (by intro e; have e := Option.some.inj e; omega))
  replace OW := Lib.hid (OW.out.kept hg (fun g e => by have e := Option.some.inj e; omega))
  clear hg
  clear hr hs
  refine hKq.out _ _ (⟨K.out.cell 0, K.out.cell 1, K.out.cell 2, K.out.cell 3⟩) (fun hHeld => ?_)
  clear hKq Kq
  refine wpAnyH_take (i := 11) (oi := ⟨some 35, _, _, _, _, _⟩) (v := ?_) rfl (by kernel_rfl) (by kernel_rfl) (by kernel_rfl) (fun _ _ _ h => h) (Or.inl ⟨by rfl, ?_⟩) (by assumption) ?_
  rotate_left
  · intro w hSw; (try dsimp only at hSw); go_simp; try with_reducible rfl
  simp only [Act.put, List.setIfInBounds_toArray, List.set_cons_zero, List.set_cons_succ]
  refine wpAnyH_ready (rs := [13]) (by kernel_rfl) (by simp) ?_
  refine AllReadyH.cons (o := ⟨some 37, _, _, _, _, _⟩) rfl (fun Kq hKq => ?_) AllReadyH.nil
  go_simp
  go_at_call 15
  refine (pick_any _ _ _ a l1 c1' _ (24 : Int) H.out (by omega) (by omega)).mono ?_
  rintro e W6 ⟨y2, y20, y21, rfl, hr, hg, hs⟩
  replace H := Lib.hid hr
  replace G := Lib.hid (grown_new G.out (by omega) hg)
  replace R := Lib.hid (R.out.kept hg (by intro e; have e := Option.some.inj e; omega))
  replace I1 := Lib.hid (I1.out.kept hg (by omega))
  replace I2 := Lib.hid (I2.out.kept hg (by omega))
  replace K := Lib.hid (K.out.kept hg (by intro e; have e := Option.some.inj e; omega))
  replace OW := Lib.hid (OW.out.kept hg (fun g e => by have e := Option.some.inj e; omega))
  clear hg
  clear hr hs
  refine hKq.out _ _ (⟨K.out.cell 0, K.out.cell 1, K.out.cell 2, K.out.cell 3⟩) (fun hHeld => ?_)
  clear hKq Kq
  refine wpAnyH_take (i := 14) (oi := ⟨some 38, _, _, _, _, _⟩) (v := ?_) rfl (by kernel_rfl) (by kernel_rfl) (by kernel_rfl) (fun _ _ _ h => h) (Or.inl ⟨by rfl, ?_⟩) (by assumption) ?_
  rotate_left
  · intro w hSw; (try dsimp only at hSw); go_simp; try with_reducible rfl
  simp only [Act.put, List.setIfInBounds_toArray, List.set_cons_zero, List.set_cons_succ]
  refine wpAnyH_take (i := 15) (oi := ⟨some 39, _, _, _, _, _⟩) (v := ?_) rfl (by kernel_rfl) (by kernel_rfl) (by kernel_rfl) (fun _ _ _ h => h) (Or.inl ⟨by rfl, ?_⟩) (by assumption) ?_
  rotate_left
  · intro w hSw; (try dsimp only at hSw); go_simp; try with_reducible rfl
  simp only [Act.put, List.setIfInBounds_toArray, List.set_cons_zero, List.set_cons_succ]
  refine wpAnyH_take (i := 16) (oi := ⟨some 40, _, _, _, _, _⟩) (v := ?_) rfl (by kernel_rfl) (by kernel_rfl) (by kernel_rfl) (fun _ _ _ h => h) (Or.inl ⟨by rfl, ?_⟩) (by assumption) ?_
  rotate_left
  · intro w hSw; (try dsimp only at hSw); go_simp; try with_reducible rfl
  simp only [Act.put, List.setIfInBounds_toArray, List.set_cons_zero, List.set_cons_succ]
  refine wpAnyH_ready (rs := [17]) (by kernel_rfl) (by simp) ?_
  refine AllReadyH.cons (o := ⟨none, _, _, _, _, _⟩) rfl (fun Kq hKq => ?_) AllReadyH.nil
  rw [if_pos (by rfl)]
  refine wp_store_blk 25 (.tmp 2) (.tmp 24) _ _ _ 25 R.out rfl rfl rfl rfl (by kernel_rfl) (by simp [Value.oneCell']) rfl ?_
  intro V2 hg hT
  replace R := Lib.hid hT
  replace G := Lib.hid (grown_new G.out (by omega) hg)
  replace I1 := Lib.hid (I1.out.kept hg (by omega))
  replace I2 := Lib.hid (I2.out.kept hg (by omega))
  replace K := Lib.hid (K.out.kept hg (by intro e; have e := Option.some.inj e; omega))
  replace OW := Lib.hid (OW.out.kept hg (fun g e => by have e := Option.some.inj e; omega))
  replace H := Lib.hid (H.out.grownN hg (by omega) (by omega))
  clear hg
  clear hT
  refine hKq.out _ _ (⟨K.out.cell 0, K.out.cell 1, K.out.cell 2, K.out.cell 3⟩) (fun hHeld => ?_)
  clear hKq Kq
  refine wpAnyH_take (i := 18) (oi := ⟨some 3, _, _, _, _, _⟩) (v := ?_) rfl (by kernel_rfl) (by kernel_rfl) (by kernel_rfl) (fun _ _ _ h => h) (Or.inl ⟨by rfl, ?_⟩) (by assumption) ?_
  rotate_left
  · intro w hSw; (try dsimp only at hSw); go_simp; try with_reducible rfl
  simp only [Act.put, List.setIfInBounds_toArray, List.set_cons_zero, List.set_cons_succ]
  refine wpAnyH_take (i := 19) (oi := ⟨some 4, _, _, _, _, _⟩) (v := ?_) rfl (by kernel_rfl) (by kernel_rfl) (by kernel_rfl) (fun _ _ _ h => h) (Or.inl ⟨by rfl, ?_⟩) (by assumption) ?_
  rotate_left
  · intro w hSw; (try dsimp only at hSw); go_simp; try with_reducible rfl
  simp only [Act.put, List.setIfInBounds_toArray, List.set_cons_zero, List.set_cons_succ]
  refine wpAnyH_take (i := 20) (oi := ⟨some 5, _, _, _, _, _⟩) (v := ?_) rfl (by kernel_rfl) (by kernel_rfl) (by kernel_rfl) (fun _ _ _ h => h) (Or.inl ⟨by rfl, ?_⟩) (by assumption) ?_
  rotate_left
  · intro w hSw; (try dsimp only at hSw); go_simp; try with_reducible rfl
  simp only [Act.put, List.setIfInBounds_toArray, List.set_cons_zero, List.set_cons_succ]
  refine wpAnyH_take (i := 21) (oi := ⟨some 6, _, _, _, _, _⟩) (v := ?_) rfl (by kernel_rfl) (by kernel_rfl) (by kernel_rfl) (fun _ _ _ h => h) (Or.inl ⟨by rfl, ?_⟩) (by assumption) ?_
  rotate_left
  · intro w hSw; (try dsimp only at hSw); go_simp; try with_reducible rfl
  simp only [Act.put, List.setIfInBounds_toArray, List.set_cons_zero, List.set_cons_succ]
  refine wpAnyH_done (by kernel_rfl) ?_ _
  go_wp2
  (try simp only [Exit.inBlock, Exit.then])
  refine bodyPost_ret (ret_k5 rfl _ rfl R.out) rfl ?_
  obtain ⟨aw, cw, rfl, hdi⟩ := OW.out.din
  exact ⟨need, many, ag, ng, cg, zg, ac, nc, cc, zc, aw, L.length, cw, dAt L, n, m, _, rfl, by omega, by omega, hL6, fun j hj => OW.out.few _ (dAt_mem hj), I1.out.i, I2.out.i, hdi, G.out⟩
end Draw
end Go.Proofs.YtonhdkideianiaaGreatDoor
