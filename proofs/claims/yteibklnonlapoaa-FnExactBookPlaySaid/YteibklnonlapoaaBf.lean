/-
  How the model draws books, and letters; one of some texts, and a text many times.
-/
import Derived.Test.YteibklnonlapoaaBe
import Derived.Test.YteibklnonlapoaaGy
namespace Go.Proofs.Yteibklnonlapoaa
namespace Draw
open Go.RowKit Alg Mem Con Bk
set_option linter.unusedVariables false

/-- Texts in memory, of which each is such. -/
def StrIn (w : World) (b n : Nat) (Q : ByteArray → Prop) : Prop := b < w.heap.size ∧ ∀ j, j < n → ∃ s, Q s ∧ w.cell? ⟨b, j, none⟩ = some (.string s)
theorem StrIn.kept {w w' : World} {b n B : Nat} {Q : ByteArray → Prop} (h : StrIn w b n Q) (hg : w.grownBy w' (some B)) (hb : b ≠ B) : StrIn w' b n Q :=
  ⟨Nat.lt_of_lt_of_le h.1 hg.size, fun j hj => by
    obtain ⟨s, hs, hc⟩ := h.2 j hj
    exact ⟨s, hs, by rw [World.cell?_of_block (w := w) (hg.block _ h.1 (by intro e; exact hb (Option.some.inj e)))]; exact hc⟩⟩
set_option maxHeartbeats 1000000 in
theorem of_any (w : World) (base B : Nat) (a : Option Addr) (len cap p : Nat) (h : Rd w base B a len cap p) (hp : p ≤ 100000000) (b n : Nat) (Q : ByteArray → Prop) (hS : StrIn w b n Q) (hb : b ≠ B) (hn : 1 ≤ n) (hn2 : n ≤ 1000) :
    Calls Try.prog 68 #[.pointer (some ⟨B, 0, none⟩), .slice (some ⟨b, 0, none⟩) n n] w fun e w' => ∃ s, Q s ∧ e = .returned (.string s) ∧ w.grownBy w' (some B) ∧ Rd w' base B a len cap (p + 1) := by
  have H := Lib.hid hS; clear hS
  go_enter Try.func68, Try.ntmps68
  go_wp2_with fail
  refine (pick_any _ base B a len cap p n h (by omega) (by omega)).mono ?_
  rintro e w1 ⟨x, x0, x1, rfl, hr, hg, hs⟩
  have HR := Lib.hid hr; have HG := Lib.hid hg; have HS := Lib.hid hs; clear hr hg hs h
  obtain ⟨q, rfl⟩ := Int.eq_ofNat_of_zero_le x0
  obtain ⟨s, hQ, hc⟩ := (H.out.kept HG.out hb).2 q (by omega)
  have hq : q < n := by omega
  go_wp2
  go_ret
  exact ⟨s, hQ, rfl, HG.out, HR.out⟩
set_option maxHeartbeats 1000000 in
theorem many_any (w : World) (s : ByteArray) (n : Nat) (hn : n ≤ 1000) (hs : s.size * n ≤ 1000) (hs2 : s.size ≤ 1000) :
    Calls Try.prog 69 #[.string s, .int .i64 n] w fun e w' => ∃ r : ByteArray, r.size ≤ s.size * n ∧ e = .returned (.string r) ∧ w = w' := by
  go_enter Try.func69, Try.ntmps69
  go_wp2
  go_loopw [0, 1, 5] (fun u i v wr => ∃ (k : Nat) (t r : ByteArray), u = .string t ∧ i = .int .i64 k ∧ v = .string r ∧ k ≤ n ∧ r.size + t.size * k = s.size * n ∧ (k = 0 → t.size ≤ 10000) ∧ wr = w) (fun _ i _ _ => (intOf i).toNat)
  case atStart => exact ⟨n, s, ⟨#[]⟩, rfl, rfl, rfl, Nat.le_refl _, by show 0 + s.size * n = s.size * n; omega, by omega, rfl⟩
  case round =>
    obtain ⟨k, t, r, rfl, rfl, rfl, hk, hsz, ht, rfl⟩ := hrel
    by_cases h0 : k = 0
    · subst h0
      go_wp2
      go_ret
      exact ⟨r, by omega, rfl, rfl⟩
    · have hk0 : (0 : Int) < (k : Int) := by omega
      have h1 : t.size ≤ t.size * k := Nat.le_mul_of_pos_right _ (by omega)
      have hb1 : t.size ≤ 1000 := by omega
      have hb2 : r.size ≤ 1000 := by omega
      have hq1 : ¬ 9223372036854775807 < r.size + t.size := by omega
      have hq2 : ¬ 9223372036854775807 < t.size + t.size := by omega
      have hd : (k : Int).tdiv 2 = ((k / 2 : Nat) : Int) := by rw [Int.tdiv_eq_ediv_of_nonneg (by omega)]; omega
      have HB := Lib.hid (And.intro hb1 hb2)
      obtain ⟨m, hm⟩ : ∃ m, k / 2 = m := ⟨_, rfl⟩
      rw [hm] at hd
      have hw : wrap64 (m : Int) = (m : Int) := by unfold wrap64; omega
      have HZ := Lib.hid hsz
      have HM := Lib.hid hm
      clear hsz ht h1 hb1 hb2 hm
      by_cases h2 : k % 2 = 1
      · have hmod : (((k : Int)).tmod 2 == 1) = true := by rw [Int.tmod_eq_emod_of_nonneg (by omega)]; simp; omega
        have hmo2 : (((k : Int)) % 2 == 1) = true := by simp; omega
        have HO := Lib.hid h2; clear h2
        go_wp2
        go_roundw
        case rel => exact ⟨m, t ++ t, r ++ t, rfl, by rw [hw], rfl, by have := HM.out; omega, by
          have e0 := HM.out; have e2 := HO.out; have e3 := HZ.out
          obtain rfl : k = 2 * m + 1 := by omega
          rw [ByteArray.size_append, ByteArray.size_append, ← e3]
          grind, by rw [ByteArray.size_append]; have := HB.out; omega, trivial⟩
        case measure => rw [hw]; simp [intOf]; have := HM.out; omega
      · have hmod : (((k : Int)).tmod 2 == 1) = false := by rw [Int.tmod_eq_emod_of_nonneg (by omega)]; simp; omega
        have hmo2 : (((k : Int)) % 2 == 1) = false := by simp; omega
        have HO := Lib.hid h2; clear h2
        go_wp2
        go_roundw
        case rel => exact ⟨m, t ++ t, r, rfl, by rw [hw], rfl, by have := HM.out; omega, by
          have e0 := HM.out; have e2 := HO.out; have e3 := HZ.out
          obtain rfl : k = 2 * m := by omega
          rw [ByteArray.size_append, ← e3]
          grind, by rw [ByteArray.size_append]; have := HB.out; omega, trivial⟩
        case measure => rw [hw]; simp [intOf]; have := HM.out; omega
theorem wp_store_int {P : Program} {op : Oper} {a : Act} {w : World} {K : Act → World → Prop} {Q : Exit → Act → World → Prop} (ty : TypeId) (x y : Operand) (b o : Nat) (k : IntKind) (n : Int) (old : Value) (hc : w.cell? ⟨b, o, none⟩ = some old) (hf : w.frozen? ⟨b, o, none⟩ = false) (hi : (P.info? ty).map (·.size) = some 1) (ho : op.op = .store ty x y)
    (hx : a.eval x = .pointer (some ⟨b, o, none⟩)) (hy : a.eval y = .int k n) (h : K (a.put op.dst undef) (w.setCell ⟨b, o, none⟩ (.int k n))) : op.wp P a w K Q := by
  unfold Oper.wp execOp
  have e : (storeVar ty ⟨b, o, none⟩ (.int k n)).run P w = .ok () (w.setCell ⟨b, o, none⟩ (.int k n)) := by
    cases hq : P.info? ty with
    | none => simp [hq] at hi
    | some i =>
      have hs : i.size = 1 := by simpa [hq] using hi
      have h1 : (store ⟨b, o, none⟩ (.int k n)).run P w = .ok () (w.setCell ⟨b, o, none⟩ (.int k n)) := by
        rw [run_store P w ⟨b, o, none⟩ (.int k n) _ (by rfl)]
        simp [hc, hf]
      simp [storeVar, Value.cells, storeCells, Addr.add, sizeOf, typeInfo, hq, hs, h1, Result.andThen]
  simp only [ho, hx, hy, Instr.storeAt, Instr.sureAddr, Sem.run_bind, Sem.run_pure, Result.andThen_ok, e]
  exact h
/-! Books. -/
def GotBk (w : World) (e : Ending) (w' : World) : Prop := ∃ n s : Int, e = .returned (.agg #[.int .i64 n, .int .i64 s]) ∧ w.grownBy w' none
set_option maxRecDepth 100000 in
set_option maxHeartbeats 4000000 in
theorem book_any (w : World) (base B : Nat) (a : Option Addr) (len cap p : Nat) (h : Rd w base B a len cap p) (hp : p ≤ 100000000) :
    Calls Try.prog 58 #[.pointer (some ⟨B, 0, none⟩)] w fun e w' => ∃ n s : Int, e = .returned (.agg #[.int .i64 n, .int .i64 s]) ∧ w.grownBy w' (some B) := by
  have G := Lib.hid (Draw.grown_alloc w (.cells #[.int .i64 0, .int .i64 0] 24) (some B))
  have R := Lib.hid (Blk.new w #[.int .i64 0, .int .i64 0] 24)
  have hlt := h.lt
  have hbase := h.from_
  have H := Lib.hid (h.gN (Draw.grown_alloc w (.cells #[.int .i64 0, .int .i64 0] 24) none))
  clear h
  go_enter Try.func58, Try.ntmps58
  go_wp2_with fail
  refine (pick_any _ base B a len cap _ 58 H.out (by omega) (by omega)).mono ?_
  rintro e w1 ⟨x, x0, x1, rfl, hr, hg, hs⟩
  clear hs
  replace H := Lib.hid hr
  replace G := Lib.hid (grown_any G.out hg (by omega))
  replace R := Lib.hid (R.out.kept hg (by intro e; have e := Option.some.inj e; omega))
  clear hg
  clear hr
  have htw : w.heap.size + 1 ≤ w1.heap.size := by have := G.out.size; have := R.out.lt; omega
  go_wp2_with (refine stop_store rfl ?_)
  refine ⟨trivial, ?_⟩
  refine wpList_store_blk rfl 24 (.tmp 3) (.tmp 6) _ _ _ 24 (Blk.new w1 #[.int .i64 0, .int .i64 0] 24) rfl rfl rfl rfl (by kernel_rfl) (by simp [Value.oneCell']) rfl ?_
  intro w2 hgV hT
  have hg : (w1).grownBy w2 none := grown_new (Draw.grown_alloc w1 (.cells #[.int .i64 0, .int .i64 0] 24) none) (Nat.le_refl _) hgV
  have hsz := (Draw.grown_alloc w1 (.cells #[.int .i64 0, .int .i64 0] 24) none).size
  have T := Lib.hid hT
  clear hgV hT
  replace G := Lib.hid (gtr' G.out (Draw.grown_some hg))
  replace R := Lib.hid (R.out.keptN hg)
  replace H := Lib.hid (H.out.gN hg)
  clear hg
  have htb : w1.heap.size < w2.heap.size := T.out.lt
  generalize w1.heap.size = tb at *
  have t0 : w2.cell? ⟨tb, 0, none⟩ = some (.int .i64 x) := T.out.cell 0
  go_wp2_with fail
  refine wp_region_held_drew (S := (fun w' => w'.cell? ⟨tb, 0, none⟩ = some (.int .i64 x))) (by kernel_rfl) (t0) (fun hHeld => ?_)
  have hg := Draw.gdrew w2
  clear t0
  replace G := Lib.hid (gtr' G.out (Draw.grown_some hg))
  replace R := Lib.hid (R.out.keptN hg)
  replace H := Lib.hid (H.out.gN hg)
  replace T := Lib.hid (T.out.keptN hg)
  clear hg
  generalize w2.drew = w3 at *
  refine wpAnyH_take (i := 0) (oi := ⟨some 7, _, _, _, _, _⟩) (v := ?_) rfl (by kernel_rfl) (by kernel_rfl) (by kernel_rfl) (fun _ _ _ h => h) (Or.inl ⟨by rfl, ?_⟩) (by assumption) ?_
  rotate_left
  · intro w hSw; (try dsimp only at hSw); go_simp; try with_reducible rfl
  simp only [Act.put, List.setIfInBounds_toArray, List.set_cons_zero, List.set_cons_succ]
  refine wpAnyH_take (i := 1) (oi := ⟨some 8, _, _, _, _, _⟩) (v := ?_) rfl (by kernel_rfl) (by kernel_rfl) (by kernel_rfl) (fun _ _ _ h => h) (Or.inl ⟨by rfl, ?_⟩) (by assumption) ?_
  rotate_left
  · intro w hSw; (try dsimp only at hSw); go_simp; try with_reducible rfl
  simp only [Act.put, List.setIfInBounds_toArray, List.set_cons_zero, List.set_cons_succ]
  refine wpAnyH_take (i := 2) (oi := ⟨some 9, _, _, _, _, _⟩) (v := ?_) rfl (by kernel_rfl) (by kernel_rfl) (by kernel_rfl) (fun _ _ _ h => h) (Or.inl ⟨by rfl, ?_⟩) (by assumption) ?_
  rotate_left
  · intro w hSw; (try dsimp only at hSw); go_simp; try with_reducible rfl
  simp only [Act.put, List.setIfInBounds_toArray, List.set_cons_zero, List.set_cons_succ]
  refine wpAnyH_ready (rs := [3]) (by kernel_rfl) (by simp) ?_
  refine AllReadyH.cons (o := ⟨some 10, _, _, _, _, _⟩) rfl (fun Kq hKq => ?_) AllReadyH.nil
  go_simp
  go_at_call 67
  refine (pick_any _ base B a len cap _ (5 : Int) H.out (by omega) (by omega)).mono ?_
  rintro e w4 ⟨y, y0, y1, rfl, hr, hg, hs⟩
  clear hs
  replace H := Lib.hid hr
  replace G := Lib.hid (grown_any G.out hg (by omega))
  replace R := Lib.hid (R.out.kept hg (by intro e; have e := Option.some.inj e; omega))
  replace T := Lib.hid (T.out.kept hg (by intro e; have e := Option.some.inj e; omega))
  clear hg
  clear hr
  have hwr : IntKind.i64.wrap (x + y) = x + y := IntWalk.i64_in _ (by omega)
  refine hKq.out _ _ ((T.out.cell 0)) (fun hHeld => ?_)
  clear hKq Kq
  refine wpAnyH_take (i := 4) (oi := ⟨some 11, _, _, _, _, _⟩) (v := ?_) rfl (by kernel_rfl) (by kernel_rfl) (by kernel_rfl) (fun _ _ _ h => h) (Or.inl ⟨by rfl, ?_⟩) (by assumption) ?_
  rotate_left
  · intro w hSw; (try dsimp only at hSw); go_simp; try with_reducible rfl
  simp only [Act.put, List.setIfInBounds_toArray, List.set_cons_zero, List.set_cons_succ]
  refine wpAnyH_take (i := 5) (oi := ⟨some 12, _, _, _, _, _⟩) (v := ?_) rfl (by kernel_rfl) (by kernel_rfl) (by kernel_rfl) (fun _ _ _ h => h) (Or.inl ⟨by rfl, ?_⟩) (by assumption) ?_
  rotate_left
  · intro w hSw; (try dsimp only at hSw); go_simp; try with_reducible rfl
  simp only [Act.put, List.setIfInBounds_toArray, List.set_cons_zero, List.set_cons_succ]
  refine wpAnyH_ready (rs := [6]) (by kernel_rfl) (by simp) ?_
  refine AllReadyH.cons (o := ⟨none, _, _, _, _, _⟩) rfl (fun Kq hKq => ?_) AllReadyH.nil
  skip
  refine wp_store_int 3 (.tmp 12) (.tmp 11) tb 1 .i64 (x + y) _ (T.out.cell 1) (T.out.free 1) (by kernel_rfl) rfl rfl rfl ?_
  have hT : Blk (w4.setCell ⟨tb, 1, none⟩ (.int .i64 (x + y))) tb #[.int .i64 x, .int .i64 (x + y)] 24 := T.out.set 1 (.int .i64 (x + y))
  have hg := Mem.grown_set w4 tb 1 (.int .i64 (x + y))
  replace T := Lib.hid hT
  replace G := Lib.hid (grown_any G.out hg (by omega))
  replace R := Lib.hid (R.out.kept hg (by intro e; have e := Option.some.inj e; omega))
  replace H := Lib.hid (H.out.grownN hg (by omega) (by omega))
  clear hg
  clear hT
  generalize w4.setCell ⟨tb, 1, none⟩ (.int .i64 (x + y)) = w5 at *
  refine hKq.out _ _ ((T.out.cell 0)) (fun hHeld => ?_)
  clear hKq Kq
  refine wpAnyH_done (by kernel_rfl) ?_ _
  have t1 : w5.cell? ⟨tb, 1, none⟩ = some (.int .i64 (x + y)) := T.out.cell 1
  have f1 := T.out.free 1
  by_cases h60 : 60 < x + y
  · have hT : Blk (w5.setCell ⟨tb, 1, none⟩ (.int .i64 60)) tb #[.int .i64 x, .int .i64 60] 24 := T.out.set 1 (.int .i64 60)
    have hg := Mem.grown_set w5 tb 1 (.int .i64 60)
    go_wp2_with fail
    replace T := Lib.hid hT
    replace G := Lib.hid (grown_any G.out hg (by omega))
    replace R := Lib.hid (R.out.kept hg (by intro e; have e := Option.some.inj e; omega))
    replace H := Lib.hid (H.out.grownN hg (by omega) (by omega))
    clear hg
    clear hT t1 f1
    generalize w5.setCell ⟨tb, 1, none⟩ (.int .i64 60) = w6 at *
    go_wp2_with fail
    refine (pick_any _ base B a len cap _ 24 H.out (by omega) (by omega)).mono ?_
    rintro e v1 ⟨z, z0, z1, rfl, hr, hg, hs⟩
    clear hs
    replace H := Lib.hid hr
    replace G := Lib.hid (grown_any G.out hg (by omega))
    replace R := Lib.hid (R.out.kept hg (by intro e; have e := Option.some.inj e; omega))
    replace T := Lib.hid (T.out.kept hg (by intro e; have e := Option.some.inj e; omega))
    clear hg
    clear hr
    rcases (by omega : z = 0 ∨ z = 1 ∨ 2 ≤ z) with rfl | rfl | hz
    · skip
      go_wp2_with fail
      refine (pick_any _ base B a len cap _ 8 H.out (by omega) (by omega)).mono ?_
      rintro e v2 ⟨u, u0, u1, rfl, hr, hg, hs⟩
      clear hs
      replace H := Lib.hid hr
      replace G := Lib.hid (grown_any G.out hg (by omega))
      replace R := Lib.hid (R.out.kept hg (by intro e; have e := Option.some.inj e; omega))
      replace T := Lib.hid (T.out.kept hg (by intro e; have e := Option.some.inj e; omega))
      clear hg
      clear hr
      go_wp2_with (first
        | (refine wpList_store_blk rfl 24 (.tmp 2) (.tmp 23) _ _ _ 24 R.out rfl rfl rfl rfl (by kernel_rfl) (by simp [Value.oneCell']) rfl ?_; intro V hgV hRV; have HGV := Lib.hid hgV; have HRV := Lib.hid hRV; have HHV := Lib.hid (H.out.grownN hgV (by omega) (by omega)); clear hgV hRV))
      try simp only [Exit.inBlock, Exit.then]
      refine bodyPost_ret (ret_bk rfl _ rfl HRV.out) rfl ?_
      exact ⟨_, _, rfl, grown_anyB G.out HGV.out (.inr (by omega))⟩
    · skip
      go_wp2_with fail
      refine (pick_any _ base B a len cap _ 61 H.out (by omega) (by omega)).mono ?_
      rintro e v2 ⟨u, u0, u1, rfl, hr, hg, hs⟩
      clear hs
      replace H := Lib.hid hr
      replace G := Lib.hid (grown_any G.out hg (by omega))
      replace R := Lib.hid (R.out.kept hg (by intro e; have e := Option.some.inj e; omega))
      replace T := Lib.hid (T.out.kept hg (by intro e; have e := Option.some.inj e; omega))
      clear hg
      clear hr
      go_wp2_with fail
      refine (pick_any _ base B a len cap _ 2 H.out (by omega) (by omega)).mono ?_
      rintro e v3 ⟨q, q0, q1, rfl, hr, hg, hs⟩
      clear hs
      replace H := Lib.hid hr
      replace G := Lib.hid (grown_any G.out hg (by omega))
      replace R := Lib.hid (R.out.kept hg (by intro e; have e := Option.some.inj e; omega))
      replace T := Lib.hid (T.out.kept hg (by intro e; have e := Option.some.inj e; omega))
      clear hg
      clear hr
      go_wp2_with (first
        | (refine wpList_store_blk rfl 24 (.tmp 2) (.tmp 31) _ _ _ 24 R.out rfl rfl rfl rfl (by kernel_rfl) (by simp [Value.oneCell']) rfl ?_; intro V hgV hRV; have HGV := Lib.hid hgV; have HRV := Lib.hid hRV; have HHV := Lib.hid (H.out.grownN hgV (by omega) (by omega)); clear hgV hRV))
      try simp only [Exit.inBlock, Exit.then]
      refine bodyPost_ret (ret_bk rfl _ rfl HRV.out) rfl ?_
      exact ⟨_, _, rfl, grown_anyB G.out HGV.out (.inr (by omega))⟩
    · have e0 : (z == 0) = false := by simp; omega
      have e1 : (z == 1) = false := by simp; omega
      have t0 : World.cell? _ ⟨tb, 0, none⟩ = some (.int .i64 x) := T.out.cell 0
      have t1 : World.cell? _ ⟨tb, 1, none⟩ = some (.int .i64 60) := T.out.cell 1
      go_wp2_with (first
        | (refine wpList_store_blk rfl 24 (.tmp 2) (.tmp 32) _ _ _ 24 R.out rfl rfl rfl rfl (by kernel_rfl) (by simp [Value.oneCell']) rfl ?_; intro V hgV hRV; have HGV := Lib.hid hgV; have HRV := Lib.hid hRV; have HHV := Lib.hid (H.out.grownN hgV (by omega) (by omega)); clear hgV hRV))
      try simp only [Exit.inBlock, Exit.then]
      refine bodyPost_ret (ret_bk rfl _ rfl HRV.out) rfl ?_
      exact ⟨_, _, rfl, grown_anyB G.out HGV.out (.inr (by omega))⟩
  · go_wp2_with fail
    clear t1 f1
    go_wp2_with fail
    refine (pick_any _ base B a len cap _ 24 H.out (by omega) (by omega)).mono ?_
    rintro e v1 ⟨z, z0, z1, rfl, hr, hg, hs⟩
    clear hs
    replace H := Lib.hid hr
    replace G := Lib.hid (grown_any G.out hg (by omega))
    replace R := Lib.hid (R.out.kept hg (by intro e; have e := Option.some.inj e; omega))
    replace T := Lib.hid (T.out.kept hg (by intro e; have e := Option.some.inj e; omega))
    clear hg
    clear hr
    rcases (by omega : z = 0 ∨ z = 1 ∨ 2 ≤ z) with rfl | rfl | hz
    · skip
      go_wp2_with fail
      refine (pick_any _ base B a len cap _ 8 H.out (by omega) (by omega)).mono ?_
      rintro e v2 ⟨u, u0, u1, rfl, hr, hg, hs⟩
      clear hs
      replace H := Lib.hid hr
      replace G := Lib.hid (grown_any G.out hg (by omega))
      replace R := Lib.hid (R.out.kept hg (by intro e; have e := Option.some.inj e; omega))
      replace T := Lib.hid (T.out.kept hg (by intro e; have e := Option.some.inj e; omega))
      clear hg
      clear hr
      go_wp2_with (first
        | (refine wpList_store_blk rfl 24 (.tmp 2) (.tmp 23) _ _ _ 24 R.out rfl rfl rfl rfl (by kernel_rfl) (by simp [Value.oneCell']) rfl ?_; intro V hgV hRV; have HGV := Lib.hid hgV; have HRV := Lib.hid hRV; have HHV := Lib.hid (H.out.grownN hgV (by omega) (by omega)); clear hgV hRV))
      try simp only [Exit.inBlock, Exit.then]
      refine bodyPost_ret (ret_bk rfl _ rfl HRV.out) rfl ?_
      exact ⟨_, _, rfl, grown_anyB G.out HGV.out (.inr (by omega))⟩
    · skip
      go_wp2_with fail
      refine (pick_any _ base B a len cap _ 61 H.out (by omega) (by omega)).mono ?_
      rintro e v2 ⟨u, u0, u1, rfl, hr, hg, hs⟩
      clear hs
      replace H := Lib.hid hr
      replace G := Lib.hid (grown_any G.out hg (by omega))
      replace R := Lib.hid (R.out.kept hg (by intro e; have e := Option.some.inj e; omega))
      replace T := Lib.hid (T.out.kept hg (by intro e; have e := Option.some.inj e; omega))
      clear hg
      clear hr
      go_wp2_with fail
      refine (pick_any _ base B a len cap _ 2 H.out (by omega) (by omega)).mono ?_
      rintro e v3 ⟨q, q0, q1, rfl, hr, hg, hs⟩
      clear hs
      replace H := Lib.hid hr
      replace G := Lib.hid (grown_any G.out hg (by omega))
      replace R := Lib.hid (R.out.kept hg (by intro e; have e := Option.some.inj e; omega))
      replace T := Lib.hid (T.out.kept hg (by intro e; have e := Option.some.inj e; omega))
      clear hg
      clear hr
      go_wp2_with (first
        | (refine wpList_store_blk rfl 24 (.tmp 2) (.tmp 31) _ _ _ 24 R.out rfl rfl rfl rfl (by kernel_rfl) (by simp [Value.oneCell']) rfl ?_; intro V hgV hRV; have HGV := Lib.hid hgV; have HRV := Lib.hid hRV; have HHV := Lib.hid (H.out.grownN hgV (by omega) (by omega)); clear hgV hRV))
      try simp only [Exit.inBlock, Exit.then]
      refine bodyPost_ret (ret_bk rfl _ rfl HRV.out) rfl ?_
      exact ⟨_, _, rfl, grown_anyB G.out HGV.out (.inr (by omega))⟩
    · have e0 : (z == 0) = false := by simp; omega
      have e1 : (z == 1) = false := by simp; omega
      have t0 : World.cell? _ ⟨tb, 0, none⟩ = some (.int .i64 x) := T.out.cell 0
      have t1 : World.cell? _ ⟨tb, 1, none⟩ = some (.int .i64 (x + y)) := T.out.cell 1
      go_wp2_with (first
        | (refine wpList_store_blk rfl 24 (.tmp 2) (.tmp 32) _ _ _ 24 R.out rfl rfl rfl rfl (by kernel_rfl) (by simp [Value.oneCell']) rfl ?_; intro V hgV hRV; have HGV := Lib.hid hgV; have HRV := Lib.hid hRV; have HHV := Lib.hid (H.out.grownN hgV (by omega) (by omega)); clear hgV hRV))
      try simp only [Exit.inBlock, Exit.then]
      refine bodyPost_ret (ret_bk rfl _ rfl HRV.out) rfl ?_
      exact ⟨_, _, rfl, grown_anyB G.out HGV.out (.inr (by omega))⟩
set_option maxHeartbeats 1000000 in
theorem drawBkT (w : World) (a : Option Addr) (len cap : Nat) (hB : Bytes w w.heap.size a len) (hc : len ≤ cap) (hm : cap ≤ maxLen) :
    Calls Try.prog 20 #[.slice a len cap] w (GotBk w) := by
  have hs0 : (w.alloc (.cells #[.int .i64 0, .int .i64 0] 24)).heap.size = w.heap.size + 1 := by show (w.heap.push _).size = _; simp
  have G := Lib.hid (Draw.grown_alloc w (.cells #[.int .i64 0, .int .i64 0] 24) none)
  have HB := Lib.hid (hB.kept (w' := w.alloc (.cells #[.int .i64 0, .int .i64 0] 24)) (fun k hk => Below.heap_alloc _ _ _ hk))
  have R := Lib.hid (Blk.new w #[.int .i64 0, .int .i64 0] 24)
  clear hB
  go_enter Try.func20, Try.ntmps20
  go_wp2_with fail
  refine (open_any _ w.heap.size a len cap HB.out (by omega) hc hm).mono ?_
  rintro e w1 ⟨rfl, hg, hs1, l1, c1', hr1⟩
  rw [hs0] at hr1 hs1
  have H := Lib.hid hr1
  replace G := Lib.hid (gtr G.out hg)
  replace R := Lib.hid (R.out.keptN hg)
  clear hg
  clear hr1 hs1 HB hs0
  go_wp2_with fail
  refine (book_any _ _ _ a l1 c1' 0 H.out (by omega)).mono ?_
  rintro e w2 ⟨n, s, rfl, hg⟩
  clear H
  replace G := Lib.hid (grown_new G.out (by omega) hg)
  replace R := Lib.hid (R.out.kept hg (by intro e; have e := Option.some.inj e; omega))
  clear hg
  go_wp2_with (first
    | (refine wpList_store_blk rfl 24 (.tmp 2) (.tmp 5) _ _ _ 24 R.out rfl rfl rfl rfl (by kernel_rfl) (by simp [Value.oneCell']) rfl ?_; intro V hgV hRV; have HGV := Lib.hid hgV; have HRV := Lib.hid hRV; clear hgV hRV))
  try simp only [Exit.inBlock, Exit.then]
  refine bodyPost_ret (ret_bk rfl _ rfl HRV.out) rfl ?_
  exact ⟨_, _, rfl, grown_new G.out (by omega) HGV.out⟩
set_option maxHeartbeats 1000000 in
theorem drawBkK (w : World) (a : Option Addr) (len cap : Nat) (hB : Bytes w w.heap.size a len) (hc : len ≤ cap) (hm : cap ≤ maxLen) :
    Calls Try.prog 25 #[.slice a len cap] w (GotBk w) := by
  have hs0 : (w.alloc (.cells #[.int .i64 0, .int .i64 0] 24)).heap.size = w.heap.size + 1 := by show (w.heap.push _).size = _; simp
  have G := Lib.hid (Draw.grown_alloc w (.cells #[.int .i64 0, .int .i64 0] 24) none)
  have HB := Lib.hid (hB.kept (w' := w.alloc (.cells #[.int .i64 0, .int .i64 0] 24)) (fun k hk => Below.heap_alloc _ _ _ hk))
  have R := Lib.hid (Blk.new w #[.int .i64 0, .int .i64 0] 24)
  clear hB
  go_enter Try.func25, Try.ntmps25
  go_wp2_with fail
  refine (open_any _ w.heap.size a len cap HB.out (by omega) hc hm).mono ?_
  rintro e w1 ⟨rfl, hg, hs1, l1, c1', hr1⟩
  rw [hs0] at hr1 hs1
  have H := Lib.hid hr1
  replace G := Lib.hid (gtr G.out hg)
  replace R := Lib.hid (R.out.keptN hg)
  clear hg
  clear hr1 hs1 HB hs0
  go_wp2_with fail
  refine (book_any _ _ _ a l1 c1' 0 H.out (by omega)).mono ?_
  rintro e w2 ⟨n, s, rfl, hg⟩
  clear H
  replace G := Lib.hid (grown_new G.out (by omega) hg)
  replace R := Lib.hid (R.out.kept hg (by intro e; have e := Option.some.inj e; omega))
  clear hg
  go_wp2_with (first
    | (refine wpList_store_blk rfl 24 (.tmp 2) (.tmp 5) _ _ _ 24 R.out rfl rfl rfl rfl (by kernel_rfl) (by simp [Value.oneCell']) rfl ?_; intro V hgV hRV; have HGV := Lib.hid hgV; have HRV := Lib.hid hRV; clear hgV hRV))
  try simp only [Exit.inBlock, Exit.then]
  refine bodyPost_ret (ret_bk rfl _ rfl HRV.out) rfl ?_
  exact ⟨_, _, rfl, grown_new G.out (by omega) HGV.out⟩
set_option maxHeartbeats 1000000 in
theorem drawBkF (w : World) (a : Option Addr) (len cap : Nat) (hB : Bytes w w.heap.size a len) (hc : len ≤ cap) (hm : cap ≤ maxLen) :
    Calls Try.prog 28 #[.slice a len cap] w (GotBk w) := by
  have hs0 : (w.alloc (.cells #[.int .i64 0, .int .i64 0] 24)).heap.size = w.heap.size + 1 := by show (w.heap.push _).size = _; simp
  have G := Lib.hid (Draw.grown_alloc w (.cells #[.int .i64 0, .int .i64 0] 24) none)
  have HB := Lib.hid (hB.kept (w' := w.alloc (.cells #[.int .i64 0, .int .i64 0] 24)) (fun k hk => Below.heap_alloc _ _ _ hk))
  have R := Lib.hid (Blk.new w #[.int .i64 0, .int .i64 0] 24)
  clear hB
  go_enter Try.func28, Try.ntmps28
  go_wp2_with fail
  refine (open_any _ w.heap.size a len cap HB.out (by omega) hc hm).mono ?_
  rintro e w1 ⟨rfl, hg, hs1, l1, c1', hr1⟩
  rw [hs0] at hr1 hs1
  have H := Lib.hid hr1
  replace G := Lib.hid (gtr G.out hg)
  replace R := Lib.hid (R.out.keptN hg)
  clear hg
  clear hr1 hs1 HB hs0
  go_wp2_with fail
  refine (book_any _ _ _ a l1 c1' 0 H.out (by omega)).mono ?_
  rintro e w2 ⟨n, s, rfl, hg⟩
  clear H
  replace G := Lib.hid (grown_new G.out (by omega) hg)
  replace R := Lib.hid (R.out.kept hg (by intro e; have e := Option.some.inj e; omega))
  clear hg
  go_wp2_with (first
    | (refine wpList_store_blk rfl 24 (.tmp 2) (.tmp 5) _ _ _ 24 R.out rfl rfl rfl rfl (by kernel_rfl) (by simp [Value.oneCell']) rfl ?_; intro V hgV hRV; have HGV := Lib.hid hgV; have HRV := Lib.hid hRV; clear hgV hRV))
  try simp only [Exit.inBlock, Exit.then]
  refine bodyPost_ret (ret_bk rfl _ rfl HRV.out) rfl ?_
  exact ⟨_, _, rfl, grown_new G.out (by omega) HGV.out⟩
set_option maxHeartbeats 1000000 in
theorem drawBkO (w : World) (a : Option Addr) (len cap : Nat) (hB : Bytes w w.heap.size a len) (hc : len ≤ cap) (hm : cap ≤ maxLen) :
    Calls Try.prog 35 #[.slice a len cap] w (GotBk w) := by
  have hs0 : (w.alloc (.cells #[.int .i64 0, .int .i64 0] 24)).heap.size = w.heap.size + 1 := by show (w.heap.push _).size = _; simp
  have G := Lib.hid (Draw.grown_alloc w (.cells #[.int .i64 0, .int .i64 0] 24) none)
  have HB := Lib.hid (hB.kept (w' := w.alloc (.cells #[.int .i64 0, .int .i64 0] 24)) (fun k hk => Below.heap_alloc _ _ _ hk))
  have R := Lib.hid (Blk.new w #[.int .i64 0, .int .i64 0] 24)
  clear hB
  go_enter Try.func35, Try.ntmps35
  go_wp2_with fail
  refine (open_any _ w.heap.size a len cap HB.out (by omega) hc hm).mono ?_
  rintro e w1 ⟨rfl, hg, hs1, l1, c1', hr1⟩
  rw [hs0] at hr1 hs1
  have H := Lib.hid hr1
  replace G := Lib.hid (gtr G.out hg)
  replace R := Lib.hid (R.out.keptN hg)
  clear hg
  clear hr1 hs1 HB hs0
  go_wp2_with fail
  refine (pick_any _ _ _ a l1 c1' _ 12 H.out (by omega) (by omega)).mono ?_
  rintro e w2 ⟨x, x0, x1, rfl, hr, hg, hs⟩
  clear hs
  replace H := Lib.hid hr
  replace G := Lib.hid (grown_new G.out (by omega) hg)
  replace R := Lib.hid (R.out.kept hg (by intro e; have e := Option.some.inj e; omega))
  clear hg
  clear hr
  go_wp2_with fail
  refine (pick_any _ _ _ a l1 c1' _ 12 H.out (by omega) (by omega)).mono ?_
  rintro e w3 ⟨y, y0, y1, rfl, hr, hg, hs⟩
  clear hs
  replace H := Lib.hid hr
  replace G := Lib.hid (grown_new G.out (by omega) hg)
  replace R := Lib.hid (R.out.kept hg (by intro e; have e := Option.some.inj e; omega))
  clear hg
  clear hr
  have hsz3 : w.heap.size + 1 < w3.heap.size := H.out.lt
  have hg := Draw.grown_alloc w3 (.cells #[.int .i64 y, .int .i64 60, .int .i64 61] 3) none
  have X := Lib.hid (Blk.new w3 #[.int .i64 y, .int .i64 60, .int .i64 61] 3)
  replace G := Lib.hid (gtr G.out hg)
  replace R := Lib.hid (R.out.keptN hg)
  replace H := Lib.hid (H.out.gN hg)
  clear hg
  go_wp2_with fail
  refine (pick_any _ _ _ a l1 c1' _ 3 H.out (by omega) (by omega)).mono ?_
  rintro e w4 ⟨z, z0, z1, rfl, hr, hg, hs⟩
  clear hs
  replace H := Lib.hid hr
  replace G := Lib.hid (grown_new G.out (by omega) hg)
  replace R := Lib.hid (R.out.kept hg (by intro e; have e := Option.some.inj e; omega))
  replace X := Lib.hid (X.out.kept hg (by intro e; have e := Option.some.inj e; omega))
  clear hg
  clear hr
  have q0 : w4.cell? ⟨w3.heap.size, 0, none⟩ = some (.int .i64 y) := X.out.cell 0
  have q1 : w4.cell? ⟨w3.heap.size, 1, none⟩ = some (.int .i64 60) := X.out.cell 1
  have q2 : w4.cell? ⟨w3.heap.size, 2, none⟩ = some (.int .i64 61) := X.out.cell 2
  rcases (by omega : z = 0 ∨ z = 1 ∨ z = 2) with rfl | rfl | rfl
  all_goals
    go_wp2_with (first
      | (refine wpList_store_blk rfl 24 (.tmp 2) (.tmp 16) _ _ _ 24 R.out rfl rfl rfl rfl (by kernel_rfl) (by simp [Value.oneCell']) rfl ?_; intro V hgV hRV; have HGV := Lib.hid hgV; have HRV := Lib.hid hRV; clear hgV hRV))
    try simp only [Exit.inBlock, Exit.then]
    refine bodyPost_ret (ret_bk rfl _ rfl HRV.out) rfl ?_
    exact ⟨_, _, rfl, grown_new G.out (by omega) HGV.out⟩
def GotSt (w : World) (e : Ending) (w' : World) : Prop := ∃ s : ByteArray, e = .returned (.string s) ∧ s.size ≤ 101 ∧ w.grownBy w' none
set_option maxRecDepth 100000 in
set_option maxHeartbeats 4000000 in
theorem drawBkP (w : World) (a : Option Addr) (len cap : Nat) (hB : Bytes w w.heap.size a len) (hc : len ≤ cap) (hm : cap ≤ maxLen) :
    Calls Try.prog 31 #[.slice a len cap] w (GotSt w) := by
  go_enter Try.func31, Try.ntmps31
  go_wp2_with fail
  refine (open_any _ w.heap.size a len cap hB (by omega) hc hm).mono ?_
  rintro e w1 ⟨rfl, hg, hs1, l1, c1', hr1⟩
  have H := Lib.hid hr1; have G1 := Lib.hid hg; have HS1 := Lib.hid hs1
  clear hr1 hs1 hg hB
  go_wp2_with fail
  refine (pick_any _ _ _ a l1 c1' _ 40 H.out (by omega) (by omega)).mono ?_
  rintro e w2 ⟨x, x0, x1, rfl, hr, hg, hs⟩
  obtain ⟨n, rfl⟩ := Int.eq_ofNat_of_zero_le x0
  have G := Lib.hid (grown_old G1.out hg); have R := Lib.hid hr
  clear hr hg hs H G1
  go_wp2
  go_loopw [4, 5] (fun v i wr => ∃ (k p : Nat) (t : ByteArray), v = .string t ∧ i = .int .i64 k ∧ k ≤ 40 ∧ t.size + k ≤ 39 ∧ p + k ≤ 50 ∧ w.grownBy wr none ∧ Rd wr w.heap.size w.heap.size a l1 c1' p) (fun _ i _ => (intOf i).toNat)
  case atStart => exact ⟨n, _, ⟨#[]⟩, rfl, rfl, by omega, by show 0 + n ≤ 39; omega, by omega, G.out, R.out⟩
  case round =>
    clear G R
    obtain ⟨k, p, t, rfl, rfl, hk, hsz, hp, hg, hr⟩ := hrel
    have G := Lib.hid hg; have R := Lib.hid hr
    have hw := hr.lt
    clear hg hr
    by_cases h0 : k = 0
    · subst h0
      go_wp2_with fail
      refine (pick_any _ _ _ a l1 c1' _ 40 R.out (by omega) (by omega)).mono ?_
      rintro e w3 ⟨y, y0, y1, rfl, hr, hg, hs⟩
      have G3 := Lib.hid (gtr' (Draw.grown_some (r := some w.heap.size) G.out) hg)
      have G4 := Lib.hid (grown_new G.out (Nat.le_refl _) hg)
      clear hr hg hs R G G3
      by_cases h1 : y = 0
      · subst h1
        go_wp2_with fail
        refine (many_any _ ⟨#[107, 116]⟩ 31 (by omega) (by show 2 * 31 ≤ 1000; omega) (by show 2 ≤ 1000; omega)).mono ?_
        rintro e w' ⟨r, hr, rfl, rfl⟩
        have hr' : r.size ≤ 62 := hr
        clear hr
        have hq : ¬ 9223372036854775807 < t.size + r.size := by omega
        go_wp2
        go_ret
        exact ⟨_, rfl, by rw [ByteArray.size_append]; omega, G4.out⟩
      · have e1 : (y == 0) = false := by simp; omega
        go_wp2
        go_ret
        exact ⟨_, rfl, by omega, G4.out⟩
    · have hk0 : (0 : Int) < (k : Int) := by omega
      have X := Lib.hid (Blk.new wr #[.string ⟨#[107]⟩, .string ⟨#[116]⟩, .string ⟨#[116]⟩, .string ⟨#[116]⟩, .string ⟨#[102]⟩, .string ⟨#[107]⟩, .string ⟨#[116]⟩, .string ⟨#[120]⟩] 9)
      have hg := Draw.grown_alloc wr (.cells #[.string ⟨#[107]⟩, .string ⟨#[116]⟩, .string ⟨#[116]⟩, .string ⟨#[116]⟩, .string ⟨#[102]⟩, .string ⟨#[107]⟩, .string ⟨#[116]⟩, .string ⟨#[120]⟩] 9) none
      have G2 := Lib.hid (gtr G.out hg); have R2 := Lib.hid (R.out.gN hg)
      clear hg
      have hS : StrIn (wr.alloc (.cells #[.string ⟨#[107]⟩, .string ⟨#[116]⟩, .string ⟨#[116]⟩, .string ⟨#[116]⟩, .string ⟨#[102]⟩, .string ⟨#[107]⟩, .string ⟨#[116]⟩, .string ⟨#[120]⟩] 9)) wr.heap.size 8 (fun s => s.size = 1) := ⟨X.out.lt, fun j hj => by
        rcases (by omega : j = 0 ∨ j = 1 ∨ j = 2 ∨ j = 3 ∨ j = 4 ∨ j = 5 ∨ j = 6 ∨ j = 7) with rfl | rfl | rfl | rfl | rfl | rfl | rfl | rfl
        all_goals exact ⟨_, by rfl, X.out.cell _⟩⟩
      have HS := Lib.hid hS
      clear hS X G R
      go_wp2_with fail
      refine (of_any _ _ _ a l1 c1' _ R2.out (by omega) wr.heap.size 8 _ HS.out (by omega) (by omega) (by omega)).mono ?_
      rintro e w3 ⟨s, hs, rfl, hg, hr⟩
      have G4 := Lib.hid (grown_new G2.out (Nat.le_refl _) hg); have R4 := Lib.hid hr
      clear hg hr G2 R2 HS
      have hq : ¬ 9223372036854775807 < t.size + s.size := by omega
      go_wp2
      go_roundw
      case rel => exact ⟨k - 1, p + 1, t ++ s, rfl, by go_num, by omega, by rw [ByteArray.size_append]; omega, by omega, G4.out, R4.out⟩
      case measure => simp [intOf]; omega
end Draw
end Go.Proofs.Yteibklnonlapoaa
