/-
  The walk of the law on the form of a session.
-/
import Derived.Test.YteibklnonlapoaaUh
import Derived.Test.YteibklnonlapoaaUc
import Derived.Deep.RegionHeld3
namespace Go.Proofs.Yteibklnonlapoaa
namespace Run
open Go.RowKit Alg Mem Con Mp Hd Draw
set_option linter.unusedVariables false

theorem form_a {need many : Int} {ng : Nat} {zg : Nat → Int} {nc : Nat} {zc : Nat → Int} {msg : Int} {n : Nat} {S : Nat → SV} (hn : 1 ≤ n) : tsF need many ng zg nc zc msg (n + 1) (catS S n (S 0)) = false := by
  cases h : tsF need many ng zg nc zc msg (n + 1) (catS S n (S 0)) with
  | false => rfl
  | true =>
    have h1 := ts_ne h (show 0 < n + 1 by omega) (show n < n + 1 by omega) (show 0 ≠ n by omega)
    have e0 : catS S n (S 0) 0 = S 0 := by unfold catS; rw [if_neg (by omega)]
    have en : catS S n (S 0) n = S 0 := by unfold catS; rw [if_pos rfl]
    rw [e0, en] at h1
    exact absurd rfl h1
theorem form_b {need many : Int} {ng : Nat} {zg : Nat → Int} {nc : Nat} {zc : Nat → Int} {n : Nat} {S : Nat → SV} : tsF need many ng zg nc zc 100 n S = false := by
  cases h : tsF need many ng zg nc zc 100 n S with
  | false => rfl
  | true => exact absurd (ts_msg h) (by decide)
theorem form_c {need many : Int} {ng : Nat} {zg : Nat → Int} {nc : Nat} {zc : Nat → Int} {msg : Int} {n : Nat} {S : Nat → SV} (hn : (n : Int) < need) : tsF need many ng zg nc zc msg n S = false := by
  cases h : tsF need many ng zg nc zc msg n S with
  | false => rfl
  | true => have := (ts_facts h).2.2.2.1; omega
theorem run_store_one {P : Program} {w : World} (ty : TypeId) (b o : Nat) (v old : Value) (h1 : v.oneCell' = true) (hv : v.cells = #[v]) (hc : w.cell? ⟨b, o, none⟩ = some old) (hf : w.frozen? ⟨b, o, none⟩ = false) (hi : (P.info? ty).map (·.size) = some 1) :
    (storeVar ty ⟨b, o, none⟩ v).run P w = .ok () (w.setCell ⟨b, o, none⟩ v) := by
  cases hq : P.info? ty with
  | none => simp [hq] at hi
  | some i =>
    have hs : i.size = 1 := by simpa [hq] using hi
    have h2 : (store ⟨b, o, none⟩ v).run P w = .ok () (w.setCell ⟨b, o, none⟩ v) := by
      rw [run_store P w ⟨b, o, none⟩ v _ h1]
      simp [hc, hf]
    simp [storeVar, hv, storeCells, Addr.add, sizeOf, typeInfo, hq, hs, h2, Result.andThen]
theorem wp_store_one {P : Program} {op : Oper} {a : Act} {w : World} {K : Act → World → Prop} {Q : Exit → Act → World → Prop} (ty : TypeId) (x y : Operand) (b o : Nat) (v old : Value) (h1 : v.oneCell' = true) (hv : v.cells = #[v]) (hc : w.cell? ⟨b, o, none⟩ = some old) (hf : w.frozen? ⟨b, o, none⟩ = false) (hi : (P.info? ty).map (·.size) = some 1) (ho : op.op = .store ty x y)
    (hx : a.eval x = .pointer (some ⟨b, o, none⟩)) (hy : a.eval y = v) (h : K (a.put op.dst undef) (w.setCell ⟨b, o, none⟩ v)) : op.wp P a w K Q := by
  unfold Oper.wp execOp
  simp only [ho, hx, hy, Instr.storeAt, Instr.sureAddr, Sem.run_bind, Sem.run_pure, Result.andThen_ok, run_store_one ty b o v old h1 hv hc hf hi]
  exact h
theorem wpList_store_one {P : Program} {ops : Array Oper} {rest : List Oper} {op : Oper} {a : Act} {w : World} {Q : Exit → Act → World → Prop} (hgd : op.guard = none) (ty : TypeId) (x y : Operand) (b o : Nat) (v old : Value) (h1 : v.oneCell' = true) (hv : v.cells = #[v]) (hc : w.cell? ⟨b, o, none⟩ = some old) (hf : w.frozen? ⟨b, o, none⟩ = false) (hi : (P.info? ty).map (·.size) = some 1) (ho : op.op = .store ty x y)
    (hx : a.eval x = .pointer (some ⟨b, o, none⟩)) (hy : a.eval y = v) (h : wpList P ops Q rest (a.put op.dst undef) (w.setCell ⟨b, o, none⟩ v)) : wpList P ops Q (op :: rest) a w :=
  wpList_plain hgd fun _ hK => wp_store_one ty x y b o v old h1 hv hc hf hi ho hx hy (hK _ _ h)
theorem cell4_one (s : SV) : ∀ u ∈ cell4 s, u.oneCell' = true := by
  intro u hu
  simp only [cell4, List.mem_cons, List.not_mem_nil, or_false] at hu
  rcases hu with rfl | rfl | rfl | rfl <;> rfl
theorem sh_less {w : World} {a : Option Addr} {n k : Nat} {S : Nat → SV} (h : ShIn w a n S) (hk : k ≤ n) : ShIn w a k S := by
  rcases h with h | ⟨b, o, e, hb, hc⟩
  · exact .inl (by omega)
  · exact .inr ⟨b, o, e, hb, fun j hj => hc j (by omega)⟩
theorem cell4_arr (s : SV) : (cell4 s).toArray = #[.int .i64 s.m, .int .i64 s.R, .bool s.on, .int .i64 s.Z] := rfl
set_option maxRecDepth 100000 in
set_option maxHeartbeats 8000000 in
theorem FnSessionForm (a : Option Addr) (len cap : Nat) (w : World) (hB : Draw.Bytes w w.heap.size a len) (hc : len ≤ cap) (hm : cap ≤ maxLen) :
    Calls Try.prog 17 #[.slice a len cap] w (Yes w) := by
  by_cases hbig : 1048576 < len
  · have hbig' : (1048576 : Int) < (len : Int) := by omega
    clear hB
    go_enter Try.func17, Try.ntmps17
    go_wp2
    go_ret
    exact ⟨rfl, Below.refl _ _⟩
  have hbig' : ¬ (1048576 : Int) < (len : Int) := by omega
  go_enter Try.func17, Try.ntmps17
  go_wp2_with fail
  refine (Draw.drawSesOk _ a len cap hB hc hm).mono ?_
  rintro e w1 ⟨need, many, ag, ng, cg, zg, ac, nc, cc, zc, msg, a3, n, c3, S, rfl, hq1, hq2, hq3, ⟨hb1, hb2, hb3⟩, hg⟩
  have G := Lib.hid hg
  have I10 := Lib.hid hq1.ints; have I20 := Lib.hid hq2.ints; have A30 := Lib.hid (sh_own hq3)
  have D := Lib.hid (Draw.grown_refl w1 none)
  have I1 := I10; have I2 := I20; have A3 := A30
  have hww : w.heap.size ≤ w1.heap.size := hg.size
  have hnc3 : n ≤ c3 := by obtain ⟨a', c', e, _, h, _⟩ := hq3.sh; injection e with _ _ e; omega
  clear hg hq1 hq2 hq3 hB
  have hl1 : ng ≤ 2000000 := by omega
  have hl2 : nc ≤ 2000000 := by omega
  have hl3 : n ≤ 2000000 := by omega
  go_wp2_with (refine stop_store rfl ?_)
  refine ⟨trivial, ?_⟩
  refine wpList_store_blk rfl 48 (.tmp 3) (.tmp 12) _ #[.int .i64 need, .int .i64 many, .slice ag ng cg, .slice ac nc cc, .int .i64 msg, .slice a3 n c3] _ 48 (Blk.new w1 #[.int .i64 0, .int .i64 0, .slice none 0 0, .slice none 0 0, .int .i64 0, .slice none 0 0] 48) rfl rfl rfl rfl (by kernel_rfl) (by simp [Value.oneCell']) rfl ?_
  intro w2 hgV hT
  have hg : (w1).grownBy w2 none := grown_new (Draw.grown_alloc w1 (.cells #[.int .i64 0, .int .i64 0, .slice none 0 0, .slice none 0 0, .int .i64 0, .slice none 0 0] 48) none) (Nat.le_refl _) hgV
  have B := Lib.hid hT
  have hwb : w1.heap.size ≤ (w1).heap.size := D.out.size
  clear hgV hT
  replace G := Lib.hid (gtr G.out hg)
  replace D := Lib.hid (gtr D.out hg)
  replace I1 := Lib.hid (I10.out.kept D.out)
  replace I2 := Lib.hid (I20.out.kept D.out)
  replace A3 := Lib.hid (A30.out.kept D.out)
  clear hg
  generalize (w1).heap.size = bb at *
  have B' := Lib.hid (Ss.of_blk B.out)
  clear B
  have B := B'
  clear B'
  obtain ⟨_, k0, k1, k2, k3, k4, k5⟩ := B.out
  go_wp2_with fail
  refine (i32ok _ need many _ ng _ zg _ nc _ zc msg _ n _ S I1.out I2.out A3.out hl1 hl2 hl3).mono ?_
  rintro e w3 ⟨rfl, hg⟩
  clear k0 k1 k2 k3 k4 k5
  replace G := Lib.hid (gtr G.out hg)
  replace D := Lib.hid (gtr D.out hg)
  replace I1 := Lib.hid (I10.out.kept D.out)
  replace I2 := Lib.hid (I20.out.kept D.out)
  replace A3 := Lib.hid (A30.out.kept D.out)
  replace B := Lib.hid (B.out.kept hg)
  clear hg
  obtain ⟨_, k0, k1, k2, k3, k4, k5⟩ := B.out
  go_wp2_with fail
  refine (s32ok _ need many _ ng _ zg _ nc _ zc msg _ n _ S I1.out I2.out A3.out hl1 hl2 hl3).mono ?_
  rintro e w4 ⟨rfl, hg⟩
  clear k0 k1 k2 k3 k4 k5
  replace G := Lib.hid (gtr G.out hg)
  replace D := Lib.hid (gtr D.out hg)
  replace I1 := Lib.hid (I10.out.kept D.out)
  replace I2 := Lib.hid (I20.out.kept D.out)
  replace A3 := Lib.hid (A30.out.kept D.out)
  replace B := Lib.hid (B.out.kept hg)
  clear hg
  obtain ⟨_, k0, k1, k2, k3, k4, k5⟩ := B.out
  have hself : (tsF need many ng zg nc zc msg n S != tsF need many ng zg nc zc msg n S) = false := by simp
  cases h1 : tsF need many ng zg nc zc msg n S with
  | false =>
    rw [h1] at hself
    go_wp2_with fail
    refine (s32ok _ need many _ ng _ zg _ nc _ zc msg _ n _ S I1.out I2.out A3.out hl1 hl2 hl3).mono ?_
    rintro e w5 ⟨rfl, hg⟩
    clear k0 k1 k2 k3 k4 k5
    replace G := Lib.hid (gtr G.out hg)
    replace D := Lib.hid (gtr D.out hg)
    replace I1 := Lib.hid (I10.out.kept D.out)
    replace I2 := Lib.hid (I20.out.kept D.out)
    replace A3 := Lib.hid (A30.out.kept D.out)
    replace B := Lib.hid (B.out.kept hg)
    clear hg
    obtain ⟨_, k0, k1, k2, k3, k4, k5⟩ := B.out
    rw [h1]
    go_wp2
    go_ret
    exact ⟨rfl, Draw.below_of G.out⟩
  | true =>
    have HTS := Lib.hid h1
    rw [h1] at hself
    have hfa := ts_facts h1
    obtain ⟨N, hN⟩ := Int.eq_ofNat_of_zero_le (show 0 ≤ need - 1 by omega)
    have hN' : need = (N : Int) + 1 := by omega
    have hNn : N + 1 ≤ n := by omega
    have HFA := Lib.hid (form_a (need := need) (many := many) (ng := ng) (zg := zg) (nc := nc) (zc := zc) (msg := msg) (S := S) (n := n) (by omega))
    have HFC := Lib.hid (form_c (need := need) (many := many) (ng := ng) (zg := zg) (nc := nc) (zc := zc) (msg := msg) (S := S) (n := N) (by omega))
    have hn1 : 1 ≤ n := by omega
    have HN1 := Lib.hid hN'
    clear hfa h1 hN hN'
    clear k0 k1 k2 k3 k4 k5
    obtain ⟨_, k0, k1, k2, k3, k4, k5⟩ := B.out
    go_wp2_with (refine stop_store rfl ?_)
    refine ⟨trivial, ?_⟩
    refine wpList_store_blk rfl 48 (.tmp 5) (.tmp 27) _ #[.int .i64 need, .int .i64 many, .slice ag ng cg, .slice ac nc cc, .int .i64 msg, .slice a3 n c3] _ 48 (Blk.new w4 #[.int .i64 0, .int .i64 0, .slice none 0 0, .slice none 0 0, .int .i64 0, .slice none 0 0] 48) rfl rfl rfl rfl (by kernel_rfl) (by simp [Value.oneCell']) rfl ?_
    intro w6 hgV hT
    have hg : (w4).grownBy w6 none := grown_new (Draw.grown_alloc w4 (.cells #[.int .i64 0, .int .i64 0, .slice none 0 0, .slice none 0 0, .int .i64 0, .slice none 0 0] 48) none) (Nat.le_refl _) hgV
    have A := Lib.hid hT
    have hwa : w1.heap.size ≤ (w4).heap.size := D.out.size
    clear hgV hT
    clear k0 k1 k2 k3 k4 k5
    replace G := Lib.hid (gtr G.out hg)
    replace D := Lib.hid (gtr D.out hg)
    replace I1 := Lib.hid (I10.out.kept D.out)
    replace I2 := Lib.hid (I20.out.kept D.out)
    replace A3 := Lib.hid (A30.out.kept D.out)
    replace B := Lib.hid (B.out.kept hg)
    clear hg
    obtain ⟨_, k0, k1, k2, k3, k4, k5⟩ := B.out
    generalize (w4).heap.size = xa at *
    have B6 := B.out.lt
    have A6 := A.out.lt
    have hw16 := D.out.size
    go_wp2_with fail
    clear k0 k1 k2 k3 k4 k5
    obtain ⟨b3, o3, rfl, hb3, hcc⟩ := A30.out.ptr hn1
    obtain ⟨y0, y1, y2, y3⟩ := hcc 0 hn1
    rw [Nat.zero_mul, Nat.add_zero] at y0 y1 y2 y3
    have HO := Lib.hid (show ∀ V, World.grownBy w1 V none → V.cell? ⟨b3, o3, none⟩ = some (.int .i64 (S 0).m) ∧ V.cell? ⟨b3, o3 + 1, none⟩ = some (.int .i64 (S 0).R) ∧ V.cell? ⟨b3, o3 + 2, none⟩ = some (.bool (S 0).on) ∧ V.cell? ⟨b3, o3 + 3, none⟩ = some (.int .i64 (S 0).Z) from fun V hg => ⟨(World.cell?_of_block (hg.block b3 hb3 (by simp))).trans y0, (World.cell?_of_block (hg.block b3 hb3 (by simp))).trans y1, (World.cell?_of_block (hg.block b3 hb3 (by simp))).trans y2, (World.cell?_of_block (hg.block b3 hb3 (by simp))).trans y3⟩)
    clear hcc y0 y1 y2 y3 hb3
    have hss := sh_sl (c := c3) A3.out
    have hn0' : 0 < n := hn1
    have C := Lib.hid (Draw.grown_refl w6 none)
    refine' (fun (hk : Draw.Later _) => ?main) (Draw.Later.mk ?rest)
    case main =>
      refine wp_region_held_drew (S := (fun w' => w'.cell? ⟨bb, 5, none⟩ = some (.slice (some ⟨b3, o3, none⟩) n c3) ∧ w'.cell? ⟨b3, o3, none⟩ = some (.int .i64 (S 0).m) ∧ w'.cell? ⟨b3, o3 + 1, none⟩ = some (.int .i64 (S 0).R) ∧ w'.cell? ⟨b3, o3 + 2, none⟩ = some (.bool (S 0).on) ∧ w'.cell? ⟨b3, o3 + 3, none⟩ = some (.int .i64 (S 0).Z))) (by kernel_rfl) (⟨B.out.c5, HO.out _ (gtr D.out (Draw.gdrew _))⟩) (fun hHeld => ?_)
      have hg := Draw.gdrew w6
      replace G := Lib.hid (gtr G.out hg)
      replace D := Lib.hid (gtr D.out hg)
      replace I1 := Lib.hid (I10.out.kept D.out)
      replace I2 := Lib.hid (I20.out.kept D.out)
      replace A3 := Lib.hid (A30.out.kept D.out)
      replace B := Lib.hid (B.out.kept hg)
      replace A := Lib.hid (A.out.keptN hg)
      replace C := Lib.hid (gtr C.out hg)
      clear hg
      generalize (w6).drew = V7 at *
      refine wpAnyH_take (i := 1) (oi := ⟨some 29, _, _, _, _, _⟩) (v := ?_) rfl (by kernel_rfl) (by kernel_rfl) (by kernel_rfl) (fun _ _ _ h => h) (Or.inl ⟨by rfl, ?_⟩) (by assumption) ?_
      rotate_left
      · intro w hSw; (try dsimp only at hSw); go_simp; try with_reducible rfl
      simp only [Act.put, List.setIfInBounds_toArray, List.set_cons_zero, List.set_cons_succ]
      refine wpAnyH_take (i := 2) (oi := ⟨some 30, _, _, _, _, _⟩) (v := ?_) rfl (by kernel_rfl) (by kernel_rfl) (by kernel_rfl) (fun _ _ _ h => h) (Or.inl ⟨by rfl, ?_⟩) (by assumption) ?_
      rotate_left
      · intro w hSw; (try dsimp only at hSw); go_simp; try with_reducible rfl
      simp only [Act.put, List.setIfInBounds_toArray, List.set_cons_zero, List.set_cons_succ]
      refine wpAnyH_take (i := 4) (oi := ⟨some 32, _, _, _, _, _⟩) (v := ?_) rfl (by kernel_rfl) (by kernel_rfl) (by kernel_rfl) (fun _ _ _ h => h) (Or.inl ⟨by rfl, ?_⟩) (by assumption) ?_
      rotate_left
      · intro w hSw; (try dsimp only at hSw); go_simp; try with_reducible rfl
      simp only [Act.put, List.setIfInBounds_toArray, List.set_cons_zero, List.set_cons_succ]
      refine wpAnyH_take (i := 5) (oi := ⟨some 33, _, _, _, _, _⟩) (v := ?_) rfl (by kernel_rfl) (by kernel_rfl) (by kernel_rfl) (fun _ _ _ h => h) (Or.inl ⟨by rfl, ?_⟩) (by assumption) ?_
      rotate_left
      · intro w hSw; (try dsimp only at hSw); go_simp; try with_reducible rfl
      simp only [Act.put, List.setIfInBounds_toArray, List.set_cons_zero, List.set_cons_succ]
      refine wpAnyH_take (i := 6) (oi := ⟨some 34, _, _, _, _, _⟩) (v := ?_) rfl (by kernel_rfl) (by kernel_rfl) (by kernel_rfl) (fun _ _ _ h => h) (Or.inl ⟨by rfl, ?_⟩) (by assumption) ?_
      rotate_left
      · intro w hSw; (try dsimp only at hSw); go_simp; try with_reducible rfl
      simp only [Act.put, List.setIfInBounds_toArray, List.set_cons_zero, List.set_cons_succ]
      refine wpAnyH_take (i := 7) (oi := ⟨some 35, _, _, _, _, _⟩) (v := ?_) rfl (by kernel_rfl) (by kernel_rfl) (by kernel_rfl) (fun _ _ _ h => h) (Or.inl ⟨by rfl, ?_⟩) (by assumption) ?_
      rotate_left
      · intro w hSw; (try dsimp only at hSw); go_simp; try with_reducible rfl
      simp only [Act.put, List.setIfInBounds_toArray, List.set_cons_zero, List.set_cons_succ]
      refine wpAnyH_ready (rs := [0, 8]) (by kernel_rfl) (by simp) ?_
      refine AllReadyH.cons (o := ⟨some 28, _, _, _, _, _⟩) rfl (fun Kq hKq => ?_) (AllReadyH.cons (o := ⟨some 36, _, _, _, _, _⟩) rfl (fun Kq hKq => ?_) AllReadyH.nil)
      · go_simp
        refine at_alloc ?_
        intro W0 hg hT
        have E := Lib.hid (own_empty (S := S) hT C.out.size)
        have hpx : w6.heap.size ≤ V7.heap.size := C.out.size
        try have hx8 := P.out.lt
        clear hT
        replace G := Lib.hid (gtr G.out hg)
        replace D := Lib.hid (gtr D.out hg)
        replace I1 := Lib.hid (I10.out.kept D.out)
        replace I2 := Lib.hid (I20.out.kept D.out)
        replace A3 := Lib.hid (A30.out.kept D.out)
        replace B := Lib.hid (B.out.kept hg)
        replace A := Lib.hid (A.out.keptN hg)
        replace C := Lib.hid (gtr C.out hg)
        clear hg
        generalize V7.heap.size = x0 at *
        refine hKq.out _ _ (⟨B.out.c5, HO.out _ D.out⟩) (fun hHeld => ?_)
        clear hKq Kq
        refine wpAnyH_ready (rs := [3, 8]) (by kernel_rfl) (by simp) ?_
        refine AllReadyH.cons (o := ⟨some 31, _, _, _, _, _⟩) rfl (fun Kq hKq => ?_) (AllReadyH.cons (o := ⟨some 36, _, _, _, _, _⟩) rfl (fun Kq hKq => ?_) AllReadyH.nil)
        · rw [if_pos (by rfl)]
          refine wp_append_sh (.tmp 28) (.tmp 30) rfl w6.heap.size x0 S rfl E.out (some ⟨b3, o3, none⟩) n c3 rfl A3.out hss hl3 C.out.size ?_
          intro b4 c4 W3 hO hg
          have hx5 : w6.heap.size ≤ x0 := (World.ownsRow.lt E.out x0 rfl).1
          have O := Lib.hid hO
          try have P' := Lib.hid (P.out.kept hg (by intro e; have e := Option.some.inj e; omega))
          clear E hO
          try clear P
          have C' := grown_new C.out hx5 hg
          have D' := grown_new D.out (by omega) hg
          have G' := grown_new G.out (by omega) hg
          have A' := A.out.kept hg (by intro e; have e := Option.some.inj e; omega)
          have B' := B.out.keptB (hg.block _ B.out.lt (by intro e; have e := Option.some.inj e; omega)) hg.size
          clear C D G A B I1 I2 A3 hg
          have C := Lib.hid C'; have D := Lib.hid D'; have G := Lib.hid G'; have A := Lib.hid A'; have B := Lib.hid B'
          have I1 := Lib.hid (I10.out.kept D.out); have I2 := Lib.hid (I20.out.kept D.out); have A3 := Lib.hid (A30.out.kept D.out)
          try have P := P'
          try clear P'
          clear C' D' G' A' B'
          refine hKq.out _ _ (⟨B.out.c5, HO.out _ D.out⟩) (fun hHeld => ?_)
          clear hKq Kq
          refine wpAnyH_ready (rs := [8]) (by kernel_rfl) (by simp) ?_
          refine AllReadyH.cons (o := ⟨some 36, _, _, _, _, _⟩) rfl (fun Kq hKq => ?_) AllReadyH.nil
          go_simp
          refine at_alloc ?_
          intro W8 hg hT
          have P := Lib.hid hT
          try have hx0 := (World.ownsRow.lt E.out x0 rfl).2
          try have hxo := (World.ownsRow.lt O.out b4 rfl).2
          have hp8 : w6.heap.size ≤ W3.heap.size := C.out.size
          clear hT
          replace G := Lib.hid (gtr G.out hg)
          replace D := Lib.hid (gtr D.out hg)
          replace I1 := Lib.hid (I10.out.kept D.out)
          replace I2 := Lib.hid (I20.out.kept D.out)
          replace A3 := Lib.hid (A30.out.kept D.out)
          replace B := Lib.hid (B.out.kept hg)
          replace A := Lib.hid (A.out.keptN hg)
          replace C := Lib.hid (gtr C.out hg)
          replace O := Lib.hid (O.out.kept hg (fun g e => by cases e))
          clear hg
          generalize W3.heap.size = x8 at *
          refine hKq.out _ _ (⟨B.out.c5, HO.out _ D.out⟩) (fun hHeld => ?_)
          clear hKq Kq
          refine wpAnyH_ready (rs := [9]) (by kernel_rfl) (by simp) ?_
          refine AllReadyH.cons (o := ⟨some 37, _, _, _, _, _⟩) rfl (fun Kq hKq => ?_) AllReadyH.nil
          rw [if_pos (by rfl)]
          obtain ⟨i0, hi, hz0, hz1, hz2⟩ := info_parts info_shn
          refine wp_append_own _ (.tmp 31) (.tmp 36) _ rfl w6.heap.size 52 i0 (.agg #[.int .i64 0, .int .i64 0, .bool false, .int .i64 0]) 4 32 und_shns hi hz0 hz1 hz2 rfl (by decide) _ n (cellsS S n) rfl O.out ⟨x8, 0, none⟩ 1 1 (cell4 (S 0)) rfl rfl (blk_news (show Blk _ x8 (cell4 (S 0)).toArray 52 from P.out)) (cell4_one (S 0)) (by unfold maxLen; omega) (by omega) C.out.size ?_
          intro v' W9 ho' hg' hv'
          clear hv'
          have hO2 := OwnSh.app ho'
          obtain ⟨ab, cb, rfl, hs1, hs2, hs3, hs4⟩ := hO2.sh
          clear hs1 hs2 hs3 hs4
          have O2 := Lib.hid hO2
          have hg : World.grownBy W8 W9 (some b4) := hg'
          have hx9 : w6.heap.size ≤ b4 := (World.ownsRow.lt O.out b4 rfl).1
          clear hO2 ho' hg' hi hz0 hz1 hz2 i0
          have C' := grown_new C.out hx9 hg
          have A' := A.out.kept hg (by intro e; have e := Option.some.inj e; omega)
          have D' := grown_new D.out (by omega) hg
          have G' := grown_new G.out (by omega) hg
          have B' := B.out.keptB (hg.block _ B.out.lt (by intro e; have e := Option.some.inj e; omega)) hg.size
          clear O P C A
          clear D G B I1 I2 A3 hg
          have D := Lib.hid D'; have G := Lib.hid G'; have B := Lib.hid B'
          have I1 := Lib.hid (I10.out.kept D.out); have I2 := Lib.hid (I20.out.kept D.out); have A3 := Lib.hid (A30.out.kept D.out)
          clear D' G' B'
          have C := Lib.hid C'; have A := Lib.hid A'
          clear C' A'
          refine hKq.out _ _ (⟨B.out.c5, HO.out _ D.out⟩) (fun hHeld => ?_)
          clear hKq Kq
          refine wpAnyH_take (i := 10) (oi := ⟨some 38, _, _, _, _, _⟩) (v := ?_) rfl (by kernel_rfl) (by kernel_rfl) (by kernel_rfl) (fun _ _ _ h => h) (Or.inl ⟨by rfl, ?_⟩) (by assumption) ?_
          rotate_left
          · intro w hSw; (try dsimp only at hSw); go_simp; try with_reducible rfl
          simp only [Act.put, List.setIfInBounds_toArray, List.set_cons_zero, List.set_cons_succ]
          refine wpAnyH_ready (rs := [11]) (by kernel_rfl) (by simp) ?_
          refine AllReadyH.cons (o := ⟨none, _, _, _, _, _⟩) rfl (fun Kq hKq => ?_) AllReadyH.nil
          rw [if_pos (by rfl)]
          refine wp_store_one 46 (.tmp 38) (.tmp 37) xa 5 (.slice ab (n + 1) cb) _ rfl rfl (A.out.cell 5) (A.out.free 5) (by kernel_rfl) rfl rfl rfl ?_
          have hT : Blk (W9.setCell ⟨xa, 5, none⟩ (.slice ab (n + 1) cb)) xa #[.int .i64 need, .int .i64 many, .slice ag ng cg, .slice ac nc cc, .int .i64 msg, .slice ab (n + 1) cb] 48 := A.out.set 5 (.slice ab (n + 1) cb)
          have hg := Mem.grown_set W9 xa 5 (.slice ab (n + 1) cb)
          have O2' := O2.out.kept hg (fun g e => by have e := Option.some.inj e; omega)
          have D' := grown_new D.out (by omega) hg
          have G' := grown_new G.out (by omega) hg
          have B' := B.out.keptB (hg.block _ B.out.lt (by intro e; have e := Option.some.inj e; omega)) hg.size
          clear C A O2
          clear D G B I1 I2 A3 hg
          have D := Lib.hid D'; have G := Lib.hid G'; have B := Lib.hid B'
          have I1 := Lib.hid (I10.out.kept D.out); have I2 := Lib.hid (I20.out.kept D.out); have A3 := Lib.hid (A30.out.kept D.out)
          clear D' G' B'
          have A := Lib.hid hT; have O2 := Lib.hid O2'
          clear hT O2'
          generalize W9.setCell ⟨xa, 5, none⟩ (.slice ab (n + 1) cb) = W11 at *
          refine hKq.out _ _ (⟨B.out.c5, HO.out _ D.out⟩) (fun hHeld => ?_)
          clear hKq Kq
          refine wpAnyH_done (by kernel_rfl) ?_ _
          clear hHeld I1 I2 A3
          try clear hpx
          try clear hx8
          try clear hx0
          try clear hxo
          try clear hp8
          try clear hx5
          try clear hx9
          revert O2; revert B; revert A; revert D; revert G; revert W11; revert x0; revert x8; revert b4; revert c4; revert ab; revert cb
          exact hk.out
        · go_simp
          refine at_alloc ?_
          intro W8 hg hT
          have P := Lib.hid hT
          try have hx0 := (World.ownsRow.lt E.out x0 rfl).2
          try have hxo := (World.ownsRow.lt O.out b4 rfl).2
          have hp8 : w6.heap.size ≤ W0.heap.size := C.out.size
          clear hT
          replace G := Lib.hid (gtr G.out hg)
          replace D := Lib.hid (gtr D.out hg)
          replace I1 := Lib.hid (I10.out.kept D.out)
          replace I2 := Lib.hid (I20.out.kept D.out)
          replace A3 := Lib.hid (A30.out.kept D.out)
          replace B := Lib.hid (B.out.kept hg)
          replace A := Lib.hid (A.out.keptN hg)
          replace C := Lib.hid (gtr C.out hg)
          replace E := Lib.hid (E.out.kept hg (fun g e => by cases e))
          clear hg
          generalize W0.heap.size = x8 at *
          refine hKq.out _ _ (⟨B.out.c5, HO.out _ D.out⟩) (fun hHeld => ?_)
          clear hKq Kq
          refine wpAnyH_ready (rs := [3]) (by kernel_rfl) (by simp) ?_
          refine AllReadyH.cons (o := ⟨some 31, _, _, _, _, _⟩) rfl (fun Kq hKq => ?_) AllReadyH.nil
          rw [if_pos (by rfl)]
          refine wp_append_sh (.tmp 28) (.tmp 30) rfl w6.heap.size x0 S rfl E.out (some ⟨b3, o3, none⟩) n c3 rfl A3.out hss hl3 C.out.size ?_
          intro b4 c4 W3 hO hg
          have hx5 : w6.heap.size ≤ x0 := (World.ownsRow.lt E.out x0 rfl).1
          have O := Lib.hid hO
          try have P' := Lib.hid (P.out.kept hg (by intro e; have e := Option.some.inj e; omega))
          clear E hO
          try clear P
          have C' := grown_new C.out hx5 hg
          have D' := grown_new D.out (by omega) hg
          have G' := grown_new G.out (by omega) hg
          have A' := A.out.kept hg (by intro e; have e := Option.some.inj e; omega)
          have B' := B.out.keptB (hg.block _ B.out.lt (by intro e; have e := Option.some.inj e; omega)) hg.size
          clear C D G A B I1 I2 A3 hg
          have C := Lib.hid C'; have D := Lib.hid D'; have G := Lib.hid G'; have A := Lib.hid A'; have B := Lib.hid B'
          have I1 := Lib.hid (I10.out.kept D.out); have I2 := Lib.hid (I20.out.kept D.out); have A3 := Lib.hid (A30.out.kept D.out)
          try have P := P'
          try clear P'
          clear C' D' G' A' B'
          refine hKq.out _ _ (⟨B.out.c5, HO.out _ D.out⟩) (fun hHeld => ?_)
          clear hKq Kq
          refine wpAnyH_ready (rs := [9]) (by kernel_rfl) (by simp) ?_
          refine AllReadyH.cons (o := ⟨some 37, _, _, _, _, _⟩) rfl (fun Kq hKq => ?_) AllReadyH.nil
          rw [if_pos (by rfl)]
          obtain ⟨i0, hi, hz0, hz1, hz2⟩ := info_parts info_shn
          refine wp_append_own _ (.tmp 31) (.tmp 36) _ rfl w6.heap.size 52 i0 (.agg #[.int .i64 0, .int .i64 0, .bool false, .int .i64 0]) 4 32 und_shns hi hz0 hz1 hz2 rfl (by decide) _ n (cellsS S n) rfl O.out ⟨x8, 0, none⟩ 1 1 (cell4 (S 0)) rfl rfl (blk_news (show Blk _ x8 (cell4 (S 0)).toArray 52 from P.out)) (cell4_one (S 0)) (by unfold maxLen; omega) (by omega) C.out.size ?_
          intro v' W9 ho' hg' hv'
          clear hv'
          have hO2 := OwnSh.app ho'
          obtain ⟨ab, cb, rfl, hs1, hs2, hs3, hs4⟩ := hO2.sh
          clear hs1 hs2 hs3 hs4
          have O2 := Lib.hid hO2
          have hg : World.grownBy W3 W9 (some b4) := hg'
          have hx9 : w6.heap.size ≤ b4 := (World.ownsRow.lt O.out b4 rfl).1
          clear hO2 ho' hg' hi hz0 hz1 hz2 i0
          have C' := grown_new C.out hx9 hg
          have A' := A.out.kept hg (by intro e; have e := Option.some.inj e; omega)
          have D' := grown_new D.out (by omega) hg
          have G' := grown_new G.out (by omega) hg
          have B' := B.out.keptB (hg.block _ B.out.lt (by intro e; have e := Option.some.inj e; omega)) hg.size
          clear O P C A
          clear D G B I1 I2 A3 hg
          have D := Lib.hid D'; have G := Lib.hid G'; have B := Lib.hid B'
          have I1 := Lib.hid (I10.out.kept D.out); have I2 := Lib.hid (I20.out.kept D.out); have A3 := Lib.hid (A30.out.kept D.out)
          clear D' G' B'
          have C := Lib.hid C'; have A := Lib.hid A'
          clear C' A'
          refine hKq.out _ _ (⟨B.out.c5, HO.out _ D.out⟩) (fun hHeld => ?_)
          clear hKq Kq
          refine wpAnyH_take (i := 10) (oi := ⟨some 38, _, _, _, _, _⟩) (v := ?_) rfl (by kernel_rfl) (by kernel_rfl) (by kernel_rfl) (fun _ _ _ h => h) (Or.inl ⟨by rfl, ?_⟩) (by assumption) ?_
          rotate_left
          · intro w hSw; (try dsimp only at hSw); go_simp; try with_reducible rfl
          simp only [Act.put, List.setIfInBounds_toArray, List.set_cons_zero, List.set_cons_succ]
          refine wpAnyH_ready (rs := [11]) (by kernel_rfl) (by simp) ?_
          refine AllReadyH.cons (o := ⟨none, _, _, _, _, _⟩) rfl (fun Kq hKq => ?_) AllReadyH.nil
          rw [if_pos (by rfl)]
          refine wp_store_one 46 (.tmp 38) (.tmp 37) xa 5 (.slice ab (n + 1) cb) _ rfl rfl (A.out.cell 5) (A.out.free 5) (by kernel_rfl) rfl rfl rfl ?_
          have hT : Blk (W9.setCell ⟨xa, 5, none⟩ (.slice ab (n + 1) cb)) xa #[.int .i64 need, .int .i64 many, .slice ag ng cg, .slice ac nc cc, .int .i64 msg, .slice ab (n + 1) cb] 48 := A.out.set 5 (.slice ab (n + 1) cb)
          have hg := Mem.grown_set W9 xa 5 (.slice ab (n + 1) cb)
          have O2' := O2.out.kept hg (fun g e => by have e := Option.some.inj e; omega)
          have D' := grown_new D.out (by omega) hg
          have G' := grown_new G.out (by omega) hg
          have B' := B.out.keptB (hg.block _ B.out.lt (by intro e; have e := Option.some.inj e; omega)) hg.size
          clear C A O2
          clear D G B I1 I2 A3 hg
          have D := Lib.hid D'; have G := Lib.hid G'; have B := Lib.hid B'
          have I1 := Lib.hid (I10.out.kept D.out); have I2 := Lib.hid (I20.out.kept D.out); have A3 := Lib.hid (A30.out.kept D.out)
          clear D' G' B'
          have A := Lib.hid hT; have O2 := Lib.hid O2'
          clear hT O2'
          generalize W9.setCell ⟨xa, 5, none⟩ (.slice ab (n + 1) cb) = W11 at *
          refine hKq.out _ _ (⟨B.out.c5, HO.out _ D.out⟩) (fun hHeld => ?_)
          clear hKq Kq
          refine wpAnyH_done (by kernel_rfl) ?_ _
          clear hHeld I1 I2 A3
          try clear hpx
          try clear hx8
          try clear hx0
          try clear hxo
          try clear hp8
          try clear hx5
          try clear hx9
          revert O2; revert B; revert A; revert D; revert G; revert W11; revert x0; revert x8; revert b4; revert c4; revert ab; revert cb
          exact hk.out
      · go_simp
        refine at_alloc ?_
        intro W8 hg hT
        have P := Lib.hid hT
        try have hx0 := (World.ownsRow.lt E.out x0 rfl).2
        try have hxo := (World.ownsRow.lt O.out b4 rfl).2
        have hp8 : w6.heap.size ≤ V7.heap.size := C.out.size
        clear hT
        replace G := Lib.hid (gtr G.out hg)
        replace D := Lib.hid (gtr D.out hg)
        replace I1 := Lib.hid (I10.out.kept D.out)
        replace I2 := Lib.hid (I20.out.kept D.out)
        replace A3 := Lib.hid (A30.out.kept D.out)
        replace B := Lib.hid (B.out.kept hg)
        replace A := Lib.hid (A.out.keptN hg)
        replace C := Lib.hid (gtr C.out hg)
        clear hg
        generalize V7.heap.size = x8 at *
        refine hKq.out _ _ (⟨B.out.c5, HO.out _ D.out⟩) (fun hHeld => ?_)
        clear hKq Kq
        refine wpAnyH_ready (rs := [0]) (by kernel_rfl) (by simp) ?_
        refine AllReadyH.cons (o := ⟨some 28, _, _, _, _, _⟩) rfl (fun Kq hKq => ?_) AllReadyH.nil
        go_simp
        refine at_alloc ?_
        intro W0 hg hT
        have E := Lib.hid (own_empty (S := S) hT C.out.size)
        have hpx : w6.heap.size ≤ W8.heap.size := C.out.size
        try have hx8 := P.out.lt
        clear hT
        replace G := Lib.hid (gtr G.out hg)
        replace D := Lib.hid (gtr D.out hg)
        replace I1 := Lib.hid (I10.out.kept D.out)
        replace I2 := Lib.hid (I20.out.kept D.out)
        replace A3 := Lib.hid (A30.out.kept D.out)
        replace B := Lib.hid (B.out.kept hg)
        replace A := Lib.hid (A.out.keptN hg)
        replace C := Lib.hid (gtr C.out hg)
        replace P := Lib.hid (P.out.keptN hg)
        clear hg
        generalize W8.heap.size = x0 at *
        refine hKq.out _ _ (⟨B.out.c5, HO.out _ D.out⟩) (fun hHeld => ?_)
        clear hKq Kq
        refine wpAnyH_ready (rs := [3]) (by kernel_rfl) (by simp) ?_
        refine AllReadyH.cons (o := ⟨some 31, _, _, _, _, _⟩) rfl (fun Kq hKq => ?_) AllReadyH.nil
        rw [if_pos (by rfl)]
        refine wp_append_sh (.tmp 28) (.tmp 30) rfl w6.heap.size x0 S rfl E.out (some ⟨b3, o3, none⟩) n c3 rfl A3.out hss hl3 C.out.size ?_
        intro b4 c4 W3 hO hg
        have hx5 : w6.heap.size ≤ x0 := (World.ownsRow.lt E.out x0 rfl).1
        have O := Lib.hid hO
        try have P' := Lib.hid (P.out.kept hg (by intro e; have e := Option.some.inj e; omega))
        clear E hO
        try clear P
        have C' := grown_new C.out hx5 hg
        have D' := grown_new D.out (by omega) hg
        have G' := grown_new G.out (by omega) hg
        have A' := A.out.kept hg (by intro e; have e := Option.some.inj e; omega)
        have B' := B.out.keptB (hg.block _ B.out.lt (by intro e; have e := Option.some.inj e; omega)) hg.size
        clear C D G A B I1 I2 A3 hg
        have C := Lib.hid C'; have D := Lib.hid D'; have G := Lib.hid G'; have A := Lib.hid A'; have B := Lib.hid B'
        have I1 := Lib.hid (I10.out.kept D.out); have I2 := Lib.hid (I20.out.kept D.out); have A3 := Lib.hid (A30.out.kept D.out)
        try have P := P'
        try clear P'
        clear C' D' G' A' B'
        refine hKq.out _ _ (⟨B.out.c5, HO.out _ D.out⟩) (fun hHeld => ?_)
        clear hKq Kq
        refine wpAnyH_ready (rs := [9]) (by kernel_rfl) (by simp) ?_
        refine AllReadyH.cons (o := ⟨some 37, _, _, _, _, _⟩) rfl (fun Kq hKq => ?_) AllReadyH.nil
        rw [if_pos (by rfl)]
        obtain ⟨i0, hi, hz0, hz1, hz2⟩ := info_parts info_shn
        refine wp_append_own _ (.tmp 31) (.tmp 36) _ rfl w6.heap.size 52 i0 (.agg #[.int .i64 0, .int .i64 0, .bool false, .int .i64 0]) 4 32 und_shns hi hz0 hz1 hz2 rfl (by decide) _ n (cellsS S n) rfl O.out ⟨x8, 0, none⟩ 1 1 (cell4 (S 0)) rfl rfl (blk_news (show Blk _ x8 (cell4 (S 0)).toArray 52 from P.out)) (cell4_one (S 0)) (by unfold maxLen; omega) (by omega) C.out.size ?_
        intro v' W9 ho' hg' hv'
        clear hv'
        have hO2 := OwnSh.app ho'
        obtain ⟨ab, cb, rfl, hs1, hs2, hs3, hs4⟩ := hO2.sh
        clear hs1 hs2 hs3 hs4
        have O2 := Lib.hid hO2
        have hg : World.grownBy W3 W9 (some b4) := hg'
        have hx9 : w6.heap.size ≤ b4 := (World.ownsRow.lt O.out b4 rfl).1
        clear hO2 ho' hg' hi hz0 hz1 hz2 i0
        have C' := grown_new C.out hx9 hg
        have A' := A.out.kept hg (by intro e; have e := Option.some.inj e; omega)
        have D' := grown_new D.out (by omega) hg
        have G' := grown_new G.out (by omega) hg
        have B' := B.out.keptB (hg.block _ B.out.lt (by intro e; have e := Option.some.inj e; omega)) hg.size
        clear O P C A
        clear D G B I1 I2 A3 hg
        have D := Lib.hid D'; have G := Lib.hid G'; have B := Lib.hid B'
        have I1 := Lib.hid (I10.out.kept D.out); have I2 := Lib.hid (I20.out.kept D.out); have A3 := Lib.hid (A30.out.kept D.out)
        clear D' G' B'
        have C := Lib.hid C'; have A := Lib.hid A'
        clear C' A'
        refine hKq.out _ _ (⟨B.out.c5, HO.out _ D.out⟩) (fun hHeld => ?_)
        clear hKq Kq
        refine wpAnyH_take (i := 10) (oi := ⟨some 38, _, _, _, _, _⟩) (v := ?_) rfl (by kernel_rfl) (by kernel_rfl) (by kernel_rfl) (fun _ _ _ h => h) (Or.inl ⟨by rfl, ?_⟩) (by assumption) ?_
        rotate_left
        · intro w hSw; (try dsimp only at hSw); go_simp; try with_reducible rfl
        simp only [Act.put, List.setIfInBounds_toArray, List.set_cons_zero, List.set_cons_succ]
        refine wpAnyH_ready (rs := [11]) (by kernel_rfl) (by simp) ?_
        refine AllReadyH.cons (o := ⟨none, _, _, _, _, _⟩) rfl (fun Kq hKq => ?_) AllReadyH.nil
        rw [if_pos (by rfl)]
        refine wp_store_one 46 (.tmp 38) (.tmp 37) xa 5 (.slice ab (n + 1) cb) _ rfl rfl (A.out.cell 5) (A.out.free 5) (by kernel_rfl) rfl rfl rfl ?_
        have hT : Blk (W9.setCell ⟨xa, 5, none⟩ (.slice ab (n + 1) cb)) xa #[.int .i64 need, .int .i64 many, .slice ag ng cg, .slice ac nc cc, .int .i64 msg, .slice ab (n + 1) cb] 48 := A.out.set 5 (.slice ab (n + 1) cb)
        have hg := Mem.grown_set W9 xa 5 (.slice ab (n + 1) cb)
        have O2' := O2.out.kept hg (fun g e => by have e := Option.some.inj e; omega)
        have D' := grown_new D.out (by omega) hg
        have G' := grown_new G.out (by omega) hg
        have B' := B.out.keptB (hg.block _ B.out.lt (by intro e; have e := Option.some.inj e; omega)) hg.size
        clear C A O2
        clear D G B I1 I2 A3 hg
        have D := Lib.hid D'; have G := Lib.hid G'; have B := Lib.hid B'
        have I1 := Lib.hid (I10.out.kept D.out); have I2 := Lib.hid (I20.out.kept D.out); have A3 := Lib.hid (A30.out.kept D.out)
        clear D' G' B'
        have A := Lib.hid hT; have O2 := Lib.hid O2'
        clear hT O2'
        generalize W9.setCell ⟨xa, 5, none⟩ (.slice ab (n + 1) cb) = W11 at *
        refine hKq.out _ _ (⟨B.out.c5, HO.out _ D.out⟩) (fun hHeld => ?_)
        clear hKq Kq
        refine wpAnyH_done (by kernel_rfl) ?_ _
        clear hHeld I1 I2 A3
        try clear hpx
        try clear hx8
        try clear hx0
        try clear hxo
        try clear hp8
        try clear hx5
        try clear hx9
        revert O2; revert B; revert A; revert D; revert G; revert W11; revert x0; revert x8; revert b4; revert c4; revert ab; revert cb
        exact hk.out
    case rest =>
    clear G D A B I1 I2 A3 C hss
    intro cb ab c4 b4 x8 x0 W G D A B O2
    have I1 := Lib.hid (I10.out.kept D.out); have I2 := Lib.hid (I20.out.kept D.out); have A3 := Lib.hid (A30.out.kept D.out)
    clear B6 A6 hw16
    have hax := A.out.lt; have hbx := B.out.lt
    obtain ⟨_, k0, k1, k2, k3, k4, k5⟩ := B.out
    go_wp2_with (refine stop_store rfl ?_)
    refine ⟨trivial, ?_⟩
    refine wpList_store_blk rfl 48 (.tmp 6) (.tmp 39) _ #[.int .i64 need, .int .i64 many, .slice ag ng cg, .slice ac nc cc, .int .i64 msg, .slice (some ⟨b3, o3, none⟩) n c3] _ 48 (Blk.new W #[.int .i64 0, .int .i64 0, .slice none 0 0, .slice none 0 0, .int .i64 0, .slice none 0 0] 48) rfl rfl rfl rfl (by kernel_rfl) (by simp [Value.oneCell']) rfl ?_
    intro u1 hgV hT
    have hg : (W).grownBy u1 none := grown_new (Draw.grown_alloc W (.cells #[.int .i64 0, .int .i64 0, .slice none 0 0, .slice none 0 0, .int .i64 0, .slice none 0 0] 48) none) (Nat.le_refl _) hgV
    have M := Lib.hid hT
    have hwm : w1.heap.size ≤ (W).heap.size := D.out.size
    clear hgV hT
    clear k0 k1 k2 k3 k4 k5
    replace G := Lib.hid (gtr G.out hg)
    replace D := Lib.hid (gtr D.out hg)
    replace A := Lib.hid (A.out.keptN hg)
    replace B := Lib.hid (B.out.kept hg)
    replace O2 := Lib.hid (O2.out.kept hg (fun g e => by cases e))
    replace I1 := Lib.hid (I10.out.kept D.out)
    replace I2 := Lib.hid (I20.out.kept D.out)
    replace A3 := Lib.hid (A30.out.kept D.out)
    clear hg
    obtain ⟨_, k0, k1, k2, k3, k4, k5⟩ := B.out
    generalize (W).heap.size = xm at *
    clear k0 k1 k2 k3 k4 k5
    go_wp2_with (refine stop_store rfl ?_)
    refine ⟨trivial, ?_⟩
    refine wpList_store_one rfl 3 (.tmp 40) (.const (.int .i64 100)) xm 4 (.int .i64 100) _ rfl rfl (M.out.cell 4) (M.out.free 4) (by kernel_rfl) rfl rfl rfl ?_
    have hT : Blk (u1.setCell ⟨xm, 4, none⟩ (.int .i64 100)) xm #[.int .i64 need, .int .i64 many, .slice ag ng cg, .slice ac nc cc, .int .i64 100, .slice (some ⟨b3, o3, none⟩) n c3] 48 := M.out.set 4 (.int .i64 100)
    have hg := Mem.grown_set u1 xm 4 (.int .i64 100)
    have O2' := O2.out.keptBlk M.out hg
    have A' := A.out.kept hg (by intro e; have e := Option.some.inj e; omega)
    have D' := grown_new D.out (by omega) hg
    have G' := grown_new G.out (by omega) hg
    have B' := B.out.keptB (hg.block _ B.out.lt (by intro e; have e := Option.some.inj e; omega)) hg.size
    clear M A O2
    clear D G B I1 I2 A3 hg
    have D := Lib.hid D'; have G := Lib.hid G'; have B := Lib.hid B'
    have I1 := Lib.hid (I10.out.kept D.out); have I2 := Lib.hid (I20.out.kept D.out); have A3 := Lib.hid (A30.out.kept D.out)
    clear D' G' B'
    have M := Lib.hid hT; have A := Lib.hid A'; have O2 := Lib.hid O2'
    clear hT A' O2'
    generalize u1.setCell ⟨xm, 4, none⟩ (.int .i64 100) = u2 at *
    have hay := A.out.lt; have hby := B.out.lt; have hmy := M.out.lt
    obtain ⟨_, k0, k1, k2, k3, k4, k5⟩ := B.out
    go_wp2_with (refine stop_store rfl ?_)
    refine ⟨trivial, ?_⟩
    refine wpList_store_blk rfl 48 (.tmp 7) (.tmp 41) _ #[.int .i64 need, .int .i64 many, .slice ag ng cg, .slice ac nc cc, .int .i64 msg, .slice (some ⟨b3, o3, none⟩) n c3] _ 48 (Blk.new u2 #[.int .i64 0, .int .i64 0, .slice none 0 0, .slice none 0 0, .int .i64 0, .slice none 0 0] 48) rfl rfl rfl rfl (by kernel_rfl) (by simp [Value.oneCell']) rfl ?_
    intro u3 hgV hT
    have hg : (u2).grownBy u3 none := grown_new (Draw.grown_alloc u2 (.cells #[.int .i64 0, .int .i64 0, .slice none 0 0, .slice none 0 0, .int .i64 0, .slice none 0 0] 48) none) (Nat.le_refl _) hgV
    have K := Lib.hid hT
    have hwc : w1.heap.size ≤ (u2).heap.size := D.out.size
    clear hgV hT
    clear k0 k1 k2 k3 k4 k5
    replace G := Lib.hid (gtr G.out hg)
    replace D := Lib.hid (gtr D.out hg)
    replace B := Lib.hid (B.out.kept hg)
    replace I1 := Lib.hid (I10.out.kept D.out)
    replace I2 := Lib.hid (I20.out.kept D.out)
    replace A3 := Lib.hid (A30.out.kept D.out)
    replace M := Lib.hid (M.out.keptN hg)
    replace A := Lib.hid (A.out.keptN hg)
    replace O2 := Lib.hid (O2.out.kept hg (fun g e => by cases e))
    clear hg
    obtain ⟨_, k0, k1, k2, k3, k4, k5⟩ := B.out
    generalize (u2).heap.size = xc at *
    have hnd : need - 1 = (N : Int) := by have := HN1.out; omega
    have hnb1 : 1 ≤ need := by omega
    have hnb2 : need ≤ 5 := by have := (ts_facts HTS.out).1; omega
    have hNc : N ≤ c3 := by omega
    have hnt : (need - 1).toNat = N := by omega
    go_wp2_with (refine stop_store rfl ?_)
    refine ⟨trivial, ?_⟩
    refine wpList_store_one rfl 46 (.tmp 49) (.tmp 48) xc 5 (.slice (some ⟨b3, o3, none⟩) N c3) _ rfl rfl (K.out.cell 5) (K.out.free 5) (by kernel_rfl) rfl rfl rfl ?_
    clear k0 k1 k2 k3 k4 k5
    clear hnd hnt
    have hT : Blk (u3.setCell ⟨xc, 5, none⟩ (.slice (some ⟨b3, o3, none⟩) N c3)) xc #[.int .i64 need, .int .i64 many, .slice ag ng cg, .slice ac nc cc, .int .i64 msg, .slice (some ⟨b3, o3, none⟩) N c3] 48 := K.out.set 5 (.slice (some ⟨b3, o3, none⟩) N c3)
    have hg := Mem.grown_set u3 xc 5 (.slice (some ⟨b3, o3, none⟩) N c3)
    have O2' := O2.out.keptBlk K.out hg
    have A' := A.out.kept hg (by intro e; have e := Option.some.inj e; omega)
    have M' := M.out.kept hg (by intro e; have e := Option.some.inj e; omega)
    have D' := grown_new D.out (by omega) hg
    have G' := grown_new G.out (by omega) hg
    have B' := B.out.keptB (hg.block _ B.out.lt (by intro e; have e := Option.some.inj e; omega)) hg.size
    clear M A O2 K
    clear D G B I1 I2 A3 hg
    have D := Lib.hid D'; have G := Lib.hid G'; have B := Lib.hid B'
    have I1 := Lib.hid (I10.out.kept D.out); have I2 := Lib.hid (I20.out.kept D.out); have A3 := Lib.hid (A30.out.kept D.out)
    clear D' G' B'
    have K := Lib.hid hT; have A := Lib.hid A'; have O2 := Lib.hid O2'; have M := Lib.hid M'
    clear hT A' O2' M'
    generalize u3.setCell ⟨xc, 5, none⟩ (.slice (some ⟨b3, o3, none⟩) N c3) = u4 at *
    obtain ⟨t0, t1, t2, t3, t4, t5, _, _, _, _, _, _⟩ := A.out.all6
    go_wp2_with fail
    clear t0 t1 t2 t3 t4 t5
    refine (i32ok _ need many _ ng _ zg _ nc _ zc msg _ (n + 1) _ (catS S n (S 0)) I1.out I2.out (sh_own O2.out) hl1 hl2 (by omega)).mono ?_
    rintro e q1 ⟨rfl, hg⟩
    rw [HFA.out]
    replace G := Lib.hid (gtr G.out hg)
    replace D := Lib.hid (gtr D.out hg)
    replace B := Lib.hid (B.out.kept hg)
    replace I1 := Lib.hid (I10.out.kept D.out)
    replace I2 := Lib.hid (I20.out.kept D.out)
    replace A3 := Lib.hid (A30.out.kept D.out)
    replace M := Lib.hid (M.out.keptN hg)
    replace A := Lib.hid (A.out.keptN hg)
    replace O2 := Lib.hid (O2.out.kept hg (fun g e => by cases e))
    replace K := Lib.hid (K.out.keptN hg)
    clear hg
    obtain ⟨t0, t1, t2, t3, t4, t5, _, _, _, _, _, _⟩ := M.out.all6
    go_wp2_with fail
    clear t0 t1 t2 t3 t4 t5
    refine (i32ok _ need many _ ng _ zg _ nc _ zc 100 _ n _ S I1.out I2.out A3.out hl1 hl2 hl3).mono ?_
    rintro e q2 ⟨rfl, hg⟩
    rw [form_b]
    replace G := Lib.hid (gtr G.out hg)
    replace D := Lib.hid (gtr D.out hg)
    replace B := Lib.hid (B.out.kept hg)
    replace I1 := Lib.hid (I10.out.kept D.out)
    replace I2 := Lib.hid (I20.out.kept D.out)
    replace A3 := Lib.hid (A30.out.kept D.out)
    replace M := Lib.hid (M.out.keptN hg)
    replace A := Lib.hid (A.out.keptN hg)
    replace O2 := Lib.hid (O2.out.kept hg (fun g e => by cases e))
    replace K := Lib.hid (K.out.keptN hg)
    clear hg
    obtain ⟨t0, t1, t2, t3, t4, t5, _, _, _, _, _, _⟩ := K.out.all6
    go_wp2_with fail
    clear t0 t1 t2 t3 t4 t5
    refine (i32ok _ need many _ ng _ zg _ nc _ zc msg _ N _ S I1.out I2.out (sh_less A3.out (by omega)) hl1 hl2 (by omega)).mono ?_
    rintro e q3 ⟨rfl, hg⟩
    rw [HFC.out]
    replace G := Lib.hid (gtr G.out hg)
    replace D := Lib.hid (gtr D.out hg)
    replace B := Lib.hid (B.out.kept hg)
    replace I1 := Lib.hid (I10.out.kept D.out)
    replace I2 := Lib.hid (I20.out.kept D.out)
    replace A3 := Lib.hid (A30.out.kept D.out)
    replace M := Lib.hid (M.out.keptN hg)
    replace A := Lib.hid (A.out.keptN hg)
    replace O2 := Lib.hid (O2.out.kept hg (fun g e => by cases e))
    replace K := Lib.hid (K.out.keptN hg)
    clear hg
    have hdn : decide (need ≤ (n : Int)) = true := decide_eq_true (by have := HN1.out; omega)
    obtain ⟨_, k0, k1, k2, k3, k4, k5⟩ := B.out
    go_wp2
    go_ret
    exact ⟨Mem.ret_b (by have := HN1.out; simp <;> omega), Draw.below_of G.out⟩
end Run
end Go.Proofs.Yteibklnonlapoaa
