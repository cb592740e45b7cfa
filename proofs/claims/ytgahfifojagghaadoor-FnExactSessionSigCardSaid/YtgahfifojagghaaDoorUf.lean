/-
  Sessions: the program's sittings, errors of parts, SessionSig.
-/
import Derived.Test.YtgahfifojagghaaDoorUa
import Derived.Test.YtgahfifojagghaaDoorUs
import Derived.Test.YtgahfifojagghaaDoorTd
namespace Go.Proofs.YtgahfifojagghaaDoor
namespace Con
open Go.RowKit Alg Mem Draw Hd
set_option linter.unusedVariables false

/-- The program's error value for a part that is not in lies where it was laid. -/
def Np (w : World) (a0 : Addr) : Prop := w.cell? ⟨0, 0, none⟩ = some (.iface 110 (.pointer (some a0)))
theorem Np.lt {w : World} {a0 : Addr} (h : Np w a0) : 0 < w.heap.size := by
  rcases Nat.lt_or_ge 0 w.heap.size with h' | h'
  · exact h'
  · unfold Np at h; simp [World.cell?, Array.getElem?_eq_none h'] at h
theorem Np.kept {w w' : World} {a0 : Addr} (h : Np w a0) (hg : w.grownBy w' none) : Np w' a0 := by
  have hl := h.lt
  unfold Np at *
  rw [World.cell?_of_block (w := w) (hg.block _ hl (by simp))]; exact h
/-- What is said of a part. -/
def peV (a0 : Addr) (on fits : Bool) (m : Int) : Value := if on then (if fits then .nilIface else .iface 70 (.agg #[.int .i64 m])) else .iface 110 (.pointer (some a0))
set_option maxRecDepth 100000 in
set_option maxHeartbeats 4000000 in
theorem iperr (w : World) (need many : Int) (ag : Option Addr) (ng cg : Nat) (zg : Nat → Int) (ac : Option Addr) (nc cc : Nat) (zc : Nat → Int) (am : Option Addr) (nm cm : Nat) (zm : Nat → Int) (msg r : Int) (s : SV) (a0 : Addr) (hG : Ints w ag ng zg) (hC : Ints w ac nc zc) (hM : Ints w am nm zm) (hl1 : ng ≤ 2000000) (hl2 : nc ≤ 2000000) (hl3 : nm ≤ 2000000) (hc : nm ≤ cm) (hm : cm ≤ maxLen) (hN : Np w a0) :
    Calls Tryd.prog 19 #[.agg #[.int .i64 need, .int .i64 many, .slice ag ng cg, .slice ac nc cc, .int .i64 msg, .slice am nm cm, .int .i64 r], .agg #[.int .i64 s.m, .int .i64 s.R, .bool s.on, .int .i64 s.Z]] w fun e w' => e = .returned (peV a0 s.on (sfF need many ng zg nc zc nm zm s.m s.R r msg s.Z) s.m) ∧ w.grownBy w' none := by
  obtain ⟨m, R, on, Z⟩ := s
  have G := Lib.hid (gtr (Draw.grown_alloc w (.cells #[.int .i64 need, .int .i64 many, .slice ag ng cg, .slice ac nc cc, .int .i64 msg, .slice am nm cm, .int .i64 r] 52) none) (Draw.grown_alloc _ (.cells #[.int .i64 m, .int .i64 R, .bool on, .int .i64 Z] 46) none))
  have T := Lib.hid ((Blk.new w #[.int .i64 need, .int .i64 many, .slice ag ng cg, .slice ac nc cc, .int .i64 msg, .slice am nm cm, .int .i64 r] 52).keptN (Draw.grown_alloc _ (.cells #[.int .i64 m, .int .i64 R, .bool on, .int .i64 Z] 46) none))
  have B := Lib.hid (blk_new2 w (.cells #[.int .i64 need, .int .i64 many, .slice ag ng cg, .slice ac nc cc, .int .i64 msg, .slice am nm cm, .int .i64 r] 52) #[.int .i64 m, .int .i64 R, .bool on, .int .i64 Z] 46)
  have HG := Lib.hid (hG.kept G.out); have HC := Lib.hid (hC.kept G.out); have HM := Lib.hid (hM.kept G.out); have HN := Lib.hid (hN.kept G.out)
  clear hG hC hM hN
  go_enter Tryd.func19, Tryd.ntmps19
  have b2 : World.cell? _ ⟨w.heap.size + 1, 2, none⟩ = some (.bool on) := B.out.cell 2
  cases on with
  | false =>
    have hn : World.cell? _ ⟨0, 0, none⟩ = some (.iface 110 (.pointer (some a0))) := HN.out
    go_wp2
    go_ret
    exact ⟨rfl, G.out⟩
  | true =>
    have t0 : World.cell? _ ⟨w.heap.size, 0, none⟩ = some (.int .i64 need) := T.out.cell 0
    have t1 : World.cell? _ ⟨w.heap.size, 1, none⟩ = some (.int .i64 many) := T.out.cell 1
    have t2 : World.cell? _ ⟨w.heap.size, 2, none⟩ = some (.slice ag ng cg) := T.out.cell 2
    have t3 : World.cell? _ ⟨w.heap.size, 3, none⟩ = some (.slice ac nc cc) := T.out.cell 3
    have t4 : World.cell? _ ⟨w.heap.size, 4, none⟩ = some (.int .i64 msg) := T.out.cell 4
    have t5 : World.cell? _ ⟨w.heap.size, 5, none⟩ = some (.slice am nm cm) := T.out.cell 5
    have t6 : World.cell? _ ⟨w.heap.size, 6, none⟩ = some (.int .i64 r) := T.out.cell 6
    have b0 : World.cell? _ ⟨w.heap.size + 1, 0, none⟩ = some (.int .i64 m) := B.out.cell 0
    have b1 : World.cell? _ ⟨w.heap.size + 1, 1, none⟩ = some (.int .i64 R) := B.out.cell 1
    have b3 : World.cell? _ ⟨w.heap.size + 1, 3, none⟩ = some (.int .i64 Z) := B.out.cell 3
    go_wp2_with fail
    refine (ifits _ need many _ ng _ zg _ nc _ zc _ nm _ zm m R r msg Z HG.out HC.out HM.out hl1 hl2 hl3 hc hm).mono ?_
    rintro e w1 ⟨rfl, hg⟩
    replace G := Lib.hid (gtr G.out hg)
    replace T := Lib.hid (T.out.keptN hg)
    replace B := Lib.hid (B.out.keptN hg)
    replace HG := Lib.hid (HG.out.kept hg)
    replace HC := Lib.hid (HC.out.kept hg)
    replace HM := Lib.hid (HM.out.kept hg)
    replace HN := Lib.hid (HN.out.kept hg)
    clear hg
    clear t0 t1 t2 t3 t4 t5 t6 b0 b1 b2 b3
    cases hf : sfF need many ng zg nc zc nm zm m R r msg Z with
    | true =>
      have HF := Lib.hid hf; clear hf
      go_wp2
      go_ret
      exact ⟨by unfold peV; rw [HF.out]; rfl, G.out⟩
    | false =>
      have HF := Lib.hid hf; clear hf
      have b0 : w1.cell? ⟨w.heap.size + 1, 0, none⟩ = some (.int .i64 m) := B.out.cell 0
      go_wp2
      go_ret
      exact ⟨by unfold peV; rw [HF.out]; rfl, G.out⟩
/-- The sitting of a session. -/
def Sit (w : World) (need many : Int) (ag : Option Addr) (ng cg : Nat) (zg : Nat → Int) (ac : Option Addr) (nc cc : Nat) (zc : Nat → Int) (msg : Int) (len : Nat) (S : Nat → SV) (e : Ending) (w' : World) : Prop :=
  if tsF need many ng zg nc zc msg len S = true then ∃ b, e = .returned (.tuple #[.agg #[.int .i64 need, .int .i64 many, .slice ag ng cg, .slice ac nc cc, .int .i64 msg, .slice (some ⟨b, 0, none⟩) len len, .int .i64 (rP S len)], .bool true]) ∧ Ints w' (some ⟨b, 0, none⟩) len (mS S) ∧ w.grownBy w' none
  else e = .returned (.tuple #[.agg #[.int .i64 0, .int .i64 0, .slice none 0 0, .slice none 0 0, .int .i64 0, .slice none 0 0, .int .i64 0], .bool false]) ∧ w.grownBy w' none
theorem size_sit : (Tryd.prog.info? 52).map (·.size) = some 7 := by kernel_rfl
theorem ret_sit {fn : Func} {p u : Tmp} (h : fn.results = #[.cell p 52, .tmp u]) (tmps : Array Value) {w : World} {b : Nat} {v0 v1 v2 v3 v4 v5 v6 : Value} {T : TypeId} (hp : tmps.getD p undef = .pointer (some ⟨b, 0, none⟩)) (hb : Blk w b #[v0, v1, v2, v3, v4, v5, v6] T) :
    (results fn tmps).run Tryd.prog w = .ok (.tuple #[.agg #[v0, v1, v2, v3, v4, v5, v6], tmps.getD u undef]) w := by
  have hp' : tmps[p]?.getD undef = .pointer (some ⟨b, 0, none⟩) := by simpa using hp
  simp [results, h, hp', asAddr, run_loadVar_row w b T 52 #[v0, v1, v2, v3, v4, v5, v6] (0, 0) _ hb Tryd.underlying52 rfl size_sit, Result.andThen]
set_option maxRecDepth 100000 in
set_option maxHeartbeats 4000000 in
theorem isit (w : World) (need many : Int) (ag : Option Addr) (ng cg : Nat) (zg : Nat → Int) (ac : Option Addr) (nc cc : Nat) (zc : Nat → Int) (msg : Int) (a : Option Addr) (len cap : Nat) (S : Nat → SV) (hG : Ints w ag ng zg) (hC : Ints w ac nc zc) (hS : ShIn w a len S) (hl1 : ng ≤ 2000000) (hl2 : nc ≤ 2000000) (hl : len ≤ 2000000) :
    Calls Tryd.prog 18 #[.agg #[.int .i64 need, .int .i64 many, .slice ag ng cg, .slice ac nc cc, .int .i64 msg, .slice a len cap]] w (Sit w need many ag ng cg zg ac nc cc zc msg len S) := by
  have G := Lib.hid (gtr (Draw.grown_alloc w (.cells #[.int .i64 need, .int .i64 many, .slice ag ng cg, .slice ac nc cc, .int .i64 msg, .slice a len cap] 36) none) (Draw.grown_alloc _ (.cells #[.int .i64 0, .int .i64 0, .slice none 0 0, .slice none 0 0, .int .i64 0, .slice none 0 0, .int .i64 0] 52) none))
  have K := Lib.hid ((Ss.of_blk (Blk.new w #[.int .i64 need, .int .i64 many, .slice ag ng cg, .slice ac nc cc, .int .i64 msg, .slice a len cap] 36)).kept (Draw.grown_alloc _ (.cells #[.int .i64 0, .int .i64 0, .slice none 0 0, .slice none 0 0, .int .i64 0, .slice none 0 0, .int .i64 0] 52) none))
  have R := Lib.hid (blk_new2 w (.cells #[.int .i64 need, .int .i64 many, .slice ag ng cg, .slice ac nc cc, .int .i64 msg, .slice a len cap] 36) #[.int .i64 0, .int .i64 0, .slice none 0 0, .slice none 0 0, .int .i64 0, .slice none 0 0, .int .i64 0] 52)
  have HG := Lib.hid (hG.kept G.out); have HC := Lib.hid (hC.kept G.out); have HA := Lib.hid (hS.kept G.out)
  clear hG hC hS
  go_enter Tryd.func18, Tryd.ntmps18
  obtain ⟨_, k0, k1, k2, k3, k4, k5⟩ := K.out
  go_wp2_with fail
  refine (i32ok _ need many _ ng _ zg _ nc _ zc msg _ len _ S HG.out HC.out HA.out hl1 hl2 hl).mono ?_
  rintro e w1 ⟨rfl, hg⟩
  clear k0 k1 k2 k3 k4 k5
  replace G := Lib.hid (gtr G.out hg)
  replace K := Lib.hid (K.out.kept hg)
  replace R := Lib.hid (R.out.keptN hg)
  replace HG := Lib.hid (HG.out.kept hg)
  replace HC := Lib.hid (HC.out.kept hg)
  replace HA := Lib.hid (HA.out.kept hg)
  clear hg
  obtain ⟨_, k0, k1, k2, k3, k4, k5⟩ := K.out
  cases h1 : tsF need many ng zg nc zc msg len S with
  | false =>
    have H1 := Lib.hid h1
    go_wp2_with (first
      | (refine wpList_store_blk rfl 52 (.tmp 2) (.tmp 7) _ _ _ 52 R.out rfl rfl rfl rfl (by kernel_rfl) (by simp [Value.oneCell']) rfl ?_; intro V hgV hRV; have HGV := Lib.hid hgV; have HRV := Lib.hid hRV; clear hgV hRV))
    (try simp only [Exit.inBlock, Exit.then])
    refine bodyPost_ret (ret_sit rfl _ rfl HRV.out) rfl ?_
    unfold Sit
    rw [if_neg (by rw [H1.out]; decide)]
    exact ⟨rfl, grown_new G.out (by omega) HGV.out⟩
  | true =>
    have H1 := Lib.hid h1; clear h1
    clear k0 k1 k2 k3 k4 k5
    go_wp2_with fail
    refine wp_region_held_drew (S := (fun w' => w'.cell? ⟨w.heap.size, 0, none⟩ = some (.int .i64 need) ∧ w'.cell? ⟨w.heap.size, 1, none⟩ = some (.int .i64 many) ∧ w'.cell? ⟨w.heap.size, 2, none⟩ = some (.slice ag ng cg) ∧ w'.cell? ⟨w.heap.size, 3, none⟩ = some (.slice ac nc cc) ∧ w'.cell? ⟨w.heap.size, 4, none⟩ = some (.int .i64 msg) ∧ w'.cell? ⟨w.heap.size, 5, none⟩ = some (.slice a len cap))) (by kernel_rfl) (⟨K.out.c0, K.out.c1, K.out.c2, K.out.c3, K.out.c4, K.out.c5⟩) (fun hHeld => ?_)
    have hg := Draw.gdrew w1
    replace G := Lib.hid (gtr G.out hg)
    replace K := Lib.hid (K.out.kept hg)
    replace R := Lib.hid (R.out.keptN hg)
    replace HG := Lib.hid (HG.out.kept hg)
    replace HC := Lib.hid (HC.out.kept hg)
    replace HA := Lib.hid (HA.out.kept hg)
    clear hg
    generalize w1.drew = W at *
    refine wpAnyH_take (i := 0) (oi := ⟨some 8, _, _, _, _, _⟩) (v := ?_) rfl (by kernel_rfl) (by kernel_rfl) (by kernel_rfl) (fun _ _ _ h => h) (Or.inl ⟨by rfl, ?_⟩) (by assumption) ?_
    rotate_left
    · intro w hSw; (try dsimp only at hSw); go_simp; try with_reducible rfl
    simp only [Act.put, List.setIfInBounds_toArray, List.set_cons_zero, List.set_cons_succ]
    refine wpAnyH_take (i := 1) (oi := ⟨some 9, _, _, _, _, _⟩) (v := ?_) rfl (by kernel_rfl) (by kernel_rfl) (by kernel_rfl) (fun _ _ _ h => h) (Or.inl ⟨by rfl, ?_⟩) (by assumption) ?_
    rotate_left
    · intro w hSw; (try dsimp only at hSw); go_simp; try with_reducible rfl
    simp only [Act.put, List.setIfInBounds_toArray, List.set_cons_zero, List.set_cons_succ]
    refine wpAnyH_take (i := 2) (oi := ⟨some 10, _, _, _, _, _⟩) (v := ?_) rfl (by kernel_rfl) (by kernel_rfl) (by kernel_rfl) (fun _ _ _ h => h) (Or.inl ⟨by rfl, ?_⟩) (by assumption) ?_
    rotate_left
    · intro w hSw; (try dsimp only at hSw); go_simp; try with_reducible rfl
    simp only [Act.put, List.setIfInBounds_toArray, List.set_cons_zero, List.set_cons_succ]
    refine wpAnyH_take (i := 3) (oi := ⟨some 11, _, _, _, _, _⟩) (v := ?_) rfl (by kernel_rfl) (by kernel_rfl) (by kernel_rfl) (fun _ _ _ h => h) (Or.inl ⟨by rfl, ?_⟩) (by assumption) ?_
    rotate_left
    · intro w hSw; (try dsimp only at hSw); go_simp; try with_reducible rfl
    simp only [Act.put, List.setIfInBounds_toArray, List.set_cons_zero, List.set_cons_succ]
    refine wpAnyH_take (i := 4) (oi := ⟨some 12, _, _, _, _, _⟩) (v := ?_) rfl (by kernel_rfl) (by kernel_rfl) (by kernel_rfl) (fun _ _ _ h => h) (Or.inl ⟨by rfl, ?_⟩) (by assumption) ?_
    rotate_left
    · intro w hSw; (try dsimp only at hSw); go_simp; try with_reducible rfl
    simp only [Act.put, List.setIfInBounds_toArray, List.set_cons_zero, List.set_cons_succ]
    refine wpAnyH_take (i := 6) (oi := ⟨some 14, _, _, _, _, _⟩) (v := ?_) rfl (by kernel_rfl) (by kernel_rfl) (by kernel_rfl) (fun _ _ _ h => h) (Or.inl ⟨by rfl, ?_⟩) (by assumption) ?_
    rotate_left
    · intro w hSw; (try dsimp only at hSw); go_simp; try with_reducible rfl
    simp only [Act.put, List.setIfInBounds_toArray, List.set_cons_zero, List.set_cons_succ]
    refine wpAnyH_ready (rs := [5]) (by kernel_rfl) (by simp) ?_
    refine AllReadyH.cons (o := ⟨some 13, _, _, _, _, _⟩) rfl (fun Kq hKq => ?_) AllReadyH.nil
    go_simp
    go_at_call 34
    refine (isgnof _ need many _ _ msg _ len _ S HA.out hl).mono ?_
    rintro e w2 ⟨bm, rfl, hrow, hg⟩
    have hR := R.out.lt
    have M := Lib.hid (IR.of_row hrow)
    have hbm := hrow.from_
    clear hrow
    replace G := Lib.hid (gtr G.out hg)
    replace K := Lib.hid (K.out.kept hg)
    replace R := Lib.hid (R.out.keptN hg)
    replace HG := Lib.hid (HG.out.kept hg)
    replace HC := Lib.hid (HC.out.kept hg)
    replace HA := Lib.hid (HA.out.kept hg)
    clear hg
    refine hKq.out _ _ (⟨K.out.c0, K.out.c1, K.out.c2, K.out.c3, K.out.c4, K.out.c5⟩) (fun hHeld => ?_)
    clear hKq Kq
    refine wpAnyH_ready (rs := [7]) (by kernel_rfl) (by simp) ?_
    refine AllReadyH.cons (o := ⟨some 15, _, _, _, _, _⟩) rfl (fun Kq hKq => ?_) AllReadyH.nil
    go_simp
    go_at_call 35
    refine (isesR _ need many _ ng _ zg _ nc _ zc msg _ len _ S HG.out HC.out HA.out hl1 hl2 hl).mono ?_
    rintro e w3 ⟨rfl, hg⟩
    rw [sr_yes H1.out]
    replace G := Lib.hid (gtr G.out hg)
    replace K := Lib.hid (K.out.kept hg)
    replace R := Lib.hid (R.out.keptN hg)
    replace HG := Lib.hid (HG.out.kept hg)
    replace HC := Lib.hid (HC.out.kept hg)
    replace HA := Lib.hid (HA.out.kept hg)
    replace M := Lib.hid (M.out.keptN hg)
    clear hg
    refine hKq.out _ _ (⟨K.out.c0, K.out.c1, K.out.c2, K.out.c3, K.out.c4, K.out.c5⟩) (fun hHeld => ?_)
    clear hKq Kq
    refine wpAnyH_take (i := 8) (oi := ⟨some 16, _, _, _, _, _⟩) (v := ?_) rfl (by kernel_rfl) (by kernel_rfl) (by kernel_rfl) (fun _ _ _ h => h) (Or.inl ⟨by rfl, ?_⟩) (by assumption) ?_
    rotate_left
    · intro w hSw; (try dsimp only at hSw); go_simp; try with_reducible rfl
    simp only [Act.put, List.setIfInBounds_toArray, List.set_cons_zero, List.set_cons_succ]
    clear HG HC HA
    refine wpAnyH_ready (rs := [9]) (by kernel_rfl) (by simp) ?_
    refine AllReadyH.cons (o := ⟨none, _, _, _, _, _⟩) rfl (fun Kq hKq => ?_) AllReadyH.nil
    rw [if_pos (by rfl)]
    refine wp_store_blk 52 (.tmp 2) (.tmp 16) _ _ _ 52 R.out rfl rfl rfl rfl (by kernel_rfl) (by simp [Value.oneCell']) rfl ?_
    intro V hg hT
    replace R := Lib.hid hT
    replace G := Lib.hid (grown_new G.out (by omega) hg)
    replace K := Lib.hid (K.out.keptB (hg.block _ K.out.lt (by intro e; have e := Option.some.inj e; omega)) hg.size)
    replace M := Lib.hid (M.out.kept hg (by omega))
    clear hg
    clear hT
    refine hKq.out _ _ (⟨K.out.c0, K.out.c1, K.out.c2, K.out.c3, K.out.c4, K.out.c5⟩) (fun hHeld => ?_)
    clear hKq Kq
    refine wpAnyH_take (i := 10) (oi := ⟨some 3, _, _, _, _, _⟩) (v := ?_) rfl (by kernel_rfl) (by kernel_rfl) (by kernel_rfl) (fun _ _ _ h => h) (Or.inl ⟨by rfl, ?_⟩) (by assumption) ?_
    rotate_left
    · intro w hSw; (try dsimp only at hSw); go_simp; try with_reducible rfl
    simp only [Act.put, List.setIfInBounds_toArray, List.set_cons_zero, List.set_cons_succ]
    refine wpAnyH_done (by kernel_rfl) ?_ _
    go_wp2
    (try simp only [Exit.inBlock, Exit.then])
    refine bodyPost_ret (ret_sit rfl _ rfl R.out) rfl ?_
    unfold Sit
    rw [if_pos H1.out]
    exact ⟨bm, rfl, M.out.i, G.out⟩
end Con
end Go.Proofs.YtgahfifojagghaaDoor
