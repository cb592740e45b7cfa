/-
  Whole slices appended to an empty one; the model's copy of a key.
-/
import Derived.Test.YthbigmcklacbnaaGreatDoorTd
namespace Go.Proofs.YthbigmcklacbnaaGreatDoor
namespace Con
open Go.RowKit Alg Mem Draw Hd
set_option linter.unusedVariables false

/-- What a slice may be. -/
def Sl (a : Option Addr) (n c : Nat) : Prop := (∃ ad, a = some ad) ∨ (a = none ∧ n = 0)
theorem ints_sl {w : World} {a : Option Addr} {n c : Nat} {z : Nat → Int} (h : Ints w a n z) : Sl a n c := by
  rcases h with h | ⟨b, off, e, _⟩
  · cases a with
    | none => exact .inr ⟨rfl, h⟩
    | some ad => exact .inl ⟨ad, rfl⟩
  · exact .inl ⟨_, e⟩
theorem sh_sl {w : World} {a : Option Addr} {n c : Nat} {S : Nat → SV} (h : ShIn w a n S) : Sl a n c := by
  rcases h with h | ⟨b, off, e, _⟩
  · cases a with
    | none => exact .inr ⟨rfl, h⟩
    | some ad => exact .inl ⟨ad, rfl⟩
  · exact .inl ⟨_, e⟩
theorem ints_newsA {w : World} {ad : Addr} {n : Nat} {z : Nat → Int} (hI : Ints w (some ad) n z) : ∀ j u, (vals z n)[j]? = some u → w.cell? (ad.add j) = some u := by
  rcases hI with h0 | ⟨b, off, e, hb, hc⟩
  · subst h0; intro j u hu; simp [vals] at hu
  · injection e with e; subst e; exact ints_news (.inr ⟨b, off, rfl, hb, hc⟩)
theorem append_owned_none {P : Program} {w : World} (base : Nat) (t ty e : TypeId) (i : TypeInfo) (size : Nat) (ht : P.underlying t = some (.slice e)) (hi : P.info? e = some i)
    (v : Value) (n c : Nat) (xs : List Value) (hown : w.ownsRow base e size v n xs) :
    (Builtin.append_ #[t, t] ty #[v, .slice none 0 c]).run P w = .ok v w := by
  rcases hown.2 with ⟨rfl, rfl⟩ | ⟨g, cap, cur, rfl, _, _, hnc, _⟩
  · simp [Builtin.append_, run_underlying ht, sizeOf, typeInfo, hi, Builtin.lenOf, Builtin.firstCells]
  · simp [Builtin.append_, run_underlying ht, sizeOf, typeInfo, hi, Builtin.lenOf, Builtin.firstCells, hnc, storeCells]
theorem wpList_append_none {P : Program} {w : World} {ops : Array Oper} {rest : List Oper} {o : Oper} {a : Act} {Q : Exit → Act → World → Prop} (hgd : o.guard = none) (s x : Operand) (t : TypeId)
    (ho : o.op = .call { callee := .builtin .append, args := #[s, x], argTypes := #[t, t] })
    (base : Nat) (e : TypeId) (i : TypeInfo) (size : Nat) (ht : P.underlying t = some (.slice e)) (hi : P.info? e = some i)
    (v : Value) (n c : Nat) (xs : List Value) (hs : a.eval s = v) (hown : w.ownsRow base e size v n xs) (hx : a.eval x = .slice none 0 c)
    (h : wpList P ops Q rest (a.put o.dst v) w) : wpList P ops Q (o :: rest) a w := by
  refine wpList_plain hgd fun K hK => ?_
  have hrun := append_owned_none (P := P) (w := w) base t o.type e i size ht hi v n c xs hown
  unfold Oper.wp
  simp [execOp, ho, resolve, invoke, builtin, hs, hx, hrun, Result.andThen]
  exact hK _ _ h
/-- A slice of ints of the call's own. -/
def OI (w : World) (lo b n c : Nat) (z : Nat → Int) : Prop := w.ownsRow lo 3 1 (.slice (some ⟨b, 0, none⟩) n c) n (vals z n)
theorem OI.lt {w : World} {lo b n c : Nat} {z : Nat → Int} (h : OI w lo b n c z) : lo ≤ b ∧ b < w.heap.size := World.ownsRow.lt h b rfl
theorem OI.le {w : World} {lo b n c : Nat} {z : Nat → Int} (h : OI w lo b n c z) : n ≤ c ∧ c ≤ maxLen := by
  rcases h.2 with ⟨hv, _⟩ | ⟨g, c', cur, hv, hb, _, hn, hm, _⟩
  · cases hv
  · injection hv with h1 h2 h3; subst h3; exact ⟨hn, hm⟩
theorem OI.ints {w : World} {lo b n c : Nat} {z : Nat → Int} (h : OI w lo b n c z) : Ints w (some ⟨b, 0, none⟩) n z :=
  .inr ⟨b, 0, rfl, h.lt.2, fun j hj => by rw [Nat.zero_add]; exact (World.ownsRow.cellAt h j (by omega)).trans (vals_get z hj)⟩
theorem OI.kept {w w' : World} {lo b n c : Nat} {z : Nat → Int} {r : Option Nat} (h : OI w lo b n c z) (hg : w.grownBy w' r) (hne : some b ≠ r) : OI w' lo b n c z := World.ownsRow.kept h hg (.inr hne)
theorem OI.keptN {w w' : World} {lo b n c : Nat} {z : Nat → Int} (h : OI w lo b n c z) (hg : w.grownBy w' none) : OI w' lo b n c z := h.kept hg (by simp)
theorem OI.lower {w : World} {lo lo' b n c : Nat} {z : Nat → Int} (h : OI w lo b n c z) (hl : lo' ≤ lo) : OI w lo' b n c z := owns_lower h hl
theorem own_oi {w : World} {lo : Nat} {v : Value} {n : Nat} {z : Nat → Int} (h : w.ownsRow lo 3 1 v n (vals z n)) (hv : v ≠ .slice none 0 0) : ∃ b c, v = .slice (some ⟨b, 0, none⟩) n c ∧ OI w lo b n c z := by
  rcases h.2 with ⟨hv', _⟩ | ⟨g, c, cur, hv', _⟩
  · exact absurd hv' hv
  · rw [hv'] at h
    exact ⟨g, c, hv', h⟩
set_option maxRecDepth 100000 in
theorem wpList_append_whole {ops : Array Oper} {rest : List Oper} {o : Oper} {act : Act} {w : World} {Q : Exit → Act → World → Prop} (hgd : o.guard = none) (s x : Operand)
    (ho : o.op = .call { callee := .builtin .append, args := #[s, x], argTypes := #[23, 23] }) (base g : Nat) (hs : act.eval s = .slice (some ⟨g, 0, none⟩) 0 0) (hown : w.ownsRow base 3 1 (.slice (some ⟨g, 0, none⟩) 0 0) 0 [])
    (a : Option Addr) (n c : Nat) (z : Nat → Int) (hx : act.eval x = .slice a n c) (hI : Ints w a n z) (hsl : Sl a n c) (hn : n ≤ 2000000) (hbase : base ≤ w.heap.size)
    (h : ∀ b c' w', OI w' base b n c' z → w.grownBy w' (some g) → wpList Tryz.prog ops Q rest (act.put o.dst (.slice (some ⟨b, 0, none⟩) n c')) w') : wpList Tryz.prog ops Q (o :: rest) act w := by
  obtain ⟨i0, hi, hz0, hz1, hz2⟩ := info_parts info_int
  rcases hsl with ⟨ad, rfl⟩ | ⟨rfl, rfl⟩
  · refine wpList_append_own _ hgd s x _ ho base 3 i0 (.int .i64 0) 1 8 und_ints hi hz0 hz1 hz2 rfl (by decide) _ 0 [] hs hown ad n c (vals z n) hx (by simp [vals_length]) (ints_newsA hI) (vals_one _ _) (by unfold maxLen; omega) (by omega) hbase ?_
    intro v' w' ho' hg' hv'
    rw [Nat.zero_add, List.nil_append] at ho'
    obtain ⟨b', c', rfl, hI'⟩ := own_oi ho' (fun e => by have := (hv'.1 e).1; cases this)
    exact h b' c' w' hI' hg'
  · refine wpList_append_none hgd s x _ ho base 3 i0 1 und_ints hi _ 0 c [] hs hown hx ?_
    exact h g 0 w hown (grown_refl w _)
/-- A key's copy. -/
def KeyC (w : World) (need many : Int) (ng : Nat) (zg : Nat → Int) (nc : Nat) (zc : Nat → Int) (e : Ending) (w' : World) : Prop :=
  ∃ b1 c1 b2 c2, e = .returned (.agg #[.int .i64 need, .int .i64 many, .slice (some ⟨b1, 0, none⟩) ng c1, .slice (some ⟨b2, 0, none⟩) nc c2]) ∧ OI w' w.heap.size b1 ng c1 zg ∧ OI w' w.heap.size b2 nc c2 zc ∧ w.grownBy w' none
set_option maxRecDepth 100000 in
set_option maxHeartbeats 4000000 in
theorem s12copy (w : World) (need many : Int) (ag : Option Addr) (ng cg : Nat) (zg : Nat → Int) (ac : Option Addr) (nc cc : Nat) (zc : Nat → Int) (hG : Ints w ag ng zg) (hC : Ints w ac nc zc) (hsg : Sl ag ng cg) (hsc : Sl ac nc cc) (hl1 : ng ≤ 2000000) (hl2 : nc ≤ 2000000) :
    Calls Tryz.prog 18 #[.agg #[.int .i64 need, .int .i64 many, .slice ag ng cg, .slice ac nc cc]] w (KeyC w need many ng zg nc zc) := by
  have hs0 : ((w.alloc (.cells #[.int .i64 need, .int .i64 many, .slice ag ng cg, .slice ac nc cc] 25)).alloc (.cells #[.int .i64 0, .int .i64 0, .slice none 0 0, .slice none 0 0] 25)).heap.size = w.heap.size + 1 + 1 := by show ((w.heap.push _).push _).size = _; simp
  have G0 := Lib.hid (gtr (Draw.grown_alloc w (.cells #[.int .i64 need, .int .i64 many, .slice ag ng cg, .slice ac nc cc] 25) none) (Draw.grown_alloc _ (.cells #[.int .i64 0, .int .i64 0, .slice none 0 0, .slice none 0 0] 25) none))
  have K0 := Lib.hid ((Blk.new w #[.int .i64 need, .int .i64 many, .slice ag ng cg, .slice ac nc cc] 25).keptN (Draw.grown_alloc _ (.cells #[.int .i64 0, .int .i64 0, .slice none 0 0, .slice none 0 0] 25) none))
  have R0 := Lib.hid (blk_new2 w (.cells #[.int .i64 need, .int .i64 many, .slice ag ng cg, .slice ac nc cc] 25) #[.int .i64 0, .int .i64 0, .slice none 0 0, .slice none 0 0] 25)
  have he := (row_empty ((w.alloc (.cells #[.int .i64 need, .int .i64 many, .slice ag ng cg, .slice ac nc cc] 25)).alloc (.cells #[.int .i64 0, .int .i64 0, .slice none 0 0, .slice none 0 0] 25)) 3 zg).owns
  rw [hs0] at he
  have E1 := Lib.hid he
  have HG := Lib.hid ((hG.kept G0.out).kept (Draw.grown_alloc _ (.cells #[] 3) none)); have HC := Lib.hid hC
  have HS0 := Lib.hid hs0
  clear hG hC he hs0
  go_enter Tryz.func18, Tryz.ntmps18
  obtain ⟨k0, k1, k2, k3, f0, f1, f2, f3⟩ := K0.out.all4
  go_wp2_with (first
    | (at_builtin; refine wpList_append_whole rfl (.tmp 3) (.tmp 5) rfl (w.heap.size + 1 + 1) (w.heap.size + 1 + 1) rfl E1.out ag ng cg zg rfl HG.out hsg hl1 (by rw [World.size_alloc, HS0.out]; omega) ?_; intro b1 c1 w1 hI1 hg1; have hl1' := hI1.lt; have hgN := grown_newR (B := w.heap.size + 1 + 1) (Draw.grown_alloc _ (.cells #[] 3) none) (by rw [HS0.out]; exact Nat.le_refl _) hg1; have hsz1 := hgN.size; rw [HS0.out] at hsz1; have hK1 := K0.out.keptN hgN; have hR1 := R0.out.keptN hgN; have hgS := grown_set w1 w.heap.size 2 (.slice (some ⟨b1, 0, none⟩) ng c1); have HI1 := Lib.hid (hI1.kept hgS (by intro e; have e := Option.some.inj e; omega)); have G1 := Lib.hid (grown_new (gtr G0.out hgN) (Nat.le_refl _) hgS); have HC2 := Lib.hid ((HC.out.kept G1.out).kept (Draw.grown_alloc _ (.cells #[] 3) none)); have hE2 := (row_empty (w1.setCell ⟨w.heap.size, 2, none⟩ (.slice (some ⟨b1, 0, none⟩) ng c1)) 3 zc).owns; rw [World.size_setCell] at hE2; have E2 := Lib.hid hE2; have K1 := Lib.hid (hK1.set 2 (.slice (some ⟨b1, 0, none⟩) ng c1)); have R1 := Lib.hid (hR1.other (b' := w.heap.size) (i := 2) (v := .slice (some ⟨b1, 0, none⟩) ng c1) (by omega)); clear k0 k1 k2 k3 f0 f1 f2 f3; obtain ⟨k0, k1, k2, k3, f0, f1, f2, f3⟩ := hK1.all4; have hk1 := hK1.lt; clear hI1 hg1 hgN hK1 hR1 hgS hE2)
    | (at_builtin; refine wpList_append_whole rfl (.tmp 8) (.tmp 10) rfl w1.heap.size w1.heap.size rfl E2.out ac nc cc zc rfl HC2.out hsc hl2 (by rw [World.size_alloc, World.size_setCell]; omega) ?_; intro b2 c2 w2 hI2 hg2; have hl2' := hI2.lt; have hgN := grown_newR (B := w1.heap.size) (Draw.grown_alloc _ (.cells #[] 3) none) (by rw [World.size_setCell]; exact Nat.le_refl _) hg2; have hsz2 := hgN.size; rw [World.size_setCell] at hsz2; have hK2 := K1.out.keptN hgN; have hgS := grown_set w2 w.heap.size 3 (.slice (some ⟨b2, 0, none⟩) nc c2); have HR2 := Lib.hid ((R1.out.keptN hgN).other (b' := w.heap.size) (i := 3) (v := .slice (some ⟨b2, 0, none⟩) nc c2) (by omega)); have HI1' := Lib.hid ((HI1.out.keptN hgN).kept hgS (by intro e; have e := Option.some.inj e; omega)); have HI2 := Lib.hid (hI2.kept hgS (by intro e; have e := Option.some.inj e; omega)); have G2 := Lib.hid (grown_new (gtr G1.out hgN) (Nat.le_refl _) hgS); clear k0 k1 k2 k3 f0 f1 f2 f3; obtain ⟨k0, k1, k2, k3, f0, f1, f2, f3⟩ := hK2.all4; have hk2 := hK2.lt; clear hI2 hg2 hgN hK2 hgS)
    | (refine wpList_store_blk rfl 25 (.tmp 2) (.tmp 13) _ _ _ 25 HR2.out rfl rfl rfl rfl (by kernel_rfl) (by simp [Value.oneCell']) rfl ?_; intro V hgV hRV; have HGV := Lib.hid hgV; have HRV := Lib.hid hRV; clear hgV hRV))
  (try simp only [Exit.inBlock, Exit.then])
  refine bodyPost_ret (ret_key rfl _ rfl HRV.out) rfl ?_
  exact ⟨b1, c1, b2, c2, rfl, (HI1'.out.kept HGV.out (by intro e; have e := Option.some.inj e; omega)).lower (by omega), (HI2.out.kept HGV.out (by intro e; have e := Option.some.inj e; omega)).lower (by omega), grown_new G2.out (by omega) HGV.out⟩
end Con
end Go.Proofs.YthbigmcklacbnaaGreatDoor
