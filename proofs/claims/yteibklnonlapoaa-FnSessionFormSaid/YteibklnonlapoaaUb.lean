/-
  Sessions: the program's copies, SessionNew and SessionPut.
-/
import Derived.Test.YteibklnonlapoaaUa
import Derived.Test.YteibklnonlapoaaTj
namespace Go.Proofs.Yteibklnonlapoaa
namespace Con
open Go.RowKit Alg Mem Draw Hd
set_option linter.unusedVariables false

/-- A slice of ints of the call's own, or none. -/
def OE (w : World) (lo : Nat) (a : Option Addr) (n c : Nat) (z : Nat → Int) : Prop := w.ownsRow lo 3 1 (.slice a n c) n (vals z n)
theorem OE.sl {w : World} {lo : Nat} {a : Option Addr} {n c : Nat} {z : Nat → Int} (h : OE w lo a n c z) : Sl a n c := by
  rcases h.2 with ⟨hv, h0⟩ | ⟨g, c', cur, hv, _⟩
  · injection hv with e1 e2 e3; exact .inr ⟨e1, e2⟩
  · injection hv with e1 e2 e3; exact .inl ⟨_, e1⟩
theorem OE.ints {w : World} {lo : Nat} {a : Option Addr} {n c : Nat} {z : Nat → Int} (h : OE w lo a n c z) : Ints w a n z := by
  rcases h.2 with ⟨hv, h0⟩ | ⟨g, c', cur, hv, _⟩
  · exact .inl h0
  · injection hv with e1 e2 e3; subst e1
    exact OI.ints (lo := lo) (c := c) h
theorem OE.lt {w : World} {lo : Nat} {a : Option Addr} {n c : Nat} {z : Nat → Int} (h : OE w lo a n c z) : ∀ b off, a = some ⟨b, off, none⟩ → lo ≤ b ∧ b < w.heap.size := fun b off e => by
  subst e; exact World.ownsRow.lt h b rfl
theorem OE.kept {w w' : World} {lo : Nat} {a : Option Addr} {n c : Nat} {z : Nat → Int} {r : Option Nat} (h : OE w lo a n c z) (hg : w.grownBy w' r) (hr : ∀ g, r = some g → g < lo) : OE w' lo a n c z := by
  refine World.ownsRow.kept h hg ?_
  cases hv : (Value.slice a n c).ownBlock with
  | none => exact .inl rfl
  | some b => right; intro e; have := hr b e.symm; have := (World.ownsRow.lt h b hv).1; omega
theorem OE.lower {w : World} {lo lo' : Nat} {a : Option Addr} {n c : Nat} {z : Nat → Int} (h : OE w lo a n c z) (hl : lo' ≤ lo) : OE w lo' a n c z := owns_lower h hl
theorem OE.keptBlk {w w' : World} {lo : Nat} {a : Option Addr} {n c b : Nat} {z : Nat → Int} {vs : Array Value} (h : OE w lo a n c z) (hb : Blk w b vs 48) (hg : w.grownBy w' (some b)) : OE w' lo a n c z :=
  World.ownsRow.kept h hg (.inr fun e => own_ne_b h hb (by decide) e.symm)
/-- Two that lie apart. -/
def Apt (a a' : Option Addr) : Prop := ∀ b off b' off', a = some ⟨b, off, none⟩ → a' = some ⟨b', off', none⟩ → b ≠ b'
theorem apt_of {w w' : World} {lo lo' : Nat} {a a' : Option Addr} {n c n' c' : Nat} {z z' : Nat → Int} (h : OE w lo a n c z) (h' : OE w' lo' a' n' c' z') (hl : w.heap.size ≤ lo') : Apt a a' := fun b off b' off' e e' => by
  have := (h.lt b off e).2; have := (h'.lt b' off' e').1; omega
theorem own_slice {w : World} {lo b n' c' n : Nat} {z : Nat → Int} {v : Value} (h : w.ownsRow lo 3 1 v n (vals z n)) : ∃ a c, v = .slice a n c := by
  rcases h.2 with ⟨hv, h0⟩ | ⟨g, c', cur, hv, _⟩
  · exact ⟨none, 0, by rw [hv, h0]⟩
  · exact ⟨_, _, hv⟩
set_option maxRecDepth 100000 in
theorem clone_int (w : World) (a : Option Addr) (len cap : Nat) (z : Nat → Int) (hI : Ints w a len z) (hs : Sl a len cap) (hl : len ≤ 2000000) :
    Calls Try.prog 111 #[.slice a len cap] w fun e w' => ∃ a' c', e = .returned (.slice a' len c') ∧ OE w' w.heap.size a' len c' z ∧ w.grownBy w' none := by
  have hq : ∀ (w : World) (a : Option Addr) (n c n' c' : Nat), (binOp .eql 34 (.slice a n c) (.slice none n' c')).run Try.prog w = .ok (.bool a.isNone) w := fun w a n c n' c' => Lib.run_eql_slice_nil w _ _ a n c n' c' und_ints
  rcases hs with ⟨ad, rfl⟩ | ⟨rfl, rfl⟩
  · have HI := Lib.hid (hI.kept (Draw.grown_alloc w (.cells #[] 3) none)); clear hI
    have he := (row_empty w 3 z).owns
    have E1 := Lib.hid he; clear he
    go_enter Try.func111, Try.ntmps111
    go_wp2_with (at_builtin; refine wpList_append_whole rfl _ _ rfl w.heap.size w.heap.size rfl E1.out (some ad) len cap z rfl HI.out (.inl ⟨ad, rfl⟩) hl (by simp) ?_; intro b1 c1 w1 hI1 hg1; have HI1 := Lib.hid hI1; have HG1 := Lib.hid hg1; clear hI1 hg1)
    go_ret
    exact ⟨_, _, rfl, HI1.out, grown_new (Draw.grown_alloc _ _ _) (Nat.le_refl _) HG1.out⟩
  · clear hI
    go_enter Try.func111, Try.ntmps111
    go_wp2
    go_ret
    exact ⟨_, _, rfl, ⟨rfl, .inl ⟨rfl, rfl⟩⟩, Draw.grown_refl _ _⟩
set_option maxRecDepth 100000 in
theorem wpList_append_sh {ops : Array Oper} {rest : List Oper} {o : Oper} {act : Act} {w : World} {Q : Exit → Act → World → Prop} (hgd : o.guard = none) (s x : Operand)
    (ho : o.op = .call { callee := .builtin .append, args := #[s, x], argTypes := #[46, 46] }) (base g : Nat) (S : Nat → SV) (hs : act.eval s = .slice (some ⟨g, 0, none⟩) 0 0) (hown : OwnSh w base (.slice (some ⟨g, 0, none⟩) 0 0) 0 S)
    (a : Option Addr) (n c : Nat) (hx : act.eval x = .slice a n c) (hI : ShIn w a n S) (hsl : Sl a n c) (hn : n ≤ 2000000) (hbase : base ≤ w.heap.size)
    (h : ∀ b c' w', OwnSh w' base (.slice (some ⟨b, 0, none⟩) n c') n S → w.grownBy w' (some g) → wpList Try.prog ops Q rest (act.put o.dst (.slice (some ⟨b, 0, none⟩) n c')) w') : wpList Try.prog ops Q (o :: rest) act w := by
  obtain ⟨i0, hi, hz0, hz1, hz2⟩ := info_parts info_shn
  rcases hsl with ⟨ad, rfl⟩ | ⟨rfl, rfl⟩
  · have hnews : ∀ j u, (cellsS S n)[j]? = some u → w.cell? (ad.add j) = some u := by
      rcases hI with h0 | ⟨b', off', e, _, hc⟩
      · subst h0; intro j u hu; simp [cellsS] at hu
      · injection e with e; subst e
        exact cellsS_in hc
    refine wpList_append_own _ hgd s x _ ho base 52 i0 (.agg #[.int .i64 0, .int .i64 0, .bool false, .int .i64 0]) 4 32 und_shns hi hz0 hz1 hz2 rfl (by decide) _ 0 (cellsS S 0) hs hown ad n c (cellsS S n) hx (cellsS_len S n) hnews (cellsS_one S n) (by unfold maxLen; omega) (by omega) hbase ?_
    intro v' w' ho' hg' hv'
    rw [Nat.zero_add, show cellsS S 0 ++ cellsS S n = cellsS S n from rfl] at ho'
    rcases ho'.2 with ⟨hv, _⟩ | ⟨g', c', cur, hv, _⟩
    · have := (hv'.1 hv).1; cases this
    · subst hv
      exact h g' c' w' ho' hg'
  · refine wpList_append_none hgd s x _ ho base 52 i0 4 und_shns hi _ 0 c (cellsS S 0) hs hown hx ?_
    exact h g 0 w hown (grown_refl w _)
set_option maxRecDepth 100000 in
theorem clone_sh (w : World) (a : Option Addr) (len cap : Nat) (S : Nat → SV) (hI : ShIn w a len S) (hs : Sl a len cap) (hl : len ≤ 2000000) :
    Calls Try.prog 114 #[.slice a len cap] w fun e w' => ∃ a' c', e = .returned (.slice a' len c') ∧ OwnSh w' w.heap.size (.slice a' len c') len S ∧ w.grownBy w' none := by
  have hq : ∀ (w : World) (a : Option Addr) (n c n' c' : Nat), (binOp .eql 46 (.slice a n c) (.slice none n' c')).run Try.prog w = .ok (.bool a.isNone) w := fun w a n c n' c' => Lib.run_eql_slice_nil w _ _ a n c n' c' und_shns
  rcases hs with ⟨ad, rfl⟩ | ⟨rfl, rfl⟩
  · have HI := Lib.hid (hI.kept (Draw.grown_alloc w (.cells #[] 52) none)); clear hI
    have E1 := Lib.hid (sh_empty w S)
    go_enter Try.func114, Try.ntmps114
    go_wp2_with (at_builtin; refine wpList_append_sh rfl _ _ rfl w.heap.size w.heap.size S rfl E1.out (some ad) len cap rfl HI.out (.inl ⟨ad, rfl⟩) hl (by simp) ?_; intro b1 c1 w1 hI1 hg1; have HI1 := Lib.hid hI1; have HG1 := Lib.hid hg1; clear hI1 hg1)
    go_ret
    exact ⟨_, _, rfl, HI1.out, grown_new (Draw.grown_alloc _ _ _) (Nat.le_refl _) HG1.out⟩
  · clear hI
    go_enter Try.func114, Try.ntmps114
    go_wp2
    go_ret
    exact ⟨_, _, rfl, ⟨rfl, .inl ⟨rfl, rfl⟩⟩, Draw.grown_refl _ _⟩
/-- A key's copy, by the program. -/
def CK (w : World) (need many : Int) (ng : Nat) (zg : Nat → Int) (nc : Nat) (zc : Nat → Int) (e : Ending) (w' : World) : Prop :=
  ∃ a1 c1 a2 c2, e = .returned (.agg #[.int .i64 need, .int .i64 many, .slice a1 ng c1, .slice a2 nc c2]) ∧ OE w' w.heap.size a1 ng c1 zg ∧ OE w' w.heap.size a2 nc c2 zc ∧ Apt a1 a2 ∧ w.grownBy w' none
set_option maxRecDepth 100000 in
set_option maxHeartbeats 2000000 in
theorem icopykey (w : World) (need many : Int) (ag : Option Addr) (ng cg : Nat) (zg : Nat → Int) (ac : Option Addr) (nc cc : Nat) (zc : Nat → Int) (hG : Ints w ag ng zg) (hC : Ints w ac nc zc) (hsg : Sl ag ng cg) (hsc : Sl ac nc cc) (hl1 : ng ≤ 2000000) (hl2 : nc ≤ 2000000) :
    Calls Try.prog 83 #[.agg #[.int .i64 need, .int .i64 many, .slice ag ng cg, .slice ac nc cc]] w (CK w need many ng zg nc zc) := by
  have G := Lib.hid (gtr (Draw.grown_alloc w (.cells #[.int .i64 need, .int .i64 many, .slice ag ng cg, .slice ac nc cc] 45) none) (Draw.grown_alloc _ (.cells #[.int .i64 0, .int .i64 0, .slice none 0 0, .slice none 0 0] 45) none))
  have K := Lib.hid ((Ky.new w need many (.slice ag ng cg) (.slice ac nc cc) 45).kept (Draw.grown_alloc _ (.cells #[.int .i64 0, .int .i64 0, .slice none 0 0, .slice none 0 0] 45) none))
  have R := Lib.hid (blk_new2 w (.cells #[.int .i64 need, .int .i64 many, .slice ag ng cg, .slice ac nc cc] 45) #[.int .i64 0, .int .i64 0, .slice none 0 0, .slice none 0 0] 45)
  have HG := Lib.hid (hG.kept G.out); have HC := Lib.hid (hC.kept G.out)
  clear hG hC
  go_enter Try.func83, Try.ntmps83
  go_wp2_with fail
  refine wp_region_held_drew (S := (fun w' => w'.cell? ⟨w.heap.size, 0, none⟩ = some (.int .i64 need) ∧ w'.cell? ⟨w.heap.size, 1, none⟩ = some (.int .i64 many) ∧ w'.cell? ⟨w.heap.size, 2, none⟩ = some (.slice ag ng cg) ∧ w'.cell? ⟨w.heap.size, 3, none⟩ = some (.slice ac nc cc))) (by kernel_rfl) (⟨K.out.c0, K.out.c1, K.out.c2, K.out.c3⟩) (fun hHeld => ?_)
  have hg := Draw.gdrew ((w.alloc (.cells #[.int .i64 need, .int .i64 many, .slice ag ng cg, .slice ac nc cc] 45)).alloc (.cells #[.int .i64 0, .int .i64 0, .slice none 0 0, .slice none 0 0] 45))
  replace G := Lib.hid (gtr G.out hg)
  replace K := Lib.hid (K.out.kept hg)
  replace R := Lib.hid (R.out.keptN hg)
  replace HG := Lib.hid (HG.out.kept hg)
  replace HC := Lib.hid (HC.out.kept hg)
  clear hg
  generalize (((w.alloc (.cells #[.int .i64 need, .int .i64 many, .slice ag ng cg, .slice ac nc cc] 45)).alloc (.cells #[.int .i64 0, .int .i64 0, .slice none 0 0, .slice none 0 0] 45))).drew = W at *
  refine wpAnyH_take (i := 0) (oi := ⟨some 3, _, _, _, _, _⟩) (v := ?_) rfl (by kernel_rfl) (by kernel_rfl) (by kernel_rfl) (fun _ _ _ h => h) (Or.inl ⟨by rfl, ?_⟩) (by assumption) ?_
  rotate_left
  · intro w hSw; (try dsimp only at hSw); go_simp; try with_reducible rfl
  simp only [Act.put, List.setIfInBounds_toArray, List.set_cons_zero, List.set_cons_succ]
  refine wpAnyH_take (i := 1) (oi := ⟨some 4, _, _, _, _, _⟩) (v := ?_) rfl (by kernel_rfl) (by kernel_rfl) (by kernel_rfl) (fun _ _ _ h => h) (Or.inl ⟨by rfl, ?_⟩) (by assumption) ?_
  rotate_left
  · intro w hSw; (try dsimp only at hSw); go_simp; try with_reducible rfl
  simp only [Act.put, List.setIfInBounds_toArray, List.set_cons_zero, List.set_cons_succ]
  refine wpAnyH_take (i := 2) (oi := ⟨some 5, _, _, _, _, _⟩) (v := ?_) rfl (by kernel_rfl) (by kernel_rfl) (by kernel_rfl) (fun _ _ _ h => h) (Or.inl ⟨by rfl, ?_⟩) (by assumption) ?_
  rotate_left
  · intro w hSw; (try dsimp only at hSw); go_simp; try with_reducible rfl
  simp only [Act.put, List.setIfInBounds_toArray, List.set_cons_zero, List.set_cons_succ]
  refine wpAnyH_take (i := 3) (oi := ⟨some 6, _, _, _, _, _⟩) (v := ?_) rfl (by kernel_rfl) (by kernel_rfl) (by kernel_rfl) (fun _ _ _ h => h) (Or.inl ⟨by rfl, ?_⟩) (by assumption) ?_
  rotate_left
  · intro w hSw; (try dsimp only at hSw); go_simp; try with_reducible rfl
  simp only [Act.put, List.setIfInBounds_toArray, List.set_cons_zero, List.set_cons_succ]
  refine wpAnyH_take (i := 4) (oi := ⟨some 7, _, _, _, _, _⟩) (v := ?_) rfl (by kernel_rfl) (by kernel_rfl) (by kernel_rfl) (fun _ _ _ h => h) (Or.inl ⟨by rfl, ?_⟩) (by assumption) ?_
  rotate_left
  · intro w hSw; (try dsimp only at hSw); go_simp; try with_reducible rfl
  simp only [Act.put, List.setIfInBounds_toArray, List.set_cons_zero, List.set_cons_succ]
  refine wpAnyH_take (i := 5) (oi := ⟨some 8, _, _, _, _, _⟩) (v := ?_) rfl (by kernel_rfl) (by kernel_rfl) (by kernel_rfl) (fun _ _ _ h => h) (Or.inl ⟨by rfl, ?_⟩) (by assumption) ?_
  rotate_left
  · intro w hSw; (try dsimp only at hSw); go_simp; try with_reducible rfl
  simp only [Act.put, List.setIfInBounds_toArray, List.set_cons_zero, List.set_cons_succ]
  refine wpAnyH_take (i := 7) (oi := ⟨some 10, _, _, _, _, _⟩) (v := ?_) rfl (by kernel_rfl) (by kernel_rfl) (by kernel_rfl) (fun _ _ _ h => h) (Or.inl ⟨by rfl, ?_⟩) (by assumption) ?_
  rotate_left
  · intro w hSw; (try dsimp only at hSw); go_simp; try with_reducible rfl
  simp only [Act.put, List.setIfInBounds_toArray, List.set_cons_zero, List.set_cons_succ]
  refine wpAnyH_take (i := 8) (oi := ⟨some 11, _, _, _, _, _⟩) (v := ?_) rfl (by kernel_rfl) (by kernel_rfl) (by kernel_rfl) (fun _ _ _ h => h) (Or.inl ⟨by rfl, ?_⟩) (by assumption) ?_
  rotate_left
  · intro w hSw; (try dsimp only at hSw); go_simp; try with_reducible rfl
  simp only [Act.put, List.setIfInBounds_toArray, List.set_cons_zero, List.set_cons_succ]
  refine wpAnyH_ready (rs := [6]) (by kernel_rfl) (by simp) ?_
  refine AllReadyH.cons (o := ⟨some 9, _, _, _, _, _⟩) rfl (fun Kq hKq => ?_) AllReadyH.nil
  go_simp
  go_at_call 111
  refine (clone_int _ _ _ _ zg HG.out hsg hl1).mono ?_
  rintro e w2 ⟨a1, c1, rfl, hv, hg⟩
  have hR := R.out.lt
  have V1 := Lib.hid (hv.lower (lo' := w.heap.size + 2) hR)
  clear hv hR
  replace G := Lib.hid (gtr G.out hg)
  replace K := Lib.hid (K.out.kept hg)
  replace R := Lib.hid (R.out.keptN hg)
  replace HG := Lib.hid (HG.out.kept hg)
  replace HC := Lib.hid (HC.out.kept hg)
  clear hg
  refine hKq.out _ _ (⟨K.out.c0, K.out.c1, K.out.c2, K.out.c3⟩) (fun hHeld => ?_)
  clear hKq Kq
  refine wpAnyH_ready (rs := [9]) (by kernel_rfl) (by simp) ?_
  refine AllReadyH.cons (o := ⟨some 12, _, _, _, _, _⟩) rfl (fun Kq hKq => ?_) AllReadyH.nil
  go_simp
  go_at_call 111
  refine (clone_int _ _ _ _ zc HC.out hsc hl2).mono ?_
  rintro e w3 ⟨a2, c2, rfl, hv, hg⟩
  have hR := R.out.lt
  have AT := Lib.hid (apt_of V1.out hv (Nat.le_refl _))
  have V2 := Lib.hid (hv.lower (lo' := w.heap.size + 2) hR)
  clear hv hR
  replace G := Lib.hid (gtr G.out hg)
  replace K := Lib.hid (K.out.kept hg)
  replace R := Lib.hid (R.out.keptN hg)
  replace HG := Lib.hid (HG.out.kept hg)
  replace HC := Lib.hid (HC.out.kept hg)
  replace V1 := Lib.hid (V1.out.kept hg (fun g e => by cases e))
  clear hg
  refine hKq.out _ _ (⟨K.out.c0, K.out.c1, K.out.c2, K.out.c3⟩) (fun hHeld => ?_)
  clear hKq Kq
  refine wpAnyH_take (i := 10) (oi := ⟨some 13, _, _, _, _, _⟩) (v := ?_) rfl (by kernel_rfl) (by kernel_rfl) (by kernel_rfl) (fun _ _ _ h => h) (Or.inl ⟨by rfl, ?_⟩) (by assumption) ?_
  rotate_left
  · intro w hSw; (try dsimp only at hSw); go_simp; try with_reducible rfl
  simp only [Act.put, List.setIfInBounds_toArray, List.set_cons_zero, List.set_cons_succ]
  clear HG HC
  refine wpAnyH_ready (rs := [11]) (by kernel_rfl) (by simp) ?_
  refine AllReadyH.cons (o := ⟨none, _, _, _, _, _⟩) rfl (fun Kq hKq => ?_) AllReadyH.nil
  rw [if_pos (by rfl)]
  refine wp_store_blk 45 (.tmp 2) (.tmp 13) _ _ _ 45 R.out rfl rfl rfl rfl (by kernel_rfl) (by simp [Value.oneCell']) rfl ?_
  intro V hg hT
  replace R := Lib.hid hT
  replace G := Lib.hid (grown_new G.out (by omega) hg)
  replace K := Lib.hid (K.out.keptB (hg.block _ K.out.lt (by intro e; have e := Option.some.inj e; omega)) hg.size)
  replace V1 := Lib.hid (V1.out.kept hg (fun g e => by have e := Option.some.inj e; omega))
  replace V2 := Lib.hid (V2.out.kept hg (fun g e => by have e := Option.some.inj e; omega))
  clear hg
  clear hT
  refine hKq.out _ _ (⟨K.out.c0, K.out.c1, K.out.c2, K.out.c3⟩) (fun hHeld => ?_)
  clear hKq Kq
  refine wpAnyH_done (by kernel_rfl) ?_ _
  go_wp2
  (try simp only [Exit.inBlock, Exit.then])
  refine bodyPost_ret (ret_key rfl _ rfl R.out) rfl ?_
  exact ⟨a1, c1, a2, c2, rfl, V1.out.lower (by omega), V2.out.lower (by omega), AT.out, G.out⟩
/-- A session's copy, by the program. -/
def CS (w : World) (need many : Int) (ng : Nat) (zg : Nat → Int) (nc : Nat) (zc : Nat → Int) (msg : Int) (n : Nat) (S : Nat → SV) (e : Ending) (w' : World) : Prop :=
  ∃ a1 c1 a2 c2 a3 c3, e = .returned (.agg #[.int .i64 need, .int .i64 many, .slice a1 ng c1, .slice a2 nc c2, .int .i64 msg, .slice a3 n c3]) ∧ OE w' w.heap.size a1 ng c1 zg ∧ OE w' w.heap.size a2 nc c2 zc ∧ OwnSh w' w.heap.size (.slice a3 n c3) n S ∧ Apt a1 a2 ∧ w.grownBy w' none
set_option maxRecDepth 100000 in
set_option maxHeartbeats 2000000 in
theorem icopyses (w : World) (need many : Int) (ag : Option Addr) (ng cg : Nat) (zg : Nat → Int) (ac : Option Addr) (nc cc : Nat) (zc : Nat → Int) (msg : Int) (a : Option Addr) (len cap : Nat) (S : Nat → SV) (hG : Ints w ag ng zg) (hC : Ints w ac nc zc) (hS : ShIn w a len S) (hsg : Sl ag ng cg) (hsc : Sl ac nc cc) (hss : Sl a len cap) (hl1 : ng ≤ 2000000) (hl2 : nc ≤ 2000000) (hl : len ≤ 2000000) :
    Calls Try.prog 91 #[.agg #[.int .i64 need, .int .i64 many, .slice ag ng cg, .slice ac nc cc, .int .i64 msg, .slice a len cap]] w (CS w need many ng zg nc zc msg len S) := by
  have G := Lib.hid (gtr (Draw.grown_alloc w (.cells #[.int .i64 need, .int .i64 many, .slice ag ng cg, .slice ac nc cc, .int .i64 msg, .slice a len cap] 48) none) (Draw.grown_alloc _ (.cells #[.int .i64 0, .int .i64 0, .slice none 0 0, .slice none 0 0, .int .i64 0, .slice none 0 0] 48) none))
  have K := Lib.hid ((Ss.of_blk (Blk.new w #[.int .i64 need, .int .i64 many, .slice ag ng cg, .slice ac nc cc, .int .i64 msg, .slice a len cap] 48)).kept (Draw.grown_alloc _ (.cells #[.int .i64 0, .int .i64 0, .slice none 0 0, .slice none 0 0, .int .i64 0, .slice none 0 0] 48) none))
  have R := Lib.hid (blk_new2 w (.cells #[.int .i64 need, .int .i64 many, .slice ag ng cg, .slice ac nc cc, .int .i64 msg, .slice a len cap] 48) #[.int .i64 0, .int .i64 0, .slice none 0 0, .slice none 0 0, .int .i64 0, .slice none 0 0] 48)
  have HG := Lib.hid (hG.kept G.out); have HC := Lib.hid (hC.kept G.out); have HA := Lib.hid (hS.kept G.out)
  clear hG hC hS
  go_enter Try.func91, Try.ntmps91
  go_wp2_with fail
  refine wp_region_held_drew (S := (fun w' => w'.cell? ⟨w.heap.size, 0, none⟩ = some (.int .i64 need) ∧ w'.cell? ⟨w.heap.size, 1, none⟩ = some (.int .i64 many) ∧ w'.cell? ⟨w.heap.size, 2, none⟩ = some (.slice ag ng cg) ∧ w'.cell? ⟨w.heap.size, 3, none⟩ = some (.slice ac nc cc) ∧ w'.cell? ⟨w.heap.size, 4, none⟩ = some (.int .i64 msg) ∧ w'.cell? ⟨w.heap.size, 5, none⟩ = some (.slice a len cap))) (by kernel_rfl) (⟨K.out.c0, K.out.c1, K.out.c2, K.out.c3, K.out.c4, K.out.c5⟩) (fun hHeld => ?_)
  have hg := Draw.gdrew ((w.alloc (.cells #[.int .i64 need, .int .i64 many, .slice ag ng cg, .slice ac nc cc, .int .i64 msg, .slice a len cap] 48)).alloc (.cells #[.int .i64 0, .int .i64 0, .slice none 0 0, .slice none 0 0, .int .i64 0, .slice none 0 0] 48))
  replace G := Lib.hid (gtr G.out hg)
  replace K := Lib.hid (K.out.kept hg)
  replace R := Lib.hid (R.out.keptN hg)
  replace HG := Lib.hid (HG.out.kept hg)
  replace HC := Lib.hid (HC.out.kept hg)
  replace HA := Lib.hid (HA.out.kept hg)
  clear hg
  generalize (((w.alloc (.cells #[.int .i64 need, .int .i64 many, .slice ag ng cg, .slice ac nc cc, .int .i64 msg, .slice a len cap] 48)).alloc (.cells #[.int .i64 0, .int .i64 0, .slice none 0 0, .slice none 0 0, .int .i64 0, .slice none 0 0] 48))).drew = W at *
  refine wpAnyH_take (i := 0) (oi := ⟨some 3, _, _, _, _, _⟩) (v := ?_) rfl (by kernel_rfl) (by kernel_rfl) (by kernel_rfl) (fun _ _ _ h => h) (Or.inl ⟨by rfl, ?_⟩) (by assumption) ?_
  rotate_left
  · intro w hSw; (try dsimp only at hSw); go_simp; try with_reducible rfl
  simp only [Act.put, List.setIfInBounds_toArray, List.set_cons_zero, List.set_cons_succ]
  refine wpAnyH_take (i := 1) (oi := ⟨some 4, _, _, _, _, _⟩) (v := ?_) rfl (by kernel_rfl) (by kernel_rfl) (by kernel_rfl) (fun _ _ _ h => h) (Or.inl ⟨by rfl, ?_⟩) (by assumption) ?_
  rotate_left
  · intro w hSw; (try dsimp only at hSw); go_simp; try with_reducible rfl
  simp only [Act.put, List.setIfInBounds_toArray, List.set_cons_zero, List.set_cons_succ]
  refine wpAnyH_take (i := 3) (oi := ⟨some 6, _, _, _, _, _⟩) (v := ?_) rfl (by kernel_rfl) (by kernel_rfl) (by kernel_rfl) (fun _ _ _ h => h) (Or.inl ⟨by rfl, ?_⟩) (by assumption) ?_
  rotate_left
  · intro w hSw; (try dsimp only at hSw); go_simp; try with_reducible rfl
  simp only [Act.put, List.setIfInBounds_toArray, List.set_cons_zero, List.set_cons_succ]
  refine wpAnyH_take (i := 4) (oi := ⟨some 7, _, _, _, _, _⟩) (v := ?_) rfl (by kernel_rfl) (by kernel_rfl) (by kernel_rfl) (fun _ _ _ h => h) (Or.inl ⟨by rfl, ?_⟩) (by assumption) ?_
  rotate_left
  · intro w hSw; (try dsimp only at hSw); go_simp; try with_reducible rfl
  simp only [Act.put, List.setIfInBounds_toArray, List.set_cons_zero, List.set_cons_succ]
  refine wpAnyH_take (i := 5) (oi := ⟨some 8, _, _, _, _, _⟩) (v := ?_) rfl (by kernel_rfl) (by kernel_rfl) (by kernel_rfl) (fun _ _ _ h => h) (Or.inl ⟨by rfl, ?_⟩) (by assumption) ?_
  rotate_left
  · intro w hSw; (try dsimp only at hSw); go_simp; try with_reducible rfl
  simp only [Act.put, List.setIfInBounds_toArray, List.set_cons_zero, List.set_cons_succ]
  refine wpAnyH_take (i := 6) (oi := ⟨some 9, _, _, _, _, _⟩) (v := ?_) rfl (by kernel_rfl) (by kernel_rfl) (by kernel_rfl) (fun _ _ _ h => h) (Or.inl ⟨by rfl, ?_⟩) (by assumption) ?_
  rotate_left
  · intro w hSw; (try dsimp only at hSw); go_simp; try with_reducible rfl
  simp only [Act.put, List.setIfInBounds_toArray, List.set_cons_zero, List.set_cons_succ]
  refine wpAnyH_ready (rs := [2]) (by kernel_rfl) (by simp) ?_
  refine AllReadyH.cons (o := ⟨some 5, _, _, _, _, _⟩) rfl (fun Kq hKq => ?_) AllReadyH.nil
  go_simp
  go_at_call 83
  refine (icopykey _ need many _ ng _ zg _ nc _ zc HG.out HC.out hsg hsc hl1 hl2).mono ?_
  rintro e w2 ⟨a1, c1, a2, c2, rfl, hv1, hv2, hap, hg⟩
  have hR := R.out.lt
  have V1 := Lib.hid (hv1.lower (lo' := w.heap.size + 2) hR)
  have V2 := Lib.hid (hv2.lower (lo' := w.heap.size + 2) hR)
  have AT := Lib.hid hap
  clear hv1 hv2 hR hap
  replace G := Lib.hid (gtr G.out hg)
  replace K := Lib.hid (K.out.kept hg)
  replace R := Lib.hid (R.out.keptN hg)
  replace HG := Lib.hid (HG.out.kept hg)
  replace HC := Lib.hid (HC.out.kept hg)
  replace HA := Lib.hid (HA.out.kept hg)
  clear hg
  refine hKq.out _ _ (⟨K.out.c0, K.out.c1, K.out.c2, K.out.c3, K.out.c4, K.out.c5⟩) (fun hHeld => ?_)
  clear hKq Kq
  refine wpAnyH_ready (rs := [7]) (by kernel_rfl) (by simp) ?_
  refine AllReadyH.cons (o := ⟨some 10, _, _, _, _, _⟩) rfl (fun Kq hKq => ?_) AllReadyH.nil
  go_simp
  go_at_call 114
  refine (clone_sh _ _ _ _ S HA.out hss hl).mono ?_
  rintro e w3 ⟨a3, c3, rfl, hv, hg⟩
  have hR := R.out.lt
  have V3 := Lib.hid (hv.lower (lo' := w.heap.size + 2) hR)
  clear hv hR
  replace G := Lib.hid (gtr G.out hg)
  replace K := Lib.hid (K.out.kept hg)
  replace R := Lib.hid (R.out.keptN hg)
  replace HG := Lib.hid (HG.out.kept hg)
  replace HC := Lib.hid (HC.out.kept hg)
  replace HA := Lib.hid (HA.out.kept hg)
  replace V1 := Lib.hid (V1.out.kept hg (fun g e => by cases e))
  replace V2 := Lib.hid (V2.out.kept hg (fun g e => by cases e))
  clear hg
  refine hKq.out _ _ (⟨K.out.c0, K.out.c1, K.out.c2, K.out.c3, K.out.c4, K.out.c5⟩) (fun hHeld => ?_)
  clear hKq Kq
  refine wpAnyH_take (i := 8) (oi := ⟨some 11, _, _, _, _, _⟩) (v := ?_) rfl (by kernel_rfl) (by kernel_rfl) (by kernel_rfl) (fun _ _ _ h => h) (Or.inl ⟨by rfl, ?_⟩) (by assumption) ?_
  rotate_left
  · intro w hSw; (try dsimp only at hSw); go_simp; try with_reducible rfl
  simp only [Act.put, List.setIfInBounds_toArray, List.set_cons_zero, List.set_cons_succ]
  clear HG HC HA
  refine wpAnyH_ready (rs := [9]) (by kernel_rfl) (by simp) ?_
  refine AllReadyH.cons (o := ⟨none, _, _, _, _, _⟩) rfl (fun Kq hKq => ?_) AllReadyH.nil
  rw [if_pos (by rfl)]
  refine wp_store_blk 48 (.tmp 2) (.tmp 11) _ _ _ 48 R.out rfl rfl rfl rfl (by kernel_rfl) (by simp [Value.oneCell']) rfl ?_
  intro V hg hT
  replace R := Lib.hid hT
  replace G := Lib.hid (grown_new G.out (by omega) hg)
  replace K := Lib.hid (K.out.keptB (hg.block _ K.out.lt (by intro e; have e := Option.some.inj e; omega)) hg.size)
  replace V1 := Lib.hid (V1.out.kept hg (fun g e => by have e := Option.some.inj e; omega))
  replace V2 := Lib.hid (V2.out.kept hg (fun g e => by have e := Option.some.inj e; omega))
  replace V3 := Lib.hid (V3.out.kept hg (fun g e => by have e := Option.some.inj e; omega))
  clear hg
  clear hT
  refine hKq.out _ _ (⟨K.out.c0, K.out.c1, K.out.c2, K.out.c3, K.out.c4, K.out.c5⟩) (fun hHeld => ?_)
  clear hKq Kq
  refine wpAnyH_done (by kernel_rfl) ?_ _
  go_wp2
  (try simp only [Exit.inBlock, Exit.then])
  refine bodyPost_ret (ret_ses rfl _ rfl R.out) rfl ?_
  exact ⟨a1, c1, a2, c2, a3, c3, rfl, V1.out.lower (by omega), V2.out.lower (by omega), V3.out.lower (by omega), AT.out, G.out⟩
end Con
end Go.Proofs.Yteibklnonlapoaa
