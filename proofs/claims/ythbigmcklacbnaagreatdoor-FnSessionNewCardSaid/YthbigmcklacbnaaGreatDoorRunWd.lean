/-
  The walk of the law on new sessions, and how the model draws what one begins with.
-/
import Derived.Test.YthbigmcklacbnaaGreatDoorGe
import Derived.Test.YthbigmcklacbnaaGreatDoorGd
import Derived.Test.YthbigmcklacbnaaGreatDoorGy
import Derived.Test.YthbigmcklacbnaaGreatDoorUz
import Derived.Test.YthbigmcklacbnaaGreatDoorUc
import Derived.Test.YthbigmcklacbnaaGreatDoorTl
import Derived.Deep.RegionHeld3
namespace Go.Proofs.YthbigmcklacbnaaGreatDoor
namespace Draw
open Go.RowKit Alg Mem Con Mp Hd
set_option linter.unusedVariables false

def GotSN (w : World) (e : Ending) (w' : World) : Prop :=
  ∃ (need many : Nat) (ag : Option Addr) (ng cg : Nat) (zg : Nat → Int) (ac : Option Addr) (nc cc : Nat) (zc : Nat → Int) (am : Option Addr) (nm cm : Nat) (zm : Nat → Int) (msg : Int) (gb ns cs : Nat) (zs : Nat → Int), e = .returned (.tuple #[.agg #[.int .i64 need, .int .i64 many, .slice ag ng cg, .slice ac nc cc], .int .i64 msg, .slice am nm cm, .slice (some ⟨gb, 0, none⟩) ns cs]) ∧ ng ≤ 6 ∧ nc ≤ 6 ∧ nm ≤ 6 ∧ nm ≤ cm ∧ cm ≤ maxLen ∧ ns ≤ 7 ∧ Ints w' ag ng zg ∧ Ints w' ac nc zc ∧ Ints w' am nm zm ∧ Ints w' (some ⟨gb, 0, none⟩) ns zs ∧ w.grownBy w' none
theorem ret_k4s {fn : Func} {p q u x : Tmp} (h : fn.results = #[.cell p 25, .tmp q, .tmp u, .tmp x]) (tmps : Array Value) {w : World} {b : Nat} {v0 v1 v2 v3 : Value} {T : TypeId} (hp : tmps.getD p undef = .pointer (some ⟨b, 0, none⟩)) (hb : Blk w b #[v0, v1, v2, v3] T) :
    (results fn tmps).run Tryz.prog w = .ok (.tuple #[.agg #[v0, v1, v2, v3], tmps.getD q undef, tmps.getD u undef, tmps.getD x undef]) w := by
  have hp' : tmps[p]?.getD undef = .pointer (some ⟨b, 0, none⟩) := by simpa using hp
  simp [results, h, hp', asAddr, run_loadVar_row w b T 25 #[v0, v1, v2, v3] (0, 0) _ hb Tryz.underlying25 rfl size_key, Result.andThen]
def endZ (z : Nat → Int) (n : Nat) (y : Int) (j : Nat) : Int := if j = n then y else z j
theorem oi_free {w : World} {lo b n c : Nat} {z : Nat → Int} (h : OI w lo b n c z) (i : Nat) : w.frozen? ⟨b, i, none⟩ = false := by
  rcases h.2 with ⟨hv, _⟩ | ⟨g, c', cur, hv, hlo, hg, _⟩
  · cases hv
  · injection hv with e1 _ _; injection e1 with e1; injection e1 with e1 _; subst e1
    simp [World.frozen?, hg]
theorem oi_cell {w : World} {lo b n c : Nat} {z : Nat → Int} (h : OI w lo b n c z) {j : Nat} (hj : j < n) : w.cell? ⟨b, j, none⟩ = some (.int .i64 (z j)) := (World.ownsRow.cellAt h j (by omega)).trans (vals_get z hj)
theorem oi_set {w : World} {lo b n c : Nat} {z : Nat → Int} (h : OI w lo b n c z) (k : Nat) (y : Int) : OI (w.setCell ⟨b, k, none⟩ (.int .i64 y)) lo b n c (endZ z k y) := by
  have h1 := (World.ownsRow.stored h k (.int .i64 y)).1
  have e : (vals z n).set k (.int .i64 y) = vals (endZ z k y) n := by
    apply List.ext_getElem?
    intro j
    rw [List.getElem?_set]
    by_cases hj : j < n
    · rw [vals_get _ hj, vals_get _ hj, vals_length]
      unfold endZ
      by_cases e : k = j
      · subst e; rw [if_pos rfl, if_pos hj, if_pos rfl]
      · rw [if_neg e, if_neg (by omega)]
    · rw [List.getElem?_eq_none (by rw [vals_length]; omega), List.getElem?_eq_none (by rw [vals_length]; omega), vals_length]
      by_cases e : k = j
      · rw [if_pos e, if_neg (by omega)]
      · rw [if_neg e]
  unfold OI at h1 ⊢
  rw [← e]; exact h1
theorem oi_nil {w : World} {b lo : Nat} (z : Nat → Int) (h : Blk w b #[] 3) (hl : lo ≤ b) : OI w lo b 0 0 z := ⟨rfl, .inr ⟨b, 0, #[], rfl, hl, h, Nat.le_refl _, by decide, rfl, rfl⟩⟩
theorem app_oi {ops : Array Oper} {rest : List Oper} {o : Oper} {act : Act} {w : World} {Q : Exit → Act → World → Prop} (hgd : o.guard = none) (s x : Operand) (ho : o.op = .call { callee := .builtin .append, args := #[s, x], argTypes := #[23, 23] })
    (base : Nat) (z : Nat → Int) (g n c : Nat) (hs : act.eval s = .slice (some ⟨g, 0, none⟩) n c) (hown : OI w base g n c z) (y : Int) (b c2 : Nat) (hx : act.eval x = .slice (some ⟨b, 0, none⟩) 1 c2) (hc : w.cell? ⟨b, 0, none⟩ = some (.int .i64 y)) (hn : n ≤ 100000) (hbase : base ≤ w.heap.size)
    (h : ∀ b' c' w', OI w' base b' (n + 1) c' (endZ z n y) → w.grownBy w' (some g) → wpList Tryz.prog ops Q rest (act.put o.dst (.slice (some ⟨b', 0, none⟩) (n + 1) c')) w') : wpList Tryz.prog ops Q (o :: rest) act w := by
  obtain ⟨i0, hi, hz0, hz1, hz2⟩ := info_parts info_int
  refine wpList_append_own _ hgd s x _ ho base 3 i0 (.int .i64 0) 1 8 und_ints hi hz0 hz1 hz2 rfl (by decide) _ n (vals z n) hs hown ⟨b, 0, none⟩ 1 c2 [.int .i64 y] hx rfl (fun j u hu => by
    have hj : j = 0 := by have := (List.getElem?_eq_some_iff.1 hu).1; simpa using this
    subst hj
    simp at hu; subst hu
    exact hc) (by simp [Value.oneCell']) (by unfold maxLen; omega) (by omega) hbase ?_
  intro v' w' ho' hg' hv'
  have e : vals z n ++ [.int .i64 y] = vals (endZ z n y) (n + 1) := by
    have e1 : vals (endZ z n y) (n + 1) = vals (endZ z n y) n ++ [.int .i64 (endZ z n y n)] := by simp [vals, List.range_succ]
    have e2 : vals (endZ z n y) n = vals z n := by
      unfold vals
      apply List.map_congr_left
      intro j hj
      have := List.mem_range.1 hj
      unfold endZ; rw [if_neg (by omega)]
    rw [e1, e2]; unfold endZ; rw [if_pos rfl]
  rw [e] at ho'
  obtain ⟨b', c', rfl, hI'⟩ := own_oi ho' (fun e => by have := (hv'.1 e).1; cases this)
  exact h b' c' w' hI' hg'
set_option maxRecDepth 100000 in
set_option maxHeartbeats 8000000 in
theorem drawSesN (w : World) (a : Option Addr) (len cap : Nat) (hB : Bytes w w.heap.size a len) (hc : len ≤ cap) (hm : cap ≤ maxLen) :
    Calls Tryz.prog 4 #[.slice a len cap] w (GotSN w) := by
  have hs0 : (w.alloc (.cells #[.int .i64 0, .int .i64 0, .slice none 0 0, .slice none 0 0] 25)).heap.size = w.heap.size + 1 := by show (w.heap.push _).size = _; simp
  have G := Lib.hid (grown_alloc w (.cells #[.int .i64 0, .int .i64 0, .slice none 0 0, .slice none 0 0] 25) none)
  have HB := Lib.hid (hB.kept (w' := w.alloc (.cells #[.int .i64 0, .int .i64 0, .slice none 0 0, .slice none 0 0] 25)) (fun k hk => Below.heap_alloc _ _ _ hk))
  have R := Lib.hid (Blk.new w #[.int .i64 0, .int .i64 0, .slice none 0 0, .slice none 0 0] 25)
  clear hB
  go_enter Tryz.func4, Tryz.ntmps4
  go_wp2_with fail
  refine (open_any _ w.heap.size a len cap HB.out (by omega) hc hm).mono ?_
  rintro e w1 ⟨rfl, hg, hs1, l1, c1', hr1⟩
  rw [hs0] at hr1 hs1
  have hw1 : w.heap.size + 2 ≤ w1.heap.size := by omega
  have H := Lib.hid hr1
  replace G := Lib.hid (gtr G.out hg)
  replace R := Lib.hid (R.out.keptN hg)
  clear hg
  clear hr1 hs1 HB hs0
  go_wp2_with fail
  refine (held_any _ _ _ a l1 c1' 0 H.out (by omega)).mono ?_
  rintro e w2 ⟨need, many, ag, ng, cg, zg, ac, nc, cc, zc, v, rfl, hk, ⟨hm1, hn1, hnm⟩, hO, hg, p2, hp2, hp2', hr⟩
  have I1 := Lib.hid hk.irg; have I2 := Lib.hid hk.irc
  have hw2 : w1.heap.size ≤ w2.heap.size := hg.size
  have hng := hk.g6; have hnc := hk.c5; have hn5 := hk.n5; have hm6 := hk.m5
  replace H := Lib.hid hr
  replace G := Lib.hid (grown_new G.out (by omega) hg)
  replace R := Lib.hid (R.out.kept hg (by intro e; have e := Option.some.inj e; omega))
  clear hg
  clear hr
  clear hk hO
  have hg : w2.grownBy (w2.alloc (.cells #[.int .i64 need, .int .i64 many, .slice ag ng cg, .slice ac nc cc] 25)) none := grown_alloc _ _ _
  have K := Lib.hid (Blk.new w2 #[.int .i64 need, .int .i64 many, .slice ag ng cg, .slice ac nc cc] 25)
  replace G := Lib.hid (gtr G.out hg)
  replace R := Lib.hid (R.out.keptN hg)
  replace H := Lib.hid (H.out.gN hg)
  replace I1 := Lib.hid (I1.out.keptN hg)
  replace I2 := Lib.hid (I2.out.keptN hg)
  clear hg
  have kc0 : World.cell? _ ⟨w2.heap.size, 0, none⟩ = some (.int .i64 (need : Int)) := K.out.cell 0
  have kc1 : World.cell? _ ⟨w2.heap.size, 1, none⟩ = some (.int .i64 (many : Int)) := K.out.cell 1
  have kc2 : World.cell? _ ⟨w2.heap.size, 2, none⟩ = some (.slice ag ng cg) := K.out.cell 2
  have kc3 : World.cell? _ ⟨w2.heap.size, 3, none⟩ = some (.slice ac nc cc) := K.out.cell 3
  have hwk : w2.heap.size < (w2.alloc (.cells #[.int .i64 need, .int .i64 many, .slice ag ng cg, .slice ac nc cc] 25)).heap.size := K.out.lt
  go_wp2_with fail
  refine (members_any _ _ _ a l1 c1' _ H.out (by omega) need many _ _ hn1 hnm hm6).mono ?_
  rintro e w3 ⟨am, nm, cm, zm, rfl, hIR, hnm6, hmc, hcm, hall, hg, p3, hp3, hp3', hr⟩
  clear kc0 kc1 kc2 kc3 hall
  have M := Lib.hid hIR
  have hw3 : (w2.alloc (.cells #[.int .i64 need, .int .i64 many, .slice ag ng cg, .slice ac nc cc] 25)).heap.size ≤ w3.heap.size := hg.size
  replace H := Lib.hid hr
  replace G := Lib.hid (grown_new G.out (by omega) hg)
  replace R := Lib.hid (R.out.kept hg (by intro e; have e := Option.some.inj e; omega))
  replace I1 := Lib.hid (I1.out.kept hg (by omega))
  replace I2 := Lib.hid (I2.out.kept hg (by omega))
  replace K := Lib.hid (K.out.kept hg (by intro e; have e := Option.some.inj e; omega))
  clear hg
  clear hr
  clear hIR
  have OQ0 := Lib.hid (oi_nil (fun _ => 0) (Blk.new w3 #[] 3) (Nat.le_refl _))
  have HA := Lib.hid (H.out.gN (grown_alloc w3 (.cells #[] 3) none))
  have hb3 : w.heap.size + 1 < w3.heap.size := by omega
  go_wp2
  go_loopw [10, 11] (fun u i wr => ∃ (k g c p' : Nat) (z : Nat → Int), k ≤ nm ∧ i = .int .i64 k ∧ u = .slice (some ⟨g, 0, none⟩) k c ∧ OI wr w3.heap.size g k c z ∧ w3.grownBy wr (some (w.heap.size + 1)) ∧ Rd wr w.heap.size (w.heap.size + 1) a l1 c1' p' ∧ p' ≤ p3 + k) (fun _ i _ => nm - (intOf i).toNat)
  case atStart => exact ⟨0, _, _, _, _, by omega, rfl, rfl, OQ0.out, grown_alloc _ _ _, HA.out, by omega⟩
  case round =>
    clear OQ0 HA
    obtain ⟨k, g, c, p4, z, hk, rfl, rfl, ho, hg, hr, hp4⟩ := hrel
    have hlo := ho.lt
    by_cases hlt : k < nm
    · have O4 := Lib.hid ho; have G4 := Lib.hid hg; have H4 := Lib.hid hr
      have hw4 := hg.size
      clear ho hg hr
      go_wp2_with fail
      refine (pick_any _ _ _ a l1 c1' _ 23 H4.out (by omega) (by omega)).mono ?_
      rintro e w5 ⟨x, x0, x1, rfl, hr, hg, hs⟩
      have O5 := Lib.hid (O4.out.kept hg (by intro e; have e := Option.some.inj e; omega)); have G5 := Lib.hid (gtr' G4.out hg); have H5 := Lib.hid hr
      clear hr hg hs O4 G4 H4
      go_wp2_with fail
      refine (spow 2 x _ (by omega) (by omega) (by omega) (by omega)).mono ?_
      rintro e w' ⟨rfl, rfl⟩
      generalize pw 2 x.toNat = y at *
      have hgA := grown_alloc w5 (.cells #[.int .i64 y] 3) none
      have OA := Lib.hid (O5.out.keptN hgA); have GA := Lib.hid (Draw.grown_trans G5.out (grown_some hgA)); have HA := Lib.hid (H5.out.gN hgA); have CA := Lib.hid (Blk.new w5 #[.int .i64 y] 3)
      have hw5 := G5.out.size
      clear hgA O5 G5 H5
      go_wp2_with (at_builtin; refine app_oi rfl _ _ rfl w3.heap.size z g k c rfl OA.out y w5.heap.size 1 rfl (CA.out.cell 0) (by omega) (by rw [World.size_alloc]; omega) ?_; intro g6 c6 w6 hO6 hg6; have O6 := Lib.hid hO6; have G6 := Lib.hid (grown_any GA.out hg6 (.inr hlo.1)); have H6 := Lib.hid (HA.out.grownN hg6 (by omega) (by omega)); clear hO6 hg6)
      go_roundw
      case rel => exact ⟨k + 1, g6, c6, _, _, by omega, by go_num, rfl, O6.out, G6.out, H6.out, by omega⟩
      case measure => simp [intOf]; omega
    · obtain rfl : k = nm := by omega
      have OQ := Lib.hid ho
      clear ho
      replace H := Lib.hid hr
      replace G := Lib.hid (grown_new G.out (by omega) hg)
      replace R := Lib.hid (R.out.kept hg (by intro e; have e := Option.some.inj e; omega))
      replace I1 := Lib.hid (I1.out.kept hg (by omega))
      replace I2 := Lib.hid (I2.out.kept hg (by omega))
      replace K := Lib.hid (K.out.kept hg (by intro e; have e := Option.some.inj e; omega))
      replace M := Lib.hid (M.out.kept hg (by omega))
      clear hg
      clear hr
      by_cases h0 : k = 0
      · subst h0
        go_wp2_with fail
        refine (pick_any _ _ _ a l1 c1' _ 24 H.out (by omega) (by omega)).mono ?_
        rintro e W6 ⟨x6, x60, x61, rfl, hr, hg, hs⟩
        replace OQ := Lib.hid (OQ.out.kept hg (by intro e; have e := Option.some.inj e; have := OQ.out.lt; omega))
        have hW6 := hg.size
        replace H := Lib.hid hr
        replace G := Lib.hid (grown_new G.out (by omega) hg)
        replace R := Lib.hid (R.out.kept hg (by intro e; have e := Option.some.inj e; omega))
        replace I1 := Lib.hid (I1.out.kept hg (by omega))
        replace I2 := Lib.hid (I2.out.kept hg (by omega))
        replace K := Lib.hid (K.out.kept hg (by intro e; have e := Option.some.inj e; omega))
        replace M := Lib.hid (M.out.kept hg (by omega))
        clear hg
        clear hr
        clear hs
        by_cases hx6 : x6 = 0
        · subst hx6
          have hg := grown_alloc W6 (.cells #[.int .i64 1] 3) none
          have OA := Lib.hid (OQ.out.keptN hg); have CA := Lib.hid (Blk.new W6 #[.int .i64 1] 3)
          have hlo := OQ.out.lt
          clear OQ
          replace G := Lib.hid (gtr G.out hg)
          replace R := Lib.hid (R.out.keptN hg)
          replace I1 := Lib.hid (I1.out.keptN hg)
          replace I2 := Lib.hid (I2.out.keptN hg)
          replace K := Lib.hid (K.out.keptN hg)
          replace M := Lib.hid (M.out.keptN hg)
          replace H := Lib.hid (H.out.gN hg)
          clear hg
          go_wp2_with (at_builtin; refine app_oi rfl _ _ rfl w3.heap.size _ g 0 _ rfl OA.out 1 W6.heap.size 1 rfl (CA.out.cell 0) (by omega) (by rw [World.size_alloc]; omega) ?_; intro gb7 cg7 W7 hO7 hg7; have OQ := Lib.hid hO7; have HG7 := Lib.hid hg7; clear hO7 hg7 OA CA; refine stop_here ⟨trivial, ?_⟩)
          have hg := HG7.out
          clear HG7
          replace G := Lib.hid (grown_new G.out (by omega) hg)
          replace R := Lib.hid (R.out.kept hg (by intro e; have e := Option.some.inj e; omega))
          replace I1 := Lib.hid (I1.out.kept hg (by omega))
          replace I2 := Lib.hid (I2.out.kept hg (by omega))
          replace K := Lib.hid (K.out.kept hg (by intro e; have e := Option.some.inj e; omega))
          replace M := Lib.hid (M.out.kept hg (by omega))
          replace H := Lib.hid (H.out.grownN hg (by omega) (by omega))
          clear hg
          have hlo := OQ.out.lt
          have N := Lib.hid (show IR W7 w3.heap.size (W7).heap.size (some ⟨gb7, 0, none⟩) (0 + 1) _ from ⟨OQ.out.ints, fun b off e => by injection e with e; injection e with e _; omega⟩)
          clear OQ hlo
          go_wp2_with fail
          refine wp_region_held_drew (S := (fun w' => w'.cell? ⟨w2.heap.size, 0, none⟩ = some (.int .i64 (need : Int)) ∧ w'.cell? ⟨w2.heap.size, 1, none⟩ = some (.int .i64 (many : Int)) ∧ w'.cell? ⟨w2.heap.size, 2, none⟩ = some (.slice ag ng cg) ∧ w'.cell? ⟨w2.heap.size, 3, none⟩ = some (.slice ac nc cc))) (by kernel_rfl) (⟨K.out.cell 0, K.out.cell 1, K.out.cell 2, K.out.cell 3⟩) (fun hHeld => ?_)
          have hg := gdrew W7
          replace G := Lib.hid (gtr G.out hg)
          replace R := Lib.hid (R.out.keptN hg)
          replace I1 := Lib.hid (I1.out.keptN hg)
          replace I2 := Lib.hid (I2.out.keptN hg)
          replace K := Lib.hid (K.out.keptN hg)
          replace M := Lib.hid (M.out.keptN hg)
          replace H := Lib.hid (H.out.gN hg)
          replace N := Lib.hid (N.out.keptN hg)
          clear hg
          generalize (W7).drew = V7 at *
          refine wpAnyH_take (i := 0) (oi := ⟨some 53, _, _, _, _, _⟩) (v := ?_) rfl (by kernel_rfl) (by kernel_rfl) (by kernel_rfl) (fun _ _ _ h => h) (Or.inl ⟨by rfl, ?_⟩) (by assumption) ?_
          rotate_left
          · intro w hSw; (try dsimp only at hSw); go_simp; try with_reducible rfl
          simp only [Act.put, List.setIfInBounds_toArray, List.set_cons_zero, List.set_cons_succ]
          refine wpAnyH_take (i := 1) (oi := ⟨some 54, _, _, _, _, _⟩) (v := ?_) rfl (by kernel_rfl) (by kernel_rfl) (by kernel_rfl) (fun _ _ _ h => h) (Or.inl ⟨by rfl, ?_⟩) (by assumption) ?_
          rotate_left
          · intro w hSw; (try dsimp only at hSw); go_simp; try with_reducible rfl
          simp only [Act.put, List.setIfInBounds_toArray, List.set_cons_zero, List.set_cons_succ]
          refine wpAnyH_take (i := 3) (oi := ⟨some 56, _, _, _, _, _⟩) (v := ?_) rfl (by kernel_rfl) (by kernel_rfl) (by kernel_rfl) (fun _ _ _ h => h) (Or.inl ⟨by rfl, ?_⟩) (by assumption) ?_
          rotate_left
          · intro w hSw; (try dsimp only at hSw); go_simp; try with_reducible rfl
          simp only [Act.put, List.setIfInBounds_toArray, List.set_cons_zero, List.set_cons_succ]
          refine wpAnyH_take (i := 4) (oi := ⟨some 57, _, _, _, _, _⟩) (v := ?_) rfl (by kernel_rfl) (by kernel_rfl) (by kernel_rfl) (fun _ _ _ h => h) (Or.inl ⟨by rfl, ?_⟩) (by assumption) ?_
          rotate_left
          · intro w hSw; (try dsimp only at hSw); go_simp; try with_reducible rfl
          simp only [Act.put, List.setIfInBounds_toArray, List.set_cons_zero, List.set_cons_succ]
          refine wpAnyH_ready (rs := [2]) (by kernel_rfl) (by simp) ?_
          refine AllReadyH.cons (o := ⟨some 55, _, _, _, _, _⟩) rfl (fun Kq hKq => ?_) AllReadyH.nil
          go_simp
          go_at_call 17
          refine (msg_any _ _ _ a l1 c1' _ H.out (by omega)).mono ?_
          rintro e V8 ⟨u2, _, _, rfl, hg, p6, hp6, hp6', hr⟩
          replace H := Lib.hid hr
          replace G := Lib.hid (grown_new G.out (by omega) hg)
          replace R := Lib.hid (R.out.kept hg (by intro e; have e := Option.some.inj e; omega))
          replace I1 := Lib.hid (I1.out.kept hg (by omega))
          replace I2 := Lib.hid (I2.out.kept hg (by omega))
          replace K := Lib.hid (K.out.kept hg (by intro e; have e := Option.some.inj e; omega))
          replace M := Lib.hid (M.out.kept hg (by omega))
          replace N := Lib.hid (N.out.kept hg (by omega))
          clear hg
          clear hr
          refine hKq.out _ _ (⟨K.out.cell 0, K.out.cell 1, K.out.cell 2, K.out.cell 3⟩) (fun hHeld => ?_)
          clear hKq Kq
          refine wpAnyH_ready (rs := [5]) (by kernel_rfl) (by simp) ?_
          refine AllReadyH.cons (o := ⟨none, _, _, _, _, _⟩) rfl (fun Kq hKq => ?_) AllReadyH.nil
          rw [if_pos (by rfl)]
          refine wp_store_blk 25 (.tmp 2) (.tmp 53) _ _ _ 25 R.out rfl rfl rfl rfl (by kernel_rfl) (by simp [Value.oneCell']) rfl ?_
          intro V9 hg hT
          replace R := Lib.hid hT
          replace G := Lib.hid (grown_new G.out (by omega) hg)
          replace I1 := Lib.hid (I1.out.kept hg (by omega))
          replace I2 := Lib.hid (I2.out.kept hg (by omega))
          replace K := Lib.hid (K.out.kept hg (by intro e; have e := Option.some.inj e; omega))
          replace M := Lib.hid (M.out.kept hg (by omega))
          replace N := Lib.hid (N.out.kept hg (by omega))
          replace H := Lib.hid (H.out.grownN hg (by omega) (by omega))
          clear hg
          clear hT
          refine hKq.out _ _ (⟨K.out.cell 0, K.out.cell 1, K.out.cell 2, K.out.cell 3⟩) (fun hHeld => ?_)
          clear hKq Kq
          refine wpAnyH_take (i := 6) (oi := ⟨some 3, _, _, _, _, _⟩) (v := ?_) rfl (by kernel_rfl) (by kernel_rfl) (by kernel_rfl) (fun _ _ _ h => h) (Or.inl ⟨by rfl, ?_⟩) (by assumption) ?_
          rotate_left
          · intro w hSw; (try dsimp only at hSw); go_simp; try with_reducible rfl
          simp only [Act.put, List.setIfInBounds_toArray, List.set_cons_zero, List.set_cons_succ]
          refine wpAnyH_take (i := 7) (oi := ⟨some 4, _, _, _, _, _⟩) (v := ?_) rfl (by kernel_rfl) (by kernel_rfl) (by kernel_rfl) (fun _ _ _ h => h) (Or.inl ⟨by rfl, ?_⟩) (by assumption) ?_
          rotate_left
          · intro w hSw; (try dsimp only at hSw); go_simp; try with_reducible rfl
          simp only [Act.put, List.setIfInBounds_toArray, List.set_cons_zero, List.set_cons_succ]
          refine wpAnyH_take (i := 8) (oi := ⟨some 5, _, _, _, _, _⟩) (v := ?_) rfl (by kernel_rfl) (by kernel_rfl) (by kernel_rfl) (fun _ _ _ h => h) (Or.inl ⟨by rfl, ?_⟩) (by assumption) ?_
          rotate_left
          · intro w hSw; (try dsimp only at hSw); go_simp; try with_reducible rfl
          simp only [Act.put, List.setIfInBounds_toArray, List.set_cons_zero, List.set_cons_succ]
          refine wpAnyH_done (by kernel_rfl) ?_ _
          go_wp2
          (try simp only [Exit.inBlock, Exit.then])
          refine bodyPost_ret (ret_k4s rfl _ rfl R.out) rfl ?_
          exact ⟨need, many, ag, ng, cg, zg, ac, nc, cc, zc, _, _, cm, zm, _, _, _, _, _, rfl, by omega, by omega, by omega, hmc, hcm, by omega, I1.out.i, I2.out.i, M.out.i, N.out.i, G.out⟩
        · have e6 : (x6 == 0) = false := by simp; omega
          have hlo := OQ.out.lt
          have N := Lib.hid (show IR W6 w3.heap.size (W6).heap.size (some ⟨g, 0, none⟩) 0 _ from ⟨OQ.out.ints, fun b off e => by injection e with e; injection e with e _; omega⟩)
          clear OQ hlo
          go_wp2_with fail
          refine wp_region_held_drew (S := (fun w' => w'.cell? ⟨w2.heap.size, 0, none⟩ = some (.int .i64 (need : Int)) ∧ w'.cell? ⟨w2.heap.size, 1, none⟩ = some (.int .i64 (many : Int)) ∧ w'.cell? ⟨w2.heap.size, 2, none⟩ = some (.slice ag ng cg) ∧ w'.cell? ⟨w2.heap.size, 3, none⟩ = some (.slice ac nc cc))) (by kernel_rfl) (⟨K.out.cell 0, K.out.cell 1, K.out.cell 2, K.out.cell 3⟩) (fun hHeld => ?_)
          have hg := gdrew W6
          replace G := Lib.hid (gtr G.out hg)
          replace R := Lib.hid (R.out.keptN hg)
          replace I1 := Lib.hid (I1.out.keptN hg)
          replace I2 := Lib.hid (I2.out.keptN hg)
          replace K := Lib.hid (K.out.keptN hg)
          replace M := Lib.hid (M.out.keptN hg)
          replace H := Lib.hid (H.out.gN hg)
          replace N := Lib.hid (N.out.keptN hg)
          clear hg
          generalize (W6).drew = V7 at *
          refine wpAnyH_take (i := 0) (oi := ⟨some 53, _, _, _, _, _⟩) (v := ?_) rfl (by kernel_rfl) (by kernel_rfl) (by kernel_rfl) (fun _ _ _ h => h) (Or.inl ⟨by rfl, ?_⟩) (by assumption) ?_
          rotate_left
          · intro w hSw; (try dsimp only at hSw); go_simp; try with_reducible rfl
          simp only [Act.put, List.setIfInBounds_toArray, List.set_cons_zero, List.set_cons_succ]
          refine wpAnyH_take (i := 1) (oi := ⟨some 54, _, _, _, _, _⟩) (v := ?_) rfl (by kernel_rfl) (by kernel_rfl) (by kernel_rfl) (fun _ _ _ h => h) (Or.inl ⟨by rfl, ?_⟩) (by assumption) ?_
          rotate_left
          · intro w hSw; (try dsimp only at hSw); go_simp; try with_reducible rfl
          simp only [Act.put, List.setIfInBounds_toArray, List.set_cons_zero, List.set_cons_succ]
          refine wpAnyH_take (i := 3) (oi := ⟨some 56, _, _, _, _, _⟩) (v := ?_) rfl (by kernel_rfl) (by kernel_rfl) (by kernel_rfl) (fun _ _ _ h => h) (Or.inl ⟨by rfl, ?_⟩) (by assumption) ?_
          rotate_left
          · intro w hSw; (try dsimp only at hSw); go_simp; try with_reducible rfl
          simp only [Act.put, List.setIfInBounds_toArray, List.set_cons_zero, List.set_cons_succ]
          refine wpAnyH_take (i := 4) (oi := ⟨some 57, _, _, _, _, _⟩) (v := ?_) rfl (by kernel_rfl) (by kernel_rfl) (by kernel_rfl) (fun _ _ _ h => h) (Or.inl ⟨by rfl, ?_⟩) (by assumption) ?_
          rotate_left
          · intro w hSw; (try dsimp only at hSw); go_simp; try with_reducible rfl
          simp only [Act.put, List.setIfInBounds_toArray, List.set_cons_zero, List.set_cons_succ]
          refine wpAnyH_ready (rs := [2]) (by kernel_rfl) (by simp) ?_
          refine AllReadyH.cons (o := ⟨some 55, _, _, _, _, _⟩) rfl (fun Kq hKq => ?_) AllReadyH.nil
          go_simp
          go_at_call 17
          refine (msg_any _ _ _ a l1 c1' _ H.out (by omega)).mono ?_
          rintro e V8 ⟨u2, _, _, rfl, hg, p6, hp6, hp6', hr⟩
          replace H := Lib.hid hr
          replace G := Lib.hid (grown_new G.out (by omega) hg)
          replace R := Lib.hid (R.out.kept hg (by intro e; have e := Option.some.inj e; omega))
          replace I1 := Lib.hid (I1.out.kept hg (by omega))
          replace I2 := Lib.hid (I2.out.kept hg (by omega))
          replace K := Lib.hid (K.out.kept hg (by intro e; have e := Option.some.inj e; omega))
          replace M := Lib.hid (M.out.kept hg (by omega))
          replace N := Lib.hid (N.out.kept hg (by omega))
          clear hg
          clear hr
          refine hKq.out _ _ (⟨K.out.cell 0, K.out.cell 1, K.out.cell 2, K.out.cell 3⟩) (fun hHeld => ?_)
          clear hKq Kq
          refine wpAnyH_ready (rs := [5]) (by kernel_rfl) (by simp) ?_
          refine AllReadyH.cons (o := ⟨none, _, _, _, _, _⟩) rfl (fun Kq hKq => ?_) AllReadyH.nil
          rw [if_pos (by rfl)]
          refine wp_store_blk 25 (.tmp 2) (.tmp 53) _ _ _ 25 R.out rfl rfl rfl rfl (by kernel_rfl) (by simp [Value.oneCell']) rfl ?_
          intro V9 hg hT
          replace R := Lib.hid hT
          replace G := Lib.hid (grown_new G.out (by omega) hg)
          replace I1 := Lib.hid (I1.out.kept hg (by omega))
          replace I2 := Lib.hid (I2.out.kept hg (by omega))
          replace K := Lib.hid (K.out.kept hg (by intro e; have e := Option.some.inj e; omega))
          replace M := Lib.hid (M.out.kept hg (by omega))
          replace N := Lib.hid (N.out.kept hg (by omega))
          replace H := Lib.hid (H.out.grownN hg (by omega) (by omega))
          clear hg
          clear hT
          refine hKq.out _ _ (⟨K.out.cell 0, K.out.cell 1, K.out.cell 2, K.out.cell 3⟩) (fun hHeld => ?_)
          clear hKq Kq
          refine wpAnyH_take (i := 6) (oi := ⟨some 3, _, _, _, _, _⟩) (v := ?_) rfl (by kernel_rfl) (by kernel_rfl) (by kernel_rfl) (fun _ _ _ h => h) (Or.inl ⟨by rfl, ?_⟩) (by assumption) ?_
          rotate_left
          · intro w hSw; (try dsimp only at hSw); go_simp; try with_reducible rfl
          simp only [Act.put, List.setIfInBounds_toArray, List.set_cons_zero, List.set_cons_succ]
          refine wpAnyH_take (i := 7) (oi := ⟨some 4, _, _, _, _, _⟩) (v := ?_) rfl (by kernel_rfl) (by kernel_rfl) (by kernel_rfl) (fun _ _ _ h => h) (Or.inl ⟨by rfl, ?_⟩) (by assumption) ?_
          rotate_left
          · intro w hSw; (try dsimp only at hSw); go_simp; try with_reducible rfl
          simp only [Act.put, List.setIfInBounds_toArray, List.set_cons_zero, List.set_cons_succ]
          refine wpAnyH_take (i := 8) (oi := ⟨some 5, _, _, _, _, _⟩) (v := ?_) rfl (by kernel_rfl) (by kernel_rfl) (by kernel_rfl) (fun _ _ _ h => h) (Or.inl ⟨by rfl, ?_⟩) (by assumption) ?_
          rotate_left
          · intro w hSw; (try dsimp only at hSw); go_simp; try with_reducible rfl
          simp only [Act.put, List.setIfInBounds_toArray, List.set_cons_zero, List.set_cons_succ]
          refine wpAnyH_done (by kernel_rfl) ?_ _
          go_wp2
          (try simp only [Exit.inBlock, Exit.then])
          refine bodyPost_ret (ret_k4s rfl _ rfl R.out) rfl ?_
          exact ⟨need, many, ag, ng, cg, zg, ac, nc, cc, zc, _, _, cm, zm, _, _, _, _, _, rfl, by omega, by omega, by omega, hmc, hcm, by omega, I1.out.i, I2.out.i, M.out.i, N.out.i, G.out⟩
      · have hk0 : (0 : Int) < (k : Int) := by omega
        go_wp2_with fail
        refine (pick_any _ _ _ a l1 c1' _ 16 H.out (by omega) (by omega)).mono ?_
        rintro e W5 ⟨x5, x50, x51, rfl, hr, hg, hs⟩
        replace OQ := Lib.hid (OQ.out.kept hg (by intro e; have e := Option.some.inj e; have := OQ.out.lt; omega))
        replace H := Lib.hid hr
        replace G := Lib.hid (grown_new G.out (by omega) hg)
        replace R := Lib.hid (R.out.kept hg (by intro e; have e := Option.some.inj e; omega))
        replace I1 := Lib.hid (I1.out.kept hg (by omega))
        replace I2 := Lib.hid (I2.out.kept hg (by omega))
        replace K := Lib.hid (K.out.kept hg (by intro e; have e := Option.some.inj e; omega))
        replace M := Lib.hid (M.out.kept hg (by omega))
        clear hg
        clear hr
        clear hs
        by_cases hx5 : x5 = 0
        · subst hx5
          go_wp2_with fail
          refine (grp_any _ _ _ a l1 c1' _ H.out (by omega)).mono ?_
          rintro e W8 ⟨u1, _, _, rfl, hg, p5, hp5, hp5', hr⟩
          replace OQ := Lib.hid (OQ.out.kept hg (by intro e; have e := Option.some.inj e; have := OQ.out.lt; omega))
          replace H := Lib.hid hr
          replace G := Lib.hid (grown_new G.out (by omega) hg)
          replace R := Lib.hid (R.out.kept hg (by intro e; have e := Option.some.inj e; omega))
          replace I1 := Lib.hid (I1.out.kept hg (by omega))
          replace I2 := Lib.hid (I2.out.kept hg (by omega))
          replace K := Lib.hid (K.out.kept hg (by intro e; have e := Option.some.inj e; omega))
          replace M := Lib.hid (M.out.kept hg (by omega))
          clear hg
          clear hr
          have d0 := oi_cell OQ.out (show 0 < k by omega)
          have f0 := oi_free OQ.out 0
          have hg := Mem.grown_set W8 g 0 (.int .i64 u1)
          have OS := Lib.hid (oi_set OQ.out 0 u1)
          have hlg := OQ.out.lt
          have hk0' : 0 < k := by omega
          go_wp2_with fail
          clear d0 f0 OQ
          replace G := Lib.hid (grown_new G.out (by omega) hg)
          replace R := Lib.hid (R.out.kept hg (by intro e; have e := Option.some.inj e; omega))
          replace I1 := Lib.hid (I1.out.kept hg (by omega))
          replace I2 := Lib.hid (I2.out.kept hg (by omega))
          replace K := Lib.hid (K.out.kept hg (by intro e; have e := Option.some.inj e; omega))
          replace M := Lib.hid (M.out.kept hg (by omega))
          replace H := Lib.hid (H.out.grownN hg (by omega) (by omega))
          clear hg
          generalize W8.setCell ⟨g, 0, none⟩ (.int .i64 u1) = W9 at *
          have OQ := OS
          clear OS
          go_wp2_with fail
          refine (pick_any _ _ _ a l1 c1' _ 24 H.out (by omega) (by omega)).mono ?_
          rintro e W6 ⟨x6, x60, x61, rfl, hr, hg, hs⟩
          replace OQ := Lib.hid (OQ.out.kept hg (by intro e; have e := Option.some.inj e; have := OQ.out.lt; omega))
          have hW6 := hg.size
          replace H := Lib.hid hr
          replace G := Lib.hid (grown_new G.out (by omega) hg)
          replace R := Lib.hid (R.out.kept hg (by intro e; have e := Option.some.inj e; omega))
          replace I1 := Lib.hid (I1.out.kept hg (by omega))
          replace I2 := Lib.hid (I2.out.kept hg (by omega))
          replace K := Lib.hid (K.out.kept hg (by intro e; have e := Option.some.inj e; omega))
          replace M := Lib.hid (M.out.kept hg (by omega))
          clear hg
          clear hr
          clear hs
          by_cases hx6 : x6 = 0
          · subst hx6
            have hg := grown_alloc W6 (.cells #[.int .i64 1] 3) none
            have OA := Lib.hid (OQ.out.keptN hg); have CA := Lib.hid (Blk.new W6 #[.int .i64 1] 3)
            have hlo := OQ.out.lt
            clear OQ
            replace G := Lib.hid (gtr G.out hg)
            replace R := Lib.hid (R.out.keptN hg)
            replace I1 := Lib.hid (I1.out.keptN hg)
            replace I2 := Lib.hid (I2.out.keptN hg)
            replace K := Lib.hid (K.out.keptN hg)
            replace M := Lib.hid (M.out.keptN hg)
            replace H := Lib.hid (H.out.gN hg)
            clear hg
            go_wp2_with (at_builtin; refine app_oi rfl _ _ rfl w3.heap.size _ g k _ rfl OA.out 1 W6.heap.size 1 rfl (CA.out.cell 0) (by omega) (by rw [World.size_alloc]; omega) ?_; intro gb7 cg7 W7 hO7 hg7; have OQ := Lib.hid hO7; have HG7 := Lib.hid hg7; clear hO7 hg7 OA CA; refine stop_here ⟨trivial, ?_⟩)
            have hg := HG7.out
            clear HG7
            replace G := Lib.hid (grown_new G.out (by omega) hg)
            replace R := Lib.hid (R.out.kept hg (by intro e; have e := Option.some.inj e; omega))
            replace I1 := Lib.hid (I1.out.kept hg (by omega))
            replace I2 := Lib.hid (I2.out.kept hg (by omega))
            replace K := Lib.hid (K.out.kept hg (by intro e; have e := Option.some.inj e; omega))
            replace M := Lib.hid (M.out.kept hg (by omega))
            replace H := Lib.hid (H.out.grownN hg (by omega) (by omega))
            clear hg
            have hlo := OQ.out.lt
            have N := Lib.hid (show IR W7 w3.heap.size (W7).heap.size (some ⟨gb7, 0, none⟩) (k + 1) _ from ⟨OQ.out.ints, fun b off e => by injection e with e; injection e with e _; omega⟩)
            clear OQ hlo
            go_wp2_with fail
            refine wp_region_held_drew (S := (fun w' => w'.cell? ⟨w2.heap.size, 0, none⟩ = some (.int .i64 (need : Int)) ∧ w'.cell? ⟨w2.heap.size, 1, none⟩ = some (.int .i64 (many : Int)) ∧ w'.cell? ⟨w2.heap.size, 2, none⟩ = some (.slice ag ng cg) ∧ w'.cell? ⟨w2.heap.size, 3, none⟩ = some (.slice ac nc cc))) (by kernel_rfl) (⟨K.out.cell 0, K.out.cell 1, K.out.cell 2, K.out.cell 3⟩) (fun hHeld => ?_)
            have hg := gdrew W7
            replace G := Lib.hid (gtr G.out hg)
            replace R := Lib.hid (R.out.keptN hg)
            replace I1 := Lib.hid (I1.out.keptN hg)
            replace I2 := Lib.hid (I2.out.keptN hg)
            replace K := Lib.hid (K.out.keptN hg)
            replace M := Lib.hid (M.out.keptN hg)
            replace H := Lib.hid (H.out.gN hg)
            replace N := Lib.hid (N.out.keptN hg)
            clear hg
            generalize (W7).drew = V7 at *
            refine wpAnyH_take (i := 0) (oi := ⟨some 53, _, _, _, _, _⟩) (v := ?_) rfl (by kernel_rfl) (by kernel_rfl) (by kernel_rfl) (fun _ _ _ h => h) (Or.inl ⟨by rfl, ?_⟩) (by assumption) ?_
            rotate_left
            · intro w hSw; (try dsimp only at hSw); go_simp; try with_reducible rfl
            simp only [Act.put, List.setIfInBounds_toArray, List.set_cons_zero, List.set_cons_succ]
            refine wpAnyH_take (i := 1) (oi := ⟨some 54, _, _, _, _, _⟩) (v := ?_) rfl (by kernel_rfl) (by kernel_rfl) (by kernel_rfl) (fun _ _ _ h => h) (Or.inl ⟨by rfl, ?_⟩) (by assumption) ?_
            rotate_left
            · intro w hSw; (try dsimp only at hSw); go_simp; try with_reducible rfl
            simp only [Act.put, List.setIfInBounds_toArray, List.set_cons_zero, List.set_cons_succ]
            refine wpAnyH_take (i := 3) (oi := ⟨some 56, _, _, _, _, _⟩) (v := ?_) rfl (by kernel_rfl) (by kernel_rfl) (by kernel_rfl) (fun _ _ _ h => h) (Or.inl ⟨by rfl, ?_⟩) (by assumption) ?_
            rotate_left
            · intro w hSw; (try dsimp only at hSw); go_simp; try with_reducible rfl
            simp only [Act.put, List.setIfInBounds_toArray, List.set_cons_zero, List.set_cons_succ]
            refine wpAnyH_take (i := 4) (oi := ⟨some 57, _, _, _, _, _⟩) (v := ?_) rfl (by kernel_rfl) (by kernel_rfl) (by kernel_rfl) (fun _ _ _ h => h) (Or.inl ⟨by rfl, ?_⟩) (by assumption) ?_
            rotate_left
            · intro w hSw; (try dsimp only at hSw); go_simp; try with_reducible rfl
            simp only [Act.put, List.setIfInBounds_toArray, List.set_cons_zero, List.set_cons_succ]
            refine wpAnyH_ready (rs := [2]) (by kernel_rfl) (by simp) ?_
            refine AllReadyH.cons (o := ⟨some 55, _, _, _, _, _⟩) rfl (fun Kq hKq => ?_) AllReadyH.nil
            go_simp
            go_at_call 17
            refine (msg_any _ _ _ a l1 c1' _ H.out (by omega)).mono ?_
            rintro e V8 ⟨u2, _, _, rfl, hg, p6, hp6, hp6', hr⟩
            replace H := Lib.hid hr
            replace G := Lib.hid (grown_new G.out (by omega) hg)
            replace R := Lib.hid (R.out.kept hg (by intro e; have e := Option.some.inj e; omega))
            replace I1 := Lib.hid (I1.out.kept hg (by omega))
            replace I2 := Lib.hid (I2.out.kept hg (by omega))
            replace K := Lib.hid (K.out.kept hg (by intro e; have e := Option.some.inj e; omega))
            replace M := Lib.hid (M.out.kept hg (by omega))
            replace N := Lib.hid (N.out.kept hg (by omega))
            clear hg
            clear hr
            refine hKq.out _ _ (⟨K.out.cell 0, K.out.cell 1, K.out.cell 2, K.out.cell 3⟩) (fun hHeld => ?_)
            clear hKq Kq
            refine wpAnyH_ready (rs := [5]) (by kernel_rfl) (by simp) ?_
            refine AllReadyH.cons (o := ⟨none, _, _, _, _, _⟩) rfl (fun Kq hKq => ?_) AllReadyH.nil
            rw [if_pos (by rfl)]
            refine wp_store_blk 25 (.tmp 2) (.tmp 53) _ _ _ 25 R.out rfl rfl rfl rfl (by kernel_rfl) (by simp [Value.oneCell']) rfl ?_
            intro V9 hg hT
            replace R := Lib.hid hT
            replace G := Lib.hid (grown_new G.out (by omega) hg)
            replace I1 := Lib.hid (I1.out.kept hg (by omega))
            replace I2 := Lib.hid (I2.out.kept hg (by omega))
            replace K := Lib.hid (K.out.kept hg (by intro e; have e := Option.some.inj e; omega))
            replace M := Lib.hid (M.out.kept hg (by omega))
            replace N := Lib.hid (N.out.kept hg (by omega))
            replace H := Lib.hid (H.out.grownN hg (by omega) (by omega))
            clear hg
            clear hT
            refine hKq.out _ _ (⟨K.out.cell 0, K.out.cell 1, K.out.cell 2, K.out.cell 3⟩) (fun hHeld => ?_)
            clear hKq Kq
            refine wpAnyH_take (i := 6) (oi := ⟨some 3, _, _, _, _, _⟩) (v := ?_) rfl (by kernel_rfl) (by kernel_rfl) (by kernel_rfl) (fun _ _ _ h => h) (Or.inl ⟨by rfl, ?_⟩) (by assumption) ?_
            rotate_left
            · intro w hSw; (try dsimp only at hSw); go_simp; try with_reducible rfl
            simp only [Act.put, List.setIfInBounds_toArray, List.set_cons_zero, List.set_cons_succ]
            refine wpAnyH_take (i := 7) (oi := ⟨some 4, _, _, _, _, _⟩) (v := ?_) rfl (by kernel_rfl) (by kernel_rfl) (by kernel_rfl) (fun _ _ _ h => h) (Or.inl ⟨by rfl, ?_⟩) (by assumption) ?_
            rotate_left
            · intro w hSw; (try dsimp only at hSw); go_simp; try with_reducible rfl
            simp only [Act.put, List.setIfInBounds_toArray, List.set_cons_zero, List.set_cons_succ]
            refine wpAnyH_take (i := 8) (oi := ⟨some 5, _, _, _, _, _⟩) (v := ?_) rfl (by kernel_rfl) (by kernel_rfl) (by kernel_rfl) (fun _ _ _ h => h) (Or.inl ⟨by rfl, ?_⟩) (by assumption) ?_
            rotate_left
            · intro w hSw; (try dsimp only at hSw); go_simp; try with_reducible rfl
            simp only [Act.put, List.setIfInBounds_toArray, List.set_cons_zero, List.set_cons_succ]
            refine wpAnyH_done (by kernel_rfl) ?_ _
            go_wp2
            (try simp only [Exit.inBlock, Exit.then])
            refine bodyPost_ret (ret_k4s rfl _ rfl R.out) rfl ?_
            exact ⟨need, many, ag, ng, cg, zg, ac, nc, cc, zc, _, _, cm, zm, _, _, _, _, _, rfl, by omega, by omega, by omega, hmc, hcm, by omega, I1.out.i, I2.out.i, M.out.i, N.out.i, G.out⟩
          · have e6 : (x6 == 0) = false := by simp; omega
            have hlo := OQ.out.lt
            have N := Lib.hid (show IR W6 w3.heap.size (W6).heap.size (some ⟨g, 0, none⟩) k _ from ⟨OQ.out.ints, fun b off e => by injection e with e; injection e with e _; omega⟩)
            clear OQ hlo
            go_wp2_with fail
            refine wp_region_held_drew (S := (fun w' => w'.cell? ⟨w2.heap.size, 0, none⟩ = some (.int .i64 (need : Int)) ∧ w'.cell? ⟨w2.heap.size, 1, none⟩ = some (.int .i64 (many : Int)) ∧ w'.cell? ⟨w2.heap.size, 2, none⟩ = some (.slice ag ng cg) ∧ w'.cell? ⟨w2.heap.size, 3, none⟩ = some (.slice ac nc cc))) (by kernel_rfl) (⟨K.out.cell 0, K.out.cell 1, K.out.cell 2, K.out.cell 3⟩) (fun hHeld => ?_)
            have hg := gdrew W6
            replace G := Lib.hid (gtr G.out hg)
            replace R := Lib.hid (R.out.keptN hg)
            replace I1 := Lib.hid (I1.out.keptN hg)
            replace I2 := Lib.hid (I2.out.keptN hg)
            replace K := Lib.hid (K.out.keptN hg)
            replace M := Lib.hid (M.out.keptN hg)
            replace H := Lib.hid (H.out.gN hg)
            replace N := Lib.hid (N.out.keptN hg)
            clear hg
            generalize (W6).drew = V7 at *
            refine wpAnyH_take (i := 0) (oi := ⟨some 53, _, _, _, _, _⟩) (v := ?_) rfl (by kernel_rfl) (by kernel_rfl) (by kernel_rfl) (fun _ _ _ h => h) (Or.inl ⟨by rfl, ?_⟩) (by assumption) ?_
            rotate_left
            · intro w hSw; (try dsimp only at hSw); go_simp; try with_reducible rfl
            simp only [Act.put, List.setIfInBounds_toArray, List.set_cons_zero, List.set_cons_succ]
            refine wpAnyH_take (i := 1) (oi := ⟨some 54, _, _, _, _, _⟩) (v := ?_) rfl (by kernel_rfl) (by kernel_rfl) (by kernel_rfl) (fun _ _ _ h => h) (Or.inl ⟨by rfl, ?_⟩) (by assumption) ?_
            rotate_left
            · intro w hSw; (try dsimp only at hSw); go_simp; try with_reducible rfl
            simp only [Act.put, List.setIfInBounds_toArray, List.set_cons_zero, List.set_cons_succ]
            refine wpAnyH_take (i := 3) (oi := ⟨some 56, _, _, _, _, _⟩) (v := ?_) rfl (by kernel_rfl) (by kernel_rfl) (by kernel_rfl) (fun _ _ _ h => h) (Or.inl ⟨by rfl, ?_⟩) (by assumption) ?_
            rotate_left
            · intro w hSw; (try dsimp only at hSw); go_simp; try with_reducible rfl
            simp only [Act.put, List.setIfInBounds_toArray, List.set_cons_zero, List.set_cons_succ]
            refine wpAnyH_take (i := 4) (oi := ⟨some 57, _, _, _, _, _⟩) (v := ?_) rfl (by kernel_rfl) (by kernel_rfl) (by kernel_rfl) (fun _ _ _ h => h) (Or.inl ⟨by rfl, ?_⟩) (by assumption) ?_
            rotate_left
            · intro w hSw; (try dsimp only at hSw); go_simp; try with_reducible rfl
            simp only [Act.put, List.setIfInBounds_toArray, List.set_cons_zero, List.set_cons_succ]
            refine wpAnyH_ready (rs := [2]) (by kernel_rfl) (by simp) ?_
            refine AllReadyH.cons (o := ⟨some 55, _, _, _, _, _⟩) rfl (fun Kq hKq => ?_) AllReadyH.nil
            go_simp
            go_at_call 17
            refine (msg_any _ _ _ a l1 c1' _ H.out (by omega)).mono ?_
            rintro e V8 ⟨u2, _, _, rfl, hg, p6, hp6, hp6', hr⟩
            replace H := Lib.hid hr
            replace G := Lib.hid (grown_new G.out (by omega) hg)
            replace R := Lib.hid (R.out.kept hg (by intro e; have e := Option.some.inj e; omega))
            replace I1 := Lib.hid (I1.out.kept hg (by omega))
            replace I2 := Lib.hid (I2.out.kept hg (by omega))
            replace K := Lib.hid (K.out.kept hg (by intro e; have e := Option.some.inj e; omega))
            replace M := Lib.hid (M.out.kept hg (by omega))
            replace N := Lib.hid (N.out.kept hg (by omega))
            clear hg
            clear hr
            refine hKq.out _ _ (⟨K.out.cell 0, K.out.cell 1, K.out.cell 2, K.out.cell 3⟩) (fun hHeld => ?_)
            clear hKq Kq
            refine wpAnyH_ready (rs := [5]) (by kernel_rfl) (by simp) ?_
            refine AllReadyH.cons (o := ⟨none, _, _, _, _, _⟩) rfl (fun Kq hKq => ?_) AllReadyH.nil
            rw [if_pos (by rfl)]
            refine wp_store_blk 25 (.tmp 2) (.tmp 53) _ _ _ 25 R.out rfl rfl rfl rfl (by kernel_rfl) (by simp [Value.oneCell']) rfl ?_
            intro V9 hg hT
            replace R := Lib.hid hT
            replace G := Lib.hid (grown_new G.out (by omega) hg)
            replace I1 := Lib.hid (I1.out.kept hg (by omega))
            replace I2 := Lib.hid (I2.out.kept hg (by omega))
            replace K := Lib.hid (K.out.kept hg (by intro e; have e := Option.some.inj e; omega))
            replace M := Lib.hid (M.out.kept hg (by omega))
            replace N := Lib.hid (N.out.kept hg (by omega))
            replace H := Lib.hid (H.out.grownN hg (by omega) (by omega))
            clear hg
            clear hT
            refine hKq.out _ _ (⟨K.out.cell 0, K.out.cell 1, K.out.cell 2, K.out.cell 3⟩) (fun hHeld => ?_)
            clear hKq Kq
            refine wpAnyH_take (i := 6) (oi := ⟨some 3, _, _, _, _, _⟩) (v := ?_) rfl (by kernel_rfl) (by kernel_rfl) (by kernel_rfl) (fun _ _ _ h => h) (Or.inl ⟨by rfl, ?_⟩) (by assumption) ?_
            rotate_left
            · intro w hSw; (try dsimp only at hSw); go_simp; try with_reducible rfl
            simp only [Act.put, List.setIfInBounds_toArray, List.set_cons_zero, List.set_cons_succ]
            refine wpAnyH_take (i := 7) (oi := ⟨some 4, _, _, _, _, _⟩) (v := ?_) rfl (by kernel_rfl) (by kernel_rfl) (by kernel_rfl) (fun _ _ _ h => h) (Or.inl ⟨by rfl, ?_⟩) (by assumption) ?_
            rotate_left
            · intro w hSw; (try dsimp only at hSw); go_simp; try with_reducible rfl
            simp only [Act.put, List.setIfInBounds_toArray, List.set_cons_zero, List.set_cons_succ]
            refine wpAnyH_take (i := 8) (oi := ⟨some 5, _, _, _, _, _⟩) (v := ?_) rfl (by kernel_rfl) (by kernel_rfl) (by kernel_rfl) (fun _ _ _ h => h) (Or.inl ⟨by rfl, ?_⟩) (by assumption) ?_
            rotate_left
            · intro w hSw; (try dsimp only at hSw); go_simp; try with_reducible rfl
            simp only [Act.put, List.setIfInBounds_toArray, List.set_cons_zero, List.set_cons_succ]
            refine wpAnyH_done (by kernel_rfl) ?_ _
            go_wp2
            (try simp only [Exit.inBlock, Exit.then])
            refine bodyPost_ret (ret_k4s rfl _ rfl R.out) rfl ?_
            exact ⟨need, many, ag, ng, cg, zg, ac, nc, cc, zc, _, _, cm, zm, _, _, _, _, _, rfl, by omega, by omega, by omega, hmc, hcm, by omega, I1.out.i, I2.out.i, M.out.i, N.out.i, G.out⟩
        · have e5 : (x5 == 0) = false := by simp; omega
          go_wp2_with fail
          refine (pick_any _ _ _ a l1 c1' _ 24 H.out (by omega) (by omega)).mono ?_
          rintro e W6 ⟨x6, x60, x61, rfl, hr, hg, hs⟩
          replace OQ := Lib.hid (OQ.out.kept hg (by intro e; have e := Option.some.inj e; have := OQ.out.lt; omega))
          have hW6 := hg.size
          replace H := Lib.hid hr
          replace G := Lib.hid (grown_new G.out (by omega) hg)
          replace R := Lib.hid (R.out.kept hg (by intro e; have e := Option.some.inj e; omega))
          replace I1 := Lib.hid (I1.out.kept hg (by omega))
          replace I2 := Lib.hid (I2.out.kept hg (by omega))
          replace K := Lib.hid (K.out.kept hg (by intro e; have e := Option.some.inj e; omega))
          replace M := Lib.hid (M.out.kept hg (by omega))
          clear hg
          clear hr
          clear hs
          by_cases hx6 : x6 = 0
          · subst hx6
            have hg := grown_alloc W6 (.cells #[.int .i64 1] 3) none
            have OA := Lib.hid (OQ.out.keptN hg); have CA := Lib.hid (Blk.new W6 #[.int .i64 1] 3)
            have hlo := OQ.out.lt
            clear OQ
            replace G := Lib.hid (gtr G.out hg)
            replace R := Lib.hid (R.out.keptN hg)
            replace I1 := Lib.hid (I1.out.keptN hg)
            replace I2 := Lib.hid (I2.out.keptN hg)
            replace K := Lib.hid (K.out.keptN hg)
            replace M := Lib.hid (M.out.keptN hg)
            replace H := Lib.hid (H.out.gN hg)
            clear hg
            go_wp2_with (at_builtin; refine app_oi rfl _ _ rfl w3.heap.size _ g k _ rfl OA.out 1 W6.heap.size 1 rfl (CA.out.cell 0) (by omega) (by rw [World.size_alloc]; omega) ?_; intro gb7 cg7 W7 hO7 hg7; have OQ := Lib.hid hO7; have HG7 := Lib.hid hg7; clear hO7 hg7 OA CA; refine stop_here ⟨trivial, ?_⟩)
            have hg := HG7.out
            clear HG7
            replace G := Lib.hid (grown_new G.out (by omega) hg)
            replace R := Lib.hid (R.out.kept hg (by intro e; have e := Option.some.inj e; omega))
            replace I1 := Lib.hid (I1.out.kept hg (by omega))
            replace I2 := Lib.hid (I2.out.kept hg (by omega))
            replace K := Lib.hid (K.out.kept hg (by intro e; have e := Option.some.inj e; omega))
            replace M := Lib.hid (M.out.kept hg (by omega))
            replace H := Lib.hid (H.out.grownN hg (by omega) (by omega))
            clear hg
            have hlo := OQ.out.lt
            have N := Lib.hid (show IR W7 w3.heap.size (W7).heap.size (some ⟨gb7, 0, none⟩) (k + 1) _ from ⟨OQ.out.ints, fun b off e => by injection e with e; injection e with e _; omega⟩)
            clear OQ hlo
            go_wp2_with fail
            refine wp_region_held_drew (S := (fun w' => w'.cell? ⟨w2.heap.size, 0, none⟩ = some (.int .i64 (need : Int)) ∧ w'.cell? ⟨w2.heap.size, 1, none⟩ = some (.int .i64 (many : Int)) ∧ w'.cell? ⟨w2.heap.size, 2, none⟩ = some (.slice ag ng cg) ∧ w'.cell? ⟨w2.heap.size, 3, none⟩ = some (.slice ac nc cc))) (by kernel_rfl) (⟨K.out.cell 0, K.out.cell 1, K.out.cell 2, K.out.cell 3⟩) (fun hHeld => ?_)
            have hg := gdrew W7
            replace G := Lib.hid (gtr G.out hg)
            replace R := Lib.hid (R.out.keptN hg)
            replace I1 := Lib.hid (I1.out.keptN hg)
            replace I2 := Lib.hid (I2.out.keptN hg)
            replace K := Lib.hid (K.out.keptN hg)
            replace M := Lib.hid (M.out.keptN hg)
            replace H := Lib.hid (H.out.gN hg)
            replace N := Lib.hid (N.out.keptN hg)
            clear hg
            generalize (W7).drew = V7 at *
            refine wpAnyH_take (i := 0) (oi := ⟨some 53, _, _, _, _, _⟩) (v := ?_) rfl (by kernel_rfl) (by kernel_rfl) (by kernel_rfl) (fun _ _ _ h => h) (Or.inl ⟨by rfl, ?_⟩) (by assumption) ?_
            rotate_left
            · intro w hSw; (try dsimp only at hSw); go_simp; try with_reducible rfl
            simp only [Act.put, List.setIfInBounds_toArray, List.set_cons_zero, List.set_cons_succ]
            refine wpAnyH_take (i := 1) (oi := ⟨some 54, _, _, _, _, _⟩) (v := ?_) rfl (by kernel_rfl) (by kernel_rfl) (by kernel_rfl) (fun _ _ _ h => h) (Or.inl ⟨by rfl, ?_⟩) (by assumption) ?_
            rotate_left
            · intro w hSw; (try dsimp only at hSw); go_simp; try with_reducible rfl
            simp only [Act.put, List.setIfInBounds_toArray, List.set_cons_zero, List.set_cons_succ]
            refine wpAnyH_take (i := 3) (oi := ⟨some 56, _, _, _, _, _⟩) (v := ?_) rfl (by kernel_rfl) (by kernel_rfl) (by kernel_rfl) (fun _ _ _ h => h) (Or.inl ⟨by rfl, ?_⟩) (by assumption) ?_
            rotate_left
            · intro w hSw; (try dsimp only at hSw); go_simp; try with_reducible rfl
            simp only [Act.put, List.setIfInBounds_toArray, List.set_cons_zero, List.set_cons_succ]
            refine wpAnyH_take (i := 4) (oi := ⟨some 57, _, _, _, _, _⟩) (v := ?_) rfl (by kernel_rfl) (by kernel_rfl) (by kernel_rfl) (fun _ _ _ h => h) (Or.inl ⟨by rfl, ?_⟩) (by assumption) ?_
            rotate_left
            · intro w hSw; (try dsimp only at hSw); go_simp; try with_reducible rfl
            simp only [Act.put, List.setIfInBounds_toArray, List.set_cons_zero, List.set_cons_succ]
            refine wpAnyH_ready (rs := [2]) (by kernel_rfl) (by simp) ?_
            refine AllReadyH.cons (o := ⟨some 55, _, _, _, _, _⟩) rfl (fun Kq hKq => ?_) AllReadyH.nil
            go_simp
            go_at_call 17
            refine (msg_any _ _ _ a l1 c1' _ H.out (by omega)).mono ?_
            rintro e V8 ⟨u2, _, _, rfl, hg, p6, hp6, hp6', hr⟩
            replace H := Lib.hid hr
            replace G := Lib.hid (grown_new G.out (by omega) hg)
            replace R := Lib.hid (R.out.kept hg (by intro e; have e := Option.some.inj e; omega))
            replace I1 := Lib.hid (I1.out.kept hg (by omega))
            replace I2 := Lib.hid (I2.out.kept hg (by omega))
            replace K := Lib.hid (K.out.kept hg (by intro e; have e := Option.some.inj e; omega))
            replace M := Lib.hid (M.out.kept hg (by omega))
            replace N := Lib.hid (N.out.kept hg (by omega))
            clear hg
            clear hr
            refine hKq.out _ _ (⟨K.out.cell 0, K.out.cell 1, K.out.cell 2, K.out.cell 3⟩) (fun hHeld => ?_)
            clear hKq Kq
            refine wpAnyH_ready (rs := [5]) (by kernel_rfl) (by simp) ?_
            refine AllReadyH.cons (o := ⟨none, _, _, _, _, _⟩) rfl (fun Kq hKq => ?_) AllReadyH.nil
            rw [if_pos (by rfl)]
            refine wp_store_blk 25 (.tmp 2) (.tmp 53) _ _ _ 25 R.out rfl rfl rfl rfl (by kernel_rfl) (by simp [Value.oneCell']) rfl ?_
            intro V9 hg hT
            replace R := Lib.hid hT
            replace G := Lib.hid (grown_new G.out (by omega) hg)
            replace I1 := Lib.hid (I1.out.kept hg (by omega))
            replace I2 := Lib.hid (I2.out.kept hg (by omega))
            replace K := Lib.hid (K.out.kept hg (by intro e; have e := Option.some.inj e; omega))
            replace M := Lib.hid (M.out.kept hg (by omega))
            replace N := Lib.hid (N.out.kept hg (by omega))
            replace H := Lib.hid (H.out.grownN hg (by omega) (by omega))
            clear hg
            clear hT
            refine hKq.out _ _ (⟨K.out.cell 0, K.out.cell 1, K.out.cell 2, K.out.cell 3⟩) (fun hHeld => ?_)
            clear hKq Kq
            refine wpAnyH_take (i := 6) (oi := ⟨some 3, _, _, _, _, _⟩) (v := ?_) rfl (by kernel_rfl) (by kernel_rfl) (by kernel_rfl) (fun _ _ _ h => h) (Or.inl ⟨by rfl, ?_⟩) (by assumption) ?_
            rotate_left
            · intro w hSw; (try dsimp only at hSw); go_simp; try with_reducible rfl
            simp only [Act.put, List.setIfInBounds_toArray, List.set_cons_zero, List.set_cons_succ]
            refine wpAnyH_take (i := 7) (oi := ⟨some 4, _, _, _, _, _⟩) (v := ?_) rfl (by kernel_rfl) (by kernel_rfl) (by kernel_rfl) (fun _ _ _ h => h) (Or.inl ⟨by rfl, ?_⟩) (by assumption) ?_
            rotate_left
            · intro w hSw; (try dsimp only at hSw); go_simp; try with_reducible rfl
            simp only [Act.put, List.setIfInBounds_toArray, List.set_cons_zero, List.set_cons_succ]
            refine wpAnyH_take (i := 8) (oi := ⟨some 5, _, _, _, _, _⟩) (v := ?_) rfl (by kernel_rfl) (by kernel_rfl) (by kernel_rfl) (fun _ _ _ h => h) (Or.inl ⟨by rfl, ?_⟩) (by assumption) ?_
            rotate_left
            · intro w hSw; (try dsimp only at hSw); go_simp; try with_reducible rfl
            simp only [Act.put, List.setIfInBounds_toArray, List.set_cons_zero, List.set_cons_succ]
            refine wpAnyH_done (by kernel_rfl) ?_ _
            go_wp2
            (try simp only [Exit.inBlock, Exit.then])
            refine bodyPost_ret (ret_k4s rfl _ rfl R.out) rfl ?_
            exact ⟨need, many, ag, ng, cg, zg, ac, nc, cc, zc, _, _, cm, zm, _, _, _, _, _, rfl, by omega, by omega, by omega, hmc, hcm, by omega, I1.out.i, I2.out.i, M.out.i, N.out.i, G.out⟩
          · have e6 : (x6 == 0) = false := by simp; omega
            have hlo := OQ.out.lt
            have N := Lib.hid (show IR W6 w3.heap.size (W6).heap.size (some ⟨g, 0, none⟩) k _ from ⟨OQ.out.ints, fun b off e => by injection e with e; injection e with e _; omega⟩)
            clear OQ hlo
            go_wp2_with fail
            refine wp_region_held_drew (S := (fun w' => w'.cell? ⟨w2.heap.size, 0, none⟩ = some (.int .i64 (need : Int)) ∧ w'.cell? ⟨w2.heap.size, 1, none⟩ = some (.int .i64 (many : Int)) ∧ w'.cell? ⟨w2.heap.size, 2, none⟩ = some (.slice ag ng cg) ∧ w'.cell? ⟨w2.heap.size, 3, none⟩ = some (.slice ac nc cc))) (by kernel_rfl) (⟨K.out.cell 0, K.out.cell 1, K.out.cell 2, K.out.cell 3⟩) (fun hHeld => ?_)
            have hg := gdrew W6
            replace G := Lib.hid (gtr G.out hg)
            replace R := Lib.hid (R.out.keptN hg)
            replace I1 := Lib.hid (I1.out.keptN hg)
            replace I2 := Lib.hid (I2.out.keptN hg)
            replace K := Lib.hid (K.out.keptN hg)
            replace M := Lib.hid (M.out.keptN hg)
            replace H := Lib.hid (H.out.gN hg)
            replace N := Lib.hid (N.out.keptN hg)
            clear hg
            generalize (W6).drew = V7 at *
            refine wpAnyH_take (i := 0) (oi := ⟨some 53, _, _, _, _, _⟩) (v := ?_) rfl (by kernel_rfl) (by kernel_rfl) (by kernel_rfl) (fun _ _ _ h => h) (Or.inl ⟨by rfl, ?_⟩) (by assumption) ?_
            rotate_left
            · intro w hSw; (try dsimp only at hSw); go_simp; try with_reducible rfl
            simp only [Act.put, List.setIfInBounds_toArray, List.set_cons_zero, List.set_cons_succ]
            refine wpAnyH_take (i := 1) (oi := ⟨some 54, _, _, _, _, _⟩) (v := ?_) rfl (by kernel_rfl) (by kernel_rfl) (by kernel_rfl) (fun _ _ _ h => h) (Or.inl ⟨by rfl, ?_⟩) (by assumption) ?_
            rotate_left
            · intro w hSw; (try dsimp only at hSw); go_simp; try with_reducible rfl
            simp only [Act.put, List.setIfInBounds_toArray, List.set_cons_zero, List.set_cons_succ]
            refine wpAnyH_take (i := 3) (oi := ⟨some 56, _, _, _, _, _⟩) (v := ?_) rfl (by kernel_rfl) (by kernel_rfl) (by kernel_rfl) (fun _ _ _ h => h) (Or.inl ⟨by rfl, ?_⟩) (by assumption) ?_
            rotate_left
            · intro w hSw; (try dsimp only at hSw); go_simp; try with_reducible rfl
            simp only [Act.put, List.setIfInBounds_toArray, List.set_cons_zero, List.set_cons_succ]
            refine wpAnyH_take (i := 4) (oi := ⟨some 57, _, _, _, _, _⟩) (v := ?_) rfl (by kernel_rfl) (by kernel_rfl) (by kernel_rfl) (fun _ _ _ h => h) (Or.inl ⟨by rfl, ?_⟩) (by assumption) ?_
            rotate_left
            · intro w hSw; (try dsimp only at hSw); go_simp; try with_reducible rfl
            simp only [Act.put, List.setIfInBounds_toArray, List.set_cons_zero, List.set_cons_succ]
            refine wpAnyH_ready (rs := [2]) (by kernel_rfl) (by simp) ?_
            refine AllReadyH.cons (o := ⟨some 55, _, _, _, _, _⟩) rfl (fun Kq hKq => ?_) AllReadyH.nil
            go_simp
            go_at_call 17
            refine (msg_any _ _ _ a l1 c1' _ H.out (by omega)).mono ?_
            rintro e V8 ⟨u2, _, _, rfl, hg, p6, hp6, hp6', hr⟩
            replace H := Lib.hid hr
            replace G := Lib.hid (grown_new G.out (by omega) hg)
            replace R := Lib.hid (R.out.kept hg (by intro e; have e := Option.some.inj e; omega))
            replace I1 := Lib.hid (I1.out.kept hg (by omega))
            replace I2 := Lib.hid (I2.out.kept hg (by omega))
            replace K := Lib.hid (K.out.kept hg (by intro e; have e := Option.some.inj e; omega))
            replace M := Lib.hid (M.out.kept hg (by omega))
            replace N := Lib.hid (N.out.kept hg (by omega))
            clear hg
            clear hr
            refine hKq.out _ _ (⟨K.out.cell 0, K.out.cell 1, K.out.cell 2, K.out.cell 3⟩) (fun hHeld => ?_)
            clear hKq Kq
            refine wpAnyH_ready (rs := [5]) (by kernel_rfl) (by simp) ?_
            refine AllReadyH.cons (o := ⟨none, _, _, _, _, _⟩) rfl (fun Kq hKq => ?_) AllReadyH.nil
            rw [if_pos (by rfl)]
            refine wp_store_blk 25 (.tmp 2) (.tmp 53) _ _ _ 25 R.out rfl rfl rfl rfl (by kernel_rfl) (by simp [Value.oneCell']) rfl ?_
            intro V9 hg hT
            replace R := Lib.hid hT
            replace G := Lib.hid (grown_new G.out (by omega) hg)
            replace I1 := Lib.hid (I1.out.kept hg (by omega))
            replace I2 := Lib.hid (I2.out.kept hg (by omega))
            replace K := Lib.hid (K.out.kept hg (by intro e; have e := Option.some.inj e; omega))
            replace M := Lib.hid (M.out.kept hg (by omega))
            replace N := Lib.hid (N.out.kept hg (by omega))
            replace H := Lib.hid (H.out.grownN hg (by omega) (by omega))
            clear hg
            clear hT
            refine hKq.out _ _ (⟨K.out.cell 0, K.out.cell 1, K.out.cell 2, K.out.cell 3⟩) (fun hHeld => ?_)
            clear hKq Kq
            refine wpAnyH_take (i := 6) (oi := ⟨some 3, _, _, _, _, _⟩) (v := ?_) rfl (by kernel_rfl) (by kernel_rfl) (by kernel_rfl) (fun _ _ _ h => h) (Or.inl ⟨by rfl, ?_⟩) (by assumption) ?_
            rotate_left
            · intro w hSw; (try dsimp only at hSw); go_simp; try with_reducible rfl
            simp only [Act.put, List.setIfInBounds_toArray, List.set_cons_zero, List.set_cons_succ]
            refine wpAnyH_take (i := 7) (oi := ⟨some 4, _, _, _, _, _⟩) (v := ?_) rfl (by kernel_rfl) (by kernel_rfl) (by kernel_rfl) (fun _ _ _ h => h) (Or.inl ⟨by rfl, ?_⟩) (by assumption) ?_
            rotate_left
            · intro w hSw; (try dsimp only at hSw); go_simp; try with_reducible rfl
            simp only [Act.put, List.setIfInBounds_toArray, List.set_cons_zero, List.set_cons_succ]
            refine wpAnyH_take (i := 8) (oi := ⟨some 5, _, _, _, _, _⟩) (v := ?_) rfl (by kernel_rfl) (by kernel_rfl) (by kernel_rfl) (fun _ _ _ h => h) (Or.inl ⟨by rfl, ?_⟩) (by assumption) ?_
            rotate_left
            · intro w hSw; (try dsimp only at hSw); go_simp; try with_reducible rfl
            simp only [Act.put, List.setIfInBounds_toArray, List.set_cons_zero, List.set_cons_succ]
            refine wpAnyH_done (by kernel_rfl) ?_ _
            go_wp2
            (try simp only [Exit.inBlock, Exit.then])
            refine bodyPost_ret (ret_k4s rfl _ rfl R.out) rfl ?_
            exact ⟨need, many, ag, ng, cg, zg, ac, nc, cc, zc, _, _, cm, zm, _, _, _, _, _, rfl, by omega, by omega, by omega, hmc, hcm, by omega, I1.out.i, I2.out.i, M.out.i, N.out.i, G.out⟩
end Draw
end Go.Proofs.YthbigmcklacbnaaGreatDoor
namespace Go.Proofs.YthbigmcklacbnaaGreatDoor
namespace Run
open Go.RowKit Alg Mem Con Mp Hd Draw
set_option linter.unusedVariables false

theorem sh_inS {w : World} {lo : Nat} {a3 : Option Addr} {n c3 : Nat} {S : Nat → SV} (h : OwnSh w lo (.slice a3 n c3) n S) : ShIn w a3 n S := by
  obtain ⟨a, c, hv, hs, _, _, _⟩ := h.sh
  injection hv with e1 _ _
  subst e1
  exact hs
theorem nw_none {need many : Int} {ng : Nat} {zg : Nat → Int} {nc : Nat} {zc : Nat → Int} {msg : Int} {n : Nat} {zm zs : Nat → Int} (h : tsF need many ng zg nc zc msg n (nwS zm zs) = true) : tbF need many ng zg nc zc msg n (nwS zm zs) = [] := by
  rw [tbF_yes h]
  exact List.eq_nil_of_length_eq_zero (tbL_none.2 fun j hj => rfl)
set_option maxRecDepth 100000 in
set_option maxHeartbeats 8000000 in
theorem FnSessionNew (a : Option Addr) (len cap : Nat) (w : World) (hB : Draw.Bytes w w.heap.size a len) (hc : len ≤ cap) (hm : cap ≤ maxLen) (ad : Addr) (hv : Np w ad) (he : Et w) :
    Calls Tryz.prog 3 #[.slice a len cap] w (Yes w) := by
  by_cases hbig : 1048576 < len
  · have hbig' : (1048576 : Int) < (len : Int) := by omega
    clear hB
    go_enter Tryz.func3, Tryz.ntmps3
    go_wp2
    go_ret
    exact ⟨rfl, Below.refl _ _⟩
  have hbig' : ¬ (1048576 : Int) < (len : Int) := by omega
  have V := Lib.hid hv; have E := Lib.hid he
  clear hv he
  go_enter Tryz.func3, Tryz.ntmps3
  go_wp2_with fail
  refine (Draw.drawSesN _ a len cap hB hc hm).mono ?_
  rintro e v1 ⟨need, many, ag, ng, cg, zg, ac, nc, cc, zc, am, nm, cm, zm, msg, gb, ns, cs, zs, rfl, hng, hnc, hnm, hmc, hcm, hns, hA1, hA2, hM, hN, hg⟩
  have G := Lib.hid hg; have A1 := Lib.hid hA1; have A2 := Lib.hid hA2; have M1 := Lib.hid hM; have N1 := Lib.hid hN
  replace V := Lib.hid (V.out.kept hg); replace E := Lib.hid (E.out.kept hg)
  have S1 := Lib.hid (ints_sl (c := cg) hA1); have S2 := Lib.hid (ints_sl (c := cc) hA2)
  clear hg hA1 hA2 hM hN hB
  have hg := Draw.grown_alloc v1 (.cells #[.int .i64 need, .int .i64 many, .slice ag ng cg, .slice ac nc cc] 25) none
  have KB := Lib.hid (Blk.new v1 #[.int .i64 need, .int .i64 many, .slice ag ng cg, .slice ac nc cc] 25)
  replace G := Lib.hid (gtr G.out hg)
  replace A1 := Lib.hid (A1.out.kept hg)
  replace A2 := Lib.hid (A2.out.kept hg)
  replace M1 := Lib.hid (M1.out.kept hg)
  replace N1 := Lib.hid (N1.out.kept hg)
  replace V := Lib.hid (V.out.kept hg)
  replace E := Lib.hid (E.out.kept hg)
  clear hg
  by_cases hc1 : nm = ns ∧ tsF need many ng zg nc zc msg nm (nwS zm zs) = true
  · skip
    have HTS := Lib.hid hc1.2
    have hns2 := hc1.1
    subst hns2
    clear hc1
    have KB_0 : World.cell? _ ⟨v1.heap.size, 0, none⟩ = some (.int .i64 need) := KB.out.cell 0
    have KB_1 : World.cell? _ ⟨v1.heap.size, 1, none⟩ = some (.int .i64 many) := KB.out.cell 1
    have KB_2 : World.cell? _ ⟨v1.heap.size, 2, none⟩ = some (.slice ag ng cg) := KB.out.cell 2
    have KB_3 : World.cell? _ ⟨v1.heap.size, 3, none⟩ = some (.slice ac nc cc) := KB.out.cell 3
    have KB_l := KB.out.lt
    go_wp2_with fail
    refine (s32new _ need many _ ng _ zg _ nc _ zc msg _ nm _ zm _ nm _ zs A1.out A2.out S1.out S2.out M1.out N1.out (by omega) (by omega) (by omega)).mono ?_
    rintro e v2 h
    unfold SesN at h
    rw [if_pos ⟨rfl, HTS.out⟩] at h
    obtain ⟨wb1, wc1, wb2, wc2, wa3, wc3, rfl, o1, o2, o3, hg⟩ := h
    clear KB_0 KB_1 KB_2 KB_3 KB_l
    have W1 := Lib.hid (o1.ints)
    have W2 := Lib.hid (o2.ints)
    have W3 := Lib.hid (sh_inS o3)
    clear o1 o2 o3
    have hz := hg.size; rw [World.size_alloc] at hz
    have HZ0 := Lib.hid hz; clear hz
    replace G := Lib.hid (gtr G.out hg)
    replace A1 := Lib.hid (A1.out.kept hg)
    replace A2 := Lib.hid (A2.out.kept hg)
    replace M1 := Lib.hid (M1.out.kept hg)
    replace N1 := Lib.hid (N1.out.kept hg)
    replace V := Lib.hid (V.out.kept hg)
    replace E := Lib.hid (E.out.kept hg)
    replace KB := Lib.hid (KB.out.keptN hg)
    clear hg
    have hg := Draw.grown_alloc v2 (.cells #[.int .i64 need, .int .i64 many, .slice (some ⟨wb1, 0, none⟩) ng wc1, .slice (some ⟨wb2, 0, none⟩) nc wc2, .int .i64 msg, .slice wa3 nm wc3] 30) none
    have Z := Lib.hid (Blk.new v2 #[.int .i64 need, .int .i64 many, .slice (some ⟨wb1, 0, none⟩) ng wc1, .slice (some ⟨wb2, 0, none⟩) nc wc2, .int .i64 msg, .slice wa3 nm wc3] 30)
    replace G := Lib.hid (gtr G.out hg)
    replace A1 := Lib.hid (A1.out.kept hg)
    replace A2 := Lib.hid (A2.out.kept hg)
    replace M1 := Lib.hid (M1.out.kept hg)
    replace N1 := Lib.hid (N1.out.kept hg)
    replace V := Lib.hid (V.out.kept hg)
    replace E := Lib.hid (E.out.kept hg)
    replace KB := Lib.hid (KB.out.keptN hg)
    replace W1 := Lib.hid (W1.out.kept hg)
    replace W2 := Lib.hid (W2.out.kept hg)
    replace W3 := Lib.hid (W3.out.kept hg)
    clear hg
    have KB_0 : World.cell? _ ⟨v1.heap.size, 0, none⟩ = some (.int .i64 need) := KB.out.cell 0
    have KB_1 : World.cell? _ ⟨v1.heap.size, 1, none⟩ = some (.int .i64 many) := KB.out.cell 1
    have KB_2 : World.cell? _ ⟨v1.heap.size, 2, none⟩ = some (.slice ag ng cg) := KB.out.cell 2
    have KB_3 : World.cell? _ ⟨v1.heap.size, 3, none⟩ = some (.slice ac nc cc) := KB.out.cell 3
    have KB_l := KB.out.lt
    have Z_0 : World.cell? _ ⟨v2.heap.size, 0, none⟩ = some (.int .i64 need) := Z.out.cell 0
    have Z_1 : World.cell? _ ⟨v2.heap.size, 1, none⟩ = some (.int .i64 many) := Z.out.cell 1
    have Z_2 : World.cell? _ ⟨v2.heap.size, 2, none⟩ = some (.slice (some ⟨wb1, 0, none⟩) ng wc1) := Z.out.cell 2
    have Z_3 : World.cell? _ ⟨v2.heap.size, 3, none⟩ = some (.slice (some ⟨wb2, 0, none⟩) nc wc2) := Z.out.cell 3
    have Z_4 : World.cell? _ ⟨v2.heap.size, 4, none⟩ = some (.int .i64 msg) := Z.out.cell 4
    have Z_5 : World.cell? _ ⟨v2.heap.size, 5, none⟩ = some (.slice wa3 nm wc3) := Z.out.cell 5
    have Z_l := Z.out.lt
    go_wp2_with fail
    refine (i32new _ need many _ ng _ zg _ nc _ zc msg _ nm _ zm _ nm _ zs A1.out A2.out S1.out S2.out M1.out N1.out (by omega) (by omega) (by omega)).mono ?_
    rintro e v3 h
    unfold SesNQ at h
    rw [if_pos ⟨rfl, HTS.out⟩] at h
    obtain ⟨qa1, qc1, qa2, qc2, qa3, qc3, rfl, o1, o2, o3, _, hg⟩ := h
    clear KB_0 KB_1 KB_2 KB_3 Z_0 Z_1 Z_2 Z_3 Z_4 Z_5 KB_l Z_l
    have Q1 := Lib.hid (o1.ints)
    have Q2 := Lib.hid (o2.ints)
    have Q3 := Lib.hid (sh_inS o3)
    clear o1 o2 o3
    have hz := hg.size; rw [World.size_alloc] at hz
    have HZ1 := Lib.hid hz; clear hz
    replace G := Lib.hid (gtr G.out hg)
    replace A1 := Lib.hid (A1.out.kept hg)
    replace A2 := Lib.hid (A2.out.kept hg)
    replace M1 := Lib.hid (M1.out.kept hg)
    replace N1 := Lib.hid (N1.out.kept hg)
    replace V := Lib.hid (V.out.kept hg)
    replace E := Lib.hid (E.out.kept hg)
    replace KB := Lib.hid (KB.out.keptN hg)
    replace W1 := Lib.hid (W1.out.kept hg)
    replace W2 := Lib.hid (W2.out.kept hg)
    replace W3 := Lib.hid (W3.out.kept hg)
    replace Z := Lib.hid (Z.out.keptN hg)
    clear hg
    have hg := Draw.grown_alloc v3 (.cells #[.int .i64 need, .int .i64 many, .slice qa1 ng qc1, .slice qa2 nc qc2, .int .i64 msg, .slice qa3 nm qc3] 30) none
    have Y := Lib.hid (Blk.new v3 #[.int .i64 need, .int .i64 many, .slice qa1 ng qc1, .slice qa2 nc qc2, .int .i64 msg, .slice qa3 nm qc3] 30)
    replace G := Lib.hid (gtr G.out hg)
    replace A1 := Lib.hid (A1.out.kept hg)
    replace A2 := Lib.hid (A2.out.kept hg)
    replace M1 := Lib.hid (M1.out.kept hg)
    replace N1 := Lib.hid (N1.out.kept hg)
    replace V := Lib.hid (V.out.kept hg)
    replace E := Lib.hid (E.out.kept hg)
    replace KB := Lib.hid (KB.out.keptN hg)
    replace W1 := Lib.hid (W1.out.kept hg)
    replace W2 := Lib.hid (W2.out.kept hg)
    replace W3 := Lib.hid (W3.out.kept hg)
    replace Z := Lib.hid (Z.out.keptN hg)
    replace Q1 := Lib.hid (Q1.out.kept hg)
    replace Q2 := Lib.hid (Q2.out.kept hg)
    replace Q3 := Lib.hid (Q3.out.kept hg)
    clear hg
    have KB_0 : World.cell? _ ⟨v1.heap.size, 0, none⟩ = some (.int .i64 need) := KB.out.cell 0
    have KB_1 : World.cell? _ ⟨v1.heap.size, 1, none⟩ = some (.int .i64 many) := KB.out.cell 1
    have KB_2 : World.cell? _ ⟨v1.heap.size, 2, none⟩ = some (.slice ag ng cg) := KB.out.cell 2
    have KB_3 : World.cell? _ ⟨v1.heap.size, 3, none⟩ = some (.slice ac nc cc) := KB.out.cell 3
    have KB_l := KB.out.lt
    have Z_0 : World.cell? _ ⟨v2.heap.size, 0, none⟩ = some (.int .i64 need) := Z.out.cell 0
    have Z_1 : World.cell? _ ⟨v2.heap.size, 1, none⟩ = some (.int .i64 many) := Z.out.cell 1
    have Z_2 : World.cell? _ ⟨v2.heap.size, 2, none⟩ = some (.slice (some ⟨wb1, 0, none⟩) ng wc1) := Z.out.cell 2
    have Z_3 : World.cell? _ ⟨v2.heap.size, 3, none⟩ = some (.slice (some ⟨wb2, 0, none⟩) nc wc2) := Z.out.cell 3
    have Z_4 : World.cell? _ ⟨v2.heap.size, 4, none⟩ = some (.int .i64 msg) := Z.out.cell 4
    have Z_5 : World.cell? _ ⟨v2.heap.size, 5, none⟩ = some (.slice wa3 nm wc3) := Z.out.cell 5
    have Z_l := Z.out.lt
    have Y_0 : World.cell? _ ⟨v3.heap.size, 0, none⟩ = some (.int .i64 need) := Y.out.cell 0
    have Y_1 : World.cell? _ ⟨v3.heap.size, 1, none⟩ = some (.int .i64 many) := Y.out.cell 1
    have Y_2 : World.cell? _ ⟨v3.heap.size, 2, none⟩ = some (.slice qa1 ng qc1) := Y.out.cell 2
    have Y_3 : World.cell? _ ⟨v3.heap.size, 3, none⟩ = some (.slice qa2 nc qc2) := Y.out.cell 3
    have Y_4 : World.cell? _ ⟨v3.heap.size, 4, none⟩ = some (.int .i64 msg) := Y.out.cell 4
    have Y_5 : World.cell? _ ⟨v3.heap.size, 5, none⟩ = some (.slice qa3 nm qc3) := Y.out.cell 5
    have Y_l := Y.out.lt
    go_wp2_with fail
    refine (lpses _ need many _ _ _ _ ng _ _ zg nc _ _ zc msg _ _ nm _ _ (nwS zm zs) Q1.out Q2.out W1.out W2.out Q3.out W3.out (by omega) (by omega) (by omega)).mono ?_
    rintro e v4 ⟨rfl, hg⟩
    clear KB_0 KB_1 KB_2 KB_3 Z_0 Z_1 Z_2 Z_3 Z_4 Z_5 Y_0 Y_1 Y_2 Y_3 Y_4 Y_5 KB_l Z_l Y_l
    have hz := hg.size; rw [World.size_alloc] at hz
    have HZ2 := Lib.hid hz; clear hz
    replace G := Lib.hid (gtr G.out hg)
    replace A1 := Lib.hid (A1.out.kept hg)
    replace A2 := Lib.hid (A2.out.kept hg)
    replace M1 := Lib.hid (M1.out.kept hg)
    replace N1 := Lib.hid (N1.out.kept hg)
    replace V := Lib.hid (V.out.kept hg)
    replace E := Lib.hid (E.out.kept hg)
    replace KB := Lib.hid (KB.out.keptN hg)
    replace W1 := Lib.hid (W1.out.kept hg)
    replace W2 := Lib.hid (W2.out.kept hg)
    replace W3 := Lib.hid (W3.out.kept hg)
    replace Z := Lib.hid (Z.out.keptN hg)
    replace Q1 := Lib.hid (Q1.out.kept hg)
    replace Q2 := Lib.hid (Q2.out.kept hg)
    replace Q3 := Lib.hid (Q3.out.kept hg)
    replace Y := Lib.hid (Y.out.keptN hg)
    clear hg
    have htf := ts_facts HTS.out
    have hn1 : 1 ≤ nm := by have := htf.1; have := htf.2.2.2.1; omega
    have hneed := htf.2.2.2.1
    have HNE := Lib.hid hneed; clear htf hneed
    have KB_0 : World.cell? _ ⟨v1.heap.size, 0, none⟩ = some (.int .i64 need) := KB.out.cell 0
    have KB_1 : World.cell? _ ⟨v1.heap.size, 1, none⟩ = some (.int .i64 many) := KB.out.cell 1
    have KB_2 : World.cell? _ ⟨v1.heap.size, 2, none⟩ = some (.slice ag ng cg) := KB.out.cell 2
    have KB_3 : World.cell? _ ⟨v1.heap.size, 3, none⟩ = some (.slice ac nc cc) := KB.out.cell 3
    have KB_l := KB.out.lt
    have Z_0 : World.cell? _ ⟨v2.heap.size, 0, none⟩ = some (.int .i64 need) := Z.out.cell 0
    have Z_1 : World.cell? _ ⟨v2.heap.size, 1, none⟩ = some (.int .i64 many) := Z.out.cell 1
    have Z_2 : World.cell? _ ⟨v2.heap.size, 2, none⟩ = some (.slice (some ⟨wb1, 0, none⟩) ng wc1) := Z.out.cell 2
    have Z_3 : World.cell? _ ⟨v2.heap.size, 3, none⟩ = some (.slice (some ⟨wb2, 0, none⟩) nc wc2) := Z.out.cell 3
    have Z_4 : World.cell? _ ⟨v2.heap.size, 4, none⟩ = some (.int .i64 msg) := Z.out.cell 4
    have Z_5 : World.cell? _ ⟨v2.heap.size, 5, none⟩ = some (.slice wa3 nm wc3) := Z.out.cell 5
    have Z_l := Z.out.lt
    have Y_0 : World.cell? _ ⟨v3.heap.size, 0, none⟩ = some (.int .i64 need) := Y.out.cell 0
    have Y_1 : World.cell? _ ⟨v3.heap.size, 1, none⟩ = some (.int .i64 many) := Y.out.cell 1
    have Y_2 : World.cell? _ ⟨v3.heap.size, 2, none⟩ = some (.slice qa1 ng qc1) := Y.out.cell 2
    have Y_3 : World.cell? _ ⟨v3.heap.size, 3, none⟩ = some (.slice qa2 nc qc2) := Y.out.cell 3
    have Y_4 : World.cell? _ ⟨v3.heap.size, 4, none⟩ = some (.int .i64 msg) := Y.out.cell 4
    have Y_5 : World.cell? _ ⟨v3.heap.size, 5, none⟩ = some (.slice qa3 nm qc3) := Y.out.cell 5
    have Y_l := Y.out.lt
    go_wp2
    clear KB_0 KB_1 KB_2 KB_3 Z_0 Z_1 Z_2 Z_3 Z_4 Z_5 Y_0 Y_1 Y_2 Y_3 Y_4 Y_5 KB_l Z_l Y_l
    go_loopw [11] (fun i wr => ∃ k : Nat, k ≤ nm ∧ i = .int .i64 k ∧ v4.grownBy wr none) (fun i _ => nm - (intOf i).toNat)
    case atStart => exact ⟨0, by omega, rfl, Draw.grown_refl _ _⟩
    case round =>
      obtain ⟨k, hk, rfl, hg⟩ := hrel
      obtain ⟨W0, hW⟩ : ∃ W, W = wr := ⟨_, rfl⟩; subst hW
      have C := Lib.hid hg
      replace G := Lib.hid (gtr G.out hg)
      replace A1 := Lib.hid (A1.out.kept hg)
      replace A2 := Lib.hid (A2.out.kept hg)
      replace M1 := Lib.hid (M1.out.kept hg)
      replace N1 := Lib.hid (N1.out.kept hg)
      replace V := Lib.hid (V.out.kept hg)
      replace E := Lib.hid (E.out.kept hg)
      replace KB := Lib.hid (KB.out.keptN hg)
      replace W1 := Lib.hid (W1.out.kept hg)
      replace W2 := Lib.hid (W2.out.kept hg)
      replace W3 := Lib.hid (W3.out.kept hg)
      replace Z := Lib.hid (Z.out.keptN hg)
      replace Q1 := Lib.hid (Q1.out.kept hg)
      replace Q2 := Lib.hid (Q2.out.kept hg)
      replace Q3 := Lib.hid (Q3.out.kept hg)
      replace Y := Lib.hid (Y.out.keptN hg)
      clear hg
      by_cases hlt : k < nm
      · skip
        obtain ⟨b3, o3, rfl, hb3, hcc3⟩ := Q3.out.ptr (by omega)
        obtain ⟨y0, y1, y2, _⟩ := hcc3 k hlt
        have y0 : W0.cell? ⟨b3, o3 + k * 4, none⟩ = some (.int .i64 (zm k)) := y0
        have y1 : W0.cell? ⟨b3, o3 + k * 4 + 1, none⟩ = some (.int .i64 (zs k)) := y1
        have y2 : W0.cell? ⟨b3, o3 + k * 4 + 2, none⟩ = some (.bool false) := y2
        obtain ⟨bm, om, rfl, hbm, hccm⟩ := M1.out.ptr (by omega)
        have m0 := hccm k hlt
        obtain ⟨bs, os, hbe, hbs, hccs⟩ := N1.out.ptr (by omega)
        injection hbe with hbe; injection hbe with hbe1 hbe2 _; subst hbe1; subst hbe2
        have s0 := hccs k hlt
        clear hcc3 hccm hccs
        rw [Nat.zero_add] at s0
        have yc : W0.cell? ⟨v3.heap.size, 5, none⟩ = some (.slice (some ⟨b3, o3, none⟩) nm qc3) := Y.out.cell 5
        have hyl := Y.out.lt
        have hkI : (k : Int) < (nm : Int) := by omega
        have e0 : (zm k != zm k) = false := by simp
        have e1 : (zs k != zs k) = false := by simp
        go_wp2_with fail
        refine wp_region_held_drew (S := (fun w' => w'.cell? ⟨v3.heap.size, 5, none⟩ = some (.slice (some ⟨b3, o3, none⟩) nm qc3) ∧ w'.cell? ⟨b3, o3 + k * 4, none⟩ = some (.int .i64 (zm k)) ∧ w'.cell? ⟨b3, o3 + k * 4 + 1, none⟩ = some (.int .i64 (zs k)) ∧ w'.cell? ⟨b3, o3 + k * 4 + 2, none⟩ = some (.bool false) ∧ w'.cell? ⟨bm, om + k, none⟩ = some (.int .i64 (zm k)) ∧ w'.cell? ⟨gb, k, none⟩ = some (.int .i64 (zs k)))) (by kernel_rfl) (⟨yc, y0, y1, y2, m0, s0⟩) (fun hHeld => ?_)
        have hg := Draw.gdrew W0
        replace G := Lib.hid (gtr G.out hg)
        replace A1 := Lib.hid (A1.out.kept hg)
        replace A2 := Lib.hid (A2.out.kept hg)
        replace M1 := Lib.hid (M1.out.kept hg)
        replace N1 := Lib.hid (N1.out.kept hg)
        replace V := Lib.hid (V.out.kept hg)
        replace E := Lib.hid (E.out.kept hg)
        replace KB := Lib.hid (KB.out.keptN hg)
        replace W1 := Lib.hid (W1.out.kept hg)
        replace W2 := Lib.hid (W2.out.kept hg)
        replace W3 := Lib.hid (W3.out.kept hg)
        replace Z := Lib.hid (Z.out.keptN hg)
        replace Q1 := Lib.hid (Q1.out.kept hg)
        replace Q2 := Lib.hid (Q2.out.kept hg)
        replace Q3 := Lib.hid (Q3.out.kept hg)
        replace Y := Lib.hid (Y.out.keptN hg)
        replace C := Lib.hid (gtr C.out hg)
        clear hg
        generalize W0.drew = W1x at *
        refine wpAnyH_take (i := 0) (oi := ⟨some 67, _, _, _, _, _⟩) (v := ?_) rfl (by kernel_rfl) (by kernel_rfl) (by kernel_rfl) (fun _ _ _ h => h) (Or.inl ⟨by rfl, ?_⟩) (by assumption) ?_
        rotate_left
        · intro w hSw; (try dsimp only at hSw); go_simp; try with_reducible rfl
        simp only [Act.put, List.setIfInBounds_toArray, List.set_cons_zero, List.set_cons_succ]
        refine wpAnyH_take (i := 1) (oi := ⟨some 68, _, _, _, _, _⟩) (v := ?_) rfl (by kernel_rfl) (by kernel_rfl) (by kernel_rfl) (fun _ _ _ h => h) (Or.inl ⟨by rfl, ?_⟩) (by assumption) ?_
        rotate_left
        · intro w hSw; (try dsimp only at hSw); go_simp; try with_reducible rfl
        simp only [Act.put, List.setIfInBounds_toArray, List.set_cons_zero, List.set_cons_succ]
        refine wpAnyH_take (i := 2) (oi := ⟨some 69, _, _, _, _, _⟩) (v := ?_) rfl (by kernel_rfl) (by kernel_rfl) (by kernel_rfl) (fun _ _ _ h => h) (Or.inl ⟨by rfl, ?_⟩) (by assumption) ?_
        rotate_left
        · intro w hSw; (try dsimp only at hSw); go_simp; try with_reducible rfl
        simp only [Act.put, List.setIfInBounds_toArray, List.set_cons_zero, List.set_cons_succ]
        refine wpAnyH_take (i := 3) (oi := ⟨some 70, _, _, _, _, _⟩) (v := ?_) rfl (by kernel_rfl) (by kernel_rfl) (by kernel_rfl) (fun _ _ _ h => h) (Or.inl ⟨by rfl, ?_⟩) (by assumption) ?_
        rotate_left
        · intro w hSw; (try dsimp only at hSw); go_simp; try with_reducible rfl
        simp only [Act.put, List.setIfInBounds_toArray, List.set_cons_zero, List.set_cons_succ]
        refine wpAnyH_take (i := 4) (oi := ⟨some 71, _, _, _, _, _⟩) (v := ?_) rfl (by kernel_rfl) (by kernel_rfl) (by kernel_rfl) (fun _ _ _ h => h) (Or.inl ⟨by rfl, ?_⟩) (by assumption) ?_
        rotate_left
        · intro w hSw; (try dsimp only at hSw); go_simp; try with_reducible rfl
        simp only [Act.put, List.setIfInBounds_toArray, List.set_cons_zero, List.set_cons_succ]
        refine wpAnyH_take (i := 5) (oi := ⟨some 72, _, _, _, _, _⟩) (v := ?_) rfl (by kernel_rfl) (by kernel_rfl) (by kernel_rfl) (fun _ _ _ h => h) (Or.inl ⟨by rfl, ?_⟩) (by assumption) ?_
        rotate_left
        · intro w hSw; (try dsimp only at hSw); go_simp; try with_reducible rfl
        simp only [Act.put, List.setIfInBounds_toArray, List.set_cons_zero, List.set_cons_succ]
        refine wpAnyH_take (i := 6) (oi := ⟨some 73, _, _, _, _, _⟩) (v := ?_) rfl (by kernel_rfl) (by kernel_rfl) (by kernel_rfl) (fun _ _ _ h => h) (Or.inl ⟨by rfl, ?_⟩) (by assumption) ?_
        rotate_left
        · intro w hSw; (try dsimp only at hSw); go_simp; try with_reducible rfl
        simp only [Act.put, List.setIfInBounds_toArray, List.set_cons_zero, List.set_cons_succ]
        refine wpAnyH_take (i := 7) (oi := ⟨some 74, _, _, _, _, _⟩) (v := ?_) rfl (by kernel_rfl) (by kernel_rfl) (by kernel_rfl) (fun _ _ _ h => h) (Or.inl ⟨by rfl, ?_⟩) (by assumption) ?_
        rotate_left
        · intro w hSw; (try dsimp only at hSw); go_simp; try with_reducible rfl
        simp only [Act.put, List.setIfInBounds_toArray, List.set_cons_zero, List.set_cons_succ]
        refine wpAnyH_take (i := 8) (oi := ⟨some 75, _, _, _, _, _⟩) (v := ?_) rfl (by kernel_rfl) (by kernel_rfl) (by kernel_rfl) (fun _ _ _ h => h) (Or.inl ⟨by rfl, ?_⟩) (by assumption) ?_
        rotate_left
        · intro w hSw; (try dsimp only at hSw); go_simp; try with_reducible rfl
        simp only [Act.put, List.setIfInBounds_toArray, List.set_cons_zero, List.set_cons_succ]
        refine wpAnyH_take (i := 9) (oi := ⟨some 76, _, _, _, _, _⟩) (v := ?_) rfl (by kernel_rfl) (by kernel_rfl) (by kernel_rfl) (fun _ _ _ h => h) (Or.inl ⟨by rfl, ?_⟩) (by assumption) ?_
        rotate_left
        · intro w hSw; (try dsimp only at hSw); go_simp; try with_reducible rfl
        simp only [Act.put, List.setIfInBounds_toArray, List.set_cons_zero, List.set_cons_succ]
        refine wpAnyH_take (i := 10) (oi := ⟨some 77, _, _, _, _, _⟩) (v := ?_) rfl (by kernel_rfl) (by kernel_rfl) (by kernel_rfl) (fun _ _ _ h => h) (Or.inl ⟨by rfl, ?_⟩) (by assumption) ?_
        rotate_left
        · intro w hSw; (try dsimp only at hSw); go_simp; try with_reducible rfl
        simp only [Act.put, List.setIfInBounds_toArray, List.set_cons_zero, List.set_cons_succ]
        refine wpAnyH_take (i := 11) (oi := ⟨some 78, _, _, _, _, _⟩) (v := ?_) rfl (by kernel_rfl) (by kernel_rfl) (by kernel_rfl) (fun _ _ _ h => h) (Or.inl ⟨by rfl, ?_⟩) (by assumption) ?_
        rotate_left
        · intro w hSw; (try dsimp only at hSw); go_simp; try with_reducible rfl
        simp only [Act.put, List.setIfInBounds_toArray, List.set_cons_zero, List.set_cons_succ]
        refine wpAnyH_take (i := 12) (oi := ⟨some 79, _, _, _, _, _⟩) (v := ?_) rfl (by kernel_rfl) (by kernel_rfl) (by kernel_rfl) (fun _ _ _ h => h) (Or.inl ⟨by rfl, ?_⟩) (by assumption) ?_
        rotate_left
        · intro w hSw; (try dsimp only at hSw); go_simp; try with_reducible rfl
        simp only [Act.put, List.setIfInBounds_toArray, List.set_cons_zero, List.set_cons_succ]
        refine wpAnyH_take (i := 13) (oi := ⟨some 80, _, _, _, _, _⟩) (v := ?_) rfl (by kernel_rfl) (by kernel_rfl) (by kernel_rfl) (fun _ _ _ h => h) (Or.inl ⟨by rfl, ?_⟩) (by assumption) ?_
        rotate_left
        · intro w hSw; (try dsimp only at hSw); go_simp; try with_reducible rfl
        simp only [Act.put, List.setIfInBounds_toArray, List.set_cons_zero, List.set_cons_succ]
        refine wpAnyH_take (i := 14) (oi := ⟨some 81, _, _, _, _, _⟩) (v := ?_) rfl (by kernel_rfl) (by kernel_rfl) (by kernel_rfl) (fun _ _ _ h => h) (Or.inl ⟨by rfl, ?_⟩) (by assumption) ?_
        rotate_left
        · intro w hSw; (try dsimp only at hSw); go_simp; try with_reducible rfl
        simp only [Act.put, List.setIfInBounds_toArray, List.set_cons_zero, List.set_cons_succ]
        refine wpAnyH_take (i := 15) (oi := ⟨some 82, _, _, _, _, _⟩) (v := ?_) rfl (by kernel_rfl) (by kernel_rfl) (by kernel_rfl) (fun _ _ _ h => h) (Or.inl ⟨by rfl, ?_⟩) (by assumption) ?_
        rotate_left
        · intro w hSw; (try dsimp only at hSw); go_simp; try with_reducible rfl
        simp only [Act.put, List.setIfInBounds_toArray, List.set_cons_zero, List.set_cons_succ]
        refine wpAnyH_take (i := 16) (oi := ⟨some 83, _, _, _, _, _⟩) (v := ?_) rfl (by kernel_rfl) (by kernel_rfl) (by kernel_rfl) (fun _ _ _ h => h) (Or.inl ⟨by rfl, ?_⟩) (by assumption) ?_
        rotate_left
        · intro w hSw; (try dsimp only at hSw); go_simp; try with_reducible rfl
        simp only [Act.put, List.setIfInBounds_toArray, List.set_cons_zero, List.set_cons_succ]
        refine wpAnyH_take (i := 17) (oi := ⟨some 84, _, _, _, _, _⟩) (v := ?_) rfl (by kernel_rfl) (by kernel_rfl) (by kernel_rfl) (fun _ _ _ h => h) (Or.inl ⟨by rfl, ?_⟩) (by assumption) ?_
        rotate_left
        · intro w hSw; (try dsimp only at hSw); go_simp; try with_reducible rfl
        simp only [Act.put, List.setIfInBounds_toArray, List.set_cons_zero, List.set_cons_succ]
        refine wpAnyH_take (i := 18) (oi := ⟨some 85, _, _, _, _, _⟩) (v := ?_) rfl (by kernel_rfl) (by kernel_rfl) (by kernel_rfl) (fun _ _ _ h => h) (Or.inl ⟨by rfl, ?_⟩) (by assumption) ?_
        rotate_left
        · intro w hSw; (try dsimp only at hSw); go_simp; try with_reducible rfl
        simp only [Act.put, List.setIfInBounds_toArray, List.set_cons_zero, List.set_cons_succ]
        refine wpAnyH_take (i := 19) (oi := ⟨some 86, _, _, _, _, _⟩) (v := ?_) rfl (by kernel_rfl) (by kernel_rfl) (by kernel_rfl) (fun _ _ _ h => h) (Or.inl ⟨by rfl, ?_⟩) (by assumption) ?_
        rotate_left
        · intro w hSw; (try dsimp only at hSw); go_simp; try with_reducible rfl
        simp only [Act.put, List.setIfInBounds_toArray, List.set_cons_zero, List.set_cons_succ]
        refine wpAnyH_take (i := 20) (oi := ⟨some 87, _, _, _, _, _⟩) (v := ?_) rfl (by kernel_rfl) (by kernel_rfl) (by kernel_rfl) (fun _ _ _ h => h) (Or.inl ⟨by rfl, ?_⟩) (by assumption) ?_
        rotate_left
        · intro w hSw; (try dsimp only at hSw); go_simp; try with_reducible rfl
        simp only [Act.put, List.setIfInBounds_toArray, List.set_cons_zero, List.set_cons_succ]
        refine wpAnyH_take (i := 21) (oi := ⟨some 88, _, _, _, _, _⟩) (v := ?_) rfl (by kernel_rfl) (by kernel_rfl) (by kernel_rfl) (fun _ _ _ h => h) (Or.inl ⟨by rfl, ?_⟩) (by assumption) ?_
        rotate_left
        · intro w hSw; (try dsimp only at hSw); go_simp; try with_reducible rfl
        simp only [Act.put, List.setIfInBounds_toArray, List.set_cons_zero, List.set_cons_succ]
        refine wpAnyH_take (i := 22) (oi := ⟨some 89, _, _, _, _, _⟩) (v := ?_) rfl (by kernel_rfl) (by kernel_rfl) (by kernel_rfl) (fun _ _ _ h => h) (Or.inl ⟨by rfl, ?_⟩) (by assumption) ?_
        rotate_left
        · intro w hSw; (try dsimp only at hSw); go_simp; try with_reducible rfl
        simp only [Act.put, List.setIfInBounds_toArray, List.set_cons_zero, List.set_cons_succ]
        refine wpAnyH_take (i := 23) (oi := ⟨some 90, _, _, _, _, _⟩) (v := ?_) rfl (by kernel_rfl) (by kernel_rfl) (by kernel_rfl) (fun _ _ _ h => h) (Or.inl ⟨by rfl, ?_⟩) (by assumption) ?_
        rotate_left
        · intro w hSw; (try dsimp only at hSw); go_simp; try with_reducible rfl
        simp only [Act.put, List.setIfInBounds_toArray, List.set_cons_zero, List.set_cons_succ]
        refine wpAnyH_take (i := 24) (oi := ⟨some 91, _, _, _, _, _⟩) (v := ?_) rfl (by kernel_rfl) (by kernel_rfl) (by kernel_rfl) (fun _ _ _ h => h) (Or.inl ⟨by rfl, ?_⟩) (by assumption) ?_
        rotate_left
        · intro w hSw; (try dsimp only at hSw); go_simp; try with_reducible rfl
        simp only [Act.put, List.setIfInBounds_toArray, List.set_cons_zero, List.set_cons_succ]
        refine wpAnyH_take (i := 25) (oi := ⟨some 92, _, _, _, _, _⟩) (v := ?_) rfl (by kernel_rfl) (by kernel_rfl) (by kernel_rfl) (fun _ _ _ h => h) (Or.inl ⟨by rfl, ?_⟩) (by assumption) ?_
        rotate_left
        · intro w hSw; (try dsimp only at hSw); go_simp; try with_reducible rfl
        simp only [Act.put, List.setIfInBounds_toArray, List.set_cons_zero, List.set_cons_succ]
        refine wpAnyH_take (i := 26) (oi := ⟨some 93, _, _, _, _, _⟩) (v := ?_) rfl (by kernel_rfl) (by kernel_rfl) (by kernel_rfl) (fun _ _ _ h => h) (Or.inl ⟨by rfl, ?_⟩) (by assumption) ?_
        rotate_left
        · intro w hSw; (try dsimp only at hSw); go_simp; try with_reducible rfl
        simp only [Act.put, List.setIfInBounds_toArray, List.set_cons_zero, List.set_cons_succ]
        refine wpAnyH_take (i := 27) (oi := ⟨some 94, _, _, _, _, _⟩) (v := ?_) rfl (by kernel_rfl) (by kernel_rfl) (by kernel_rfl) (fun _ _ _ h => h) (Or.inl ⟨by rfl, ?_⟩) (by assumption) ?_
        rotate_left
        · intro w hSw; (try dsimp only at hSw); go_simp; try with_reducible rfl
        simp only [Act.put, List.setIfInBounds_toArray, List.set_cons_zero, List.set_cons_succ]
        refine wpAnyH_take (i := 28) (oi := ⟨some 95, _, _, _, _, _⟩) (v := ?_) rfl (by kernel_rfl) (by kernel_rfl) (by kernel_rfl) (fun _ _ _ h => h) (Or.inl ⟨by rfl, ?_⟩) (by assumption) ?_
        rotate_left
        · intro w hSw; (try dsimp only at hSw); go_simp; try with_reducible rfl
        simp only [Act.put, List.setIfInBounds_toArray, List.set_cons_zero, List.set_cons_succ]
        refine wpAnyH_take (i := 29) (oi := ⟨some 96, _, _, _, _, _⟩) (v := ?_) rfl (by kernel_rfl) (by kernel_rfl) (by kernel_rfl) (fun _ _ _ h => h) (Or.inl ⟨by rfl, ?_⟩) (by assumption) ?_
        rotate_left
        · intro w hSw; (try dsimp only at hSw); go_simp; try with_reducible rfl
        simp only [Act.put, List.setIfInBounds_toArray, List.set_cons_zero, List.set_cons_succ]
        refine wpAnyH_take (i := 30) (oi := ⟨some 97, _, _, _, _, _⟩) (v := ?_) rfl (by kernel_rfl) (by kernel_rfl) (by kernel_rfl) (fun _ _ _ h => h) (Or.inl ⟨by rfl, ?_⟩) (by assumption) ?_
        rotate_left
        · intro w hSw; (try dsimp only at hSw); go_simp; try with_reducible rfl
        simp only [Act.put, List.setIfInBounds_toArray, List.set_cons_zero, List.set_cons_succ]
        refine wpAnyH_take (i := 31) (oi := ⟨some 98, _, _, _, _, _⟩) (v := ?_) rfl (by kernel_rfl) (by kernel_rfl) (by kernel_rfl) (fun _ _ _ h => h) (Or.inl ⟨by rfl, ?_⟩) (by assumption) ?_
        rotate_left
        · intro w hSw; (try dsimp only at hSw); go_simp; try with_reducible rfl
        simp only [Act.put, List.setIfInBounds_toArray, List.set_cons_zero, List.set_cons_succ]
        refine wpAnyH_done (by kernel_rfl) ?_ _
        go_wp2
        go_roundw
        case rel => exact ⟨k + 1, by omega, by go_num, C.out⟩
        case measure => simp [intOf]; omega
      · skip
        obtain rfl : k = nm := by omega
        have hkk : ¬ (k : Int) < (k : Int) := by omega
        have KB_0 : World.cell? _ ⟨v1.heap.size, 0, none⟩ = some (.int .i64 need) := KB.out.cell 0
        have KB_1 : World.cell? _ ⟨v1.heap.size, 1, none⟩ = some (.int .i64 many) := KB.out.cell 1
        have KB_2 : World.cell? _ ⟨v1.heap.size, 2, none⟩ = some (.slice ag ng cg) := KB.out.cell 2
        have KB_3 : World.cell? _ ⟨v1.heap.size, 3, none⟩ = some (.slice ac nc cc) := KB.out.cell 3
        have KB_l := KB.out.lt
        have Z_0 : World.cell? _ ⟨v2.heap.size, 0, none⟩ = some (.int .i64 need) := Z.out.cell 0
        have Z_1 : World.cell? _ ⟨v2.heap.size, 1, none⟩ = some (.int .i64 many) := Z.out.cell 1
        have Z_2 : World.cell? _ ⟨v2.heap.size, 2, none⟩ = some (.slice (some ⟨wb1, 0, none⟩) ng wc1) := Z.out.cell 2
        have Z_3 : World.cell? _ ⟨v2.heap.size, 3, none⟩ = some (.slice (some ⟨wb2, 0, none⟩) nc wc2) := Z.out.cell 3
        have Z_4 : World.cell? _ ⟨v2.heap.size, 4, none⟩ = some (.int .i64 msg) := Z.out.cell 4
        have Z_5 : World.cell? _ ⟨v2.heap.size, 5, none⟩ = some (.slice wa3 k wc3) := Z.out.cell 5
        have Z_l := Z.out.lt
        have Y_0 : World.cell? _ ⟨v3.heap.size, 0, none⟩ = some (.int .i64 need) := Y.out.cell 0
        have Y_1 : World.cell? _ ⟨v3.heap.size, 1, none⟩ = some (.int .i64 many) := Y.out.cell 1
        have Y_2 : World.cell? _ ⟨v3.heap.size, 2, none⟩ = some (.slice qa1 ng qc1) := Y.out.cell 2
        have Y_3 : World.cell? _ ⟨v3.heap.size, 3, none⟩ = some (.slice qa2 nc qc2) := Y.out.cell 3
        have Y_4 : World.cell? _ ⟨v3.heap.size, 4, none⟩ = some (.int .i64 msg) := Y.out.cell 4
        have Y_5 : World.cell? _ ⟨v3.heap.size, 5, none⟩ = some (.slice qa3 k qc3) := Y.out.cell 5
        have Y_l := Y.out.lt
        go_wp2_with fail
        refine (isesSig _ need many _ ng _ zg _ nc _ zc msg _ k _ (nwS zm zs) ad Q1.out Q2.out Q3.out (by omega) (by omega) (by omega) V.out).mono ?_
        rintro e v5 ⟨rfl, hg⟩
        rw [ssV_no (fun e => by have := onA_no (S := nwS zm zs) (n := k) (k := 0) (by omega) rfl; rw [this] at e; exact absurd e.2.2 (by simp))]
        clear KB_0 KB_1 KB_2 KB_3 Z_0 Z_1 Z_2 Z_3 Z_4 Z_5 Y_0 Y_1 Y_2 Y_3 Y_4 Y_5 KB_l Z_l Y_l
        have hz := hg.size
        have HZ3 := Lib.hid hz; clear hz
        replace G := Lib.hid (gtr G.out hg)
        replace A1 := Lib.hid (A1.out.kept hg)
        replace A2 := Lib.hid (A2.out.kept hg)
        replace M1 := Lib.hid (M1.out.kept hg)
        replace N1 := Lib.hid (N1.out.kept hg)
        replace V := Lib.hid (V.out.kept hg)
        replace E := Lib.hid (E.out.kept hg)
        replace KB := Lib.hid (KB.out.keptN hg)
        replace W1 := Lib.hid (W1.out.kept hg)
        replace W2 := Lib.hid (W2.out.kept hg)
        replace W3 := Lib.hid (W3.out.kept hg)
        replace Z := Lib.hid (Z.out.keptN hg)
        replace Q1 := Lib.hid (Q1.out.kept hg)
        replace Q2 := Lib.hid (Q2.out.kept hg)
        replace Q3 := Lib.hid (Q3.out.kept hg)
        replace Y := Lib.hid (Y.out.keptN hg)
        replace C := Lib.hid (gtr C.out hg)
        clear hg
        have hg := Draw.grown_alloc v5 (.cells #[.int .i64 0, .int .i64 0] 37) none
        have SG := Lib.hid (Blk.new v5 #[.int .i64 0, .int .i64 0] 37)
        replace G := Lib.hid (gtr G.out hg)
        replace A1 := Lib.hid (A1.out.kept hg)
        replace A2 := Lib.hid (A2.out.kept hg)
        replace M1 := Lib.hid (M1.out.kept hg)
        replace N1 := Lib.hid (N1.out.kept hg)
        replace V := Lib.hid (V.out.kept hg)
        replace E := Lib.hid (E.out.kept hg)
        replace KB := Lib.hid (KB.out.keptN hg)
        replace W1 := Lib.hid (W1.out.kept hg)
        replace W2 := Lib.hid (W2.out.kept hg)
        replace W3 := Lib.hid (W3.out.kept hg)
        replace Z := Lib.hid (Z.out.keptN hg)
        replace Q1 := Lib.hid (Q1.out.kept hg)
        replace Q2 := Lib.hid (Q2.out.kept hg)
        replace Q3 := Lib.hid (Q3.out.kept hg)
        replace Y := Lib.hid (Y.out.keptN hg)
        replace C := Lib.hid (gtr C.out hg)
        clear hg
        have KB_0 : World.cell? _ ⟨v1.heap.size, 0, none⟩ = some (.int .i64 need) := KB.out.cell 0
        have KB_1 : World.cell? _ ⟨v1.heap.size, 1, none⟩ = some (.int .i64 many) := KB.out.cell 1
        have KB_2 : World.cell? _ ⟨v1.heap.size, 2, none⟩ = some (.slice ag ng cg) := KB.out.cell 2
        have KB_3 : World.cell? _ ⟨v1.heap.size, 3, none⟩ = some (.slice ac nc cc) := KB.out.cell 3
        have KB_l := KB.out.lt
        have Z_0 : World.cell? _ ⟨v2.heap.size, 0, none⟩ = some (.int .i64 need) := Z.out.cell 0
        have Z_1 : World.cell? _ ⟨v2.heap.size, 1, none⟩ = some (.int .i64 many) := Z.out.cell 1
        have Z_2 : World.cell? _ ⟨v2.heap.size, 2, none⟩ = some (.slice (some ⟨wb1, 0, none⟩) ng wc1) := Z.out.cell 2
        have Z_3 : World.cell? _ ⟨v2.heap.size, 3, none⟩ = some (.slice (some ⟨wb2, 0, none⟩) nc wc2) := Z.out.cell 3
        have Z_4 : World.cell? _ ⟨v2.heap.size, 4, none⟩ = some (.int .i64 msg) := Z.out.cell 4
        have Z_5 : World.cell? _ ⟨v2.heap.size, 5, none⟩ = some (.slice wa3 k wc3) := Z.out.cell 5
        have Z_l := Z.out.lt
        have Y_0 : World.cell? _ ⟨v3.heap.size, 0, none⟩ = some (.int .i64 need) := Y.out.cell 0
        have Y_1 : World.cell? _ ⟨v3.heap.size, 1, none⟩ = some (.int .i64 many) := Y.out.cell 1
        have Y_2 : World.cell? _ ⟨v3.heap.size, 2, none⟩ = some (.slice qa1 ng qc1) := Y.out.cell 2
        have Y_3 : World.cell? _ ⟨v3.heap.size, 3, none⟩ = some (.slice qa2 nc qc2) := Y.out.cell 3
        have Y_4 : World.cell? _ ⟨v3.heap.size, 4, none⟩ = some (.int .i64 msg) := Y.out.cell 4
        have Y_5 : World.cell? _ ⟨v3.heap.size, 5, none⟩ = some (.slice qa3 k qc3) := Y.out.cell 5
        have Y_l := Y.out.lt
        have SG_0 : World.cell? _ ⟨v5.heap.size, 0, none⟩ = some (.int .i64 0) := SG.out.cell 0
        have SG_1 : World.cell? _ ⟨v5.heap.size, 1, none⟩ = some (.int .i64 0) := SG.out.cell 1
        have SG_l := SG.out.lt
        go_wp2_with fail
        refine (i32ok _ need many _ ng _ zg _ nc _ zc msg _ k _ (nwS zm zs) Q1.out Q2.out Q3.out (by omega) (by omega) (by omega)).mono ?_
        rintro e v6 ⟨rfl, hg⟩
        rw [HTS.out]
        clear KB_0 KB_1 KB_2 KB_3 Z_0 Z_1 Z_2 Z_3 Z_4 Z_5 Y_0 Y_1 Y_2 Y_3 Y_4 Y_5 SG_0 SG_1 KB_l Z_l Y_l SG_l
        have hz := hg.size; rw [World.size_alloc] at hz
        have HZ4 := Lib.hid hz; clear hz
        replace G := Lib.hid (gtr G.out hg)
        replace A1 := Lib.hid (A1.out.kept hg)
        replace A2 := Lib.hid (A2.out.kept hg)
        replace M1 := Lib.hid (M1.out.kept hg)
        replace N1 := Lib.hid (N1.out.kept hg)
        replace V := Lib.hid (V.out.kept hg)
        replace E := Lib.hid (E.out.kept hg)
        replace KB := Lib.hid (KB.out.keptN hg)
        replace W1 := Lib.hid (W1.out.kept hg)
        replace W2 := Lib.hid (W2.out.kept hg)
        replace W3 := Lib.hid (W3.out.kept hg)
        replace Z := Lib.hid (Z.out.keptN hg)
        replace Q1 := Lib.hid (Q1.out.kept hg)
        replace Q2 := Lib.hid (Q2.out.kept hg)
        replace Q3 := Lib.hid (Q3.out.kept hg)
        replace Y := Lib.hid (Y.out.keptN hg)
        replace C := Lib.hid (gtr C.out hg)
        replace SG := Lib.hid (SG.out.keptN hg)
        clear hg
        have hge := HNE.out
        have KB_0 : World.cell? _ ⟨v1.heap.size, 0, none⟩ = some (.int .i64 need) := KB.out.cell 0
        have KB_1 : World.cell? _ ⟨v1.heap.size, 1, none⟩ = some (.int .i64 many) := KB.out.cell 1
        have KB_2 : World.cell? _ ⟨v1.heap.size, 2, none⟩ = some (.slice ag ng cg) := KB.out.cell 2
        have KB_3 : World.cell? _ ⟨v1.heap.size, 3, none⟩ = some (.slice ac nc cc) := KB.out.cell 3
        have KB_l := KB.out.lt
        have Z_0 : World.cell? _ ⟨v2.heap.size, 0, none⟩ = some (.int .i64 need) := Z.out.cell 0
        have Z_1 : World.cell? _ ⟨v2.heap.size, 1, none⟩ = some (.int .i64 many) := Z.out.cell 1
        have Z_2 : World.cell? _ ⟨v2.heap.size, 2, none⟩ = some (.slice (some ⟨wb1, 0, none⟩) ng wc1) := Z.out.cell 2
        have Z_3 : World.cell? _ ⟨v2.heap.size, 3, none⟩ = some (.slice (some ⟨wb2, 0, none⟩) nc wc2) := Z.out.cell 3
        have Z_4 : World.cell? _ ⟨v2.heap.size, 4, none⟩ = some (.int .i64 msg) := Z.out.cell 4
        have Z_5 : World.cell? _ ⟨v2.heap.size, 5, none⟩ = some (.slice wa3 k wc3) := Z.out.cell 5
        have Z_l := Z.out.lt
        have Y_0 : World.cell? _ ⟨v3.heap.size, 0, none⟩ = some (.int .i64 need) := Y.out.cell 0
        have Y_1 : World.cell? _ ⟨v3.heap.size, 1, none⟩ = some (.int .i64 many) := Y.out.cell 1
        have Y_2 : World.cell? _ ⟨v3.heap.size, 2, none⟩ = some (.slice qa1 ng qc1) := Y.out.cell 2
        have Y_3 : World.cell? _ ⟨v3.heap.size, 3, none⟩ = some (.slice qa2 nc qc2) := Y.out.cell 3
        have Y_4 : World.cell? _ ⟨v3.heap.size, 4, none⟩ = some (.int .i64 msg) := Y.out.cell 4
        have Y_5 : World.cell? _ ⟨v3.heap.size, 5, none⟩ = some (.slice qa3 k qc3) := Y.out.cell 5
        have Y_l := Y.out.lt
        have SG_0 : World.cell? _ ⟨v5.heap.size, 0, none⟩ = some (.int .i64 0) := SG.out.cell 0
        have SG_1 : World.cell? _ ⟨v5.heap.size, 1, none⟩ = some (.int .i64 0) := SG.out.cell 1
        have SG_l := SG.out.lt
        go_wp2_with fail
        refine (isesBad _ need many _ ng _ zg _ nc _ zc msg _ k _ (nwS zm zs) ad Q1.out Q2.out Q3.out (by omega) (by omega) (by omega) V.out E.out).mono ?_
        rintro e v7 ⟨v, rfl, hL, hg⟩
        clear KB_0 KB_1 KB_2 KB_3 Z_0 Z_1 Z_2 Z_3 Z_4 Z_5 Y_0 Y_1 Y_2 Y_3 Y_4 Y_5 SG_0 SG_1 KB_l Z_l Y_l SG_l
        rw [show tbF need many ng zg nc zc msg k (nwS zm zs) = [] from nw_none HTS.out] at hL
        obtain ⟨la, lc, rfl, _, _, _⟩ := hL.slice
        clear hL
        replace G := Lib.hid (gtr G.out hg)
        replace A1 := Lib.hid (A1.out.kept hg)
        replace A2 := Lib.hid (A2.out.kept hg)
        replace M1 := Lib.hid (M1.out.kept hg)
        replace N1 := Lib.hid (N1.out.kept hg)
        replace V := Lib.hid (V.out.kept hg)
        replace E := Lib.hid (E.out.kept hg)
        replace KB := Lib.hid (KB.out.keptN hg)
        replace W1 := Lib.hid (W1.out.kept hg)
        replace W2 := Lib.hid (W2.out.kept hg)
        replace W3 := Lib.hid (W3.out.kept hg)
        replace Z := Lib.hid (Z.out.keptN hg)
        replace Q1 := Lib.hid (Q1.out.kept hg)
        replace Q2 := Lib.hid (Q2.out.kept hg)
        replace Q3 := Lib.hid (Q3.out.kept hg)
        replace Y := Lib.hid (Y.out.keptN hg)
        replace C := Lib.hid (gtr C.out hg)
        replace SG := Lib.hid (SG.out.keptN hg)
        clear hg
        have KB_0 : World.cell? _ ⟨v1.heap.size, 0, none⟩ = some (.int .i64 need) := KB.out.cell 0
        have KB_1 : World.cell? _ ⟨v1.heap.size, 1, none⟩ = some (.int .i64 many) := KB.out.cell 1
        have KB_2 : World.cell? _ ⟨v1.heap.size, 2, none⟩ = some (.slice ag ng cg) := KB.out.cell 2
        have KB_3 : World.cell? _ ⟨v1.heap.size, 3, none⟩ = some (.slice ac nc cc) := KB.out.cell 3
        have KB_l := KB.out.lt
        have Z_0 : World.cell? _ ⟨v2.heap.size, 0, none⟩ = some (.int .i64 need) := Z.out.cell 0
        have Z_1 : World.cell? _ ⟨v2.heap.size, 1, none⟩ = some (.int .i64 many) := Z.out.cell 1
        have Z_2 : World.cell? _ ⟨v2.heap.size, 2, none⟩ = some (.slice (some ⟨wb1, 0, none⟩) ng wc1) := Z.out.cell 2
        have Z_3 : World.cell? _ ⟨v2.heap.size, 3, none⟩ = some (.slice (some ⟨wb2, 0, none⟩) nc wc2) := Z.out.cell 3
        have Z_4 : World.cell? _ ⟨v2.heap.size, 4, none⟩ = some (.int .i64 msg) := Z.out.cell 4
        have Z_5 : World.cell? _ ⟨v2.heap.size, 5, none⟩ = some (.slice wa3 k wc3) := Z.out.cell 5
        have Z_l := Z.out.lt
        have Y_0 : World.cell? _ ⟨v3.heap.size, 0, none⟩ = some (.int .i64 need) := Y.out.cell 0
        have Y_1 : World.cell? _ ⟨v3.heap.size, 1, none⟩ = some (.int .i64 many) := Y.out.cell 1
        have Y_2 : World.cell? _ ⟨v3.heap.size, 2, none⟩ = some (.slice qa1 ng qc1) := Y.out.cell 2
        have Y_3 : World.cell? _ ⟨v3.heap.size, 3, none⟩ = some (.slice qa2 nc qc2) := Y.out.cell 3
        have Y_4 : World.cell? _ ⟨v3.heap.size, 4, none⟩ = some (.int .i64 msg) := Y.out.cell 4
        have Y_5 : World.cell? _ ⟨v3.heap.size, 5, none⟩ = some (.slice qa3 k qc3) := Y.out.cell 5
        have Y_l := Y.out.lt
        have SG_0 : World.cell? _ ⟨v5.heap.size, 0, none⟩ = some (.int .i64 0) := SG.out.cell 0
        have SG_1 : World.cell? _ ⟨v5.heap.size, 1, none⟩ = some (.int .i64 0) := SG.out.cell 1
        have SG_l := SG.out.lt
        go_wp2
        go_ret
        exact ⟨by first | rfl | simp, Draw.below_of G.out⟩
  · skip
    have KB_0 : World.cell? _ ⟨v1.heap.size, 0, none⟩ = some (.int .i64 need) := KB.out.cell 0
    have KB_1 : World.cell? _ ⟨v1.heap.size, 1, none⟩ = some (.int .i64 many) := KB.out.cell 1
    have KB_2 : World.cell? _ ⟨v1.heap.size, 2, none⟩ = some (.slice ag ng cg) := KB.out.cell 2
    have KB_3 : World.cell? _ ⟨v1.heap.size, 3, none⟩ = some (.slice ac nc cc) := KB.out.cell 3
    have KB_l := KB.out.lt
    go_wp2_with fail
    refine (s32new _ need many _ ng _ zg _ nc _ zc msg _ nm _ zm _ ns _ zs A1.out A2.out S1.out S2.out M1.out N1.out (by omega) (by omega) (by omega)).mono ?_
    rintro e v2 h
    unfold SesN at h
    rw [if_neg hc1] at h
    obtain ⟨rfl, hg⟩ := h
    clear KB_0 KB_1 KB_2 KB_3 KB_l
    have hz := hg.size; rw [World.size_alloc] at hz
    have HZ0 := Lib.hid hz; clear hz
    replace G := Lib.hid (gtr G.out hg)
    replace A1 := Lib.hid (A1.out.kept hg)
    replace A2 := Lib.hid (A2.out.kept hg)
    replace M1 := Lib.hid (M1.out.kept hg)
    replace N1 := Lib.hid (N1.out.kept hg)
    replace V := Lib.hid (V.out.kept hg)
    replace E := Lib.hid (E.out.kept hg)
    replace KB := Lib.hid (KB.out.keptN hg)
    clear hg
    have hg := Draw.grown_alloc v2 (.cells #[.int .i64 0, .int .i64 0, .slice none 0 0, .slice none 0 0, .int .i64 0, .slice none 0 0] 30) none
    have Z := Lib.hid (Blk.new v2 #[.int .i64 0, .int .i64 0, .slice none 0 0, .slice none 0 0, .int .i64 0, .slice none 0 0] 30)
    replace G := Lib.hid (gtr G.out hg)
    replace A1 := Lib.hid (A1.out.kept hg)
    replace A2 := Lib.hid (A2.out.kept hg)
    replace M1 := Lib.hid (M1.out.kept hg)
    replace N1 := Lib.hid (N1.out.kept hg)
    replace V := Lib.hid (V.out.kept hg)
    replace E := Lib.hid (E.out.kept hg)
    replace KB := Lib.hid (KB.out.keptN hg)
    clear hg
    have KB_0 : World.cell? _ ⟨v1.heap.size, 0, none⟩ = some (.int .i64 need) := KB.out.cell 0
    have KB_1 : World.cell? _ ⟨v1.heap.size, 1, none⟩ = some (.int .i64 many) := KB.out.cell 1
    have KB_2 : World.cell? _ ⟨v1.heap.size, 2, none⟩ = some (.slice ag ng cg) := KB.out.cell 2
    have KB_3 : World.cell? _ ⟨v1.heap.size, 3, none⟩ = some (.slice ac nc cc) := KB.out.cell 3
    have KB_l := KB.out.lt
    have Z_0 : World.cell? _ ⟨v2.heap.size, 0, none⟩ = some (.int .i64 0) := Z.out.cell 0
    have Z_1 : World.cell? _ ⟨v2.heap.size, 1, none⟩ = some (.int .i64 0) := Z.out.cell 1
    have Z_2 : World.cell? _ ⟨v2.heap.size, 2, none⟩ = some (.slice none 0 0) := Z.out.cell 2
    have Z_3 : World.cell? _ ⟨v2.heap.size, 3, none⟩ = some (.slice none 0 0) := Z.out.cell 3
    have Z_4 : World.cell? _ ⟨v2.heap.size, 4, none⟩ = some (.int .i64 0) := Z.out.cell 4
    have Z_5 : World.cell? _ ⟨v2.heap.size, 5, none⟩ = some (.slice none 0 0) := Z.out.cell 5
    have Z_l := Z.out.lt
    go_wp2_with fail
    refine (i32new _ need many _ ng _ zg _ nc _ zc msg _ nm _ zm _ ns _ zs A1.out A2.out S1.out S2.out M1.out N1.out (by omega) (by omega) (by omega)).mono ?_
    rintro e v3 h
    unfold SesNQ at h
    rw [if_neg hc1] at h
    obtain ⟨rfl, hg⟩ := h
    clear KB_0 KB_1 KB_2 KB_3 Z_0 Z_1 Z_2 Z_3 Z_4 Z_5 KB_l Z_l
    have hz := hg.size; rw [World.size_alloc] at hz
    have HZ1 := Lib.hid hz; clear hz
    replace G := Lib.hid (gtr G.out hg)
    replace A1 := Lib.hid (A1.out.kept hg)
    replace A2 := Lib.hid (A2.out.kept hg)
    replace M1 := Lib.hid (M1.out.kept hg)
    replace N1 := Lib.hid (N1.out.kept hg)
    replace V := Lib.hid (V.out.kept hg)
    replace E := Lib.hid (E.out.kept hg)
    replace KB := Lib.hid (KB.out.keptN hg)
    replace Z := Lib.hid (Z.out.keptN hg)
    clear hg
    have hg := Draw.grown_alloc v3 (.cells #[.int .i64 0, .int .i64 0, .slice none 0 0, .slice none 0 0, .int .i64 0, .slice none 0 0] 30) none
    have Y := Lib.hid (Blk.new v3 #[.int .i64 0, .int .i64 0, .slice none 0 0, .slice none 0 0, .int .i64 0, .slice none 0 0] 30)
    replace G := Lib.hid (gtr G.out hg)
    replace A1 := Lib.hid (A1.out.kept hg)
    replace A2 := Lib.hid (A2.out.kept hg)
    replace M1 := Lib.hid (M1.out.kept hg)
    replace N1 := Lib.hid (N1.out.kept hg)
    replace V := Lib.hid (V.out.kept hg)
    replace E := Lib.hid (E.out.kept hg)
    replace KB := Lib.hid (KB.out.keptN hg)
    replace Z := Lib.hid (Z.out.keptN hg)
    clear hg
    have KB_0 : World.cell? _ ⟨v1.heap.size, 0, none⟩ = some (.int .i64 need) := KB.out.cell 0
    have KB_1 : World.cell? _ ⟨v1.heap.size, 1, none⟩ = some (.int .i64 many) := KB.out.cell 1
    have KB_2 : World.cell? _ ⟨v1.heap.size, 2, none⟩ = some (.slice ag ng cg) := KB.out.cell 2
    have KB_3 : World.cell? _ ⟨v1.heap.size, 3, none⟩ = some (.slice ac nc cc) := KB.out.cell 3
    have KB_l := KB.out.lt
    have Z_0 : World.cell? _ ⟨v2.heap.size, 0, none⟩ = some (.int .i64 0) := Z.out.cell 0
    have Z_1 : World.cell? _ ⟨v2.heap.size, 1, none⟩ = some (.int .i64 0) := Z.out.cell 1
    have Z_2 : World.cell? _ ⟨v2.heap.size, 2, none⟩ = some (.slice none 0 0) := Z.out.cell 2
    have Z_3 : World.cell? _ ⟨v2.heap.size, 3, none⟩ = some (.slice none 0 0) := Z.out.cell 3
    have Z_4 : World.cell? _ ⟨v2.heap.size, 4, none⟩ = some (.int .i64 0) := Z.out.cell 4
    have Z_5 : World.cell? _ ⟨v2.heap.size, 5, none⟩ = some (.slice none 0 0) := Z.out.cell 5
    have Z_l := Z.out.lt
    have Y_0 : World.cell? _ ⟨v3.heap.size, 0, none⟩ = some (.int .i64 0) := Y.out.cell 0
    have Y_1 : World.cell? _ ⟨v3.heap.size, 1, none⟩ = some (.int .i64 0) := Y.out.cell 1
    have Y_2 : World.cell? _ ⟨v3.heap.size, 2, none⟩ = some (.slice none 0 0) := Y.out.cell 2
    have Y_3 : World.cell? _ ⟨v3.heap.size, 3, none⟩ = some (.slice none 0 0) := Y.out.cell 3
    have Y_4 : World.cell? _ ⟨v3.heap.size, 4, none⟩ = some (.int .i64 0) := Y.out.cell 4
    have Y_5 : World.cell? _ ⟨v3.heap.size, 5, none⟩ = some (.slice none 0 0) := Y.out.cell 5
    have Y_l := Y.out.lt
    go_wp2_with fail
    refine (lpses _ 0 0 none none none none 0 0 0 zg 0 0 0 zc 0 none none 0 0 0 (nwS zm zs) (.inl rfl) (.inl rfl) (.inl rfl) (.inl rfl) (.inl rfl) (.inl rfl) (by omega) (by omega) (by omega)).mono ?_
    rintro e v4 ⟨rfl, hg⟩
    clear KB_0 KB_1 KB_2 KB_3 Z_0 Z_1 Z_2 Z_3 Z_4 Z_5 Y_0 Y_1 Y_2 Y_3 Y_4 Y_5 KB_l Z_l Y_l
    have hz := hg.size; rw [World.size_alloc] at hz
    have HZ2 := Lib.hid hz; clear hz
    replace G := Lib.hid (gtr G.out hg)
    replace A1 := Lib.hid (A1.out.kept hg)
    replace A2 := Lib.hid (A2.out.kept hg)
    replace M1 := Lib.hid (M1.out.kept hg)
    replace N1 := Lib.hid (N1.out.kept hg)
    replace V := Lib.hid (V.out.kept hg)
    replace E := Lib.hid (E.out.kept hg)
    replace KB := Lib.hid (KB.out.keptN hg)
    replace Z := Lib.hid (Z.out.keptN hg)
    replace Y := Lib.hid (Y.out.keptN hg)
    clear hg
    have KB_0 : World.cell? _ ⟨v1.heap.size, 0, none⟩ = some (.int .i64 need) := KB.out.cell 0
    have KB_1 : World.cell? _ ⟨v1.heap.size, 1, none⟩ = some (.int .i64 many) := KB.out.cell 1
    have KB_2 : World.cell? _ ⟨v1.heap.size, 2, none⟩ = some (.slice ag ng cg) := KB.out.cell 2
    have KB_3 : World.cell? _ ⟨v1.heap.size, 3, none⟩ = some (.slice ac nc cc) := KB.out.cell 3
    have KB_l := KB.out.lt
    have Z_0 : World.cell? _ ⟨v2.heap.size, 0, none⟩ = some (.int .i64 0) := Z.out.cell 0
    have Z_1 : World.cell? _ ⟨v2.heap.size, 1, none⟩ = some (.int .i64 0) := Z.out.cell 1
    have Z_2 : World.cell? _ ⟨v2.heap.size, 2, none⟩ = some (.slice none 0 0) := Z.out.cell 2
    have Z_3 : World.cell? _ ⟨v2.heap.size, 3, none⟩ = some (.slice none 0 0) := Z.out.cell 3
    have Z_4 : World.cell? _ ⟨v2.heap.size, 4, none⟩ = some (.int .i64 0) := Z.out.cell 4
    have Z_5 : World.cell? _ ⟨v2.heap.size, 5, none⟩ = some (.slice none 0 0) := Z.out.cell 5
    have Z_l := Z.out.lt
    have Y_0 : World.cell? _ ⟨v3.heap.size, 0, none⟩ = some (.int .i64 0) := Y.out.cell 0
    have Y_1 : World.cell? _ ⟨v3.heap.size, 1, none⟩ = some (.int .i64 0) := Y.out.cell 1
    have Y_2 : World.cell? _ ⟨v3.heap.size, 2, none⟩ = some (.slice none 0 0) := Y.out.cell 2
    have Y_3 : World.cell? _ ⟨v3.heap.size, 3, none⟩ = some (.slice none 0 0) := Y.out.cell 3
    have Y_4 : World.cell? _ ⟨v3.heap.size, 4, none⟩ = some (.int .i64 0) := Y.out.cell 4
    have Y_5 : World.cell? _ ⟨v3.heap.size, 5, none⟩ = some (.slice none 0 0) := Y.out.cell 5
    have Y_l := Y.out.lt
    go_wp2_with fail
    refine (lpses _ 0 0 none none none none 0 0 0 zg 0 0 0 zc 0 none none 0 0 0 (nwS zm zs) (.inl rfl) (.inl rfl) (.inl rfl) (.inl rfl) (.inl rfl) (.inl rfl) (by omega) (by omega) (by omega)).mono ?_
    rintro e v5 ⟨rfl, hg⟩
    clear KB_0 KB_1 KB_2 KB_3 Z_0 Z_1 Z_2 Z_3 Z_4 Z_5 Y_0 Y_1 Y_2 Y_3 Y_4 Y_5 KB_l Z_l Y_l
    have hz := hg.size
    have HZ3 := Lib.hid hz; clear hz
    replace G := Lib.hid (gtr G.out hg)
    replace A1 := Lib.hid (A1.out.kept hg)
    replace A2 := Lib.hid (A2.out.kept hg)
    replace M1 := Lib.hid (M1.out.kept hg)
    replace N1 := Lib.hid (N1.out.kept hg)
    replace V := Lib.hid (V.out.kept hg)
    replace E := Lib.hid (E.out.kept hg)
    replace KB := Lib.hid (KB.out.keptN hg)
    replace Z := Lib.hid (Z.out.keptN hg)
    replace Y := Lib.hid (Y.out.keptN hg)
    clear hg
    have KB_0 : World.cell? _ ⟨v1.heap.size, 0, none⟩ = some (.int .i64 need) := KB.out.cell 0
    have KB_1 : World.cell? _ ⟨v1.heap.size, 1, none⟩ = some (.int .i64 many) := KB.out.cell 1
    have KB_2 : World.cell? _ ⟨v1.heap.size, 2, none⟩ = some (.slice ag ng cg) := KB.out.cell 2
    have KB_3 : World.cell? _ ⟨v1.heap.size, 3, none⟩ = some (.slice ac nc cc) := KB.out.cell 3
    have KB_l := KB.out.lt
    have Z_0 : World.cell? _ ⟨v2.heap.size, 0, none⟩ = some (.int .i64 0) := Z.out.cell 0
    have Z_1 : World.cell? _ ⟨v2.heap.size, 1, none⟩ = some (.int .i64 0) := Z.out.cell 1
    have Z_2 : World.cell? _ ⟨v2.heap.size, 2, none⟩ = some (.slice none 0 0) := Z.out.cell 2
    have Z_3 : World.cell? _ ⟨v2.heap.size, 3, none⟩ = some (.slice none 0 0) := Z.out.cell 3
    have Z_4 : World.cell? _ ⟨v2.heap.size, 4, none⟩ = some (.int .i64 0) := Z.out.cell 4
    have Z_5 : World.cell? _ ⟨v2.heap.size, 5, none⟩ = some (.slice none 0 0) := Z.out.cell 5
    have Z_l := Z.out.lt
    have Y_0 : World.cell? _ ⟨v3.heap.size, 0, none⟩ = some (.int .i64 0) := Y.out.cell 0
    have Y_1 : World.cell? _ ⟨v3.heap.size, 1, none⟩ = some (.int .i64 0) := Y.out.cell 1
    have Y_2 : World.cell? _ ⟨v3.heap.size, 2, none⟩ = some (.slice none 0 0) := Y.out.cell 2
    have Y_3 : World.cell? _ ⟨v3.heap.size, 3, none⟩ = some (.slice none 0 0) := Y.out.cell 3
    have Y_4 : World.cell? _ ⟨v3.heap.size, 4, none⟩ = some (.int .i64 0) := Y.out.cell 4
    have Y_5 : World.cell? _ ⟨v3.heap.size, 5, none⟩ = some (.slice none 0 0) := Y.out.cell 5
    have Y_l := Y.out.lt
    go_wp2
    go_ret
    exact ⟨by first | rfl | simp, Draw.below_of G.out⟩
end Run
end Go.Proofs.YthbigmcklacbnaaGreatDoor
