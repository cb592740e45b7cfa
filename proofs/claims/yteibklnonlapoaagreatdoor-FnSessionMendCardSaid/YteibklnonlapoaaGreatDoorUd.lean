/-
  How the model draws sessions.
-/
import Derived.Test.YteibklnonlapoaaGreatDoorGe
import Derived.Test.YteibklnonlapoaaGreatDoorUc
import Derived.Test.YteibklnonlapoaaGreatDoorGy
namespace Go.Proofs.YteibklnonlapoaaGreatDoor
namespace Draw
open Go.RowKit Alg Mem Con Mp Hd
set_option linter.unusedVariables false

theorem sh_own {w : World} {lo : Nat} {a : Option Addr} {n c : Nat} {S : Nat → SV} (h : OwnSh w lo (.slice a n c) n S) : ShIn w a n S := by
  obtain ⟨a', c', hv, hs, _⟩ := h.sh
  injection hv with e _ _
  subst e
  exact hs
theorem cellsS_upd (S : Nat → SV) (f : SV → SV) {k n i : Nat} {v : Value} (hk : k < n) (hi : i < 4) (hf : (cell4 (S k)).set i v = cell4 (f (S k))) : (cellsS S n).set (k * 4 + i) v = cellsS (fun j => if j = k then f (S j) else S j) n := by
  apply List.ext_getElem?
  intro j
  rw [List.getElem?_set]
  by_cases hj : j < n * 4
  · obtain ⟨q, r, hr, rfl⟩ : ∃ q r, r < 4 ∧ j = q * 4 + r := ⟨j / 4, j % 4, by omega, by omega⟩
    have hq : q < n := by omega
    rw [cellsS_at _ hq hr, cellsS_at _ hq hr]
    by_cases e : q = k
    · subst e
      rw [if_pos rfl, ← hf, List.getElem?_set]
      by_cases e2 : i = r
      · subst e2
        rw [if_pos rfl, if_pos rfl, if_pos (by rw [cellsS_len]; exact hj), if_pos (by simp [cell4]; omega)]
      · rw [if_neg (by omega), if_neg e2]
    · rw [if_neg (by omega), if_neg e]
  · rw [if_neg (by omega), List.getElem?_eq_none (by rw [cellsS_len]; omega), List.getElem?_eq_none (by rw [cellsS_len]; omega)]
theorem own_upd {w : World} {lo b n c : Nat} {S : Nat → SV} (h : OwnSh w lo (.slice (some ⟨b, 0, none⟩) n c) n S) (f : SV → SV) {k i : Nat} {v : Value} (hk : k < n) (hi : i < 4) (hf : (cell4 (S k)).set i v = cell4 (f (S k))) :
    OwnSh (w.setCell ⟨b, k * 4 + i, none⟩ v) lo (.slice (some ⟨b, 0, none⟩) n c) n (fun j => if j = k then f (S j) else S j) := by
  unfold OwnSh at h ⊢
  rw [← cellsS_upd S f hk hi hf]
  exact (World.ownsRow.stored h (k * 4 + i) v).1
theorem lies_rowD {w1 : World} {lo : Nat} {E : TypeId} {g cap k : Nat} {z : Nat → Int} {n : Int} (h : w1.ownsRow lo E 1 (.slice (some ⟨g, 0, none⟩) (k + 1) cap) (k + 1) (vals z k ++ [.int .i64 n])) (hn : n = z k) : Row w1 lo E g (k + 1) cap z := by
  obtain ⟨b, c, hv, hr⟩ := app_row h hn
  injection hv with h1 _ h3
  injection h1 with h1
  injection h1 with h1
  subst h1; subst h3
  exact hr
theorem ints_lt {w : World} {b off n : Nat} {z : Nat → Int} (h : Ints w (some ⟨b, off, none⟩) n z) (hn : 1 ≤ n) : b < w.heap.size := by
  obtain ⟨b', off', e, hb, _⟩ := h.ptr hn
  injection e with e; injection e with e _
  rw [e]; exact hb
theorem own_tyd {w : World} {lo b n c : Nat} {S : Nat → SV} (h : OwnSh w lo (.slice (some ⟨b, 0, none⟩) n c) n S) : Tyd w b 35 := by
  rcases h.2 with ⟨hv, _⟩ | ⟨g, c', cur, hv, _, hb, _⟩
  · cases hv
  · injection hv with e1 _ _; injection e1 with e1; injection e1 with e1 _; subst e1; exact ⟨cur, hb⟩
theorem spZ_ok {need many : Int} {ng : Nat} {zg : Nat → Int} {nc : Nat} {zc : Nat → Int} {nm : Nat} {zm : Nat → Int} {m s r msg d : Int} : fok (spZ need many ng zg nc zc nm zm m s r msg d) = true := by
  unfold spZ; split
  · exact sumF_ok _ _
  · rfl
theorem sesP_get {w : World} {need many : Int} {ng : Nat} {zg : Nat → Int} {nc : Nat} {zc : Nat → Int} {msg : Int} {n : Nat} {S : Nat → SV} {m z : Int} {e : Ending} {w' : World} (h1 : tsF need many ng zg nc zc msg n S = true) (h2 : fok z = true) (h : SesP w need many ng zg nc zc msg n S m z e w') : SesC w need many ng zg nc zc msg n (ptS S m n z) (hasz (mS S) m n) e w' := by
  unfold SesP at h; rw [if_pos ⟨h1, h2⟩] at h; exact h
/-- A session, drawn. -/
def GotSes (w : World) (base B : Nat) (a : Option Addr) (len cap p : Nat) (e : Ending) (w' : World) : Prop :=
  ∃ (need many : Int) (ag : Option Addr) (ng cg : Nat) (zg : Nat → Int) (ac : Option Addr) (nc cc : Nat) (zc : Nat → Int) (msg : Int) (a3 : Option Addr) (n c3 : Nat) (S : Nat → SV),
    e = .returned (.agg #[.int .i64 need, .int .i64 many, .slice ag ng cg, .slice ac nc cc, .int .i64 msg, .slice a3 n c3]) ∧ OE w' w.heap.size ag ng cg zg ∧ OE w' w.heap.size ac nc cc zc ∧ OwnSh w' w.heap.size (.slice a3 n c3) n S ∧ (ng ≤ 6 ∧ nc ≤ 6 ∧ n ≤ 6) ∧ w.grownBy w' (some B) ∧ ∃ p', p ≤ p' ∧ p' ≤ p + 60000 ∧ Rd w' base B a len cap p'
set_option maxRecDepth 100000 in
set_option maxHeartbeats 8000000 in
theorem sess_any (w : World) (base B : Nat) (a : Option Addr) (len cap p : Nat) (h : Rd w base B a len cap p) (hp : p ≤ 1000) :
    Calls Tryz.prog 47 #[.pointer (some ⟨B, 0, none⟩)] w (GotSes w base B a len cap p) := by
  have hBw := h.lt
  have hbB := h.from_
  have H := Lib.hid (h.alloc (.cells #[.int .i64 0, .int .i64 0, .slice none 0 0, .slice none 0 0, .int .i64 0, .slice none 0 0] 30)); clear h
  have R := Lib.hid (Blk.new w #[.int .i64 0, .int .i64 0, .slice none 0 0, .slice none 0 0, .int .i64 0, .slice none 0 0] 30)
  have G := Lib.hid (grown_alloc w (.cells #[.int .i64 0, .int .i64 0, .slice none 0 0, .slice none 0 0, .int .i64 0, .slice none 0 0] 30) (some B))
  go_enter Tryz.func47, Tryz.ntmps47
  go_wp2_with fail
  have hw1 : w.heap.size < (w.alloc (.cells #[.int .i64 0, .int .i64 0, .slice none 0 0, .slice none 0 0, .int .i64 0, .slice none 0 0] 30)).heap.size := R.out.lt
  generalize w.alloc (.cells #[.int .i64 0, .int .i64 0, .slice none 0 0, .slice none 0 0, .int .i64 0, .slice none 0 0] 30) = w1 at *
  refine (held_any _ _ _ a len cap p H.out (by omega)).mono ?_
  rintro e w2 ⟨need, many, ag, ng, cg, zg, ac, nc, cc, zc, v, rfl, hk, ⟨hm1, hn1, hnm⟩, hO, hg, p2, hp2, hp2', hr⟩
  have I1 := Lib.hid hk.irg; have I2 := Lib.hid hk.irc; have O := Lib.hid hO
  have hw2 : w1.heap.size ≤ w2.heap.size := hg.size
  have hng := hk.g6; have hnc := hk.c5; have hn5 := hk.n5; have hm6 := hk.m5
  replace H := Lib.hid hr
  replace G := Lib.hid (grown_any G.out hg (by omega))
  replace R := Lib.hid (R.out.kept hg (by intro e; have e := Option.some.inj e; omega))
  clear hg
  clear hr
  clear hk hO
  have hg : w2.grownBy (w2.alloc (.cells #[.int .i64 need, .int .i64 many, .slice ag ng cg, .slice ac nc cc] 25)) none := grown_alloc _ _ _
  have K := Lib.hid (Blk.new w2 #[.int .i64 need, .int .i64 many, .slice ag ng cg, .slice ac nc cc] 25)
  replace G := Lib.hid (gtr' G.out (Draw.grown_some hg))
  replace R := Lib.hid (R.out.keptN hg)
  replace H := Lib.hid (H.out.gN hg)
  replace I1 := Lib.hid (I1.out.keptN hg)
  replace I2 := Lib.hid (I2.out.keptN hg)
  replace O := Lib.hid (O.out.kept hg (fun g e => by cases e))
  clear hg
  have kc0 : World.cell? _ ⟨w2.heap.size, 0, none⟩ = some (.int .i64 (need : Int)) := K.out.cell 0
  have kc1 : World.cell? _ ⟨w2.heap.size, 1, none⟩ = some (.int .i64 (many : Int)) := K.out.cell 1
  have kc2 : World.cell? _ ⟨w2.heap.size, 2, none⟩ = some (.slice ag ng cg) := K.out.cell 2
  have kc3 : World.cell? _ ⟨w2.heap.size, 3, none⟩ = some (.slice ac nc cc) := K.out.cell 3
  have hwk : w2.heap.size < (w2.alloc (.cells #[.int .i64 need, .int .i64 many, .slice ag ng cg, .slice ac nc cc] 25)).heap.size := K.out.lt
  go_wp2_with fail
  refine (members_any _ _ _ a len cap _ H.out (by omega) need many _ _ hn1 hnm hm6).mono ?_
  rintro e w3 ⟨am, nm, cm, zm, rfl, hIR, hnm6, hmc, hcm, hall, hg, p3, hp3, hp3', hr⟩
  clear kc0 kc1 kc2 kc3
  have M := Lib.hid hIR; have HAL := Lib.hid hall
  have hw3 : (w2.alloc (.cells #[.int .i64 need, .int .i64 many, .slice ag ng cg, .slice ac nc cc] 25)).heap.size ≤ w3.heap.size := hg.size
  clear hall
  replace H := Lib.hid hr
  replace G := Lib.hid (grown_any G.out hg (by omega))
  replace R := Lib.hid (R.out.kept hg (by intro e; have e := Option.some.inj e; omega))
  replace I1 := Lib.hid (I1.out.kept hg (by omega))
  replace I2 := Lib.hid (I2.out.kept hg (by omega))
  replace O := Lib.hid (O.out.kept hg (fun g e => by have e := Option.some.inj e; omega))
  replace K := Lib.hid (K.out.kept hg (by intro e; have e := Option.some.inj e; omega))
  clear hg
  clear hr
  clear hIR
  obtain ⟨gb, gc, hz, rfl, hgl, hgs, hcel⟩ := O.out.cells hm1
  clear hcel
  go_wp2_with fail
  refine (pick_any _ _ _ a len cap _ 100 H.out (by omega) (by omega)).mono ?_
  rintro e w5 ⟨msg, g0, g1, rfl, hr, hg, hs⟩
  have hw5 : w3.heap.size ≤ w5.heap.size := hg.size
  replace H := Lib.hid hr
  replace G := Lib.hid (grown_any G.out hg (by omega))
  replace R := Lib.hid (R.out.kept hg (by intro e; have e := Option.some.inj e; omega))
  replace I1 := Lib.hid (I1.out.kept hg (by omega))
  replace I2 := Lib.hid (I2.out.kept hg (by omega))
  replace O := Lib.hid (O.out.kept hg (fun g e => by have e := Option.some.inj e; omega))
  replace K := Lib.hid (K.out.kept hg (by intro e; have e := Option.some.inj e; omega))
  replace M := Lib.hid (M.out.kept hg (by omega))
  clear hg
  clear hr
  clear hs
  have hB5 : B < w5.heap.size := by omega
  have hwk5 : w2.heap.size < w5.heap.size := by omega
  generalize hgx : w2.heap.size = kb at *
  obtain ⟨i0, hi, hz0, hz1, hz2⟩ := info_parts info_int
  have hs1 : (w5.alloc (.cells #[] 3)).heap.size = w5.heap.size + 1 := by show (w5.heap.push _).size = _; simp
  have hrow1 := (row_empty w5 3 (fun _ => 0)).alloc (.cells #[] 3)
  have hrow2 := row_empty (w5.alloc (.cells #[] 3)) 3 (fun j => gofF ((fun _ => 0 : Nat → Int) j))
  rw [hs1] at hrow2
  have E1 := Lib.hid hrow1; have E2 := Lib.hid (hrow2.lower (lo' := w5.heap.size) (Nat.le_succ _)); have HR0 := Lib.hid ((H.out.alloc (.cells #[] 3)).alloc (.cells #[] 3))
  clear hs1 hrow1 hrow2
  go_wp2
  go_loopw [7, 8, 9] (fun u7 u8 i W => ∃ (k g1 c1 g2 c2 q : Nat) (d : Nat → Int), k ≤ nm ∧ u7 = .slice (some ⟨g1, 0, none⟩) k c1 ∧ u8 = .slice (some ⟨g2, 0, none⟩) k c2 ∧ i = .int .i64 k ∧ Row W w5.heap.size 3 g1 k c1 d ∧ Row W w5.heap.size 3 g2 k c2 (fun j => gofF (d j)) ∧ g1 ≠ g2 ∧ (∀ j, j < k → fok (d j) = true) ∧ p3 + 1 ≤ q ∧ q ≤ p3 + 1 + k ∧ Rd W base B a len cap q ∧ w5.grownBy W (some B)) (fun _ _ i _ => nm - (intOf i).toNat)
  case atStart => exact ⟨0, w5.heap.size, 0, w5.heap.size + 1, 0, p3 + 1, fun _ => 0, by omega, rfl, rfl, rfl, E1.out, E2.out, by omega, fun j hj => by omega, by omega, by omega, HR0.out, gtr' (grown_alloc _ _ _) (grown_alloc _ _ _)⟩
  case round =>
    clear E1 E2 HR0
    obtain ⟨k, g1, c1, g2, c2, q, d, hk, rfl, rfl, rfl, hr1, hr2, hne, hd, hq0, hq1, hrd, hgc⟩ := hrel
    obtain ⟨W1, hW⟩ : ∃ W, W = wr := ⟨_, rfl⟩; subst hW
    have hf1 := hr1.from_; have hf2 := hr2.from_
    have HD := Lib.hid hd
    by_cases hlt : k < nm
    · have R1 := Lib.hid hr1; have R2 := Lib.hid hr2; have C := Lib.hid hgc
      clear H hd
      have H := Lib.hid hrd
      clear hr1 hr2 hgc hrd
      go_wp2_with fail
      refine (pick_any _ _ _ a len cap q 23 H.out (by omega) (by omega)).mono ?_
      rintro e W2 ⟨x, x0, x1, rfl, hr, hg, hs⟩
      replace H := Lib.hid hr
      replace R1 := Lib.hid (R1.out.kept hg (by intro e; have e := Option.some.inj e; omega))
      replace R2 := Lib.hid (R2.out.kept hg (by intro e; have e := Option.some.inj e; omega))
      replace C := Lib.hid (grown_any C.out hg (by omega))
      clear hg
      clear hr
      clear hs
      have hx := fok_mk x0 (by omega)
      obtain ⟨d', hd1, hd2⟩ : ∃ d' : Nat → Int, (∀ j, j < k → d' j = d j) ∧ d' k = x := ⟨fun j => if j = k then x else d j, fun j hj => if_neg (by omega), if_pos rfl⟩
      have HD' := Lib.hid (show ∀ j, j < k + 1 → fok (d' j) = true from fun j hj => by
        rcases (by omega : j < k ∨ j = k) with h | rfl
        · rw [hd1 j h]; exact HD.out j h
        · rw [hd2]; exact hx)
      have R1' := Lib.hid (R1.out.congr (y := d') fun j hj => (hd1 j hj).symm)
      have R2' := Lib.hid (R2.out.congr (y := fun j => gofF (d' j)) fun j hj => by rw [hd1 j hj])
      clear R1 R2 hd1
      have R1 := R1'; have R2 := R2'
      clear R1' R2'
      have hp1 := R1.out.lt; have hp2 := R2.out.lt
      go_wp2_with (at_builtin; refine stop_here ?_)
      refine ⟨trivial, ?_⟩
      refine wpList_append_lies _ rfl _ _ 23 rfl w5.heap.size 3 i0 (.int .i64 0) 1 8 und_ints hi hz0 hz1 hz2 rfl (by decide) (.slice (some ⟨g1, 0, none⟩) k c1) k (vals d' k) rfl (R1.out.alloc _).owns ⟨W2.heap.size, 0, none⟩ 1 1 [.int .i64 x] rfl rfl (cell_one_new _ _ _) (by simp [Value.oneCell']) (by decide) (by unfold maxLen; omega) (by omega) (by simp; omega) (W2.heap.size + 1) (by simp) ?_
      intro g3 c3 W3 hown hgrow hat hlt3
      have hg : W2.grownBy W3 (some g1) := Draw.grown_trans (Draw.grown_alloc W2 _ _) hgrow
      have hr3 := lies_rowD hown hd2.symm
      have hne3 : g3 ≠ g2 := by
        rcases hat with h | h
        · have h : g1 = g3 := Option.some.inj h
          omega
        · omega
      clear R1 hown hgrow hat
      have R1 := Lib.hid hr3
      replace R2 := Lib.hid (R2.out.kept hg (by intro e; have e := Option.some.inj e; omega))
      replace C := Lib.hid (grown_any C.out hg (by omega))
      replace H := Lib.hid (H.out.grownN hg (by omega) (by omega))
      clear hg
      clear hr3
      have d2 : W3.cell? ⟨g3, k, none⟩ = some (.int .i64 x) := by have := R1.out.cell (show k < k + 1 by omega); rw [hd2] at this; exact this
      have hkk : (k : Int) < ((k + 1 : Nat) : Int) := by omega
      have hf3 := R1.out.from_
      go_wp2_with fail
      refine (spow 2 x _ (by decide) (by decide) x0 (by omega)).mono ?_
      rintro e w' ⟨rfl, rfl⟩
      rw [← gof_in hx]
      clear d2
      have hp3 := R1.out.lt; have hp4 := R2.out.lt
      go_wp2_with (at_builtin; refine stop_here ?_)
      refine ⟨trivial, ?_⟩
      refine wpList_append_lies _ rfl _ _ 23 rfl w5.heap.size 3 i0 (.int .i64 0) 1 8 und_ints hi hz0 hz1 hz2 rfl (by decide) (.slice (some ⟨g2, 0, none⟩) k c2) k (vals (fun j => gofF (d' j)) k) rfl (R2.out.alloc _).owns ⟨W3.heap.size, 0, none⟩ 1 1 [.int .i64 (gofF x)] rfl rfl (cell_one_new _ _ _) (by simp [Value.oneCell']) (by decide) (by unfold maxLen; omega) (by omega) (by simp; omega) (W3.heap.size + 1) (by simp) ?_
      intro g4 c4 W4 hown hgrow hat hlt4
      have hg : W3.grownBy W4 (some g2) := Draw.grown_trans (Draw.grown_alloc W3 _ _) hgrow
      have hr4 := lies_rowD (z := fun j => gofF (d' j)) hown (by show gofF x = gofF (d' k); rw [hd2])
      have hne4 : g3 ≠ g4 := by
        rcases hat with h | h
        · have h : g2 = g4 := Option.some.inj h
          omega
        · omega
      clear R2 hown hgrow hat
      have R2 := Lib.hid hr4
      replace C := Lib.hid (grown_any C.out hg (by omega))
      replace H := Lib.hid (H.out.grownN hg (by omega) (by omega))
      replace R1 := Lib.hid (R1.out.kept hg (by intro e; have e := Option.some.inj e; omega))
      clear hg
      clear hr4
      go_wp2
      go_roundw
      case rel => exact ⟨k + 1, g3, c3, g4, c4, q + 1, d', by omega, rfl, rfl, by go_num, R1.out, R2.out, hne4, HD'.out, by omega, by omega, H.out, C.out⟩
      case measure => simp [intOf]; omega
    · obtain rfl : k = nm := by omega
      have D := Lib.hid hr1; have E := Lib.hid hr2
      have G5 := Lib.hid hgc
      have hg := hgc
      have hr := hrd
      clear hr1 hr2 hgc hrd hd
      replace H := Lib.hid hr
      replace G := Lib.hid (grown_any G.out hg (by omega))
      replace R := Lib.hid (R.out.kept hg (by intro e; have e := Option.some.inj e; omega))
      replace I1 := Lib.hid (I1.out.kept hg (by omega))
      replace I2 := Lib.hid (I2.out.kept hg (by omega))
      replace O := Lib.hid (O.out.kept hg (fun g e => by have e := Option.some.inj e; omega))
      replace K := Lib.hid (K.out.kept hg (by intro e; have e := Option.some.inj e; omega))
      replace M := Lib.hid (M.out.kept hg (by omega))
      clear hg
      clear hr
      have hpd := D.out.lt
      have kc0 : World.cell? _ ⟨kb, 0, none⟩ = some (.int .i64 (need : Int)) := K.out.cell 0
      have kc1 : World.cell? _ ⟨kb, 1, none⟩ = some (.int .i64 (many : Int)) := K.out.cell 1
      have kc2 : World.cell? _ ⟨kb, 2, none⟩ = some (.slice ag ng cg) := K.out.cell 2
      have kc3 : World.cell? _ ⟨kb, 3, none⟩ = some (.slice ac nc cc) := K.out.cell 3
      have hwr := G5.out.size
      go_wp2_with fail
      refine (s32new _ need many _ ng _ zg _ nc _ zc msg _ k _ zm _ k _ (fun j => gofF (d j)) I1.out.i I2.out.i (ints_sl I1.out.i) (ints_sl I2.out.i) M.out.i E.out.ints (by omega) (by omega) (by omega)).mono ?_
      rintro e w6 hsn
      clear kc0 kc1 kc2 kc3
      unfold SesN at hsn
      cases hts : tsF (need : Int) many ng zg nc zc msg k (nwS zm fun j => gofF (d j)) with
      | false =>
        rw [if_neg (by rintro ⟨_, h⟩; rw [hts] at h; cases h)] at hsn
        obtain ⟨rfl, hg⟩ := hsn
        clear hts
        replace G := Lib.hid (gtr' G.out (Draw.grown_some hg))
        replace R := Lib.hid (R.out.keptN hg)
        replace I1 := Lib.hid (I1.out.keptN hg)
        replace I2 := Lib.hid (I2.out.keptN hg)
        replace O := Lib.hid (O.out.kept hg (fun g e => by cases e))
        replace K := Lib.hid (K.out.keptN hg)
        replace M := Lib.hid (M.out.keptN hg)
        replace H := Lib.hid (H.out.gN hg)
        replace D := Lib.hid (D.out.keptN hg)
        replace E := Lib.hid (E.out.keptN hg)
        clear hg
        have hg := Draw.grown_alloc w6 (.cells #[.int .i64 0, .int .i64 0, .slice none 0 0, .slice none 0 0, .int .i64 0, .slice none 0 0] 30) none
        replace G := Lib.hid (gtr' G.out (Draw.grown_some hg))
        replace R := Lib.hid (R.out.keptN hg)
        replace I1 := Lib.hid (I1.out.keptN hg)
        replace I2 := Lib.hid (I2.out.keptN hg)
        replace O := Lib.hid (O.out.kept hg (fun g e => by cases e))
        replace K := Lib.hid (K.out.keptN hg)
        replace M := Lib.hid (M.out.keptN hg)
        replace H := Lib.hid (H.out.gN hg)
        replace D := Lib.hid (D.out.keptN hg)
        replace E := Lib.hid (E.out.keptN hg)
        clear hg
        go_wp2_with (first
          | (refine wpList_store_blk rfl 30 (.tmp 2) (.tmp 59) _ _ _ 30 R.out rfl rfl rfl rfl (by kernel_rfl) (by simp [Value.oneCell']) rfl ?_; intro V hgV hRV; have HGV := Lib.hid hgV; have HRV := Lib.hid hRV; clear hgV hRV))
        (try simp only [Exit.inBlock, Exit.then])
        refine bodyPost_ret (ret_ses rfl _ rfl HRV.out) rfl ?_
        exact ⟨0, 0, none, 0, 0, zg, none, 0, 0, zg, 0, none, 0, 0, nwS zg zg, rfl, ⟨rfl, .inl ⟨rfl, rfl⟩⟩, ⟨rfl, .inl ⟨rfl, rfl⟩⟩, ⟨rfl, .inl ⟨rfl, rfl⟩⟩, by omega, grown_any G.out HGV.out (by omega), q, by omega, by omega, H.out.grownN HGV.out (by omega) (by omega)⟩
      | true =>
        rw [if_pos ⟨rfl, hts⟩] at hsn
        obtain ⟨b1, c1', b2, c2', a3, c3, rfl, hi1, hi2, hO3, hg⟩ := hsn
        have H6S := Lib.hid hg.size
        have J1 := Lib.hid (show OE w6 w5.heap.size (some ⟨b1, 0, none⟩) ng c1' zg from OI.lower hi1 hwr)
        have J2 := Lib.hid (show OE w6 w5.heap.size (some ⟨b2, 0, none⟩) nc c2' zc from OI.lower hi2 hwr)
        have O3 := Lib.hid (hO3.lower hwr)
        have HTS := Lib.hid hts
        clear hts hi1 hi2 hO3
        clear E
        replace G := Lib.hid (gtr' G.out (Draw.grown_some hg))
        replace R := Lib.hid (R.out.keptN hg)
        replace I1 := Lib.hid (I1.out.keptN hg)
        replace I2 := Lib.hid (I2.out.keptN hg)
        replace O := Lib.hid (O.out.kept hg (fun g e => by cases e))
        replace K := Lib.hid (K.out.keptN hg)
        replace M := Lib.hid (M.out.keptN hg)
        replace H := Lib.hid (H.out.gN hg)
        replace D := Lib.hid (D.out.keptN hg)
        clear hg
        go_wp2_with fail
        have hw6 : w5.heap.size ≤ w6.heap.size := Nat.le_trans hwr H6S.out
        have K6 := K; have M6 := M; have O6 := O; have D6 := D; have R6 := R; have G6 := G; have A6 := I1; have B6 := I2
        have hg := Draw.grown_alloc w6 (.cells #[.int .i64 need, .int .i64 many, .slice (some ⟨b1, 0, none⟩) ng c1', .slice (some ⟨b2, 0, none⟩) nc c2', .int .i64 msg, .slice a3 k c3] 30) none
        have Bk := Lib.hid (Blk.new w6 #[.int .i64 need, .int .i64 many, .slice (some ⟨b1, 0, none⟩) ng c1', .slice (some ⟨b2, 0, none⟩) nc c2', .int .i64 msg, .slice a3 k c3] 30)
        have C := Lib.hid (grown_refl w6 (some B))
        replace J1 := Lib.hid (J1.out.kept hg (fun g e => by cases e))
        replace J2 := Lib.hid (J2.out.kept hg (fun g e => by cases e))
        replace O3 := Lib.hid (O3.out.kept hg (fun g e => by cases e))
        replace H := Lib.hid (H.out.gN hg)
        replace C := Lib.hid (gtr' C.out (Draw.grown_some hg))
        clear hg
        refine (pick_any _ _ _ a len cap q 2 H.out (by omega) (by omega)).mono ?_
        rintro e w7 ⟨xw, xw0, xw1, rfl, hr, hg, hs⟩
        replace H := Lib.hid hr
        replace J1 := Lib.hid (J1.out.kept hg (fun g e => by have e := Option.some.inj e; omega))
        replace J2 := Lib.hid (J2.out.kept hg (fun g e => by have e := Option.some.inj e; omega))
        replace O3 := Lib.hid (O3.out.kept hg (fun g e => by have e := Option.some.inj e; omega))
        replace C := Lib.hid (grown_any C.out hg (by omega))
        replace Bk := Lib.hid (Bk.out.kept hg (by intro e; have e := Option.some.inj e; omega))
        clear hg
        clear hr
        clear hs
        have HMM := Lib.hid (show ∀ t, t < k → (nwS zm (fun j => gofF (d j)) t).m = zm t from fun t _ => rfl)
        generalize nwS zm (fun j => gofF (d j)) = S0 at *
        generalize hsbe : w6.heap.size = sb at *
        clear K M O D R G I1 I2 hne hf2 hpd
        go_wp2
        go_loopw [13] (fun i W => ∃ (j q' b1 c1 b2 c2 c3 : Nat) (a3 : Option Addr) (S : Nat → SV), j ≤ k ∧ i = .int .i64 j ∧ Blk W sb #[.int .i64 need, .int .i64 many, .slice (some ⟨b1, 0, none⟩) ng c1, .slice (some ⟨b2, 0, none⟩) nc c2, .int .i64 msg, .slice a3 k c3] 30 ∧ OE W w5.heap.size (some ⟨b1, 0, none⟩) ng c1 zg ∧ OE W w5.heap.size (some ⟨b2, 0, none⟩) nc c2 zc ∧ OwnSh W w5.heap.size (.slice a3 k c3) k S ∧ tsF need many ng zg nc zc msg k S = true ∧ (∀ t, t < k → (S t).m = zm t) ∧ q + 1 ≤ q' ∧ q' ≤ q + 1 + 3 * j ∧ Rd W base B a len cap q' ∧ w6.grownBy W (some B)) (fun i _ => k - (intOf i).toNat)
        case atStart => exact ⟨0, q + 1, b1, c1', b2, c2', c3, a3, S0, by omega, rfl, Bk.out, J1.out, J2.out, O3.out, HTS.out, HMM.out, by omega, by omega, H.out, C.out⟩
        case round =>
          clear Bk J1 J2 O3 HTS HMM H C
          obtain ⟨j, q', b1, c1, b2, c2, c3, a3, S, hj, rfl, hbk, hj1, hj2, ho3, hts, hmm, hq2, hq3, hrd, hgc⟩ := hrel
          obtain ⟨W1, hW⟩ : ∃ W, W = wr := ⟨_, rfl⟩; subst hW
          have Bk := Lib.hid hbk; have J1 := Lib.hid hj1; have J2 := Lib.hid hj2; have O3 := Lib.hid ho3; have HTS := Lib.hid hts; have HMM := Lib.hid hmm; have H := Lib.hid hrd; have C := Lib.hid hgc
          clear hbk hj1 hj2 ho3 hts hmm hrd
          by_cases hlt : j < k
          · have hg := hgc
            clear hgc R6 G6
            replace K6 := Lib.hid (K6.out.kept hg (by intro e; have e := Option.some.inj e; omega))
            replace M6 := Lib.hid (M6.out.kept hg (by omega))
            replace O6 := Lib.hid (O6.out.kept hg (fun g e => by have e := Option.some.inj e; omega))
            replace D6 := Lib.hid (D6.out.kept hg (by intro e; have e := Option.some.inj e; omega))
            replace A6 := Lib.hid (A6.out.kept hg (by omega))
            replace B6 := Lib.hid (B6.out.kept hg (by omega))
            clear hg
            obtain ⟨z0, z1⟩ := HAL.out j hlt
            obtain ⟨y2, hy2⟩ : ∃ y2 : Nat, zm j = (y2 : Int) + 1 := ⟨(zm j - 1).toNat, by omega⟩
            have hy2m : (y2 : Int) < (many : Int) := by omega
            have hy0 : (0 : Int) ≤ (y2 : Int) := by omega
            have hjk : (j : Int) < (k : Int) := by omega
            have hj0 : (0 : Int) ≤ (j : Int) := by omega
            obtain ⟨bm, om, ham, hbm, hmcel⟩ := M6.out.i.ptr (by omega)
            clear hmcel
            subst ham
            cases hwh : (xw == 0) with
            | true =>
              go_wp2_with fail
              obtain ⟨gb', gc', hz, hv3, _, hgs6, hcel⟩ := O6.out.cells hm1
              injection hv3 with e1 _ e3; injection e1 with e1; injection e1 with e1 _; subst e1; subst e3
              obtain ⟨hc0, hc1, hfs⟩ := hcel y2 (by omega)
              clear hcel
              generalize hz y2 = s at *
              have hmc := ints_cell M6.out.i hlt
              rw [hy2] at hmc
              clear hy2
              have HO := Lib.hid (show ∀ V, (W1).grownBy V none → V.cell? ⟨gb, y2 * 2, none⟩ = some (.int .i64 ((y2 : Int) + 1)) ∧ V.cell? ⟨gb, y2 * 2 + 1, none⟩ = some (.int .i64 s) ∧ V.cell? ⟨bm, om + j, none⟩ = some (.int .i64 ((y2 : Int) + 1)) from fun V hg => ⟨(World.cell?_of_block (hg.block gb hgs6 (by simp))).trans hc0, (World.cell?_of_block (hg.block gb hgs6 (by simp))).trans hc1, (World.cell?_of_block (hg.block bm (ints_lt M6.out.i (by omega)) (by simp))).trans hmc⟩)
              clear hc0 hc1 hfs hmc
              have hwm : IntKind.i64.wrap (y2 : Int) = (y2 : Int) := by rw [IntKind.wrap_i64]; omega
              have Z := Lib.hid (grown_refl W1 none)
              refine wp_region_held_drew (S := (fun w' => (w'.cell? ⟨kb, 0, none⟩ = some (.int .i64 (need : Int)) ∧ w'.cell? ⟨kb, 1, none⟩ = some (.int .i64 (many : Int)) ∧ w'.cell? ⟨kb, 2, none⟩ = some (.slice ag ng cg) ∧ w'.cell? ⟨kb, 3, none⟩ = some (.slice ac nc cc)) ∧ w'.cell? ⟨gb, y2 * 2, none⟩ = some (.int .i64 ((y2 : Int) + 1)) ∧ w'.cell? ⟨gb, y2 * 2 + 1, none⟩ = some (.int .i64 s) ∧ w'.cell? ⟨bm, om + j, none⟩ = some (.int .i64 ((y2 : Int) + 1)) ∧ (w'.cell? ⟨sb, 0, none⟩ = some (.int .i64 (need : Int)) ∧ w'.cell? ⟨sb, 1, none⟩ = some (.int .i64 (many : Int)) ∧ w'.cell? ⟨sb, 2, none⟩ = some (.slice (some ⟨b1, 0, none⟩) ng c1) ∧ w'.cell? ⟨sb, 3, none⟩ = some (.slice (some ⟨b2, 0, none⟩) nc c2) ∧ w'.cell? ⟨sb, 4, none⟩ = some (.int .i64 msg) ∧ w'.cell? ⟨sb, 5, none⟩ = some (.slice a3 k c3)) ∧ w'.cell? ⟨g1, j, none⟩ = some (.int .i64 (d j)))) (by kernel_rfl) (⟨⟨K6.out.cell 0, K6.out.cell 1, K6.out.cell 2, K6.out.cell 3⟩, (HO.out _ Z.out).1, (HO.out _ Z.out).2.1, (HO.out _ Z.out).2.2, ⟨Bk.out.cell 0, Bk.out.cell 1, Bk.out.cell 2, Bk.out.cell 3, Bk.out.cell 4, Bk.out.cell 5⟩, D6.out.cell hlt⟩) (fun hHeld => ?_)
              have hg := Draw.gdrew W1
              replace K6 := Lib.hid (K6.out.keptN hg)
              replace M6 := Lib.hid (M6.out.keptN hg)
              replace O6 := Lib.hid (O6.out.kept hg (fun g e => by cases e))
              replace D6 := Lib.hid (D6.out.keptN hg)
              replace A6 := Lib.hid (A6.out.keptN hg)
              replace B6 := Lib.hid (B6.out.keptN hg)
              replace Bk := Lib.hid (Bk.out.keptN hg)
              replace J1 := Lib.hid (J1.out.kept hg (fun g e => by cases e))
              replace J2 := Lib.hid (J2.out.kept hg (fun g e => by cases e))
              replace O3 := Lib.hid (O3.out.kept hg (fun g e => by cases e))
              replace H := Lib.hid (H.out.gN hg)
              replace C := Lib.hid (gtr' C.out (Draw.grown_some hg))
              replace Z := Lib.hid (gtr Z.out hg)
              clear hg
              generalize (W1).drew = V7 at *
              refine wpAnyH_take (i := 0) (oi := ⟨some 77, _, _, _, _, _⟩) (v := ?_) rfl (by kernel_rfl) (by kernel_rfl) (by kernel_rfl) (fun _ _ _ h => h) (Or.inl ⟨by rfl, ?_⟩) (by assumption) ?_
              rotate_left
              · intro w hSw; (try dsimp only at hSw); go_simp; try with_reducible rfl
              simp only [Act.put, List.setIfInBounds_toArray, List.set_cons_zero, List.set_cons_succ]
              refine wpAnyH_take (i := 1) (oi := ⟨some 78, _, _, _, _, _⟩) (v := ?_) rfl (by kernel_rfl) (by kernel_rfl) (by kernel_rfl) (fun _ _ _ h => h) (Or.inl ⟨by rfl, ?_⟩) (by assumption) ?_
              rotate_left
              · intro w hSw; (try dsimp only at hSw); go_simp; try with_reducible rfl
              simp only [Act.put, List.setIfInBounds_toArray, List.set_cons_zero, List.set_cons_succ]
              refine wpAnyH_take (i := 2) (oi := ⟨some 79, _, _, _, _, _⟩) (v := ?_) rfl (by kernel_rfl) (by kernel_rfl) (by kernel_rfl) (fun _ _ _ h => h) (Or.inl ⟨by rfl, ?_⟩) (by assumption) ?_
              rotate_left
              · intro w hSw; (try dsimp only at hSw); go_simp; try with_reducible rfl
              simp only [Act.put, List.setIfInBounds_toArray, List.set_cons_zero, List.set_cons_succ]
              refine wpAnyH_take (i := 3) (oi := ⟨some 80, _, _, _, _, _⟩) (v := ?_) rfl (by kernel_rfl) (by kernel_rfl) (by kernel_rfl) (fun _ _ _ h => h) (Or.inl ⟨by rfl, ?_⟩) (by assumption) ?_
              rotate_left
              · intro w hSw; (try dsimp only at hSw); go_simp; try with_reducible rfl
              simp only [Act.put, List.setIfInBounds_toArray, List.set_cons_zero, List.set_cons_succ]
              refine wpAnyH_take (i := 4) (oi := ⟨some 81, _, _, _, _, _⟩) (v := ?_) rfl (by kernel_rfl) (by kernel_rfl) (by kernel_rfl) (fun _ _ _ h => h) (Or.inl ⟨by rfl, ?_⟩) (by assumption) ?_
              rotate_left
              · intro w hSw; (try dsimp only at hSw); go_simp; try with_reducible rfl
              simp only [Act.put, List.setIfInBounds_toArray, List.set_cons_zero, List.set_cons_succ]
              refine wpAnyH_take (i := 5) (oi := ⟨some 82, _, _, _, _, _⟩) (v := ?_) rfl (by kernel_rfl) (by kernel_rfl) (by kernel_rfl) (fun _ _ _ h => h) (Or.inl ⟨by rfl, ?_⟩) (by assumption) ?_
              rotate_left
              · intro w hSw; (try dsimp only at hSw); go_simp; try with_reducible rfl
              simp only [Act.put, List.setIfInBounds_toArray, List.set_cons_zero, List.set_cons_succ]
              refine wpAnyH_take (i := 6) (oi := ⟨some 83, _, _, _, _, _⟩) (v := ?_) rfl (by kernel_rfl) (by kernel_rfl) (by kernel_rfl) (fun _ _ _ h => h) (Or.inl ⟨by rfl, ?_⟩) (by assumption) ?_
              rotate_left
              · intro w hSw; (try dsimp only at hSw); go_simp; try with_reducible rfl
              simp only [Act.put, List.setIfInBounds_toArray, List.set_cons_zero, List.set_cons_succ]
              refine wpAnyH_take (i := 7) (oi := ⟨some 84, _, _, _, _, _⟩) (v := ?_) rfl (by kernel_rfl) (by kernel_rfl) (by kernel_rfl) (fun _ _ _ h => h) (Or.inl ⟨by rfl, ?_⟩) (by assumption) ?_
              rotate_left
              · intro w hSw; (try dsimp only at hSw); go_simp; try with_reducible rfl
              simp only [Act.put, List.setIfInBounds_toArray, List.set_cons_zero, List.set_cons_succ]
              refine wpAnyH_take (i := 8) (oi := ⟨some 85, _, _, _, _, _⟩) (v := ?_) rfl (by kernel_rfl) (by kernel_rfl) (by kernel_rfl) (fun _ _ _ h => h) (Or.inl ⟨by rfl, ?_⟩) (by assumption) ?_
              rotate_left
              · intro w hSw; (try dsimp only at hSw); go_simp; try with_reducible rfl
              simp only [Act.put, List.setIfInBounds_toArray, List.set_cons_zero, List.set_cons_succ]
              refine wpAnyH_take (i := 9) (oi := ⟨some 86, _, _, _, _, _⟩) (v := ?_) rfl (by kernel_rfl) (by kernel_rfl) (by kernel_rfl) (fun _ _ _ h => h) (Or.inl ⟨by rfl, ?_⟩) (by assumption) ?_
              rotate_left
              · intro w hSw; (try dsimp only at hSw); go_simp; try with_reducible rfl
              simp only [Act.put, List.setIfInBounds_toArray, List.set_cons_zero, List.set_cons_succ]
              refine wpAnyH_take (i := 10) (oi := ⟨some 87, _, _, _, _, _⟩) (v := ?_) rfl (by kernel_rfl) (by kernel_rfl) (by kernel_rfl) (fun _ _ _ h => h) (Or.inl ⟨by rfl, ?_⟩) (by assumption) ?_
              rotate_left
              · intro w hSw; (try dsimp only at hSw); go_simp; try with_reducible rfl
              simp only [Act.put, List.setIfInBounds_toArray, List.set_cons_zero, List.set_cons_succ]
              refine wpAnyH_take (i := 12) (oi := ⟨some 89, _, _, _, _, _⟩) (v := ?_) rfl (by kernel_rfl) (by kernel_rfl) (by kernel_rfl) (fun _ _ _ h => h) (Or.inl ⟨by rfl, ?_⟩) (by assumption) ?_
              rotate_left
              · intro w hSw; (try dsimp only at hSw); go_simp; try with_reducible rfl
              simp only [Act.put, List.setIfInBounds_toArray, List.set_cons_zero, List.set_cons_succ]
              refine wpAnyH_take (i := 13) (oi := ⟨some 90, _, _, _, _, _⟩) (v := ?_) rfl (by kernel_rfl) (by kernel_rfl) (by kernel_rfl) (fun _ _ _ h => h) (Or.inl ⟨by rfl, ?_⟩) (by assumption) ?_
              rotate_left
              · intro w hSw; (try dsimp only at hSw); go_simp; try with_reducible rfl
              simp only [Act.put, List.setIfInBounds_toArray, List.set_cons_zero, List.set_cons_succ]
              refine wpAnyH_take (i := 14) (oi := ⟨some 91, _, _, _, _, _⟩) (v := ?_) rfl (by kernel_rfl) (by kernel_rfl) (by kernel_rfl) (fun _ _ _ h => h) (Or.inl ⟨by rfl, ?_⟩) (by assumption) ?_
              rotate_left
              · intro w hSw; (try dsimp only at hSw); go_simp; try with_reducible rfl
              simp only [Act.put, List.setIfInBounds_toArray, List.set_cons_zero, List.set_cons_succ]
              refine wpAnyH_take (i := 15) (oi := ⟨some 92, _, _, _, _, _⟩) (v := ?_) rfl (by kernel_rfl) (by kernel_rfl) (by kernel_rfl) (fun _ _ _ h => h) (Or.inl ⟨by rfl, ?_⟩) (by assumption) ?_
              rotate_left
              · intro w hSw; (try dsimp only at hSw); go_simp; try with_reducible rfl
              simp only [Act.put, List.setIfInBounds_toArray, List.set_cons_zero, List.set_cons_succ]
              refine wpAnyH_take (i := 16) (oi := ⟨some 93, _, _, _, _, _⟩) (v := ?_) rfl (by kernel_rfl) (by kernel_rfl) (by kernel_rfl) (fun _ _ _ h => h) (Or.inl ⟨by rfl, ?_⟩) (by assumption) ?_
              rotate_left
              · intro w hSw; (try dsimp only at hSw); go_simp; try with_reducible rfl
              simp only [Act.put, List.setIfInBounds_toArray, List.set_cons_zero, List.set_cons_succ]
              refine wpAnyH_ready (rs := [11]) (by kernel_rfl) (by simp) ?_
              refine AllReadyH.cons (o := ⟨some 88, _, _, _, _, _⟩) rfl (fun Kq hKq => ?_) AllReadyH.nil
              go_simp
              go_at_call 62
              refine (s32R _ need many _ ng _ zg _ nc _ zc msg _ k _ S (sh_own O3.out) (by omega) (so_R HTS.out)).mono ?_
              rintro e V8 ⟨rfl, hg⟩
              replace K6 := Lib.hid (K6.out.keptN hg)
              replace M6 := Lib.hid (M6.out.keptN hg)
              replace O6 := Lib.hid (O6.out.kept hg (fun g e => by cases e))
              replace D6 := Lib.hid (D6.out.keptN hg)
              replace A6 := Lib.hid (A6.out.keptN hg)
              replace B6 := Lib.hid (B6.out.keptN hg)
              replace Bk := Lib.hid (Bk.out.keptN hg)
              replace J1 := Lib.hid (J1.out.kept hg (fun g e => by cases e))
              replace J2 := Lib.hid (J2.out.kept hg (fun g e => by cases e))
              replace O3 := Lib.hid (O3.out.kept hg (fun g e => by cases e))
              replace H := Lib.hid (H.out.gN hg)
              replace C := Lib.hid (gtr' C.out (Draw.grown_some hg))
              replace Z := Lib.hid (gtr Z.out hg)
              clear hg
              refine hKq.out _ _ (⟨⟨K6.out.cell 0, K6.out.cell 1, K6.out.cell 2, K6.out.cell 3⟩, (HO.out _ Z.out).1, (HO.out _ Z.out).2.1, (HO.out _ Z.out).2.2, ⟨Bk.out.cell 0, Bk.out.cell 1, Bk.out.cell 2, Bk.out.cell 3, Bk.out.cell 4, Bk.out.cell 5⟩, D6.out.cell hlt⟩) (fun hHeld => ?_)
              clear hKq Kq
              refine wpAnyH_ready (rs := [17]) (by kernel_rfl) (by simp) ?_
              refine AllReadyH.cons (o := ⟨some 94, _, _, _, _, _⟩) rfl (fun Kq hKq => ?_) AllReadyH.nil
              go_simp
              go_at_call 80
              refine (spart _ need many _ ng _ zg _ nc _ zc _ k _ zm ((y2 : Int) + 1) s (rP S k) msg (d j) A6.out.i B6.out.i M6.out.i (by omega) (by omega) (by omega)).mono ?_
              rintro e V9 ⟨rfl, hg⟩
              unfold spV
              replace K6 := Lib.hid (K6.out.keptN hg)
              replace M6 := Lib.hid (M6.out.keptN hg)
              replace O6 := Lib.hid (O6.out.kept hg (fun g e => by cases e))
              replace D6 := Lib.hid (D6.out.keptN hg)
              replace A6 := Lib.hid (A6.out.keptN hg)
              replace B6 := Lib.hid (B6.out.keptN hg)
              replace Bk := Lib.hid (Bk.out.keptN hg)
              replace J1 := Lib.hid (J1.out.kept hg (fun g e => by cases e))
              replace J2 := Lib.hid (J2.out.kept hg (fun g e => by cases e))
              replace O3 := Lib.hid (O3.out.kept hg (fun g e => by cases e))
              replace H := Lib.hid (H.out.gN hg)
              replace C := Lib.hid (gtr' C.out (Draw.grown_some hg))
              replace Z := Lib.hid (gtr Z.out hg)
              clear hg
              refine hKq.out _ _ (⟨⟨K6.out.cell 0, K6.out.cell 1, K6.out.cell 2, K6.out.cell 3⟩, (HO.out _ Z.out).1, (HO.out _ Z.out).2.1, (HO.out _ Z.out).2.2, ⟨Bk.out.cell 0, Bk.out.cell 1, Bk.out.cell 2, Bk.out.cell 3, Bk.out.cell 4, Bk.out.cell 5⟩, D6.out.cell hlt⟩) (fun hHeld => ?_)
              clear hKq Kq
              refine wpAnyH_take (i := 18) (oi := ⟨some 76, _, _, _, _, _⟩) (v := ?_) rfl (by kernel_rfl) (by kernel_rfl) (by kernel_rfl) (fun _ _ _ h => h) (Or.inl ⟨by rfl, ?_⟩) (by assumption) ?_
              rotate_left
              · intro w hSw; (try dsimp only at hSw); go_simp; try with_reducible rfl
              simp only [Act.put, List.setIfInBounds_toArray, List.set_cons_zero, List.set_cons_succ]
              refine wpAnyH_take (i := 19) (oi := ⟨some 95, _, _, _, _, _⟩) (v := ?_) rfl (by kernel_rfl) (by kernel_rfl) (by kernel_rfl) (fun _ _ _ h => h) (Or.inl ⟨by rfl, ?_⟩) (by assumption) ?_
              rotate_left
              · intro w hSw; (try dsimp only at hSw); go_simp; try with_reducible rfl
              simp only [Act.put, List.setIfInBounds_toArray, List.set_cons_zero, List.set_cons_succ]
              refine wpAnyH_take (i := 20) (oi := ⟨some 96, _, _, _, _, _⟩) (v := ?_) rfl (by kernel_rfl) (by kernel_rfl) (by kernel_rfl) (fun _ _ _ h => h) (Or.inl ⟨by rfl, ?_⟩) (by assumption) ?_
              rotate_left
              · intro w hSw; (try dsimp only at hSw); go_simp; try with_reducible rfl
              simp only [Act.put, List.setIfInBounds_toArray, List.set_cons_zero, List.set_cons_succ]
              refine wpAnyH_take (i := 21) (oi := ⟨some 14, _, _, _, _, _⟩) (v := ?_) rfl (by kernel_rfl) (by kernel_rfl) (by kernel_rfl) (fun _ _ _ h => h) (Or.inl ⟨by rfl, ?_⟩) (by assumption) ?_
              rotate_left
              · intro w hSw; (try dsimp only at hSw); go_simp; try with_reducible rfl
              simp only [Act.put, List.setIfInBounds_toArray, List.set_cons_zero, List.set_cons_succ]
              refine wpAnyH_take (i := 22) (oi := ⟨some 15, _, _, _, _, _⟩) (v := ?_) rfl (by kernel_rfl) (by kernel_rfl) (by kernel_rfl) (fun _ _ _ h => h) (Or.inl ⟨by rfl, ?_⟩) (by assumption) ?_
              rotate_left
              · intro w hSw; (try dsimp only at hSw); go_simp; try with_reducible rfl
              simp only [Act.put, List.setIfInBounds_toArray, List.set_cons_zero, List.set_cons_succ]
              refine wpAnyH_done (by kernel_rfl) ?_ _
              clear hHeld
              clear K6 O6 D6 A6 B6 Z
              obtain ⟨zz, hzz, hfz⟩ : ∃ zz, spZ need many ng zg nc zc k zm ((y2 : Int) + 1) s (rP S k) msg (d j) = zz ∧ fok zz = true := ⟨_, rfl, spZ_ok⟩
              rw [hzz]
              clear hzz
              go_wp2_with fail
              refine (pick_any _ _ _ a len cap _ 12 H.out (by omega) (by omega)).mono ?_
              rintro e V10 ⟨x5, x50, x51, rfl, hr, hg, hs⟩
              replace H := Lib.hid hr
              replace M6 := Lib.hid (M6.out.kept hg (by omega))
              replace Bk := Lib.hid (Bk.out.kept hg (by intro e; have e := Option.some.inj e; omega))
              replace J1 := Lib.hid (J1.out.kept hg (fun g e => by have e := Option.some.inj e; omega))
              replace J2 := Lib.hid (J2.out.kept hg (fun g e => by have e := Option.some.inj e; omega))
              replace O3 := Lib.hid (O3.out.kept hg (fun g e => by have e := Option.some.inj e; omega))
              replace C := Lib.hid (grown_any C.out hg (by omega))
              clear hg
              clear hr
              clear hs
              rcases (by omega : x5 = 0 ∨ 1 ≤ x5) with rfl | hx5
              · skip
                go_wp2_with fail
                refine (pick_any _ _ _ a len cap _ 23 H.out (by omega) (by omega)).mono ?_
                rintro e V11 ⟨zq, x60, x61, rfl, hr, hg, hs⟩
                replace H := Lib.hid hr
                replace M6 := Lib.hid (M6.out.kept hg (by omega))
                replace Bk := Lib.hid (Bk.out.kept hg (by intro e; have e := Option.some.inj e; omega))
                replace J1 := Lib.hid (J1.out.kept hg (fun g e => by have e := Option.some.inj e; omega))
                replace J2 := Lib.hid (J2.out.kept hg (fun g e => by have e := Option.some.inj e; omega))
                replace O3 := Lib.hid (O3.out.kept hg (fun g e => by have e := Option.some.inj e; omega))
                replace C := Lib.hid (grown_any C.out hg (by omega))
                clear hg
                clear hr
                clear hs
                have HFZ := Lib.hid (fok_mk x60 (by omega))
                go_wp2_with fail
                refine wp_region_held_drew (S := (fun w' => (w'.cell? ⟨sb, 0, none⟩ = some (.int .i64 (need : Int)) ∧ w'.cell? ⟨sb, 1, none⟩ = some (.int .i64 (many : Int)) ∧ w'.cell? ⟨sb, 2, none⟩ = some (.slice (some ⟨b1, 0, none⟩) ng c1) ∧ w'.cell? ⟨sb, 3, none⟩ = some (.slice (some ⟨b2, 0, none⟩) nc c2) ∧ w'.cell? ⟨sb, 4, none⟩ = some (.int .i64 msg) ∧ w'.cell? ⟨sb, 5, none⟩ = some (.slice a3 k c3)) ∧ w'.cell? ⟨bm, om + j, none⟩ = some (.int .i64 (zm j)))) (by kernel_rfl) (⟨⟨Bk.out.cell 0, Bk.out.cell 1, Bk.out.cell 2, Bk.out.cell 3, Bk.out.cell 4, Bk.out.cell 5⟩, ints_cell M6.out.i hlt⟩) (fun hHeld => ?_)
                have hg := Draw.gdrew V11
                replace M6 := Lib.hid (M6.out.keptN hg)
                replace Bk := Lib.hid (Bk.out.keptN hg)
                replace J1 := Lib.hid (J1.out.kept hg (fun g e => by cases e))
                replace J2 := Lib.hid (J2.out.kept hg (fun g e => by cases e))
                replace O3 := Lib.hid (O3.out.kept hg (fun g e => by cases e))
                replace C := Lib.hid (gtr' C.out (Draw.grown_some hg))
                replace H := Lib.hid (H.out.gN hg)
                clear hg
                generalize (V11).drew = V12 at *
                refine wpAnyH_take (i := 0) (oi := ⟨some 103, _, _, _, _, _⟩) (v := ?_) rfl (by kernel_rfl) (by kernel_rfl) (by kernel_rfl) (fun _ _ _ h => h) (Or.inl ⟨by rfl, ?_⟩) (by assumption) ?_
                rotate_left
                · intro w hSw; (try dsimp only at hSw); go_simp; try with_reducible rfl
                simp only [Act.put, List.setIfInBounds_toArray, List.set_cons_zero, List.set_cons_succ]
                refine wpAnyH_take (i := 1) (oi := ⟨some 104, _, _, _, _, _⟩) (v := ?_) rfl (by kernel_rfl) (by kernel_rfl) (by kernel_rfl) (fun _ _ _ h => h) (Or.inl ⟨by rfl, ?_⟩) (by assumption) ?_
                rotate_left
                · intro w hSw; (try dsimp only at hSw); go_simp; try with_reducible rfl
                simp only [Act.put, List.setIfInBounds_toArray, List.set_cons_zero, List.set_cons_succ]
                refine wpAnyH_take (i := 2) (oi := ⟨some 105, _, _, _, _, _⟩) (v := ?_) rfl (by kernel_rfl) (by kernel_rfl) (by kernel_rfl) (fun _ _ _ h => h) (Or.inl ⟨by rfl, ?_⟩) (by assumption) ?_
                rotate_left
                · intro w hSw; (try dsimp only at hSw); go_simp; try with_reducible rfl
                simp only [Act.put, List.setIfInBounds_toArray, List.set_cons_zero, List.set_cons_succ]
                refine wpAnyH_take (i := 3) (oi := ⟨some 106, _, _, _, _, _⟩) (v := ?_) rfl (by kernel_rfl) (by kernel_rfl) (by kernel_rfl) (fun _ _ _ h => h) (Or.inl ⟨by rfl, ?_⟩) (by assumption) ?_
                rotate_left
                · intro w hSw; (try dsimp only at hSw); go_simp; try with_reducible rfl
                simp only [Act.put, List.setIfInBounds_toArray, List.set_cons_zero, List.set_cons_succ]
                refine wpAnyH_take (i := 4) (oi := ⟨some 107, _, _, _, _, _⟩) (v := ?_) rfl (by kernel_rfl) (by kernel_rfl) (by kernel_rfl) (fun _ _ _ h => h) (Or.inl ⟨by rfl, ?_⟩) (by assumption) ?_
                rotate_left
                · intro w hSw; (try dsimp only at hSw); go_simp; try with_reducible rfl
                simp only [Act.put, List.setIfInBounds_toArray, List.set_cons_zero, List.set_cons_succ]
                refine wpAnyH_take (i := 5) (oi := ⟨some 108, _, _, _, _, _⟩) (v := ?_) rfl (by kernel_rfl) (by kernel_rfl) (by kernel_rfl) (fun _ _ _ h => h) (Or.inl ⟨by rfl, ?_⟩) (by assumption) ?_
                rotate_left
                · intro w hSw; (try dsimp only at hSw); go_simp; try with_reducible rfl
                simp only [Act.put, List.setIfInBounds_toArray, List.set_cons_zero, List.set_cons_succ]
                refine wpAnyH_ready (rs := [6, 10]) (by kernel_rfl) (by simp) ?_
                refine AllReadyH.cons (o := ⟨some 109, _, _, _, _, _⟩) rfl (fun Kq hKq => ?_) (AllReadyH.cons (o := ⟨some 16, _, _, _, _, _⟩) rfl (fun Kq hKq => ?_) AllReadyH.nil)
                · go_simp
                  go_at_call 81
                  refine (s32put _ need many _ ng _ zg _ nc _ zc msg _ k _ S (zm j) zq J1.out.ints J2.out.ints (sh_own O3.out) (ints_sl J1.out.ints) (ints_sl J2.out.ints) (sh_sl (sh_own O3.out)) (by omega) (by omega) (by omega)).mono ?_
                  rintro e V13 hsp
                  obtain ⟨b1', c1', b2', c2', a3', c3', rfl, hi1, hi2, hO3, hg⟩ := sesP_get HTS.out HFZ.out hsp
                  clear hsp
                  have hsz : w5.heap.size ≤ V12.heap.size := by have h9 := C.out.size; omega
                  have N1 := Lib.hid (show OE V13 w5.heap.size (some ⟨b1', 0, none⟩) ng c1' zg from OI.lower hi1 hsz)
                  have N2 := Lib.hid (show OE V13 w5.heap.size (some ⟨b2', 0, none⟩) nc c2' zc from OI.lower hi2 hsz)
                  have N3 := Lib.hid (hO3.lower hsz)
                  clear hi1 hi2 hO3 hsz
                  clear J1 J2 O3
                  replace M6 := Lib.hid (M6.out.keptN hg)
                  replace Bk := Lib.hid (Bk.out.keptN hg)
                  replace C := Lib.hid (gtr' C.out (Draw.grown_some hg))
                  replace H := Lib.hid (H.out.gN hg)
                  clear hg
                  refine hKq.out _ _ (⟨⟨Bk.out.cell 0, Bk.out.cell 1, Bk.out.cell 2, Bk.out.cell 3, Bk.out.cell 4, Bk.out.cell 5⟩, ints_cell M6.out.i hlt⟩) (fun hHeld => ?_)
                  clear hKq Kq
                  refine wpAnyH_take (i := 7) (oi := ⟨some 102, _, _, _, _, _⟩) (v := ?_) rfl (by kernel_rfl) (by kernel_rfl) (by kernel_rfl) (fun _ _ _ h => h) (Or.inl ⟨by rfl, ?_⟩) (by assumption) ?_
                  rotate_left
                  · intro w hSw; (try dsimp only at hSw); go_simp; try with_reducible rfl
                  simp only [Act.put, List.setIfInBounds_toArray, List.set_cons_zero, List.set_cons_succ]
                  refine wpAnyH_take (i := 8) (oi := ⟨some 110, _, _, _, _, _⟩) (v := ?_) rfl (by kernel_rfl) (by kernel_rfl) (by kernel_rfl) (fun _ _ _ h => h) (Or.inl ⟨by rfl, ?_⟩) (by assumption) ?_
                  rotate_left
                  · intro w hSw; (try dsimp only at hSw); go_simp; try with_reducible rfl
                  simp only [Act.put, List.setIfInBounds_toArray, List.set_cons_zero, List.set_cons_succ]
                  refine wpAnyH_take (i := 9) (oi := ⟨some 111, _, _, _, _, _⟩) (v := ?_) rfl (by kernel_rfl) (by kernel_rfl) (by kernel_rfl) (fun _ _ _ h => h) (Or.inl ⟨by rfl, ?_⟩) (by assumption) ?_
                  rotate_left
                  · intro w hSw; (try dsimp only at hSw); go_simp; try with_reducible rfl
                  simp only [Act.put, List.setIfInBounds_toArray, List.set_cons_zero, List.set_cons_succ]
                  refine wpAnyH_ready (rs := [10]) (by kernel_rfl) (by simp) ?_
                  refine AllReadyH.cons (o := ⟨some 16, _, _, _, _, _⟩) rfl (fun Kq hKq => ?_) AllReadyH.nil
                  go_simp
                  refine at_alloc ?_
                  intro Va hg hT
                  have hxb : sb < V13.heap.size := Bk.out.lt
                  have hxw : w6.heap.size ≤ V13.heap.size := C.out.size
                  have hxM : ∀ b off, (some ⟨bm, om, none⟩ : Option Addr) = some ⟨b, off, none⟩ → b < V13.heap.size := fun b off e => by injection e with e; injection e with e _; rw [← e]; exact ints_lt M6.out.i (by omega)
                  have hxm := hxM bm om rfl
                  generalize V13.heap.size = xb at *
                  have X := Lib.hid hT
                  clear hxM hT
                  replace M6 := Lib.hid (M6.out.keptN hg)
                  replace Bk := Lib.hid (Bk.out.keptN hg)
                  replace C := Lib.hid (gtr' C.out (Draw.grown_some hg))
                  replace H := Lib.hid (H.out.gN hg)
                  replace N1 := Lib.hid (N1.out.kept hg (fun g e => by cases e))
                  replace N2 := Lib.hid (N2.out.kept hg (fun g e => by cases e))
                  replace N3 := Lib.hid (N3.out.kept hg (fun g e => by cases e))
                  clear hg
                  refine hKq.out _ _ (⟨⟨Bk.out.cell 0, Bk.out.cell 1, Bk.out.cell 2, Bk.out.cell 3, Bk.out.cell 4, Bk.out.cell 5⟩, ints_cell M6.out.i hlt⟩) (fun hHeld => ?_)
                  clear hKq Kq
                  refine wpAnyH_ready (rs := [11]) (by kernel_rfl) (by simp) ?_
                  refine AllReadyH.cons (o := ⟨none, _, _, _, _, _⟩) rfl (fun Kq hKq => ?_) AllReadyH.nil
                  rw [if_pos (by rfl)]
                  refine wp_store_blk 30 (.tmp 16) (.tmp 110) xb _ _ 30 X.out rfl rfl rfl rfl (by kernel_rfl) (by simp [Value.oneCell']) rfl ?_
                  intro V14 hg hT
                  have N1' := N1.out.keptBlk X.out hg; have N2' := N2.out.keptBlk X.out hg; have N3' := N3.out.keptBlk X.out hg
                  clear X N1 N2 N3
                  have X := Lib.hid hT; have N1 := Lib.hid N1'; have N2 := Lib.hid N2'; have N3 := Lib.hid N3'
                  clear hT N1' N2' N3'
                  replace M6 := Lib.hid (M6.out.kept hg (by omega))
                  replace Bk := Lib.hid (Bk.out.kept hg (by intro e; have e := Option.some.inj e; omega))
                  replace C := Lib.hid (grown_any C.out hg (by omega))
                  replace H := Lib.hid (H.out.grownN hg (by omega) (by omega))
                  clear hg
                  refine hKq.out _ _ (⟨⟨Bk.out.cell 0, Bk.out.cell 1, Bk.out.cell 2, Bk.out.cell 3, Bk.out.cell 4, Bk.out.cell 5⟩, ints_cell M6.out.i hlt⟩) (fun hHeld => ?_)
                  clear hKq Kq
                  refine wpAnyH_take (i := 12) (oi := ⟨some 17, _, _, _, _, _⟩) (v := ?_) rfl (by kernel_rfl) (by kernel_rfl) (by kernel_rfl) (fun _ _ _ h => h) (Or.inl ⟨by rfl, ?_⟩) (by assumption) ?_
                  rotate_left
                  · intro w hSw; (try dsimp only at hSw); go_simp; try with_reducible rfl
                  simp only [Act.put, List.setIfInBounds_toArray, List.set_cons_zero, List.set_cons_succ]
                  refine wpAnyH_done (by kernel_rfl) ?_ _
                  clear hHeld
                  have q := X.out.all6
                  obtain ⟨p0, p1, p2, p3, p4, p5, _, _, _, _, _, _⟩ := q
                  go_wp2_with (refine stop_store rfl ?_)
                  refine ⟨trivial, ?_⟩
                  refine wpList_store_blk rfl 30 (.tmp 10) (.tmp 112) _ _ _ 30 Bk.out rfl rfl rfl rfl (by kernel_rfl) (by simp [Value.oneCell']) rfl ?_
                  intro V15 hg hT
                  clear p0 p1 p2 p3 p4 p5
                  have N1' := Lib.hid (N1.out.keptBlk Bk.out hg); have N2' := Lib.hid (N2.out.keptBlk Bk.out hg); have N3' := Lib.hid (N3.out.keptBlk Bk.out hg)
                  have C' := Lib.hid (grown_any C.out hg (by omega)); have H' := Lib.hid (H.out.grownN hg (by omega) (by omega))
                  go_wp2
                  go_roundw
                  case rel => exact ⟨j + 1, _, b1', c1', b2', c2', c3', a3', ptS S (zm j) k zq, by omega, by go_num, hT, N1'.out, N2'.out, N3'.out, ts_pt HTS.out HFZ.out, fun t ht => (congrFun (mS_pt S (zm j) k zq) t).trans (HMM.out t ht), by omega, by omega, H'.out, C'.out⟩
                  case measure => simp [intOf]; omega
                · go_simp
                  refine at_alloc ?_
                  intro Va hg hT
                  have hxb : sb < V12.heap.size := Bk.out.lt
                  have hxw : w6.heap.size ≤ V12.heap.size := C.out.size
                  have hxM : ∀ b off, (some ⟨bm, om, none⟩ : Option Addr) = some ⟨b, off, none⟩ → b < V12.heap.size := fun b off e => by injection e with e; injection e with e _; rw [← e]; exact ints_lt M6.out.i (by omega)
                  have hxm := hxM bm om rfl
                  generalize V12.heap.size = xb at *
                  have X := Lib.hid hT
                  clear hxM hT
                  replace M6 := Lib.hid (M6.out.keptN hg)
                  replace Bk := Lib.hid (Bk.out.keptN hg)
                  replace J1 := Lib.hid (J1.out.kept hg (fun g e => by cases e))
                  replace J2 := Lib.hid (J2.out.kept hg (fun g e => by cases e))
                  replace O3 := Lib.hid (O3.out.kept hg (fun g e => by cases e))
                  replace C := Lib.hid (gtr' C.out (Draw.grown_some hg))
                  replace H := Lib.hid (H.out.gN hg)
                  clear hg
                  refine hKq.out _ _ (⟨⟨Bk.out.cell 0, Bk.out.cell 1, Bk.out.cell 2, Bk.out.cell 3, Bk.out.cell 4, Bk.out.cell 5⟩, ints_cell M6.out.i hlt⟩) (fun hHeld => ?_)
                  clear hKq Kq
                  refine wpAnyH_ready (rs := [6]) (by kernel_rfl) (by simp) ?_
                  refine AllReadyH.cons (o := ⟨some 109, _, _, _, _, _⟩) rfl (fun Kq hKq => ?_) AllReadyH.nil
                  go_simp
                  go_at_call 81
                  refine (s32put _ need many _ ng _ zg _ nc _ zc msg _ k _ S (zm j) zq J1.out.ints J2.out.ints (sh_own O3.out) (ints_sl J1.out.ints) (ints_sl J2.out.ints) (sh_sl (sh_own O3.out)) (by omega) (by omega) (by omega)).mono ?_
                  rintro e V13 hsp
                  obtain ⟨b1', c1', b2', c2', a3', c3', rfl, hi1, hi2, hO3, hg⟩ := sesP_get HTS.out HFZ.out hsp
                  clear hsp
                  have hsz : w5.heap.size ≤ Va.heap.size := by have h9 := C.out.size; omega
                  have N1 := Lib.hid (show OE V13 w5.heap.size (some ⟨b1', 0, none⟩) ng c1' zg from OI.lower hi1 hsz)
                  have N2 := Lib.hid (show OE V13 w5.heap.size (some ⟨b2', 0, none⟩) nc c2' zc from OI.lower hi2 hsz)
                  have N3 := Lib.hid (hO3.lower hsz)
                  clear hi1 hi2 hO3 hsz
                  clear J1 J2 O3
                  replace M6 := Lib.hid (M6.out.keptN hg)
                  replace Bk := Lib.hid (Bk.out.keptN hg)
                  replace C := Lib.hid (gtr' C.out (Draw.grown_some hg))
                  replace H := Lib.hid (H.out.gN hg)
                  replace X := Lib.hid (X.out.keptN hg)
                  clear hg
                  refine hKq.out _ _ (⟨⟨Bk.out.cell 0, Bk.out.cell 1, Bk.out.cell 2, Bk.out.cell 3, Bk.out.cell 4, Bk.out.cell 5⟩, ints_cell M6.out.i hlt⟩) (fun hHeld => ?_)
                  clear hKq Kq
                  refine wpAnyH_take (i := 7) (oi := ⟨some 102, _, _, _, _, _⟩) (v := ?_) rfl (by kernel_rfl) (by kernel_rfl) (by kernel_rfl) (fun _ _ _ h => h) (Or.inl ⟨by rfl, ?_⟩) (by assumption) ?_
                  rotate_left
                  · intro w hSw; (try dsimp only at hSw); go_simp; try with_reducible rfl
                  simp only [Act.put, List.setIfInBounds_toArray, List.set_cons_zero, List.set_cons_succ]
                  refine wpAnyH_take (i := 8) (oi := ⟨some 110, _, _, _, _, _⟩) (v := ?_) rfl (by kernel_rfl) (by kernel_rfl) (by kernel_rfl) (fun _ _ _ h => h) (Or.inl ⟨by rfl, ?_⟩) (by assumption) ?_
                  rotate_left
                  · intro w hSw; (try dsimp only at hSw); go_simp; try with_reducible rfl
                  simp only [Act.put, List.setIfInBounds_toArray, List.set_cons_zero, List.set_cons_succ]
                  refine wpAnyH_take (i := 9) (oi := ⟨some 111, _, _, _, _, _⟩) (v := ?_) rfl (by kernel_rfl) (by kernel_rfl) (by kernel_rfl) (fun _ _ _ h => h) (Or.inl ⟨by rfl, ?_⟩) (by assumption) ?_
                  rotate_left
                  · intro w hSw; (try dsimp only at hSw); go_simp; try with_reducible rfl
                  simp only [Act.put, List.setIfInBounds_toArray, List.set_cons_zero, List.set_cons_succ]
                  refine wpAnyH_ready (rs := [11]) (by kernel_rfl) (by simp) ?_
                  refine AllReadyH.cons (o := ⟨none, _, _, _, _, _⟩) rfl (fun Kq hKq => ?_) AllReadyH.nil
                  rw [if_pos (by rfl)]
                  refine wp_store_blk 30 (.tmp 16) (.tmp 110) xb _ _ 30 X.out rfl rfl rfl rfl (by kernel_rfl) (by simp [Value.oneCell']) rfl ?_
                  intro V14 hg hT
                  have N1' := N1.out.keptBlk X.out hg; have N2' := N2.out.keptBlk X.out hg; have N3' := N3.out.keptBlk X.out hg
                  clear X N1 N2 N3
                  have X := Lib.hid hT; have N1 := Lib.hid N1'; have N2 := Lib.hid N2'; have N3 := Lib.hid N3'
                  clear hT N1' N2' N3'
                  replace M6 := Lib.hid (M6.out.kept hg (by omega))
                  replace Bk := Lib.hid (Bk.out.kept hg (by intro e; have e := Option.some.inj e; omega))
                  replace C := Lib.hid (grown_any C.out hg (by omega))
                  replace H := Lib.hid (H.out.grownN hg (by omega) (by omega))
                  clear hg
                  refine hKq.out _ _ (⟨⟨Bk.out.cell 0, Bk.out.cell 1, Bk.out.cell 2, Bk.out.cell 3, Bk.out.cell 4, Bk.out.cell 5⟩, ints_cell M6.out.i hlt⟩) (fun hHeld => ?_)
                  clear hKq Kq
                  refine wpAnyH_take (i := 12) (oi := ⟨some 17, _, _, _, _, _⟩) (v := ?_) rfl (by kernel_rfl) (by kernel_rfl) (by kernel_rfl) (fun _ _ _ h => h) (Or.inl ⟨by rfl, ?_⟩) (by assumption) ?_
                  rotate_left
                  · intro w hSw; (try dsimp only at hSw); go_simp; try with_reducible rfl
                  simp only [Act.put, List.setIfInBounds_toArray, List.set_cons_zero, List.set_cons_succ]
                  refine wpAnyH_done (by kernel_rfl) ?_ _
                  clear hHeld
                  have q := X.out.all6
                  obtain ⟨p0, p1, p2, p3, p4, p5, _, _, _, _, _, _⟩ := q
                  go_wp2_with (refine stop_store rfl ?_)
                  refine ⟨trivial, ?_⟩
                  refine wpList_store_blk rfl 30 (.tmp 10) (.tmp 112) _ _ _ 30 Bk.out rfl rfl rfl rfl (by kernel_rfl) (by simp [Value.oneCell']) rfl ?_
                  intro V15 hg hT
                  clear p0 p1 p2 p3 p4 p5
                  have N1' := Lib.hid (N1.out.keptBlk Bk.out hg); have N2' := Lib.hid (N2.out.keptBlk Bk.out hg); have N3' := Lib.hid (N3.out.keptBlk Bk.out hg)
                  have C' := Lib.hid (grown_any C.out hg (by omega)); have H' := Lib.hid (H.out.grownN hg (by omega) (by omega))
                  go_wp2
                  go_roundw
                  case rel => exact ⟨j + 1, _, b1', c1', b2', c2', c3', a3', ptS S (zm j) k zq, by omega, by go_num, hT, N1'.out, N2'.out, N3'.out, ts_pt HTS.out HFZ.out, fun t ht => (congrFun (mS_pt S (zm j) k zq) t).trans (HMM.out t ht), by omega, by omega, H'.out, C'.out⟩
                  case measure => simp [intOf]; omega
              · skip
                have e5 : (x5 == 0) = false := by simp; omega
                have HFZ := Lib.hid hfz
                go_wp2_with fail
                refine wp_region_held_drew (S := (fun w' => (w'.cell? ⟨sb, 0, none⟩ = some (.int .i64 (need : Int)) ∧ w'.cell? ⟨sb, 1, none⟩ = some (.int .i64 (many : Int)) ∧ w'.cell? ⟨sb, 2, none⟩ = some (.slice (some ⟨b1, 0, none⟩) ng c1) ∧ w'.cell? ⟨sb, 3, none⟩ = some (.slice (some ⟨b2, 0, none⟩) nc c2) ∧ w'.cell? ⟨sb, 4, none⟩ = some (.int .i64 msg) ∧ w'.cell? ⟨sb, 5, none⟩ = some (.slice a3 k c3)) ∧ w'.cell? ⟨bm, om + j, none⟩ = some (.int .i64 (zm j)))) (by kernel_rfl) (⟨⟨Bk.out.cell 0, Bk.out.cell 1, Bk.out.cell 2, Bk.out.cell 3, Bk.out.cell 4, Bk.out.cell 5⟩, ints_cell M6.out.i hlt⟩) (fun hHeld => ?_)
                have hg := Draw.gdrew V10
                replace M6 := Lib.hid (M6.out.keptN hg)
                replace Bk := Lib.hid (Bk.out.keptN hg)
                replace J1 := Lib.hid (J1.out.kept hg (fun g e => by cases e))
                replace J2 := Lib.hid (J2.out.kept hg (fun g e => by cases e))
                replace O3 := Lib.hid (O3.out.kept hg (fun g e => by cases e))
                replace C := Lib.hid (gtr' C.out (Draw.grown_some hg))
                replace H := Lib.hid (H.out.gN hg)
                clear hg
                generalize (V10).drew = V12 at *
                refine wpAnyH_take (i := 0) (oi := ⟨some 103, _, _, _, _, _⟩) (v := ?_) rfl (by kernel_rfl) (by kernel_rfl) (by kernel_rfl) (fun _ _ _ h => h) (Or.inl ⟨by rfl, ?_⟩) (by assumption) ?_
                rotate_left
                · intro w hSw; (try dsimp only at hSw); go_simp; try with_reducible rfl
                simp only [Act.put, List.setIfInBounds_toArray, List.set_cons_zero, List.set_cons_succ]
                refine wpAnyH_take (i := 1) (oi := ⟨some 104, _, _, _, _, _⟩) (v := ?_) rfl (by kernel_rfl) (by kernel_rfl) (by kernel_rfl) (fun _ _ _ h => h) (Or.inl ⟨by rfl, ?_⟩) (by assumption) ?_
                rotate_left
                · intro w hSw; (try dsimp only at hSw); go_simp; try with_reducible rfl
                simp only [Act.put, List.setIfInBounds_toArray, List.set_cons_zero, List.set_cons_succ]
                refine wpAnyH_take (i := 2) (oi := ⟨some 105, _, _, _, _, _⟩) (v := ?_) rfl (by kernel_rfl) (by kernel_rfl) (by kernel_rfl) (fun _ _ _ h => h) (Or.inl ⟨by rfl, ?_⟩) (by assumption) ?_
                rotate_left
                · intro w hSw; (try dsimp only at hSw); go_simp; try with_reducible rfl
                simp only [Act.put, List.setIfInBounds_toArray, List.set_cons_zero, List.set_cons_succ]
                refine wpAnyH_take (i := 3) (oi := ⟨some 106, _, _, _, _, _⟩) (v := ?_) rfl (by kernel_rfl) (by kernel_rfl) (by kernel_rfl) (fun _ _ _ h => h) (Or.inl ⟨by rfl, ?_⟩) (by assumption) ?_
                rotate_left
                · intro w hSw; (try dsimp only at hSw); go_simp; try with_reducible rfl
                simp only [Act.put, List.setIfInBounds_toArray, List.set_cons_zero, List.set_cons_succ]
                refine wpAnyH_take (i := 4) (oi := ⟨some 107, _, _, _, _, _⟩) (v := ?_) rfl (by kernel_rfl) (by kernel_rfl) (by kernel_rfl) (fun _ _ _ h => h) (Or.inl ⟨by rfl, ?_⟩) (by assumption) ?_
                rotate_left
                · intro w hSw; (try dsimp only at hSw); go_simp; try with_reducible rfl
                simp only [Act.put, List.setIfInBounds_toArray, List.set_cons_zero, List.set_cons_succ]
                refine wpAnyH_take (i := 5) (oi := ⟨some 108, _, _, _, _, _⟩) (v := ?_) rfl (by kernel_rfl) (by kernel_rfl) (by kernel_rfl) (fun _ _ _ h => h) (Or.inl ⟨by rfl, ?_⟩) (by assumption) ?_
                rotate_left
                · intro w hSw; (try dsimp only at hSw); go_simp; try with_reducible rfl
                simp only [Act.put, List.setIfInBounds_toArray, List.set_cons_zero, List.set_cons_succ]
                refine wpAnyH_ready (rs := [6, 10]) (by kernel_rfl) (by simp) ?_
                refine AllReadyH.cons (o := ⟨some 109, _, _, _, _, _⟩) rfl (fun Kq hKq => ?_) (AllReadyH.cons (o := ⟨some 16, _, _, _, _, _⟩) rfl (fun Kq hKq => ?_) AllReadyH.nil)
                · go_simp
                  go_at_call 81
                  refine (s32put _ need many _ ng _ zg _ nc _ zc msg _ k _ S (zm j) zz J1.out.ints J2.out.ints (sh_own O3.out) (ints_sl J1.out.ints) (ints_sl J2.out.ints) (sh_sl (sh_own O3.out)) (by omega) (by omega) (by omega)).mono ?_
                  rintro e V13 hsp
                  obtain ⟨b1', c1', b2', c2', a3', c3', rfl, hi1, hi2, hO3, hg⟩ := sesP_get HTS.out HFZ.out hsp
                  clear hsp
                  have hsz : w5.heap.size ≤ V12.heap.size := by have h9 := C.out.size; omega
                  have N1 := Lib.hid (show OE V13 w5.heap.size (some ⟨b1', 0, none⟩) ng c1' zg from OI.lower hi1 hsz)
                  have N2 := Lib.hid (show OE V13 w5.heap.size (some ⟨b2', 0, none⟩) nc c2' zc from OI.lower hi2 hsz)
                  have N3 := Lib.hid (hO3.lower hsz)
                  clear hi1 hi2 hO3 hsz
                  clear J1 J2 O3
                  replace M6 := Lib.hid (M6.out.keptN hg)
                  replace Bk := Lib.hid (Bk.out.keptN hg)
                  replace C := Lib.hid (gtr' C.out (Draw.grown_some hg))
                  replace H := Lib.hid (H.out.gN hg)
                  clear hg
                  refine hKq.out _ _ (⟨⟨Bk.out.cell 0, Bk.out.cell 1, Bk.out.cell 2, Bk.out.cell 3, Bk.out.cell 4, Bk.out.cell 5⟩, ints_cell M6.out.i hlt⟩) (fun hHeld => ?_)
                  clear hKq Kq
                  refine wpAnyH_take (i := 7) (oi := ⟨some 102, _, _, _, _, _⟩) (v := ?_) rfl (by kernel_rfl) (by kernel_rfl) (by kernel_rfl) (fun _ _ _ h => h) (Or.inl ⟨by rfl, ?_⟩) (by assumption) ?_
                  rotate_left
                  · intro w hSw; (try dsimp only at hSw); go_simp; try with_reducible rfl
                  simp only [Act.put, List.setIfInBounds_toArray, List.set_cons_zero, List.set_cons_succ]
                  refine wpAnyH_take (i := 8) (oi := ⟨some 110, _, _, _, _, _⟩) (v := ?_) rfl (by kernel_rfl) (by kernel_rfl) (by kernel_rfl) (fun _ _ _ h => h) (Or.inl ⟨by rfl, ?_⟩) (by assumption) ?_
                  rotate_left
                  · intro w hSw; (try dsimp only at hSw); go_simp; try with_reducible rfl
                  simp only [Act.put, List.setIfInBounds_toArray, List.set_cons_zero, List.set_cons_succ]
                  refine wpAnyH_take (i := 9) (oi := ⟨some 111, _, _, _, _, _⟩) (v := ?_) rfl (by kernel_rfl) (by kernel_rfl) (by kernel_rfl) (fun _ _ _ h => h) (Or.inl ⟨by rfl, ?_⟩) (by assumption) ?_
                  rotate_left
                  · intro w hSw; (try dsimp only at hSw); go_simp; try with_reducible rfl
                  simp only [Act.put, List.setIfInBounds_toArray, List.set_cons_zero, List.set_cons_succ]
                  refine wpAnyH_ready (rs := [10]) (by kernel_rfl) (by simp) ?_
                  refine AllReadyH.cons (o := ⟨some 16, _, _, _, _, _⟩) rfl (fun Kq hKq => ?_) AllReadyH.nil
                  go_simp
                  refine at_alloc ?_
                  intro Va hg hT
                  have hxb : sb < V13.heap.size := Bk.out.lt
                  have hxw : w6.heap.size ≤ V13.heap.size := C.out.size
                  have hxM : ∀ b off, (some ⟨bm, om, none⟩ : Option Addr) = some ⟨b, off, none⟩ → b < V13.heap.size := fun b off e => by injection e with e; injection e with e _; rw [← e]; exact ints_lt M6.out.i (by omega)
                  have hxm := hxM bm om rfl
                  generalize V13.heap.size = xb at *
                  have X := Lib.hid hT
                  clear hxM hT
                  replace M6 := Lib.hid (M6.out.keptN hg)
                  replace Bk := Lib.hid (Bk.out.keptN hg)
                  replace C := Lib.hid (gtr' C.out (Draw.grown_some hg))
                  replace H := Lib.hid (H.out.gN hg)
                  replace N1 := Lib.hid (N1.out.kept hg (fun g e => by cases e))
                  replace N2 := Lib.hid (N2.out.kept hg (fun g e => by cases e))
                  replace N3 := Lib.hid (N3.out.kept hg (fun g e => by cases e))
                  clear hg
                  refine hKq.out _ _ (⟨⟨Bk.out.cell 0, Bk.out.cell 1, Bk.out.cell 2, Bk.out.cell 3, Bk.out.cell 4, Bk.out.cell 5⟩, ints_cell M6.out.i hlt⟩) (fun hHeld => ?_)
                  clear hKq Kq
                  refine wpAnyH_ready (rs := [11]) (by kernel_rfl) (by simp) ?_
                  refine AllReadyH.cons (o := ⟨none, _, _, _, _, _⟩) rfl (fun Kq hKq => ?_) AllReadyH.nil
                  rw [if_pos (by rfl)]
                  refine wp_store_blk 30 (.tmp 16) (.tmp 110) xb _ _ 30 X.out rfl rfl rfl rfl (by kernel_rfl) (by simp [Value.oneCell']) rfl ?_
                  intro V14 hg hT
                  have N1' := N1.out.keptBlk X.out hg; have N2' := N2.out.keptBlk X.out hg; have N3' := N3.out.keptBlk X.out hg
                  clear X N1 N2 N3
                  have X := Lib.hid hT; have N1 := Lib.hid N1'; have N2 := Lib.hid N2'; have N3 := Lib.hid N3'
                  clear hT N1' N2' N3'
                  replace M6 := Lib.hid (M6.out.kept hg (by omega))
                  replace Bk := Lib.hid (Bk.out.kept hg (by intro e; have e := Option.some.inj e; omega))
                  replace C := Lib.hid (grown_any C.out hg (by omega))
                  replace H := Lib.hid (H.out.grownN hg (by omega) (by omega))
                  clear hg
                  refine hKq.out _ _ (⟨⟨Bk.out.cell 0, Bk.out.cell 1, Bk.out.cell 2, Bk.out.cell 3, Bk.out.cell 4, Bk.out.cell 5⟩, ints_cell M6.out.i hlt⟩) (fun hHeld => ?_)
                  clear hKq Kq
                  refine wpAnyH_take (i := 12) (oi := ⟨some 17, _, _, _, _, _⟩) (v := ?_) rfl (by kernel_rfl) (by kernel_rfl) (by kernel_rfl) (fun _ _ _ h => h) (Or.inl ⟨by rfl, ?_⟩) (by assumption) ?_
                  rotate_left
                  · intro w hSw; (try dsimp only at hSw); go_simp; try with_reducible rfl
                  simp only [Act.put, List.setIfInBounds_toArray, List.set_cons_zero, List.set_cons_succ]
                  refine wpAnyH_done (by kernel_rfl) ?_ _
                  clear hHeld
                  have q := X.out.all6
                  obtain ⟨p0, p1, p2, p3, p4, p5, _, _, _, _, _, _⟩ := q
                  go_wp2_with (refine stop_store rfl ?_)
                  refine ⟨trivial, ?_⟩
                  refine wpList_store_blk rfl 30 (.tmp 10) (.tmp 112) _ _ _ 30 Bk.out rfl rfl rfl rfl (by kernel_rfl) (by simp [Value.oneCell']) rfl ?_
                  intro V15 hg hT
                  clear p0 p1 p2 p3 p4 p5
                  have N1' := Lib.hid (N1.out.keptBlk Bk.out hg); have N2' := Lib.hid (N2.out.keptBlk Bk.out hg); have N3' := Lib.hid (N3.out.keptBlk Bk.out hg)
                  have C' := Lib.hid (grown_any C.out hg (by omega)); have H' := Lib.hid (H.out.grownN hg (by omega) (by omega))
                  go_wp2
                  go_roundw
                  case rel => exact ⟨j + 1, _, b1', c1', b2', c2', c3', a3', ptS S (zm j) k zz, by omega, by go_num, hT, N1'.out, N2'.out, N3'.out, ts_pt HTS.out HFZ.out, fun t ht => (congrFun (mS_pt S (zm j) k zz) t).trans (HMM.out t ht), by omega, by omega, H'.out, C'.out⟩
                  case measure => simp [intOf]; omega
                · go_simp
                  refine at_alloc ?_
                  intro Va hg hT
                  have hxb : sb < V12.heap.size := Bk.out.lt
                  have hxw : w6.heap.size ≤ V12.heap.size := C.out.size
                  have hxM : ∀ b off, (some ⟨bm, om, none⟩ : Option Addr) = some ⟨b, off, none⟩ → b < V12.heap.size := fun b off e => by injection e with e; injection e with e _; rw [← e]; exact ints_lt M6.out.i (by omega)
                  have hxm := hxM bm om rfl
                  generalize V12.heap.size = xb at *
                  have X := Lib.hid hT
                  clear hxM hT
                  replace M6 := Lib.hid (M6.out.keptN hg)
                  replace Bk := Lib.hid (Bk.out.keptN hg)
                  replace J1 := Lib.hid (J1.out.kept hg (fun g e => by cases e))
                  replace J2 := Lib.hid (J2.out.kept hg (fun g e => by cases e))
                  replace O3 := Lib.hid (O3.out.kept hg (fun g e => by cases e))
                  replace C := Lib.hid (gtr' C.out (Draw.grown_some hg))
                  replace H := Lib.hid (H.out.gN hg)
                  clear hg
                  refine hKq.out _ _ (⟨⟨Bk.out.cell 0, Bk.out.cell 1, Bk.out.cell 2, Bk.out.cell 3, Bk.out.cell 4, Bk.out.cell 5⟩, ints_cell M6.out.i hlt⟩) (fun hHeld => ?_)
                  clear hKq Kq
                  refine wpAnyH_ready (rs := [6]) (by kernel_rfl) (by simp) ?_
                  refine AllReadyH.cons (o := ⟨some 109, _, _, _, _, _⟩) rfl (fun Kq hKq => ?_) AllReadyH.nil
                  go_simp
                  go_at_call 81
                  refine (s32put _ need many _ ng _ zg _ nc _ zc msg _ k _ S (zm j) zz J1.out.ints J2.out.ints (sh_own O3.out) (ints_sl J1.out.ints) (ints_sl J2.out.ints) (sh_sl (sh_own O3.out)) (by omega) (by omega) (by omega)).mono ?_
                  rintro e V13 hsp
                  obtain ⟨b1', c1', b2', c2', a3', c3', rfl, hi1, hi2, hO3, hg⟩ := sesP_get HTS.out HFZ.out hsp
                  clear hsp
                  have hsz : w5.heap.size ≤ Va.heap.size := by have h9 := C.out.size; omega
                  have N1 := Lib.hid (show OE V13 w5.heap.size (some ⟨b1', 0, none⟩) ng c1' zg from OI.lower hi1 hsz)
                  have N2 := Lib.hid (show OE V13 w5.heap.size (some ⟨b2', 0, none⟩) nc c2' zc from OI.lower hi2 hsz)
                  have N3 := Lib.hid (hO3.lower hsz)
                  clear hi1 hi2 hO3 hsz
                  clear J1 J2 O3
                  replace M6 := Lib.hid (M6.out.keptN hg)
                  replace Bk := Lib.hid (Bk.out.keptN hg)
                  replace C := Lib.hid (gtr' C.out (Draw.grown_some hg))
                  replace H := Lib.hid (H.out.gN hg)
                  replace X := Lib.hid (X.out.keptN hg)
                  clear hg
                  refine hKq.out _ _ (⟨⟨Bk.out.cell 0, Bk.out.cell 1, Bk.out.cell 2, Bk.out.cell 3, Bk.out.cell 4, Bk.out.cell 5⟩, ints_cell M6.out.i hlt⟩) (fun hHeld => ?_)
                  clear hKq Kq
                  refine wpAnyH_take (i := 7) (oi := ⟨some 102, _, _, _, _, _⟩) (v := ?_) rfl (by kernel_rfl) (by kernel_rfl) (by kernel_rfl) (fun _ _ _ h => h) (Or.inl ⟨by rfl, ?_⟩) (by assumption) ?_
                  rotate_left
                  · intro w hSw; (try dsimp only at hSw); go_simp; try with_reducible rfl
                  simp only [Act.put, List.setIfInBounds_toArray, List.set_cons_zero, List.set_cons_succ]
                  refine wpAnyH_take (i := 8) (oi := ⟨some 110, _, _, _, _, _⟩) (v := ?_) rfl (by kernel_rfl) (by kernel_rfl) (by kernel_rfl) (fun _ _ _ h => h) (Or.inl ⟨by rfl, ?_⟩) (by assumption) ?_
                  rotate_left
                  · intro w hSw; (try dsimp only at hSw); go_simp; try with_reducible rfl
                  simp only [Act.put, List.setIfInBounds_toArray, List.set_cons_zero, List.set_cons_succ]
                  refine wpAnyH_take (i := 9) (oi := ⟨some 111, _, _, _, _, _⟩) (v := ?_) rfl (by kernel_rfl) (by kernel_rfl) (by kernel_rfl) (fun _ _ _ h => h) (Or.inl ⟨by rfl, ?_⟩) (by assumption) ?_
                  rotate_left
                  · intro w hSw; (try dsimp only at hSw); go_simp; try with_reducible rfl
                  simp only [Act.put, List.setIfInBounds_toArray, List.set_cons_zero, List.set_cons_succ]
                  refine wpAnyH_ready (rs := [11]) (by kernel_rfl) (by simp) ?_
                  refine AllReadyH.cons (o := ⟨none, _, _, _, _, _⟩) rfl (fun Kq hKq => ?_) AllReadyH.nil
                  rw [if_pos (by rfl)]
                  refine wp_store_blk 30 (.tmp 16) (.tmp 110) xb _ _ 30 X.out rfl rfl rfl rfl (by kernel_rfl) (by simp [Value.oneCell']) rfl ?_
                  intro V14 hg hT
                  have N1' := N1.out.keptBlk X.out hg; have N2' := N2.out.keptBlk X.out hg; have N3' := N3.out.keptBlk X.out hg
                  clear X N1 N2 N3
                  have X := Lib.hid hT; have N1 := Lib.hid N1'; have N2 := Lib.hid N2'; have N3 := Lib.hid N3'
                  clear hT N1' N2' N3'
                  replace M6 := Lib.hid (M6.out.kept hg (by omega))
                  replace Bk := Lib.hid (Bk.out.kept hg (by intro e; have e := Option.some.inj e; omega))
                  replace C := Lib.hid (grown_any C.out hg (by omega))
                  replace H := Lib.hid (H.out.grownN hg (by omega) (by omega))
                  clear hg
                  refine hKq.out _ _ (⟨⟨Bk.out.cell 0, Bk.out.cell 1, Bk.out.cell 2, Bk.out.cell 3, Bk.out.cell 4, Bk.out.cell 5⟩, ints_cell M6.out.i hlt⟩) (fun hHeld => ?_)
                  clear hKq Kq
                  refine wpAnyH_take (i := 12) (oi := ⟨some 17, _, _, _, _, _⟩) (v := ?_) rfl (by kernel_rfl) (by kernel_rfl) (by kernel_rfl) (fun _ _ _ h => h) (Or.inl ⟨by rfl, ?_⟩) (by assumption) ?_
                  rotate_left
                  · intro w hSw; (try dsimp only at hSw); go_simp; try with_reducible rfl
                  simp only [Act.put, List.setIfInBounds_toArray, List.set_cons_zero, List.set_cons_succ]
                  refine wpAnyH_done (by kernel_rfl) ?_ _
                  clear hHeld
                  have q := X.out.all6
                  obtain ⟨p0, p1, p2, p3, p4, p5, _, _, _, _, _, _⟩ := q
                  go_wp2_with (refine stop_store rfl ?_)
                  refine ⟨trivial, ?_⟩
                  refine wpList_store_blk rfl 30 (.tmp 10) (.tmp 112) _ _ _ 30 Bk.out rfl rfl rfl rfl (by kernel_rfl) (by simp [Value.oneCell']) rfl ?_
                  intro V15 hg hT
                  clear p0 p1 p2 p3 p4 p5
                  have N1' := Lib.hid (N1.out.keptBlk Bk.out hg); have N2' := Lib.hid (N2.out.keptBlk Bk.out hg); have N3' := Lib.hid (N3.out.keptBlk Bk.out hg)
                  have C' := Lib.hid (grown_any C.out hg (by omega)); have H' := Lib.hid (H.out.grownN hg (by omega) (by omega))
                  go_wp2
                  go_roundw
                  case rel => exact ⟨j + 1, _, b1', c1', b2', c2', c3', a3', ptS S (zm j) k zz, by omega, by go_num, hT, N1'.out, N2'.out, N3'.out, ts_pt HTS.out HFZ.out, fun t ht => (congrFun (mS_pt S (zm j) k zz) t).trans (HMM.out t ht), by omega, by omega, H'.out, C'.out⟩
                  case measure => simp [intOf]; omega
            | false =>
              go_wp2_with fail
              refine (pick_any _ _ _ a len cap q' 4 H.out (by omega) (by omega)).mono ?_
              rintro e W2 ⟨x4, x40, x41, rfl, hr, hg, hs⟩
              replace H := Lib.hid hr
              replace K6 := Lib.hid (K6.out.kept hg (by intro e; have e := Option.some.inj e; omega))
              replace M6 := Lib.hid (M6.out.kept hg (by omega))
              replace O6 := Lib.hid (O6.out.kept hg (fun g e => by have e := Option.some.inj e; omega))
              replace D6 := Lib.hid (D6.out.kept hg (by intro e; have e := Option.some.inj e; omega))
              replace A6 := Lib.hid (A6.out.kept hg (by omega))
              replace B6 := Lib.hid (B6.out.kept hg (by omega))
              replace Bk := Lib.hid (Bk.out.kept hg (by intro e; have e := Option.some.inj e; omega))
              replace J1 := Lib.hid (J1.out.kept hg (fun g e => by have e := Option.some.inj e; omega))
              replace J2 := Lib.hid (J2.out.kept hg (fun g e => by have e := Option.some.inj e; omega))
              replace O3 := Lib.hid (O3.out.kept hg (fun g e => by have e := Option.some.inj e; omega))
              replace C := Lib.hid (grown_any C.out hg (by omega))
              clear hg
              clear hr
              clear hs
              rcases (by omega : x4 = 0 ∨ 1 ≤ x4) with rfl | hx4
              · go_wp2
                go_roundw
                case rel => exact ⟨j + 1, q' + 1, b1, c1, b2, c2, c3, a3, S, by omega, by go_num, Bk.out, J1.out, J2.out, O3.out, HTS.out, HMM.out, by omega, by omega, H.out, C.out⟩
                case measure => simp [intOf]; omega
              · have e4 : (x4 == 0) = false := by simp; omega
                go_wp2_with fail
                obtain ⟨gb', gc', hz, hv3, _, hgs6, hcel⟩ := O6.out.cells hm1
                injection hv3 with e1 _ e3; injection e1 with e1; injection e1 with e1 _; subst e1; subst e3
                obtain ⟨hc0, hc1, hfs⟩ := hcel y2 (by omega)
                clear hcel
                generalize hz y2 = s at *
                have hmc := ints_cell M6.out.i hlt
                rw [hy2] at hmc
                clear hy2
                have HO := Lib.hid (show ∀ V, (W2).grownBy V none → V.cell? ⟨gb, y2 * 2, none⟩ = some (.int .i64 ((y2 : Int) + 1)) ∧ V.cell? ⟨gb, y2 * 2 + 1, none⟩ = some (.int .i64 s) ∧ V.cell? ⟨bm, om + j, none⟩ = some (.int .i64 ((y2 : Int) + 1)) from fun V hg => ⟨(World.cell?_of_block (hg.block gb hgs6 (by simp))).trans hc0, (World.cell?_of_block (hg.block gb hgs6 (by simp))).trans hc1, (World.cell?_of_block (hg.block bm (ints_lt M6.out.i (by omega)) (by simp))).trans hmc⟩)
                clear hc0 hc1 hfs hmc
                have hwm : IntKind.i64.wrap (y2 : Int) = (y2 : Int) := by rw [IntKind.wrap_i64]; omega
                have Z := Lib.hid (grown_refl W2 none)
                refine wp_region_held_drew (S := (fun w' => (w'.cell? ⟨kb, 0, none⟩ = some (.int .i64 (need : Int)) ∧ w'.cell? ⟨kb, 1, none⟩ = some (.int .i64 (many : Int)) ∧ w'.cell? ⟨kb, 2, none⟩ = some (.slice ag ng cg) ∧ w'.cell? ⟨kb, 3, none⟩ = some (.slice ac nc cc)) ∧ w'.cell? ⟨gb, y2 * 2, none⟩ = some (.int .i64 ((y2 : Int) + 1)) ∧ w'.cell? ⟨gb, y2 * 2 + 1, none⟩ = some (.int .i64 s) ∧ w'.cell? ⟨bm, om + j, none⟩ = some (.int .i64 ((y2 : Int) + 1)) ∧ (w'.cell? ⟨sb, 0, none⟩ = some (.int .i64 (need : Int)) ∧ w'.cell? ⟨sb, 1, none⟩ = some (.int .i64 (many : Int)) ∧ w'.cell? ⟨sb, 2, none⟩ = some (.slice (some ⟨b1, 0, none⟩) ng c1) ∧ w'.cell? ⟨sb, 3, none⟩ = some (.slice (some ⟨b2, 0, none⟩) nc c2) ∧ w'.cell? ⟨sb, 4, none⟩ = some (.int .i64 msg) ∧ w'.cell? ⟨sb, 5, none⟩ = some (.slice a3 k c3)) ∧ w'.cell? ⟨g1, j, none⟩ = some (.int .i64 (d j)))) (by kernel_rfl) (⟨⟨K6.out.cell 0, K6.out.cell 1, K6.out.cell 2, K6.out.cell 3⟩, (HO.out _ Z.out).1, (HO.out _ Z.out).2.1, (HO.out _ Z.out).2.2, ⟨Bk.out.cell 0, Bk.out.cell 1, Bk.out.cell 2, Bk.out.cell 3, Bk.out.cell 4, Bk.out.cell 5⟩, D6.out.cell hlt⟩) (fun hHeld => ?_)
                have hg := Draw.gdrew W2
                replace K6 := Lib.hid (K6.out.keptN hg)
                replace M6 := Lib.hid (M6.out.keptN hg)
                replace O6 := Lib.hid (O6.out.kept hg (fun g e => by cases e))
                replace D6 := Lib.hid (D6.out.keptN hg)
                replace A6 := Lib.hid (A6.out.keptN hg)
                replace B6 := Lib.hid (B6.out.keptN hg)
                replace Bk := Lib.hid (Bk.out.keptN hg)
                replace J1 := Lib.hid (J1.out.kept hg (fun g e => by cases e))
                replace J2 := Lib.hid (J2.out.kept hg (fun g e => by cases e))
                replace O3 := Lib.hid (O3.out.kept hg (fun g e => by cases e))
                replace C := Lib.hid (gtr' C.out (Draw.grown_some hg))
                replace H := Lib.hid (H.out.gN hg)
                replace Z := Lib.hid (gtr Z.out hg)
                clear hg
                generalize (W2).drew = V7 at *
                refine wpAnyH_take (i := 0) (oi := ⟨some 77, _, _, _, _, _⟩) (v := ?_) rfl (by kernel_rfl) (by kernel_rfl) (by kernel_rfl) (fun _ _ _ h => h) (Or.inl ⟨by rfl, ?_⟩) (by assumption) ?_
                rotate_left
                · intro w hSw; (try dsimp only at hSw); go_simp; try with_reducible rfl
                simp only [Act.put, List.setIfInBounds_toArray, List.set_cons_zero, List.set_cons_succ]
                refine wpAnyH_take (i := 1) (oi := ⟨some 78, _, _, _, _, _⟩) (v := ?_) rfl (by kernel_rfl) (by kernel_rfl) (by kernel_rfl) (fun _ _ _ h => h) (Or.inl ⟨by rfl, ?_⟩) (by assumption) ?_
                rotate_left
                · intro w hSw; (try dsimp only at hSw); go_simp; try with_reducible rfl
                simp only [Act.put, List.setIfInBounds_toArray, List.set_cons_zero, List.set_cons_succ]
                refine wpAnyH_take (i := 2) (oi := ⟨some 79, _, _, _, _, _⟩) (v := ?_) rfl (by kernel_rfl) (by kernel_rfl) (by kernel_rfl) (fun _ _ _ h => h) (Or.inl ⟨by rfl, ?_⟩) (by assumption) ?_
                rotate_left
                · intro w hSw; (try dsimp only at hSw); go_simp; try with_reducible rfl
                simp only [Act.put, List.setIfInBounds_toArray, List.set_cons_zero, List.set_cons_succ]
                refine wpAnyH_take (i := 3) (oi := ⟨some 80, _, _, _, _, _⟩) (v := ?_) rfl (by kernel_rfl) (by kernel_rfl) (by kernel_rfl) (fun _ _ _ h => h) (Or.inl ⟨by rfl, ?_⟩) (by assumption) ?_
                rotate_left
                · intro w hSw; (try dsimp only at hSw); go_simp; try with_reducible rfl
                simp only [Act.put, List.setIfInBounds_toArray, List.set_cons_zero, List.set_cons_succ]
                refine wpAnyH_take (i := 4) (oi := ⟨some 81, _, _, _, _, _⟩) (v := ?_) rfl (by kernel_rfl) (by kernel_rfl) (by kernel_rfl) (fun _ _ _ h => h) (Or.inl ⟨by rfl, ?_⟩) (by assumption) ?_
                rotate_left
                · intro w hSw; (try dsimp only at hSw); go_simp; try with_reducible rfl
                simp only [Act.put, List.setIfInBounds_toArray, List.set_cons_zero, List.set_cons_succ]
                refine wpAnyH_take (i := 5) (oi := ⟨some 82, _, _, _, _, _⟩) (v := ?_) rfl (by kernel_rfl) (by kernel_rfl) (by kernel_rfl) (fun _ _ _ h => h) (Or.inl ⟨by rfl, ?_⟩) (by assumption) ?_
                rotate_left
                · intro w hSw; (try dsimp only at hSw); go_simp; try with_reducible rfl
                simp only [Act.put, List.setIfInBounds_toArray, List.set_cons_zero, List.set_cons_succ]
                refine wpAnyH_take (i := 6) (oi := ⟨some 83, _, _, _, _, _⟩) (v := ?_) rfl (by kernel_rfl) (by kernel_rfl) (by kernel_rfl) (fun _ _ _ h => h) (Or.inl ⟨by rfl, ?_⟩) (by assumption) ?_
                rotate_left
                · intro w hSw; (try dsimp only at hSw); go_simp; try with_reducible rfl
                simp only [Act.put, List.setIfInBounds_toArray, List.set_cons_zero, List.set_cons_succ]
                refine wpAnyH_take (i := 7) (oi := ⟨some 84, _, _, _, _, _⟩) (v := ?_) rfl (by kernel_rfl) (by kernel_rfl) (by kernel_rfl) (fun _ _ _ h => h) (Or.inl ⟨by rfl, ?_⟩) (by assumption) ?_
                rotate_left
                · intro w hSw; (try dsimp only at hSw); go_simp; try with_reducible rfl
                simp only [Act.put, List.setIfInBounds_toArray, List.set_cons_zero, List.set_cons_succ]
                refine wpAnyH_take (i := 8) (oi := ⟨some 85, _, _, _, _, _⟩) (v := ?_) rfl (by kernel_rfl) (by kernel_rfl) (by kernel_rfl) (fun _ _ _ h => h) (Or.inl ⟨by rfl, ?_⟩) (by assumption) ?_
                rotate_left
                · intro w hSw; (try dsimp only at hSw); go_simp; try with_reducible rfl
                simp only [Act.put, List.setIfInBounds_toArray, List.set_cons_zero, List.set_cons_succ]
                refine wpAnyH_take (i := 9) (oi := ⟨some 86, _, _, _, _, _⟩) (v := ?_) rfl (by kernel_rfl) (by kernel_rfl) (by kernel_rfl) (fun _ _ _ h => h) (Or.inl ⟨by rfl, ?_⟩) (by assumption) ?_
                rotate_left
                · intro w hSw; (try dsimp only at hSw); go_simp; try with_reducible rfl
                simp only [Act.put, List.setIfInBounds_toArray, List.set_cons_zero, List.set_cons_succ]
                refine wpAnyH_take (i := 10) (oi := ⟨some 87, _, _, _, _, _⟩) (v := ?_) rfl (by kernel_rfl) (by kernel_rfl) (by kernel_rfl) (fun _ _ _ h => h) (Or.inl ⟨by rfl, ?_⟩) (by assumption) ?_
                rotate_left
                · intro w hSw; (try dsimp only at hSw); go_simp; try with_reducible rfl
                simp only [Act.put, List.setIfInBounds_toArray, List.set_cons_zero, List.set_cons_succ]
                refine wpAnyH_take (i := 12) (oi := ⟨some 89, _, _, _, _, _⟩) (v := ?_) rfl (by kernel_rfl) (by kernel_rfl) (by kernel_rfl) (fun _ _ _ h => h) (Or.inl ⟨by rfl, ?_⟩) (by assumption) ?_
                rotate_left
                · intro w hSw; (try dsimp only at hSw); go_simp; try with_reducible rfl
                simp only [Act.put, List.setIfInBounds_toArray, List.set_cons_zero, List.set_cons_succ]
                refine wpAnyH_take (i := 13) (oi := ⟨some 90, _, _, _, _, _⟩) (v := ?_) rfl (by kernel_rfl) (by kernel_rfl) (by kernel_rfl) (fun _ _ _ h => h) (Or.inl ⟨by rfl, ?_⟩) (by assumption) ?_
                rotate_left
                · intro w hSw; (try dsimp only at hSw); go_simp; try with_reducible rfl
                simp only [Act.put, List.setIfInBounds_toArray, List.set_cons_zero, List.set_cons_succ]
                refine wpAnyH_take (i := 14) (oi := ⟨some 91, _, _, _, _, _⟩) (v := ?_) rfl (by kernel_rfl) (by kernel_rfl) (by kernel_rfl) (fun _ _ _ h => h) (Or.inl ⟨by rfl, ?_⟩) (by assumption) ?_
                rotate_left
                · intro w hSw; (try dsimp only at hSw); go_simp; try with_reducible rfl
                simp only [Act.put, List.setIfInBounds_toArray, List.set_cons_zero, List.set_cons_succ]
                refine wpAnyH_take (i := 15) (oi := ⟨some 92, _, _, _, _, _⟩) (v := ?_) rfl (by kernel_rfl) (by kernel_rfl) (by kernel_rfl) (fun _ _ _ h => h) (Or.inl ⟨by rfl, ?_⟩) (by assumption) ?_
                rotate_left
                · intro w hSw; (try dsimp only at hSw); go_simp; try with_reducible rfl
                simp only [Act.put, List.setIfInBounds_toArray, List.set_cons_zero, List.set_cons_succ]
                refine wpAnyH_take (i := 16) (oi := ⟨some 93, _, _, _, _, _⟩) (v := ?_) rfl (by kernel_rfl) (by kernel_rfl) (by kernel_rfl) (fun _ _ _ h => h) (Or.inl ⟨by rfl, ?_⟩) (by assumption) ?_
                rotate_left
                · intro w hSw; (try dsimp only at hSw); go_simp; try with_reducible rfl
                simp only [Act.put, List.setIfInBounds_toArray, List.set_cons_zero, List.set_cons_succ]
                refine wpAnyH_ready (rs := [11]) (by kernel_rfl) (by simp) ?_
                refine AllReadyH.cons (o := ⟨some 88, _, _, _, _, _⟩) rfl (fun Kq hKq => ?_) AllReadyH.nil
                go_simp
                go_at_call 62
                refine (s32R _ need many _ ng _ zg _ nc _ zc msg _ k _ S (sh_own O3.out) (by omega) (so_R HTS.out)).mono ?_
                rintro e V8 ⟨rfl, hg⟩
                replace K6 := Lib.hid (K6.out.keptN hg)
                replace M6 := Lib.hid (M6.out.keptN hg)
                replace O6 := Lib.hid (O6.out.kept hg (fun g e => by cases e))
                replace D6 := Lib.hid (D6.out.keptN hg)
                replace A6 := Lib.hid (A6.out.keptN hg)
                replace B6 := Lib.hid (B6.out.keptN hg)
                replace Bk := Lib.hid (Bk.out.keptN hg)
                replace J1 := Lib.hid (J1.out.kept hg (fun g e => by cases e))
                replace J2 := Lib.hid (J2.out.kept hg (fun g e => by cases e))
                replace O3 := Lib.hid (O3.out.kept hg (fun g e => by cases e))
                replace C := Lib.hid (gtr' C.out (Draw.grown_some hg))
                replace H := Lib.hid (H.out.gN hg)
                replace Z := Lib.hid (gtr Z.out hg)
                clear hg
                refine hKq.out _ _ (⟨⟨K6.out.cell 0, K6.out.cell 1, K6.out.cell 2, K6.out.cell 3⟩, (HO.out _ Z.out).1, (HO.out _ Z.out).2.1, (HO.out _ Z.out).2.2, ⟨Bk.out.cell 0, Bk.out.cell 1, Bk.out.cell 2, Bk.out.cell 3, Bk.out.cell 4, Bk.out.cell 5⟩, D6.out.cell hlt⟩) (fun hHeld => ?_)
                clear hKq Kq
                refine wpAnyH_ready (rs := [17]) (by kernel_rfl) (by simp) ?_
                refine AllReadyH.cons (o := ⟨some 94, _, _, _, _, _⟩) rfl (fun Kq hKq => ?_) AllReadyH.nil
                go_simp
                go_at_call 80
                refine (spart _ need many _ ng _ zg _ nc _ zc _ k _ zm ((y2 : Int) + 1) s (rP S k) msg (d j) A6.out.i B6.out.i M6.out.i (by omega) (by omega) (by omega)).mono ?_
                rintro e V9 ⟨rfl, hg⟩
                unfold spV
                replace K6 := Lib.hid (K6.out.keptN hg)
                replace M6 := Lib.hid (M6.out.keptN hg)
                replace O6 := Lib.hid (O6.out.kept hg (fun g e => by cases e))
                replace D6 := Lib.hid (D6.out.keptN hg)
                replace A6 := Lib.hid (A6.out.keptN hg)
                replace B6 := Lib.hid (B6.out.keptN hg)
                replace Bk := Lib.hid (Bk.out.keptN hg)
                replace J1 := Lib.hid (J1.out.kept hg (fun g e => by cases e))
                replace J2 := Lib.hid (J2.out.kept hg (fun g e => by cases e))
                replace O3 := Lib.hid (O3.out.kept hg (fun g e => by cases e))
                replace C := Lib.hid (gtr' C.out (Draw.grown_some hg))
                replace H := Lib.hid (H.out.gN hg)
                replace Z := Lib.hid (gtr Z.out hg)
                clear hg
                refine hKq.out _ _ (⟨⟨K6.out.cell 0, K6.out.cell 1, K6.out.cell 2, K6.out.cell 3⟩, (HO.out _ Z.out).1, (HO.out _ Z.out).2.1, (HO.out _ Z.out).2.2, ⟨Bk.out.cell 0, Bk.out.cell 1, Bk.out.cell 2, Bk.out.cell 3, Bk.out.cell 4, Bk.out.cell 5⟩, D6.out.cell hlt⟩) (fun hHeld => ?_)
                clear hKq Kq
                refine wpAnyH_take (i := 18) (oi := ⟨some 76, _, _, _, _, _⟩) (v := ?_) rfl (by kernel_rfl) (by kernel_rfl) (by kernel_rfl) (fun _ _ _ h => h) (Or.inl ⟨by rfl, ?_⟩) (by assumption) ?_
                rotate_left
                · intro w hSw; (try dsimp only at hSw); go_simp; try with_reducible rfl
                simp only [Act.put, List.setIfInBounds_toArray, List.set_cons_zero, List.set_cons_succ]
                refine wpAnyH_take (i := 19) (oi := ⟨some 95, _, _, _, _, _⟩) (v := ?_) rfl (by kernel_rfl) (by kernel_rfl) (by kernel_rfl) (fun _ _ _ h => h) (Or.inl ⟨by rfl, ?_⟩) (by assumption) ?_
                rotate_left
                · intro w hSw; (try dsimp only at hSw); go_simp; try with_reducible rfl
                simp only [Act.put, List.setIfInBounds_toArray, List.set_cons_zero, List.set_cons_succ]
                refine wpAnyH_take (i := 20) (oi := ⟨some 96, _, _, _, _, _⟩) (v := ?_) rfl (by kernel_rfl) (by kernel_rfl) (by kernel_rfl) (fun _ _ _ h => h) (Or.inl ⟨by rfl, ?_⟩) (by assumption) ?_
                rotate_left
                · intro w hSw; (try dsimp only at hSw); go_simp; try with_reducible rfl
                simp only [Act.put, List.setIfInBounds_toArray, List.set_cons_zero, List.set_cons_succ]
                refine wpAnyH_take (i := 21) (oi := ⟨some 14, _, _, _, _, _⟩) (v := ?_) rfl (by kernel_rfl) (by kernel_rfl) (by kernel_rfl) (fun _ _ _ h => h) (Or.inl ⟨by rfl, ?_⟩) (by assumption) ?_
                rotate_left
                · intro w hSw; (try dsimp only at hSw); go_simp; try with_reducible rfl
                simp only [Act.put, List.setIfInBounds_toArray, List.set_cons_zero, List.set_cons_succ]
                refine wpAnyH_take (i := 22) (oi := ⟨some 15, _, _, _, _, _⟩) (v := ?_) rfl (by kernel_rfl) (by kernel_rfl) (by kernel_rfl) (fun _ _ _ h => h) (Or.inl ⟨by rfl, ?_⟩) (by assumption) ?_
                rotate_left
                · intro w hSw; (try dsimp only at hSw); go_simp; try with_reducible rfl
                simp only [Act.put, List.setIfInBounds_toArray, List.set_cons_zero, List.set_cons_succ]
                refine wpAnyH_done (by kernel_rfl) ?_ _
                clear hHeld
                clear K6 O6 D6 A6 B6 Z
                obtain ⟨zz, hzz, hfz⟩ : ∃ zz, spZ need many ng zg nc zc k zm ((y2 : Int) + 1) s (rP S k) msg (d j) = zz ∧ fok zz = true := ⟨_, rfl, spZ_ok⟩
                rw [hzz]
                clear hzz
                go_wp2_with fail
                refine (pick_any _ _ _ a len cap _ 12 H.out (by omega) (by omega)).mono ?_
                rintro e V10 ⟨x5, x50, x51, rfl, hr, hg, hs⟩
                replace H := Lib.hid hr
                replace M6 := Lib.hid (M6.out.kept hg (by omega))
                replace Bk := Lib.hid (Bk.out.kept hg (by intro e; have e := Option.some.inj e; omega))
                replace J1 := Lib.hid (J1.out.kept hg (fun g e => by have e := Option.some.inj e; omega))
                replace J2 := Lib.hid (J2.out.kept hg (fun g e => by have e := Option.some.inj e; omega))
                replace O3 := Lib.hid (O3.out.kept hg (fun g e => by have e := Option.some.inj e; omega))
                replace C := Lib.hid (grown_any C.out hg (by omega))
                clear hg
                clear hr
                clear hs
                rcases (by omega : x5 = 0 ∨ 1 ≤ x5) with rfl | hx5
                · skip
                  go_wp2_with fail
                  refine (pick_any _ _ _ a len cap _ 23 H.out (by omega) (by omega)).mono ?_
                  rintro e V11 ⟨zq, x60, x61, rfl, hr, hg, hs⟩
                  replace H := Lib.hid hr
                  replace M6 := Lib.hid (M6.out.kept hg (by omega))
                  replace Bk := Lib.hid (Bk.out.kept hg (by intro e; have e := Option.some.inj e; omega))
                  replace J1 := Lib.hid (J1.out.kept hg (fun g e => by have e := Option.some.inj e; omega))
                  replace J2 := Lib.hid (J2.out.kept hg (fun g e => by have e := Option.some.inj e; omega))
                  replace O3 := Lib.hid (O3.out.kept hg (fun g e => by have e := Option.some.inj e; omega))
                  replace C := Lib.hid (grown_any C.out hg (by omega))
                  clear hg
                  clear hr
                  clear hs
                  have HFZ := Lib.hid (fok_mk x60 (by omega))
                  go_wp2_with fail
                  refine wp_region_held_drew (S := (fun w' => (w'.cell? ⟨sb, 0, none⟩ = some (.int .i64 (need : Int)) ∧ w'.cell? ⟨sb, 1, none⟩ = some (.int .i64 (many : Int)) ∧ w'.cell? ⟨sb, 2, none⟩ = some (.slice (some ⟨b1, 0, none⟩) ng c1) ∧ w'.cell? ⟨sb, 3, none⟩ = some (.slice (some ⟨b2, 0, none⟩) nc c2) ∧ w'.cell? ⟨sb, 4, none⟩ = some (.int .i64 msg) ∧ w'.cell? ⟨sb, 5, none⟩ = some (.slice a3 k c3)) ∧ w'.cell? ⟨bm, om + j, none⟩ = some (.int .i64 (zm j)))) (by kernel_rfl) (⟨⟨Bk.out.cell 0, Bk.out.cell 1, Bk.out.cell 2, Bk.out.cell 3, Bk.out.cell 4, Bk.out.cell 5⟩, ints_cell M6.out.i hlt⟩) (fun hHeld => ?_)
                  have hg := Draw.gdrew V11
                  replace M6 := Lib.hid (M6.out.keptN hg)
                  replace Bk := Lib.hid (Bk.out.keptN hg)
                  replace J1 := Lib.hid (J1.out.kept hg (fun g e => by cases e))
                  replace J2 := Lib.hid (J2.out.kept hg (fun g e => by cases e))
                  replace O3 := Lib.hid (O3.out.kept hg (fun g e => by cases e))
                  replace C := Lib.hid (gtr' C.out (Draw.grown_some hg))
                  replace H := Lib.hid (H.out.gN hg)
                  clear hg
                  generalize (V11).drew = V12 at *
                  refine wpAnyH_take (i := 0) (oi := ⟨some 103, _, _, _, _, _⟩) (v := ?_) rfl (by kernel_rfl) (by kernel_rfl) (by kernel_rfl) (fun _ _ _ h => h) (Or.inl ⟨by rfl, ?_⟩) (by assumption) ?_
                  rotate_left
                  · intro w hSw; (try dsimp only at hSw); go_simp; try with_reducible rfl
                  simp only [Act.put, List.setIfInBounds_toArray, List.set_cons_zero, List.set_cons_succ]
                  refine wpAnyH_take (i := 1) (oi := ⟨some 104, _, _, _, _, _⟩) (v := ?_) rfl (by kernel_rfl) (by kernel_rfl) (by kernel_rfl) (fun _ _ _ h => h) (Or.inl ⟨by rfl, ?_⟩) (by assumption) ?_
                  rotate_left
                  · intro w hSw; (try dsimp only at hSw); go_simp; try with_reducible rfl
                  simp only [Act.put, List.setIfInBounds_toArray, List.set_cons_zero, List.set_cons_succ]
                  refine wpAnyH_take (i := 2) (oi := ⟨some 105, _, _, _, _, _⟩) (v := ?_) rfl (by kernel_rfl) (by kernel_rfl) (by kernel_rfl) (fun _ _ _ h => h) (Or.inl ⟨by rfl, ?_⟩) (by assumption) ?_
                  rotate_left
                  · intro w hSw; (try dsimp only at hSw); go_simp; try with_reducible rfl
                  simp only [Act.put, List.setIfInBounds_toArray, List.set_cons_zero, List.set_cons_succ]
                  refine wpAnyH_take (i := 3) (oi := ⟨some 106, _, _, _, _, _⟩) (v := ?_) rfl (by kernel_rfl) (by kernel_rfl) (by kernel_rfl) (fun _ _ _ h => h) (Or.inl ⟨by rfl, ?_⟩) (by assumption) ?_
                  rotate_left
                  · intro w hSw; (try dsimp only at hSw); go_simp; try with_reducible rfl
                  simp only [Act.put, List.setIfInBounds_toArray, List.set_cons_zero, List.set_cons_succ]
                  refine wpAnyH_take (i := 4) (oi := ⟨some 107, _, _, _, _, _⟩) (v := ?_) rfl (by kernel_rfl) (by kernel_rfl) (by kernel_rfl) (fun _ _ _ h => h) (Or.inl ⟨by rfl, ?_⟩) (by assumption) ?_
                  rotate_left
                  · intro w hSw; (try dsimp only at hSw); go_simp; try with_reducible rfl
                  simp only [Act.put, List.setIfInBounds_toArray, List.set_cons_zero, List.set_cons_succ]
                  refine wpAnyH_take (i := 5) (oi := ⟨some 108, _, _, _, _, _⟩) (v := ?_) rfl (by kernel_rfl) (by kernel_rfl) (by kernel_rfl) (fun _ _ _ h => h) (Or.inl ⟨by rfl, ?_⟩) (by assumption) ?_
                  rotate_left
                  · intro w hSw; (try dsimp only at hSw); go_simp; try with_reducible rfl
                  simp only [Act.put, List.setIfInBounds_toArray, List.set_cons_zero, List.set_cons_succ]
                  refine wpAnyH_ready (rs := [6, 10]) (by kernel_rfl) (by simp) ?_
                  refine AllReadyH.cons (o := ⟨some 109, _, _, _, _, _⟩) rfl (fun Kq hKq => ?_) (AllReadyH.cons (o := ⟨some 16, _, _, _, _, _⟩) rfl (fun Kq hKq => ?_) AllReadyH.nil)
                  · go_simp
                    go_at_call 81
                    refine (s32put _ need many _ ng _ zg _ nc _ zc msg _ k _ S (zm j) zq J1.out.ints J2.out.ints (sh_own O3.out) (ints_sl J1.out.ints) (ints_sl J2.out.ints) (sh_sl (sh_own O3.out)) (by omega) (by omega) (by omega)).mono ?_
                    rintro e V13 hsp
                    obtain ⟨b1', c1', b2', c2', a3', c3', rfl, hi1, hi2, hO3, hg⟩ := sesP_get HTS.out HFZ.out hsp
                    clear hsp
                    have hsz : w5.heap.size ≤ V12.heap.size := by have h9 := C.out.size; omega
                    have N1 := Lib.hid (show OE V13 w5.heap.size (some ⟨b1', 0, none⟩) ng c1' zg from OI.lower hi1 hsz)
                    have N2 := Lib.hid (show OE V13 w5.heap.size (some ⟨b2', 0, none⟩) nc c2' zc from OI.lower hi2 hsz)
                    have N3 := Lib.hid (hO3.lower hsz)
                    clear hi1 hi2 hO3 hsz
                    clear J1 J2 O3
                    replace M6 := Lib.hid (M6.out.keptN hg)
                    replace Bk := Lib.hid (Bk.out.keptN hg)
                    replace C := Lib.hid (gtr' C.out (Draw.grown_some hg))
                    replace H := Lib.hid (H.out.gN hg)
                    clear hg
                    refine hKq.out _ _ (⟨⟨Bk.out.cell 0, Bk.out.cell 1, Bk.out.cell 2, Bk.out.cell 3, Bk.out.cell 4, Bk.out.cell 5⟩, ints_cell M6.out.i hlt⟩) (fun hHeld => ?_)
                    clear hKq Kq
                    refine wpAnyH_take (i := 7) (oi := ⟨some 102, _, _, _, _, _⟩) (v := ?_) rfl (by kernel_rfl) (by kernel_rfl) (by kernel_rfl) (fun _ _ _ h => h) (Or.inl ⟨by rfl, ?_⟩) (by assumption) ?_
                    rotate_left
                    · intro w hSw; (try dsimp only at hSw); go_simp; try with_reducible rfl
                    simp only [Act.put, List.setIfInBounds_toArray, List.set_cons_zero, List.set_cons_succ]
                    refine wpAnyH_take (i := 8) (oi := ⟨some 110, _, _, _, _, _⟩) (v := ?_) rfl (by kernel_rfl) (by kernel_rfl) (by kernel_rfl) (fun _ _ _ h => h) (Or.inl ⟨by rfl, ?_⟩) (by assumption) ?_
                    rotate_left
                    · intro w hSw; (try dsimp only at hSw); go_simp; try with_reducible rfl
                    simp only [Act.put, List.setIfInBounds_toArray, List.set_cons_zero, List.set_cons_succ]
                    refine wpAnyH_take (i := 9) (oi := ⟨some 111, _, _, _, _, _⟩) (v := ?_) rfl (by kernel_rfl) (by kernel_rfl) (by kernel_rfl) (fun _ _ _ h => h) (Or.inl ⟨by rfl, ?_⟩) (by assumption) ?_
                    rotate_left
                    · intro w hSw; (try dsimp only at hSw); go_simp; try with_reducible rfl
                    simp only [Act.put, List.setIfInBounds_toArray, List.set_cons_zero, List.set_cons_succ]
                    refine wpAnyH_ready (rs := [10]) (by kernel_rfl) (by simp) ?_
                    refine AllReadyH.cons (o := ⟨some 16, _, _, _, _, _⟩) rfl (fun Kq hKq => ?_) AllReadyH.nil
                    go_simp
                    refine at_alloc ?_
                    intro Va hg hT
                    have hxb : sb < V13.heap.size := Bk.out.lt
                    have hxw : w6.heap.size ≤ V13.heap.size := C.out.size
                    have hxM : ∀ b off, (some ⟨bm, om, none⟩ : Option Addr) = some ⟨b, off, none⟩ → b < V13.heap.size := fun b off e => by injection e with e; injection e with e _; rw [← e]; exact ints_lt M6.out.i (by omega)
                    have hxm := hxM bm om rfl
                    generalize V13.heap.size = xb at *
                    have X := Lib.hid hT
                    clear hxM hT
                    replace M6 := Lib.hid (M6.out.keptN hg)
                    replace Bk := Lib.hid (Bk.out.keptN hg)
                    replace C := Lib.hid (gtr' C.out (Draw.grown_some hg))
                    replace H := Lib.hid (H.out.gN hg)
                    replace N1 := Lib.hid (N1.out.kept hg (fun g e => by cases e))
                    replace N2 := Lib.hid (N2.out.kept hg (fun g e => by cases e))
                    replace N3 := Lib.hid (N3.out.kept hg (fun g e => by cases e))
                    clear hg
                    refine hKq.out _ _ (⟨⟨Bk.out.cell 0, Bk.out.cell 1, Bk.out.cell 2, Bk.out.cell 3, Bk.out.cell 4, Bk.out.cell 5⟩, ints_cell M6.out.i hlt⟩) (fun hHeld => ?_)
                    clear hKq Kq
                    refine wpAnyH_ready (rs := [11]) (by kernel_rfl) (by simp) ?_
                    refine AllReadyH.cons (o := ⟨none, _, _, _, _, _⟩) rfl (fun Kq hKq => ?_) AllReadyH.nil
                    rw [if_pos (by rfl)]
                    refine wp_store_blk 30 (.tmp 16) (.tmp 110) xb _ _ 30 X.out rfl rfl rfl rfl (by kernel_rfl) (by simp [Value.oneCell']) rfl ?_
                    intro V14 hg hT
                    have N1' := N1.out.keptBlk X.out hg; have N2' := N2.out.keptBlk X.out hg; have N3' := N3.out.keptBlk X.out hg
                    clear X N1 N2 N3
                    have X := Lib.hid hT; have N1 := Lib.hid N1'; have N2 := Lib.hid N2'; have N3 := Lib.hid N3'
                    clear hT N1' N2' N3'
                    replace M6 := Lib.hid (M6.out.kept hg (by omega))
                    replace Bk := Lib.hid (Bk.out.kept hg (by intro e; have e := Option.some.inj e; omega))
                    replace C := Lib.hid (grown_any C.out hg (by omega))
                    replace H := Lib.hid (H.out.grownN hg (by omega) (by omega))
                    clear hg
                    refine hKq.out _ _ (⟨⟨Bk.out.cell 0, Bk.out.cell 1, Bk.out.cell 2, Bk.out.cell 3, Bk.out.cell 4, Bk.out.cell 5⟩, ints_cell M6.out.i hlt⟩) (fun hHeld => ?_)
                    clear hKq Kq
                    refine wpAnyH_take (i := 12) (oi := ⟨some 17, _, _, _, _, _⟩) (v := ?_) rfl (by kernel_rfl) (by kernel_rfl) (by kernel_rfl) (fun _ _ _ h => h) (Or.inl ⟨by rfl, ?_⟩) (by assumption) ?_
                    rotate_left
                    · intro w hSw; (try dsimp only at hSw); go_simp; try with_reducible rfl
                    simp only [Act.put, List.setIfInBounds_toArray, List.set_cons_zero, List.set_cons_succ]
                    refine wpAnyH_done (by kernel_rfl) ?_ _
                    clear hHeld
                    have q := X.out.all6
                    obtain ⟨p0, p1, p2, p3, p4, p5, _, _, _, _, _, _⟩ := q
                    go_wp2_with (refine stop_store rfl ?_)
                    refine ⟨trivial, ?_⟩
                    refine wpList_store_blk rfl 30 (.tmp 10) (.tmp 112) _ _ _ 30 Bk.out rfl rfl rfl rfl (by kernel_rfl) (by simp [Value.oneCell']) rfl ?_
                    intro V15 hg hT
                    clear p0 p1 p2 p3 p4 p5
                    have N1' := Lib.hid (N1.out.keptBlk Bk.out hg); have N2' := Lib.hid (N2.out.keptBlk Bk.out hg); have N3' := Lib.hid (N3.out.keptBlk Bk.out hg)
                    have C' := Lib.hid (grown_any C.out hg (by omega)); have H' := Lib.hid (H.out.grownN hg (by omega) (by omega))
                    go_wp2
                    go_roundw
                    case rel => exact ⟨j + 1, _, b1', c1', b2', c2', c3', a3', ptS S (zm j) k zq, by omega, by go_num, hT, N1'.out, N2'.out, N3'.out, ts_pt HTS.out HFZ.out, fun t ht => (congrFun (mS_pt S (zm j) k zq) t).trans (HMM.out t ht), by omega, by omega, H'.out, C'.out⟩
                    case measure => simp [intOf]; omega
                  · go_simp
                    refine at_alloc ?_
                    intro Va hg hT
                    have hxb : sb < V12.heap.size := Bk.out.lt
                    have hxw : w6.heap.size ≤ V12.heap.size := C.out.size
                    have hxM : ∀ b off, (some ⟨bm, om, none⟩ : Option Addr) = some ⟨b, off, none⟩ → b < V12.heap.size := fun b off e => by injection e with e; injection e with e _; rw [← e]; exact ints_lt M6.out.i (by omega)
                    have hxm := hxM bm om rfl
                    generalize V12.heap.size = xb at *
                    have X := Lib.hid hT
                    clear hxM hT
                    replace M6 := Lib.hid (M6.out.keptN hg)
                    replace Bk := Lib.hid (Bk.out.keptN hg)
                    replace J1 := Lib.hid (J1.out.kept hg (fun g e => by cases e))
                    replace J2 := Lib.hid (J2.out.kept hg (fun g e => by cases e))
                    replace O3 := Lib.hid (O3.out.kept hg (fun g e => by cases e))
                    replace C := Lib.hid (gtr' C.out (Draw.grown_some hg))
                    replace H := Lib.hid (H.out.gN hg)
                    clear hg
                    refine hKq.out _ _ (⟨⟨Bk.out.cell 0, Bk.out.cell 1, Bk.out.cell 2, Bk.out.cell 3, Bk.out.cell 4, Bk.out.cell 5⟩, ints_cell M6.out.i hlt⟩) (fun hHeld => ?_)
                    clear hKq Kq
                    refine wpAnyH_ready (rs := [6]) (by kernel_rfl) (by simp) ?_
                    refine AllReadyH.cons (o := ⟨some 109, _, _, _, _, _⟩) rfl (fun Kq hKq => ?_) AllReadyH.nil
                    go_simp
                    go_at_call 81
                    refine (s32put _ need many _ ng _ zg _ nc _ zc msg _ k _ S (zm j) zq J1.out.ints J2.out.ints (sh_own O3.out) (ints_sl J1.out.ints) (ints_sl J2.out.ints) (sh_sl (sh_own O3.out)) (by omega) (by omega) (by omega)).mono ?_
                    rintro e V13 hsp
                    obtain ⟨b1', c1', b2', c2', a3', c3', rfl, hi1, hi2, hO3, hg⟩ := sesP_get HTS.out HFZ.out hsp
                    clear hsp
                    have hsz : w5.heap.size ≤ Va.heap.size := by have h9 := C.out.size; omega
                    have N1 := Lib.hid (show OE V13 w5.heap.size (some ⟨b1', 0, none⟩) ng c1' zg from OI.lower hi1 hsz)
                    have N2 := Lib.hid (show OE V13 w5.heap.size (some ⟨b2', 0, none⟩) nc c2' zc from OI.lower hi2 hsz)
                    have N3 := Lib.hid (hO3.lower hsz)
                    clear hi1 hi2 hO3 hsz
                    clear J1 J2 O3
                    replace M6 := Lib.hid (M6.out.keptN hg)
                    replace Bk := Lib.hid (Bk.out.keptN hg)
                    replace C := Lib.hid (gtr' C.out (Draw.grown_some hg))
                    replace H := Lib.hid (H.out.gN hg)
                    replace X := Lib.hid (X.out.keptN hg)
                    clear hg
                    refine hKq.out _ _ (⟨⟨Bk.out.cell 0, Bk.out.cell 1, Bk.out.cell 2, Bk.out.cell 3, Bk.out.cell 4, Bk.out.cell 5⟩, ints_cell M6.out.i hlt⟩) (fun hHeld => ?_)
                    clear hKq Kq
                    refine wpAnyH_take (i := 7) (oi := ⟨some 102, _, _, _, _, _⟩) (v := ?_) rfl (by kernel_rfl) (by kernel_rfl) (by kernel_rfl) (fun _ _ _ h => h) (Or.inl ⟨by rfl, ?_⟩) (by assumption) ?_
                    rotate_left
                    · intro w hSw; (try dsimp only at hSw); go_simp; try with_reducible rfl
                    simp only [Act.put, List.setIfInBounds_toArray, List.set_cons_zero, List.set_cons_succ]
                    refine wpAnyH_take (i := 8) (oi := ⟨some 110, _, _, _, _, _⟩) (v := ?_) rfl (by kernel_rfl) (by kernel_rfl) (by kernel_rfl) (fun _ _ _ h => h) (Or.inl ⟨by rfl, ?_⟩) (by assumption) ?_
                    rotate_left
                    · intro w hSw; (try dsimp only at hSw); go_simp; try with_reducible rfl
                    simp only [Act.put, List.setIfInBounds_toArray, List.set_cons_zero, List.set_cons_succ]
                    refine wpAnyH_take (i := 9) (oi := ⟨some 111, _, _, _, _, _⟩) (v := ?_) rfl (by kernel_rfl) (by kernel_rfl) (by kernel_rfl) (fun _ _ _ h => h) (Or.inl ⟨by rfl, ?_⟩) (by assumption) ?_
                    rotate_left
                    · intro w hSw; (try dsimp only at hSw); go_simp; try with_reducible rfl
                    simp only [Act.put, List.setIfInBounds_toArray, List.set_cons_zero, List.set_cons_succ]
                    refine wpAnyH_ready (rs := [11]) (by kernel_rfl) (by simp) ?_
                    refine AllReadyH.cons (o := ⟨none, _, _, _, _, _⟩) rfl (fun Kq hKq => ?_) AllReadyH.nil
                    rw [if_pos (by rfl)]
                    refine wp_store_blk 30 (.tmp 16) (.tmp 110) xb _ _ 30 X.out rfl rfl rfl rfl (by kernel_rfl) (by simp [Value.oneCell']) rfl ?_
                    intro V14 hg hT
                    have N1' := N1.out.keptBlk X.out hg; have N2' := N2.out.keptBlk X.out hg; have N3' := N3.out.keptBlk X.out hg
                    clear X N1 N2 N3
                    have X := Lib.hid hT; have N1 := Lib.hid N1'; have N2 := Lib.hid N2'; have N3 := Lib.hid N3'
                    clear hT N1' N2' N3'
                    replace M6 := Lib.hid (M6.out.kept hg (by omega))
                    replace Bk := Lib.hid (Bk.out.kept hg (by intro e; have e := Option.some.inj e; omega))
                    replace C := Lib.hid (grown_any C.out hg (by omega))
                    replace H := Lib.hid (H.out.grownN hg (by omega) (by omega))
                    clear hg
                    refine hKq.out _ _ (⟨⟨Bk.out.cell 0, Bk.out.cell 1, Bk.out.cell 2, Bk.out.cell 3, Bk.out.cell 4, Bk.out.cell 5⟩, ints_cell M6.out.i hlt⟩) (fun hHeld => ?_)
                    clear hKq Kq
                    refine wpAnyH_take (i := 12) (oi := ⟨some 17, _, _, _, _, _⟩) (v := ?_) rfl (by kernel_rfl) (by kernel_rfl) (by kernel_rfl) (fun _ _ _ h => h) (Or.inl ⟨by rfl, ?_⟩) (by assumption) ?_
                    rotate_left
                    · intro w hSw; (try dsimp only at hSw); go_simp; try with_reducible rfl
                    simp only [Act.put, List.setIfInBounds_toArray, List.set_cons_zero, List.set_cons_succ]
                    refine wpAnyH_done (by kernel_rfl) ?_ _
                    clear hHeld
                    have q := X.out.all6
                    obtain ⟨p0, p1, p2, p3, p4, p5, _, _, _, _, _, _⟩ := q
                    go_wp2_with (refine stop_store rfl ?_)
                    refine ⟨trivial, ?_⟩
                    refine wpList_store_blk rfl 30 (.tmp 10) (.tmp 112) _ _ _ 30 Bk.out rfl rfl rfl rfl (by kernel_rfl) (by simp [Value.oneCell']) rfl ?_
                    intro V15 hg hT
                    clear p0 p1 p2 p3 p4 p5
                    have N1' := Lib.hid (N1.out.keptBlk Bk.out hg); have N2' := Lib.hid (N2.out.keptBlk Bk.out hg); have N3' := Lib.hid (N3.out.keptBlk Bk.out hg)
                    have C' := Lib.hid (grown_any C.out hg (by omega)); have H' := Lib.hid (H.out.grownN hg (by omega) (by omega))
                    go_wp2
                    go_roundw
                    case rel => exact ⟨j + 1, _, b1', c1', b2', c2', c3', a3', ptS S (zm j) k zq, by omega, by go_num, hT, N1'.out, N2'.out, N3'.out, ts_pt HTS.out HFZ.out, fun t ht => (congrFun (mS_pt S (zm j) k zq) t).trans (HMM.out t ht), by omega, by omega, H'.out, C'.out⟩
                    case measure => simp [intOf]; omega
                · skip
                  have e5 : (x5 == 0) = false := by simp; omega
                  have HFZ := Lib.hid hfz
                  go_wp2_with fail
                  refine wp_region_held_drew (S := (fun w' => (w'.cell? ⟨sb, 0, none⟩ = some (.int .i64 (need : Int)) ∧ w'.cell? ⟨sb, 1, none⟩ = some (.int .i64 (many : Int)) ∧ w'.cell? ⟨sb, 2, none⟩ = some (.slice (some ⟨b1, 0, none⟩) ng c1) ∧ w'.cell? ⟨sb, 3, none⟩ = some (.slice (some ⟨b2, 0, none⟩) nc c2) ∧ w'.cell? ⟨sb, 4, none⟩ = some (.int .i64 msg) ∧ w'.cell? ⟨sb, 5, none⟩ = some (.slice a3 k c3)) ∧ w'.cell? ⟨bm, om + j, none⟩ = some (.int .i64 (zm j)))) (by kernel_rfl) (⟨⟨Bk.out.cell 0, Bk.out.cell 1, Bk.out.cell 2, Bk.out.cell 3, Bk.out.cell 4, Bk.out.cell 5⟩, ints_cell M6.out.i hlt⟩) (fun hHeld => ?_)
                  have hg := Draw.gdrew V10
                  replace M6 := Lib.hid (M6.out.keptN hg)
                  replace Bk := Lib.hid (Bk.out.keptN hg)
                  replace J1 := Lib.hid (J1.out.kept hg (fun g e => by cases e))
                  replace J2 := Lib.hid (J2.out.kept hg (fun g e => by cases e))
                  replace O3 := Lib.hid (O3.out.kept hg (fun g e => by cases e))
                  replace C := Lib.hid (gtr' C.out (Draw.grown_some hg))
                  replace H := Lib.hid (H.out.gN hg)
                  clear hg
                  generalize (V10).drew = V12 at *
                  refine wpAnyH_take (i := 0) (oi := ⟨some 103, _, _, _, _, _⟩) (v := ?_) rfl (by kernel_rfl) (by kernel_rfl) (by kernel_rfl) (fun _ _ _ h => h) (Or.inl ⟨by rfl, ?_⟩) (by assumption) ?_
                  rotate_left
                  · intro w hSw; (try dsimp only at hSw); go_simp; try with_reducible rfl
                  simp only [Act.put, List.setIfInBounds_toArray, List.set_cons_zero, List.set_cons_succ]
                  refine wpAnyH_take (i := 1) (oi := ⟨some 104, _, _, _, _, _⟩) (v := ?_) rfl (by kernel_rfl) (by kernel_rfl) (by kernel_rfl) (fun _ _ _ h => h) (Or.inl ⟨by rfl, ?_⟩) (by assumption) ?_
                  rotate_left
                  · intro w hSw; (try dsimp only at hSw); go_simp; try with_reducible rfl
                  simp only [Act.put, List.setIfInBounds_toArray, List.set_cons_zero, List.set_cons_succ]
                  refine wpAnyH_take (i := 2) (oi := ⟨some 105, _, _, _, _, _⟩) (v := ?_) rfl (by kernel_rfl) (by kernel_rfl) (by kernel_rfl) (fun _ _ _ h => h) (Or.inl ⟨by rfl, ?_⟩) (by assumption) ?_
                  rotate_left
                  · intro w hSw; (try dsimp only at hSw); go_simp; try with_reducible rfl
                  simp only [Act.put, List.setIfInBounds_toArray, List.set_cons_zero, List.set_cons_succ]
                  refine wpAnyH_take (i := 3) (oi := ⟨some 106, _, _, _, _, _⟩) (v := ?_) rfl (by kernel_rfl) (by kernel_rfl) (by kernel_rfl) (fun _ _ _ h => h) (Or.inl ⟨by rfl, ?_⟩) (by assumption) ?_
                  rotate_left
                  · intro w hSw; (try dsimp only at hSw); go_simp; try with_reducible rfl
                  simp only [Act.put, List.setIfInBounds_toArray, List.set_cons_zero, List.set_cons_succ]
                  refine wpAnyH_take (i := 4) (oi := ⟨some 107, _, _, _, _, _⟩) (v := ?_) rfl (by kernel_rfl) (by kernel_rfl) (by kernel_rfl) (fun _ _ _ h => h) (Or.inl ⟨by rfl, ?_⟩) (by assumption) ?_
                  rotate_left
                  · intro w hSw; (try dsimp only at hSw); go_simp; try with_reducible rfl
                  simp only [Act.put, List.setIfInBounds_toArray, List.set_cons_zero, List.set_cons_succ]
                  refine wpAnyH_take (i := 5) (oi := ⟨some 108, _, _, _, _, _⟩) (v := ?_) rfl (by kernel_rfl) (by kernel_rfl) (by kernel_rfl) (fun _ _ _ h => h) (Or.inl ⟨by rfl, ?_⟩) (by assumption) ?_
                  rotate_left
                  · intro w hSw; (try dsimp only at hSw); go_simp; try with_reducible rfl
                  simp only [Act.put, List.setIfInBounds_toArray, List.set_cons_zero, List.set_cons_succ]
                  refine wpAnyH_ready (rs := [6, 10]) (by kernel_rfl) (by simp) ?_
                  refine AllReadyH.cons (o := ⟨some 109, _, _, _, _, _⟩) rfl (fun Kq hKq => ?_) (AllReadyH.cons (o := ⟨some 16, _, _, _, _, _⟩) rfl (fun Kq hKq => ?_) AllReadyH.nil)
                  · go_simp
                    go_at_call 81
                    refine (s32put _ need many _ ng _ zg _ nc _ zc msg _ k _ S (zm j) zz J1.out.ints J2.out.ints (sh_own O3.out) (ints_sl J1.out.ints) (ints_sl J2.out.ints) (sh_sl (sh_own O3.out)) (by omega) (by omega) (by omega)).mono ?_
                    rintro e V13 hsp
                    obtain ⟨b1', c1', b2', c2', a3', c3', rfl, hi1, hi2, hO3, hg⟩ := sesP_get HTS.out HFZ.out hsp
                    clear hsp
                    have hsz : w5.heap.size ≤ V12.heap.size := by have h9 := C.out.size; omega
                    have N1 := Lib.hid (show OE V13 w5.heap.size (some ⟨b1', 0, none⟩) ng c1' zg from OI.lower hi1 hsz)
                    have N2 := Lib.hid (show OE V13 w5.heap.size (some ⟨b2', 0, none⟩) nc c2' zc from OI.lower hi2 hsz)
                    have N3 := Lib.hid (hO3.lower hsz)
                    clear hi1 hi2 hO3 hsz
                    clear J1 J2 O3
                    replace M6 := Lib.hid (M6.out.keptN hg)
                    replace Bk := Lib.hid (Bk.out.keptN hg)
                    replace C := Lib.hid (gtr' C.out (Draw.grown_some hg))
                    replace H := Lib.hid (H.out.gN hg)
                    clear hg
                    refine hKq.out _ _ (⟨⟨Bk.out.cell 0, Bk.out.cell 1, Bk.out.cell 2, Bk.out.cell 3, Bk.out.cell 4, Bk.out.cell 5⟩, ints_cell M6.out.i hlt⟩) (fun hHeld => ?_)
                    clear hKq Kq
                    refine wpAnyH_take (i := 7) (oi := ⟨some 102, _, _, _, _, _⟩) (v := ?_) rfl (by kernel_rfl) (by kernel_rfl) (by kernel_rfl) (fun _ _ _ h => h) (Or.inl ⟨by rfl, ?_⟩) (by assumption) ?_
                    rotate_left
                    · intro w hSw; (try dsimp only at hSw); go_simp; try with_reducible rfl
                    simp only [Act.put, List.setIfInBounds_toArray, List.set_cons_zero, List.set_cons_succ]
                    refine wpAnyH_take (i := 8) (oi := ⟨some 110, _, _, _, _, _⟩) (v := ?_) rfl (by kernel_rfl) (by kernel_rfl) (by kernel_rfl) (fun _ _ _ h => h) (Or.inl ⟨by rfl, ?_⟩) (by assumption) ?_
                    rotate_left
                    · intro w hSw; (try dsimp only at hSw); go_simp; try with_reducible rfl
                    simp only [Act.put, List.setIfInBounds_toArray, List.set_cons_zero, List.set_cons_succ]
                    refine wpAnyH_take (i := 9) (oi := ⟨some 111, _, _, _, _, _⟩) (v := ?_) rfl (by kernel_rfl) (by kernel_rfl) (by kernel_rfl) (fun _ _ _ h => h) (Or.inl ⟨by rfl, ?_⟩) (by assumption) ?_
                    rotate_left
                    · intro w hSw; (try dsimp only at hSw); go_simp; try with_reducible rfl
                    simp only [Act.put, List.setIfInBounds_toArray, List.set_cons_zero, List.set_cons_succ]
                    refine wpAnyH_ready (rs := [10]) (by kernel_rfl) (by simp) ?_
                    refine AllReadyH.cons (o := ⟨some 16, _, _, _, _, _⟩) rfl (fun Kq hKq => ?_) AllReadyH.nil
                    go_simp
                    refine at_alloc ?_
                    intro Va hg hT
                    have hxb : sb < V13.heap.size := Bk.out.lt
                    have hxw : w6.heap.size ≤ V13.heap.size := C.out.size
                    have hxM : ∀ b off, (some ⟨bm, om, none⟩ : Option Addr) = some ⟨b, off, none⟩ → b < V13.heap.size := fun b off e => by injection e with e; injection e with e _; rw [← e]; exact ints_lt M6.out.i (by omega)
                    have hxm := hxM bm om rfl
                    generalize V13.heap.size = xb at *
                    have X := Lib.hid hT
                    clear hxM hT
                    replace M6 := Lib.hid (M6.out.keptN hg)
                    replace Bk := Lib.hid (Bk.out.keptN hg)
                    replace C := Lib.hid (gtr' C.out (Draw.grown_some hg))
                    replace H := Lib.hid (H.out.gN hg)
                    replace N1 := Lib.hid (N1.out.kept hg (fun g e => by cases e))
                    replace N2 := Lib.hid (N2.out.kept hg (fun g e => by cases e))
                    replace N3 := Lib.hid (N3.out.kept hg (fun g e => by cases e))
                    clear hg
                    refine hKq.out _ _ (⟨⟨Bk.out.cell 0, Bk.out.cell 1, Bk.out.cell 2, Bk.out.cell 3, Bk.out.cell 4, Bk.out.cell 5⟩, ints_cell M6.out.i hlt⟩) (fun hHeld => ?_)
                    clear hKq Kq
                    refine wpAnyH_ready (rs := [11]) (by kernel_rfl) (by simp) ?_
                    refine AllReadyH.cons (o := ⟨none, _, _, _, _, _⟩) rfl (fun Kq hKq => ?_) AllReadyH.nil
                    rw [if_pos (by rfl)]
                    refine wp_store_blk 30 (.tmp 16) (.tmp 110) xb _ _ 30 X.out rfl rfl rfl rfl (by kernel_rfl) (by simp [Value.oneCell']) rfl ?_
                    intro V14 hg hT
                    have N1' := N1.out.keptBlk X.out hg; have N2' := N2.out.keptBlk X.out hg; have N3' := N3.out.keptBlk X.out hg
                    clear X N1 N2 N3
                    have X := Lib.hid hT; have N1 := Lib.hid N1'; have N2 := Lib.hid N2'; have N3 := Lib.hid N3'
                    clear hT N1' N2' N3'
                    replace M6 := Lib.hid (M6.out.kept hg (by omega))
                    replace Bk := Lib.hid (Bk.out.kept hg (by intro e; have e := Option.some.inj e; omega))
                    replace C := Lib.hid (grown_any C.out hg (by omega))
                    replace H := Lib.hid (H.out.grownN hg (by omega) (by omega))
                    clear hg
                    refine hKq.out _ _ (⟨⟨Bk.out.cell 0, Bk.out.cell 1, Bk.out.cell 2, Bk.out.cell 3, Bk.out.cell 4, Bk.out.cell 5⟩, ints_cell M6.out.i hlt⟩) (fun hHeld => ?_)
                    clear hKq Kq
                    refine wpAnyH_take (i := 12) (oi := ⟨some 17, _, _, _, _, _⟩) (v := ?_) rfl (by kernel_rfl) (by kernel_rfl) (by kernel_rfl) (fun _ _ _ h => h) (Or.inl ⟨by rfl, ?_⟩) (by assumption) ?_
                    rotate_left
                    · intro w hSw; (try dsimp only at hSw); go_simp; try with_reducible rfl
                    simp only [Act.put, List.setIfInBounds_toArray, List.set_cons_zero, List.set_cons_succ]
                    refine wpAnyH_done (by kernel_rfl) ?_ _
                    clear hHeld
                    have q := X.out.all6
                    obtain ⟨p0, p1, p2, p3, p4, p5, _, _, _, _, _, _⟩ := q
                    go_wp2_with (refine stop_store rfl ?_)
                    refine ⟨trivial, ?_⟩
                    refine wpList_store_blk rfl 30 (.tmp 10) (.tmp 112) _ _ _ 30 Bk.out rfl rfl rfl rfl (by kernel_rfl) (by simp [Value.oneCell']) rfl ?_
                    intro V15 hg hT
                    clear p0 p1 p2 p3 p4 p5
                    have N1' := Lib.hid (N1.out.keptBlk Bk.out hg); have N2' := Lib.hid (N2.out.keptBlk Bk.out hg); have N3' := Lib.hid (N3.out.keptBlk Bk.out hg)
                    have C' := Lib.hid (grown_any C.out hg (by omega)); have H' := Lib.hid (H.out.grownN hg (by omega) (by omega))
                    go_wp2
                    go_roundw
                    case rel => exact ⟨j + 1, _, b1', c1', b2', c2', c3', a3', ptS S (zm j) k zz, by omega, by go_num, hT, N1'.out, N2'.out, N3'.out, ts_pt HTS.out HFZ.out, fun t ht => (congrFun (mS_pt S (zm j) k zz) t).trans (HMM.out t ht), by omega, by omega, H'.out, C'.out⟩
                    case measure => simp [intOf]; omega
                  · go_simp
                    refine at_alloc ?_
                    intro Va hg hT
                    have hxb : sb < V12.heap.size := Bk.out.lt
                    have hxw : w6.heap.size ≤ V12.heap.size := C.out.size
                    have hxM : ∀ b off, (some ⟨bm, om, none⟩ : Option Addr) = some ⟨b, off, none⟩ → b < V12.heap.size := fun b off e => by injection e with e; injection e with e _; rw [← e]; exact ints_lt M6.out.i (by omega)
                    have hxm := hxM bm om rfl
                    generalize V12.heap.size = xb at *
                    have X := Lib.hid hT
                    clear hxM hT
                    replace M6 := Lib.hid (M6.out.keptN hg)
                    replace Bk := Lib.hid (Bk.out.keptN hg)
                    replace J1 := Lib.hid (J1.out.kept hg (fun g e => by cases e))
                    replace J2 := Lib.hid (J2.out.kept hg (fun g e => by cases e))
                    replace O3 := Lib.hid (O3.out.kept hg (fun g e => by cases e))
                    replace C := Lib.hid (gtr' C.out (Draw.grown_some hg))
                    replace H := Lib.hid (H.out.gN hg)
                    clear hg
                    refine hKq.out _ _ (⟨⟨Bk.out.cell 0, Bk.out.cell 1, Bk.out.cell 2, Bk.out.cell 3, Bk.out.cell 4, Bk.out.cell 5⟩, ints_cell M6.out.i hlt⟩) (fun hHeld => ?_)
                    clear hKq Kq
                    refine wpAnyH_ready (rs := [6]) (by kernel_rfl) (by simp) ?_
                    refine AllReadyH.cons (o := ⟨some 109, _, _, _, _, _⟩) rfl (fun Kq hKq => ?_) AllReadyH.nil
                    go_simp
                    go_at_call 81
                    refine (s32put _ need many _ ng _ zg _ nc _ zc msg _ k _ S (zm j) zz J1.out.ints J2.out.ints (sh_own O3.out) (ints_sl J1.out.ints) (ints_sl J2.out.ints) (sh_sl (sh_own O3.out)) (by omega) (by omega) (by omega)).mono ?_
                    rintro e V13 hsp
                    obtain ⟨b1', c1', b2', c2', a3', c3', rfl, hi1, hi2, hO3, hg⟩ := sesP_get HTS.out HFZ.out hsp
                    clear hsp
                    have hsz : w5.heap.size ≤ Va.heap.size := by have h9 := C.out.size; omega
                    have N1 := Lib.hid (show OE V13 w5.heap.size (some ⟨b1', 0, none⟩) ng c1' zg from OI.lower hi1 hsz)
                    have N2 := Lib.hid (show OE V13 w5.heap.size (some ⟨b2', 0, none⟩) nc c2' zc from OI.lower hi2 hsz)
                    have N3 := Lib.hid (hO3.lower hsz)
                    clear hi1 hi2 hO3 hsz
                    clear J1 J2 O3
                    replace M6 := Lib.hid (M6.out.keptN hg)
                    replace Bk := Lib.hid (Bk.out.keptN hg)
                    replace C := Lib.hid (gtr' C.out (Draw.grown_some hg))
                    replace H := Lib.hid (H.out.gN hg)
                    replace X := Lib.hid (X.out.keptN hg)
                    clear hg
                    refine hKq.out _ _ (⟨⟨Bk.out.cell 0, Bk.out.cell 1, Bk.out.cell 2, Bk.out.cell 3, Bk.out.cell 4, Bk.out.cell 5⟩, ints_cell M6.out.i hlt⟩) (fun hHeld => ?_)
                    clear hKq Kq
                    refine wpAnyH_take (i := 7) (oi := ⟨some 102, _, _, _, _, _⟩) (v := ?_) rfl (by kernel_rfl) (by kernel_rfl) (by kernel_rfl) (fun _ _ _ h => h) (Or.inl ⟨by rfl, ?_⟩) (by assumption) ?_
                    rotate_left
                    · intro w hSw; (try dsimp only at hSw); go_simp; try with_reducible rfl
                    simp only [Act.put, List.setIfInBounds_toArray, List.set_cons_zero, List.set_cons_succ]
                    refine wpAnyH_take (i := 8) (oi := ⟨some 110, _, _, _, _, _⟩) (v := ?_) rfl (by kernel_rfl) (by kernel_rfl) (by kernel_rfl) (fun _ _ _ h => h) (Or.inl ⟨by rfl, ?_⟩) (by assumption) ?_
                    rotate_left
                    · intro w hSw; (try dsimp only at hSw); go_simp; try with_reducible rfl
                    simp only [Act.put, List.setIfInBounds_toArray, List.set_cons_zero, List.set_cons_succ]
                    refine wpAnyH_take (i := 9) (oi := ⟨some 111, _, _, _, _, _⟩) (v := ?_) rfl (by kernel_rfl) (by kernel_rfl) (by kernel_rfl) (fun _ _ _ h => h) (Or.inl ⟨by rfl, ?_⟩) (by assumption) ?_
                    rotate_left
                    · intro w hSw; (try dsimp only at hSw); go_simp; try with_reducible rfl
                    simp only [Act.put, List.setIfInBounds_toArray, List.set_cons_zero, List.set_cons_succ]
                    refine wpAnyH_ready (rs := [11]) (by kernel_rfl) (by simp) ?_
                    refine AllReadyH.cons (o := ⟨none, _, _, _, _, _⟩) rfl (fun Kq hKq => ?_) AllReadyH.nil
                    rw [if_pos (by rfl)]
                    refine wp_store_blk 30 (.tmp 16) (.tmp 110) xb _ _ 30 X.out rfl rfl rfl rfl (by kernel_rfl) (by simp [Value.oneCell']) rfl ?_
                    intro V14 hg hT
                    have N1' := N1.out.keptBlk X.out hg; have N2' := N2.out.keptBlk X.out hg; have N3' := N3.out.keptBlk X.out hg
                    clear X N1 N2 N3
                    have X := Lib.hid hT; have N1 := Lib.hid N1'; have N2 := Lib.hid N2'; have N3 := Lib.hid N3'
                    clear hT N1' N2' N3'
                    replace M6 := Lib.hid (M6.out.kept hg (by omega))
                    replace Bk := Lib.hid (Bk.out.kept hg (by intro e; have e := Option.some.inj e; omega))
                    replace C := Lib.hid (grown_any C.out hg (by omega))
                    replace H := Lib.hid (H.out.grownN hg (by omega) (by omega))
                    clear hg
                    refine hKq.out _ _ (⟨⟨Bk.out.cell 0, Bk.out.cell 1, Bk.out.cell 2, Bk.out.cell 3, Bk.out.cell 4, Bk.out.cell 5⟩, ints_cell M6.out.i hlt⟩) (fun hHeld => ?_)
                    clear hKq Kq
                    refine wpAnyH_take (i := 12) (oi := ⟨some 17, _, _, _, _, _⟩) (v := ?_) rfl (by kernel_rfl) (by kernel_rfl) (by kernel_rfl) (fun _ _ _ h => h) (Or.inl ⟨by rfl, ?_⟩) (by assumption) ?_
                    rotate_left
                    · intro w hSw; (try dsimp only at hSw); go_simp; try with_reducible rfl
                    simp only [Act.put, List.setIfInBounds_toArray, List.set_cons_zero, List.set_cons_succ]
                    refine wpAnyH_done (by kernel_rfl) ?_ _
                    clear hHeld
                    have q := X.out.all6
                    obtain ⟨p0, p1, p2, p3, p4, p5, _, _, _, _, _, _⟩ := q
                    go_wp2_with (refine stop_store rfl ?_)
                    refine ⟨trivial, ?_⟩
                    refine wpList_store_blk rfl 30 (.tmp 10) (.tmp 112) _ _ _ 30 Bk.out rfl rfl rfl rfl (by kernel_rfl) (by simp [Value.oneCell']) rfl ?_
                    intro V15 hg hT
                    clear p0 p1 p2 p3 p4 p5
                    have N1' := Lib.hid (N1.out.keptBlk Bk.out hg); have N2' := Lib.hid (N2.out.keptBlk Bk.out hg); have N3' := Lib.hid (N3.out.keptBlk Bk.out hg)
                    have C' := Lib.hid (grown_any C.out hg (by omega)); have H' := Lib.hid (H.out.grownN hg (by omega) (by omega))
                    go_wp2
                    go_roundw
                    case rel => exact ⟨j + 1, _, b1', c1', b2', c2', c3', a3', ptS S (zm j) k zz, by omega, by go_num, hT, N1'.out, N2'.out, N3'.out, ts_pt HTS.out HFZ.out, fun t ht => (congrFun (mS_pt S (zm j) k zz) t).trans (HMM.out t ht), by omega, by omega, H'.out, C'.out⟩
                    case measure => simp [intOf]; omega
          · obtain rfl : j = k := by omega
            have hg := hgc
            clear hgc K6 M6 O6 D6 A6 B6
            replace R6 := Lib.hid (R6.out.kept hg (by intro e; have e := Option.some.inj e; omega))
            replace G6 := Lib.hid (grown_any G6.out hg (by omega))
            clear hg
            have hn1 : 1 ≤ j := by have := ts_facts HTS.out; omega
            obtain ⟨b3, rfl, hjc⟩ := own_ptr O3.out hn1
            have hlo3 := World.ownsRow.lt O3.out b3 rfl
            have hwj : w.heap.size < w5.heap.size := by omega
            have hne : ∀ g, (some w.heap.size : Option Nat) = some g → g < w5.heap.size := fun g e => by have e := Option.some.inj e; omega
            go_wp2_with fail
            refine (pick_any _ _ _ a len cap q' 40 H.out (by omega) (by omega)).mono ?_
            rintro e W2 ⟨x8, x80, x81, rfl, hr, hg, hs⟩
            replace H := Lib.hid hr
            replace R6 := Lib.hid (R6.out.kept hg (by intro e; have e := Option.some.inj e; omega))
            replace G6 := Lib.hid (grown_any G6.out hg (by omega))
            replace Bk := Lib.hid (Bk.out.kept hg (by intro e; have e := Option.some.inj e; omega))
            replace J1 := Lib.hid (J1.out.kept hg (fun g e => by have e := Option.some.inj e; omega))
            replace J2 := Lib.hid (J2.out.kept hg (fun g e => by have e := Option.some.inj e; omega))
            replace O3 := Lib.hid (O3.out.kept hg (fun g e => by have e := Option.some.inj e; omega))
            clear hg
            clear hr
            clear hs
            have hlt3 := (World.ownsRow.lt O3.out b3 rfl).2
            have HNE := Lib.hid (show ¬ sb = b3 from fun e => own_ne_b O3.out Bk.out (by decide) (by rw [e]; rfl))
            clear hf1 xw0 xw1
            have hj0' : 0 < j := by omega
            have hlow : w.heap.size ≤ w5.heap.size := Nat.le_of_lt hwj
            have hRB : w.heap.size ≠ B ∧ base ≤ w.heap.size := by omega
            have hPA : p ≤ q' + 1 := by omega
            have hPB : q' + 1 ≤ p + 60000 := by omega
            have hPC : q' + 1 + 2 ≤ p + 60000 := by omega
            have hj41 : 0 * 4 + 1 < j * 4 := by omega
            have hj42 : 0 * 4 + 2 < j * 4 := by omega
            have hSB : sb ≠ B ∧ base ≤ sb ∧ w.heap.size ≤ sb ∧ w.heap.size ≠ sb := by omega
            have h3B : b3 ≠ B ∧ base ≤ b3 ∧ w.heap.size ≤ b3 ∧ b3 ≠ w.heap.size := by omega
            rcases (by omega : x8 = 0 ∨ x8 = 1 ∨ x8 = 2 ∨ 3 ≤ x8) with rfl | rfl | rfl | h8
            · have Bk2 := Lib.hid (Bk.out.set 4 (.int .i64 100))
              have hgS := grown_set W2 sb 4 (.int .i64 100)
              have J1' := Lib.hid (J1.out.keptBlk Bk.out hgS); have J2' := Lib.hid (J2.out.keptBlk Bk.out hgS); have O3' := Lib.hid (O3.out.keptBlk Bk.out hgS)
              have G' := Lib.hid (grown_any G6.out hgS (.inr hSB.2.2.1)); have H' := Lib.hid (H.out.grownN hgS hSB.1 hSB.2.1)
              have R' := Lib.hid (R6.out.other (b' := sb) (i := 4) (v := .int .i64 100) hSB.2.2.2)
              clear hgS
              obtain ⟨t0, t1, t2, t3, t4, t5, f0, f1, f2, f3, f4, f5⟩ := Bk.out.all6
              go_wp2_with (refine stop_store (ty := 30) rfl ?_)
              refine ⟨trivial, ?_⟩
              refine wpList_store_blk rfl 30 (.tmp 2) (.tmp 138) _ _ _ 30 R'.out rfl rfl rfl rfl (by kernel_rfl) (by simp [Value.oneCell']) rfl ?_
              intro V hgV hRV
              have HGV := Lib.hid hgV; have HRV := Lib.hid hRV; clear hgV hRV
              rename_i hKx
              refine wpList_nil ?_
              refine hKx _ _ (wp_ret ?_)
              refine bodyPost_ret (ret_ses rfl _ rfl HRV.out) rfl ?_
              exact ⟨need, many, some ⟨b1, 0, none⟩, ng, c1, zg, some ⟨b2, 0, none⟩, nc, c2, zc, 100, some ⟨b3, 0, none⟩, j, c3, S, rfl, (J1'.out.kept HGV.out hne).lower hlow, (J2'.out.kept HGV.out hne).lower hlow, (O3'.out.kept HGV.out hne).lower hlow, ⟨hng, hnc, hnm6⟩, grown_any G'.out HGV.out (.inr (Nat.le_refl _)), _, hPA, hPB, H'.out.grownN HGV.out hRB.1 hRB.2⟩
            · skip
              go_wp2_with fail
              refine wp_region_held_drew (S := (fun w' => w'.cell? ⟨sb, 5, none⟩ = some (.slice (some ⟨b3, 0, none⟩) j c3))) (by kernel_rfl) (Bk.out.cell 5) (fun hHeld => ?_)
              have hg := Draw.gdrew W2
              replace R6 := Lib.hid (R6.out.keptN hg)
              replace G6 := Lib.hid (gtr' G6.out (Draw.grown_some hg))
              replace Bk := Lib.hid (Bk.out.keptN hg)
              replace J1 := Lib.hid (J1.out.kept hg (fun g e => by cases e))
              replace J2 := Lib.hid (J2.out.kept hg (fun g e => by cases e))
              replace O3 := Lib.hid (O3.out.kept hg (fun g e => by cases e))
              replace H := Lib.hid (H.out.gN hg)
              clear hg
              generalize (W2).drew = V7 at *
              refine wpAnyH_take (i := 0) (oi := ⟨some 120, _, _, _, _, _⟩) (v := ?_) rfl (by kernel_rfl) (by kernel_rfl) (by kernel_rfl) (fun _ _ _ h => h) (Or.inl ⟨by rfl, ?_⟩) (by assumption) ?_
              rotate_left
              · intro w hSw; (try dsimp only at hSw); go_simp; try with_reducible rfl
              simp only [Act.put, List.setIfInBounds_toArray, List.set_cons_zero, List.set_cons_succ]
              refine wpAnyH_take (i := 1) (oi := ⟨some 121, _, _, _, _, _⟩) (v := ?_) rfl (by kernel_rfl) (by kernel_rfl) (by kernel_rfl) (fun _ _ _ h => h) (Or.inl ⟨by rfl, ?_⟩) (by assumption) ?_
              rotate_left
              · intro w hSw; (try dsimp only at hSw); go_simp; try with_reducible rfl
              simp only [Act.put, List.setIfInBounds_toArray, List.set_cons_zero, List.set_cons_succ]
              refine wpAnyH_take (i := 2) (oi := ⟨some 122, _, _, _, _, _⟩) (v := ?_) rfl (by kernel_rfl) (by kernel_rfl) (by kernel_rfl) (fun _ _ _ h => h) (Or.inl ⟨by rfl, ?_⟩) (by assumption) ?_
              rotate_left
              · intro w hSw; (try dsimp only at hSw); go_simp; try with_reducible rfl
              simp only [Act.put, List.setIfInBounds_toArray, List.set_cons_zero, List.set_cons_succ]
              refine wpAnyH_ready (rs := [3]) (by kernel_rfl) (by simp) ?_
              refine AllReadyH.cons (o := ⟨some 123, _, _, _, _, _⟩) rfl (fun Kq hKq => ?_) AllReadyH.nil
              go_simp
              go_at_call 34
              refine (grp_any _ _ _ a len cap _ H.out (by omega)).mono ?_
              rintro e V8 ⟨u, u0, u1, rfl, hg, p9, hp9, hp9', hr⟩
              replace H := Lib.hid hr
              replace R6 := Lib.hid (R6.out.kept hg (by intro e; have e := Option.some.inj e; omega))
              replace G6 := Lib.hid (grown_any G6.out hg (by omega))
              replace Bk := Lib.hid (Bk.out.kept hg (by intro e; have e := Option.some.inj e; omega))
              replace J1 := Lib.hid (J1.out.kept hg (fun g e => by have e := Option.some.inj e; omega))
              replace J2 := Lib.hid (J2.out.kept hg (fun g e => by have e := Option.some.inj e; omega))
              replace O3 := Lib.hid (O3.out.kept hg (fun g e => by have e := Option.some.inj e; omega))
              clear hg
              clear hr
              refine hKq.out _ _ (Bk.out.cell 5) (fun hHeld => ?_)
              clear hKq Kq
              refine wpAnyH_take (i := 4) (oi := ⟨some 124, _, _, _, _, _⟩) (v := ?_) rfl (by kernel_rfl) (by kernel_rfl) (by kernel_rfl) (fun _ _ _ h => h) (Or.inl ⟨by rfl, ?_⟩) (by assumption) ?_
              rotate_left
              · intro w hSw; (try dsimp only at hSw); go_simp; try with_reducible rfl
              simp only [Act.put, List.setIfInBounds_toArray, List.set_cons_zero, List.set_cons_succ]
              refine wpAnyH_take (i := 5) (oi := ⟨some 125, _, _, _, _, _⟩) (v := ?_) rfl (by kernel_rfl) (by kernel_rfl) (by kernel_rfl) (fun _ _ _ h => h) (Or.inl ⟨by rfl, ?_⟩) (by assumption) ?_
              rotate_left
              · intro w hSw; (try dsimp only at hSw); go_simp; try with_reducible rfl
              simp only [Act.put, List.setIfInBounds_toArray, List.set_cons_zero, List.set_cons_succ]
              have c1 : V8.cell? ⟨b3, 1, none⟩ = some (.int .i64 (S 0).R) := (World.ownsRow.cellAt O3.out (0 * 4 + 1) hj41).trans (cellsS_at S hj0' (by decide))
              have f1 : V8.frozen? ⟨b3, 1, none⟩ = false := World.ownsRow.frozenAt O3.out 1
              refine wpAnyH_ready (rs := [6]) (by kernel_rfl) (by simp) ?_
              refine AllReadyH.cons (o := ⟨none, _, _, _, _, _⟩) rfl (fun Kq hKq => ?_) AllReadyH.nil
              go_simp
              clear c1 f1
              have hg := grown_set V8 b3 1 (.int .i64 u)
              have O3' : OwnSh (V8.setCell ⟨b3, 1, none⟩ (.int .i64 u)) w5.heap.size (.slice (some ⟨b3, 0, none⟩) j c3) j (fun t => if t = 0 then (fun s : SV => (⟨s.m, u, s.on, s.Z⟩ : SV)) (S t) else S t) := own_upd O3.out (fun s : SV => (⟨s.m, u, s.on, s.Z⟩ : SV)) (k := 0) (i := 1) (v := (.int .i64 u)) hj0' (by decide) rfl
              have J1' := J1.out.keptT (own_tyd O3.out) (by decide) hg; have J2' := J2.out.keptT (own_tyd O3.out) (by decide) hg
              have B' := Bk.out.kept hg (fun e => HNE.out (Option.some.inj e))
              have R' := R6.out.kept hg (fun e => h3B.2.2.2 (Option.some.inj e).symm)
              have G' := grown_any G6.out hg (.inr h3B.2.2.1); have H' := H.out.grownN hg h3B.1 h3B.2.1
              clear O3 J1 J2 Bk R6 G6 H hg
              generalize V8.setCell ⟨b3, 1, none⟩ (.int .i64 u) = V9 at *
              have O3 := Lib.hid O3'; have J1 := Lib.hid J1'; have J2 := Lib.hid J2'; have Bk := Lib.hid B'; have R6 := Lib.hid R'; have G6 := Lib.hid G'; have H := Lib.hid H'
              clear O3' J1' J2' B' R' G' H'
              refine hKq.out _ _ (Bk.out.cell 5) (fun hHeld => ?_)
              clear hKq Kq
              refine wpAnyH_done (by kernel_rfl) ?_ _
              obtain ⟨t0, t1, t2, t3, t4, t5, _, _, _, _, _, _⟩ := Bk.out.all6
              go_wp2_with (refine stop_store rfl ?_)
              refine ⟨trivial, ?_⟩
              refine wpList_store_blk rfl 30 (.tmp 2) (.tmp 138) _ _ _ 30 R6.out rfl rfl rfl rfl (by kernel_rfl) (by simp [Value.oneCell']) rfl ?_
              intro V hgV hRV
              have HGV := Lib.hid hgV; have HRV := Lib.hid hRV; clear hgV hRV
              rename_i hKx
              refine wpList_nil ?_
              refine hKx _ _ (wp_ret ?_)
              refine bodyPost_ret (ret_ses rfl _ rfl HRV.out) rfl ?_
              exact ⟨need, many, some ⟨b1, 0, none⟩, ng, c1, zg, some ⟨b2, 0, none⟩, nc, c2, zc, msg, some ⟨b3, 0, none⟩, j, c3, _, rfl, (J1.out.kept HGV.out hne).lower hlow, (J2.out.kept HGV.out hne).lower hlow, (O3.out.kept HGV.out hne).lower hlow, ⟨hng, hnc, hnm6⟩, grown_any G6.out HGV.out (.inr (Nat.le_refl _)), _, (Nat.le_trans hPA hp9), (Nat.le_trans hp9' hPC), H.out.grownN HGV.out hRB.1 hRB.2⟩
            · skip
              have c2 : W2.cell? ⟨b3, 2, none⟩ = some (.bool (S 0).on) := (World.ownsRow.cellAt O3.out (0 * 4 + 2) hj42).trans (cellsS_at S hj0' (by decide))
              go_wp2_with fail
              clear c2
              refine wp_region_held_drew (S := (fun w' => w'.cell? ⟨sb, 5, none⟩ = some (.slice (some ⟨b3, 0, none⟩) j c3))) (by kernel_rfl) (Bk.out.cell 5) (fun hHeld => ?_)
              have hg := Draw.gdrew W2
              replace R6 := Lib.hid (R6.out.keptN hg)
              replace G6 := Lib.hid (gtr' G6.out (Draw.grown_some hg))
              replace Bk := Lib.hid (Bk.out.keptN hg)
              replace J1 := Lib.hid (J1.out.kept hg (fun g e => by cases e))
              replace J2 := Lib.hid (J2.out.kept hg (fun g e => by cases e))
              replace O3 := Lib.hid (O3.out.kept hg (fun g e => by cases e))
              replace H := Lib.hid (H.out.gN hg)
              clear hg
              generalize (W2).drew = V8 at *
              refine wpAnyH_take (i := 0) (oi := ⟨some 128, _, _, _, _, _⟩) (v := ?_) rfl (by kernel_rfl) (by kernel_rfl) (by kernel_rfl) (fun _ _ _ h => h) (Or.inl ⟨by rfl, ?_⟩) (by assumption) ?_
              rotate_left
              · intro w hSw; (try dsimp only at hSw); go_simp; try with_reducible rfl
              simp only [Act.put, List.setIfInBounds_toArray, List.set_cons_zero, List.set_cons_succ]
              refine wpAnyH_take (i := 1) (oi := ⟨some 129, _, _, _, _, _⟩) (v := ?_) rfl (by kernel_rfl) (by kernel_rfl) (by kernel_rfl) (fun _ _ _ h => h) (Or.inl ⟨by rfl, ?_⟩) (by assumption) ?_
              rotate_left
              · intro w hSw; (try dsimp only at hSw); go_simp; try with_reducible rfl
              simp only [Act.put, List.setIfInBounds_toArray, List.set_cons_zero, List.set_cons_succ]
              refine wpAnyH_take (i := 2) (oi := ⟨some 130, _, _, _, _, _⟩) (v := ?_) rfl (by kernel_rfl) (by kernel_rfl) (by kernel_rfl) (fun _ _ _ h => h) (Or.inl ⟨by rfl, ?_⟩) (by assumption) ?_
              rotate_left
              · intro w hSw; (try dsimp only at hSw); go_simp; try with_reducible rfl
              simp only [Act.put, List.setIfInBounds_toArray, List.set_cons_zero, List.set_cons_succ]
              refine wpAnyH_take (i := 3) (oi := ⟨some 131, _, _, _, _, _⟩) (v := ?_) rfl (by kernel_rfl) (by kernel_rfl) (by kernel_rfl) (fun _ _ _ h => h) (Or.inl ⟨by rfl, ?_⟩) (by assumption) ?_
              rotate_left
              · intro w hSw; (try dsimp only at hSw); go_simp; try with_reducible rfl
              simp only [Act.put, List.setIfInBounds_toArray, List.set_cons_zero, List.set_cons_succ]
              refine wpAnyH_take (i := 4) (oi := ⟨some 132, _, _, _, _, _⟩) (v := ?_) rfl (by kernel_rfl) (by kernel_rfl) (by kernel_rfl) (fun _ _ _ h => h) (Or.inl ⟨by rfl, ?_⟩) (by assumption) ?_
              rotate_left
              · intro w hSw; (try dsimp only at hSw); go_simp; try with_reducible rfl
              simp only [Act.put, List.setIfInBounds_toArray, List.set_cons_zero, List.set_cons_succ]
              refine wpAnyH_take (i := 5) (oi := ⟨some 133, _, _, _, _, _⟩) (v := ?_) rfl (by kernel_rfl) (by kernel_rfl) (by kernel_rfl) (fun _ _ _ h => h) (Or.inl ⟨by rfl, ?_⟩) (by assumption) ?_
              rotate_left
              · intro w hSw; (try dsimp only at hSw); go_simp; try with_reducible rfl
              simp only [Act.put, List.setIfInBounds_toArray, List.set_cons_zero, List.set_cons_succ]
              have c2 : V8.cell? ⟨b3, 2, none⟩ = some (.bool (S 0).on) := (World.ownsRow.cellAt O3.out (0 * 4 + 2) hj42).trans (cellsS_at S hj0' (by decide))
              refine wpAnyH_ready (rs := [6]) (by kernel_rfl) (by simp) ?_
              refine AllReadyH.cons (o := ⟨some 134, _, _, _, _, _⟩) rfl (fun Kq hKq => ?_) AllReadyH.nil
              go_simp
              refine hKq.out _ _ (Bk.out.cell 5) (fun hHeld => ?_)
              clear hKq Kq
              refine wpAnyH_take (i := 7) (oi := ⟨some 135, _, _, _, _, _⟩) (v := ?_) rfl (by kernel_rfl) (by kernel_rfl) (by kernel_rfl) (fun _ _ _ h => h) (Or.inl ⟨by rfl, ?_⟩) (by assumption) ?_
              rotate_left
              · intro w hSw; (try dsimp only at hSw); go_simp; try with_reducible rfl
              simp only [Act.put, List.setIfInBounds_toArray, List.set_cons_zero, List.set_cons_succ]
              refine wpAnyH_take (i := 8) (oi := ⟨some 136, _, _, _, _, _⟩) (v := ?_) rfl (by kernel_rfl) (by kernel_rfl) (by kernel_rfl) (fun _ _ _ h => h) (Or.inl ⟨by rfl, ?_⟩) (by assumption) ?_
              rotate_left
              · intro w hSw; (try dsimp only at hSw); go_simp; try with_reducible rfl
              simp only [Act.put, List.setIfInBounds_toArray, List.set_cons_zero, List.set_cons_succ]
              refine wpAnyH_take (i := 9) (oi := ⟨some 137, _, _, _, _, _⟩) (v := ?_) rfl (by kernel_rfl) (by kernel_rfl) (by kernel_rfl) (fun _ _ _ h => h) (Or.inl ⟨by rfl, ?_⟩) (by assumption) ?_
              rotate_left
              · intro w hSw; (try dsimp only at hSw); go_simp; try with_reducible rfl
              simp only [Act.put, List.setIfInBounds_toArray, List.set_cons_zero, List.set_cons_succ]
              have f2 : V8.frozen? ⟨b3, 2, none⟩ = false := World.ownsRow.frozenAt O3.out 2
              refine wpAnyH_ready (rs := [10]) (by kernel_rfl) (by simp) ?_
              refine AllReadyH.cons (o := ⟨none, _, _, _, _, _⟩) rfl (fun Kq hKq => ?_) AllReadyH.nil
              go_simp
              clear c2 f2
              have hg := grown_set V8 b3 2 (.bool (!(S 0).on))
              have O3' : OwnSh (V8.setCell ⟨b3, 2, none⟩ (.bool (!(S 0).on))) w5.heap.size (.slice (some ⟨b3, 0, none⟩) j c3) j (fun t => if t = 0 then (fun s : SV => (⟨s.m, s.R, !s.on, s.Z⟩ : SV)) (S t) else S t) := own_upd O3.out (fun s : SV => (⟨s.m, s.R, !s.on, s.Z⟩ : SV)) (k := 0) (i := 2) (v := (.bool (!(S 0).on))) hj0' (by decide) rfl
              have J1' := J1.out.keptT (own_tyd O3.out) (by decide) hg; have J2' := J2.out.keptT (own_tyd O3.out) (by decide) hg
              have B' := Bk.out.kept hg (fun e => HNE.out (Option.some.inj e))
              have R' := R6.out.kept hg (fun e => h3B.2.2.2 (Option.some.inj e).symm)
              have G' := grown_any G6.out hg (.inr h3B.2.2.1); have H' := H.out.grownN hg h3B.1 h3B.2.1
              clear O3 J1 J2 Bk R6 G6 H hg
              generalize V8.setCell ⟨b3, 2, none⟩ (.bool (!(S 0).on)) = V9 at *
              have O3 := Lib.hid O3'; have J1 := Lib.hid J1'; have J2 := Lib.hid J2'; have Bk := Lib.hid B'; have R6 := Lib.hid R'; have G6 := Lib.hid G'; have H := Lib.hid H'
              clear O3' J1' J2' B' R' G' H'
              refine hKq.out _ _ (Bk.out.cell 5) (fun hHeld => ?_)
              clear hKq Kq
              refine wpAnyH_done (by kernel_rfl) ?_ _
              obtain ⟨t0, t1, t2, t3, t4, t5, _, _, _, _, _, _⟩ := Bk.out.all6
              go_wp2_with (refine stop_store rfl ?_)
              refine ⟨trivial, ?_⟩
              refine wpList_store_blk rfl 30 (.tmp 2) (.tmp 138) _ _ _ 30 R6.out rfl rfl rfl rfl (by kernel_rfl) (by simp [Value.oneCell']) rfl ?_
              intro V hgV hRV
              have HGV := Lib.hid hgV; have HRV := Lib.hid hRV; clear hgV hRV
              rename_i hKx
              refine wpList_nil ?_
              refine hKx _ _ (wp_ret ?_)
              refine bodyPost_ret (ret_ses rfl _ rfl HRV.out) rfl ?_
              exact ⟨need, many, some ⟨b1, 0, none⟩, ng, c1, zg, some ⟨b2, 0, none⟩, nc, c2, zc, msg, some ⟨b3, 0, none⟩, j, c3, _, rfl, (J1.out.kept HGV.out hne).lower hlow, (J2.out.kept HGV.out hne).lower hlow, (O3.out.kept HGV.out hne).lower hlow, ⟨hng, hnc, hnm6⟩, grown_any G6.out HGV.out (.inr (Nat.le_refl _)), _, hPA, hPB, H.out.grownN HGV.out hRB.1 hRB.2⟩
            · skip
              have q0 : (x8 == 0) = false := by simp; omega
              have q1 : (x8 == 1) = false := by simp; omega
              have q2 : (x8 == 2) = false := by simp; omega
              obtain ⟨t0, t1, t2, t3, t4, t5, _, _, _, _, _, _⟩ := Bk.out.all6
              go_wp2_with (refine stop_store rfl ?_)
              refine ⟨trivial, ?_⟩
              refine wpList_store_blk rfl 30 (.tmp 2) (.tmp 138) _ _ _ 30 R6.out rfl rfl rfl rfl (by kernel_rfl) (by simp [Value.oneCell']) rfl ?_
              intro V hgV hRV
              have HGV := Lib.hid hgV; have HRV := Lib.hid hRV; clear hgV hRV
              rename_i hKx
              refine wpList_nil ?_
              refine hKx _ _ (wp_ret ?_)
              refine bodyPost_ret (ret_ses rfl _ rfl HRV.out) rfl ?_
              exact ⟨need, many, some ⟨b1, 0, none⟩, ng, c1, zg, some ⟨b2, 0, none⟩, nc, c2, zc, msg, some ⟨b3, 0, none⟩, j, c3, _, rfl, (J1.out.kept HGV.out hne).lower hlow, (J2.out.kept HGV.out hne).lower hlow, (O3.out.kept HGV.out hne).lower hlow, ⟨hng, hnc, hnm6⟩, grown_any G6.out HGV.out (.inr (Nat.le_refl _)), _, hPA, hPB, H.out.grownN HGV.out hRB.1 hRB.2⟩
end Draw
end Go.Proofs.YteibklnonlapoaaGreatDoor
/-
  Draws of sessions for the laws.
-/

namespace Go.Proofs.YteibklnonlapoaaGreatDoor
namespace Draw
open Go.RowKit Alg Mem Con Mp Hd
set_option linter.unusedVariables false

/-- A session, drawn for a law. -/
def GotSn (w : World) (e : Ending) (w' : World) : Prop := ∃ (need many : Int) (ag : Option Addr) (ng cg : Nat) (zg : Nat → Int) (ac : Option Addr) (nc cc : Nat) (zc : Nat → Int) (msg : Int) (a3 : Option Addr) (n c3 : Nat) (S : Nat → SV), e = .returned (.agg #[.int .i64 need, .int .i64 many, .slice ag ng cg, .slice ac nc cc, .int .i64 msg, .slice a3 n c3]) ∧ OE w' w.heap.size ag ng cg zg ∧ OE w' w.heap.size ac nc cc zc ∧ OwnSh w' w.heap.size (.slice a3 n c3) n S ∧ (ng ≤ 6 ∧ nc ≤ 6 ∧ n ≤ 6) ∧ w.grownBy w' none
/-- .. with a member and a part. -/
def GotSP' (w : World) (e : Ending) (w' : World) : Prop := ∃ (need many : Int) (ag : Option Addr) (ng cg : Nat) (zg : Nat → Int) (ac : Option Addr) (nc cc : Nat) (zc : Nat → Int) (msg : Int) (a3 : Option Addr) (n c3 : Nat) (S : Nat → SV) (m z : Int), e = .returned (.tuple #[.agg #[.int .i64 need, .int .i64 many, .slice ag ng cg, .slice ac nc cc, .int .i64 msg, .slice a3 n c3], .int .i64 m, .int .i64 z]) ∧ OE w' w.heap.size ag ng cg zg ∧ OE w' w.heap.size ac nc cc zc ∧ OwnSh w' w.heap.size (.slice a3 n c3) n S ∧ (ng ≤ 6 ∧ nc ≤ 6 ∧ n ≤ 6) ∧ w.grownBy w' none
theorem sesPQ_get {w : World} {need many : Int} {ng : Nat} {zg : Nat → Int} {nc : Nat} {zc : Nat → Int} {msg : Int} {n : Nat} {S : Nat → SV} {m z : Int} {e : Ending} {w' : World} (h1 : tsF need many ng zg nc zc msg n S = true) (h2 : fok z = true) (h : SesPQ w need many ng zg nc zc msg n S m z e w') : SesQ w need many ng zg nc zc msg n (ptS S m n z) (hasz (mS S) m n) e w' := by
  unfold SesPQ at h; rw [if_pos ⟨h1, h2⟩] at h; exact h
theorem sesP_none {w : World} {need many : Int} {ng : Nat} {zg : Nat → Int} {nc : Nat} {zc : Nat → Int} {msg : Int} {n : Nat} {S : Nat → SV} {m z : Int} {e : Ending} {w' : World} (h1 : ¬ (tsF need many ng zg nc zc msg n S = true ∧ fok z = true)) (h : SesP w need many ng zg nc zc msg n S m z e w') : SesZ w e w' := by
  unfold SesP at h; rw [if_neg h1] at h; exact h
theorem sesPQ_none {w : World} {need many : Int} {ng : Nat} {zg : Nat → Int} {nc : Nat} {zc : Nat → Int} {msg : Int} {n : Nat} {S : Nat → SV} {m z : Int} {e : Ending} {w' : World} (h1 : ¬ (tsF need many ng zg nc zc msg n S = true ∧ fok z = true)) (h : SesPQ w need many ng zg nc zc msg n S m z e w') : SesZ w e w' := by
  unfold SesPQ at h; rw [if_neg h1] at h; exact h
theorem ret_s3 {fn : Func} {p q u : Tmp} (h : fn.results = #[.cell p 30, .tmp q, .tmp u]) (tmps : Array Value) {w : World} {b : Nat} {v0 v1 v2 v3 v4 v5 : Value} {T : TypeId} (hp : tmps.getD p undef = .pointer (some ⟨b, 0, none⟩)) (hb : Blk w b #[v0, v1, v2, v3, v4, v5] T) :
    (results fn tmps).run Tryz.prog w = .ok (.tuple #[.agg #[v0, v1, v2, v3, v4, v5], tmps.getD q undef, tmps.getD u undef]) w := by
  have hp' : tmps[p]?.getD undef = .pointer (some ⟨b, 0, none⟩) := by simpa using hp
  simp [results, h, hp', asAddr, run_loadVar_row w b T 30 #[v0, v1, v2, v3, v4, v5] (0, 0) _ hb Tryz.underlying30 rfl size_ses, Result.andThen]
set_option maxRecDepth 100000 in
set_option maxHeartbeats 4000000 in
theorem drawSesBad (w : World) (a : Option Addr) (len cap : Nat) (hB : Bytes w w.heap.size a len) (hc : len ≤ cap) (hm : cap ≤ maxLen) :
    Calls Tryz.prog 15 #[.slice a len cap] w (GotSn w) := by
  have hs0 : (w.alloc (.cells #[.int .i64 0, .int .i64 0, .slice none 0 0, .slice none 0 0, .int .i64 0, .slice none 0 0] 30)).heap.size = w.heap.size + 1 := by show (w.heap.push _).size = _; simp
  have G := Lib.hid (grown_alloc w (.cells #[.int .i64 0, .int .i64 0, .slice none 0 0, .slice none 0 0, .int .i64 0, .slice none 0 0] 30) none)
  have HB := Lib.hid (hB.kept (w' := w.alloc (.cells #[.int .i64 0, .int .i64 0, .slice none 0 0, .slice none 0 0, .int .i64 0, .slice none 0 0] 30)) (fun k hk => Below.heap_alloc _ _ _ hk))
  have R := Lib.hid (Blk.new w #[.int .i64 0, .int .i64 0, .slice none 0 0, .slice none 0 0, .int .i64 0, .slice none 0 0] 30)
  clear hB
  go_enter Tryz.func15, Tryz.ntmps15
  go_wp2_with fail
  refine (open_any _ w.heap.size a len cap HB.out (by omega) hc hm).mono ?_
  rintro e w1 ⟨rfl, hg, hs1, l1, c1', hr1⟩
  rw [hs0] at hr1 hs1
  have H := Lib.hid hr1
  replace G := Lib.hid (gtr G.out hg)
  replace R := Lib.hid (R.out.keptN hg)
  clear hg
  have hw1 : w.heap.size + 1 < w1.heap.size := by omega
  clear hr1 hs1 HB hs0
  go_wp2_with fail
  refine (sess_any _ _ _ a l1 c1' 0 H.out (by omega)).mono ?_
  rintro e w2 ⟨need, many, ag, ng, cg, zg, ac, nc, cc, zc, msg, a3, n, c3, S, rfl, hq1, hq2, hq3, hbd, hg, p2, hp2, hp2', hr⟩
  have I1 := Lib.hid hq1; have I2 := Lib.hid hq2; have O := Lib.hid hq3
  have hw2 := hg.size
  replace H := Lib.hid hr
  replace G := Lib.hid (grown_new G.out (by omega) hg)
  replace R := Lib.hid (R.out.kept hg (by intro e; have e := Option.some.inj e; omega))
  clear hg
  clear hr
  clear hq1 hq2 hq3
  go_wp2_with (first
    | (refine wpList_store_blk rfl 30 (.tmp 2) (.tmp 5) _ _ _ 30 R.out rfl rfl rfl rfl (by kernel_rfl) (by simp [Value.oneCell']) rfl ?_; intro V hgV hRV; have HGV := Lib.hid hgV; have HRV := Lib.hid hRV; clear hgV hRV))
  (try simp only [Exit.inBlock, Exit.then])
  refine bodyPost_ret (ret_ses rfl _ rfl HRV.out) rfl ?_
  have hne : ∀ g, (some w.heap.size : Option Nat) = some g → g < w1.heap.size := fun g e => by have e := Option.some.inj e; omega
  exact ⟨need, many, ag, ng, cg, zg, ac, nc, cc, zc, msg, a3, n, c3, S, rfl, (I1.out.kept HGV.out hne).lower (by omega), (I2.out.kept HGV.out hne).lower (by omega), (O.out.kept HGV.out hne).lower (by omega), hbd, grown_new G.out (Nat.le_refl _) HGV.out⟩
set_option maxRecDepth 100000 in
set_option maxHeartbeats 4000000 in
theorem drawSesSig (w : World) (a : Option Addr) (len cap : Nat) (hB : Bytes w w.heap.size a len) (hc : len ≤ cap) (hm : cap ≤ maxLen) :
    Calls Tryz.prog 23 #[.slice a len cap] w (GotSn w) := by
  have hs0 : (w.alloc (.cells #[.int .i64 0, .int .i64 0, .slice none 0 0, .slice none 0 0, .int .i64 0, .slice none 0 0] 30)).heap.size = w.heap.size + 1 := by show (w.heap.push _).size = _; simp
  have G := Lib.hid (grown_alloc w (.cells #[.int .i64 0, .int .i64 0, .slice none 0 0, .slice none 0 0, .int .i64 0, .slice none 0 0] 30) none)
  have HB := Lib.hid (hB.kept (w' := w.alloc (.cells #[.int .i64 0, .int .i64 0, .slice none 0 0, .slice none 0 0, .int .i64 0, .slice none 0 0] 30)) (fun k hk => Below.heap_alloc _ _ _ hk))
  have R := Lib.hid (Blk.new w #[.int .i64 0, .int .i64 0, .slice none 0 0, .slice none 0 0, .int .i64 0, .slice none 0 0] 30)
  clear hB
  go_enter Tryz.func23, Tryz.ntmps23
  go_wp2_with fail
  refine (open_any _ w.heap.size a len cap HB.out (by omega) hc hm).mono ?_
  rintro e w1 ⟨rfl, hg, hs1, l1, c1', hr1⟩
  rw [hs0] at hr1 hs1
  have H := Lib.hid hr1
  replace G := Lib.hid (gtr G.out hg)
  replace R := Lib.hid (R.out.keptN hg)
  clear hg
  have hw1 : w.heap.size + 1 < w1.heap.size := by omega
  clear hr1 hs1 HB hs0
  go_wp2_with fail
  refine (sess_any _ _ _ a l1 c1' 0 H.out (by omega)).mono ?_
  rintro e w2 ⟨need, many, ag, ng, cg, zg, ac, nc, cc, zc, msg, a3, n, c3, S, rfl, hq1, hq2, hq3, hbd, hg, p2, hp2, hp2', hr⟩
  have I1 := Lib.hid hq1; have I2 := Lib.hid hq2; have O := Lib.hid hq3
  have hw2 := hg.size
  replace H := Lib.hid hr
  replace G := Lib.hid (grown_new G.out (by omega) hg)
  replace R := Lib.hid (R.out.kept hg (by intro e; have e := Option.some.inj e; omega))
  clear hg
  clear hr
  clear hq1 hq2 hq3
  go_wp2_with (first
    | (refine wpList_store_blk rfl 30 (.tmp 2) (.tmp 5) _ _ _ 30 R.out rfl rfl rfl rfl (by kernel_rfl) (by simp [Value.oneCell']) rfl ?_; intro V hgV hRV; have HGV := Lib.hid hgV; have HRV := Lib.hid hRV; clear hgV hRV))
  (try simp only [Exit.inBlock, Exit.then])
  refine bodyPost_ret (ret_ses rfl _ rfl HRV.out) rfl ?_
  have hne : ∀ g, (some w.heap.size : Option Nat) = some g → g < w1.heap.size := fun g e => by have e := Option.some.inj e; omega
  exact ⟨need, many, ag, ng, cg, zg, ac, nc, cc, zc, msg, a3, n, c3, S, rfl, (I1.out.kept HGV.out hne).lower (by omega), (I2.out.kept HGV.out hne).lower (by omega), (O.out.kept HGV.out hne).lower (by omega), hbd, grown_new G.out (Nat.le_refl _) HGV.out⟩
end Draw
end Go.Proofs.YteibklnonlapoaaGreatDoor
