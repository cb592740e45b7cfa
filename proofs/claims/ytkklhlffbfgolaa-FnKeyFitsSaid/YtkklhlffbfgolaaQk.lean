/-
  How the model draws a key with the shares of all members, and one of them.
-/
import Derived.Test.YtkklhlffbfgolaaQg
import Derived.Test.YtkklhlffbfgolaaDrawNum
import Derived.RegionTactic
namespace Go.Proofs.Ytkklhlffbfgolaa
namespace Draw
open Go.RowKit Alg Mem Con Mp
set_option linter.unusedVariables false

theorem und_hlds : Try.prog.underlying 38 = some (.slice 42) := by kernel_rfl
theorem info_hld : (Try.prog.info? 42).map (fun i => (i.zero, i.size, i.bytes)) = some (some (.agg #[.int .i64 0, .int .i64 0]), 2, 16) := by kernel_rfl
/-- Shares with their members, the call's own, whatever they are. -/
def OwnH (w : World) (lo : Nat) (v : Value) (k : Nat) : Prop := ∃ zs : List Int, w.ownsRow lo 42 2 v k (zs.map fun z => .int .i64 z)
theorem OwnH.kept {w w' : World} {lo : Nat} {v : Value} {k : Nat} {r : Option Nat} (h : OwnH w lo v k) (hg : w.grownBy w' r) (hr : ∀ g, r = some g → g < lo) : OwnH w' lo v k := by
  obtain ⟨zs, h⟩ := h
  refine ⟨zs, h.kept hg ?_⟩
  cases hv : v.ownBlock with
  | none => exact .inl rfl
  | some g => refine .inr (fun e => ?_); have h1 := (h.lt g hv).1; have h2 := hr g e.symm; omega
theorem OwnH.lower {w : World} {lo lo' : Nat} {v : Value} {k : Nat} (h : OwnH w lo v k) (hl : lo' ≤ lo) : OwnH w lo' v k := by
  obtain ⟨zs, h⟩ := h; exact ⟨zs, owns_lower h hl⟩
theorem OwnH.ptr {w : World} {lo : Nat} {v : Value} {k : Nat} (h : OwnH w lo v k) (hk : 1 ≤ k) : ∃ g c, v = .slice (some ⟨g, 0, none⟩) k c ∧ lo ≤ g ∧ g < w.heap.size ∧ k ≤ c ∧ c ≤ maxLen ∧ (∀ j, j < k * 2 → ∃ z, w.cell? ⟨g, j, none⟩ = some (.int .i64 z)) ∧ (∀ j, w.frozen? ⟨g, j, none⟩ = false) ∧ ∀ j z, OwnH (w.setCell ⟨g, j, none⟩ (.int .i64 z)) lo v k := by
  obtain ⟨zs, h⟩ := h
  rcases h.2 with ⟨_, h0⟩ | ⟨g, c, cur, hv, hb, hg, hnc, hcm, _⟩
  · omega
  · subst hv
    have hl := h.lt g rfl
    refine ⟨g, c, rfl, hl.1, hl.2, hnc, hcm, fun j hj => ?_, fun j => h.frozenAt j, fun j z => ?_⟩
    · have := h.cellAt j hj
      have hzl : (zs.map fun z => (.int .i64 z : Value)).length = k * 2 := h.1
      have hz2 : j < zs.length := by have := hzl; simp at this; omega
      exact ⟨zs[j], by rw [this]; simp [hz2]⟩
    · exact ⟨zs.set j z, by rw [List.map_set]; exact (h.stored j (.int .i64 z)).1⟩
/-- A key with all shares, drawn. -/
def GotHl (w : World) (base B : Nat) (a : Option Addr) (len cap p : Nat) (e : Ending) (w' : World) : Prop :=
  ∃ (need many : Nat) (ag : Option Addr) (ng cg : Nat) (zg : Nat → Int) (ac : Option Addr) (nc cc : Nat) (zc : Nat → Int) (v : Value), e = .returned (.tuple #[.agg #[.int .i64 need, .int .i64 many, .slice ag ng cg, .slice ac nc cc], v]) ∧ KeyIn w w' need many ag ng zg ac nc zc ∧ 1 ≤ many ∧ OwnH w' w.heap.size v many ∧ w.grownBy w' (some B) ∧ ∃ p', p ≤ p' ∧ p' ≤ p + 50000 ∧ Rd w' base B a len cap p'
theorem goth_mk {w W : World} {base B : Nat} {a : Option Addr} {len cap p p' R : Nat} {need many : Nat} {ag : Option Addr} {ng cg : Nat} {zg : Nat → Int} {ac : Option Addr} {nc cc : Nat} {zc : Nat → Int} {v : Value} {wk : World} {v0 v1 v2 v3 : Value} (hb : Blk W R #[v0, v1, v2, v3] 25) (hR : w.heap.size ≤ R) (hRk : R < wk.heap.size) (hk : KeyIn wk W need many ag ng zg ac nc zc) (hm : 1 ≤ many) (hO : OwnH W wk.heap.size v many) (hg : w.grownBy W (some B)) (hB : B < w.heap.size) (h1 : p ≤ p') (h2 : p' ≤ p + 50000) (hrd : Rd W base B a len cap p') :
    Blk (stored4 W R (.int .i64 need) (.int .i64 many) (.slice ag ng cg) (.slice ac nc cc)) R #[.int .i64 need, .int .i64 many, .slice ag ng cg, .slice ac nc cc] 25 ∧
    GotHl w base B a len cap p (.returned (.tuple #[.agg #[.int .i64 need, .int .i64 many, .slice ag ng cg, .slice ac nc cc], v])) (stored4 W R (.int .i64 need) (.int .i64 many) (.slice ag ng cg) (.slice ac nc cc)) := by
  have g1 : W.grownBy (stored4 W R (.int .i64 need) (.int .i64 many) (.slice ag ng cg) (.slice ac nc cc)) (some R) := gtr' (gtr' (gtr' (grown_set W R 0 (.int .i64 need)) (grown_set _ R 1 (.int .i64 many))) (grown_set _ R 2 (.slice ag ng cg))) (grown_set _ R 3 (.slice ac nc cc))
  have hr : ∀ g, (some R : Option Nat) = some g → g < wk.heap.size := fun g e => by have e := Option.some.inj e; omega
  have hf := hrd.from_
  exact ⟨(((hb.set 0 _).set 1 _).set 2 _).set 3 _, need, many, ag, ng, cg, zg, ac, nc, cc, zc, v, rfl, (hk.kept g1 hr).lower (by omega), hm, (hO.kept g1 hr).lower (by omega), grown_newR hg hR g1, p', h1, h2, hrd.grownN g1 (by omega) (by omega)⟩
theorem accV_any (o : Option Int) : ∃ s b, accV o = .tuple #[.int .i64 s, .bool b] := by
  cases o with
  | none => exact ⟨0, false, rfl⟩
  | some s => exact ⟨s, true, rfl⟩
set_option maxRecDepth 100000 in
set_option maxHeartbeats 4000000 in
theorem held_any (w : World) (base B : Nat) (a : Option Addr) (len cap p : Nat) (h : Rd w base B a len cap p) (hp : p ≤ 1000) :
    Calls Try.prog 19 #[.pointer (some ⟨B, 0, none⟩)] w (GotHl w base B a len cap p) := by
  have hBw := h.lt
  have HR := Lib.hid (h.alloc (.cells #[.int .i64 0, .int .i64 0, .slice none 0 0, .slice none 0 0] 25)); clear h
  have HR0 := Lib.hid (Blk.new w #[.int .i64 0, .int .i64 0, .slice none 0 0, .slice none 0 0] 25)
  have HG0 := Lib.hid (grown_alloc w (.cells #[.int .i64 0, .int .i64 0, .slice none 0 0, .slice none 0 0] 25) (some B))
  obtain ⟨i0, hi, hz0, hz1, hz2⟩ := info_parts info_hld
  go_enter Try.func19, Try.ntmps19
  go_wp2_with fail
  refine (key_any _ base B a len cap p HR.out hp).mono ?_
  rintro e w2 ⟨need, many, ag, ng, cg, zg, ac, nc, cc, zc, v, L, vA, LA, rfl, hk, hac, hD, ⟨hm1, hL⟩, hA, hLA, hg2, p2, hp2, hp2', hr2⟩
  have hs1 : (w.alloc (.cells #[.int .i64 0, .int .i64 0, .slice none 0 0, .slice none 0 0] 25)).heap.size = w.heap.size + 1 := by show (w.heap.push _).size = _; simp
  have hs2 := hg2.size
  rw [hs1] at hs2
  obtain ⟨ad, cd, rfl, hdi⟩ := hD.din
  obtain ⟨aa, ca, rfl, hans, hwf⟩ := hA.ans
  have HR2 := Lib.hid (HR0.out.kept hg2 (by intro e; have e := Option.some.inj e; omega)); have HG2 := Lib.hid (gtr' HG0.out hg2); have HRd2 := Lib.hid hr2; have HK2 := Lib.hid hk; have HD2 := Lib.hid hD; have HDI := Lib.hid hdi.di; have HA2 := Lib.hid hans
  have hm6 := hk.m5; have hng := hk.g6; have hnc := hk.c5
  clear hr2 hg2 HR0 HG0 HR hk hD hA hdi hans hwf hac
  have HKb := Lib.hid ((Blk.new w2 #[.int .i64 need, .int .i64 many, .slice ag ng cg, .slice ac nc cc] 25).keptN (grown_alloc _ (.cells #[] 42) none))
  have hsk : (w2.alloc (.cells #[.int .i64 need, .int .i64 many, .slice ag ng cg, .slice ac nc cc] 25)).heap.size = w2.heap.size + 1 := by show (w2.heap.push _).size = _; simp
  have HO0 := Lib.hid (show OwnH ((w2.alloc (.cells #[.int .i64 need, .int .i64 many, .slice ag ng cg, .slice ac nc cc] 25)).alloc (.cells #[] 42)) w2.heap.size (.slice (some ⟨w2.heap.size + 1, 0, none⟩) 0 0) 0 from ⟨[], by rw [← hsk]; exact owns_lower ⟨rfl, .inr ⟨_, 0, #[], rfl, Nat.le_refl _, Blk.new _ #[] _, Nat.le_refl _, by decide, rfl, rfl⟩⟩ (by rw [hsk]; exact Nat.le_succ _)⟩)
  have HGk := Lib.hid (gtr (grown_alloc w2 (.cells #[.int .i64 need, .int .i64 many, .slice ag ng cg, .slice ac nc cc] 25) none) (grown_alloc _ (.cells #[] 42) none))
  go_wp2
  go_loopw [7, 8] (fun v i W => ∃ (k : Nat), k ≤ many ∧ i = .int .i64 ((k : Int) + 1) ∧ OwnH W w2.heap.size v k ∧ Blk W w2.heap.size #[.int .i64 need, .int .i64 many, .slice ag ng cg, .slice ac nc cc] 25 ∧ w2.grownBy W none) (fun _ i _ => many + 1 - (intOf i).toNat)
  case atStart => exact ⟨0, by omega, rfl, HO0.out, HKb.out, HGk.out⟩
  case round =>
    obtain ⟨k, hk, rfl, ho, hb, hg⟩ := hrel
    obtain ⟨W1, hW⟩ : ∃ W, W = wr := ⟨_, rfl⟩; subst hW
    obtain ⟨v1, hW⟩ : ∃ W, W = u7 := ⟨_, rfl⟩; subst hW
    have HO := Lib.hid ho; have HB := Lib.hid hb; have HG := Lib.hid hg
    have hs3 := hg.size
    clear ho hb hg
    obtain ⟨k0, k1, k2, k3, f0, f1, f2, f3⟩ := HB.out.all4
    by_cases hlt : k < many
    · have hlt' : (k : Int) + 1 ≤ (many : Int) := by omega
      obtain ⟨s, bb, hsb⟩ := accV_any (kshF need many ng zg nc zc (dAt L) L.length (aAt LA) LA.length ((k : Int) + 1))
      go_wp2_with fail
      refine (skeyshare _ need many _ _ _ zg _ _ _ zc _ _ _ (dAt L) _ _ _ (aAt LA) _ (HK2.out.ig.kept HG.out) (HK2.out.ic.kept HG.out) (HDI.out.kept HG.out) (fun j hj => by obtain ⟨h1, h2, _⟩ := HD2.out.fine _ (dAt_mem hj); exact ⟨by omega, by omega⟩) (HA2.out.kept HG.out) (by omega) (by omega) (by omega) (by omega)).mono ?_
      rintro e w3 ⟨rfl, hg3⟩
      rw [hsb]
      have HG3 := Lib.hid (gtr HG.out hg3); have HB3 := Lib.hid (HB.out.keptN hg3); have HO3 := Lib.hid (HO.out.kept hg3 (fun g e => by cases e))
      have hs4 := HG3.out.size
      clear hg3 hsb k0 k1 k2 k3 f0 f1 f2 f3
      obtain ⟨zs, hzs⟩ := HO3.out
      have HZ := Lib.hid hzs; clear hzs
      go_wp2_with (at_builtin; refine wpList_append_own _ rfl _ _ 38 rfl w2.heap.size 42 i0 (.agg #[.int .i64 0, .int .i64 0]) 2 16 und_hlds hi hz0 hz1 hz2 rfl (by decide) v1 k _ rfl (HZ.out.alloc _) ⟨w3.heap.size, 0, none⟩ 1 1 [.int .i64 ((k : Int) + 1), .int .i64 s] rfl rfl (World.news_of_block (cs := #[.int .i64 ((k : Int) + 1), .int .i64 s]) (t := 42) (fr := (0, 0)) (heap_alloc_new w3 _)) (by simp [Value.oneCell']) (by unfold maxLen; omega) (by omega) (by simp; omega) ?_; intro v' W4 hown' hgrow _)
      have HO4 := Lib.hid (show OwnH W4 w2.heap.size v' (k + 1) from ⟨zs ++ [(k : Int) + 1, s], by simpa using hown'⟩)
      have hgw : w3.grownBy W4 v1.ownBlock := grown_trans (grown_alloc w3 _ _) hgrow
      have hne : ∀ g, v1.ownBlock = some g → w2.heap.size ≤ g ∧ g ≠ w2.heap.size := fun g hv => ⟨(HZ.out.lt g hv).1, fun e => by
        subst e
        rcases HZ.out.2 with ⟨hv', _⟩ | ⟨g', c', cur, hv', _, hgg, _⟩
        · rw [hv'] at hv; cases hv
        · rw [hv'] at hv
          have hv := Option.some.inj hv
          have hB := HB3.out
          simp only at hv
          subst hv
          unfold Blk at hB; rw [hgg] at hB; injection hB with hB; injection hB with _ hB _; exact absurd hB (by decide)⟩
      have HB4 := Lib.hid (HB3.out.kept hgw (by intro e; exact (hne _ e.symm).2 rfl))
      have HG4 := Lib.hid (show w2.grownBy W4 none by
        cases hv : v1.ownBlock with
        | none => rw [hv] at hgw; exact gtr HG3.out hgw
        | some g => rw [hv] at hgw; exact grown_new HG3.out (hne g hv).1 hgw)
      clear hown' hgrow hgw hne
      go_wp2
      go_roundw
      case rel => exact ⟨k + 1, by omega, by go_num, HO4.out, HB4.out, HG4.out⟩
      case measure => simp [intOf]; omega
    · obtain rfl : k = many := by omega
      have hlt' : ¬ (k : Int) + 1 ≤ (k : Int) := by omega
      have HRd3 := Lib.hid (HRd2.out.kept (w' := W1) (fun j hj => HG.out.block j (by have := HRd2.out.lt; have := HRd2.out.from_; omega) (by simp)) (HG.out.block B HRd2.out.lt (by simp)))
      go_wp2_with fail
      refine (pick_any _ base B a len cap p2 4 HRd3.out (by omega) (by omega)).mono ?_
      rintro e W4 ⟨x, x0, x1, rfl, hr, hg, hsz⟩
      have HR4 := Lib.hid ((HR2.out.keptN HG.out).kept hg (by intro e; have e := Option.some.inj e; omega))
      have HB4 := Lib.hid (HB.out.kept hg (by intro e; have e := Option.some.inj e; omega))
      have HK4 := Lib.hid ((HK2.out.kept HG.out (fun g e => by cases e)).kept hg (fun g e => by have e := Option.some.inj e; omega))
      have HO4 := Lib.hid (HO.out.kept hg (fun g e => by have e := Option.some.inj e; omega))
      have HG4 := Lib.hid (gtr' (gtr' HG2.out (grown_some HG.out)) hg); have HRd4 := Lib.hid hr
      have hs5 := hg.size
      have hg4 := hg
      clear hr hg hsz k0 k1 k2 k3 f0 f1 f2 f3
      obtain ⟨g, c, rfl, hgl, hgs, hkc, hcm, hcel, hfro, hset⟩ := HO4.out.ptr hm1
      clear hset
      have HS4 := Lib.hid ((Same.rfl'.grown (Nat.le_refl _) HG.out (fun g e => by cases e)).grown (lo := w.heap.size + 1) (hi := w2.heap.size) (Nat.le_refl _) hg4 (fun g e => by have e := Option.some.inj e; omega))
      clear hg4
      have hpos : (0 : Int) < (k : Int) := by omega
      obtain ⟨r0, r1, r2, r3, j0, j1, j2, j3⟩ := HR4.out.all4
      have hl0 := HR4.out.lt; have hl1 := HB4.out.lt
      rcases (by omega : x = 0 ∨ 1 ≤ x) with rfl | hx
      · go_wp2_with fail
        refine (pick_any _ base B a len cap (p2 + 1) k HRd4.out (by omega) (by omega)).mono ?_
        rintro e W5 ⟨y, y0, y1, rfl, hr, hg, hsz⟩
        obtain ⟨m, rfl⟩ : ∃ m : Nat, y = m := ⟨y.toNat, by omega⟩
        have HR5 := Lib.hid (HR4.out.kept hg (by intro e; have e := Option.some.inj e; omega))
        have HB5 := Lib.hid (HB4.out.kept hg (by intro e; have e := Option.some.inj e; omega))
        have HO5 := Lib.hid (HO4.out.kept hg (fun g e => by have e := Option.some.inj e; omega))
        have HS5 := Lib.hid (HS4.out.grown (Nat.le_refl _) hg (fun g e => by have e := Option.some.inj e; omega))
        have HG5 := Lib.hid (gtr' HG4.out hg); have HRd5 := Lib.hid hr
        have hs6 := hg.size
        clear hr hg hsz r0 r1 r2 r3 j0 j1 j2 j3 hcel hfro
        go_wp2_with fail
        refine (pick_any _ base B a len cap (p2 + 1 + 1) 23 HRd5.out (by omega) (by omega)).mono ?_
        rintro e W6 ⟨z, z0, z1, rfl, hr, hg, hsz⟩
        have HR6 := Lib.hid (HR5.out.kept hg (by intro e; have e := Option.some.inj e; omega))
        have HB6 := Lib.hid (HB5.out.kept hg (by intro e; have e := Option.some.inj e; omega))
        have HO6 := Lib.hid (HO5.out.kept hg (fun g e => by have e := Option.some.inj e; omega))
        have HS6 := Lib.hid (HS5.out.grown (Nat.le_refl _) hg (fun g e => by have e := Option.some.inj e; omega))
        have HG6 := Lib.hid (gtr' HG5.out hg); have HRd6 := Lib.hid hr
        have hs7 := hg.size
        clear hr hg hsz
        obtain ⟨g', c', hv6, hgl', hgs', hkc', hcm', hcel, hfro, hset⟩ := HO6.out.ptr hm1
        injection hv6 with e1 _ e3; injection e1 with e1; injection e1 with e1 _; subst e1; subst e3
        obtain ⟨z9, hcel9⟩ := hcel (m * 2 + 1) (by omega)
        have hfr9 := hfro (m * 2 + 1)
        have HO9 := Lib.hid (hset (m * 2 + 1) z)
        have hg1 := grown_set W6 g (m * 2 + 1) (.int .i64 z)
        have hgK : w2.heap.size ≠ g := fun e => by
          subst e
          rcases HO6.out with ⟨zs, h⟩
          rcases h.2 with ⟨hv', _⟩ | ⟨g', c', cur, hv', _, hgg, _⟩
          · cases hv'
          · injection hv' with e1 _ _; injection e1 with e1; injection e1 with e1 _; subst e1
            have hB := HB6.out
            unfold Blk at hB; rw [hgg] at hB; injection hB with hB; injection hB with _ hB _; exact absurd hB (by decide)
        have HR7 := Lib.hid (HR6.out.other (b' := g) (i := m * 2 + 1) (v := .int .i64 z) (by omega))
        have HB7 := Lib.hid (HB6.out.other (b' := g) (i := m * 2 + 1) (v := .int .i64 z) hgK)
        have hS1 := HS6.out.grown (Nat.le_refl _) hg1 (fun g e => by have e := Option.some.inj e; omega)
        have hK1 : KeyIn (w.alloc (.cells #[.int .i64 0, .int .i64 0, .slice none 0 0, .slice none 0 0] 25)) (W6.setCell ⟨g, m * 2 + 1, none⟩ (.int .i64 z)) need k ag ng zg ac nc zc :=
          ⟨HK2.out.n5, HK2.out.m5, HK2.out.g6, HK2.out.c5, ints_same HK2.out.ig HK2.out.rg (by rw [hs1]; exact hS1.1) hS1.2, ints_same HK2.out.ic HK2.out.rc (by rw [hs1]; exact hS1.1) hS1.2, (fun b off e => by have := HK2.out.rg b off e; have := hS1.2; omega), (fun b off e => by have := HK2.out.rc b off e; have := hS1.2; omega)⟩
        have HE := Lib.hid (goth_mk (w := w) (p := p) (p' := p2 + 1 + 1 + 1) (cg := cg) (cc := cc) HR7.out (Nat.le_refl _) (by rw [hs1]; omega) hK1 hm1 (HO9.out.lower (by rw [hs1]; omega)) (grown_newR HG6.out (by omega) hg1) hBw (by omega) (by omega) (HRd6.out.grownN hg1 (by omega) (by have := HRd6.out.from_; omega)))
        obtain ⟨r0, r1, r2, r3, j0, j1, j2, j3⟩ := HR6.out.all4
        obtain ⟨k0, k1, k2, k3, f0, f1, f2, f3⟩ := HB6.out.all4
        have hl0' := HR6.out.lt; have hl1' := HB6.out.lt
        clear hK1 hS1 hg1 hcel hfro hset
        go_wp2
        (try simp only [Exit.inBlock, Exit.then])
        refine bodyPost_ret (ret_key2 rfl _ rfl HE.out.1) rfl ?_
        exact HE.out.2
      · have e0 : (x == 0) = false := by simp; omega
        obtain ⟨k0, k1, k2, k3, f0, f1, f2, f3⟩ := HB4.out.all4
        have HE := Lib.hid (goth_mk (w := w) (p := p) (p' := p2 + 1) (cg := cg) (cc := cc) HR4.out (Nat.le_refl _) (by rw [hs1]; omega) HK4.out hm1 (HO4.out.lower (by rw [hs1]; omega)) HG4.out hBw (by omega) (by omega) HRd4.out)
        go_wp2
        (try simp only [Exit.inBlock, Exit.then])
        refine bodyPost_ret (ret_key2 rfl _ rfl HE.out.1) rfl ?_
        exact HE.out.2
/-- A key with one member and a share, drawn from the program's input. -/
def GotF (w : World) (e : Ending) (w' : World) : Prop :=
  ∃ (need many : Nat) (ag : Option Addr) (ng cg : Nat) (zg : Nat → Int) (ac : Option Addr) (nc cc : Nat) (zc : Nat → Int) (m s : Int), e = .returned (.tuple #[.agg #[.int .i64 need, .int .i64 many, .slice ag ng cg, .slice ac nc cc], .int .i64 m, .int .i64 s]) ∧ KeyIn w w' need many ag ng zg ac nc zc ∧ w.grownBy w' none
theorem gotf_mk {w W : World} {R : Nat} {need many : Nat} {ag : Option Addr} {ng cg : Nat} {zg : Nat → Int} {ac : Option Addr} {nc cc : Nat} {zc : Nat → Int} {wk : World} {v0 v1 v2 v3 : Value} (m s : Int) (hb : Blk W R #[v0, v1, v2, v3] 25) (hR : w.heap.size ≤ R) (hRk : R < wk.heap.size) (hk : KeyIn wk W need many ag ng zg ac nc zc) (hg : w.grownBy W none) :
    Blk (stored4 W R (.int .i64 need) (.int .i64 many) (.slice ag ng cg) (.slice ac nc cc)) R #[.int .i64 need, .int .i64 many, .slice ag ng cg, .slice ac nc cc] 25 ∧
    GotF w (.returned (.tuple #[.agg #[.int .i64 need, .int .i64 many, .slice ag ng cg, .slice ac nc cc], .int .i64 m, .int .i64 s])) (stored4 W R (.int .i64 need) (.int .i64 many) (.slice ag ng cg) (.slice ac nc cc)) := by
  have g1 : W.grownBy (stored4 W R (.int .i64 need) (.int .i64 many) (.slice ag ng cg) (.slice ac nc cc)) (some R) := gtr' (gtr' (gtr' (grown_set W R 0 (.int .i64 need)) (grown_set _ R 1 (.int .i64 many))) (grown_set _ R 2 (.slice ag ng cg))) (grown_set _ R 3 (.slice ac nc cc))
  have hr : ∀ g, (some R : Option Nat) = some g → g < wk.heap.size := fun g e => by have e := Option.some.inj e; omega
  exact ⟨(((hb.set 0 _).set 1 _).set 2 _).set 3 _, need, many, ag, ng, cg, zg, ac, nc, cc, zc, m, s, rfl, (hk.kept g1 hr).lower (by omega), grown_new hg hR g1⟩
theorem gotf_drew {w W : World} {R : Nat} {vs : Array Value} {T : TypeId} {e : Ending} (h : Blk W R vs T ∧ GotF w e W) : Blk W.drew R vs T ∧ GotF w e W.drew := by
  obtain ⟨hb, need, many, ag, ng, cg, zg, ac, nc, cc, zc, m, s, he, hk, hg⟩ := h
  exact ⟨hb, need, many, ag, ng, cg, zg, ac, nc, cc, zc, m, s, he, ⟨hk.n5, hk.m5, hk.g6, hk.c5, hk.ig.keptB (fun _ _ => rfl) (Nat.le_refl _), hk.ic.keptB (fun _ _ => rfl) (Nat.le_refl _), hk.rg, hk.rc⟩, ⟨hg.os, hg.tape, hg.output, hg.size, hg.block⟩⟩
set_option maxRecDepth 100000 in
set_option maxHeartbeats 2000000 in
theorem drawKF (w : World) (a : Option Addr) (len cap : Nat) (hB : Bytes w w.heap.size a len) (hc : len ≤ cap) (hm : cap ≤ maxLen) :
    Calls Try.prog 6 #[.slice a len cap] w (GotF w) := by
  have HD0 := Lib.hid (Blk.new w #[.int .i64 0, .int .i64 0, .slice none 0 0, .slice none 0 0] 25)
  have hs0 : (w.alloc (.cells #[.int .i64 0, .int .i64 0, .slice none 0 0, .slice none 0 0] 25)).heap.size = w.heap.size + 1 := by show (w.heap.push _).size = _; simp
  have HB := Lib.hid (hB.kept (w' := w.alloc (.cells #[.int .i64 0, .int .i64 0, .slice none 0 0, .slice none 0 0] 25)) (fun k hk => Below.heap_alloc _ _ _ hk))
  have HG0 := Lib.hid (grown_alloc w (.cells #[.int .i64 0, .int .i64 0, .slice none 0 0, .slice none 0 0] 25) none)
  clear hB
  go_enter Try.func6, Try.ntmps6
  go_wp2_with fail
  refine (open_any _ w.heap.size a len cap HB.out (by omega) hc hm).mono ?_
  rintro e w1 ⟨rfl, hg1, hs1, l1, c1', hr1⟩
  rw [hs0] at hr1
  have HD1 := Lib.hid (HD0.out.keptN hg1); have HG1 := Lib.hid (gtr HG0.out hg1); have HR1 := Lib.hid hr1
  have hR1 := hr1.lt
  clear hr1 hg1
  go_wp2_with fail
  refine (held_any _ _ _ a l1 c1' 0 HR1.out (by omega)).mono ?_
  rintro e w2 ⟨need, many, ag, ng, cg, zg, ac, nc, cc, zc, v, rfl, hk, hm1, hO, hg2, p2, hp2, hp2', hr2⟩
  have hs2 := hg2.size
  have HD2 := Lib.hid (HD1.out.kept hg2 (by intro e; have e := Option.some.inj e; omega)); have HG2 := Lib.hid (grown_new HG1.out (by omega) hg2); have HK2 := Lib.hid hk; have HR2 := Lib.hid hr2; have HO2 := Lib.hid hO
  have hm6 := hk.m5
  clear hk hg2 hr2 hO
  obtain ⟨gb, gc, rfl, hgl, hgs, hkc, hcm, _, _, _⟩ := HO2.out.ptr hm1
  have hmp : (1 : Int) ≤ (many : Int) := by omega
  go_wp2_with fail
  refine (pick_any _ _ _ a l1 c1' p2 many (HR2.out.alloc (.cells #[.int .i64 need, .int .i64 many, .slice ag ng cg, .slice ac nc cc] 25)) (by omega) hmp).mono ?_
  rintro e w3 ⟨x, x0, x1, rfl, hr, hg, hsz⟩
  obtain ⟨y, rfl⟩ : ∃ y : Nat, x = y := ⟨x.toNat, by omega⟩
  have hsa : (w2.alloc (.cells #[.int .i64 need, .int .i64 many, .slice ag ng cg, .slice ac nc cc] 25)).heap.size = w2.heap.size + 1 := by show (w2.heap.push _).size = _; simp
  have hs3 := hg.size
  rw [hsa] at hs3
  have HK3 := Lib.hid ((HK2.out.kept (grown_alloc w2 _ none) (fun g e => by cases e)).kept hg (fun g e => by have e := Option.some.inj e; omega))
  have HB3 := Lib.hid ((Blk.new w2 #[.int .i64 need, .int .i64 many, .slice ag ng cg, .slice ac nc cc] 25).kept hg (by intro e; have e := Option.some.inj e; omega))
  have HD3 := Lib.hid ((HD2.out.keptN (grown_alloc w2 _ none)).kept hg (by intro e; have e := Option.some.inj e; omega))
  have HO3 := Lib.hid ((HO2.out.kept (grown_alloc w2 _ none) (fun g e => by cases e)).kept hg (fun g e => by have e := Option.some.inj e; omega))
  have HG3 := Lib.hid (grown_new (gtr HG2.out (grown_alloc w2 _ none)) (by omega) hg)
  have HR3 := Lib.hid hr
  have HS3 := Lib.hid ((Same.rfl'.grown (Nat.le_refl _) (grown_alloc w2 (.cells #[.int .i64 need, .int .i64 many, .slice ag ng cg, .slice ac nc cc] 25) none) (fun g e => by cases e)).grown (lo := w1.heap.size) (hi := w2.heap.size) (Nat.le_refl _) hg (fun g e => by have e := Option.some.inj e; omega))
  clear hr hg hsz hsa
  obtain ⟨gb', gc', hv3, _, hgs3, _, _, hcel, _, _⟩ := HO3.out.ptr hm1
  injection hv3 with e1 _ e3; injection e1 with e1; injection e1 with e1 _; subst e1; subst e3
  obtain ⟨m, hc0⟩ := hcel (y * 2) (by omega)
  obtain ⟨s, hc1⟩ := hcel (y * 2 + 1) (by omega)
  clear hcel
  have hl3 := HB3.out.lt
  go_wp2_with fail
  refine (pick_any _ _ _ a l1 c1' (p2 + 1) 4 (HR3.out.alloc (.cells #[.int .i64 m, .int .i64 s] 42)) (by omega) (by omega)).mono ?_
  rintro e w4 ⟨x, x0', x1', rfl, hr, hg, hsz⟩
  have hsb : (w3.alloc (.cells #[.int .i64 m, .int .i64 s] 42)).heap.size = w3.heap.size + 1 := by show (w3.heap.push _).size = _; simp
  have hs4 := hg.size
  rw [hsb] at hs4
  have HK4 := Lib.hid ((HK3.out.kept (grown_alloc w3 _ none) (fun g e => by cases e)).kept hg (fun g e => by have e := Option.some.inj e; omega))
  have HB4 := Lib.hid ((HB3.out.keptN (grown_alloc w3 _ none)).kept hg (by intro e; have e := Option.some.inj e; omega))
  have HD4 := Lib.hid ((HD3.out.keptN (grown_alloc w3 _ none)).kept hg (by intro e; have e := Option.some.inj e; omega))
  have HH4 := Lib.hid ((Blk.new w3 #[.int .i64 m, .int .i64 s] 42).kept hg (by intro e; have e := Option.some.inj e; omega))
  have HG4 := Lib.hid (grown_new (gtr HG3.out (grown_alloc w3 _ none)) (by omega) hg)
  have HR4 := Lib.hid hr
  have HS4 := Lib.hid ((HS3.out.grown (Nat.le_refl _) (grown_alloc w3 _ none) (fun g e => by cases e)).grown (Nat.le_refl _) hg (fun g e => by have e := Option.some.inj e; omega))
  clear hr hg hsz hsb hc0 hc1
  rcases (by omega : x = 0 ∨ 1 ≤ x) with rfl | hx
  · go_wp2_with fail
    refine (num_any _ _ _ a l1 c1' (p2 + 1 + 1) HR4.out (by omega)).mono ?_
    rintro e w5 ⟨q, q0, q1, rfl, hg, p5, hp5, hp5', hr5⟩
    have hs5 := hg.size
    have HK5 := Lib.hid (HK4.out.kept hg (fun g e => by have e := Option.some.inj e; omega))
    have HB5 := Lib.hid (HB4.out.kept hg (by intro e; have e := Option.some.inj e; omega))
    have HD5 := Lib.hid (HD4.out.kept hg (by intro e; have e := Option.some.inj e; omega))
    have HH5 := Lib.hid (HH4.out.kept hg (by intro e; have e := Option.some.inj e; omega))
    have HG5 := Lib.hid (grown_new HG4.out (by omega) hg)
    have HS5 := Lib.hid (HS4.out.grown (Nat.le_refl _) hg (fun g e => by have e := Option.some.inj e; omega))
    clear hg hr5
    obtain ⟨r0, r1, r2, r3, j0, j1, j2, j3⟩ := HD5.out.all4
    obtain ⟨k0, k1, k2, k3, f0, f1, f2, f3⟩ := HB5.out.all4
    have h0 := HH5.out.cell 0; have h1 := HH5.out.cell 1; have h2 := HH5.out.free 0; have h3 := HH5.out.free 1
    have hl0 := HD5.out.lt; have hl1 := HB5.out.lt; have hl2 := HH5.out.lt
    have hg1 := grown_set w5 w3.heap.size 1 (.int .i64 q)
    have HD6 := Lib.hid (HD5.out.other (b' := w3.heap.size) (i := 1) (v := .int .i64 q) (by omega))
    have HB6 := Lib.hid (HB5.out.other (b' := w3.heap.size) (i := 1) (v := .int .i64 q) (by omega))
    have HH6 := Lib.hid (HH5.out.set 1 (.int .i64 q))
    have hS1 := HS5.out.grown (Nat.le_refl _) hg1 (fun g e => by have e := Option.some.inj e; omega)
    have hK1 : KeyIn w1 (w5.setCell ⟨w3.heap.size, 1, none⟩ (.int .i64 q)) need many ag ng zg ac nc zc :=
      ⟨HK2.out.n5, HK2.out.m5, HK2.out.g6, HK2.out.c5, ints_same HK2.out.ig HK2.out.rg hS1.1 hS1.2, ints_same HK2.out.ic HK2.out.rc hS1.1 hS1.2, (fun b off e => by have := HK2.out.rg b off e; have := hS1.2; omega), (fun b off e => by have := HK2.out.rc b off e; have := hS1.2; omega)⟩
    have HE := Lib.hid (gotf_drew (gotf_mk (w := w) (cg := cg) (cc := cc) m q HD6.out (Nat.le_refl _) (by omega) hK1 (grown_new HG5.out (by omega) hg1)))
    clear hK1 hS1 hg1
    go_wp2_with fail
    obtain ⟨r0', r1', r2', r3', j0', j1', j2', j3'⟩ := HD6.out.all4
    obtain ⟨k0', k1', k2', k3', f0', f1', f2', f3'⟩ := HB6.out.all4
    have h0' := HH6.out.cell 0; have h1' := HH6.out.cell 1
    clear r0 r1 r2 r3 j0 j1 j2 j3 k0 k1 k2 k3 f0 f1 f2 f3 h0 h1 h2 h3
    go_region
    go_wp2
    (try simp only [Exit.inBlock, Exit.then])
    refine bodyPost_ret (ret_key4 rfl _ rfl HE.out.1) rfl ?_
    exact HE.out.2
  · have e0 : (x == 0) = false := by simp; omega
    obtain ⟨r0, r1, r2, r3, j0, j1, j2, j3⟩ := HD4.out.all4
    obtain ⟨k0, k1, k2, k3, f0, f1, f2, f3⟩ := HB4.out.all4
    have h0 := HH4.out.cell 0; have h1 := HH4.out.cell 1; have h2 := HH4.out.free 0; have h3 := HH4.out.free 1
    have hl0 := HD4.out.lt; have hl1 := HB4.out.lt; have hl2 := HH4.out.lt
    have HE := Lib.hid (gotf_drew (gotf_mk (w := w) (cg := cg) (cc := cc) m s HD4.out (Nat.le_refl _) (by omega) HK4.out HG4.out))
    go_wp2
    go_region
    go_wp2
    (try simp only [Exit.inBlock, Exit.then])
    refine bodyPost_ret (ret_key4 rfl _ rfl HE.out.1) rfl ?_
    exact HE.out.2
end Draw
end Go.Proofs.Ytkklhlffbfgolaa
