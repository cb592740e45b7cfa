/-
  How the model draws a key, with deals and answers.
-/
import Derived.Test.YtchgjdbmianajaaQe
import Derived.Test.YtchgjdbmianajaaDo
import Derived.Test.YtchgjdbmianajaaMem
import Derived.RegionTactic
namespace Go.Proofs.Ytchgjdbmianajaa
namespace Draw
open Go.RowKit Alg Mem Con Mp
set_option linter.unusedVariables false

theorem owns_lower {w : World} {lo lo' k n : Nat} {T : TypeId} {v : Value} {xs : List Value} (h : w.ownsRow lo T k v n xs) (hl : lo' ≤ lo) : w.ownsRow lo' T k v n xs := by
  obtain ⟨h1, h2⟩ := h
  rcases h2 with h2 | ⟨g, cap, cur, hv, hb, hr⟩
  · exact ⟨h1, .inl h2⟩
  · exact ⟨h1, .inr ⟨g, cap, cur, hv, Nat.le_trans hl hb, hr⟩⟩
theorem OwnD.lower {w : World} {lo lo' : Nat} {v : Value} {L : List DV} (h : OwnD w lo v L) (hl : lo' ≤ lo) : OwnD w lo' v L :=
  ⟨owns_lower h.own hl, fun x hx => by obtain ⟨b1, b2, e1, e2, r1, r2⟩ := h.rows x hx; exact ⟨b1, b2, e1, e2, r1.lower hl, r2.lower hl⟩, h.fine⟩
theorem OwnA.lower {w : World} {lo lo' : Nat} {v : Value} {L : List Ans} (h : OwnA w lo v L) (hl : lo' ≤ lo) : OwnA w lo' v L := ⟨owns_lower h.1 hl, h.2⟩
theorem OwnA.kept {w w' : World} {lo : Nat} {v : Value} {L : List Ans} {r : Option Nat} (h : OwnA w lo v L) (hg : w.grownBy w' r) (hr : ∀ g, r = some g → g < lo) : OwnA w' lo v L := by
  refine ⟨h.1.kept hg ?_, h.2⟩
  cases hv : v.ownBlock with
  | none => exact .inl rfl
  | some g => refine .inr (fun e => ?_); have h1 := (h.1.lt g hv).1; have h2 := hr g e.symm; omega
theorem ret_key4 {fn : Func} {p u v : Tmp} (h : fn.results = #[.cell p 62, .tmp u, .tmp v]) (tmps : Array Value) {w : World} {b : Nat} {v0 v1 v2 v3 : Value} {T : TypeId} (hp : tmps.getD p undef = .pointer (some ⟨b, 0, none⟩)) (hb : Blk w b #[v0, v1, v2, v3] T) :
    (results fn tmps).run Try.prog w = .ok (.tuple #[.agg #[v0, v1, v2, v3], tmps.getD u undef, tmps.getD v undef]) w := by
  have hp' : tmps[p]?.getD undef = .pointer (some ⟨b, 0, none⟩) := by simpa using hp
  simp [results, h, hp', asAddr, run_loadVar_row w b T 62 #[v0, v1, v2, v3] (0, 0) _ hb Try.underlying62 rfl size_key, Result.andThen]
/-- A key's parts, of the call's own. -/
structure KeyIn (w w' : World) (need many : Nat) (ag : Option Addr) (ng : Nat) (zg : Nat → Int) (ac : Option Addr) (nc : Nat) (zc : Nat → Int) : Prop where
  n5 : need ≤ 5
  m5 : many ≤ 6
  g6 : ng ≤ 6
  c5 : nc ≤ 6
  ig : Ints w' ag ng zg
  ic : Ints w' ac nc zc
  rg : ∀ b off, ag = some ⟨b, off, none⟩ → w.heap.size ≤ b ∧ b < w'.heap.size
  rc : ∀ b off, ac = some ⟨b, off, none⟩ → w.heap.size ≤ b ∧ b < w'.heap.size
theorem KeyIn.kept {w w' W : World} {need many : Nat} {ag : Option Addr} {ng : Nat} {zg : Nat → Int} {ac : Option Addr} {nc : Nat} {zc : Nat → Int} {r : Option Nat} (h : KeyIn w w' need many ag ng zg ac nc zc) (hg : w'.grownBy W r) (hr : ∀ g, r = some g → g < w.heap.size) : KeyIn w W need many ag ng zg ac nc zc :=
  ⟨h.n5, h.m5, h.g6, h.c5, ints_keptR h.ig hg h.rg (fun g e => .inl (hr g e)), ints_keptR h.ic hg h.rc (fun g e => .inl (hr g e)), (fun b off e => by have := h.rg b off e; have := hg.size; omega), (fun b off e => by have := h.rc b off e; have := hg.size; omega)⟩
theorem KeyIn.lower {v w w' : World} {need many : Nat} {ag : Option Addr} {ng : Nat} {zg : Nat → Int} {ac : Option Addr} {nc : Nat} {zc : Nat → Int} (h : KeyIn w w' need many ag ng zg ac nc zc) (hg : v.heap.size ≤ w.heap.size) : KeyIn v w' need many ag ng zg ac nc zc :=
  ⟨h.n5, h.m5, h.g6, h.c5, h.ig, h.ic, (fun b off e => by have := h.rg b off e; omega), (fun b off e => by have := h.rc b off e; omega)⟩
/-- A key with deals and answers, all drawn. -/
def GotA (w : World) (base B : Nat) (a : Option Addr) (len cap p : Nat) (e : Ending) (w' : World) : Prop :=
  ∃ (need many : Nat) (ag : Option Addr) (ng cg : Nat) (zg : Nat → Int) (ac : Option Addr) (nc cc : Nat) (zc : Nat → Int) (v : Value) (L : List DV) (vA : Value) (LA : List Ans), e = .returned (.tuple #[.agg #[.int .i64 need, .int .i64 many, .slice ag ng cg, .slice ac nc cc], v, vA]) ∧ KeyIn w w' need many ag ng zg ac nc zc ∧ (nc ≤ 5 ∧ ((∃ b off, ac = some ⟨b, off, none⟩) ∨ ac = none ∧ nc = 0 ∧ cc = 0)) ∧ OwnD w' w.heap.size v L ∧ ((1 ≤ many ∧ 1 ≤ need ∧ need ≤ many) ∧ L.length ≤ 6) ∧ OwnA w' w.heap.size vA LA ∧ LA.length ≤ 3000 ∧ w.grownBy w' (some B) ∧ ∃ p', p ≤ p' ∧ p' ≤ p + 40000 ∧ Rd w' base B a len cap p'
theorem gota_mk {w W : World} {base B : Nat} {a : Option Addr} {len cap p p' R : Nat} {need many : Nat} {ag : Option Addr} {ng cg : Nat} {zg : Nat → Int} {ac : Option Addr} {nc cc : Nat} {zc : Nat → Int} {v : Value} {L : List DV} {vA : Value} {LA : List Ans} {wk : World} (hb : Blk W R #[.int .i64 0, .int .i64 0, .slice none 0 0, .slice none 0 0] 62) (hR : w.heap.size ≤ R) (hRk : R < wk.heap.size) (hk : KeyIn wk W need many ag ng zg ac nc zc) (hac : nc ≤ 5 ∧ ((∃ b off, ac = some ⟨b, off, none⟩) ∨ ac = none ∧ nc = 0 ∧ cc = 0)) (hD : OwnD W wk.heap.size v L) (hL : (1 ≤ many ∧ 1 ≤ need ∧ need ≤ many) ∧ L.length ≤ 6) (hA : OwnA W wk.heap.size vA LA) (hLA : LA.length ≤ 3000) (hg : w.grownBy W (some B)) (hB : B < w.heap.size) (h1 : p ≤ p') (h2 : p' ≤ p + 40000) (hrd : Rd W base B a len cap p') :
    Blk (stored4 W R (.int .i64 need) (.int .i64 many) (.slice ag ng cg) (.slice ac nc cc)) R #[.int .i64 need, .int .i64 many, .slice ag ng cg, .slice ac nc cc] 62 ∧
    GotA w base B a len cap p (.returned (.tuple #[.agg #[.int .i64 need, .int .i64 many, .slice ag ng cg, .slice ac nc cc], v, vA])) (stored4 W R (.int .i64 need) (.int .i64 many) (.slice ag ng cg) (.slice ac nc cc)) := by
  have g1 : W.grownBy (stored4 W R (.int .i64 need) (.int .i64 many) (.slice ag ng cg) (.slice ac nc cc)) (some R) := gtr' (gtr' (gtr' (grown_set W R 0 (.int .i64 need)) (grown_set _ R 1 (.int .i64 many))) (grown_set _ R 2 (.slice ag ng cg))) (grown_set _ R 3 (.slice ac nc cc))
  have hr : ∀ g, (some R : Option Nat) = some g → g < wk.heap.size := fun g e => by have e := Option.some.inj e; omega
  have hf := hrd.from_
  exact ⟨(((hb.set 0 _).set 1 _).set 2 _).set 3 _, need, many, ag, ng, cg, zg, ac, nc, cc, zc, v, L, vA, LA, rfl, (hk.kept g1 hr).lower (by omega), hac, (hD.kept g1 hr).lower (by omega), hL, (hA.kept g1 hr).lower (by omega), hLA, grown_newR hg hR g1, p', h1, h2, hrd.grownN g1 (by omega) (by omega)⟩
theorem gota_alloc {w W : World} {base B : Nat} {a : Option Addr} {len cap p : Nat} {e : Ending} (h : GotA w base B a len cap p e W) (o : Obj) : GotA w base B a len cap p e (W.alloc o) := by
  obtain ⟨need, many, ag, ng, cg, zg, ac, nc, cc, zc, v, L, vA, LA, he, hk, hac, hD, hL, hA, hLA, hg, p', h1, h2, hrd⟩ := h
  exact ⟨need, many, ag, ng, cg, zg, ac, nc, cc, zc, v, L, vA, LA, he, hk.kept (grown_alloc W o none) (fun g e => by cases e), hac, hD.kept (grown_alloc W o none) (fun g e => by cases e), hL, hA.kept (grown_alloc W o none) (fun g e => by cases e), hLA, gtr' hg (grown_alloc W o _), p', h1, h2, hrd.alloc o⟩
theorem fine_hyp {L : List DV} (h : ∀ x ∈ L, FineD x) : ∀ j, j < L.length → (dAt L j).n1 ≤ 2000000 ∧ (dAt L j).n2 ≤ 6 ∧ (∀ i, i < (dAt L j).n2 → (dAt L j).z2 i ≤ 1000000) ∧ wf (dAt L j).f = true := fun j hj => by
  obtain ⟨h1, h2, h3, h4, h5⟩ := h _ (dAt_mem hj)
  exact ⟨by omega, by omega, fun i hi => by have h := (fok_iff.1 (h3 i hi)).2; omega, wf_few (by omega) (by omega)⟩
theorem lg_gof {n : Int} (h : fok n = true) : lg (gofF n) = n :=
  one (P := fun n => lg (gofF n) = n) (by decide +kernel) h
theorem gz_cok {n : Nat} {z : Nat → Int} (hz : ∀ j, j < n → fok (z j) = true) (h1 : 1 ≤ n) (h5 : n ≤ 5) : cokz n (gz z) = true :=
  cokz_iff.2 ⟨h1, h5, fun j hj => gof_ok (hz j hj)⟩
theorem fl_gz {n : Nat} {z : Nat → Int} (hz : ∀ j, j < n → fok (z j) = true) : fl (lz (gz z)) n = fl z n :=
  fl_congr fun j hj => lg_gof (hz j hj)
theorem shl_get {n : Nat} {z : Nat → Int} {m j : Nat} (h : j < m) : li (shl n z m) j = Pol.fi (Pol.ev (fl z n) (Pol.cv ((j : Int) + 1))) := by
  simp [li, shl, h]
/-- The deal of a polynomial counts. -/
theorem gd_honest {f : Int} {n m : Nat} {z : Nat → Int} {A : Nat → Ans} {na : Nat} (hz : ∀ j, j < n → fok (z j) = true) (h1 : 1 ≤ n) (hnm : n ≤ m) (h5 : m ≤ 5) (hf : 1 ≤ f) (hfm : f ≤ m) :
    gdF f n (gz z) m (li (shl n z m)) A na n m = true := by
  have hc := gz_cok hz h1 (by omega)
  refine gd_y (dl_yes (by simp [deF]; omega) (by simp [crewF]; omega) rfl hc ?_) hfm ?_
  · simp only [shF, Bool.and_eq_true, decide_eq_true_eq, true_and]
    exact okz_iff.2 fun j hj => shl_ok hj
  · rw [accs_iff]; intro j hj
    have hx : fok ((j : Int) + 1) = true := fok_iff.2 (by omega)
    rw [acc_dealt]
    · rfl
    · rw [cfz_in hc hx (shl_ok hj), catz_in hc hx, fl_gz hz, shl_get hj]; simp
/-- Deals that count, one of each in order. -/
def HonL (L : List DV) (n m : Nat) : Prop := ∀ j, j < L.length → (dAt L j).f = (j : Int) + 1 ∧ gdF (dAt L j).f (dAt L j).n1 (dAt L j).z1 (dAt L j).n2 (dAt L j).z2 (aAt []) 0 n m = true
theorem HonL.app {L : List DV} {n m : Nat} {x : DV} (h : HonL L n m) (hf : x.f = (L.length : Int) + 1) (hg : gdF x.f x.n1 x.z1 x.n2 x.z2 (aAt []) 0 n m = true) : HonL (L ++ [x]) n m := by
  intro j hj
  by_cases hlt : j < L.length
  · rw [show dAt (L ++ [x]) j = dAt L j by simp [dAt, List.getElem?_append_left hlt]]
    exact h j hlt
  · obtain rfl : j = L.length := by simp at hj; omega
    rw [show dAt (L ++ [x]) L.length = x by simp [dAt]]
    exact ⟨hf, hg⟩
theorem HonL.hon {L : List DV} {n m k : Nat} (h : HonL L n m) (h5 : k ≤ 5) (hk : L.length = k) : Hon (dAt L) k (aAt []) 0 n m := by
  subst hk
  refine ⟨?_, fun j hj => (h j hj).2⟩
  rw [ds_in h5, upz_iff]
  intro j hj
  by_cases h0 : j = 0
  · exact .inl h0
  · refine .inr ?_
    show (dAt L (j - 1)).f < (dAt L j).f
    rw [(h j hj).1, (h (j - 1) (by omega)).1]; omega
set_option maxRecDepth 100000 in
set_option maxHeartbeats 1500000 in
theorem key_any (w : World) (base B : Nat) (a : Option Addr) (len cap p : Nat) (h : Rd w base B a len cap p) (hp : p ≤ 1000) :
    Calls Try.prog 58 #[.pointer (some ⟨B, 0, none⟩)] w (GotA w base B a len cap p) := by
  have hBw := h.lt
  have HR := Lib.hid (h.alloc (.cells #[.int .i64 0, .int .i64 0, .slice none 0 0, .slice none 0 0] 62)); clear h
  have HR0 := Lib.hid (Blk.new w #[.int .i64 0, .int .i64 0, .slice none 0 0, .slice none 0 0] 62)
  have HG0 := Lib.hid (grown_alloc w (.cells #[.int .i64 0, .int .i64 0, .slice none 0 0, .slice none 0 0] 62) (some B))
  obtain ⟨i0, hi, hz0, hz1, hz2⟩ := info_parts info_dl
  go_enter Try.func58, Try.ntmps58
  go_wp2_with fail
  refine (fine_any _ _ _ a len cap p HR.out (by omega)).mono ?_
  rintro e w2 ⟨n, m, rfl, hn1, hnm, hm5, hg2, hr2⟩
  have HR2 := Lib.hid (HR0.out.kept hg2 (by intro e; have e := Option.some.inj e; omega)); have HG2 := Lib.hid (gtr' HG0.out hg2); have HRd2 := Lib.hid hr2
  have hs2 := HR2.out.lt
  clear hr2 hg2 HR0 HG0 HR
  go_wp2
  go_loopw [7] (fun i wr => ∃ (k p' : Nat), k ≤ 4 ∧ i = .int .i64 k ∧ p ≤ p' ∧ p' ≤ p + 2 + k * 4000 ∧ w2.grownBy wr (some B) ∧ Rd wr base B a len cap p') (fun i _ => 4 - (intOf i).toNat)
  case atStart => exact ⟨0, p + 1 + 1, by omega, rfl, by omega, by omega, grown_refl _ _, HRd2.out⟩
  case round =>
    obtain ⟨k, p1, hk, rfl, hp1, hp2, hgw, hrd⟩ := hrel
    have HRr := Lib.hid (HR2.out.kept hgw (by intro e; have e := Option.some.inj e; omega)); have HGr := Lib.hid (gtr' HG2.out hgw); have HRdr := Lib.hid hrd; have HGw := Lib.hid hgw
    have hRr := HRr.out.lt
    have hBr := HRdr.out.lt
    clear hgw hrd
    by_cases hlt : k < 4
    · have hlt' : (k : Int) < 4 := by omega
      go_wp2_with fail
      refine (deals_any _ base B a len cap p1 HRdr.out n m hn1 hnm hm5 (by omega)).mono ?_
      rintro e w5 ⟨v, L, rfl, hD, hL6, hg5, p5, hp5, hp5', hrd5⟩
      obtain ⟨ad, cd, rfl, hdi⟩ := hD.din
      have HD5 := Lib.hid hD; have HG5 := Lib.hid hg5; have HRd5 := Lib.hid hrd5; have HDI := Lib.hid hdi
      have hs5 := hg5.size
      clear hD hg5 hrd5 hdi
      go_wp2_with fail
      refine (ans_any _ base B a len cap p5 HRd5.out ad L.length cd (dAt L) _ _ HDI.out (by omega) (Nat.le_refl _) hL6 (fine_hyp HD5.out.fine) (by omega)).mono ?_
      rintro e w6 ⟨vA, LA, rfl, hA, hLA, hg6, p6, hp6, hp6', hrd6⟩
      obtain ⟨aa, ca, rfl, hans, hwf⟩ := hA.ans
      have HA6 := Lib.hid hA; have HG6 := Lib.hid hg6; have HRd6 := Lib.hid hrd6; have HAns := Lib.hid hans
      have HD6 := Lib.hid (HD5.out.kept hg6 (fun g e => by have e := Option.some.inj e; omega))
      have HDI6 := Lib.hid (HDI.out.kept hg6 (fun g e => by have e := Option.some.inj e; omega))
      have hs6 := hg6.size
      clear hA hg6 hrd6 hans hwf
      go_wp2_with fail
      refine (qkeyof _ n m ad L.length cd (dAt L) aa LA.length ca (aAt LA) HDI6.out.di (fun j hj => by obtain ⟨h1, h2, _⟩ := HD5.out.fine _ (dAt_mem hj); exact ⟨h1, h2⟩) HAns.out hL6 (by omega) hn1 hnm hm5).mono ?_
      rintro e w7 ⟨⟨need, many, ag, ng, cg, zg, ac, nc, cc, zc, ok, rfl, hn5, hm5', hng, hnc, hig, hic, hrg, hrc, hg7, hok, hac⟩, _⟩
      have HK7 := Lib.hid (show KeyIn w6 w7 need many ag ng zg ac nc zc from ⟨hn5, by omega, hng, by omega, hig, hic, hrg, hrc⟩)
      have HG7 := Lib.hid hg7
      have hs7 := hg7.size
      clear hig hic hrg hrc hg7
      cases ok with
      | true =>
        have HR7 := Lib.hid (((HRr.out.kept HG5.out (by intro e; have e := Option.some.inj e; omega)).kept HG6.out (by intro e; have e := Option.some.inj e; omega)).keptN HG7.out)
        have h7l := HR7.out.lt
        obtain ⟨r0, r1, r2, r3, j0, j1, j2, j3⟩ := HR7.out.all4
        have HE := Lib.hid (gota_mk (w := w) (p := p) (p' := p6) (wk := wr) (cg := cg) (cc := cc) HR7.out (Nat.le_refl _) hRr (HK7.out.lower (by omega)) ⟨hnc, hac⟩ (HD6.out.kept HG7.out (fun g e => by cases e)) ⟨hok rfl, hL6⟩ ((HA6.out.lower (by omega)).kept HG7.out (fun g e => by cases e)) hLA (gtr' (gtr' (gtr' HGr.out HG5.out) HG6.out) (grown_some HG7.out)) hBw (by omega) (by omega) (HRd6.out.kept (w' := w7) (fun k hk => HG7.out.block k (by have := HRd6.out.lt; have := HRd6.out.from_; omega) (by simp)) (HG7.out.block B HRd6.out.lt (by simp))))
        go_wp2
        (try simp only [Exit.inBlock, Exit.then])
        refine bodyPost_ret (ret_key4 rfl _ rfl (HE.out.1.keptN (grown_alloc _ _ _))) rfl ?_
        exact gota_alloc HE.out.2 _
      | false =>
        have HW8 := Lib.hid (gtr' (gtr' (gtr' HGw.out HG5.out) HG6.out) (grown_some (gtr HG7.out (grown_alloc w7 (.cells #[.int .i64 need, .int .i64 many, .slice ag ng cg, .slice ac nc cc] 62) none))))
        have HRd8 := Lib.hid ((HRd6.out.kept (w' := w7) (fun k hk => HG7.out.block k (by have := HRd6.out.lt; have := HRd6.out.from_; omega) (by simp)) (HG7.out.block B HRd6.out.lt (by simp))).alloc (.cells #[.int .i64 need, .int .i64 many, .slice ag ng cg, .slice ac nc cc] 62))
        go_wp2
        go_roundw
        case rel => exact ⟨k + 1, p6, by omega, by go_num, by omega, by omega, HW8.out, HRd8.out⟩
        case measure => simp [intOf]; omega
    · obtain rfl : k = 4 := by omega
      have hlt' : ¬ ((4 : Nat) : Int) < 4 := by omega
      obtain ⟨w4, hW⟩ : ∃ W, W = wr := ⟨_, rfl⟩; subst hW
      have HF := Lib.hid (DSt.first HRdr.out)
      go_wp2
      go_loopw [12, 13] (fun v i W => ∃ (k p' : Nat) (L : List DV), k ≤ m ∧ i = .int .i64 ((k : Int) + 1) ∧ p1 ≤ p' ∧ p' ≤ p1 + 2 * k ∧ L.length = k ∧ (HonL L n m ∧ DSt w4 base B a len cap p1 p' W v L)) (fun _ i _ => m + 1 - (intOf i).toNat)
      case atStart => exact ⟨0, p1, [], by omega, rfl, by omega, by omega, rfl, (fun j hj => by simp at hj), HF.out⟩
      case round =>
        obtain ⟨k, p2, L, hk, rfl, hp3, hp4, hL, hhl, hs⟩ := hrel
        obtain ⟨W1, hW⟩ : ∃ W, W = wr := ⟨_, rfl⟩; subst hW
        obtain ⟨v1, hW⟩ : ∃ W, W = u12 := ⟨_, rfl⟩; subst hW
        have HS := Lib.hid hs; have HHn := Lib.hid hhl; clear hs hhl
        by_cases hlt : k < m
        · have hlt' : (k : Int) + 1 ≤ (m : Int) := by omega
          go_wp2_with fail
          refine (pick_any _ base B a len cap p2 23 HS.out.rd (by omega) (by omega)).mono ?_
          rintro e W2 ⟨x, x0, x1, rfl, hr, hg, hsz⟩
          have HS2 := Lib.hid (show DSt w4 base B a len cap p1 (p2 + 1) W2 v1 L from ⟨HS.out.own.kept hg (fun g e => by injection e with e; omega), grown_trans HS.out.g hg, hr⟩)
          clear hr hg hsz
          go_wp2_with fail
          refine (pick_any _ base B a len cap (p2 + 1) 1000 HS2.out.rd (by omega) (by omega)).mono ?_
          rintro e W3 ⟨y, y0, y1, rfl, hr, hg, hsz⟩
          have HS3 := Lib.hid (show DSt w4 base B a len cap p1 (p2 + 2) W3 v1 L from ⟨HS2.out.own.kept hg (fun g e => by injection e with e; omega), grown_trans HS2.out.g hg, hr⟩)
          clear hr hg hsz
          go_wp2_with fail
          refine (s11poly _ n x y hn1 (by omega) y0 (by omega)).mono ?_
          rintro e W4 ⟨b4, c4, rfl, hr4, hg4⟩
          have HS4 := Lib.hid (show DSt w4 base B a len cap p1 (p2 + 2) W4 v1 L from ⟨HS3.out.own.kept hg4 (fun g e => by cases e), grown_trans HS3.out.g (grown_some hg4), HS3.out.rd.kept (fun k hk => hg4.block k (by have := HS3.out.rd.lt; have := HS3.out.rd.from_; omega) (by simp)) (hg4.block B HS3.out.rd.lt (by simp))⟩)
          have HR4 := Lib.hid hr4.ints
          clear hr4 hg4
          have HZ := Lib.hid (fun j (hj : j < n) => dz_ok (seed := y) (fok_mk x0 (by omega)) j)
          go_wp2_with fail
          refine (s11make _ ((k : Int) + 1) m _ n _ (dz x y) HR4.out (by omega) HZ.out (by omega)).mono ?_
          rintro e W5 ⟨b1, c1, B5, v5, rfl, hB5, hb15, hr5, hl5, hg5⟩
          rcases hl5 with ⟨_, hnil⟩ | ⟨b2, c2, rfl, hr2⟩
          · have := shl_len n (dz x y) m; rw [hnil] at this; simp at this; omega
          rw [shl_len] at hr2 ⊢
          have hw4 := HS4.out.g.size
          have HS5 := Lib.hid (show DSt w4 base B a len cap p1 (p2 + 2) W5 v1 L from ⟨HS4.out.own.kept hg5 (fun g e => by cases e), grown_trans HS4.out.g (grown_some hg5), HS4.out.rd.kept (fun k hk => hg5.block k (by have := HS4.out.rd.lt; have := HS4.out.rd.from_; omega) (by simp)) (hg5.block B HS4.out.rd.lt (by simp))⟩)
          have HX := Lib.hid (show RowsD W5 w4.heap.size ⟨(k : Int) + 1, some ⟨b1, 0, none⟩, n, c1, gz (dz x y), some ⟨b2, 0, none⟩, m, c2, li (shl n (dz x y) m)⟩ from ⟨b1, b2, rfl, rfl, hr5.lower hw4, hr2.lower (by omega)⟩)
          have HF := Lib.hid (show FineD ⟨(k : Int) + 1, some ⟨b1, 0, none⟩, n, c1, gz (dz x y), some ⟨b2, 0, none⟩, m, c2, li (shl n (dz x y) m)⟩ from ⟨by show n ≤ 5; omega, hm5, fun i hi => shl_ok hi, by show 1 ≤ (k : Int) + 1; omega, by show (k : Int) + 1 ≤ 5; omega⟩)
          have hrm1 := hr5.most; have hrm2 := hr2.most; have hrl1 := hr5.le; have hrl2 := hr2.le
          have hw5 := HS5.out.g.size
          have HHx := Lib.hid (HHn.out.app (x := ⟨(k : Int) + 1, some ⟨b1, 0, none⟩, n, c1, gz (dz x y), some ⟨b2, 0, none⟩, m, c2, li (shl n (dz x y) m)⟩) (by rw [hL]) (gd_honest (f := (k : Int) + 1) HZ.out hn1 hnm hm5 (by omega) (by omega)))
          clear hr5 hr2 hg5
          go_wp2_with (at_builtin; refine wpList_append_own _ rfl _ _ 78 rfl w4.heap.size 91 i0 (.agg #[.int .i64 0, .slice none 0 0, .slice none 0 0]) 3 56 und_dls hi hz0 hz1 hz2 rfl (by decide) v1 L.length (cellsD L) rfl (HS5.out.own.own.alloc _) ⟨W5.heap.size, 0, none⟩ 1 1 [.int .i64 ((k : Int) + 1), .slice (some ⟨b1, 0, none⟩) n c1, .slice (some ⟨b2, 0, none⟩) m c2] rfl rfl (World.news_of_block (cs := #[.int .i64 ((k : Int) + 1), .slice (some ⟨b1, 0, none⟩) n c1, .slice (some ⟨b2, 0, none⟩) m c2]) (t := 91) (fr := (0, 0)) (heap_alloc_new W5 _)) (by simp [Value.oneCell']) (by unfold maxLen; omega) (by omega) (by simp; omega) ?_; intro v' W6 hown' hgrow _)
          have HS6 := Lib.hid (HS5.out.app HX.out HF.out hgrow hBr hown')
          clear hown' hgrow
          go_wp2
          go_roundw
          case rel => exact ⟨k + 1, p2 + 2, _, by omega, by go_num, by omega, by omega, by simp [hL], HHx.out, HS6.out⟩
          case measure => simp [intOf]; omega
        · obtain rfl : k = m := by omega
          have hlt' : ¬ (k : Int) + 1 ≤ (k : Int) := by omega
          obtain ⟨av, cv, hv, hdi⟩ := HS.out.own.din
          rw [hL] at hv hdi
          subst hv
          have HDI := Lib.hid hdi; clear hdi
          have HL := Lib.hid hL; clear hL
          have hws := HS.out.g.size
          go_wp2_with fail
          refine (qkeyof _ n k av k cv (dAt L) none 0 0 (aAt []) HDI.out.di (fun j hj => by have hj' : j < L.length := (by have := HL.out; omega); obtain ⟨h1, h2, _⟩ := HS.out.own.fine _ (dAt_mem hj'); exact ⟨h1, h2⟩) (.inl rfl) (by omega) (by omega) hn1 hnm hm5).mono ?_
          rintro e w7 ⟨⟨need, many, ag, ng, cg, zg, ac, nc, cc, zc, ok, rfl, hn5, hm5', hng, hnc, hig, hic, hrg, hrc, hg7, hok, hac⟩, hho⟩
          have h1m : 1 ≤ many ∧ 1 ≤ need ∧ need ≤ many := hok (by
            obtain ⟨x, hx⟩ := hho (HHn.out.hon (by have := HL.out; omega) HL.out) hnm
            injection hx with hx; injection hx with hx
            have := congrArg (fun (v : Array Value) => v[1]?) hx
            simpa using this)
          clear hho hok
          have HK7 := Lib.hid (show KeyIn W1 w7 need many ag ng zg ac nc zc from ⟨hn5, by omega, hng, by omega, hig, hic, hrg, hrc⟩)
          have HG7 := Lib.hid hg7
          have hs7 := hg7.size
          clear hig hic hrg hrc hg7
          have HR7 := Lib.hid ((HRr.out.kept HS.out.g (by intro e; have e := Option.some.inj e; omega)).keptN HG7.out)
          have h7l := HR7.out.lt
          obtain ⟨r0, r1, r2, r3, j0, j1, j2, j3⟩ := HR7.out.all4
          have HA7 := Lib.hid (show OwnA w7 w4.heap.size (.slice none 0 0) [] from ⟨w7.ownsRow_nil _ _ _, fun x hx => by cases hx⟩)
          have HE := Lib.hid (gota_mk (w := w) (p := p) (p' := p2) (wk := w4) (cg := cg) (cc := cc) HR7.out (Nat.le_refl _) hRr (HK7.out.lower (by omega)) ⟨hnc, hac⟩ (HS.out.own.kept HG7.out (fun g e => by cases e)) ⟨h1m, by have := HL.out; omega⟩ HA7.out (by simp) (gtr' (gtr' HGr.out HS.out.g) (grown_some HG7.out)) hBw (by omega) (by omega) (HS.out.rd.kept (w' := w7) (fun k hk => HG7.out.block k (by have := HS.out.rd.lt; have := HS.out.rd.from_; omega) (by simp)) (HG7.out.block B HS.out.rd.lt (by simp))))
          go_wp2
          (try simp only [Exit.inBlock, Exit.then])
          refine bodyPost_ret (ret_key4 rfl _ rfl (HE.out.1.keptN (grown_alloc _ _ _))) rfl ?_
          exact gota_alloc HE.out.2 _
/-- A key's parts carried to any world in which their blocks stand as they stood. -/
theorem ints_same {w W : World} {a : Option Addr} {len lo hi : Nat} {z : Nat → Int} (h : Ints w a len z) (hb : ∀ b off, a = some ⟨b, off, none⟩ → lo ≤ b ∧ b < hi) (hs : ∀ k, lo ≤ k → k < hi → W.heap[k]? = w.heap[k]?) (hz : w.heap.size ≤ W.heap.size) : Ints W a len z := by
  rcases h with h | ⟨b, off, ha, hl, hc⟩
  · exact .inl h
  · obtain ⟨l1, l2⟩ := hb b off ha
    exact .inr ⟨b, off, ha, by omega, fun j hj => (World.cell?_of_block (hs b l1 l2)).trans (hc j hj)⟩
/-- What stands between two sizes. -/
def Same (lo hi : Nat) (w W : World) : Prop := (∀ k, lo ≤ k → k < hi → W.heap[k]? = w.heap[k]?) ∧ w.heap.size ≤ W.heap.size
theorem Same.grown {lo hi : Nat} {w W W' : World} {r : Option Nat} (h : Same lo hi w W) (hh : hi ≤ w.heap.size) (hg : W.grownBy W' r) (hr : ∀ g, r = some g → g < lo ∨ hi ≤ g) : Same lo hi w W' :=
  ⟨fun k h1 h2 => (hg.block k (by have := h.2; omega) (by intro e; have := hr k e.symm; omega)).trans (h.1 k h1 h2), Nat.le_trans h.2 hg.size⟩
theorem Same.rfl' {lo hi : Nat} {w : World} : Same lo hi w w := ⟨fun _ _ _ => rfl, Nat.le_refl _⟩
end Draw
end Go.Proofs.Ytchgjdbmianajaa
/-
  How the model draws a key with the shares of all members, and one of them.
-/

namespace Go.Proofs.Ytchgjdbmianajaa
namespace Draw
open Go.RowKit Alg Mem Con Mp
set_option linter.unusedVariables false

theorem und_hlds : Try.prog.underlying 33 = some (.slice 40) := by kernel_rfl
theorem info_hld : (Try.prog.info? 40).map (fun i => (i.zero, i.size, i.bytes)) = some (some (.agg #[.int .i64 0, .int .i64 0]), 2, 16) := by kernel_rfl
/-- Shares with their members, the call's own, whatever they are. -/
def OwnH (w : World) (lo : Nat) (v : Value) (k : Nat) : Prop := ∃ zs : List Int, w.ownsRow lo 40 2 v k (zs.map fun z => .int .i64 z)
theorem OwnH.kept {w w' : World} {lo : Nat} {v : Value} {k : Nat} {r : Option Nat} (h : OwnH w lo v k) (hg : w.grownBy w' r) (hr : ∀ g, r = some g → g < lo) : OwnH w' lo v k := by
  obtain ⟨zs, h⟩ := h
  refine ⟨zs, h.kept hg ?_⟩
  cases hv : v.ownBlock with
  | none => exact .inl rfl
  | some g => refine .inr (fun e => ?_); have h1 := (h.lt g hv).1; have h2 := hr g e.symm; omega
theorem OwnH.lower {w : World} {lo lo' : Nat} {v : Value} {k : Nat} (h : OwnH w lo v k) (hl : lo' ≤ lo) : OwnH w lo' v k := by
  obtain ⟨zs, h⟩ := h; exact ⟨zs, owns_lower h hl⟩
theorem OwnH.ptr {w : World} {lo : Nat} {v : Value} {k : Nat} (h : OwnH w lo v k) (hk : 1 ≤ k) : ∃ g c, v = .slice (some ⟨g, 0, none⟩) k c ∧ lo ≤ g ∧ g < w.heap.size ∧ k ≤ c ∧ c ≤ maxLen ∧ (∀ j, j < k * 2 → ∃ z, w.cell? ⟨g, j, none⟩ = some (.int .i64 z)) ∧ (∀ j, w.frozen? ⟨g, j, none⟩ = false) ∧ ∀ j z, OwnH (w.setCell ⟨g, j, none⟩ (.int .i64 z)) lo v k := by
  obtain ⟨zs, h⟩ := h
  rcases h.2 with ⟨_, h0⟩ | ⟨g, c, cur, hv, hb, hg, hnc, hcm, _⟩
  · omega
  · subst hv
    have hl := h.lt g rfl
    refine ⟨g, c, rfl, hl.1, hl.2, hnc, hcm, fun j hj => ?_, fun j => h.frozenAt j, fun j z => ?_⟩
    · have := h.cellAt j hj
      have hzl : (zs.map fun z => (.int .i64 z : Value)).length = k * 2 := h.1
      have hz2 : j < zs.length := by have := hzl; simp at this; omega
      exact ⟨zs[j], by rw [this]; simp [hz2]⟩
    · exact ⟨zs.set j z, by rw [List.map_set]; exact (h.stored j (.int .i64 z)).1⟩
/-- Members from one on, with their shares. -/
def hzs (hz : Nat → Int) : Nat → List Int
  | 0 => []
  | k + 1 => hzs hz k ++ [(k : Int) + 1, hz k]
theorem hzs_len (hz : Nat → Int) : ∀ k, (hzs hz k).length = k * 2
  | 0 => rfl
  | k + 1 => by simp only [hzs, List.length_append, hzs_len hz k]; simp; omega
theorem hzs_get (hz : Nat → Int) : ∀ {n j : Nat}, j < n → (hzs hz n)[j * 2]? = some ((j : Int) + 1) ∧ (hzs hz n)[j * 2 + 1]? = some (hz j)
  | 0, j, h => by omega
  | n + 1, j, h => by
    have hl := hzs_len hz n
    rcases (by omega : j < n ∨ j = n) with h' | rfl
    · have h1 := hzs_get hz h'
      exact ⟨by rw [hzs, List.getElem?_append_left (by omega)]; exact h1.1, by rw [hzs, List.getElem?_append_left (by omega)]; exact h1.2⟩
    · exact ⟨by rw [hzs, List.getElem?_append_right (by omega), hl]; simp, by rw [hzs, List.getElem?_append_right (by omega), hl]; simp⟩
theorem hzs_congr {hz hz' : Nat → Int} : ∀ {k : Nat}, (∀ j, j < k → hz j = hz' j) → hzs hz k = hzs hz' k
  | 0, _ => rfl
  | k + 1, h => by rw [hzs, hzs, hzs_congr (k := k) fun j hj => h j (by omega), h k (by omega)]
theorem hzs_set (hz : Nat → Int) (z : Int) {m : Nat} : ∀ {k : Nat}, m < k → (hzs hz k).set (m * 2 + 1) z = hzs (fun j => if j = m then z else hz j) k
  | 0, h => by omega
  | k + 1, h => by
    have hl := hzs_len hz k
    rcases (by omega : m < k ∨ m = k) with h' | rfl
    · rw [hzs, hzs, List.set_append_left _ _ (by omega), hzs_set hz z h', if_neg (by omega)]
    · rw [hzs, hzs, List.set_append_right _ _ (by omega), hl, hzs_congr (hz' := hz) fun j hj => if_neg (by omega)]; simp
/-- All members' shares, the call's own: of the field. -/
def OwnS (w : World) (lo : Nat) (v : Value) (k : Nat) : Prop := ∃ hz : Nat → Int, w.ownsRow lo 40 2 v k ((hzs hz k).map fun z => .int .i64 z) ∧ ∀ j, j < k → fok (hz j) = true
theorem OwnS.h {w : World} {lo : Nat} {v : Value} {k : Nat} (h : OwnS w lo v k) : OwnH w lo v k := let ⟨hz, h, _⟩ := h; ⟨_, h⟩
theorem OwnS.kept {w w' : World} {lo : Nat} {v : Value} {k : Nat} {r : Option Nat} (h : OwnS w lo v k) (hg : w.grownBy w' r) (hr : ∀ g, r = some g → g < lo) : OwnS w' lo v k := by
  obtain ⟨hz, h, hf⟩ := h
  refine ⟨hz, h.kept hg ?_, hf⟩
  cases hv : v.ownBlock with
  | none => exact .inl rfl
  | some g => refine .inr (fun e => ?_); have h1 := (h.lt g hv).1; have h2 := hr g e.symm; omega
theorem OwnS.lower {w : World} {lo lo' : Nat} {v : Value} {k : Nat} (h : OwnS w lo v k) (hl : lo' ≤ lo) : OwnS w lo' v k := by
  obtain ⟨hz, h, hf⟩ := h; exact ⟨hz, owns_lower h hl, hf⟩
/-- What stands in its cells. -/
theorem OwnS.cells {w : World} {lo : Nat} {v : Value} {k : Nat} (h : OwnS w lo v k) (hk : 1 ≤ k) : ∃ (g c : Nat) (hz : Nat → Int), v = .slice (some ⟨g, 0, none⟩) k c ∧ lo ≤ g ∧ g < w.heap.size ∧ ∀ j, j < k → w.cell? ⟨g, j * 2, none⟩ = some (.int .i64 ((j : Int) + 1)) ∧ w.cell? ⟨g, j * 2 + 1, none⟩ = some (.int .i64 (hz j)) ∧ fok (hz j) = true := by
  obtain ⟨hz, h, hf⟩ := h
  rcases h.2 with ⟨_, h0⟩ | ⟨g, c, cur, hv, hb, hg, hnc, hcm, _⟩
  · omega
  · subst hv
    have hl := h.lt g rfl
    refine ⟨g, c, hz, rfl, hl.1, hl.2, fun j hj => ?_⟩
    obtain ⟨q0, q1⟩ := hzs_get hz hj
    exact ⟨by rw [h.cellAt _ (by omega), List.getElem?_map, q0]; rfl, by rw [h.cellAt _ (by omega), List.getElem?_map, q1]; rfl, hf j hj⟩
theorem OwnS.set {w : World} {lo : Nat} {g k c : Nat} (h : OwnS w lo (.slice (some ⟨g, 0, none⟩) k c) k) {m : Nat} (hm : m < k) {z : Int} (hz : fok z = true) : OwnS (w.setCell ⟨g, m * 2 + 1, none⟩ (.int .i64 z)) lo (.slice (some ⟨g, 0, none⟩) k c) k := by
  obtain ⟨y, h, hf⟩ := h
  refine ⟨fun j => if j = m then z else y j, ?_, fun j hj => ?_⟩
  · rw [← hzs_set y z hm, List.map_set]; exact (h.stored (m * 2 + 1) (.int .i64 z)).1
  · by_cases e : j = m
    · simp only [e, if_true]; exact hz
    · simp only [if_neg e]; exact hf j hj
theorem ks_fok {ng : Nat} {zg : Nat → Int} {need many : Int} {D : Nat → DV} {na : Nat} {A : Nat → Ans} {m : Nat} : ∀ {k : Nat} {n : Int}, ksF ng zg need many D na A m k = some n → fok n = true
  | 0, n, h => by injection h with h; subst h; rfl
  | k + 1, n, h => by
    rw [ksF] at h
    split at h
    · cases h
    · rename_i n' hn
      split at h
      · split at h
        · cases ha : acc (cfz (D k).n1 (D k).z1 ((m : Int) + 1)) ((D k).z2 m) (shs A (D k).f ((m : Int) + 1) na) with
          | none => rw [ha] at h; cases h
          | some s => rw [ha] at h; injection h with h; subst h; exact sumF_ok _ _
        · cases h
      · injection h with h; subst h; exact ks_fok hn
theorem ksh_fok {need many : Int} {ng : Nat} {zg : Nat → Int} {nc : Nat} {zc : Nat → Int} {D : Nat → DV} {nd : Nat} {A : Nat → Ans} {na : Nat} {m n : Int} (h : kshF need many ng zg nc zc D nd A na m = some n) : fok n = true := by
  unfold kshF at h; split at h
  · exact ks_fok h
  · cases h
theorem accV_fok {o : Option Int} (h : ∀ n, o = some n → fok n = true) : ∃ s b, accV o = .tuple #[.int .i64 s, .bool b] ∧ fok s = true := by
  cases o with
  | none => exact ⟨0, false, rfl, rfl⟩
  | some s => exact ⟨s, true, rfl, h s rfl⟩
/-- A key with all shares, drawn. -/
def GotHl (w : World) (base B : Nat) (a : Option Addr) (len cap p : Nat) (e : Ending) (w' : World) : Prop :=
  ∃ (need many : Nat) (ag : Option Addr) (ng cg : Nat) (zg : Nat → Int) (ac : Option Addr) (nc cc : Nat) (zc : Nat → Int) (v : Value), e = .returned (.tuple #[.agg #[.int .i64 need, .int .i64 many, .slice ag ng cg, .slice ac nc cc], v]) ∧ KeyIn w w' need many ag ng zg ac nc zc ∧ (1 ≤ many ∧ 1 ≤ need ∧ need ≤ many) ∧ OwnS w' w.heap.size v many ∧ w.grownBy w' (some B) ∧ ∃ p', p ≤ p' ∧ p' ≤ p + 50000 ∧ Rd w' base B a len cap p'
theorem goth_mk {w W : World} {base B : Nat} {a : Option Addr} {len cap p p' R : Nat} {need many : Nat} {ag : Option Addr} {ng cg : Nat} {zg : Nat → Int} {ac : Option Addr} {nc cc : Nat} {zc : Nat → Int} {v : Value} {wk : World} {v0 v1 v2 v3 : Value} (hb : Blk W R #[v0, v1, v2, v3] 62) (hR : w.heap.size ≤ R) (hRk : R < wk.heap.size) (hk : KeyIn wk W need many ag ng zg ac nc zc) (hm : 1 ≤ many ∧ 1 ≤ need ∧ need ≤ many) (hO : OwnS W wk.heap.size v many) (hg : w.grownBy W (some B)) (hB : B < w.heap.size) (h1 : p ≤ p') (h2 : p' ≤ p + 50000) (hrd : Rd W base B a len cap p') :
    Blk (stored4 W R (.int .i64 need) (.int .i64 many) (.slice ag ng cg) (.slice ac nc cc)) R #[.int .i64 need, .int .i64 many, .slice ag ng cg, .slice ac nc cc] 62 ∧
    GotHl w base B a len cap p (.returned (.tuple #[.agg #[.int .i64 need, .int .i64 many, .slice ag ng cg, .slice ac nc cc], v])) (stored4 W R (.int .i64 need) (.int .i64 many) (.slice ag ng cg) (.slice ac nc cc)) := by
  have g1 : W.grownBy (stored4 W R (.int .i64 need) (.int .i64 many) (.slice ag ng cg) (.slice ac nc cc)) (some R) := gtr' (gtr' (gtr' (grown_set W R 0 (.int .i64 need)) (grown_set _ R 1 (.int .i64 many))) (grown_set _ R 2 (.slice ag ng cg))) (grown_set _ R 3 (.slice ac nc cc))
  have hr : ∀ g, (some R : Option Nat) = some g → g < wk.heap.size := fun g e => by have e := Option.some.inj e; omega
  have hf := hrd.from_
  exact ⟨(((hb.set 0 _).set 1 _).set 2 _).set 3 _, need, many, ag, ng, cg, zg, ac, nc, cc, zc, v, rfl, (hk.kept g1 hr).lower (by omega), hm, (hO.kept g1 hr).lower (by omega), grown_newR hg hR g1, p', h1, h2, hrd.grownN g1 (by omega) (by omega)⟩
theorem accV_any (o : Option Int) : ∃ s b, accV o = .tuple #[.int .i64 s, .bool b] := by
  cases o with
  | none => exact ⟨0, false, rfl⟩
  | some s => exact ⟨s, true, rfl⟩
set_option maxRecDepth 100000 in
set_option maxHeartbeats 4000000 in
theorem held_any (w : World) (base B : Nat) (a : Option Addr) (len cap p : Nat) (h : Rd w base B a len cap p) (hp : p ≤ 1000) :
    Calls Try.prog 42 #[.pointer (some ⟨B, 0, none⟩)] w (GotHl w base B a len cap p) := by
  have hBw := h.lt
  have HR := Lib.hid (h.alloc (.cells #[.int .i64 0, .int .i64 0, .slice none 0 0, .slice none 0 0] 62)); clear h
  have HR0 := Lib.hid (Blk.new w #[.int .i64 0, .int .i64 0, .slice none 0 0, .slice none 0 0] 62)
  have HG0 := Lib.hid (grown_alloc w (.cells #[.int .i64 0, .int .i64 0, .slice none 0 0, .slice none 0 0] 62) (some B))
  obtain ⟨i0, hi, hz0, hz1, hz2⟩ := info_parts info_hld
  go_enter Try.func42, Try.ntmps42
  go_wp2_with fail
  refine (key_any _ base B a len cap p HR.out hp).mono ?_
  rintro e w2 ⟨need, many, ag, ng, cg, zg, ac, nc, cc, zc, v, L, vA, LA, rfl, hk, hac, hD, ⟨⟨hm1, hm2⟩, hL⟩, hA, hLA, hg2, p2, hp2, hp2', hr2⟩
  have hs1 : (w.alloc (.cells #[.int .i64 0, .int .i64 0, .slice none 0 0, .slice none 0 0] 62)).heap.size = w.heap.size + 1 := by show (w.heap.push _).size = _; simp
  have hs2 := hg2.size
  rw [hs1] at hs2
  obtain ⟨ad, cd, rfl, hdi⟩ := hD.din
  obtain ⟨aa, ca, rfl, hans, hwf⟩ := hA.ans
  have HR2 := Lib.hid (HR0.out.kept hg2 (by intro e; have e := Option.some.inj e; omega)); have HG2 := Lib.hid (gtr' HG0.out hg2); have HRd2 := Lib.hid hr2; have HK2 := Lib.hid hk; have HD2 := Lib.hid hD; have HDI := Lib.hid hdi.di; have HA2 := Lib.hid hans
  have hm6 := hk.m5; have hng := hk.g6; have hnc := hk.c5
  clear hr2 hg2 HR0 HG0 HR hk hD hA hdi hans hwf hac
  have HKb := Lib.hid ((Blk.new w2 #[.int .i64 need, .int .i64 many, .slice ag ng cg, .slice ac nc cc] 62).keptN (grown_alloc _ (.cells #[] 40) none))
  have hsk : (w2.alloc (.cells #[.int .i64 need, .int .i64 many, .slice ag ng cg, .slice ac nc cc] 62)).heap.size = w2.heap.size + 1 := by show (w2.heap.push _).size = _; simp
  have HO0 := Lib.hid (show OwnS ((w2.alloc (.cells #[.int .i64 need, .int .i64 many, .slice ag ng cg, .slice ac nc cc] 62)).alloc (.cells #[] 40)) w2.heap.size (.slice (some ⟨w2.heap.size + 1, 0, none⟩) 0 0) 0 from ⟨fun _ => 0, by rw [← hsk]; exact owns_lower ⟨rfl, .inr ⟨_, 0, #[], rfl, Nat.le_refl _, Blk.new _ #[] _, Nat.le_refl _, by decide, rfl, rfl⟩⟩ (by rw [hsk]; exact Nat.le_succ _), fun j hj => by omega⟩)
  have HGk := Lib.hid (gtr (grown_alloc w2 (.cells #[.int .i64 need, .int .i64 many, .slice ag ng cg, .slice ac nc cc] 62) none) (grown_alloc _ (.cells #[] 40) none))
  go_wp2
  go_loopw [7, 8] (fun v i W => ∃ (k : Nat), k ≤ many ∧ i = .int .i64 ((k : Int) + 1) ∧ OwnS W w2.heap.size v k ∧ Blk W w2.heap.size #[.int .i64 need, .int .i64 many, .slice ag ng cg, .slice ac nc cc] 62 ∧ w2.grownBy W none) (fun _ i _ => many + 1 - (intOf i).toNat)
  case atStart => exact ⟨0, by omega, rfl, HO0.out, HKb.out, HGk.out⟩
  case round =>
    obtain ⟨k, hk, rfl, ho, hb, hg⟩ := hrel
    obtain ⟨W1, hW⟩ : ∃ W, W = wr := ⟨_, rfl⟩; subst hW
    obtain ⟨v1, hW⟩ : ∃ W, W = u7 := ⟨_, rfl⟩; subst hW
    have HO := Lib.hid ho; have HB := Lib.hid hb; have HG := Lib.hid hg
    have hs3 := hg.size
    clear ho hb hg
    obtain ⟨k0, k1, k2, k3, f0, f1, f2, f3⟩ := HB.out.all4
    by_cases hlt : k < many
    · have hlt' : (k : Int) + 1 ≤ (many : Int) := by omega
      obtain ⟨s, bb, hsb, hsf⟩ := accV_fok (o := kshF need many ng zg nc zc (dAt L) L.length (aAt LA) LA.length ((k : Int) + 1)) (fun n hn => ksh_fok hn)
      go_wp2_with fail
      refine (skeyshare _ need many _ _ _ zg _ _ _ zc _ _ _ (dAt L) _ _ _ (aAt LA) _ (HK2.out.ig.kept HG.out) (HK2.out.ic.kept HG.out) (HDI.out.kept HG.out) (fun j hj => by obtain ⟨h1, h2, _⟩ := HD2.out.fine _ (dAt_mem hj); exact ⟨by omega, by omega⟩) (HA2.out.kept HG.out) (by omega) (by omega) (by omega) (by omega)).mono ?_
      rintro e w3 ⟨rfl, hg3⟩
      rw [hsb]
      have HG3 := Lib.hid (gtr HG.out hg3); have HB3 := Lib.hid (HB.out.keptN hg3); have HO3 := Lib.hid (HO.out.kept hg3 (fun g e => by cases e))
      have hs4 := HG3.out.size
      clear hg3 hsb k0 k1 k2 k3 f0 f1 f2 f3
      obtain ⟨hz, hzo, hzf⟩ := HO3.out
      have HZ := Lib.hid hzo; have HZF := Lib.hid hzf; clear hzo hzf
      go_wp2_with (at_builtin; refine wpList_append_own _ rfl _ _ 33 rfl w2.heap.size 40 i0 (.agg #[.int .i64 0, .int .i64 0]) 2 16 und_hlds hi hz0 hz1 hz2 rfl (by decide) v1 k _ rfl (HZ.out.alloc _) ⟨w3.heap.size, 0, none⟩ 1 1 [.int .i64 ((k : Int) + 1), .int .i64 s] rfl rfl (World.news_of_block (cs := #[.int .i64 ((k : Int) + 1), .int .i64 s]) (t := 40) (fr := (0, 0)) (heap_alloc_new w3 _)) (by simp [Value.oneCell']) (by unfold maxLen; omega) (by omega) (by simp; omega) ?_; intro v' W4 hown' hgrow _)
      have HO4 := Lib.hid (show OwnS W4 w2.heap.size v' (k + 1) from ⟨fun j => if j = k then s else hz j, by rw [hzs, hzs_congr (hz' := hz) fun j hj => if_neg (by omega)]; simpa using hown', fun j hj => by
        by_cases e : j = k
        · simp only [e, if_true]; exact hsf
        · simp only [if_neg e]; exact HZF.out j (by omega)⟩)
      have hgw : w3.grownBy W4 v1.ownBlock := grown_trans (grown_alloc w3 _ _) hgrow
      have hne : ∀ g, v1.ownBlock = some g → w2.heap.size ≤ g ∧ g ≠ w2.heap.size := fun g hv => ⟨(HZ.out.lt g hv).1, fun e => by
        subst e
        rcases HZ.out.2 with ⟨hv', _⟩ | ⟨g', c', cur, hv', _, hgg, _⟩
        · rw [hv'] at hv; cases hv
        · rw [hv'] at hv
          have hv := Option.some.inj hv
          have hB := HB3.out
          simp only at hv
          subst hv
          unfold Blk at hB; rw [hgg] at hB; injection hB with hB; injection hB with _ hB _; exact absurd hB (by decide)⟩
      have HB4 := Lib.hid (HB3.out.kept hgw (by intro e; exact (hne _ e.symm).2 rfl))
      have HG4 := Lib.hid (show w2.grownBy W4 none by
        cases hv : v1.ownBlock with
        | none => rw [hv] at hgw; exact gtr HG3.out hgw
        | some g => rw [hv] at hgw; exact grown_new HG3.out (hne g hv).1 hgw)
      clear hown' hgrow hgw hne
      go_wp2
      go_roundw
      case rel => exact ⟨k + 1, by omega, by go_num, HO4.out, HB4.out, HG4.out⟩
      case measure => simp [intOf]; omega
    · obtain rfl : k = many := by omega
      have hlt' : ¬ (k : Int) + 1 ≤ (k : Int) := by omega
      have HRd3 := Lib.hid (HRd2.out.kept (w' := W1) (fun j hj => HG.out.block j (by have := HRd2.out.lt; have := HRd2.out.from_; omega) (by simp)) (HG.out.block B HRd2.out.lt (by simp)))
      go_wp2_with fail
      refine (pick_any _ base B a len cap p2 4 HRd3.out (by omega) (by omega)).mono ?_
      rintro e W4 ⟨x, x0, x1, rfl, hr, hg, hsz⟩
      have HR4 := Lib.hid ((HR2.out.keptN HG.out).kept hg (by intro e; have e := Option.some.inj e; omega))
      have HB4 := Lib.hid (HB.out.kept hg (by intro e; have e := Option.some.inj e; omega))
      have HK4 := Lib.hid ((HK2.out.kept HG.out (fun g e => by cases e)).kept hg (fun g e => by have e := Option.some.inj e; omega))
      have HO4 := Lib.hid (HO.out.kept hg (fun g e => by have e := Option.some.inj e; omega))
      have HG4 := Lib.hid (gtr' (gtr' HG2.out (grown_some HG.out)) hg); have HRd4 := Lib.hid hr
      have hs5 := hg.size
      have hg4 := hg
      clear hr hg hsz k0 k1 k2 k3 f0 f1 f2 f3
      obtain ⟨g, c, rfl, hgl, hgs, hkc, hcm, hcel, hfro, hset⟩ := HO4.out.h.ptr hm1
      clear hset
      have HS4 := Lib.hid ((Same.rfl'.grown (Nat.le_refl _) HG.out (fun g e => by cases e)).grown (lo := w.heap.size + 1) (hi := w2.heap.size) (Nat.le_refl _) hg4 (fun g e => by have e := Option.some.inj e; omega))
      clear hg4
      have hpos : (0 : Int) < (k : Int) := by omega
      obtain ⟨r0, r1, r2, r3, j0, j1, j2, j3⟩ := HR4.out.all4
      have hl0 := HR4.out.lt; have hl1 := HB4.out.lt
      rcases (by omega : x = 0 ∨ 1 ≤ x) with rfl | hx
      · go_wp2_with fail
        refine (pick_any _ base B a len cap (p2 + 1) k HRd4.out (by omega) (by omega)).mono ?_
        rintro e W5 ⟨y, y0, y1, rfl, hr, hg, hsz⟩
        obtain ⟨m, rfl⟩ : ∃ m : Nat, y = m := ⟨y.toNat, by omega⟩
        have HR5 := Lib.hid (HR4.out.kept hg (by intro e; have e := Option.some.inj e; omega))
        have HB5 := Lib.hid (HB4.out.kept hg (by intro e; have e := Option.some.inj e; omega))
        have HO5 := Lib.hid (HO4.out.kept hg (fun g e => by have e := Option.some.inj e; omega))
        have HS5 := Lib.hid (HS4.out.grown (Nat.le_refl _) hg (fun g e => by have e := Option.some.inj e; omega))
        have HG5 := Lib.hid (gtr' HG4.out hg); have HRd5 := Lib.hid hr
        have hs6 := hg.size
        clear hr hg hsz r0 r1 r2 r3 j0 j1 j2 j3 hcel hfro
        go_wp2_with fail
        refine (pick_any _ base B a len cap (p2 + 1 + 1) 23 HRd5.out (by omega) (by omega)).mono ?_
        rintro e W6 ⟨z, z0, z1, rfl, hr, hg, hsz⟩
        have HR6 := Lib.hid (HR5.out.kept hg (by intro e; have e := Option.some.inj e; omega))
        have HB6 := Lib.hid (HB5.out.kept hg (by intro e; have e := Option.some.inj e; omega))
        have HO6 := Lib.hid (HO5.out.kept hg (fun g e => by have e := Option.some.inj e; omega))
        have HS6 := Lib.hid (HS5.out.grown (Nat.le_refl _) hg (fun g e => by have e := Option.some.inj e; omega))
        have HG6 := Lib.hid (gtr' HG5.out hg); have HRd6 := Lib.hid hr
        have hs7 := hg.size
        clear hr hg hsz
        obtain ⟨g', c', hv6, hgl', hgs', hkc', hcm', hcel, hfro, hset⟩ := HO6.out.h.ptr hm1
        injection hv6 with e1 _ e3; injection e1 with e1; injection e1 with e1 _; subst e1; subst e3
        obtain ⟨z9, hcel9⟩ := hcel (m * 2 + 1) (by omega)
        have hfr9 := hfro (m * 2 + 1)
        have HO9 := Lib.hid (HO6.out.set (m := m) (by omega) (fok_mk z0 z1))
        have hg1 := grown_set W6 g (m * 2 + 1) (.int .i64 z)
        have hgK : w2.heap.size ≠ g := fun e => by
          subst e
          rcases HO6.out.h with ⟨zs, h⟩
          rcases h.2 with ⟨hv', _⟩ | ⟨g', c', cur, hv', _, hgg, _⟩
          · cases hv'
          · injection hv' with e1 _ _; injection e1 with e1; injection e1 with e1 _; subst e1
            have hB := HB6.out
            unfold Blk at hB; rw [hgg] at hB; injection hB with hB; injection hB with _ hB _; exact absurd hB (by decide)
        have HR7 := Lib.hid (HR6.out.other (b' := g) (i := m * 2 + 1) (v := .int .i64 z) (by omega))
        have HB7 := Lib.hid (HB6.out.other (b' := g) (i := m * 2 + 1) (v := .int .i64 z) hgK)
        have hS1 := HS6.out.grown (Nat.le_refl _) hg1 (fun g e => by have e := Option.some.inj e; omega)
        have hK1 : KeyIn (w.alloc (.cells #[.int .i64 0, .int .i64 0, .slice none 0 0, .slice none 0 0] 62)) (W6.setCell ⟨g, m * 2 + 1, none⟩ (.int .i64 z)) need k ag ng zg ac nc zc :=
          ⟨HK2.out.n5, HK2.out.m5, HK2.out.g6, HK2.out.c5, ints_same HK2.out.ig HK2.out.rg (by rw [hs1]; exact hS1.1) hS1.2, ints_same HK2.out.ic HK2.out.rc (by rw [hs1]; exact hS1.1) hS1.2, (fun b off e => by have := HK2.out.rg b off e; have := hS1.2; omega), (fun b off e => by have := HK2.out.rc b off e; have := hS1.2; omega)⟩
        have HE := Lib.hid (goth_mk (w := w) (p := p) (p' := p2 + 1 + 1 + 1) (cg := cg) (cc := cc) HR7.out (Nat.le_refl _) (by rw [hs1]; omega) hK1 ⟨hm1, hm2⟩ (HO9.out.lower (by rw [hs1]; omega)) (grown_newR HG6.out (by omega) hg1) hBw (by omega) (by omega) (HRd6.out.grownN hg1 (by omega) (by have := HRd6.out.from_; omega)))
        obtain ⟨r0, r1, r2, r3, j0, j1, j2, j3⟩ := HR6.out.all4
        obtain ⟨k0, k1, k2, k3, f0, f1, f2, f3⟩ := HB6.out.all4
        have hl0' := HR6.out.lt; have hl1' := HB6.out.lt
        clear hK1 hS1 hg1 hcel hfro hset
        go_wp2
        (try simp only [Exit.inBlock, Exit.then])
        refine bodyPost_ret (ret_key2 rfl _ rfl HE.out.1) rfl ?_
        exact HE.out.2
      · have e0 : (x == 0) = false := by simp; omega
        obtain ⟨k0, k1, k2, k3, f0, f1, f2, f3⟩ := HB4.out.all4
        have HE := Lib.hid (goth_mk (w := w) (p := p) (p' := p2 + 1) (cg := cg) (cc := cc) HR4.out (Nat.le_refl _) (by rw [hs1]; omega) HK4.out ⟨hm1, hm2⟩ (HO4.out.lower (by rw [hs1]; omega)) HG4.out hBw (by omega) (by omega) HRd4.out)
        go_wp2
        (try simp only [Exit.inBlock, Exit.then])
        refine bodyPost_ret (ret_key2 rfl _ rfl HE.out.1) rfl ?_
        exact HE.out.2
/-- A key with one member and a share, drawn from the program's input. -/
def GotF (w : World) (e : Ending) (w' : World) : Prop :=
  ∃ (need many : Nat) (ag : Option Addr) (ng cg : Nat) (zg : Nat → Int) (ac : Option Addr) (nc cc : Nat) (zc : Nat → Int) (m s : Int), e = .returned (.tuple #[.agg #[.int .i64 need, .int .i64 many, .slice ag ng cg, .slice ac nc cc], .int .i64 m, .int .i64 s]) ∧ KeyIn w w' need many ag ng zg ac nc zc ∧ w.grownBy w' none
theorem gotf_mk {w W : World} {R : Nat} {need many : Nat} {ag : Option Addr} {ng cg : Nat} {zg : Nat → Int} {ac : Option Addr} {nc cc : Nat} {zc : Nat → Int} {wk : World} {v0 v1 v2 v3 : Value} (m s : Int) (hb : Blk W R #[v0, v1, v2, v3] 62) (hR : w.heap.size ≤ R) (hRk : R < wk.heap.size) (hk : KeyIn wk W need many ag ng zg ac nc zc) (hg : w.grownBy W none) :
    Blk (stored4 W R (.int .i64 need) (.int .i64 many) (.slice ag ng cg) (.slice ac nc cc)) R #[.int .i64 need, .int .i64 many, .slice ag ng cg, .slice ac nc cc] 62 ∧
    GotF w (.returned (.tuple #[.agg #[.int .i64 need, .int .i64 many, .slice ag ng cg, .slice ac nc cc], .int .i64 m, .int .i64 s])) (stored4 W R (.int .i64 need) (.int .i64 many) (.slice ag ng cg) (.slice ac nc cc)) := by
  have g1 : W.grownBy (stored4 W R (.int .i64 need) (.int .i64 many) (.slice ag ng cg) (.slice ac nc cc)) (some R) := gtr' (gtr' (gtr' (grown_set W R 0 (.int .i64 need)) (grown_set _ R 1 (.int .i64 many))) (grown_set _ R 2 (.slice ag ng cg))) (grown_set _ R 3 (.slice ac nc cc))
  have hr : ∀ g, (some R : Option Nat) = some g → g < wk.heap.size := fun g e => by have e := Option.some.inj e; omega
  exact ⟨(((hb.set 0 _).set 1 _).set 2 _).set 3 _, need, many, ag, ng, cg, zg, ac, nc, cc, zc, m, s, rfl, (hk.kept g1 hr).lower (by omega), grown_new hg hR g1⟩
theorem gotf_drew {w W : World} {R : Nat} {vs : Array Value} {T : TypeId} {e : Ending} (h : Blk W R vs T ∧ GotF w e W) : Blk W.drew R vs T ∧ GotF w e W.drew := by
  obtain ⟨hb, need, many, ag, ng, cg, zg, ac, nc, cc, zc, m, s, he, hk, hg⟩ := h
  exact ⟨hb, need, many, ag, ng, cg, zg, ac, nc, cc, zc, m, s, he, ⟨hk.n5, hk.m5, hk.g6, hk.c5, hk.ig.keptB (fun _ _ => rfl) (Nat.le_refl _), hk.ic.keptB (fun _ _ => rfl) (Nat.le_refl _), hk.rg, hk.rc⟩, ⟨hg.os, hg.tape, hg.output, hg.size, hg.block⟩⟩
end Draw
end Go.Proofs.Ytchgjdbmianajaa
