/-
  How the model draws answers to deals.
-/
import Derived.Test.YtchgjdbmianajaaQa
import Derived.Deep.RegionHeld3
namespace Go.Proofs.Ytchgjdbmianajaa
namespace Draw
open Go.RowKit Alg Mem Con Mp
set_option linter.unusedVariables false

set_option maxRecDepth 100000 in
set_option maxHeartbeats 40000000 in
theorem ans_any (w : World) (base B : Nat) (a : Option Addr) (len cap p : Nat) (h : Rd w base B a len cap p) (ad : Option Addr) (nd cd : Nat) (D : Nat → DV) (lo hi' : Nat) (hD : DIn w lo hi' ad nd D) (hlo : B < lo) (hhi : hi' ≤ w.heap.size) (hnd : nd ≤ 6) (hb : ∀ j, j < nd → (D j).n1 ≤ 2000000 ∧ (D j).n2 ≤ 6 ∧ (∀ i, i < (D j).n2 → (D j).z2 i ≤ 1000000) ∧ wf (D j).f = true) (hp : p ≤ 1000000) :
    Calls Try.prog 64 #[.pointer (some ⟨B, 0, none⟩), .slice ad nd cd] w fun e w' => ∃ (v : Value) (L : List Ans), e = .returned v ∧ OwnA w' w.heap.size v L ∧ L.length ≤ 3000 ∧ w.grownBy w' (some B) ∧ ∃ p', p ≤ p' ∧ p' ≤ p + 3000 ∧ Rd w' base B a len cap p' := by
  have hBw := h.lt
  have HH := Lib.hid hb; have HDI := Lib.hid hD
  obtain ⟨i0, hi, hz0, hz1, hz2⟩ := info_parts info_ans
  have H0 := Lib.hid (show ASt w base B a len cap p p (w.alloc (.cells #[] 102)) (.slice (some ⟨w.heap.size, 0, none⟩) 0 0) [] from
    ⟨⟨⟨rfl, .inr ⟨w.heap.size, 0, #[], rfl, Nat.le_refl _, by show (w.heap.push _)[w.heap.size]? = _; simp, Nat.le_refl _, by decide, rfl, rfl⟩⟩, fun x hx => by simp at hx⟩, grown_alloc _ _ _, h.alloc _, by simp⟩)
  have hr : ∀ g, (some B : Option Nat) = some g → g < lo ∨ hi' ≤ g := fun g e => by injection e with e; omega
  have HRB := Lib.hid hr
  clear h hb hD hr
  go_enter Try.func64, Try.ntmps64
  go_wp2
  go_loopw [5, 6] (fun v i W => ∃ (k p' : Nat) (L : List Ans), k ≤ nd ∧ i = .int .i64 k ∧ p' ≤ p + 400 * k ∧ ASt w base B a len cap p p' W v L) (fun _ i _ => nd - (intOf i).toNat)
  case atStart => exact ⟨0, p, [], by omega, rfl, by omega, H0.out⟩
  case round =>
    obtain ⟨i, p1, L1, hk, rfl, hp1, hs⟩ := hrel
    obtain ⟨W1, hW⟩ : ∃ W, W = wr := ⟨_, rfl⟩; subst hW
    obtain ⟨v1, hW⟩ : ∃ W, W = u5 := ⟨_, rfl⟩; subst hW
    have HS1 := Lib.hid hs; clear hs
    by_cases hlt : i < nd
    · have hi1 : (0 : Int) ≤ (i : Int) := by omega
      have hi2 : (i : Int) < (nd : Int) := by omega
      obtain ⟨hn1, hn2, hz, hwf⟩ := HH.out i hlt
      have HZ := Lib.hid hz; have HWF := Lib.hid hwf; clear hz hwf
      have HD1 := Lib.hid (HDI.out.kept HS1.out.g HRB.out)
      rcases HD1.out.di with h0 | ⟨bd, off, rfl, hbd, hcc⟩
      · omega
      obtain ⟨⟨hc0, hc1, hc2⟩, hrw⟩ := hcc i hlt
      have HRW := Lib.hid hrw; clear hcc hrw
      go_wp2_with fail
      refine (q11bad _ (D i).f _ (D i).n1 _ (D i).z1 _ (D i).n2 _ (D i).z2 HRW.out.i1 HRW.out.i2 hn1 hn2 HZ.out).mono ?_
      rintro e W2 ⟨bb, cb, rfl, hrow, hg2⟩
      have HS2 := Lib.hid (HS1.out.quiet hg2)
      have hW1s := HS1.out.g.size
      have HRow2 := Lib.hid (hrow.lower hW1s)
      have hlen := badl_len (qbad (D i).n1 (D i).z1 (D i).z2) (D i).n2
      have HRG := Lib.hid (fun (j : Nat) (hj : j < (badl (qbad (D i).n1 (D i).z1 (D i).z2) (D i).n2).length) => badl_rng hj)
      generalize badl (qbad (D i).n1 (D i).z1 (D i).z2) (D i).n2 = Lb at HRow2 hlen HRG ⊢
      clear hrow hg2 hc0 hc1 hc2
      go_wp2
      go_loopw [5, 8] (fun v i W => ∃ (k p' : Nat) (L : List Ans), k ≤ Lb.length ∧ i = .int .i64 k ∧ p' ≤ p1 + 60 * k ∧ ASt w base B a len cap p p' W v L ∧ Row W w.heap.size 3 bb Lb.length cb (li Lb)) (fun _ i _ => Lb.length - (intOf i).toNat)
      case atStart => exact ⟨0, p1, L1, by omega, rfl, by omega, HS2.out, HRow2.out⟩
      case round =>
        obtain ⟨k, p3, L3, hkk, rfl, hp3, hs, hrow⟩ := hrel
        obtain ⟨W3, hW⟩ : ∃ W, W = wr := ⟨_, rfl⟩; subst hW
        obtain ⟨v3, hW⟩ : ∃ W, W = u5 := ⟨_, rfl⟩; subst hW
        have HS3 := Lib.hid hs; have HR3 := Lib.hid hrow; clear hs hrow
        by_cases hlt2 : k < Lb.length
        · obtain ⟨hrg1, hrg2⟩ := HRG.out k hlt2
          have hk1 : (0 : Int) ≤ (k : Int) := by omega
          have hk2 : (k : Int) < (Lb.length : Int) := by omega
          have hx100 : li Lb k ≤ 1000000 := by omega
          have HWK := Lib.hid (wf_few (n := li Lb k) (by omega) (by omega))
          go_wp2
          go_loopw [5, 9] (fun v i W => ∃ (n p' : Nat) (L : List Ans), n ≤ 23 ∧ i = .int .i64 n ∧ p' ≤ p3 + n ∧ ASt w base B a len cap p p' W v L ∧ Row W w.heap.size 3 bb Lb.length cb (li Lb)) (fun _ i _ => 23 - (intOf i).toNat)
          case atStart => exact ⟨0, p3, L3, by omega, rfl, by omega, HS3.out, HR3.out⟩
          case round =>
            obtain ⟨n, p4, L4, hn, rfl, hp4, hs, hrow⟩ := hrel
            obtain ⟨W4, hW⟩ : ∃ W, W = wr := ⟨_, rfl⟩; subst hW
            obtain ⟨v4, hW⟩ : ∃ W, W = u5 := ⟨_, rfl⟩; subst hW
            have HS4 := Lib.hid hs; have HR4 := Lib.hid hrow; clear hs hrow
            have hf4 := HS4.out.few
            have HWN := Lib.hid (wf_few (n := (n : Int)) (by omega) (by omega))
            by_cases hlt3 : n < 23
            · have hlt3' : (n : Int) < 23 := by omega
              go_wp2_with fail
              refine (pick_any _ base B a len cap p4 4 HS4.out.rd (by omega) (by omega)).mono ?_
              rintro e W5 ⟨x, x0, x1, rfl, hr, hg, hsz⟩
              have HS5 := Lib.hid (HS4.out.pick hBw hg hr (Nat.le_succ _)); have HR5 := Lib.hid (HR4.out.kept hg (by intro e; have e := Option.some.inj e; have := HR4.out.from_; omega))
              clear hr hg hsz
              rcases (by omega : x = 0 ∨ 1 ≤ x) with rfl | hx
              · -- out
                go_wp2_with fail
                refine (pick_any _ base B a len cap _ 6 HS5.out.rd (by omega) (by omega)).mono ?_
                rintro e W8 ⟨y, y0, y1, rfl, hr, hg, hsz⟩
                have HS8 := Lib.hid (HS5.out.pick hBw hg hr (Nat.le_succ _)); have HR8 := Lib.hid (HR5.out.kept hg (by intro e; have e := Option.some.inj e; have := HR5.out.from_; omega))
                clear hr hg hsz
                rcases (by omega : y = 0 ∨ 1 ≤ y) with rfl | hy
                · have HD8 := Lib.hid (HDI.out.kept HS8.out.g HRB.out)
                  rcases HD8.out.di with h0 | ⟨bd', off', hbo, hbd', hcc⟩
                  · omega
                  cases hbo
                  obtain ⟨⟨hc0, hc1, hc2⟩, hrw⟩ := hcc i hlt
                  have hcb := HR8.out.cell hlt2
                  have hbl := HR8.out.lt
                  have hfew := HS8.out.few
                  have hw8 := HS8.out.g.size
                  have HRd := Lib.hid (HS8.out.rd.kept (w' := W8.drew) (fun _ _ => rfl) rfl)
                  have hdB : ¬ bd = B := by have := HDI.out.rng bd off rfl; omega
                  have hbB : ¬ bb = B := by have := HR8.out.from_; omega
                  clear hcc hrw
                  go_wp2_with fail
                  go_region_held3 (fun w' => w'.cell? ⟨bd, off + i * 3, none⟩ = some (.int .i64 (D i).f) ∧ w'.cell? ⟨bb, k, none⟩ = some (.int .i64 (li Lb k))) (first | exact hS10 | exact hS9 | exact ⟨hc0, hcb⟩ | exact ⟨(World.cell?_of_block (Below.heap_alloc _ _ _ (by first | assumption | omega))).trans hS9.1, (World.cell?_of_block (Below.heap_alloc _ _ _ (by first | assumption | omega))).trans hS9.2⟩) (first
                    | (go_at_call 32; (with_reducible refine (num_any _ base B a len cap _ HRd.out (by omega)).mono ?_); rintro e W9 ⟨q, q0, q1, rfl, hg, p9, r1, r2, hr⟩; have hg9 : W8.grownBy W9 (some B) := ⟨hg.os, hg.tape, hg.output, hg.size, hg.block⟩; have HS9 := Lib.hid (HS8.out.pick hBw hg9 hr (by omega)); have HR9 := Lib.hid (HR8.out.kept hg9 (by intro e; have e := Option.some.inj e; omega)); have hS9 : W9.cell? ⟨bd, off + i * 3, none⟩ = some (.int .i64 (D i).f) ∧ W9.cell? ⟨bb, k, none⟩ = some (.int .i64 (li Lb k)) := ⟨(World.cell?_of_block (hg9.block bd hbd' (by intro e; injection e with e; omega))).trans hc0, (World.cell?_of_block (hg9.block bb hbl (by intro e; injection e with e; omega))).trans hcb⟩; have hbd9 : bd < W9.heap.size := Nat.lt_of_lt_of_le hbd' hg9.size; have hbb9 : bb < W9.heap.size := Nat.lt_of_lt_of_le hbl hg9.size; have hw9 := HS9.out.g.size; have HW9 := Lib.hid (show wf q = true from WalkArith.wf_i64 (by omega)); clear hg hr hg9)
                    | (refine step_app _ (by rfl) (.tmp 66) (.tmp 79) 79 rfl w.heap.size 102 i0 (.agg #[.int .i64 0, .int .i64 0, .int .i64 0]) 3 24 und_anss hi hz0 hz1 hz2 rfl (by decide) _ _ _ rfl (HS9.out.own.1.alloc (.cells #[.int .i64 (D i).f, .int .i64 (li Lb k), .int .i64 q] 102)) ⟨W9.heap.size, 0, none⟩ 1 1 [.int .i64 (D i).f, .int .i64 (li Lb k), .int .i64 q] rfl rfl (World.news_of_block (cs := #[.int .i64 (D i).f, .int .i64 (li Lb k), .int .i64 q]) (t := 102) (fr := (0, 0)) (heap_alloc_new W9 _)) (by simp [Value.oneCell']) (by unfold maxLen; omega) (by omega) (by show w.heap.size ≤ (W9.alloc _).heap.size; simp; omega) ?_; intro v' W10 hown' hgrow _; have HS10 := Lib.hid (HS9.out.app (x := ⟨(D i).f, li Lb k, q⟩) hBw (by omega) hgrow hown' ⟨HWF.out, HWK.out, HW9.out⟩); have HR10 := Lib.hid (row_app HS9.out HR9.out hgrow); have hD10 := (HDI.out.kept HS10.out.g HRB.out).di; have hS10 : W10.cell? ⟨bd, off + i * 3, none⟩ = some (.int .i64 (D i).f) ∧ W10.cell? ⟨bb, k, none⟩ = some (.int .i64 (li Lb k)) := ⟨(by rcases hD10 with h0 | ⟨_, _, e1, _, hcc⟩; omega; cases e1; exact (hcc i hlt).1.1), HR10.out.cell hlt2⟩; clear hown' hgrow hD10))
                  all_goals
                    clear hS9 hS10
                    go_wp2
                    go_loopw [5, 10] (fun v i W => ∃ (n p' : Nat) (L : List Ans), n ≤ 23 ∧ i = .int .i64 n ∧ p' ≤ p9 + n ∧ ASt w base B a len cap p p' W v L ∧ Row W w.heap.size 3 bb Lb.length cb (li Lb)) (fun _ i _ => 23 - (intOf i).toNat)
                    case atStart => exact ⟨0, p9, _, by omega, rfl, by omega, HS10.out, HR10.out⟩
                    case round =>
                      obtain ⟨n, p4b, L4b, hn, rfl, hp4b, hs, hrow⟩ := hrel
                      obtain ⟨W4b, hW⟩ : ∃ W, W = wr := ⟨_, rfl⟩; subst hW
                      obtain ⟨v4b, hW⟩ : ∃ W, W = u5 := ⟨_, rfl⟩; subst hW
                      have HS4b := Lib.hid hs; have HR4b := Lib.hid hrow; clear hs hrow
                      have hf4b := HS4b.out.few
                      have HWNb := Lib.hid (wf_few (n := (n : Int)) (by omega) (by omega))
                      by_cases hlt3 : n < 23
                      · have hlt3' : (n : Int) < 23 := by omega
                        go_wp2_with fail
                        refine (pick_any _ base B a len cap p4b 8 HS4b.out.rd (by omega) (by omega)).mono ?_
                        rintro e W5b ⟨x, x0, x1, rfl, hr, hg, hsz⟩
                        have HS5b := Lib.hid (HS4b.out.pick hBw hg hr (Nat.le_succ _)); have HR5b := Lib.hid (HR4b.out.kept hg (by intro e; have e := Option.some.inj e; have := HR4b.out.from_; omega))
                        clear hr hg hsz
                        rcases (by omega : x = 0 ∨ 1 ≤ x) with rfl | hx
                        · -- out
                          go_wp2
                          go_roundw
                          case rel => exact ⟨k + 1, (p4b + 1), L4b, by omega, by go_num, by omega, HS5b.out, HR5b.out⟩
                          case measure => simp [intOf]; omega
                        · have hx' : (0 : Int) < x := by omega
                          have HD5b := Lib.hid (HDI.out.kept HS5b.out.g HRB.out)
                          rcases HD5b.out.di with h0 | ⟨bd', off', hbo, hbd', hcc⟩
                          · omega
                          cases hbo
                          obtain ⟨⟨hc0, hc1, hc2⟩, hrw⟩ := hcc i hlt
                          have hcb := HR5b.out.cell hlt2
                          have hbl := HR5b.out.lt
                          have HI1 := Lib.hid (hrw.i1.keptB (w' := W5b.drew) (fun _ _ => rfl) (Nat.le_refl _))
                          have hnw : ((n : Nat) : Int) ≤ 1000000 := by omega
                          clear hcc hrw
                          have hrle := HR5b.out.le; have hrmost := HR5b.out.most
                          cases hq : qfit (D i).z1 (D i).n1 (li Lb k) (n : Int) with
                          | false =>
                            go_wp2_with fail
                            go_region_held3 (fun w' => w'.cell? ⟨bd, off + i * 3 + 1, none⟩ = some (.slice (D i).a1 (D i).n1 (D i).c1) ∧ w'.cell? ⟨bb, k, none⟩ = some (.int .i64 (li Lb k))) (first | exact hS6 | exact ⟨hc1, hcb⟩) ((go_at_call 75; (with_reducible refine (q4fit _ _ _ _ (D i).z1 _ _ HI1.out (by omega) hx100 hnw).mono ?_); rintro e W6 ⟨rfl, hg2⟩; rw [hq]; have Hg6 := Lib.hid (show W5b.grownBy W6 none from ⟨hg2.os, hg2.tape, hg2.output, hg2.size, hg2.block⟩); have hS6 : W6.cell? ⟨bd, off + i * 3 + 1, none⟩ = some (.slice (D i).a1 (D i).n1 (D i).c1) ∧ W6.cell? ⟨bb, k, none⟩ = some (.int .i64 (li Lb k)) := ⟨(World.cell?_of_block (Hg6.out.block bd hbd' (by simp))).trans hc1, (World.cell?_of_block (Hg6.out.block bb hbl (by simp))).trans hcb⟩; clear hg2))
                            all_goals
                              have HS6 := Lib.hid (HS5b.out.quiet Hg6.out); have HR6 := Lib.hid (HR5b.out.keptN Hg6.out)
                              clear hS6
                              go_wp2
                              go_roundw
                              case rel => exact ⟨n + 1, p4b + 1, _, by omega, by go_num, by omega, HS6.out, HR6.out⟩
                              case measure => simp [intOf]; omega
                          | true =>
                            go_wp2_with fail
                            go_region_held3 (fun w' => w'.cell? ⟨bd, off + i * 3 + 1, none⟩ = some (.slice (D i).a1 (D i).n1 (D i).c1) ∧ w'.cell? ⟨bb, k, none⟩ = some (.int .i64 (li Lb k))) (first | exact hS6 | exact ⟨hc1, hcb⟩) ((go_at_call 75; (with_reducible refine (q4fit _ _ _ _ (D i).z1 _ _ HI1.out (by omega) hx100 hnw).mono ?_); rintro e W6 ⟨rfl, hg2⟩; rw [hq]; have Hg6 := Lib.hid (show W5b.grownBy W6 none from ⟨hg2.os, hg2.tape, hg2.output, hg2.size, hg2.block⟩); have hS6 : W6.cell? ⟨bd, off + i * 3 + 1, none⟩ = some (.slice (D i).a1 (D i).n1 (D i).c1) ∧ W6.cell? ⟨bb, k, none⟩ = some (.int .i64 (li Lb k)) := ⟨(World.cell?_of_block (Hg6.out.block bd hbd' (by simp))).trans hc1, (World.cell?_of_block (Hg6.out.block bb hbl (by simp))).trans hcb⟩; clear hg2))
                            all_goals
                              have HS6 := Lib.hid (HS5b.out.quiet Hg6.out); have HR6 := Lib.hid (HR5b.out.keptN Hg6.out)
                              have q0 := (World.cell?_of_block (Hg6.out.block bd hbd' (by simp))).trans hc0
                              have qb := hS6.2
                              have hfew := HS6.out.few
                              have hbd6 : bd < W6.heap.size := Nat.lt_of_lt_of_le hbd' Hg6.out.size
                              have hbb6 : bb < W6.heap.size := Nat.lt_of_lt_of_le hbl Hg6.out.size
                              have hw6 := HS6.out.g.size
                              clear hS6
                              go_wp2_with fail
                              go_region_law ((refine step_app _ (by rfl) (.tmp 101) (.tmp 113) 79 rfl w.heap.size 102 i0 (.agg #[.int .i64 0, .int .i64 0, .int .i64 0]) 3 24 und_anss hi hz0 hz1 hz2 rfl (by decide) _ _ _ rfl (HS6.out.own.1.alloc (.cells #[.int .i64 (D i).f, .int .i64 (li Lb k), .int .i64 (n : Int)] 102)).drew ⟨W6.heap.size, 0, none⟩ 1 1 [.int .i64 (D i).f, .int .i64 (li Lb k), .int .i64 (n : Int)] rfl rfl (World.news_of_block (cs := #[.int .i64 (D i).f, .int .i64 (li Lb k), .int .i64 (n : Int)]) (t := 102) (fr := (0, 0)) (heap_alloc_new W6 _)) (by simp [Value.oneCell']) (by unfold maxLen; omega) (by omega) (by show w.heap.size ≤ (W6.alloc _).heap.size; simp; omega) ?_; intro v' W7 hown' hgrow _; have hgr : (W6.alloc (.cells #[.int .i64 (D i).f, .int .i64 (li Lb k), .int .i64 (n : Int)] 102)).grownBy W7 v4b.ownBlock := ⟨hgrow.os, hgrow.tape, hgrow.output, hgrow.size, hgrow.block⟩; have HS7 := Lib.hid (HS6.out.app (x := ⟨(D i).f, li Lb k, (n : Int)⟩) hBw (by omega) hgr hown' ⟨HWF.out, HWK.out, HWNb.out⟩); have HR7 := Lib.hid (row_app HS6.out HR6.out hgr); clear hown' hgrow hgr))
                              all_goals
                                go_wp2
                                go_roundw
                                case rel => exact ⟨n + 1, p4b + 1, _, by omega, by go_num, by omega, HS7.out, HR7.out⟩
                                case measure => simp [intOf]; omega
                      · obtain rfl : n = 23 := by omega
                        go_wp2
                        go_roundw
                        case rel => exact ⟨k + 1, p4b, L4b, by omega, by go_num, by omega, HS4b.out, HR4b.out⟩
                        case measure => simp [intOf]; omega
                · have hy0 : (y == 0) = false := by simp; omega
                  go_wp2
                  go_loopw [5, 10] (fun v i W => ∃ (n p' : Nat) (L : List Ans), n ≤ 23 ∧ i = .int .i64 n ∧ p' ≤ ((p4 + 1) + 1) + n ∧ ASt w base B a len cap p p' W v L ∧ Row W w.heap.size 3 bb Lb.length cb (li Lb)) (fun _ i _ => 23 - (intOf i).toNat)
                  case atStart => exact ⟨0, ((p4 + 1) + 1), L4, by omega, rfl, by omega, HS8.out, HR8.out⟩
                  case round =>
                    obtain ⟨n, p4b, L4b, hn, rfl, hp4b, hs, hrow⟩ := hrel
                    obtain ⟨W4b, hW⟩ : ∃ W, W = wr := ⟨_, rfl⟩; subst hW
                    obtain ⟨v4b, hW⟩ : ∃ W, W = u5 := ⟨_, rfl⟩; subst hW
                    have HS4b := Lib.hid hs; have HR4b := Lib.hid hrow; clear hs hrow
                    have hf4b := HS4b.out.few
                    have HWNb := Lib.hid (wf_few (n := (n : Int)) (by omega) (by omega))
                    by_cases hlt3 : n < 23
                    · have hlt3' : (n : Int) < 23 := by omega
                      go_wp2_with fail
                      refine (pick_any _ base B a len cap p4b 8 HS4b.out.rd (by omega) (by omega)).mono ?_
                      rintro e W5b ⟨x, x0, x1, rfl, hr, hg, hsz⟩
                      have HS5b := Lib.hid (HS4b.out.pick hBw hg hr (Nat.le_succ _)); have HR5b := Lib.hid (HR4b.out.kept hg (by intro e; have e := Option.some.inj e; have := HR4b.out.from_; omega))
                      clear hr hg hsz
                      rcases (by omega : x = 0 ∨ 1 ≤ x) with rfl | hx
                      · -- out
                        go_wp2
                        go_roundw
                        case rel => exact ⟨k + 1, (p4b + 1), L4b, by omega, by go_num, by omega, HS5b.out, HR5b.out⟩
                        case measure => simp [intOf]; omega
                      · have hx' : (0 : Int) < x := by omega
                        have HD5b := Lib.hid (HDI.out.kept HS5b.out.g HRB.out)
                        rcases HD5b.out.di with h0 | ⟨bd', off', hbo, hbd', hcc⟩
                        · omega
                        cases hbo
                        obtain ⟨⟨hc0, hc1, hc2⟩, hrw⟩ := hcc i hlt
                        have hcb := HR5b.out.cell hlt2
                        have hbl := HR5b.out.lt
                        have HI1 := Lib.hid (hrw.i1.keptB (w' := W5b.drew) (fun _ _ => rfl) (Nat.le_refl _))
                        have hnw : ((n : Nat) : Int) ≤ 1000000 := by omega
                        clear hcc hrw
                        have hrle := HR5b.out.le; have hrmost := HR5b.out.most
                        cases hq : qfit (D i).z1 (D i).n1 (li Lb k) (n : Int) with
                        | false =>
                          go_wp2_with fail
                          go_region_held3 (fun w' => w'.cell? ⟨bd, off + i * 3 + 1, none⟩ = some (.slice (D i).a1 (D i).n1 (D i).c1) ∧ w'.cell? ⟨bb, k, none⟩ = some (.int .i64 (li Lb k))) (first | exact hS6 | exact ⟨hc1, hcb⟩) ((go_at_call 75; (with_reducible refine (q4fit _ _ _ _ (D i).z1 _ _ HI1.out (by omega) hx100 hnw).mono ?_); rintro e W6 ⟨rfl, hg2⟩; rw [hq]; have Hg6 := Lib.hid (show W5b.grownBy W6 none from ⟨hg2.os, hg2.tape, hg2.output, hg2.size, hg2.block⟩); have hS6 : W6.cell? ⟨bd, off + i * 3 + 1, none⟩ = some (.slice (D i).a1 (D i).n1 (D i).c1) ∧ W6.cell? ⟨bb, k, none⟩ = some (.int .i64 (li Lb k)) := ⟨(World.cell?_of_block (Hg6.out.block bd hbd' (by simp))).trans hc1, (World.cell?_of_block (Hg6.out.block bb hbl (by simp))).trans hcb⟩; clear hg2))
                          all_goals
                            have HS6 := Lib.hid (HS5b.out.quiet Hg6.out); have HR6 := Lib.hid (HR5b.out.keptN Hg6.out)
                            clear hS6
                            go_wp2
                            go_roundw
                            case rel => exact ⟨n + 1, p4b + 1, _, by omega, by go_num, by omega, HS6.out, HR6.out⟩
                            case measure => simp [intOf]; omega
                        | true =>
                          go_wp2_with fail
                          go_region_held3 (fun w' => w'.cell? ⟨bd, off + i * 3 + 1, none⟩ = some (.slice (D i).a1 (D i).n1 (D i).c1) ∧ w'.cell? ⟨bb, k, none⟩ = some (.int .i64 (li Lb k))) (first | exact hS6 | exact ⟨hc1, hcb⟩) ((go_at_call 75; (with_reducible refine (q4fit _ _ _ _ (D i).z1 _ _ HI1.out (by omega) hx100 hnw).mono ?_); rintro e W6 ⟨rfl, hg2⟩; rw [hq]; have Hg6 := Lib.hid (show W5b.grownBy W6 none from ⟨hg2.os, hg2.tape, hg2.output, hg2.size, hg2.block⟩); have hS6 : W6.cell? ⟨bd, off + i * 3 + 1, none⟩ = some (.slice (D i).a1 (D i).n1 (D i).c1) ∧ W6.cell? ⟨bb, k, none⟩ = some (.int .i64 (li Lb k)) := ⟨(World.cell?_of_block (Hg6.out.block bd hbd' (by simp))).trans hc1, (World.cell?_of_block (Hg6.out.block bb hbl (by simp))).trans hcb⟩; clear hg2))
                          all_goals
                            have HS6 := Lib.hid (HS5b.out.quiet Hg6.out); have HR6 := Lib.hid (HR5b.out.keptN Hg6.out)
                            have q0 := (World.cell?_of_block (Hg6.out.block bd hbd' (by simp))).trans hc0
                            have qb := hS6.2
                            have hfew := HS6.out.few
                            have hbd6 : bd < W6.heap.size := Nat.lt_of_lt_of_le hbd' Hg6.out.size
                            have hbb6 : bb < W6.heap.size := Nat.lt_of_lt_of_le hbl Hg6.out.size
                            have hw6 := HS6.out.g.size
                            clear hS6
                            go_wp2_with fail
                            go_region_law ((refine step_app _ (by rfl) (.tmp 101) (.tmp 113) 79 rfl w.heap.size 102 i0 (.agg #[.int .i64 0, .int .i64 0, .int .i64 0]) 3 24 und_anss hi hz0 hz1 hz2 rfl (by decide) _ _ _ rfl (HS6.out.own.1.alloc (.cells #[.int .i64 (D i).f, .int .i64 (li Lb k), .int .i64 (n : Int)] 102)).drew ⟨W6.heap.size, 0, none⟩ 1 1 [.int .i64 (D i).f, .int .i64 (li Lb k), .int .i64 (n : Int)] rfl rfl (World.news_of_block (cs := #[.int .i64 (D i).f, .int .i64 (li Lb k), .int .i64 (n : Int)]) (t := 102) (fr := (0, 0)) (heap_alloc_new W6 _)) (by simp [Value.oneCell']) (by unfold maxLen; omega) (by omega) (by show w.heap.size ≤ (W6.alloc _).heap.size; simp; omega) ?_; intro v' W7 hown' hgrow _; have hgr : (W6.alloc (.cells #[.int .i64 (D i).f, .int .i64 (li Lb k), .int .i64 (n : Int)] 102)).grownBy W7 v4b.ownBlock := ⟨hgrow.os, hgrow.tape, hgrow.output, hgrow.size, hgrow.block⟩; have HS7 := Lib.hid (HS6.out.app (x := ⟨(D i).f, li Lb k, (n : Int)⟩) hBw (by omega) hgr hown' ⟨HWF.out, HWK.out, HWNb.out⟩); have HR7 := Lib.hid (row_app HS6.out HR6.out hgr); clear hown' hgrow hgr))
                            all_goals
                              go_wp2
                              go_roundw
                              case rel => exact ⟨n + 1, p4b + 1, _, by omega, by go_num, by omega, HS7.out, HR7.out⟩
                              case measure => simp [intOf]; omega
                    · obtain rfl : n = 23 := by omega
                      go_wp2
                      go_roundw
                      case rel => exact ⟨k + 1, p4b, L4b, by omega, by go_num, by omega, HS4b.out, HR4b.out⟩
                      case measure => simp [intOf]; omega
              · have hx' : (0 : Int) < x := by omega
                have HD5 := Lib.hid (HDI.out.kept HS5.out.g HRB.out)
                rcases HD5.out.di with h0 | ⟨bd', off', hbo, hbd', hcc⟩
                · omega
                cases hbo
                obtain ⟨⟨hc0, hc1, hc2⟩, hrw⟩ := hcc i hlt
                have hcb := HR5.out.cell hlt2
                have hbl := HR5.out.lt
                have HI1 := Lib.hid (hrw.i1.keptB (w' := W5.drew) (fun _ _ => rfl) (Nat.le_refl _))
                have hnw : ((n : Nat) : Int) ≤ 1000000 := by omega
                clear hcc hrw
                have hrle := HR5.out.le; have hrmost := HR5.out.most
                cases hq : qfit (D i).z1 (D i).n1 (li Lb k) (n : Int) with
                | false =>
                  go_wp2_with fail
                  go_region_held3 (fun w' => w'.cell? ⟨bd, off + i * 3 + 1, none⟩ = some (.slice (D i).a1 (D i).n1 (D i).c1) ∧ w'.cell? ⟨bb, k, none⟩ = some (.int .i64 (li Lb k))) (first | exact hS6 | exact ⟨hc1, hcb⟩) ((go_at_call 75; (with_reducible refine (q4fit _ _ _ _ (D i).z1 _ _ HI1.out (by omega) hx100 hnw).mono ?_); rintro e W6 ⟨rfl, hg2⟩; rw [hq]; have Hg6 := Lib.hid (show W5.grownBy W6 none from ⟨hg2.os, hg2.tape, hg2.output, hg2.size, hg2.block⟩); have hS6 : W6.cell? ⟨bd, off + i * 3 + 1, none⟩ = some (.slice (D i).a1 (D i).n1 (D i).c1) ∧ W6.cell? ⟨bb, k, none⟩ = some (.int .i64 (li Lb k)) := ⟨(World.cell?_of_block (Hg6.out.block bd hbd' (by simp))).trans hc1, (World.cell?_of_block (Hg6.out.block bb hbl (by simp))).trans hcb⟩; clear hg2))
                  all_goals
                    have HS6 := Lib.hid (HS5.out.quiet Hg6.out); have HR6 := Lib.hid (HR5.out.keptN Hg6.out)
                    clear hS6
                    go_wp2
                    go_roundw
                    case rel => exact ⟨n + 1, p4 + 1, _, by omega, by go_num, by omega, HS6.out, HR6.out⟩
                    case measure => simp [intOf]; omega
                | true =>
                  go_wp2_with fail
                  go_region_held3 (fun w' => w'.cell? ⟨bd, off + i * 3 + 1, none⟩ = some (.slice (D i).a1 (D i).n1 (D i).c1) ∧ w'.cell? ⟨bb, k, none⟩ = some (.int .i64 (li Lb k))) (first | exact hS6 | exact ⟨hc1, hcb⟩) ((go_at_call 75; (with_reducible refine (q4fit _ _ _ _ (D i).z1 _ _ HI1.out (by omega) hx100 hnw).mono ?_); rintro e W6 ⟨rfl, hg2⟩; rw [hq]; have Hg6 := Lib.hid (show W5.grownBy W6 none from ⟨hg2.os, hg2.tape, hg2.output, hg2.size, hg2.block⟩); have hS6 : W6.cell? ⟨bd, off + i * 3 + 1, none⟩ = some (.slice (D i).a1 (D i).n1 (D i).c1) ∧ W6.cell? ⟨bb, k, none⟩ = some (.int .i64 (li Lb k)) := ⟨(World.cell?_of_block (Hg6.out.block bd hbd' (by simp))).trans hc1, (World.cell?_of_block (Hg6.out.block bb hbl (by simp))).trans hcb⟩; clear hg2))
                  all_goals
                    have HS6 := Lib.hid (HS5.out.quiet Hg6.out); have HR6 := Lib.hid (HR5.out.keptN Hg6.out)
                    have q0 := (World.cell?_of_block (Hg6.out.block bd hbd' (by simp))).trans hc0
                    have qb := hS6.2
                    have hfew := HS6.out.few
                    have hbd6 : bd < W6.heap.size := Nat.lt_of_lt_of_le hbd' Hg6.out.size
                    have hbb6 : bb < W6.heap.size := Nat.lt_of_lt_of_le hbl Hg6.out.size
                    have hw6 := HS6.out.g.size
                    clear hS6
                    go_wp2_with fail
                    go_region_law ((refine step_app _ (by rfl) (.tmp 49) (.tmp 61) 79 rfl w.heap.size 102 i0 (.agg #[.int .i64 0, .int .i64 0, .int .i64 0]) 3 24 und_anss hi hz0 hz1 hz2 rfl (by decide) _ _ _ rfl (HS6.out.own.1.alloc (.cells #[.int .i64 (D i).f, .int .i64 (li Lb k), .int .i64 (n : Int)] 102)).drew ⟨W6.heap.size, 0, none⟩ 1 1 [.int .i64 (D i).f, .int .i64 (li Lb k), .int .i64 (n : Int)] rfl rfl (World.news_of_block (cs := #[.int .i64 (D i).f, .int .i64 (li Lb k), .int .i64 (n : Int)]) (t := 102) (fr := (0, 0)) (heap_alloc_new W6 _)) (by simp [Value.oneCell']) (by unfold maxLen; omega) (by omega) (by show w.heap.size ≤ (W6.alloc _).heap.size; simp; omega) ?_; intro v' W7 hown' hgrow _; have hgr : (W6.alloc (.cells #[.int .i64 (D i).f, .int .i64 (li Lb k), .int .i64 (n : Int)] 102)).grownBy W7 v4.ownBlock := ⟨hgrow.os, hgrow.tape, hgrow.output, hgrow.size, hgrow.block⟩; have HS7 := Lib.hid (HS6.out.app (x := ⟨(D i).f, li Lb k, (n : Int)⟩) hBw (by omega) hgr hown' ⟨HWF.out, HWK.out, HWN.out⟩); have HR7 := Lib.hid (row_app HS6.out HR6.out hgr); clear hown' hgrow hgr))
                    all_goals
                      go_wp2
                      go_roundw
                      case rel => exact ⟨n + 1, p4 + 1, _, by omega, by go_num, by omega, HS7.out, HR7.out⟩
                      case measure => simp [intOf]; omega
            · obtain rfl : n = 23 := by omega
              go_wp2_with fail
              refine (pick_any _ base B a len cap _ 6 HS4.out.rd (by omega) (by omega)).mono ?_
              rintro e W8 ⟨y, y0, y1, rfl, hr, hg, hsz⟩
              have HS8 := Lib.hid (HS4.out.pick hBw hg hr (Nat.le_succ _)); have HR8 := Lib.hid (HR4.out.kept hg (by intro e; have e := Option.some.inj e; have := HR4.out.from_; omega))
              clear hr hg hsz
              rcases (by omega : y = 0 ∨ 1 ≤ y) with rfl | hy
              · have HD8 := Lib.hid (HDI.out.kept HS8.out.g HRB.out)
                rcases HD8.out.di with h0 | ⟨bd', off', hbo, hbd', hcc⟩
                · omega
                cases hbo
                obtain ⟨⟨hc0, hc1, hc2⟩, hrw⟩ := hcc i hlt
                have hcb := HR8.out.cell hlt2
                have hbl := HR8.out.lt
                have hfew := HS8.out.few
                have hw8 := HS8.out.g.size
                have HRd := Lib.hid (HS8.out.rd.kept (w' := W8.drew) (fun _ _ => rfl) rfl)
                have hdB : ¬ bd = B := by have := HDI.out.rng bd off rfl; omega
                have hbB : ¬ bb = B := by have := HR8.out.from_; omega
                clear hcc hrw
                go_wp2_with fail
                go_region_held3 (fun w' => w'.cell? ⟨bd, off + i * 3, none⟩ = some (.int .i64 (D i).f) ∧ w'.cell? ⟨bb, k, none⟩ = some (.int .i64 (li Lb k))) (first | exact hS10 | exact hS9 | exact ⟨hc0, hcb⟩ | exact ⟨(World.cell?_of_block (Below.heap_alloc _ _ _ (by first | assumption | omega))).trans hS9.1, (World.cell?_of_block (Below.heap_alloc _ _ _ (by first | assumption | omega))).trans hS9.2⟩) (first
                  | (go_at_call 32; (with_reducible refine (num_any _ base B a len cap _ HRd.out (by omega)).mono ?_); rintro e W9 ⟨q, q0, q1, rfl, hg, p9, r1, r2, hr⟩; have hg9 : W8.grownBy W9 (some B) := ⟨hg.os, hg.tape, hg.output, hg.size, hg.block⟩; have HS9 := Lib.hid (HS8.out.pick hBw hg9 hr (by omega)); have HR9 := Lib.hid (HR8.out.kept hg9 (by intro e; have e := Option.some.inj e; omega)); have hS9 : W9.cell? ⟨bd, off + i * 3, none⟩ = some (.int .i64 (D i).f) ∧ W9.cell? ⟨bb, k, none⟩ = some (.int .i64 (li Lb k)) := ⟨(World.cell?_of_block (hg9.block bd hbd' (by intro e; injection e with e; omega))).trans hc0, (World.cell?_of_block (hg9.block bb hbl (by intro e; injection e with e; omega))).trans hcb⟩; have hbd9 : bd < W9.heap.size := Nat.lt_of_lt_of_le hbd' hg9.size; have hbb9 : bb < W9.heap.size := Nat.lt_of_lt_of_le hbl hg9.size; have hw9 := HS9.out.g.size; have HW9 := Lib.hid (show wf q = true from WalkArith.wf_i64 (by omega)); clear hg hr hg9)
                  | (refine step_app _ (by rfl) (.tmp 66) (.tmp 79) 79 rfl w.heap.size 102 i0 (.agg #[.int .i64 0, .int .i64 0, .int .i64 0]) 3 24 und_anss hi hz0 hz1 hz2 rfl (by decide) _ _ _ rfl (HS9.out.own.1.alloc (.cells #[.int .i64 (D i).f, .int .i64 (li Lb k), .int .i64 q] 102)) ⟨W9.heap.size, 0, none⟩ 1 1 [.int .i64 (D i).f, .int .i64 (li Lb k), .int .i64 q] rfl rfl (World.news_of_block (cs := #[.int .i64 (D i).f, .int .i64 (li Lb k), .int .i64 q]) (t := 102) (fr := (0, 0)) (heap_alloc_new W9 _)) (by simp [Value.oneCell']) (by unfold maxLen; omega) (by omega) (by show w.heap.size ≤ (W9.alloc _).heap.size; simp; omega) ?_; intro v' W10 hown' hgrow _; have HS10 := Lib.hid (HS9.out.app (x := ⟨(D i).f, li Lb k, q⟩) hBw (by omega) hgrow hown' ⟨HWF.out, HWK.out, HW9.out⟩); have HR10 := Lib.hid (row_app HS9.out HR9.out hgrow); have hD10 := (HDI.out.kept HS10.out.g HRB.out).di; have hS10 : W10.cell? ⟨bd, off + i * 3, none⟩ = some (.int .i64 (D i).f) ∧ W10.cell? ⟨bb, k, none⟩ = some (.int .i64 (li Lb k)) := ⟨(by rcases hD10 with h0 | ⟨_, _, e1, _, hcc⟩; omega; cases e1; exact (hcc i hlt).1.1), HR10.out.cell hlt2⟩; clear hown' hgrow hD10))
                all_goals
                  clear hS9 hS10
                  go_wp2
                  go_loopw [5, 10] (fun v i W => ∃ (n p' : Nat) (L : List Ans), n ≤ 23 ∧ i = .int .i64 n ∧ p' ≤ p9 + n ∧ ASt w base B a len cap p p' W v L ∧ Row W w.heap.size 3 bb Lb.length cb (li Lb)) (fun _ i _ => 23 - (intOf i).toNat)
                  case atStart => exact ⟨0, p9, _, by omega, rfl, by omega, HS10.out, HR10.out⟩
                  case round =>
                    obtain ⟨n, p4b, L4b, hn, rfl, hp4b, hs, hrow⟩ := hrel
                    obtain ⟨W4b, hW⟩ : ∃ W, W = wr := ⟨_, rfl⟩; subst hW
                    obtain ⟨v4b, hW⟩ : ∃ W, W = u5 := ⟨_, rfl⟩; subst hW
                    have HS4b := Lib.hid hs; have HR4b := Lib.hid hrow; clear hs hrow
                    have hf4b := HS4b.out.few
                    have HWNb := Lib.hid (wf_few (n := (n : Int)) (by omega) (by omega))
                    by_cases hlt3 : n < 23
                    · have hlt3' : (n : Int) < 23 := by omega
                      go_wp2_with fail
                      refine (pick_any _ base B a len cap p4b 8 HS4b.out.rd (by omega) (by omega)).mono ?_
                      rintro e W5b ⟨x, x0, x1, rfl, hr, hg, hsz⟩
                      have HS5b := Lib.hid (HS4b.out.pick hBw hg hr (Nat.le_succ _)); have HR5b := Lib.hid (HR4b.out.kept hg (by intro e; have e := Option.some.inj e; have := HR4b.out.from_; omega))
                      clear hr hg hsz
                      rcases (by omega : x = 0 ∨ 1 ≤ x) with rfl | hx
                      · -- out
                        go_wp2
                        go_roundw
                        case rel => exact ⟨k + 1, (p4b + 1), L4b, by omega, by go_num, by omega, HS5b.out, HR5b.out⟩
                        case measure => simp [intOf]; omega
                      · have hx' : (0 : Int) < x := by omega
                        have HD5b := Lib.hid (HDI.out.kept HS5b.out.g HRB.out)
                        rcases HD5b.out.di with h0 | ⟨bd', off', hbo, hbd', hcc⟩
                        · omega
                        cases hbo
                        obtain ⟨⟨hc0, hc1, hc2⟩, hrw⟩ := hcc i hlt
                        have hcb := HR5b.out.cell hlt2
                        have hbl := HR5b.out.lt
                        have HI1 := Lib.hid (hrw.i1.keptB (w' := W5b.drew) (fun _ _ => rfl) (Nat.le_refl _))
                        have hnw : ((n : Nat) : Int) ≤ 1000000 := by omega
                        clear hcc hrw
                        have hrle := HR5b.out.le; have hrmost := HR5b.out.most
                        cases hq : qfit (D i).z1 (D i).n1 (li Lb k) (n : Int) with
                        | false =>
                          go_wp2_with fail
                          go_region_held3 (fun w' => w'.cell? ⟨bd, off + i * 3 + 1, none⟩ = some (.slice (D i).a1 (D i).n1 (D i).c1) ∧ w'.cell? ⟨bb, k, none⟩ = some (.int .i64 (li Lb k))) (first | exact hS6 | exact ⟨hc1, hcb⟩) ((go_at_call 75; (with_reducible refine (q4fit _ _ _ _ (D i).z1 _ _ HI1.out (by omega) hx100 hnw).mono ?_); rintro e W6 ⟨rfl, hg2⟩; rw [hq]; have Hg6 := Lib.hid (show W5b.grownBy W6 none from ⟨hg2.os, hg2.tape, hg2.output, hg2.size, hg2.block⟩); have hS6 : W6.cell? ⟨bd, off + i * 3 + 1, none⟩ = some (.slice (D i).a1 (D i).n1 (D i).c1) ∧ W6.cell? ⟨bb, k, none⟩ = some (.int .i64 (li Lb k)) := ⟨(World.cell?_of_block (Hg6.out.block bd hbd' (by simp))).trans hc1, (World.cell?_of_block (Hg6.out.block bb hbl (by simp))).trans hcb⟩; clear hg2))
                          all_goals
                            have HS6 := Lib.hid (HS5b.out.quiet Hg6.out); have HR6 := Lib.hid (HR5b.out.keptN Hg6.out)
                            clear hS6
                            go_wp2
                            go_roundw
                            case rel => exact ⟨n + 1, p4b + 1, _, by omega, by go_num, by omega, HS6.out, HR6.out⟩
                            case measure => simp [intOf]; omega
                        | true =>
                          go_wp2_with fail
                          go_region_held3 (fun w' => w'.cell? ⟨bd, off + i * 3 + 1, none⟩ = some (.slice (D i).a1 (D i).n1 (D i).c1) ∧ w'.cell? ⟨bb, k, none⟩ = some (.int .i64 (li Lb k))) (first | exact hS6 | exact ⟨hc1, hcb⟩) ((go_at_call 75; (with_reducible refine (q4fit _ _ _ _ (D i).z1 _ _ HI1.out (by omega) hx100 hnw).mono ?_); rintro e W6 ⟨rfl, hg2⟩; rw [hq]; have Hg6 := Lib.hid (show W5b.grownBy W6 none from ⟨hg2.os, hg2.tape, hg2.output, hg2.size, hg2.block⟩); have hS6 : W6.cell? ⟨bd, off + i * 3 + 1, none⟩ = some (.slice (D i).a1 (D i).n1 (D i).c1) ∧ W6.cell? ⟨bb, k, none⟩ = some (.int .i64 (li Lb k)) := ⟨(World.cell?_of_block (Hg6.out.block bd hbd' (by simp))).trans hc1, (World.cell?_of_block (Hg6.out.block bb hbl (by simp))).trans hcb⟩; clear hg2))
                          all_goals
                            have HS6 := Lib.hid (HS5b.out.quiet Hg6.out); have HR6 := Lib.hid (HR5b.out.keptN Hg6.out)
                            have q0 := (World.cell?_of_block (Hg6.out.block bd hbd' (by simp))).trans hc0
                            have qb := hS6.2
                            have hfew := HS6.out.few
                            have hbd6 : bd < W6.heap.size := Nat.lt_of_lt_of_le hbd' Hg6.out.size
                            have hbb6 : bb < W6.heap.size := Nat.lt_of_lt_of_le hbl Hg6.out.size
                            have hw6 := HS6.out.g.size
                            clear hS6
                            go_wp2_with fail
                            go_region_law ((refine step_app _ (by rfl) (.tmp 101) (.tmp 113) 79 rfl w.heap.size 102 i0 (.agg #[.int .i64 0, .int .i64 0, .int .i64 0]) 3 24 und_anss hi hz0 hz1 hz2 rfl (by decide) _ _ _ rfl (HS6.out.own.1.alloc (.cells #[.int .i64 (D i).f, .int .i64 (li Lb k), .int .i64 (n : Int)] 102)).drew ⟨W6.heap.size, 0, none⟩ 1 1 [.int .i64 (D i).f, .int .i64 (li Lb k), .int .i64 (n : Int)] rfl rfl (World.news_of_block (cs := #[.int .i64 (D i).f, .int .i64 (li Lb k), .int .i64 (n : Int)]) (t := 102) (fr := (0, 0)) (heap_alloc_new W6 _)) (by simp [Value.oneCell']) (by unfold maxLen; omega) (by omega) (by show w.heap.size ≤ (W6.alloc _).heap.size; simp; omega) ?_; intro v' W7 hown' hgrow _; have hgr : (W6.alloc (.cells #[.int .i64 (D i).f, .int .i64 (li Lb k), .int .i64 (n : Int)] 102)).grownBy W7 v4b.ownBlock := ⟨hgrow.os, hgrow.tape, hgrow.output, hgrow.size, hgrow.block⟩; have HS7 := Lib.hid (HS6.out.app (x := ⟨(D i).f, li Lb k, (n : Int)⟩) hBw (by omega) hgr hown' ⟨HWF.out, HWK.out, HWNb.out⟩); have HR7 := Lib.hid (row_app HS6.out HR6.out hgr); clear hown' hgrow hgr))
                            all_goals
                              go_wp2
                              go_roundw
                              case rel => exact ⟨n + 1, p4b + 1, _, by omega, by go_num, by omega, HS7.out, HR7.out⟩
                              case measure => simp [intOf]; omega
                    · obtain rfl : n = 23 := by omega
                      go_wp2
                      go_roundw
                      case rel => exact ⟨k + 1, p4b, L4b, by omega, by go_num, by omega, HS4b.out, HR4b.out⟩
                      case measure => simp [intOf]; omega
              · have hy0 : (y == 0) = false := by simp; omega
                go_wp2
                go_loopw [5, 10] (fun v i W => ∃ (n p' : Nat) (L : List Ans), n ≤ 23 ∧ i = .int .i64 n ∧ p' ≤ (p4 + 1) + n ∧ ASt w base B a len cap p p' W v L ∧ Row W w.heap.size 3 bb Lb.length cb (li Lb)) (fun _ i _ => 23 - (intOf i).toNat)
                case atStart => exact ⟨0, (p4 + 1), L4, by omega, rfl, by omega, HS8.out, HR8.out⟩
                case round =>
                  obtain ⟨n, p4b, L4b, hn, rfl, hp4b, hs, hrow⟩ := hrel
                  obtain ⟨W4b, hW⟩ : ∃ W, W = wr := ⟨_, rfl⟩; subst hW
                  obtain ⟨v4b, hW⟩ : ∃ W, W = u5 := ⟨_, rfl⟩; subst hW
                  have HS4b := Lib.hid hs; have HR4b := Lib.hid hrow; clear hs hrow
                  have hf4b := HS4b.out.few
                  have HWNb := Lib.hid (wf_few (n := (n : Int)) (by omega) (by omega))
                  by_cases hlt3 : n < 23
                  · have hlt3' : (n : Int) < 23 := by omega
                    go_wp2_with fail
                    refine (pick_any _ base B a len cap p4b 8 HS4b.out.rd (by omega) (by omega)).mono ?_
                    rintro e W5b ⟨x, x0, x1, rfl, hr, hg, hsz⟩
                    have HS5b := Lib.hid (HS4b.out.pick hBw hg hr (Nat.le_succ _)); have HR5b := Lib.hid (HR4b.out.kept hg (by intro e; have e := Option.some.inj e; have := HR4b.out.from_; omega))
                    clear hr hg hsz
                    rcases (by omega : x = 0 ∨ 1 ≤ x) with rfl | hx
                    · -- out
                      go_wp2
                      go_roundw
                      case rel => exact ⟨k + 1, (p4b + 1), L4b, by omega, by go_num, by omega, HS5b.out, HR5b.out⟩
                      case measure => simp [intOf]; omega
                    · have hx' : (0 : Int) < x := by omega
                      have HD5b := Lib.hid (HDI.out.kept HS5b.out.g HRB.out)
                      rcases HD5b.out.di with h0 | ⟨bd', off', hbo, hbd', hcc⟩
                      · omega
                      cases hbo
                      obtain ⟨⟨hc0, hc1, hc2⟩, hrw⟩ := hcc i hlt
                      have hcb := HR5b.out.cell hlt2
                      have hbl := HR5b.out.lt
                      have HI1 := Lib.hid (hrw.i1.keptB (w' := W5b.drew) (fun _ _ => rfl) (Nat.le_refl _))
                      have hnw : ((n : Nat) : Int) ≤ 1000000 := by omega
                      clear hcc hrw
                      have hrle := HR5b.out.le; have hrmost := HR5b.out.most
                      cases hq : qfit (D i).z1 (D i).n1 (li Lb k) (n : Int) with
                      | false =>
                        go_wp2_with fail
                        go_region_held3 (fun w' => w'.cell? ⟨bd, off + i * 3 + 1, none⟩ = some (.slice (D i).a1 (D i).n1 (D i).c1) ∧ w'.cell? ⟨bb, k, none⟩ = some (.int .i64 (li Lb k))) (first | exact hS6 | exact ⟨hc1, hcb⟩) ((go_at_call 75; (with_reducible refine (q4fit _ _ _ _ (D i).z1 _ _ HI1.out (by omega) hx100 hnw).mono ?_); rintro e W6 ⟨rfl, hg2⟩; rw [hq]; have Hg6 := Lib.hid (show W5b.grownBy W6 none from ⟨hg2.os, hg2.tape, hg2.output, hg2.size, hg2.block⟩); have hS6 : W6.cell? ⟨bd, off + i * 3 + 1, none⟩ = some (.slice (D i).a1 (D i).n1 (D i).c1) ∧ W6.cell? ⟨bb, k, none⟩ = some (.int .i64 (li Lb k)) := ⟨(World.cell?_of_block (Hg6.out.block bd hbd' (by simp))).trans hc1, (World.cell?_of_block (Hg6.out.block bb hbl (by simp))).trans hcb⟩; clear hg2))
                        all_goals
                          have HS6 := Lib.hid (HS5b.out.quiet Hg6.out); have HR6 := Lib.hid (HR5b.out.keptN Hg6.out)
                          clear hS6
                          go_wp2
                          go_roundw
                          case rel => exact ⟨n + 1, p4b + 1, _, by omega, by go_num, by omega, HS6.out, HR6.out⟩
                          case measure => simp [intOf]; omega
                      | true =>
                        go_wp2_with fail
                        go_region_held3 (fun w' => w'.cell? ⟨bd, off + i * 3 + 1, none⟩ = some (.slice (D i).a1 (D i).n1 (D i).c1) ∧ w'.cell? ⟨bb, k, none⟩ = some (.int .i64 (li Lb k))) (first | exact hS6 | exact ⟨hc1, hcb⟩) ((go_at_call 75; (with_reducible refine (q4fit _ _ _ _ (D i).z1 _ _ HI1.out (by omega) hx100 hnw).mono ?_); rintro e W6 ⟨rfl, hg2⟩; rw [hq]; have Hg6 := Lib.hid (show W5b.grownBy W6 none from ⟨hg2.os, hg2.tape, hg2.output, hg2.size, hg2.block⟩); have hS6 : W6.cell? ⟨bd, off + i * 3 + 1, none⟩ = some (.slice (D i).a1 (D i).n1 (D i).c1) ∧ W6.cell? ⟨bb, k, none⟩ = some (.int .i64 (li Lb k)) := ⟨(World.cell?_of_block (Hg6.out.block bd hbd' (by simp))).trans hc1, (World.cell?_of_block (Hg6.out.block bb hbl (by simp))).trans hcb⟩; clear hg2))
                        all_goals
                          have HS6 := Lib.hid (HS5b.out.quiet Hg6.out); have HR6 := Lib.hid (HR5b.out.keptN Hg6.out)
                          have q0 := (World.cell?_of_block (Hg6.out.block bd hbd' (by simp))).trans hc0
                          have qb := hS6.2
                          have hfew := HS6.out.few
                          have hbd6 : bd < W6.heap.size := Nat.lt_of_lt_of_le hbd' Hg6.out.size
                          have hbb6 : bb < W6.heap.size := Nat.lt_of_lt_of_le hbl Hg6.out.size
                          have hw6 := HS6.out.g.size
                          clear hS6
                          go_wp2_with fail
                          go_region_law ((refine step_app _ (by rfl) (.tmp 101) (.tmp 113) 79 rfl w.heap.size 102 i0 (.agg #[.int .i64 0, .int .i64 0, .int .i64 0]) 3 24 und_anss hi hz0 hz1 hz2 rfl (by decide) _ _ _ rfl (HS6.out.own.1.alloc (.cells #[.int .i64 (D i).f, .int .i64 (li Lb k), .int .i64 (n : Int)] 102)).drew ⟨W6.heap.size, 0, none⟩ 1 1 [.int .i64 (D i).f, .int .i64 (li Lb k), .int .i64 (n : Int)] rfl rfl (World.news_of_block (cs := #[.int .i64 (D i).f, .int .i64 (li Lb k), .int .i64 (n : Int)]) (t := 102) (fr := (0, 0)) (heap_alloc_new W6 _)) (by simp [Value.oneCell']) (by unfold maxLen; omega) (by omega) (by show w.heap.size ≤ (W6.alloc _).heap.size; simp; omega) ?_; intro v' W7 hown' hgrow _; have hgr : (W6.alloc (.cells #[.int .i64 (D i).f, .int .i64 (li Lb k), .int .i64 (n : Int)] 102)).grownBy W7 v4b.ownBlock := ⟨hgrow.os, hgrow.tape, hgrow.output, hgrow.size, hgrow.block⟩; have HS7 := Lib.hid (HS6.out.app (x := ⟨(D i).f, li Lb k, (n : Int)⟩) hBw (by omega) hgr hown' ⟨HWF.out, HWK.out, HWNb.out⟩); have HR7 := Lib.hid (row_app HS6.out HR6.out hgr); clear hown' hgrow hgr))
                          all_goals
                            go_wp2
                            go_roundw
                            case rel => exact ⟨n + 1, p4b + 1, _, by omega, by go_num, by omega, HS7.out, HR7.out⟩
                            case measure => simp [intOf]; omega
                  · obtain rfl : n = 23 := by omega
                    go_wp2
                    go_roundw
                    case rel => exact ⟨k + 1, p4b, L4b, by omega, by go_num, by omega, HS4b.out, HR4b.out⟩
                    case measure => simp [intOf]; omega
        · obtain rfl : k = Lb.length := by omega
          go_wp2
          go_roundw
          case rel => exact ⟨i + 1, p3, L3, by omega, by go_num, by omega, HS3.out⟩
          case measure => simp [intOf]; omega
    · obtain rfl : i = nd := by omega
      go_wp2
      go_ret
      exact ⟨_, L1, rfl, HS1.out.own, by have := HS1.out.few; omega, HS1.out.g, p1, by have := HS1.out.few; omega, by omega, HS1.out.rd⟩
end Draw
end Go.Proofs.Ytchgjdbmianajaa
