/-
  How the model draws a key whose number of members may be spoilt.
-/
import Derived.Test.YtkklhlffbfgolaaQh
namespace Go.Proofs.Ytkklhlffbfgolaa
namespace Draw
open Go.RowKit Alg Mem Con Mp
set_option linter.unusedVariables false

set_option maxRecDepth 100000 in
set_option maxHeartbeats 1500000 in
theorem drawKO (w : World) (a : Option Addr) (len cap : Nat) (hB : Bytes w w.heap.size a len) (hc : len ≤ cap) (hm : cap ≤ maxLen) :
    Calls Try.prog 11 #[.slice a len cap] w (GotP w) := by
  have HD0 := Lib.hid (Blk.new w #[.int .i64 0, .int .i64 0, .slice none 0 0, .slice none 0 0] 25)
  have hs0 : (w.alloc (.cells #[.int .i64 0, .int .i64 0, .slice none 0 0, .slice none 0 0] 25)).heap.size = w.heap.size + 1 := by show (w.heap.push _).size = _; simp
  have HB := Lib.hid (hB.kept (w' := w.alloc (.cells #[.int .i64 0, .int .i64 0, .slice none 0 0, .slice none 0 0] 25)) (fun k hk => Below.heap_alloc _ _ _ hk))
  have HG0 := Lib.hid (grown_alloc w (.cells #[.int .i64 0, .int .i64 0, .slice none 0 0, .slice none 0 0] 25) none)
  clear hB
  go_enter Try.func11, Try.ntmps11
  go_wp2_with fail
  refine (open_any _ w.heap.size a len cap HB.out (by omega) hc hm).mono ?_
  rintro e w1 ⟨rfl, hg1, hs1, l1, c1', hr1⟩
  rw [hs0] at hr1
  have HD1 := Lib.hid (HD0.out.keptN hg1); have HG1 := Lib.hid (gtr HG0.out hg1); have HR1 := Lib.hid hr1
  have hR1 := hr1.lt
  clear hr1 hg1
  go_wp2_with fail
  refine (some_any _ _ _ a l1 c1' 0 HR1.out (by omega)).mono ?_
  rintro e w2 ⟨need, many, ag, ng, cg, zg, ac, nc, cc, zc, rfl, hk, hg2, p2, hp2, hp2', hr2⟩
  have hs2 := hg2.size
  have HD2 := Lib.hid (HD1.out.kept hg2 (by intro e; have e := Option.some.inj e; omega)); have HG2 := Lib.hid (grown_new HG1.out (by omega) hg2); have HK2 := Lib.hid hk; have HR2 := Lib.hid hr2
  clear hk hg2 hr2
  go_wp2_with fail
  refine (pick_any _ _ _ a l1 c1' p2 5 (HR2.out.alloc (.cells #[.int .i64 need, .int .i64 many, .slice ag ng cg, .slice ac nc cc] 25)) (by omega) (by omega)).mono ?_
  rintro e w3 ⟨x, x0, x1, rfl, hr, hg, hsz⟩
  have hsa : (w2.alloc (.cells #[.int .i64 need, .int .i64 many, .slice ag ng cg, .slice ac nc cc] 25)).heap.size = w2.heap.size + 1 := by show (w2.heap.push _).size = _; simp
  have hs3 := hg.size
  rw [hsa] at hs3
  have HK3 := Lib.hid ((HK2.out.kept (grown_alloc w2 _ none) (fun g e => by cases e)).kept hg (fun g e => by have e := Option.some.inj e; omega))
  have HB3 := Lib.hid ((Blk.new w2 #[.int .i64 need, .int .i64 many, .slice ag ng cg, .slice ac nc cc] 25).kept hg (by intro e; have e := Option.some.inj e; omega))
  have HD3 := Lib.hid ((HD2.out.keptN (grown_alloc w2 _ none)).kept hg (by intro e; have e := Option.some.inj e; omega))
  have HG3 := Lib.hid (grown_new (gtr HG2.out (grown_alloc w2 _ none)) (by omega) hg)
  have HR3 := Lib.hid hr
  have HS3 := Lib.hid ((Same.rfl'.grown (Nat.le_refl _) (grown_alloc w2 (.cells #[.int .i64 need, .int .i64 many, .slice ag ng cg, .slice ac nc cc] 25) none) (fun g e => by cases e)).grown (lo := w1.heap.size) (hi := w2.heap.size) (Nat.le_refl _) hg (fun g e => by have e := Option.some.inj e; omega))
  clear hr hg hsz hsa
  rcases (by omega : x = 0 ∨ 1 ≤ x) with rfl | hx
  · go_wp2_with fail
    refine (pick_any _ _ _ a l1 c1' (p2 + 1) 7 HR3.out (by omega) (by omega)).mono ?_
    rintro e w4 ⟨y, y0, y1, rfl, hr, hg, hsz⟩
    obtain ⟨m, rfl⟩ : ∃ m : Nat, y = m := ⟨y.toNat, by omega⟩
    have hs4 := hg.size
    have HB4 := Lib.hid (HB3.out.kept hg (by intro e; have e := Option.some.inj e; omega))
    have HD4 := Lib.hid (HD3.out.kept hg (by intro e; have e := Option.some.inj e; omega))
    have HG4 := Lib.hid (grown_new HG3.out (by omega) hg)
    have HS4 := Lib.hid (HS3.out.grown (Nat.le_refl _) hg (fun g e => by have e := Option.some.inj e; omega))
    clear hr hg hsz
    have hg1 := grown_set w4 w2.heap.size 1 (.int .i64 m)
    have hD1 := HD4.out.other (b' := w2.heap.size) (i := 1) (v := .int .i64 m) (by omega)
    have hS1 := HS4.out.grown (Nat.le_refl _) hg1 (fun g e => by have e := Option.some.inj e; omega)
    have hK1 : KeyIn w1 (w4.setCell ⟨w2.heap.size, 1, none⟩ (.int .i64 m)) need m ag ng zg ac nc zc :=
      ⟨HK2.out.n5, by omega, HK2.out.g6, HK2.out.c5, ints_same HK2.out.ig HK2.out.rg hS1.1 hS1.2, ints_same HK2.out.ic HK2.out.rc hS1.1 hS1.2, (fun b off e => by have := HK2.out.rg b off e; have := hS1.2; omega), (fun b off e => by have := HK2.out.rc b off e; have := hS1.2; omega)⟩
    have HE := Lib.hid (gotp_mk (w := w) (cg := cg) (cc := cc) hD1 (Nat.le_refl _) (by omega) hK1 (grown_new HG4.out (by omega) hg1))
    clear hK1 hS1 hD1 hg1
    obtain ⟨r0, r1, r2, r3, j0, j1, j2, j3⟩ := HD4.out.all4
    obtain ⟨k0, k1, k2, k3, f0, f1, f2, f3⟩ := HB4.out.all4
    have hl0 := HD4.out.lt; have hl1 := HB4.out.lt
    go_wp2
    (try simp only [Exit.inBlock, Exit.then])
    refine bodyPost_ret (ret_key rfl _ rfl HE.out.1) rfl ?_
    exact HE.out.2
  · have e0 : (x == 0) = false := by simp; omega
    have HE := Lib.hid (gotp_mk (w := w) (cg := cg) (cc := cc) HD3.out (Nat.le_refl _) (by omega) HK3.out HG3.out)
    obtain ⟨r0, r1, r2, r3, j0, j1, j2, j3⟩ := HD3.out.all4
    obtain ⟨k0, k1, k2, k3, f0, f1, f2, f3⟩ := HB3.out.all4
    have hl0 := HD3.out.lt; have hl1 := HB3.out.lt
    go_wp2
    (try simp only [Exit.inBlock, Exit.then])
    refine bodyPost_ret (ret_key rfl _ rfl HE.out.1) rfl ?_
    exact HE.out.2
end Draw
end Go.Proofs.Ytkklhlffbfgolaa
