/-
  The walk of the law on whose share is wrong.
-/
import Derived.Test.YthjflmokfkcalaaSi
import Derived.Test.YthjflmokfkcalaaSb
import Derived.Test.YthjflmokfkcalaaPe
import Derived.Test.YthjflmokfkcalaaMem
import Derived.Deep.RegionHeld3
namespace Go.Proofs.Ythjflmokfkcalaa
namespace Run
open Go.RowKit Alg Mem Con Mp Hd
set_option linter.unusedVariables false

theorem lpin (w : World) (a : Option Addr) (len cap : Nat) (z : Nat → Int) (n : Int) (hI : Ints w a len z) (hl : len ≤ 2000000) :
    Calls Try.prog 22 #[.slice a len cap, .int .i64 n] w fun e w' => e = .returned (.bool (hasz z n len)) ∧ w = w' := by
  go_enter Try.func22, Try.ntmps22
  go_wp2
  go_loop [5] (fun i => ∃ k : Nat, k ≤ len ∧ i = .int .i64 k ∧ hasz z n k = false) (fun i => len - (intOf i).toNat)
  case atStart => exact ⟨0, by omega, rfl, rfl⟩
  case round =>
    obtain ⟨k, hk, rfl, hz⟩ := hrel
    have HZ := Lib.hid hz; clear hz
    by_cases hlt : k < len
    · rcases hI with h | ⟨b, off, rfl, hb, hc⟩
      · omega
      have hcx := hc k hlt
      clear hc
      by_cases he : z k = n
      · have HR := Lib.hid (hasz_yes hlt he)
        have ht : (z k == n) = true := by simpa using he
        clear he
        go_wp2
        go_ret
        exact ⟨Mem.ret_b HR.out.symm, rfl⟩
      · have HR := Lib.hid (hasz_next HZ.out he)
        have ht : (z k == n) = false := by simpa using he
        clear he
        go_wp2
        go_round
        case rel => exact ⟨k + 1, by omega, by go_num, HR.out⟩
        case measure => simp [intOf]; omega
    · obtain rfl : k = len := by omega
      clear hI
      go_wp2
      go_ret
      exact ⟨Mem.ret_b HZ.out.symm, rfl⟩
/-- Whose share is wrong is told, and nobody else. -/
theorem sbl_mem {many : Int} {nc : Nat} {zc : Nat → Int} {H : Nat → HV} {k : Nat} {x : Int} : x ∈ sbl many nc zc H k ↔ ∃ j, j < k ∧ sbE many nc zc H j = true ∧ x = (H j).m := by
  induction k with
  | zero => simp [sbl]
  | succ k ih =>
    cases he : sbE many nc zc H k with
    | true =>
      rw [sbl_yes he, List.mem_append, ih, List.mem_singleton]
      constructor
      · rintro (⟨j, hj, h1, h2⟩ | h)
        · exact ⟨j, by omega, h1, h2⟩
        · exact ⟨k, by omega, he, h⟩
      · rintro ⟨j, hj, h1, h2⟩
        rcases (by omega : j < k ∨ j = k) with h | rfl
        · exact .inl ⟨j, h, h1, h2⟩
        · exact .inr h2
    | false =>
      rw [sbl_no he, ih]
      constructor
      · rintro ⟨j, hj, h1, h2⟩; exact ⟨j, by omega, h1, h2⟩
      · rintro ⟨j, hj, h1, h2⟩
        rcases (by omega : j < k ∨ j = k) with h | rfl
        · exact ⟨j, h, h1, h2⟩
        · rw [he] at h1; cases h1
theorem hasz_li {l : List Int} {x : Int} : hasz (li l) x l.length = true ↔ x ∈ l := by
  rw [hasz_iff, List.mem_iff_getElem]
  constructor
  · rintro ⟨j, hj, h⟩; exact ⟨j, hj, by rw [← h]; simp [li, hj]⟩
  · rintro ⟨j, hj, h⟩; exact ⟨j, hj, by rw [← h]; simp [li, hj]⟩
theorem sbl_has {many : Int} {nc : Nat} {zc : Nat → Int} {H : Nat → HV} {n k : Nat} (hh : hkF H n = true) (hk : k < n) : hasz (li (sbl many nc zc H n)) (H k).m (sbl many nc zc H n).length = sbE many nc zc H k := by
  apply Bool.eq_iff_iff.2
  rw [hasz_li, sbl_mem]
  constructor
  · rintro ⟨j, hj, h1, h2⟩
    by_cases e : k = j
    · subst e; exact h1
    · exact absurd h2 (ms_ne hh k j hk hj e)
  · intro h; exact ⟨k, hk, h, rfl⟩
set_option maxRecDepth 100000 in
set_option maxHeartbeats 4000000 in
theorem FnSecretBad (a : Option Addr) (len cap : Nat) (w : World) (hB : Draw.Bytes w w.heap.size a len) (hc : len ≤ cap) (hm : cap ≤ maxLen) :
    Calls Try.prog 4 #[.slice a len cap] w (Yes w) := by
  by_cases hbig : 1048576 < len
  · have hbig' : (1048576 : Int) < (len : Int) := by omega
    clear hB
    go_enter Try.func4, Try.ntmps4
    go_wp2
    go_ret
    exact ⟨rfl, Below.refl _ _⟩
  have hbig' : ¬ (1048576 : Int) < (len : Int) := by omega
  go_enter Try.func4, Try.ntmps4
  go_wp2_with fail
  refine (Draw.drawSB _ a len cap hB hc hm).mono ?_
  rintro e w1 ⟨need, many, ag, ng, cg, zg, ac, nc, cc, zc, al, n, cl, H, rfl, hk, hI, hn10, hnc, hncm, hg⟩
  have hng := hk.g6; have hnc6 := hk.c5
  have hl1 : ng ≤ 2000000 := by omega
  have hl2 : nc ≤ 2000000 := by omega
  have hl : n ≤ 2000000 := by omega
  have g0 := Draw.grown_alloc w1 (.cells #[.int .i64 need, .int .i64 many, .slice ag ng cg, .slice ac nc cc] 36) none
  have HG1 := Lib.hid (hk.ig.kept g0); have HC1 := Lib.hid (hk.ic.kept g0); have HI1 := Lib.hid (hI.kept g0); have G1 := Lib.hid (gtr hg g0)
  have HK1 := Lib.hid (Ky.new w1 need many (.slice ag ng cg) (.slice ac nc cc) 36)
  clear g0 hk hI hg hB
  go_wp2_with fail
  refine (ibad _ need many _ _ _ zg _ _ _ zc _ n _ H HG1.out HC1.out HI1.out hl1 hl2 hl).mono ?_
  rintro e w2 ⟨v, rfl, hL, hg⟩
  obtain ⟨av, cv, rfl, hIb, _, _⟩ := hL.slice
  have hbl0 : (sbF need many ng zg nc zc H n).length ≤ 2000000 := by
    unfold sbF; split
    · have := sbl_len (many := (many : Int)) (nc := nc) (zc := zc) (H := H) (k := n); omega
    · simp
  have HBi := Lib.hid hIb; have HG2 := Lib.hid (HG1.out.kept hg); have HC2 := Lib.hid (HC1.out.kept hg); have HI2 := Lib.hid (HI1.out.kept hg); have HK2 := Lib.hid (HK1.out.kept hg); have G2 := Lib.hid (gtr G1.out hg)
  clear hL hg hIb
  obtain ⟨_, k0, k1, k2, k3⟩ := HK2.out
  go_wp2_with fail
  refine (s13bad _ need many _ _ _ zg _ _ _ zc _ n _ H HG2.out HC2.out HI2.out hl1 hl2 hl).mono ?_
  rintro e w3 ⟨v3, rfl, hL, hg⟩
  obtain ⟨av3, cv3, rfl, hIb, _, _⟩ := hL.slice
  have HBs := Lib.hid hIb; have HBi3 := Lib.hid (HBi.out.kept hg); have HG3 := Lib.hid (HG2.out.kept hg); have HC3 := Lib.hid (HC2.out.kept hg); have HI3 := Lib.hid (HI2.out.kept hg); have HK3 := Lib.hid (HK2.out.kept hg); have G3 := Lib.hid (gtr G2.out hg)
  clear hL hg hIb k0 k1 k2 k3
  go_wp2_with fail
  refine (lpints _ _ _ _ _ _ _ HBi3.out HBs.out hbl0).mono ?_
  rintro e w4 ⟨rfl, hg⟩
  have HBi4 := Lib.hid (HBi3.out.kept hg); have HG4 := Lib.hid (HG3.out.kept hg); have HC4 := Lib.hid (HC3.out.kept hg); have HI4 := Lib.hid (HI3.out.kept hg); have HK4 := Lib.hid (HK3.out.kept hg); have G4 := Lib.hid (gtr G3.out hg)
  clear hg
  obtain ⟨_, k0, k1, k2, k3⟩ := HK4.out
  go_wp2_with fail
  refine (skeyok _ need many _ _ _ zg _ _ _ zc HG4.out HC4.out hl1 hl2).mono ?_
  rintro e w5 ⟨rfl, hg⟩
  have HBi5 := Lib.hid (HBi4.out.kept hg); have HG5 := Lib.hid (HG4.out.kept hg); have HC5 := Lib.hid (HC4.out.kept hg); have HI5 := Lib.hid (HI4.out.kept hg); have HK5 := Lib.hid (HK4.out.kept hg); have G5 := Lib.hid (gtr G4.out hg)
  clear hg k0 k1 k2 k3
  obtain ⟨_, k0, k1, k2, k3⟩ := HK5.out
  cases hk : kyF need many ng zg nc zc with
  | false =>
    go_wp2_with fail
    refine (s13bad _ need many _ _ _ zg _ _ _ zc _ n _ H HG5.out HC5.out HI5.out hl1 hl2 hl).mono ?_
    rintro e w6 ⟨v6, rfl, hL, hg⟩
    obtain ⟨av6, cv6, rfl, hIb, _, _⟩ := hL.slice
    have HBs6 := Lib.hid hIb; have HBi6 := Lib.hid (HBi5.out.kept hg); have G6 := Lib.hid (gtr G5.out hg)
    clear hL hg hIb
    go_wp2_with fail
    refine (lpints _ _ _ _ _ _ _ HBi6.out HBs6.out hbl0).mono ?_
    rintro e w7 ⟨rfl, hg⟩
    have G7 := Lib.hid (gtr G6.out hg); clear hg
    go_wp2
    go_ret
    exact ⟨rfl, Draw.below_of G7.out⟩
  | true =>
    cases hh : hkF H n with
    | false =>
      go_wp2_with fail
      refine (shok _ _ n _ H HI5.out hl).mono ?_
      rintro e w6 ⟨rfl, hg⟩
      rw [hh]
      have HBi6 := Lib.hid (HBi5.out.kept hg); have HG6 := Lib.hid (HG5.out.kept hg); have HC6 := Lib.hid (HC5.out.kept hg); have HI6 := Lib.hid (HI5.out.kept hg); have HK6 := Lib.hid (HK5.out.kept hg); have G6 := Lib.hid (gtr G5.out hg)
      clear hg k0 k1 k2 k3
      obtain ⟨_, k0, k1, k2, k3⟩ := HK6.out
      go_wp2_with fail
      refine (s13bad _ need many _ _ _ zg _ _ _ zc _ n _ H HG6.out HC6.out HI6.out hl1 hl2 hl).mono ?_
      rintro e w7 ⟨v7, rfl, hL, hg⟩
      obtain ⟨av7, cv7, rfl, hIb, _, _⟩ := hL.slice
      have HBs7 := Lib.hid hIb; have HBi7 := Lib.hid (HBi6.out.kept hg); have G7 := Lib.hid (gtr G6.out hg)
      clear hL hg hIb
      go_wp2_with fail
      refine (lpints _ _ _ _ _ _ _ HBi7.out HBs7.out hbl0).mono ?_
      rintro e w8 ⟨rfl, hg⟩
      have G8 := Lib.hid (gtr G7.out hg); clear hg
      go_wp2
      go_ret
      exact ⟨rfl, Draw.below_of G8.out⟩
    | true =>
      have HSB := Lib.hid (sb_some hk hh)
      have HH := Lib.hid hh; have HKy := Lib.hid hk; have h5 := hk_five hh
      have HHas := Lib.hid (fun (k : Nat) (h : k < n) => sbl_has (many := (many : Int)) (nc := nc) (zc := zc) hh h)
      rw [HSB.out] at HBi5 hbl0 ⊢
      generalize hbq : sbl (many : Int) nc zc H n = bl at HBi5 hbl0 HHas ⊢
      have HBq := Lib.hid hbq
      have hbl : bl.length ≤ 2000000 := hbl0
      clear hbl0 hbq HSB
      go_wp2_with fail
      refine (shok _ _ n _ H HI5.out hl).mono ?_
      rintro e w6 ⟨rfl, hg⟩
      rw [hh]
      have HBi6 := Lib.hid (HBi5.out.kept hg); have HG6 := Lib.hid (HG5.out.kept hg); have HC6 := Lib.hid (HC5.out.kept hg); have HI6 := Lib.hid (HI5.out.kept hg); have HK6 := Lib.hid (HK5.out.kept hg); have G6 := Lib.hid (gtr G5.out hg)
      clear hg k0 k1 k2 k3 hh hk
      go_wp2
      go_loopw [6, 7] (fun c i W => ∃ k : Nat, k ≤ n ∧ i = .int .i64 k ∧ c = .int .i64 ((sbl many nc zc H k).length : Int) ∧ w6.grownBy W none) (fun _ i _ => n - (intOf i).toNat)
      case atStart => exact ⟨0, by omega, rfl, rfl, Draw.grown_refl _ _⟩
      case round =>
        obtain ⟨k, hk, rfl, rfl, hg⟩ := hrel
        have HGr := Lib.hid hg; clear hg
        by_cases hlt : k < n
        · have hlt' : (k : Int) < (n : Int) := by omega
          rcases HI6.out.kept HGr.out with h | ⟨b, off, rfl, hb, hcc⟩
          · omega
          obtain ⟨hc0, hc1⟩ := hcc k hlt
          have hj1 : (0 : Int) ≤ (k : Int) := by omega
          clear hcc
          have HKr := Lib.hid (HK6.out.kept HGr.out)
          obtain ⟨_, k0, k1, k2, k3⟩ := HKr.out
          have HBr := Lib.hid (HBi6.out.kept HGr.out)
          have HBd := Lib.hid (HBr.out.keptB (w' := wr.drew) (fun _ _ => rfl) (Nat.le_refl _))
          have HGd := Lib.hid ((HG6.out.kept HGr.out).keptB (w' := wr.drew) (fun _ _ => rfl) (Nat.le_refl _)); have HCd := Lib.hid ((HC6.out.kept HGr.out).keptB (w' := wr.drew) (fun _ _ => rfl) (Nat.le_refl _))
          have hll := sbl_len (many := (many : Int)) (nc := nc) (zc := zc) (H := H) (k := k)
          have hft := sbE_fit (k := k) HKy.out HH.out hlt
          cases he : sbE (many : Int) nc zc H k with
          | true =>
            have HIn := Lib.hid ((HHas.out k hlt).trans he)
            have HFit := Lib.hid (show kfit need many ng zg nc zc (H k).m (H k).s = false by rw [he] at hft; simpa using hft.symm)
            have HN := Lib.hid (show (sbl (many : Int) nc zc H (k + 1)).length = (sbl (many : Int) nc zc H k).length + 1 by rw [sbl_yes he]; simp)
            clear he hft
            generalize (sbl (many : Int) nc zc H k).length = x at *
            go_wp2_with fail
            go_region_held3 (fun w' => w'.cell? ⟨w1.heap.size, 0, none⟩ = some (.int .i64 need) ∧ w'.cell? ⟨w1.heap.size, 1, none⟩ = some (.int .i64 many) ∧ w'.cell? ⟨w1.heap.size, 2, none⟩ = some (.slice ag ng cg) ∧ w'.cell? ⟨w1.heap.size, 3, none⟩ = some (.slice ac nc cc) ∧ w'.cell? ⟨b, off + k * 2, none⟩ = some (.int .i64 (H k).m) ∧ w'.cell? ⟨b, off + k * 2 + 1, none⟩ = some (.int .i64 (H k).s)) (first | exact hS7 | exact hS6 | exact ⟨k0, k1, k2, k3, hc0, hc1⟩) (first
              | (go_at_call 22; (with_reducible refine (lpin _ _ _ _ (li bl) (H k).m HBd.out hbl).mono ?_); rintro e w6 ⟨rfl, rfl⟩; rw [HIn.out]; have hS6 : wr.drew.cell? ⟨w1.heap.size, 0, none⟩ = some (.int .i64 need) ∧ wr.drew.cell? ⟨w1.heap.size, 1, none⟩ = some (.int .i64 many) ∧ wr.drew.cell? ⟨w1.heap.size, 2, none⟩ = some (.slice ag ng cg) ∧ wr.drew.cell? ⟨w1.heap.size, 3, none⟩ = some (.slice ac nc cc) ∧ wr.drew.cell? ⟨b, off + k * 2, none⟩ = some (.int .i64 (H k).m) ∧ wr.drew.cell? ⟨b, off + k * 2 + 1, none⟩ = some (.int .i64 (H k).s) := ⟨k0, k1, k2, k3, hc0, hc1⟩)
              | (go_at_call 23; (with_reducible refine (ikeyfits _ need many _ _ _ zg _ _ _ zc _ _ HGd.out HCd.out hl1 hl2).mono ?_); rintro e w7 ⟨rfl, hg⟩; rw [HFit.out]; have Hg := Lib.hid (show wr.grownBy w7 none from ⟨hg.os, hg.tape, hg.output, hg.size, hg.block⟩); have K7 := HKr.out.kept Hg.out; have eb := Hg.out.block b hb (by simp); have hS7 : w7.cell? ⟨w1.heap.size, 0, none⟩ = some (.int .i64 need) ∧ w7.cell? ⟨w1.heap.size, 1, none⟩ = some (.int .i64 many) ∧ w7.cell? ⟨w1.heap.size, 2, none⟩ = some (.slice ag ng cg) ∧ w7.cell? ⟨w1.heap.size, 3, none⟩ = some (.slice ac nc cc) ∧ w7.cell? ⟨b, off + k * 2, none⟩ = some (.int .i64 (H k).m) ∧ w7.cell? ⟨b, off + k * 2 + 1, none⟩ = some (.int .i64 (H k).s) := ⟨K7.c0, K7.c1, K7.c2, K7.c3, (World.cell?_of_block eb).trans hc0, (World.cell?_of_block eb).trans hc1⟩; clear hg K7 eb))
            all_goals
              obtain ⟨_, _, _, _, q0, _⟩ := hS7
              clear hc0 hc1 k0 k1 k2 k3
              have HB7 := Lib.hid (HBr.out.kept Hg.out); have HG7 := Lib.hid (gtr HGr.out Hg.out)
              go_wp2_with fail
              refine (lpin _ _ _ _ (li bl) (H k).m HB7.out hbl).mono ?_
              rintro e w8 ⟨rfl, rfl⟩
              rw [HIn.out]
              go_wp2
              go_roundw
              case rel => exact ⟨k + 1, by omega, by go_num, by rw [HN.out]; try go_num, HG7.out⟩
              case measure => simp [intOf]; omega
          | false =>
            have HIn := Lib.hid ((HHas.out k hlt).trans he)
            have HFit := Lib.hid (show kfit need many ng zg nc zc (H k).m (H k).s = true by rw [he] at hft; simpa using hft.symm)
            have HN := Lib.hid (show (sbl (many : Int) nc zc H (k + 1)).length = (sbl (many : Int) nc zc H k).length by rw [sbl_no he])
            clear he hft
            generalize (sbl (many : Int) nc zc H k).length = x at *
            go_wp2_with fail
            go_region_held3 (fun w' => w'.cell? ⟨w1.heap.size, 0, none⟩ = some (.int .i64 need) ∧ w'.cell? ⟨w1.heap.size, 1, none⟩ = some (.int .i64 many) ∧ w'.cell? ⟨w1.heap.size, 2, none⟩ = some (.slice ag ng cg) ∧ w'.cell? ⟨w1.heap.size, 3, none⟩ = some (.slice ac nc cc) ∧ w'.cell? ⟨b, off + k * 2, none⟩ = some (.int .i64 (H k).m) ∧ w'.cell? ⟨b, off + k * 2 + 1, none⟩ = some (.int .i64 (H k).s)) (first | exact hS7 | exact hS6 | exact ⟨k0, k1, k2, k3, hc0, hc1⟩) (first
              | (go_at_call 22; (with_reducible refine (lpin _ _ _ _ (li bl) (H k).m HBd.out hbl).mono ?_); rintro e w6 ⟨rfl, rfl⟩; rw [HIn.out]; have hS6 : wr.drew.cell? ⟨w1.heap.size, 0, none⟩ = some (.int .i64 need) ∧ wr.drew.cell? ⟨w1.heap.size, 1, none⟩ = some (.int .i64 many) ∧ wr.drew.cell? ⟨w1.heap.size, 2, none⟩ = some (.slice ag ng cg) ∧ wr.drew.cell? ⟨w1.heap.size, 3, none⟩ = some (.slice ac nc cc) ∧ wr.drew.cell? ⟨b, off + k * 2, none⟩ = some (.int .i64 (H k).m) ∧ wr.drew.cell? ⟨b, off + k * 2 + 1, none⟩ = some (.int .i64 (H k).s) := ⟨k0, k1, k2, k3, hc0, hc1⟩)
              | (go_at_call 23; (with_reducible refine (ikeyfits _ need many _ _ _ zg _ _ _ zc _ _ HGd.out HCd.out hl1 hl2).mono ?_); rintro e w7 ⟨rfl, hg⟩; rw [HFit.out]; have Hg := Lib.hid (show wr.grownBy w7 none from ⟨hg.os, hg.tape, hg.output, hg.size, hg.block⟩); have K7 := HKr.out.kept Hg.out; have eb := Hg.out.block b hb (by simp); have hS7 : w7.cell? ⟨w1.heap.size, 0, none⟩ = some (.int .i64 need) ∧ w7.cell? ⟨w1.heap.size, 1, none⟩ = some (.int .i64 many) ∧ w7.cell? ⟨w1.heap.size, 2, none⟩ = some (.slice ag ng cg) ∧ w7.cell? ⟨w1.heap.size, 3, none⟩ = some (.slice ac nc cc) ∧ w7.cell? ⟨b, off + k * 2, none⟩ = some (.int .i64 (H k).m) ∧ w7.cell? ⟨b, off + k * 2 + 1, none⟩ = some (.int .i64 (H k).s) := ⟨K7.c0, K7.c1, K7.c2, K7.c3, (World.cell?_of_block eb).trans hc0, (World.cell?_of_block eb).trans hc1⟩; clear hg K7 eb))
            all_goals
              obtain ⟨_, _, _, _, q0, _⟩ := hS7
              clear hc0 hc1 k0 k1 k2 k3
              have HB7 := Lib.hid (HBr.out.kept Hg.out); have HG7 := Lib.hid (gtr HGr.out Hg.out)
              go_wp2_with fail
              refine (lpin _ _ _ _ (li bl) (H k).m HB7.out hbl).mono ?_
              rintro e w8 ⟨rfl, rfl⟩
              rw [HIn.out]
              go_wp2
              go_roundw
              case rel => exact ⟨k + 1, by omega, by go_num, by rw [HN.out]; try go_num, HG7.out⟩
              case measure => simp [intOf]; omega
        · obtain rfl : k = n := by omega
          have hlt' : ¬ (k : Int) < (k : Int) := by omega
          rw [HBq.out]
          have heq : ((bl.length : Int) == (bl.length : Int)) = true := by simp
          go_wp2
          go_ret
          exact ⟨rfl, Draw.below_of (gtr G6.out HGr.out)⟩
end Run
end Go.Proofs.Ythjflmokfkcalaa
