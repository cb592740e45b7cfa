/-
  The words of the exact laws that take a slice of deals: its size, the deals anew, whether two such read alike.
-/
import Derived.Test.YtocecdnebkeeoaaDoorKs
import Derived.Test.YtocecdnebkeeoaaDoorKc
namespace Go.Proofs.YtocecdnebkeeoaaDoor
namespace Mp
open Go.RowKit Alg Mem Con Me
set_option linter.unusedVariables false

/-- The same deals at other addresses. -/
def re (D : Nat → DV) (B1 B2 : Nat → Nat) (j : Nat) : DV := { D j with a1 := some ⟨B1 j, 0, none⟩, c1 := (D j).n1, a2 := some ⟨B2 j, 0, none⟩, c2 := (D j).n2 }
theorem ds_re (D : Nat → DV) (B1 B2 : Nat → Nat) (n : Nat) : dsF (re D B1 B2) n = dsF D n := rfl
theorem ksF_re (ng : Nat) (zg : Nat → Int) (need many : Int) (D : Nat → DV) (B1 B2 : Nat → Nat) (na : Nat) (A : Nat → Ans) (m k : Nat) : ksF ng zg need many (re D B1 B2) na A m k = ksF ng zg need many D na A m k := by
  induction k with
  | zero => rfl
  | succ k ih => simp only [ksF, ih]; rfl
theorem ksh_re (need many : Int) (ng : Nat) (zg : Nat → Int) (nc : Nat) (zc : Nat → Int) (D : Nat → DV) (B1 B2 : Nat → Nat) (nd : Nat) (A : Nat → Ans) (na : Nat) (m : Int) : kshF need many ng zg nc zc (re D B1 B2) nd A na m = kshF need many ng zg nc zc D nd A na m := by
  unfold kshF; rw [ksF_re, ds_re]
theorem ints_keptO {w w' : World} {a : Option Addr} {len B : Nat} {z : Nat → Int} (h : Ints w a len z) (hg : w.grownBy w' (some B)) (hne : ∀ b off, a = some ⟨b, off, none⟩ → b ≠ B) : Ints w' a len z := by
  rcases h with h | ⟨b, off, ha, hl, hc⟩
  · exact .inl h
  · refine .inr ⟨b, off, ha, Nat.lt_of_lt_of_le hl hg.size, fun j hj => ?_⟩
    rw [World.cell?_of_block (w := w) (hg.block b hl (by intro e; injection e with e; exact hne b off ha e))]
    exact hc j hj
set_option maxHeartbeats 2000000 in
theorem szdeals (w : World) (a : Option Addr) (len cap : Nat) (D : Nat → DV) (left : Int) (h0 : 0 ≤ left) (h1 : left ≤ 2000000) (hI : DealsIn w a len D) (hl : len ≤ maxLen) (hL : ∀ j, j < len → (D j).n1 ≤ maxLen ∧ (D j).n2 ≤ maxLen) :
    Calls Tryd.prog 29 #[.slice a len cap, .int .i64 left] w fun e w' => ∃ r : Int, e = .returned (.int .i64 r) ∧ w.grownBy w' none ∧ (r = -1 ∨ (0 ≤ r ∧ r ≤ left ∧ (len : Int) ≤ 2000000 ∧ ∀ j, j < len → (D j).n1 ≤ 2000000 ∧ (D j).n2 ≤ 2000000)) := by
  unfold maxLen at hl
  have HI := Lib.hid hI; have HL := Lib.hid hL; clear hI hL
  by_cases hneg : left - (len : Int) < 0
  · go_enter Tryd.func29, Tryd.ntmps29
    go_wp2
    go_ret
    exact ⟨_, rfl, Draw.grown_refl _ _, .inl rfl⟩
  go_enter Tryd.func29, Tryd.ntmps29
  go_wp2
  go_loopw [1, 5] (fun s i wr => ∃ (k : Nat) (r : Int), k ≤ len ∧ i = .int .i64 k ∧ s = .int .i64 r ∧ 0 ≤ r ∧ r ≤ left ∧ (∀ j, j < k → (D j).n1 ≤ 2000000 ∧ (D j).n2 ≤ 2000000) ∧ w.grownBy wr none) (fun _ i _ => len - (intOf i).toNat)
  case atStart => exact ⟨0, _, by omega, rfl, rfl, by omega, by omega, fun j hj => by omega, Draw.grown_refl _ _⟩
  case round =>
    obtain ⟨k, r, hk, rfl, rfl, hr0, hr1, hs, hg⟩ := hrel
    have HS := Lib.hid hs; have HG := Lib.hid hg; clear hs hg
    by_cases hlt : k < len
    · rcases HI.out.kept HG.out with h | ⟨b, off, rfl, hb, hcc⟩
      · omega
      obtain ⟨⟨hc0, hc1, hc2⟩, _⟩ := hcc k hlt
      obtain ⟨hn1, hn2⟩ := HL.out k hlt
      clear hcc
      by_cases hq : ((D k).n1 : Int) + ((D k).n2 : Int) ≤ r
      · have hnn : ¬ r - ((D k).n1 : Int) - ((D k).n2 : Int) < 0 := by omega
        have hb1 : (D k).n1 ≤ 2000000 := by omega
        have hb2 : (D k).n2 ≤ 2000000 := by omega
        have HS2 := Lib.hid (show ∀ j, j < k + 1 → (D j).n1 ≤ 2000000 ∧ (D j).n2 ≤ 2000000 from fun j hj => by
          rcases Nat.lt_or_ge j k with h | h
          · exact HS.out j h
          · obtain rfl : j = k := by omega
            exact ⟨hb1, hb2⟩)
        go_wp2_with fail
        refine (szdeal_yes _ (D k).f _ (D k).n1 _ _ (D k).n2 _ r (by omega) hq).mono ?_
        rintro e w1 ⟨rfl, hg⟩
        have HG1 := Lib.hid (gtr HG.out hg); clear hg
        go_wp2
        go_roundw
        case rel => exact ⟨k + 1, _, by omega, by go_num, rfl, by omega, by omega, HS2.out, HG1.out⟩
        case measure => simp [intOf]; omega
      · go_wp2_with fail
        refine (szdeal_no _ (D k).f _ (D k).n1 _ _ (D k).n2 _ r hr0 (by omega) hn1 hn2 (by omega)).mono ?_
        rintro e w1 ⟨rfl, hg⟩
        have HG1 := Lib.hid (gtr HG.out hg); clear hg
        go_wp2
        go_ret
        exact ⟨_, rfl, HG1.out, .inl rfl⟩
    · obtain rfl : k = len := by omega
      go_wp2
      go_ret
      exact ⟨_, rfl, HG.out, .inr ⟨hr0, hr1, by omega, HS.out⟩⟩
theorem und_dls : Tryd.prog.underlying 40 = some (.slice 25) := by kernel_rfl
theorem info_dl : (Tryd.prog.info? 25).map (fun i => (i.zero, i.size, i.bytes)) = some (some (.agg #[.int .i64 0, .slice none 0 0, .slice none 0 0]), 3, 56) := by kernel_rfl
def zDl : Tri := (.int .i64 0, .slice none 0 0, .slice none 0 0)
/-- Deals of the call's own. -/
def NewDls (w : World) (n : Nat) (D : Nat → DV) (e : Ending) (w' : World) : Prop :=
  ∃ (b : Nat) (B1 B2 : Nat → Nat), e = .returned (.slice (some ⟨b, 0, none⟩) n n) ∧ DealsIn w' (some ⟨b, 0, none⟩) n (re D B1 B2) ∧ w.grownBy w' none
def upd (B : Nat → Nat) (k b : Nat) (j : Nat) : Nat := if j = k then b else B j
theorem re_upd_old {D : Nat → DV} {B1 B2 : Nat → Nat} {k b1 b2 j : Nat} (h : j ≠ k) : re D (upd B1 k b1) (upd B2 k b2) j = re D B1 B2 j := by simp [re, upd, h]
theorem re_upd_new {D : Nat → DV} {B1 B2 : Nat → Nat} {k b1 b2 : Nat} : re D (upd B1 k b1) (upd B2 k b2) k = { D k with a1 := some ⟨b1, 0, none⟩, c1 := (D k).n1, a2 := some ⟨b2, 0, none⟩, c2 := (D k).n2 } := by simp [re, upd]
set_option maxHeartbeats 4000000 in
theorem todeals (w : World) (a : Option Addr) (len cap : Nat) (D : Nat → DV) (hI : DealsIn w a len D) (hl : len ≤ 2000000) (hL : ∀ j, j < len → (D j).n1 ≤ 2000000 ∧ (D j).n2 ≤ 2000000) :
    Calls Tryd.prog 31 #[.slice a len cap] w (NewDls w len D) := by
  have hmk := run_make3 (P := Tryd.prog) 40 25 (.int .i64 0) (.slice none 0 0) (.slice none 0 0) 56 und_dls info_dl .i64 .i64 len (by omega) (by omega)
  have HI := Lib.hid hI; have HL := Lib.hid hL; clear hI hL
  go_enter Tryd.func31, Tryd.ntmps31
  go_wp2
  go_loopw [4] (fun i wr => ∃ (k : Nat) (B1 B2 : Nat → Nat), k ≤ len ∧ i = .int .i64 k ∧ Row3 wr w.heap.size 25 w.heap.size len (fun j => if j < k then dlT (re D B1 B2) j else zDl) ∧ (∀ j, j < k → Rows2 wr (re D B1 B2 j) ∧ B1 j ≠ w.heap.size ∧ B2 j ≠ w.heap.size) ∧ w.grownBy wr none) (fun i _ => len - (intOf i).toNat)
  case atStart => exact ⟨0, fun _ => 0, fun _ => 0, by omega, rfl, (Row3.made w _ len _ _ _).congr fun j _ => by simp [zDl], fun j hj => by omega, Draw.grown_alloc _ _ _⟩
  case round =>
    clear hmk
    obtain ⟨k, B1, B2, hk, rfl, hr, ho, hg⟩ := hrel
    have HG := Lib.hid hg; have HR := Lib.hid hr; have HO := Lib.hid ho; clear hg hr ho
    by_cases hlt : k < len
    · rcases HI.out.kept HG.out with h | ⟨b, off, rfl, hb, hcc⟩
      · omega
      obtain ⟨⟨hc0, hc1, hc2⟩, hrow⟩ := hcc k hlt
      obtain ⟨hn1, hn2⟩ := HL.out k hlt
      have HRow := Lib.hid hrow
      have hBl := HR.out.lt
      clear hcc hrow
      go_wp2_with fail
      refine (todeal _ (D k).f _ (D k).n1 _ (D k).z1 _ (D k).n2 _ (D k).z2 HRow.out.i1 HRow.out.i2 hn1 hn2).mono ?_
      rintro e w1 ⟨b1, b2, rfl, hbb, hr1, hr2, hg1⟩
      have hf1 := hr1.from_; have hf2 := hr2.from_
      have HG1 := Lib.hid (gtr HG.out hg1); have HR1 := Lib.hid (HR.out.keptN hg1)
      have hst := set3_grown w1 w.heap.size k (.int .i64 (D k).f, .slice (some ⟨b1, 0, none⟩) (D k).n1 (D k).n1, .slice (some ⟨b2, 0, none⟩) (D k).n2 (D k).n2)
      have HO2 := Lib.hid (show ∀ j, j < k + 1 → Rows2 (set3 w1 w.heap.size k (.int .i64 (D k).f, .slice (some ⟨b1, 0, none⟩) (D k).n1 (D k).n1, .slice (some ⟨b2, 0, none⟩) (D k).n2 (D k).n2)) (re D (upd B1 k b1) (upd B2 k b2) j) ∧ upd B1 k b1 j ≠ w.heap.size ∧ upd B2 k b2 j ≠ w.heap.size from fun j hj => by
        by_cases e : j = k
        · subst e
          rw [re_upd_new]
          refine ⟨⟨ints_keptO hr1.ints hst (fun x y h => ?_), ints_keptO hr2.ints hst (fun x y h => ?_)⟩, ?_, ?_⟩
          · injection h with h; injection h with h1; omega
          · injection h with h; injection h with h1; omega
          · simp only [upd, if_true]; omega
          · simp only [upd, if_true]; omega
        · obtain ⟨h1, h2, h3⟩ := HO.out j (by omega)
          rw [re_upd_old e]
          refine ⟨⟨ints_keptO (h1.i1.kept hg1) hst (fun x y h => ?_), ints_keptO (h1.i2.kept hg1) hst (fun x y h => ?_)⟩, ?_, ?_⟩
          · injection h with h; injection h with h4; omega
          · injection h with h; injection h with h4; omega
          · simp only [upd]; rw [if_neg e]; exact h2
          · simp only [upd]; rw [if_neg e]; exact h3)
      clear hr1 hr2 hg1
      have d0 := HR1.out.c0 hlt
      have d1 := HR1.out.c1 hlt
      have d2 := HR1.out.c2 hlt
      have f0 := HR1.out.free (k * 3)
      have f1 := HR1.out.free (k * 3 + 1)
      have f2 := HR1.out.free (k * 3 + 2)
      have HR2 := Lib.hid ((HR1.out.set k (.int .i64 (D k).f, .slice (some ⟨b1, 0, none⟩) (D k).n1 (D k).n1, .slice (some ⟨b2, 0, none⟩) (D k).n2 (D k).n2)).congr (g' := fun j => if j < k + 1 then dlT (re D (upd B1 k b1) (upd B2 k b2)) j else zDl) fun j hj => by
        by_cases e : j = k
        · subst e; simp only [dlT, re_upd_new]; simp
        · simp only [dlT, re_upd_old e]
          by_cases h : j < k
          · rw [if_neg e, if_pos h, if_pos (by omega)]
          · rw [if_neg e, if_neg h, if_neg (by omega)])
      have HG2 := Lib.hid (grown_new HG1.out (Nat.le_refl _) hst)
      clear hst
      go_wp2
      go_roundw
      case rel => exact ⟨k + 1, _, _, by omega, by go_num, HR2.out, HO2.out, HG2.out⟩
      case measure => simp [intOf]; omega
    · obtain rfl : k = len := by omega
      have HR2 := Lib.hid (HR.out.congr (g' := dlT (re D B1 B2)) fun j hj => by simp [hj])
      have HF := Lib.hid (show DealsIn wr (some ⟨w.heap.size, 0, none⟩) k (re D B1 B2) from .inr ⟨_, 0, rfl, HR2.out.lt, fun j hj => by
        rw [Nat.zero_add]
        exact ⟨⟨HR2.out.c0 hj, HR2.out.c1 hj, HR2.out.c2 hj⟩, (HO.out j hj).1⟩⟩)
      go_wp2
      go_ret
      exact ⟨_, B1, B2, rfl, HF.out, HG.out⟩
set_option maxHeartbeats 4000000 in
theorem eqdeals (w : World) (a a' : Option Addr) (len cap cap' : Nat) (D : Nat → DV) (B1 B2 C1 C2 : Nat → Nat) (h1 : DealsIn w a len (re D B1 B2)) (h2 : DealsIn w a' len (re D C1 C2)) (hl : len ≤ 2000000) (hL : ∀ j, j < len → (D j).n1 ≤ 2000000 ∧ (D j).n2 ≤ 2000000) :
    Calls Tryd.prog 33 #[.slice a len cap, .slice a' len cap'] w fun e w' => e = .returned (.bool true) ∧ w.grownBy w' none := by
  have H1 := Lib.hid h1; have H2 := Lib.hid h2; have HL := Lib.hid hL; clear h1 h2 hL
  have hne : ((len : Int) != (len : Int)) = false := by simp
  go_enter Tryd.func33, Tryd.ntmps33
  go_wp2
  go_loopw [5] (fun i wr => ∃ k : Nat, k ≤ len ∧ i = .int .i64 k ∧ w.grownBy wr none) (fun i _ => len - (intOf i).toNat)
  case atStart => exact ⟨0, by omega, rfl, Draw.grown_refl _ _⟩
  case round =>
    obtain ⟨k, hk, rfl, hg⟩ := hrel
    have HG := Lib.hid hg; clear hg
    by_cases hlt : k < len
    · rcases H1.out.kept HG.out with h | ⟨b, off, rfl, hb, hcc⟩
      · omega
      obtain ⟨⟨hc0, hc1, hc2⟩, hr1⟩ := hcc k hlt
      rcases H2.out.kept HG.out with h | ⟨b', off', rfl, hb', hcc'⟩
      · omega
      obtain ⟨⟨hd0, hd1, hd2⟩, hr2⟩ := hcc' k hlt
      obtain ⟨hn1, hn2⟩ := HL.out k hlt
      have HR1 := Lib.hid (hr1.kept (w' := wr.drew) ⟨rfl, rfl, rfl, Nat.le_refl _, fun _ _ _ => rfl⟩); have HR2 := Lib.hid (hr2.kept (w' := wr.drew) ⟨rfl, rfl, rfl, Nat.le_refl _, fun _ _ _ => rfl⟩)
      simp only [re] at hc0 hc1 hc2 hd0 hd1 hd2
      clear hcc hcc' hr1 hr2
      have hj1 : (0 : Int) ≤ (k : Int) := by omega
      have hj2 : (k : Int) < (len : Int) := by omega
      go_wp2_with fail
      go_region_held3 (fun w' => w'.cell? ⟨b, off + k * 3, none⟩ = some (.int .i64 (D k).f) ∧ w'.cell? ⟨b, off + k * 3 + 1, none⟩ = some (.slice (some ⟨B1 k, 0, none⟩) (D k).n1 (D k).n1) ∧ w'.cell? ⟨b, off + k * 3 + 2, none⟩ = some (.slice (some ⟨B2 k, 0, none⟩) (D k).n2 (D k).n2) ∧ w'.cell? ⟨b', off' + k * 3, none⟩ = some (.int .i64 (D k).f) ∧ w'.cell? ⟨b', off' + k * 3 + 1, none⟩ = some (.slice (some ⟨C1 k, 0, none⟩) (D k).n1 (D k).n1) ∧ w'.cell? ⟨b', off' + k * 3 + 2, none⟩ = some (.slice (some ⟨C2 k, 0, none⟩) (D k).n2 (D k).n2)) (first | exact hS2 | exact ⟨hc0, hc1, hc2, hd0, hd1, hd2⟩) ((go_at_call 26; (with_reducible refine (eqdeal _ (D k).f _ _ _ _ (D k).n1 _ _ (D k).z1 (D k).n2 _ _ (D k).z2 HR1.out.i1 HR1.out.i2 HR2.out.i1 HR2.out.i2 hn1 hn2).mono ?_); rintro e w2 ⟨rfl, hg2⟩; have Hg := Lib.hid (show wr.grownBy w2 none from ⟨hg2.os, hg2.tape, hg2.output, hg2.size, hg2.block⟩); have HG2 := Lib.hid (gtr HG.out Hg.out); have e1 := Hg.out.block b hb (by simp); have e2 := Hg.out.block b' hb' (by simp); have hS2 : w2.cell? ⟨b, off + k * 3, none⟩ = some (.int .i64 (D k).f) ∧ w2.cell? ⟨b, off + k * 3 + 1, none⟩ = some (.slice (some ⟨B1 k, 0, none⟩) (D k).n1 (D k).n1) ∧ w2.cell? ⟨b, off + k * 3 + 2, none⟩ = some (.slice (some ⟨B2 k, 0, none⟩) (D k).n2 (D k).n2) ∧ w2.cell? ⟨b', off' + k * 3, none⟩ = some (.int .i64 (D k).f) ∧ w2.cell? ⟨b', off' + k * 3 + 1, none⟩ = some (.slice (some ⟨C1 k, 0, none⟩) (D k).n1 (D k).n1) ∧ w2.cell? ⟨b', off' + k * 3 + 2, none⟩ = some (.slice (some ⟨C2 k, 0, none⟩) (D k).n2 (D k).n2) := ⟨(World.cell?_of_block e1).trans hc0, (World.cell?_of_block e1).trans hc1, (World.cell?_of_block e1).trans hc2, (World.cell?_of_block e2).trans hd0, (World.cell?_of_block e2).trans hd1, (World.cell?_of_block e2).trans hd2⟩; clear hg2 e1 e2))
      all_goals
        go_wp2
        go_roundw
        case rel => exact ⟨k + 1, by omega, by go_num, HG2.out⟩
        case measure => simp [intOf]; omega
    · obtain rfl : k = len := by omega
      go_wp2
      go_ret
      exact ⟨rfl, HG.out⟩
end Mp
end Go.Proofs.YtocecdnebkeeoaaDoor
