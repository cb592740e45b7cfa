/-
  Whether deals are in order; a member's share of a key: the program's and the model's functions.
-/
import Derived.Test.YtchgjdbmianajaaSk
import Derived.Test.YtchgjdbmianajaaOps
import Derived.Test.YtchgjdbmianajaaPe
import Derived.Test.YtchgjdbmianajaaKc
namespace Go.Proofs.Ytchgjdbmianajaa
namespace Mp
open Go.RowKit Alg Mem Con Me
set_option linter.unusedVariables false

abbrev frm (D : Nat → DV) (j : Nat) : Int := (D j).f
/-- Are the deals in order? -/
def dsF (D : Nat → DV) (n : Nat) : Bool := decide (n ≤ 5) && upz (frm D) n
theorem ds_iff {D : Nat → DV} {n : Nat} : dsF D n = true ↔ n ≤ 5 ∧ upz (frm D) n = true := by simp [dsF]
theorem ds_len {D : Nat → DV} {n : Nat} (h : 5 < n) : dsF D n = false := by simp [dsF]; omega
theorem ds_in {D : Nat → DV} {n : Nat} (h : n ≤ 5) : dsF D n = upz (frm D) n := by simp [dsF, h]
theorem ds_no {D : Nat → DV} {n : Nat} (h : upz (frm D) n = false) : dsF D n = false := by simp [dsF, h]
set_option maxHeartbeats 2000000 in
theorem s12deals (w : World) (a : Option Addr) (len cap : Nat) (D : Nat → DV) (hI : DealsIn w a len D) (hm : len ≤ 2000000) :
    Calls Try.prog 69 #[.slice a len cap] w fun e w' => e = .returned (.bool (dsF D len)) ∧ w.grownBy w' none := by
  have HI := Lib.hid hI; clear hI
  go_enter Try.func69, Try.ntmps69
  go_wp2
  go_loopw [3] (fun i wr => ∃ k : Nat, (k + 1 ≤ len ∨ k = 0) ∧ i = .int .i64 ((k : Int) + 1) ∧ upz (frm D) (k + 1) = true ∧ w.grownBy wr none) (fun i _ => len + 1 - (intOf i).toNat)
  case atStart => exact ⟨0, .inr rfl, rfl, by simp [upz], Draw.grown_refl _ _⟩
  case round =>
    obtain ⟨k, hk, rfl, hu, hg⟩ := hrel
    have HG := Lib.hid hg; have HU := Lib.hid hu; clear hg hu
    by_cases hlt : k + 1 < len
    · have hlt' : (k : Int) + 1 < (len : Int) := by omega
      rcases HI.out.kept HG.out with h | ⟨b, off, rfl, hb, hcc⟩
      · omega
      obtain ⟨⟨hc0, _, _⟩, _⟩ := hcc k (by omega)
      obtain ⟨⟨hd0, _, _⟩, _⟩ := hcc (k + 1) hlt
      clear hcc
      have e1 : ((k : Int) + 1 - 1) = (k : Int) := by omega
      have hwr : IntKind.i64.wrap ((k : Int) + 1 - 1) = (k : Int) := by rw [IntKind.wrap_i64]; omega
      have hwr2 : IntKind.i64.wrap (k : Int) = (k : Int) := by rw [IntKind.wrap_i64]; omega
      have e2 : ((k : Int) + 1).toNat = k + 1 := by omega
      have hj1 : (0 : Int) ≤ (k : Int) := by omega
      have hj2 : (k : Int) < (len : Int) := by omega
      have hj3 : (0 : Int) ≤ (k : Int) + 1 := by omega
      by_cases hle : (D (k + 1)).f ≤ (D k).f
      · have HR := Lib.hid (ds_no (D := D) (upz_no (z := frm D) hlt (by omega) (by simpa using hle)))
        go_wp2_with fail
        go_quiet (fail)
        go_wp2
        go_ret
        exact ⟨Mem.ret_b HR.out.symm, ⟨HG.out.os, HG.out.tape, HG.out.output, HG.out.size, HG.out.block⟩⟩
      · have HU2 := Lib.hid (upz_next (z := frm D) HU.out (.inr (show (D (k + 1 - 1)).f < (D (k + 1)).f by rw [Nat.add_sub_cancel]; omega)))
        go_wp2_with fail
        go_quiet (fail)
        go_wp2
        go_roundw
        case rel => exact ⟨k + 1, .inl (by omega), by go_num, HU2.out, ⟨HG.out.os, HG.out.tape, HG.out.output, HG.out.size, HG.out.block⟩⟩
        case measure => simp [intOf]; omega
    · have hlt' : ¬ (k : Int) + 1 < (len : Int) := by omega
      have HU' := Lib.hid (show upz (frm D) len = true by
        rcases (by omega : len = k + 1 ∨ len = 0) with e | e
        · rw [e]; exact HU.out
        · rw [e]; rfl)
      by_cases h5 : len ≤ 5
      · have h5' : (len : Int) ≤ 5 := by omega
        have HR := Lib.hid ((ds_in (D := D) h5).trans HU'.out)
        go_wp2
        go_ret
        exact ⟨Mem.ret_b HR.out.symm, HG.out⟩
      · have h5' : ¬ (len : Int) ≤ 5 := by omega
        have HR := Lib.hid (ds_len (D := D) (show 5 < len by omega))
        go_wp2
        go_ret
        exact ⟨Mem.ret_b HR.out.symm, HG.out⟩
/-- A member's share behind the first k deals. -/
def ksF (ng : Nat) (zg : Nat → Int) (need many : Int) (D : Nat → DV) (na : Nat) (A : Nat → Ans) (m : Nat) : Nat → Option Int
  | 0 => some 0
  | k + 1 => match ksF ng zg need many D na A m k with
    | none => none
    | some n => if hasz zg (D k).f ng then (if dlF (D k).f (D k).n1 (D k).z1 (D k).n2 (D k).z2 need many then (acc (cfz (D k).n1 (D k).z1 ((m : Int) + 1)) ((D k).z2 m) (shs A (D k).f ((m : Int) + 1) na)).map (sumF n) else none) else some n
section
variable {ng : Nat} {zg : Nat → Int} {need many : Int} {D : Nat → DV} {na : Nat} {A : Nat → Ans} {m k : Nat} {n s : Int}
theorem ks_skip (h : ksF ng zg need many D na A m k = some n) (hh : hasz zg (D k).f ng = false) : ksF ng zg need many D na A m (k + 1) = some n := by simp [ksF, h, hh]
theorem ks_bad (h : ksF ng zg need many D na A m k = some n) (hh : hasz zg (D k).f ng = true) (hd : dlF (D k).f (D k).n1 (D k).z1 (D k).n2 (D k).z2 need many = false) : ksF ng zg need many D na A m (k + 1) = none := by simp [ksF, h, hh, hd]
theorem ks_none (h : ksF ng zg need many D na A m k = some n) (hh : hasz zg (D k).f ng = true) (hd : dlF (D k).f (D k).n1 (D k).z1 (D k).n2 (D k).z2 need many = true) (ha : acc (cfz (D k).n1 (D k).z1 ((m : Int) + 1)) ((D k).z2 m) (shs A (D k).f ((m : Int) + 1) na) = none) : ksF ng zg need many D na A m (k + 1) = none := by simp [ksF, h, hh, hd, ha]
theorem ks_add (h : ksF ng zg need many D na A m k = some n) (hh : hasz zg (D k).f ng = true) (hd : dlF (D k).f (D k).n1 (D k).z1 (D k).n2 (D k).z2 need many = true) (ha : acc (cfz (D k).n1 (D k).z1 ((m : Int) + 1)) ((D k).z2 m) (shs A (D k).f ((m : Int) + 1) na) = some s) : ksF ng zg need many D na A m (k + 1) = some (sumF n s) := by simp [ksF, h, hh, hd, ha]
theorem ks_stop {q : Nat} (h : ksF ng zg need many D na A m k = none) (hk : k ≤ q) : ksF ng zg need many D na A m q = none := by
  induction q with
  | zero => obtain rfl : k = 0 := by omega
            exact h
  | succ q ih =>
    rcases Nat.lt_or_ge q k with h' | h'
    · obtain rfl : k = q + 1 := by omega
      exact h
    · simp [ksF, ih h']
end
/-- A member's share of a key. -/
def kshF (need many : Int) (ng : Nat) (zg : Nat → Int) (nc : Nat) (zc : Nat → Int) (D : Nat → DV) (nd : Nat) (A : Nat → Ans) (na : Nat) (m : Int) : Option Int :=
  if kyF need many ng zg nc zc && (mbF many m && dsF D nd) then ksF ng zg need many D na A (m - 1).toNat nd else none
section
variable {need many : Int} {ng : Nat} {zg : Nat → Int} {nc : Nat} {zc : Nat → Int} {D : Nat → DV} {nd : Nat} {A : Nat → Ans} {na : Nat} {m : Int}
theorem ksh_k (h : kyF need many ng zg nc zc = false) : kshF need many ng zg nc zc D nd A na m = none := by simp [kshF, h]
theorem ksh_m (h : mbF many m = false) : kshF need many ng zg nc zc D nd A na m = none := by simp [kshF, h]
theorem ksh_d (h : dsF D nd = false) : kshF need many ng zg nc zc D nd A na m = none := by simp [kshF, h]
theorem ksh_y {j : Nat} (h1 : kyF need many ng zg nc zc = true) (h2 : mbF many ((j : Int) + 1) = true) (h3 : dsF D nd = true) : kshF need many ng zg nc zc D nd A na ((j : Int) + 1) = ksF ng zg need many D na A j nd := by simp [kshF, h1, h2, h3]
end
set_option maxRecDepth 100000 in
set_option maxHeartbeats 8000000 in
theorem skeyshare (w : World) (need many : Int) (ag : Option Addr) (ng cg : Nat) (zg : Nat → Int) (ac : Option Addr) (nc cc : Nat) (zc : Nat → Int) (ad : Option Addr) (nd cd : Nat) (D : Nat → DV) (aa : Option Addr) (na ca : Nat) (A : Nat → Ans) (m : Int) (hA : Ints w ag ng zg) (hB : Ints w ac nc zc) (hD : DealsIn w ad nd D) (hL : ∀ j, j < nd → (D j).n1 ≤ 2000000 ∧ (D j).n2 ≤ 2000000) (hI : AnsIn w aa na A) (hl1 : ng ≤ 2000000) (hl2 : nc ≤ 2000000) (hl3 : nd ≤ 2000000) (hl4 : na ≤ 2000000) :
    Calls Try.prog 59 #[.agg #[.int .i64 need, .int .i64 many, .slice ag ng cg, .slice ac nc cc], .slice ad nd cd, .slice aa na ca, .int .i64 m] w fun e w' => e = .returned (accV (kshF need many ng zg nc zc D nd A na m)) ∧ w.grownBy w' none := by
  have HG0 := Lib.hid (Draw.grown_alloc w (.cells #[.int .i64 need, .int .i64 many, .slice ag ng cg, .slice ac nc cc] 62) none)
  have HA := Lib.hid (hA.kept HG0.out); have HB := Lib.hid (hB.kept HG0.out); have HDs := Lib.hid (hD.kept HG0.out); have HI := Lib.hid (hI.kept HG0.out); have HL := Lib.hid hL
  have HK := Lib.hid (Ky.new w need many (.slice ag ng cg) (.slice ac nc cc) 62)
  clear hA hB hD hI hL
  cases hc : kyF need many ng zg nc zc with
  | false =>
    have HR := Lib.hid (ksh_k (D := D) (nd := nd) (A := A) (na := na) (m := m) hc)
    go_enter Try.func59, Try.ntmps59
    go_wp2_with fail
    refine (skeyok _ need many _ _ _ zg _ _ _ zc HA.out HB.out hl1 hl2).mono ?_
    rintro e w1 ⟨rfl, hg⟩
    rw [hc]
    have HG := Lib.hid (gtr HG0.out hg); clear hg
    go_wp2
    go_ret2
    exact ⟨by rw [HR.out]; rfl, HG.out⟩
  | true =>
    cases hmb : mbF many m with
    | false =>
      have HR := Lib.hid (ksh_m (need := need) (ng := ng) (zg := zg) (nc := nc) (zc := zc) (D := D) (nd := nd) (A := A) (na := na) hmb)
      have hnm : ¬ (1 ≤ m ∧ m ≤ many) := fun h => by rw [mb_iff.2 h] at hmb; cases hmb
      have HNM := Lib.hid hnm; clear hnm
      go_enter Try.func59, Try.ntmps59
      go_wp2_with fail
      refine (skeyok _ need many _ _ _ zg _ _ _ zc HA.out HB.out hl1 hl2).mono ?_
      rintro e w1 ⟨rfl, hg⟩
      rw [hc]
      have HG := Lib.hid (gtr HG0.out hg); have HK1 := Lib.hid (HK.out.kept hg); clear hg
      obtain ⟨_, k0, k1, k2, k3⟩ := HK1.out
      go_wp2_with fail
      refine (s6in_no _ _ _ _ HNM.out).mono ?_
      rintro e w' ⟨rfl, rfl⟩
      have HGm := HG
      go_wp2
      go_ret2
      exact ⟨by rw [HR.out]; rfl, HGm.out⟩
    | true =>
      have hcr := (ky_iff.1 hc).1
      obtain ⟨m1, m2⟩ := mb_iff.1 hmb
      cases hds : dsF D nd with
      | false =>
        have HR := Lib.hid (ksh_d (need := need) (many := many) (ng := ng) (zg := zg) (nc := nc) (zc := zc) (A := A) (na := na) (m := m) hds)
        go_enter Try.func59, Try.ntmps59
        go_wp2_with fail
        refine (skeyok _ need many _ _ _ zg _ _ _ zc HA.out HB.out hl1 hl2).mono ?_
        rintro e w1 ⟨rfl, hg⟩
        rw [hc]
        have HG := Lib.hid (gtr HG0.out hg); have HK1 := Lib.hid (HK.out.kept hg); have HDs1 := Lib.hid (HDs.out.kept hg); clear hg
        obtain ⟨_, k0, k1, k2, k3⟩ := HK1.out
        go_wp2_with fail
        refine (s6in_yes _ _ _ _ m1 m2).mono ?_
        rintro e w' ⟨rfl, rfl⟩
        have Hgm := Lib.hid (Draw.grown_refl w1 none); have HGm := HG; have HDsm := HDs1
        go_wp2_with fail
        refine (s12deals _ _ _ _ D HDsm.out hl3).mono ?_
        rintro e w3 ⟨rfl, hg⟩
        rw [hds]
        have HGd := Lib.hid (gtr HGm.out hg); clear hg
        go_wp2
        go_ret2
        exact ⟨by rw [HR.out]; rfl, HGd.out⟩
      | true =>
        have hn5 := (ds_iff.1 hds).1
        obtain ⟨j, rfl⟩ : ∃ j : Nat, m = (j : Int) + 1 := ⟨(m - 1).toNat, by omega⟩
        have HR := Lib.hid (ksh_y (A := A) (na := na) hc hmb hds)
        go_enter Try.func59, Try.ntmps59
        go_wp2_with fail
        refine (skeyok _ need many _ _ _ zg _ _ _ zc HA.out HB.out hl1 hl2).mono ?_
        rintro e w1 ⟨rfl, hg⟩
        rw [hc]
        have HG := Lib.hid (gtr HG0.out hg); have HK1 := Lib.hid (HK.out.kept hg); have HDs1 := Lib.hid (HDs.out.kept hg); have HA1 := Lib.hid (HA.out.kept hg); have HI1 := Lib.hid (HI.out.kept hg); clear hg
        obtain ⟨_, k0, k1, k2, k3⟩ := HK1.out
        go_wp2_with fail
        refine (s6in_yes _ _ _ _ m1 m2).mono ?_
        rintro e w' ⟨rfl, rfl⟩
        have Hgm := Lib.hid (Draw.grown_refl w1 none); have HGm := HG; have HDsm := HDs1
        have HAm := Lib.hid (HA1.out.kept Hgm.out); have HIm := Lib.hid (HI1.out.kept Hgm.out); have HKm := Lib.hid (HK1.out.kept Hgm.out)
        clear HA1 HI1 HK1 k0 k1 k2 k3
        go_wp2_with fail
        refine (s12deals _ _ _ _ D HDsm.out hl3).mono ?_
        rintro e w3 ⟨rfl, hg⟩
        rw [hds]
        have HGd := Lib.hid (gtr HGm.out hg); have HA3 := Lib.hid (HAm.out.kept hg); have HI3 := Lib.hid (HIm.out.kept hg); have HK3 := Lib.hid (HKm.out.kept hg); have HDs3 := Lib.hid (HDsm.out.kept hg); clear hg HDsm HAm HIm HKm
        go_wp2
        go_loopw [10, 11] (fun s i wr => ∃ (k : Nat) (n : Int), k ≤ nd ∧ i = .int .i64 k ∧ s = .int .i64 n ∧ ksF ng zg need many D na A j k = some n ∧ w3.grownBy wr none) (fun _ i _ => nd - (intOf i).toNat)
        case atStart => exact ⟨0, 0, by omega, rfl, rfl, rfl, Draw.grown_refl _ _⟩
        case round =>
          obtain ⟨k, n, hk, rfl, rfl, hs, hg⟩ := hrel
          have HS := Lib.hid hs; have HGr := Lib.hid hg; clear hs hg
          by_cases hlt : k < nd
          · have hj1 : (0 : Int) ≤ (k : Int) := by omega
            have hj2 : (k : Int) < (nd : Int) := by omega
            have HKr := Lib.hid (HK3.out.kept HGr.out)
            obtain ⟨_, k0, k1, k2, k3⟩ := HKr.out
            have HDr := Lib.hid (HDs3.out.kept HGr.out)
            rcases HDr.out with h | ⟨b, off, rfl, hb, hcc⟩
            · omega
            obtain ⟨⟨hc0, hc1, hc2⟩, hrow⟩ := hcc k hlt
            obtain ⟨hn1, hn2⟩ := HL.out k hlt
            have HRow := Lib.hid hrow; have HAr := Lib.hid (HA3.out.kept HGr.out); have HIr := Lib.hid (HI3.out.kept HGr.out)
            clear hcc hrow
            cases hh : hasz zg (D k).f ng with
            | false =>
              have HS' := Lib.hid (ks_skip HS.out hh)
              have HH := Lib.hid hh
              go_wp2_with fail
              go_quiet ((go_at_call 50; refine Calls.quiet_of_same ((shas _ _ _ _ zg (D k).f (HAr.out.drew _) hl1).mono fun _ _ h => ⟨by rw [h.1, HH.out], h.2.symm⟩)))
              go_wp2
              go_roundw
              case rel => exact ⟨k + 1, n, by omega, by go_num, rfl, HS'.out, ⟨HGr.out.os, HGr.out.tape, HGr.out.output, HGr.out.size, HGr.out.block⟩⟩
              case measure => simp [intOf]; omega
            | true =>
              have HH := Lib.hid hh
              go_wp2_with fail
              go_quiet ((go_at_call 50; refine Calls.quiet_of_same ((shas _ _ _ _ zg (D k).f (HAr.out.drew _) hl1).mono fun _ _ h => ⟨by rw [h.1, HH.out], h.2.symm⟩)))
              obtain ⟨wn, hwn, hgn⟩ : ∃ wn, wr.drewN nq = wn ∧ wr.grownBy wn none := ⟨_, rfl, rfl, rfl, rfl, Nat.le_refl _, fun _ _ _ => rfl⟩
              rw [hwn]
              have Hgn := Lib.hid (gtr HGr.out hgn)
              have q0 := (World.cell?_of_block (hgn.block b hb (by simp))).trans hc0
              have q1 := (World.cell?_of_block (hgn.block b hb (by simp))).trans hc1
              have q2 := (World.cell?_of_block (hgn.block b hb (by simp))).trans hc2
              have hbn : b < wn.heap.size := Nat.lt_of_lt_of_le hb hgn.size
              have HKn := Lib.hid (HKr.out.kept hgn); have HRown := Lib.hid (HRow.out.kept hgn); have HIn := Lib.hid (HIr.out.kept hgn)
              have HRowd := Lib.hid (HRown.out.kept (w' := wn.drew) ⟨rfl, rfl, rfl, Nat.le_refl _, fun _ _ _ => rfl⟩)
              clear hwn hgn hc0 hc1 hc2 k0 k1 k2 k3 hb
              obtain ⟨_, k0, k1, k2, k3⟩ := HKn.out
              cases hdl : dlF (D k).f (D k).n1 (D k).z1 (D k).n2 (D k).z2 need many with
              | false =>
                have HR' := Lib.hid (HR.out.trans (ks_stop (ks_bad HS.out hh hdl) (Nat.succ_le_of_lt hlt)))
                go_wp2_with fail
                go_region_held3 (fun w' => w'.cell? ⟨w.heap.size, 0, none⟩ = some (.int .i64 need) ∧ w'.cell? ⟨w.heap.size, 1, none⟩ = some (.int .i64 many) ∧ w'.cell? ⟨b, off + k * 3, none⟩ = some (.int .i64 (D k).f) ∧ w'.cell? ⟨b, off + k * 3 + 1, none⟩ = some (.slice (D k).a1 (D k).n1 (D k).c1) ∧ w'.cell? ⟨b, off + k * 3 + 2, none⟩ = some (.slice (D k).a2 (D k).n2 (D k).c2)) (first | exact hS2 | exact ⟨k0, k1, q0, q1, q2⟩) ((go_at_call 70; (with_reducible refine (sdealok _ (D k).f _ _ _ (D k).z1 _ _ _ (D k).z2 _ _ HRowd.out.i1 HRowd.out.i2 hn1 hn2).mono ?_); rintro e w5 ⟨rfl, hg2⟩; rw [hdl]; have Hg5 := Lib.hid (show wn.grownBy w5 none from ⟨hg2.os, hg2.tape, hg2.output, hg2.size, hg2.block⟩); have HG5 := Lib.hid (gtr Hgn.out Hg5.out); have HRow5 := Lib.hid (HRown.out.kept Hg5.out); have HI5 := Lib.hid (HIn.out.kept Hg5.out); have hK5 := HKn.out.kept Hg5.out; have eb := Hg5.out.block b hbn (by simp); have hS2 : w5.cell? ⟨w.heap.size, 0, none⟩ = some (.int .i64 need) ∧ w5.cell? ⟨w.heap.size, 1, none⟩ = some (.int .i64 many) ∧ w5.cell? ⟨b, off + k * 3, none⟩ = some (.int .i64 (D k).f) ∧ w5.cell? ⟨b, off + k * 3 + 1, none⟩ = some (.slice (D k).a1 (D k).n1 (D k).c1) ∧ w5.cell? ⟨b, off + k * 3 + 2, none⟩ = some (.slice (D k).a2 (D k).n2 (D k).c2) := ⟨hK5.c0, hK5.c1, (World.cell?_of_block eb).trans q0, (World.cell?_of_block eb).trans q1, (World.cell?_of_block eb).trans q2⟩; clear hg2 hK5 eb))
                all_goals
                  go_wp2
                  go_ret2
                  exact ⟨by rw [HR'.out]; rfl, gtr HGd.out HG5.out⟩
              | true =>
                obtain ⟨hf, _, hcm, hnm, hok⟩ := dl_iff.1 hdl
                have HCM := Lib.hid hcm.2; have HOK := Lib.hid hok; clear hcm hok
                go_wp2_with fail
                go_region_held3 (fun w' => w'.cell? ⟨w.heap.size, 0, none⟩ = some (.int .i64 need) ∧ w'.cell? ⟨w.heap.size, 1, none⟩ = some (.int .i64 many) ∧ w'.cell? ⟨b, off + k * 3, none⟩ = some (.int .i64 (D k).f) ∧ w'.cell? ⟨b, off + k * 3 + 1, none⟩ = some (.slice (D k).a1 (D k).n1 (D k).c1) ∧ w'.cell? ⟨b, off + k * 3 + 2, none⟩ = some (.slice (D k).a2 (D k).n2 (D k).c2)) (first | exact hS2 | exact ⟨k0, k1, q0, q1, q2⟩) ((go_at_call 70; (with_reducible refine (sdealok _ (D k).f _ _ _ (D k).z1 _ _ _ (D k).z2 _ _ HRowd.out.i1 HRowd.out.i2 hn1 hn2).mono ?_); rintro e w5 ⟨rfl, hg2⟩; rw [hdl]; have Hg5 := Lib.hid (show wn.grownBy w5 none from ⟨hg2.os, hg2.tape, hg2.output, hg2.size, hg2.block⟩); have HG5 := Lib.hid (gtr Hgn.out Hg5.out); have HRow5 := Lib.hid (HRown.out.kept Hg5.out); have HI5 := Lib.hid (HIn.out.kept Hg5.out); have hK5 := HKn.out.kept Hg5.out; have eb := Hg5.out.block b hbn (by simp); have hS2 : w5.cell? ⟨w.heap.size, 0, none⟩ = some (.int .i64 need) ∧ w5.cell? ⟨w.heap.size, 1, none⟩ = some (.int .i64 many) ∧ w5.cell? ⟨b, off + k * 3, none⟩ = some (.int .i64 (D k).f) ∧ w5.cell? ⟨b, off + k * 3 + 1, none⟩ = some (.slice (D k).a1 (D k).n1 (D k).c1) ∧ w5.cell? ⟨b, off + k * 3 + 2, none⟩ = some (.slice (D k).a2 (D k).n2 (D k).c2) := ⟨hK5.c0, hK5.c1, (World.cell?_of_block eb).trans q0, (World.cell?_of_block eb).trans q1, (World.cell?_of_block eb).trans q2⟩; clear hg2 hK5 eb))
                all_goals
                  obtain ⟨y0, y1, y2, y3, y4⟩ := hS2
                  cases hq : acc (cfz (D k).n1 (D k).z1 ((j : Int) + 1)) ((D k).z2 j) (shs A (D k).f ((j : Int) + 1) na) with
                  | none =>
                    have HR' := Lib.hid (HR.out.trans (ks_stop (ks_none HS.out hh hdl hq) (Nat.succ_le_of_lt hlt)))
                    go_wp2_with fail
                    refine (s12share _ (D k).f _ (D k).n1 _ (D k).z1 _ (D k).n2 _ (D k).z2 _ na _ A j HRow5.out.i1 HRow5.out.i2 HI5.out hn1 hl4 (by omega) (by omega) HCM.out HOK.out).mono ?_
                    rintro e w6 ⟨rfl, hg⟩
                    rw [hq]
                    simp only [accV]
                    have HG6 := Lib.hid (gtr HGd.out (gtr HG5.out hg)); clear hg
                    go_wp2
                    go_ret2
                    exact ⟨by rw [HR'.out]; rfl, HG6.out⟩
                  | some s =>
                    have HS' := Lib.hid (ks_add HS.out hh hdl hq)
                    go_wp2_with fail
                    refine (s12share _ (D k).f _ (D k).n1 _ (D k).z1 _ (D k).n2 _ (D k).z2 _ na _ A j HRow5.out.i1 HRow5.out.i2 HI5.out hn1 hl4 (by omega) (by omega) HCM.out HOK.out).mono ?_
                    rintro e w6 ⟨rfl, hg⟩
                    rw [hq]
                    simp only [accV]
                    have HG6 := Lib.hid (gtr HG5.out hg); clear hg
                    go_wp2_with fail
                    refine (ssum _ _ _).mono ?_
                    rintro e w' ⟨rfl, rfl⟩
                    go_wp2
                    go_roundw
                    case rel => exact ⟨k + 1, _, by omega, by go_num, rfl, HS'.out, HG6.out⟩
                    case measure => simp [intOf]; omega
          · obtain rfl : k = nd := by omega
            have HR' := Lib.hid (HR.out.trans HS.out)
            go_wp2
            go_ret2
            exact ⟨by rw [HR'.out]; rfl, gtr HGd.out HGr.out⟩
end Mp
end Go.Proofs.Ytchgjdbmianajaa
/-
  The words of the exact laws that take a slice of deals: its size, the deals anew, whether two such read alike.
-/

namespace Go.Proofs.Ytchgjdbmianajaa
namespace Mp
open Go.RowKit Alg Mem Con Me
set_option linter.unusedVariables false

/-- The same deals at other addresses. -/
def re (D : Nat → DV) (B1 B2 : Nat → Nat) (j : Nat) : DV := { D j with a1 := some ⟨B1 j, 0, none⟩, c1 := (D j).n1, a2 := some ⟨B2 j, 0, none⟩, c2 := (D j).n2 }
theorem ds_re (D : Nat → DV) (B1 B2 : Nat → Nat) (n : Nat) : dsF (re D B1 B2) n = dsF D n := rfl
theorem ksF_re (ng : Nat) (zg : Nat → Int) (need many : Int) (D : Nat → DV) (B1 B2 : Nat → Nat) (na : Nat) (A : Nat → Ans) (m k : Nat) : ksF ng zg need many (re D B1 B2) na A m k = ksF ng zg need many D na A m k := by
  induction k with
  | zero => rfl
  | succ k ih => simp only [ksF, ih]; rfl
theorem ksh_re (need many : Int) (ng : Nat) (zg : Nat → Int) (nc : Nat) (zc : Nat → Int) (D : Nat → DV) (B1 B2 : Nat → Nat) (nd : Nat) (A : Nat → Ans) (na : Nat) (m : Int) : kshF need many ng zg nc zc (re D B1 B2) nd A na m = kshF need many ng zg nc zc D nd A na m := by
  unfold kshF; rw [ksF_re, ds_re]
theorem ints_keptO {w w' : World} {a : Option Addr} {len B : Nat} {z : Nat → Int} (h : Ints w a len z) (hg : w.grownBy w' (some B)) (hne : ∀ b off, a = some ⟨b, off, none⟩ → b ≠ B) : Ints w' a len z := by
  rcases h with h | ⟨b, off, ha, hl, hc⟩
  · exact .inl h
  · refine .inr ⟨b, off, ha, Nat.lt_of_lt_of_le hl hg.size, fun j hj => ?_⟩
    rw [World.cell?_of_block (w := w) (hg.block b hl (by intro e; injection e with e; exact hne b off ha e))]
    exact hc j hj
theorem und_dls : Try.prog.underlying 78 = some (.slice 91) := by kernel_rfl
theorem info_dl : (Try.prog.info? 91).map (fun i => (i.zero, i.size, i.bytes)) = some (some (.agg #[.int .i64 0, .slice none 0 0, .slice none 0 0]), 3, 56) := by kernel_rfl
def zDl : Tri := (.int .i64 0, .slice none 0 0, .slice none 0 0)
/-- Deals of the call's own. -/
def NewDls (w : World) (n : Nat) (D : Nat → DV) (e : Ending) (w' : World) : Prop :=
  ∃ (b : Nat) (B1 B2 : Nat → Nat), e = .returned (.slice (some ⟨b, 0, none⟩) n n) ∧ DealsIn w' (some ⟨b, 0, none⟩) n (re D B1 B2) ∧ w.grownBy w' none
def upd (B : Nat → Nat) (k b : Nat) (j : Nat) : Nat := if j = k then b else B j
theorem re_upd_old {D : Nat → DV} {B1 B2 : Nat → Nat} {k b1 b2 j : Nat} (h : j ≠ k) : re D (upd B1 k b1) (upd B2 k b2) j = re D B1 B2 j := by simp [re, upd, h]
theorem re_upd_new {D : Nat → DV} {B1 B2 : Nat → Nat} {k b1 b2 : Nat} : re D (upd B1 k b1) (upd B2 k b2) k = { D k with a1 := some ⟨b1, 0, none⟩, c1 := (D k).n1, a2 := some ⟨b2, 0, none⟩, c2 := (D k).n2 } := by simp [re, upd]
end Mp
end Go.Proofs.Ytchgjdbmianajaa
