/-
  Shares with their members: the program's own functions (which are valid, what the first of them tell, whose is wrong).
-/
import Derived.Test.YthjflmokfkcalaaSm
import Derived.Test.YthjflmokfkcalaaSb
namespace Go.Proofs.Ythjflmokfkcalaa
namespace Hd
open Go.RowKit Alg Mem Con Mp
set_option linter.unusedVariables false

/-- The member ahead. -/
def pv (H : Nat → HV) : Nat → Int
  | 0 => 0
  | k + 1 => (H k).m
theorem pv_low {H : Nat → HV} {k : Nat} (h : hkF H k = true) : 0 ≤ pv H k := by
  cases k with
  | zero => exact Int.le_refl _
  | succ k => have := (hk_at h (Nat.lt_succ_self k)).1.1; show 0 ≤ (H k).m; omega
theorem pv_bad {H : Nat → HV} {k : Nat} (h : hkF H k = true) (e : (H k).m ≤ pv H k) : hkE H k = false := by
  cases hd : hkE H k with
  | false => rfl
  | true =>
    obtain ⟨⟨h1, h2⟩, _, h3⟩ := hkE_iff.1 hd
    cases k with
    | zero => have : (H 0).m ≤ 0 := e; omega
    | succ k => have : (H (k + 1)).m ≤ (H k).m := e; simp at h3; omega
theorem pv_big {H : Nat → HV} {k : Nat} (e : 5 < (H k).m) : hkE H k = false := by
  cases hd : hkE H k with
  | false => rfl
  | true => have := (hkE_iff.1 hd).1; omega
theorem pv_fok {H : Nat → HV} {k : Nat} (e : fok (H k).s = false) : hkE H k = false := by
  cases hd : hkE H k with
  | false => rfl
  | true => have := (hkE_iff.1 hd).2.1; rw [e] at this; cases this
theorem pv_good {H : Nat → HV} {k : Nat} (h : hkF H k = true) (e : pv H k < (H k).m) (e5 : (H k).m ≤ 5) (hs : fok (H k).s = true) : hkE H k = true := by
  have h0 := pv_low h
  refine hkE_iff.2 ⟨⟨by omega, e5⟩, hs, ?_⟩
  cases k with
  | zero => exact .inl rfl
  | succ k => exact .inr e
set_option maxRecDepth 100000 in
set_option maxHeartbeats 4000000 in
theorem ihok (w : World) (a : Option Addr) (len cap : Nat) (H : Nat → HV) (hI : HldIn w a len H) (hl : len ≤ 2000000) :
    Calls Try.prog 12 #[.slice a len cap] w fun e w' => e = .returned (.bool (hkF H len)) ∧ w.grownBy w' none := by
  have HI := Lib.hid hI; clear hI
  go_enter Try.func12, Try.ntmps12
  go_wp2
  go_loopw [3, 8] (fun p i wr => ∃ k : Nat, k ≤ len ∧ p = .int .i64 (pv H k) ∧ i = .int .i64 k ∧ hkF H k = true ∧ w.grownBy wr none) (fun _ i _ => len - (intOf i).toNat)
  case atStart => exact ⟨0, by omega, rfl, rfl, rfl, Draw.grown_refl _ _⟩
  case round =>
    obtain ⟨k, hk, rfl, rfl, hz, hg⟩ := hrel
    have HZ := Lib.hid hz; have HG := Lib.hid hg; clear hz hg
    by_cases hlt : k < len
    · rcases HI.out.kept HG.out with h | ⟨b, off, rfl, hb, hcc⟩
      · omega
      obtain ⟨hc0, hc1⟩ := hcc k hlt
      clear hcc
      have HG1 := Lib.hid (gtr HG.out (Draw.grown_alloc wr (.cells #[.int .i64 (H k).m, .int .i64 (H k).s] 31) none))
      by_cases hle : (H k).m ≤ pv H k
      · have HR := Lib.hid (hk_no (H := H) hlt (pv_bad HZ.out hle))
        generalize pv H k = p at hle ⊢
        go_wp2
        go_ret
        exact ⟨Mem.ret_b HR.out.symm, ⟨HG1.out.os, HG1.out.tape, HG1.out.output, HG1.out.size, HG1.out.block⟩⟩
      · by_cases h5 : 5 < (H k).m
        · have HR := Lib.hid (hk_no (H := H) hlt (pv_big h5))
          generalize pv H k = p at hle ⊢
          go_wp2
          go_ret
          exact ⟨Mem.ret_b HR.out.symm, ⟨HG1.out.os, HG1.out.tape, HG1.out.output, HG1.out.size, HG1.out.block⟩⟩
        · cases hs : fok (H k).s with
          | false =>
            have HR := Lib.hid (hk_no (H := H) hlt (pv_fok hs))
            have HS := Lib.hid hs
            clear hs
            generalize pv H k = p at hle ⊢
            go_wp2_with fail
            refine (iok_no _ _ HS.out).mono ?_
            rintro e w' ⟨rfl, rfl⟩
            go_wp2
            go_ret
            exact ⟨Mem.ret_b HR.out.symm, ⟨HG1.out.os, HG1.out.tape, HG1.out.output, HG1.out.size, HG1.out.block⟩⟩
          | true =>
            have HZ1 := Lib.hid (hk_next HZ.out (pv_good HZ.out (by omega) (by omega) hs))
            have HS := Lib.hid hs
            clear hs
            generalize pv H k = p at hle ⊢
            go_wp2_with fail
            refine (iok_yes _ _ HS.out).mono ?_
            rintro e w' ⟨rfl, rfl⟩
            go_wp2
            go_roundw
            case rel => exact ⟨k + 1, by omega, rfl, by go_num, HZ1.out, ⟨HG1.out.os, HG1.out.tape, HG1.out.output, HG1.out.size, HG1.out.block⟩⟩
            case measure => simp [intOf]; omega
    · obtain rfl : k = len := by omega
      go_wp2
      go_ret
      exact ⟨Mem.ret_b HZ.out.symm, HG.out⟩
theorem ms_plok' {H : Nat → HV} {q : Nat} (hk : hkF H q = true) : plok q (ms H) = true :=
  plok_iff.2 ⟨hk_five hk, fun j hj => ⟨ms_fok hk j hj, hasz_no.2 fun i hi => ms_ne hk i j (by omega) hj (by omega)⟩⟩
theorem jn_next' {H : Nat → HV} {n k : Nat} (hs : fok (H k).s = true) : sumF (Pol.fi (jn H n k)) (mulF (zline n (ms H) 0 k) (H k).s) = Pol.fi (jn H n (k + 1)) := by
  have e : jn H n (k + 1) = jn H n k + Pol.lag (fl (ms H) n) k 0 * Pol.cv (H k).s := rfl
  rw [e, ← Pol.fi_sum, ← Pol.fi_mul, Pol.fi_cv hs]; rfl
set_option maxRecDepth 100000 in
set_option maxHeartbeats 4000000 in
theorem iso (w : World) (need : Int) (a : Option Addr) (len cap : Nat) (H : Nat → HV) (hI : HldIn w a len H) (hl : len ≤ 2000000) (hc : len ≤ cap) (hm : cap ≤ maxLen) :
    Calls Try.prog 11 #[.int .i64 need, .slice a len cap] w fun e w' => e = .returned (soV (soF need H len)) ∧ w.grownBy w' none := by
  have HI := Lib.hid hI; clear hI
  cases hk : hkF H len with
  | false =>
    have HR := Lib.hid (so_none (need := need) (.inl hk))
    go_enter Try.func11, Try.ntmps11
    go_wp2_with fail
    refine (ihok _ _ _ _ H HI.out hl).mono ?_
    rintro e w1 ⟨rfl, hg⟩
    rw [hk]
    have HG := Lib.hid hg; clear hg
    go_wp2
    go_ret2
    exact ⟨by rw [HR.out]; rfl, HG.out⟩
  | true =>
    by_cases n1 : need < 1
    · have HR := Lib.hid (so_none (H := H) (n := len) (need := need) (.inr (by omega)))
      go_enter Try.func11, Try.ntmps11
      go_wp2_with fail
      refine (ihok _ _ _ _ H HI.out hl).mono ?_
      rintro e w1 ⟨rfl, hg⟩
      rw [hk]
      have HG := Lib.hid hg; clear hg
      go_wp2
      go_ret2
      exact ⟨by rw [HR.out]; rfl, HG.out⟩
    · by_cases n2 : (len : Int) < need
      · have HR := Lib.hid (so_none (H := H) (n := len) (need := need) (.inr (by omega)))
        go_enter Try.func11, Try.ntmps11
        go_wp2_with fail
        refine (ihok _ _ _ _ H HI.out hl).mono ?_
        rintro e w1 ⟨rfl, hg⟩
        rw [hk]
        have HG := Lib.hid hg; clear hg
        go_wp2
        go_ret2
        exact ⟨by rw [HR.out]; rfl, HG.out⟩
      · obtain ⟨q, rfl⟩ : ∃ q : Nat, need = q := ⟨need.toNat, by omega⟩
        have hq1 : 1 ≤ q := by omega
        have hq2 : q ≤ len := by omega
        have HR := Lib.hid (so_some hk hq1 hq2)
        have HK := Lib.hid (hk_less hk hq2)
        have h5 := hk_five HK.out
        have hmk := run_make_row' (P := Try.prog) 29 3 (.int .i64 0) 8 und_ints info_int rfl .i64 .i64 q (by omega) (by omega)
        go_enter Try.func11, Try.ntmps11
        go_wp2_with fail
        refine (ihok _ _ _ _ H HI.out hl).mono ?_
        rintro e w1 ⟨rfl, hg⟩
        rw [hk]
        have HG := Lib.hid hg; clear hg
        have HI1 := Lib.hid ((HI.out.kept HG.out).less hq2)
        go_wp2
        go_loopw [28] (fun i wr => ∃ k : Nat, k ≤ q ∧ i = .int .i64 k ∧ Row wr w1.heap.size 3 w1.heap.size q q (fun j => if j < k then ms H j else 0) ∧ w1.grownBy wr none) (fun i _ => q - (intOf i).toNat)
        case atStart => exact ⟨0, by omega, rfl, first_row w1 _ _ (by unfold maxLen; omega) (ms H), Draw.grown_alloc _ _ _⟩
        case round =>
          clear hmk
          obtain ⟨k, hk, rfl, hr, hg⟩ := hrel
          have HG2 := Lib.hid hg; have HR2 := Lib.hid hr; clear hg hr
          by_cases hlt : k < q
          · rcases HI1.out.kept HG2.out with h | ⟨b, off, rfl, hb, hcc⟩
            · omega
            obtain ⟨hc0, _⟩ := hcc k hlt
            clear hcc
            have hkl : (k : Int) < (len : Int) := by omega
            have d0 := zero_row HR2.out hlt
            have f0 := HR2.out.frozen k
            have HR3 := Lib.hid (show Row (wr.setCell ⟨w1.heap.size, k, none⟩ (.int .i64 (H k).m)) w1.heap.size 3 w1.heap.size q q (fun j => if j < k + 1 then ms H j else 0) from step_row HR2.out)
            have HG3 := Lib.hid (grown_new HG2.out (Nat.le_refl _) (grown_set wr w1.heap.size k (.int .i64 (H k).m)))
            go_wp2
            go_roundw
            case rel => exact ⟨k + 1, by omega, by go_num, HR3.out, HG3.out⟩
            case measure => simp [intOf]; omega
          · obtain rfl : k = q := by omega
            have HRf := Lib.hid (full_row HR2.out)
            obtain ⟨w2, hW⟩ : ∃ W, W = wr := ⟨_, rfl⟩; subst hW
            go_wp2_with fail
            refine (ipline_yes _ _ k _ (ms H) 0 HRf.out.ints (Nat.le_refl _) (by unfold maxLen; omega) (ms_plok' HK.out) rfl).mono ?_
            rintro e w3 ⟨b3, rfl, hr3, hg3⟩
            have HR3 := Lib.hid hr3; have HG3 := Lib.hid (gtr HG2.out hg3)
            clear hr3 hg3
            go_wp2
            go_loopw [8, 43] (fun n i W => ∃ q : Nat, q ≤ k ∧ n = .int .i64 (Pol.fi (jn H k q)) ∧ i = .int .i64 q ∧ w3.grownBy W none) (fun _ i _ => k - (intOf i).toNat)
            case atStart => exact ⟨0, by omega, rfl, rfl, Draw.grown_refl _ _⟩
            case round =>
              obtain ⟨q, hq, rfl, rfl, hg⟩ := hrel
              have HGq := Lib.hid hg; clear hg
              by_cases hlt : q < k
              · have hlt' : (q : Int) < (len : Int) := by omega
                rcases HI1.out.kept (gtr HG3.out HGq.out) with h | ⟨b, off, rfl, hb, hcc⟩
                · omega
                obtain ⟨_, hc1⟩ := hcc q hlt
                clear hcc
                have hl3 := (HR3.out.keptN HGq.out).cell hlt
                have HE := Lib.hid (jn_next' (H := H) (n := k) (k := q) (hk_at HK.out hlt).2)
                go_wp2_with fail
                refine (imul _ _ _).mono ?_
                rintro e w' ⟨rfl, rfl⟩
                go_wp2_with fail
                refine (isum _ _ _).mono ?_
                rintro e w' ⟨rfl, rfl⟩
                go_wp2
                go_roundw
                case rel => exact ⟨q + 1, by omega, by rw [HE.out], by go_num, ⟨HGq.out.os, HGq.out.tape, HGq.out.output, HGq.out.size, HGq.out.block⟩⟩
                case measure => simp [intOf]; omega
              · obtain rfl : q = k := by omega
                go_wp2
                go_ret2
                exact ⟨by rw [HR.out]; rfl, gtr HG.out (gtr HG3.out HGq.out)⟩
set_option maxRecDepth 100000 in
set_option maxHeartbeats 4000000 in
theorem ibad (w : World) (need many : Int) (ag : Option Addr) (ng cg : Nat) (zg : Nat → Int) (ac : Option Addr) (nc cc : Nat) (zc : Nat → Int) (a : Option Addr) (len cap : Nat) (H : Nat → HV) (hA : Ints w ag ng zg) (hB : Ints w ac nc zc) (hI : HldIn w a len H) (hl1 : ng ≤ 2000000) (hl2 : nc ≤ 2000000) (hl : len ≤ 2000000) :
    Calls Try.prog 17 #[.agg #[.int .i64 need, .int .i64 many, .slice ag ng cg, .slice ac nc cc], .slice a len cap] w fun e w' => ∃ v, e = .returned v ∧ Lst w' w.heap.size v (sbF need many ng zg nc zc H len) ∧ w.grownBy w' none := by
  have hs0 : (w.alloc (.cells #[.int .i64 need, .int .i64 many, .slice ag ng cg, .slice ac nc cc] 36)).heap.size = w.heap.size + 1 := by show (w.heap.push _).size = _; simp
  have HG0 := Lib.hid (Draw.grown_alloc w (.cells #[.int .i64 need, .int .i64 many, .slice ag ng cg, .slice ac nc cc] 36) none)
  have HK0 := Lib.hid (Ky.new w need many (.slice ag ng cg) (.slice ac nc cc) 36)
  have HA := Lib.hid (hA.kept HG0.out); have HB := Lib.hid (hB.kept HG0.out); have HI := Lib.hid (hI.kept HG0.out)
  clear hA hB hI
  obtain ⟨_, k0, k1, k2, k3⟩ := HK0.out
  obtain ⟨i0, hi, hz0, hz1, hz2⟩ := info_parts info_int
  cases hk : kyF need many ng zg nc zc with
  | false =>
    have HR := Lib.hid (sb_none (H := H) (n := len) (.inl hk))
    go_enter Try.func17, Try.ntmps17
    go_wp2_with fail
    refine (ikeyok _ need many _ _ _ zg _ _ _ zc HA.out HB.out hl1 hl2).mono ?_
    rintro e w2 ⟨rfl, hg⟩
    rw [hk]
    have HG := Lib.hid (gtr HG0.out hg); clear hg
    go_wp2
    go_ret
    exact ⟨_, rfl, by rw [HR.out]; exact .inl ⟨rfl, rfl⟩, HG.out⟩
  | true =>
    cases hh : hkF H len with
    | false =>
      have HR := Lib.hid (sb_none (need := need) (many := many) (ng := ng) (zg := zg) (nc := nc) (zc := zc) (.inr hh))
      go_enter Try.func17, Try.ntmps17
      go_wp2_with fail
      refine (ikeyok _ need many _ _ _ zg _ _ _ zc HA.out HB.out hl1 hl2).mono ?_
      rintro e w2 ⟨rfl, hg⟩
      rw [hk]
      have HG := Lib.hid (gtr HG0.out hg); have HI2 := Lib.hid (HI.out.kept hg); clear hg
      go_wp2_with fail
      refine (ihok _ _ _ _ H HI2.out hl).mono ?_
      rintro e w3 ⟨rfl, hg⟩
      rw [hh]
      have HG3 := Lib.hid (gtr HG.out hg); clear hg
      go_wp2
      go_ret
      exact ⟨_, rfl, by rw [HR.out]; exact .inl ⟨rfl, rfl⟩, HG3.out⟩
    | true =>
      have HR := Lib.hid (sb_some hk hh)
      have HH := Lib.hid hh; have HKy := Lib.hid hk; have h5 := hk_five hh
      go_enter Try.func17, Try.ntmps17
      go_wp2_with fail
      refine (ikeyok _ need many _ _ _ zg _ _ _ zc HA.out HB.out hl1 hl2).mono ?_
      rintro e w2 ⟨rfl, hg⟩
      rw [hk]
      have HG := Lib.hid hg; have HI2 := Lib.hid (HI.out.kept hg); clear hg
      go_wp2_with fail
      refine (ihok _ _ _ _ H HI2.out hl).mono ?_
      rintro e w3 ⟨rfl, hg⟩
      rw [hh]
      have HG3 := Lib.hid (gtr HG.out hg); clear hg k0 k1 k2 k3 hk hh
      obtain ⟨w4, hW⟩ : ∃ W, W = w3 := ⟨_, rfl⟩; subst hW
      go_wp2
      go_loopw [5, 18] (fun v i W => ∃ k : Nat, k ≤ len ∧ i = .int .i64 k ∧ Lst W (w.alloc (.cells #[.int .i64 need, .int .i64 many, .slice ag ng cg, .slice ac nc cc] 36)).heap.size v (sbl many nc zc H k) ∧ (w.alloc (.cells #[.int .i64 need, .int .i64 many, .slice ag ng cg, .slice ac nc cc] 36)).grownBy W none) (fun _ i _ => len - (intOf i).toNat)
      case atStart => exact ⟨0, by omega, rfl, .inl ⟨rfl, rfl⟩, HG3.out⟩
      case round =>
        obtain ⟨k, hk, rfl, hL, hg⟩ := hrel
        have hll := sbl_len (many := many) (nc := nc) (zc := zc) (H := H) (k := k)
        by_cases hlt : k < len
        · have hlt' : (k : Int) < (len : Int) := by omega
          rcases HI.out.kept hg with h | ⟨b, off, rfl, hb, hcc⟩
          · omega
          obtain ⟨hc0, hc1⟩ := hcc k hlt
          clear hcc
          have hga := Draw.grown_alloc wr (.cells #[.int .i64 (H k).m, .int .i64 (H k).s] 31) none
          have HLr := Lib.hid (hL.kept hga); have HGr := Lib.hid (gtr hg hga)
          have HBl := Lib.hid (Blk.new wr #[.int .i64 (H k).m, .int .i64 (H k).s] 31)
          clear hL hg hga
          have HKr := Lib.hid (HK0.out.kept HGr.out)
          obtain ⟨_, k0, k1, k2, k3⟩ := HKr.out
          have hsr := HGr.out.size
          have HGd := Lib.hid (HA.out.kept HGr.out); have HCd := Lib.hid (HB.out.kept HGr.out)
          obtain ⟨av, cv, rfl, _, hlc, hlm⟩ := HLr.out.slice
          have HSE := Lib.hid (sbE_fit (k := k) HKy.out HH.out hlt)
          cases hcf : kfit need many ng zg nc zc (H k).m (H k).s with
          | true =>
            have HN := Lib.hid (sbl_no (many := many) (nc := nc) (zc := zc) (H := H) (k := k) (by rw [HSE.out, hcf]; rfl))
            have HF := Lib.hid hcf
            clear hcf
            go_wp2_with fail
            refine (ikeyfits _ need many _ _ _ zg _ _ _ zc _ _ HGd.out HCd.out hl1 hl2).mono ?_
            rintro e w6 ⟨rfl, hg⟩
            rw [HF.out]
            have Hg := Lib.hid hg; clear hg
            go_wp2
            go_roundw
            case rel => exact ⟨k + 1, by omega, by go_num, by rw [HN.out]; exact HLr.out.kept Hg.out, gtr HGr.out Hg.out⟩
            case measure => simp [intOf]; omega
          | false =>
            have HN := Lib.hid (sbl_yes (many := many) (nc := nc) (zc := zc) (H := H) (k := k) (by rw [HSE.out, hcf]; rfl))
            have HF := Lib.hid hcf
            clear hcf
            generalize hlq : sbl many nc zc H k = l at HLr HN hll hlc ⊢
            go_wp2_with fail
            refine (ikeyfits _ need many _ _ _ zg _ _ _ zc _ _ HGd.out HCd.out hl1 hl2).mono ?_
            rintro e w6 ⟨rfl, hg⟩
            rw [HF.out]
            have Hg := Lib.hid hg; have HLn := Lib.hid (HLr.out.kept hg); have HGn := Lib.hid (gtr HGr.out hg); have hb6 := HBl.out.keptN hg; have hsn := hg.size; clear hg
            have q0 : w6.cell? ⟨wr.heap.size, 0, none⟩ = some (.int .i64 (H k).m) := hb6.cell 0
            clear hb6 hc0 hc1 k0 k1 k2 k3
            go_wp2_with (at_builtin; refine wpList_append_own _ rfl _ _ 29 rfl (w.alloc (.cells #[.int .i64 need, .int .i64 many, .slice ag ng cg, .slice ac nc cc] 36)).heap.size 3 i0 (.int .i64 0) 1 8 und_ints hi hz0 hz1 hz2 rfl (by decide) _ l.length (vals (li l) l.length) rfl (HLn.out.alloc _).owns ⟨w6.heap.size, 0, none⟩ 1 1 [.int .i64 (H k).m] rfl rfl (cell_one_new _ _ _) (by simp [Value.oneCell']) (by unfold maxLen; omega) (by omega) (by simp; omega) ?_; intro v' w8 hown' hgrow _)
            have HL8 := Lib.hid (Lst.app hown'); have HG8 := Lib.hid (HLn.out.app_grown HGn.out hgrow)
            clear hown' hgrow
            go_wp2
            go_roundw
            case rel => exact ⟨k + 1, by omega, by go_num, by rw [HN.out]; exact HL8.out, HG8.out⟩
            case measure => simp [intOf]; omega
        · obtain rfl : k = len := by omega
          have HLr := Lib.hid hL; have HGr := Lib.hid hg; clear hL hg
          have hlt' : ¬ (k : Int) < (k : Int) := by omega
          go_wp2
          go_ret
          exact ⟨_, rfl, by rw [HR.out]; exact HLr.out.lower (by rw [hs0]; omega), gtr HG0.out HGr.out⟩
end Hd
end Go.Proofs.Ythjflmokfkcalaa
