/-
  Shares with their members: the program's own functions (which are valid, what the first of them tell, whose is wrong).
-/
import Derived.Test.YtchgjdbmianajaaSm
import Derived.Test.YtchgjdbmianajaaSb
namespace Go.Proofs.Ytchgjdbmianajaa
namespace Hd
open Go.RowKit Alg Mem Con Mp
set_option linter.unusedVariables false

/-- The member ahead. -/
def pv (H : Nat → HV) : Nat → Int
  | 0 => 0
  | k + 1 => (H k).m
theorem pv_low {H : Nat → HV} {k : Nat} (h : hkF H k = true) : 0 ≤ pv H k := by
  cases k with
  | zero => exact Int.le_refl _
  | succ k => have := (hk_at h (Nat.lt_succ_self k)).1.1; show 0 ≤ (H k).m; omega
theorem pv_bad {H : Nat → HV} {k : Nat} (h : hkF H k = true) (e : (H k).m ≤ pv H k) : hkE H k = false := by
  cases hd : hkE H k with
  | false => rfl
  | true =>
    obtain ⟨⟨h1, h2⟩, _, h3⟩ := hkE_iff.1 hd
    cases k with
    | zero => have : (H 0).m ≤ 0 := e; omega
    | succ k => have : (H (k + 1)).m ≤ (H k).m := e; simp at h3; omega
theorem pv_big {H : Nat → HV} {k : Nat} (e : 5 < (H k).m) : hkE H k = false := by
  cases hd : hkE H k with
  | false => rfl
  | true => have := (hkE_iff.1 hd).1; omega
theorem pv_fok {H : Nat → HV} {k : Nat} (e : fok (H k).s = false) : hkE H k = false := by
  cases hd : hkE H k with
  | false => rfl
  | true => have := (hkE_iff.1 hd).2.1; rw [e] at this; cases this
theorem pv_good {H : Nat → HV} {k : Nat} (h : hkF H k = true) (e : pv H k < (H k).m) (e5 : (H k).m ≤ 5) (hs : fok (H k).s = true) : hkE H k = true := by
  have h0 := pv_low h
  refine hkE_iff.2 ⟨⟨by omega, e5⟩, hs, ?_⟩
  cases k with
  | zero => exact .inl rfl
  | succ k => exact .inr e
set_option maxRecDepth 100000 in
set_option maxHeartbeats 4000000 in
theorem ihok (w : World) (a : Option Addr) (len cap : Nat) (H : Nat → HV) (hI : HldIn w a len H) (hl : len ≤ 2000000) :
    Calls Try.prog 21 #[.slice a len cap] w fun e w' => e = .returned (.bool (hkF H len)) ∧ w.grownBy w' none := by
  have HI := Lib.hid hI; clear hI
  go_enter Try.func21, Try.ntmps21
  go_wp2
  go_loopw [3, 8] (fun p i wr => ∃ k : Nat, k ≤ len ∧ p = .int .i64 (pv H k) ∧ i = .int .i64 k ∧ hkF H k = true ∧ w.grownBy wr none) (fun _ i _ => len - (intOf i).toNat)
  case atStart => exact ⟨0, by omega, rfl, rfl, rfl, Draw.grown_refl _ _⟩
  case round =>
    obtain ⟨k, hk, rfl, rfl, hz, hg⟩ := hrel
    have HZ := Lib.hid hz; have HG := Lib.hid hg; clear hz hg
    by_cases hlt : k < len
    · rcases HI.out.kept HG.out with h | ⟨b, off, rfl, hb, hcc⟩
      · omega
      obtain ⟨hc0, hc1⟩ := hcc k hlt
      clear hcc
      have HG1 := Lib.hid (gtr HG.out (Draw.grown_alloc wr (.cells #[.int .i64 (H k).m, .int .i64 (H k).s] 40) none))
      by_cases hle : (H k).m ≤ pv H k
      · have HR := Lib.hid (hk_no (H := H) hlt (pv_bad HZ.out hle))
        generalize pv H k = p at hle ⊢
        go_wp2
        go_ret
        exact ⟨Mem.ret_b HR.out.symm, ⟨HG1.out.os, HG1.out.tape, HG1.out.output, HG1.out.size, HG1.out.block⟩⟩
      · by_cases h5 : 5 < (H k).m
        · have HR := Lib.hid (hk_no (H := H) hlt (pv_big h5))
          generalize pv H k = p at hle ⊢
          go_wp2
          go_ret
          exact ⟨Mem.ret_b HR.out.symm, ⟨HG1.out.os, HG1.out.tape, HG1.out.output, HG1.out.size, HG1.out.block⟩⟩
        · cases hs : fok (H k).s with
          | false =>
            have HR := Lib.hid (hk_no (H := H) hlt (pv_fok hs))
            have HS := Lib.hid hs
            clear hs
            generalize pv H k = p at hle ⊢
            go_wp2_with fail
            refine (iok_no _ _ HS.out).mono ?_
            rintro e w' ⟨rfl, rfl⟩
            go_wp2
            go_ret
            exact ⟨Mem.ret_b HR.out.symm, ⟨HG1.out.os, HG1.out.tape, HG1.out.output, HG1.out.size, HG1.out.block⟩⟩
          | true =>
            have HZ1 := Lib.hid (hk_next HZ.out (pv_good HZ.out (by omega) (by omega) hs))
            have HS := Lib.hid hs
            clear hs
            generalize pv H k = p at hle ⊢
            go_wp2_with fail
            refine (iok_yes _ _ HS.out).mono ?_
            rintro e w' ⟨rfl, rfl⟩
            go_wp2
            go_roundw
            case rel => exact ⟨k + 1, by omega, rfl, by go_num, HZ1.out, ⟨HG1.out.os, HG1.out.tape, HG1.out.output, HG1.out.size, HG1.out.block⟩⟩
            case measure => simp [intOf]; omega
    · obtain rfl : k = len := by omega
      go_wp2
      go_ret
      exact ⟨Mem.ret_b HZ.out.symm, HG.out⟩
theorem ms_plok' {H : Nat → HV} {q : Nat} (hk : hkF H q = true) : plok q (ms H) = true :=
  plok_iff.2 ⟨hk_five hk, fun j hj => ⟨ms_fok hk j hj, hasz_no.2 fun i hi => ms_ne hk i j (by omega) hj (by omega)⟩⟩
theorem jn_next' {H : Nat → HV} {n k : Nat} (hs : fok (H k).s = true) : sumF (Pol.fi (jn H n k)) (mulF (zline n (ms H) 0 k) (H k).s) = Pol.fi (jn H n (k + 1)) := by
  have e : jn H n (k + 1) = jn H n k + Pol.lag (fl (ms H) n) k 0 * Pol.cv (H k).s := rfl
  rw [e, ← Pol.fi_sum, ← Pol.fi_mul, Pol.fi_cv hs]; rfl
set_option maxRecDepth 100000 in
set_option maxHeartbeats 4000000 in
theorem iso (w : World) (need : Int) (a : Option Addr) (len cap : Nat) (H : Nat → HV) (hI : HldIn w a len H) (hl : len ≤ 2000000) (hc : len ≤ cap) (hm : cap ≤ maxLen) :
    Calls Try.prog 20 #[.int .i64 need, .slice a len cap] w fun e w' => e = .returned (soV (soF need H len)) ∧ w.grownBy w' none := by
  have HI := Lib.hid hI; clear hI
  cases hk : hkF H len with
  | false =>
    have HR := Lib.hid (so_none (need := need) (.inl hk))
    go_enter Try.func20, Try.ntmps20
    go_wp2_with fail
    refine (ihok _ _ _ _ H HI.out hl).mono ?_
    rintro e w1 ⟨rfl, hg⟩
    rw [hk]
    have HG := Lib.hid hg; clear hg
    go_wp2
    go_ret2
    exact ⟨by rw [HR.out]; rfl, HG.out⟩
  | true =>
    by_cases n1 : need < 1
    · have HR := Lib.hid (so_none (H := H) (n := len) (need := need) (.inr (by omega)))
      go_enter Try.func20, Try.ntmps20
      go_wp2_with fail
      refine (ihok _ _ _ _ H HI.out hl).mono ?_
      rintro e w1 ⟨rfl, hg⟩
      rw [hk]
      have HG := Lib.hid hg; clear hg
      go_wp2
      go_ret2
      exact ⟨by rw [HR.out]; rfl, HG.out⟩
    · by_cases n2 : (len : Int) < need
      · have HR := Lib.hid (so_none (H := H) (n := len) (need := need) (.inr (by omega)))
        go_enter Try.func20, Try.ntmps20
        go_wp2_with fail
        refine (ihok _ _ _ _ H HI.out hl).mono ?_
        rintro e w1 ⟨rfl, hg⟩
        rw [hk]
        have HG := Lib.hid hg; clear hg
        go_wp2
        go_ret2
        exact ⟨by rw [HR.out]; rfl, HG.out⟩
      · obtain ⟨q, rfl⟩ : ∃ q : Nat, need = q := ⟨need.toNat, by omega⟩
        have hq1 : 1 ≤ q := by omega
        have hq2 : q ≤ len := by omega
        have HR := Lib.hid (so_some hk hq1 hq2)
        have HK := Lib.hid (hk_less hk hq2)
        have h5 := hk_five HK.out
        have hmk := run_make_row' (P := Try.prog) 23 3 (.int .i64 0) 8 und_ints info_int rfl .i64 .i64 q (by omega) (by omega)
        go_enter Try.func20, Try.ntmps20
        go_wp2_with fail
        refine (ihok _ _ _ _ H HI.out hl).mono ?_
        rintro e w1 ⟨rfl, hg⟩
        rw [hk]
        have HG := Lib.hid hg; clear hg
        have HI1 := Lib.hid ((HI.out.kept HG.out).less hq2)
        go_wp2
        go_loopw [28] (fun i wr => ∃ k : Nat, k ≤ q ∧ i = .int .i64 k ∧ Row wr w1.heap.size 3 w1.heap.size q q (fun j => if j < k then ms H j else 0) ∧ w1.grownBy wr none) (fun i _ => q - (intOf i).toNat)
        case atStart => exact ⟨0, by omega, rfl, first_row w1 _ _ (by unfold maxLen; omega) (ms H), Draw.grown_alloc _ _ _⟩
        case round =>
          clear hmk
          obtain ⟨k, hk, rfl, hr, hg⟩ := hrel
          have HG2 := Lib.hid hg; have HR2 := Lib.hid hr; clear hg hr
          by_cases hlt : k < q
          · rcases HI1.out.kept HG2.out with h | ⟨b, off, rfl, hb, hcc⟩
            · omega
            obtain ⟨hc0, _⟩ := hcc k hlt
            clear hcc
            have hkl : (k : Int) < (len : Int) := by omega
            have d0 := zero_row HR2.out hlt
            have f0 := HR2.out.frozen k
            have HR3 := Lib.hid (show Row (wr.setCell ⟨w1.heap.size, k, none⟩ (.int .i64 (H k).m)) w1.heap.size 3 w1.heap.size q q (fun j => if j < k + 1 then ms H j else 0) from step_row HR2.out)
            have HG3 := Lib.hid (grown_new HG2.out (Nat.le_refl _) (grown_set wr w1.heap.size k (.int .i64 (H k).m)))
            go_wp2
            go_roundw
            case rel => exact ⟨k + 1, by omega, by go_num, HR3.out, HG3.out⟩
            case measure => simp [intOf]; omega
          · obtain rfl : k = q := by omega
            have HRf := Lib.hid (full_row HR2.out)
            obtain ⟨w2, hW⟩ : ∃ W, W = wr := ⟨_, rfl⟩; subst hW
            go_wp2_with fail
            refine (ipline_yes _ _ k _ (ms H) 0 HRf.out.ints (Nat.le_refl _) (by unfold maxLen; omega) (ms_plok' HK.out) rfl).mono ?_
            rintro e w3 ⟨b3, rfl, hr3, hg3⟩
            have HR3 := Lib.hid hr3; have HG3 := Lib.hid (gtr HG2.out hg3)
            clear hr3 hg3
            go_wp2
            go_loopw [8, 43] (fun n i W => ∃ q : Nat, q ≤ k ∧ n = .int .i64 (Pol.fi (jn H k q)) ∧ i = .int .i64 q ∧ w3.grownBy W none) (fun _ i _ => k - (intOf i).toNat)
            case atStart => exact ⟨0, by omega, rfl, rfl, Draw.grown_refl _ _⟩
            case round =>
              obtain ⟨q, hq, rfl, rfl, hg⟩ := hrel
              have HGq := Lib.hid hg; clear hg
              by_cases hlt : q < k
              · have hlt' : (q : Int) < (len : Int) := by omega
                rcases HI1.out.kept (gtr HG3.out HGq.out) with h | ⟨b, off, rfl, hb, hcc⟩
                · omega
                obtain ⟨_, hc1⟩ := hcc q hlt
                clear hcc
                have hl3 := (HR3.out.keptN HGq.out).cell hlt
                have HE := Lib.hid (jn_next' (H := H) (n := k) (k := q) (hk_at HK.out hlt).2)
                go_wp2_with fail
                refine (imul _ _ _).mono ?_
                rintro e w' ⟨rfl, rfl⟩
                go_wp2_with fail
                refine (isum _ _ _).mono ?_
                rintro e w' ⟨rfl, rfl⟩
                go_wp2
                go_roundw
                case rel => exact ⟨q + 1, by omega, by rw [HE.out], by go_num, ⟨HGq.out.os, HGq.out.tape, HGq.out.output, HGq.out.size, HGq.out.block⟩⟩
                case measure => simp [intOf]; omega
              · obtain rfl : q = k := by omega
                go_wp2
                go_ret2
                exact ⟨by rw [HR.out]; rfl, gtr HG.out (gtr HG3.out HGq.out)⟩
end Hd
end Go.Proofs.Ytchgjdbmianajaa
