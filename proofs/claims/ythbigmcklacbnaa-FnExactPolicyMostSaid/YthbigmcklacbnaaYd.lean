/-
  Policies: what the model's functions answer.
-/
import Derived.Test.YthbigmcklacbnaaYc
import Derived.Test.YthbigmcklacbnaaDa
namespace Go.Proofs.Ythbigmcklacbnaa
namespace Po
open Go.RowKit Alg Mem Con
set_option linter.unusedVariables false

theorem size_one {s : ByteArray} (h : s.size = 1) : ∃ x, s.toList = [x] := by
  have h2 : s.toList.length = 1 := by rw [Lib.toList_data]; exact h
  match e : s.toList, h2 with
  | [x], _ => exact ⟨x, rfl⟩
theorem run_sge {P : Program} (T : TypeId) (s t : ByteArray) (w : World) : (binOp .geq T (.string s) (.string t)).run P w = .ok (.bool !(Op.bytesLess s.toList t.toList)) w := rfl
theorem run_sle {P : Program} (T : TypeId) (s t : ByteArray) (w : World) : (binOp .leq T (.string s) (.string t)).run P w = .ok (.bool (Op.bytesLess s.toList t.toList || s.toList == t.toList)) w := rfl
theorem lit_a : (⟨#[97]⟩ : ByteArray).toList = [97] := by rw [Lib.toList_data]
theorem lit_c : (⟨#[99]⟩ : ByteArray).toList = [99] := by rw [Lib.toList_data]
theorem less_one (x y : UInt8) : Op.bytesLess [x] [y] = decide (x < y) := by simp [Op.bytesLess]
theorem isR_one {s : ByteArray} {x : UInt8} (h : s.toList = [x]) : isR s = (!decide (x < 97) && (decide (x < 99) || x == 99)) := by
  unfold isR
  rw [h]
  revert x
  intro x _
  have e7 : (97 : UInt8).toNat = 97 := rfl
  have e8 : (98 : UInt8).toNat = 98 := rfl
  have e9 : (99 : UInt8).toNat = 99 := rfl
  rw [Bool.eq_iff_iff]
  simp only [Bool.or_eq_true, Bool.and_eq_true, Bool.not_eq_true', decide_eq_false_iff_not, decide_eq_true_eq, beq_iff_eq, List.cons.injEq, and_true, UInt8.lt_iff_toNat_lt, ← UInt8.toNat_inj, e7, e8, e9]
  omega
theorem srole (s : ByteArray) (w : World) : Calls Try.prog 63 #[.string s] w fun e w' => e = .returned (.bool (isR s)) ∧ w = w' := by
  by_cases h1 : s.size = 1
  · obtain ⟨x, hx⟩ := size_one h1
    have hq := isR_one hx
    have q1 := run_sge (P := Try.prog) 9 s ⟨#[97]⟩ w
    have q2 := run_sle (P := Try.prog) 9 s ⟨#[99]⟩ w
    rw [lit_a, hx, less_one] at q1
    rw [lit_c, hx, less_one] at q2
    have e3 : ([x] == ([99] : List UInt8)) = (x == 99) := by simp
    rw [e3] at q2
    clear e3 hx
    rw [hq]; clear hq
    generalize decide (x < 97) = b1 at *
    generalize decide (x < 99) = b2 at *
    generalize (x == 99) = b3 at *
    cases b1 with
    | true =>
      simp only [Bool.not_true] at q1
      go_enter Try.func63, Try.ntmps63
      go_wp2
      go_ret
      exact ⟨rfl, rfl⟩
    | false =>
      simp only [Bool.not_false] at q1
      generalize hb : (b2 || b3) = b at *
      go_enter Try.func63, Try.ntmps63
      go_wp2
      go_ret
      exact ⟨Mem.ret_b (by cases b <;> simp), rfl⟩
  · have hq : isR s = false := by
      unfold isR
      have hl : ∀ y, ¬ s.toList = [y] := fun y e => h1 (by have := congrArg List.length e; rw [Lib.toList_data] at this; exact this)
      simp [hl]
    rw [hq]; clear hq
    have h2 : ((s.size : Int) == 1) = false := by simp; omega
    go_enter Try.func63, Try.ntmps63
    go_wp2
    go_ret
    exact ⟨rfl, rfl⟩
theorem srule (u : RV) (w : World) : Calls Try.prog 64 #[.agg #[.string u.r, .int .i64 u.many, .int .i64 u.most]] w fun e w' => e = .returned (.bool (ruE u)) ∧ w.grownBy w' none := by
  obtain ⟨r, many, most⟩ := u
  have HG := Lib.hid (Draw.grown_alloc w (.cells #[.string r, .int .i64 many, .int .i64 most] 39) none)
  cases hr : isR r with
  | false =>
    have e : ruE ⟨r, many, most⟩ = false := by unfold ruE; rw [hr]; rfl
    rw [e]; clear e
    have HR := Lib.hid hr; clear hr
    go_enter Try.func64, Try.ntmps64
    go_wp2_with (go_at_call 63; refine (srole _ _).mono ?_; rintro e w' ⟨rfl, rfl⟩; rw [HR.out])
    go_ret
    exact ⟨rfl, HG.out⟩
  | true =>
    have E : ruE ⟨r, many, most⟩ = decide (1 ≤ many ∧ many ≤ 6 ∧ 0 ≤ most ∧ most ≤ 99) := by unfold ruE; rw [hr]; rfl
    have HR := Lib.hid hr; clear hr
    by_cases h1 : 1 ≤ many ∧ many ≤ 6
    · by_cases h3 : 0 ≤ most ∧ most ≤ 99
      · have e : ruE ⟨r, many, most⟩ = true := by rw [E]; exact decide_eq_true ⟨h1.1, h1.2, h3⟩
        obtain ⟨h1, h2⟩ := h1
        obtain ⟨h3, h4⟩ := h3
        rw [e]; clear e E
        go_enter Try.func64, Try.ntmps64
        go_wp2_with (first | (go_at_call 63; refine (srole _ _).mono ?_; rintro e w' ⟨rfl, rfl⟩; rw [HR.out]) | (go_at_call 71; refine (s6in_yes _ _ _ _ (by assumption) (by assumption)).mono ?_; rintro e w' ⟨rfl, rfl⟩) | fail)
        go_ret
        exact ⟨rfl, HG.out⟩
      · have e : ruE ⟨r, many, most⟩ = false := by rw [E]; exact decide_eq_false fun h => h3 h.2.2
        obtain ⟨h1, h2⟩ := h1
        rw [e]; clear e E
        go_enter Try.func64, Try.ntmps64
        go_wp2_with (first | (go_at_call 63; refine (srole _ _).mono ?_; rintro e w' ⟨rfl, rfl⟩; rw [HR.out]) | (go_at_call 71; refine (s6in_yes _ _ _ _ (by assumption) (by assumption)).mono ?_; rintro e w' ⟨rfl, rfl⟩) | (go_at_call 71; refine (s6in_no _ _ _ _ (by assumption)).mono ?_; rintro e w' ⟨rfl, rfl⟩) | fail)
        go_ret
        exact ⟨rfl, HG.out⟩
    · have e : ruE ⟨r, many, most⟩ = false := by rw [E]; exact decide_eq_false fun h => h1 ⟨h.1, h.2.1⟩
      rw [e]; clear e E
      go_enter Try.func64, Try.ntmps64
      go_wp2_with (first | (go_at_call 63; refine (srole _ _).mono ?_; rintro e w' ⟨rfl, rfl⟩; rw [HR.out]) | (go_at_call 71; refine (s6in_no _ _ _ _ (by assumption)).mono ?_; rintro e w' ⟨rfl, rfl⟩) | fail)
      go_ret
      exact ⟨rfl, HG.out⟩
theorem sof (w : World) (a : Option Addr) (n c : Nat) (R : Nat → ByteArray) (who : Int) (hI : StrI w a n R) (hl : n ≤ 2000000) :
    Calls Try.prog 62 #[.slice a n c, .int .i64 who] w fun e w' => e = .returned (.string (roF n R who)) ∧ w = w' := by
  by_cases h : 1 ≤ who ∧ who ≤ (n : Int)
  · obtain ⟨h1, h2⟩ := h
    obtain ⟨i, rfl⟩ : ∃ i : Nat, who = (i : Int) + 1 := ⟨(who - 1).toNat, by omega⟩
    have hi : i < n := by omega
    have HP := Lib.hid (roF_in (R := R) hi)
    obtain ⟨b, off, rfl, hb, hc⟩ := hI.ptr (by omega)
    have c0 := hc i hi
    clear hI hc
    have hs : (i : Int) + 1 - 1 = (i : Int) := by omega
    go_enter Try.func62, Try.ntmps62
    go_wp2_with (go_at_call 71; refine (s6in_yes _ _ 1 _ h1 h2).mono ?_; rintro e w' ⟨rfl, rfl⟩)
    go_ret
    exact ⟨ret_s HP.out.symm, rfl⟩
  · have HP := Lib.hid (roF_out (R := R) h)
    clear hI
    go_enter Try.func62, Try.ntmps62
    go_wp2_with (go_at_call 71; refine (s6in_no _ _ 1 _ h).mono ?_; rintro e w' ⟨rfl, rfl⟩)
    go_ret
    exact ⟨ret_s HP.out.symm, rfl⟩
set_option maxHeartbeats 1000000 in
theorem spolok (w : World) (a : Option Addr) (n c : Nat) (R : Nat → ByteArray) (au : Option Addr) (m cu : Nat) (U : Nat → RV) (hI : StrI w a n R) (hU : RuI w au m U) (hl : n ≤ 2000000) (hm : m ≤ 2000000) :
    Calls Try.prog 23 #[.slice a n c, .slice au m cu] w fun e w' => e = .returned (.bool (plF n R m U)) ∧ w.grownBy w' none := by
  have HI := Lib.hid hI; have HU := Lib.hid hU; clear hI hU
  go_enter Try.func23, Try.ntmps23
  go_wp2
  go_loop [5] (fun i => ∃ k : Nat, k ≤ n ∧ i = .int .i64 k ∧ roA R k = true) (fun i => n - (intOf i).toNat)
  case atStart => exact ⟨0, by omega, rfl, rfl⟩
  case round =>
    obtain ⟨k, hk, rfl, hz⟩ := hrel
    have HZ := Lib.hid hz; clear hz
    by_cases hlt : k < n
    · obtain ⟨b, off, rfl, hb, hc⟩ := HI.out.ptr (by omega)
      have hcx := hc k hlt
      clear hc
      cases hf : isR (R k) with
      | false =>
        have HR := Lib.hid (show plF n R m U = false by unfold plF plR; rw [roA_no hlt hf]; simp)
        have HF := Lib.hid hf; clear hf
        go_wp2_with (go_at_call 63; refine (srole _ _).mono ?_; rintro e w' ⟨rfl, rfl⟩; rw [HF.out])
        go_ret
        exact ⟨Mem.ret_b HR.out.symm, Draw.grown_refl _ _⟩
      | true =>
        have HR := Lib.hid (roA_next HZ.out hf)
        have HF := Lib.hid hf; clear hf
        go_wp2_with (go_at_call 63; refine (srole _ _).mono ?_; rintro e w' ⟨rfl, rfl⟩; rw [HF.out])
        go_round
        case rel => exact ⟨k + 1, by omega, by go_num, HR.out⟩
        case measure => simp [intOf]; omega
    · obtain rfl : k = n := by omega
      go_wp2
      go_loopw [6] (fun i wr => ∃ j : Nat, j ≤ m ∧ i = .int .i64 j ∧ ruA U j = true ∧ w.grownBy wr none) (fun i _ => m - (intOf i).toNat)
      case atStart => exact ⟨0, by omega, rfl, rfl, Draw.grown_refl _ _⟩
      case round =>
        obtain ⟨j, hj, rfl, hz, hg⟩ := hrel
        have HY := Lib.hid hz; have G := Lib.hid hg
        clear hz hg
        by_cases hlj : j < m
        · obtain ⟨b, off, rfl, hb, hc⟩ := (HU.out.kept G.out).ptr (by omega)
          obtain ⟨c0, c1, c2⟩ := hc j hlj
          clear hc
          obtain ⟨ru, hu⟩ : ∃ u, U j = u := ⟨_, rfl⟩
          rw [hu] at c0 c1 c2
          have HW := Lib.hid hu; clear hu
          cases hf : ruE ru with
          | false =>
            have HR := Lib.hid (show plF k R m U = false by unfold plF; rw [ruA_no (U := U) hlj (by rw [HW.out]; exact hf)]; simp)
            have HF := Lib.hid hf; clear hf
            go_wp2_with (go_at_call 64; refine (srule ru _).mono ?_; rintro e w2 ⟨rfl, hg2⟩; rw [HF.out]; have G2 := Lib.hid (gtr G.out hg2); clear hg2)
            go_ret
            exact ⟨Mem.ret_b HR.out.symm, G2.out⟩
          | true =>
            have HR := Lib.hid (ruA_next HY.out (by rw [HW.out]; exact hf))
            have HF := Lib.hid hf; clear hf
            go_wp2_with (go_at_call 64; refine (srule ru _).mono ?_; rintro e w2 ⟨rfl, hg2⟩; rw [HF.out]; have G2 := Lib.hid (gtr G.out hg2); clear hg2)
            go_roundw
            case rel => exact ⟨j + 1, by omega, by go_num, HR.out, G2.out⟩
            case measure => simp [intOf]; omega
        · obtain rfl : j = m := by omega
          have HP := Lib.hid (show plF k R j U = (decide (k ≤ 6) && decide (j ≤ 4)) by unfold plF plR; rw [HZ.out, HY.out]; simp)
          by_cases h6 : k ≤ 6
          · have h6' : (k : Int) ≤ 6 := by omega
            by_cases h4 : j ≤ 4
            · have h4' : (j : Int) ≤ 4 := by omega
              go_wp2
              go_ret
              exact ⟨Mem.ret_b (by rw [HP.out]; simp [h6, h4]), G.out⟩
            · have h4' : ¬ (j : Int) ≤ 4 := by omega
              go_wp2
              go_ret
              exact ⟨Mem.ret_b (by rw [HP.out]; simp [h6, h4]), G.out⟩
          · have h6' : ¬ (k : Int) ≤ 6 := by omega
            go_wp2
            go_ret
            exact ⟨Mem.ret_b (by rw [HP.out]; simp [h6]), G.out⟩
theorem sprole (w : World) (a : Option Addr) (n c : Nat) (R : Nat → ByteArray) (who : Int) (hI : StrI w a n R) (hl : n ≤ 2000000) :
    Calls Try.prog 22 #[.slice a n c, .int .i64 who] w fun e w' => e = .returned (.string (prF n R who)) ∧ w.grownBy w' none := by
  have HI := Lib.hid hI; clear hI
  have HP := Lib.hid (plF_zero (n := n) (R := R) (U := fun _ => ⟨noS, 0, 0⟩))
  go_enter Try.func22, Try.ntmps22
  go_wp2_with fail
  refine (spolok _ a n c R none 0 0 (fun _ => ⟨noS, 0, 0⟩) HI.out (.inl rfl) hl (by omega)).mono ?_
  rintro e w1 ⟨rfl, hg⟩
  have G := Lib.hid hg; clear hg
  rw [HP.out]
  cases hr : plR n R with
  | false =>
    have HQ := Lib.hid (show prF n R who = noS by unfold prF; rw [hr]; rfl); clear hr
    go_wp2
    go_ret
    exact ⟨ret_s HQ.out.symm, G.out⟩
  | true =>
    have HQ := Lib.hid (show prF n R who = roF n R who by unfold prF; rw [hr]; rfl); clear hr
    go_wp2_with fail
    refine (sof _ a n c R who (HI.out.kept G.out) hl).mono ?_
    rintro e w' ⟨rfl, rfl⟩
    go_wp2
    go_ret
    exact ⟨ret_s HQ.out.symm, G.out⟩
end Po
end Go.Proofs.Ythbigmcklacbnaa
