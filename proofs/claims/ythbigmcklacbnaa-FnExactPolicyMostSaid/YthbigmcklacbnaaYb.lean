/-
  Policies: what the program's functions answer.
-/
import Derived.Test.YthbigmcklacbnaaYa
import Derived.Test.YthbigmcklacbnaaDo
namespace Go.Proofs.Ythbigmcklacbnaa
namespace Po
open Go.RowKit Alg Mem Con
set_option linter.unusedVariables false

theorem gdr (w : World) : w.grownBy w.drew none := ⟨rfl, rfl, rfl, Nat.le_refl _, fun _ _ _ => rfl⟩
theorem irole (s : ByteArray) (w : World) : Calls Try.prog 67 #[.string s] w fun e w' => e = .returned (.bool (isR s)) ∧ w = w' := by
  by_cases h1 : s.toList = [97]
  · have hr : isR s = true := by unfold isR; rw [h1]; rfl
    rw [hr]; clear hr
    go_enter Try.func67, Try.ntmps67
    go_wp2
    go_ret
    exact ⟨rfl, rfl⟩
  · by_cases h2 : s.toList = [98]
    · have hr : isR s = true := by unfold isR; rw [h2]; rfl
      rw [hr]; clear hr
      go_enter Try.func67, Try.ntmps67
      go_wp2
      go_ret
      exact ⟨rfl, rfl⟩
    · by_cases h3 : s.toList = [99]
      · have hr : isR s = true := by unfold isR; rw [h3]; rfl
        rw [hr]; clear hr
        go_enter Try.func67, Try.ntmps67
        go_wp2
        go_ret
        exact ⟨rfl, rfl⟩
      · have hr : isR s = false := by simp [isR, h1, h2, h3]
        rw [hr]; clear hr
        go_enter Try.func67, Try.ntmps67
        go_wp2
        go_ret
        exact ⟨Mem.ret_b (by simp [h1, h2, h3]), rfl⟩
theorem iall_r (w : World) (a : Option Addr) (len cap : Nat) (R : Nat → ByteArray) (hI : StrI w a len R) (hl : len ≤ 2000000) :
    Calls Try.prog 96 #[.slice a len cap, .func (.func 67) #[] #[]] w fun e w' => e = .returned (.bool (roA R len)) ∧ w = w' := by
  go_enter Try.func96, Try.ntmps96
  go_wp2
  go_loop [9] (fun i => ∃ k : Nat, k ≤ len ∧ i = .int .i64 k ∧ roA R k = true) (fun i => len - (intOf i).toNat)
  case atStart => exact ⟨0, by omega, rfl, rfl⟩
  case round =>
    obtain ⟨k, hk, rfl, hz⟩ := hrel
    have HZ := Lib.hid hz; clear hz
    by_cases hlt : k < len
    · rcases hI with h | ⟨b, off, rfl, hb, hc⟩
      · omega
      have hcx := hc k hlt
      clear hc
      cases hf : isR (R k) with
      | false =>
        have HR := Lib.hid (roA_no hlt hf)
        have HF := Lib.hid hf; clear hf
        go_wp2_with (go_at_call 67; refine (irole _ _).mono ?_; rintro e w' ⟨rfl, rfl⟩; rw [HF.out])
        go_ret
        exact ⟨Mem.ret_b HR.out.symm, rfl⟩
      | true =>
        have HR := Lib.hid (roA_next HZ.out hf)
        have HF := Lib.hid hf; clear hf
        go_wp2_with (go_at_call 67; refine (irole _ _).mono ?_; rintro e w' ⟨rfl, rfl⟩; rw [HF.out])
        go_round
        case rel => exact ⟨k + 1, by omega, by go_num, HR.out⟩
        case measure => simp [intOf]; omega
    · obtain rfl : k = len := by omega
      clear hI
      go_wp2
      go_ret
      exact ⟨Mem.ret_b HZ.out.symm, rfl⟩
theorem iroles (w : World) (a : Option Addr) (len cap : Nat) (R : Nat → ByteArray) (hI : StrI w a len R) (hl : len ≤ 2000000) :
    Calls Try.prog 61 #[.slice a len cap] w fun e w' => e = .returned (.bool (plR len R)) ∧ w = w' := by
  by_cases h6 : len ≤ 6
  · have h6' : (len : Int) ≤ 6 := by omega
    have HP := Lib.hid (plR_in (R := R) h6)
    have HI := Lib.hid hI; clear hI
    go_enter Try.func61, Try.ntmps61
    go_wp2_with fail
    refine (iall_r _ a len cap R HI.out hl).mono ?_
    rintro e w' ⟨rfl, rfl⟩
    cases hr : roA R len
    all_goals
      have HR := Lib.hid hr; clear hr
      go_wp2
      go_ret
      exact ⟨Mem.ret_b (by rw [HP.out, HR.out]), rfl⟩
  · have h6' : ¬ (len : Int) ≤ 6 := by omega
    have HP := Lib.hid (plR_out (R := R) h6)
    clear hI
    go_enter Try.func61, Try.ntmps61
    go_wp2
    go_ret
    exact ⟨Mem.ret_b HP.out.symm, rfl⟩
def amF (n : Int) : Bool := decide (0 ≤ n ∧ n ≤ 99)
theorem iamount (n : Int) (w : World) : Calls Try.prog 70 #[.int .i64 n] w fun e w' => e = .returned (.bool (amF n)) ∧ w = w' := by
  by_cases h1 : 0 ≤ n
  · by_cases h2 : n ≤ 99
    · have e : amF n = true := decide_eq_true ⟨h1, h2⟩
      rw [e]; clear e
      go_enter Try.func70, Try.ntmps70
      go_wp2
      go_ret
      exact ⟨rfl, rfl⟩
    · have e : amF n = false := decide_eq_false fun h => h2 h.2
      rw [e]; clear e
      go_enter Try.func70, Try.ntmps70
      go_wp2
      go_ret
      exact ⟨rfl, rfl⟩
  · have e : amF n = false := decide_eq_false fun h => h1 h.1
    rw [e]; clear e
    go_enter Try.func70, Try.ntmps70
    go_wp2
    go_ret
    exact ⟨rfl, rfl⟩
theorem irule (u : RV) (w : World) : Calls Try.prog 76 #[.agg #[.string u.r, .int .i64 u.many, .int .i64 u.most]] w fun e w' => e = .returned (.bool (ruE u)) ∧ w.grownBy w' none := by
  obtain ⟨r, many, most⟩ := u
  have HG := Lib.hid (Draw.grown_alloc w (.cells #[.string r, .int .i64 many, .int .i64 most] 39) none)
  cases hr : isR r with
  | false =>
    have e : ruE ⟨r, many, most⟩ = false := by unfold ruE; rw [hr]; rfl
    rw [e]; clear e
    have HR := Lib.hid hr; clear hr
    go_enter Try.func76, Try.ntmps76
    go_wp2_with (go_at_call 67; refine (irole _ _).mono ?_; rintro e w' ⟨rfl, rfl⟩; rw [HR.out])
    go_ret
    exact ⟨rfl, HG.out⟩
  | true =>
    have E : ruE ⟨r, many, most⟩ = decide (1 ≤ many ∧ many ≤ 6 ∧ 0 ≤ most ∧ most ≤ 99) := by unfold ruE; rw [hr]; rfl
    have HR := Lib.hid hr; clear hr
    by_cases h1 : 1 ≤ many
    · by_cases h2 : many ≤ 6
      · cases h3 : amF most with
        | true =>
          have e : ruE ⟨r, many, most⟩ = true := by rw [E]; exact decide_eq_true ⟨h1, h2, of_decide_eq_true h3⟩
          rw [e]; clear e E
          have HM := Lib.hid h3; clear h3
          go_enter Try.func76, Try.ntmps76
          go_wp2_with (first
            | (go_at_call 67; refine (irole _ _).mono ?_; rintro e w' ⟨rfl, rfl⟩; rw [HR.out])
            | (go_at_call 70; refine (iamount _ _).mono ?_; rintro e w' ⟨rfl, rfl⟩; rw [HM.out]))
          go_ret
          exact ⟨rfl, HG.out⟩
        | false =>
          have e : ruE ⟨r, many, most⟩ = false := by rw [E]; exact decide_eq_false fun h => of_decide_eq_false h3 h.2.2
          rw [e]; clear e E
          have HM := Lib.hid h3; clear h3
          go_enter Try.func76, Try.ntmps76
          go_wp2_with (first
            | (go_at_call 67; refine (irole _ _).mono ?_; rintro e w' ⟨rfl, rfl⟩; rw [HR.out])
            | (go_at_call 70; refine (iamount _ _).mono ?_; rintro e w' ⟨rfl, rfl⟩; rw [HM.out]))
          go_ret
          exact ⟨rfl, HG.out⟩
      · have e : ruE ⟨r, many, most⟩ = false := by rw [E]; exact decide_eq_false fun h => h2 h.2.1
        rw [e]; clear e E
        go_enter Try.func76, Try.ntmps76
        go_wp2_with (go_at_call 67; refine (irole _ _).mono ?_; rintro e w' ⟨rfl, rfl⟩; rw [HR.out])
        go_ret
        exact ⟨rfl, HG.out⟩
    · have e : ruE ⟨r, many, most⟩ = false := by rw [E]; exact decide_eq_false fun h => h1 h.1
      rw [e]; clear e E
      go_enter Try.func76, Try.ntmps76
      go_wp2_with (go_at_call 67; refine (irole _ _).mono ?_; rintro e w' ⟨rfl, rfl⟩; rw [HR.out])
      go_ret
      exact ⟨rfl, HG.out⟩
theorem iall_u (w : World) (a : Option Addr) (len cap : Nat) (U : Nat → RV) (hI : RuI w a len U) (hl : len ≤ 2000000) :
    Calls Try.prog 75 #[.slice a len cap, .func (.func 76) #[] #[]] w fun e w' => e = .returned (.bool (ruA U len)) ∧ w.grownBy w' none := by
  have HI := Lib.hid hI; clear hI
  go_enter Try.func75, Try.ntmps75
  go_wp2
  go_loopw [9] (fun i wr => ∃ k : Nat, k ≤ len ∧ i = .int .i64 k ∧ ruA U k = true ∧ w.grownBy wr none) (fun i _ => len - (intOf i).toNat)
  case atStart => exact ⟨0, by omega, rfl, rfl, Draw.grown_refl _ _⟩
  case round =>
    obtain ⟨k, hk, rfl, hz, hg⟩ := hrel
    have HZ := Lib.hid hz; have G := Lib.hid hg
    clear hz hg
    by_cases hlt : k < len
    · obtain ⟨b, off, rfl, hb, hc⟩ := (HI.out.kept G.out).ptr (by omega)
      obtain ⟨c0, c1, c2⟩ := hc k hlt
      clear hc
      obtain ⟨ru, hu⟩ : ∃ u, U k = u := ⟨_, rfl⟩
      rw [hu] at c0 c1 c2
      have HU := Lib.hid hu; clear hu
      cases hf : ruE ru with
      | false =>
        have HR := Lib.hid (ruA_no (U := U) hlt (by rw [HU.out]; exact hf))
        have HF := Lib.hid hf; clear hf
        go_wp2_with (go_at_call 76; refine (irule ru _).mono ?_; rintro e w2 ⟨rfl, hg2⟩; rw [HF.out]; have G2 := Lib.hid (gtr (gtr G.out (Draw.grown_alloc _ _ none)) hg2); clear hg2)
        go_ret
        exact ⟨Mem.ret_b HR.out.symm, G2.out⟩
      | true =>
        have HR := Lib.hid (ruA_next HZ.out (by rw [HU.out]; exact hf))
        have HF := Lib.hid hf; clear hf
        go_wp2_with (go_at_call 76; refine (irule ru _).mono ?_; rintro e w2 ⟨rfl, hg2⟩; rw [HF.out]; have G2 := Lib.hid (gtr (gtr G.out (Draw.grown_alloc _ _ none)) hg2); clear hg2)
        go_roundw
        case rel => exact ⟨k + 1, by omega, by go_num, HR.out, G2.out⟩
        case measure => simp [intOf]; omega
    · obtain rfl : k = len := by omega
      go_wp2
      go_ret
      exact ⟨Mem.ret_b HZ.out.symm, G.out⟩
theorem ipolok (w : World) (a : Option Addr) (n c : Nat) (R : Nat → ByteArray) (au : Option Addr) (m cu : Nat) (U : Nat → RV) (hI : StrI w a n R) (hU : RuI w au m U) (hl : n ≤ 2000000) (hm : m ≤ 2000000) :
    Calls Try.prog 35 #[.slice a n c, .slice au m cu] w fun e w' => e = .returned (.bool (plF n R m U)) ∧ w.grownBy w' none := by
  have HI := Lib.hid hI; have HU := Lib.hid hU; clear hI hU
  go_enter Try.func35, Try.ntmps35
  go_wp2_with fail
  refine (iroles _ a n c R HI.out hl).mono ?_
  rintro e w' ⟨rfl, rfl⟩
  cases hr : plR n R with
  | false =>
    have HP := Lib.hid (show plF n R m U = false by unfold plF; rw [hr]; rfl); clear hr
    go_wp2
    go_ret
    exact ⟨Mem.ret_b HP.out.symm, Draw.grown_refl _ _⟩
  | true =>
    by_cases h4 : m ≤ 4
    · have h4' : (m : Int) ≤ 4 := by omega
      have HP := Lib.hid (show plF n R m U = ruA U m by unfold plF; rw [hr, decide_eq_true h4]; rfl); clear hr
      go_wp2_with fail
      refine (iall_u _ au m cu U HU.out hm).mono ?_
      rintro e w1 ⟨rfl, hg⟩
      have G := Lib.hid hg; clear hg
      cases hq : ruA U m
      all_goals
        have HQ := Lib.hid hq; clear hq
        go_wp2
        go_ret
        exact ⟨Mem.ret_b (by rw [HP.out, HQ.out]), G.out⟩
    · have h4' : ¬ (m : Int) ≤ 4 := by omega
      have HP := Lib.hid (show plF n R m U = false by unfold plF; rw [hr, decide_eq_false h4]; rfl); clear hr
      go_wp2
      go_ret
      exact ⟨Mem.ret_b HP.out.symm, Draw.grown_refl _ _⟩
theorem ret_s {x y : ByteArray} (h : x = y) : Ending.returned (.string x) = .returned (.string y) := by rw [h]
theorem iprole (w : World) (a : Option Addr) (n c : Nat) (R : Nat → ByteArray) (who : Int) (hI : StrI w a n R) (hl : n ≤ 2000000) :
    Calls Try.prog 21 #[.slice a n c, .int .i64 who] w fun e w' => e = .returned (.string (prF n R who)) ∧ w = w' := by
  have HI := Lib.hid hI; clear hI
  cases hr : plR n R with
  | false =>
    have HR := Lib.hid hr; have HP := Lib.hid (show prF n R who = noS by unfold prF; rw [hr]; rfl); clear hr
    go_enter Try.func21, Try.ntmps21
    go_wp2_with (go_at_call 61; refine (iroles _ a n c R HI.out hl).mono ?_; rintro e w' ⟨rfl, rfl⟩; rw [HR.out])
    go_ret
    exact ⟨ret_s HP.out.symm, rfl⟩
  | true =>
    have HR := Lib.hid hr
    by_cases h1 : who < 1
    · have HP := Lib.hid (show prF n R who = noS by unfold prF; rw [hr]; exact roF_out (by omega)); clear hr
      go_enter Try.func21, Try.ntmps21
      go_wp2_with (go_at_call 61; refine (iroles _ a n c R HI.out hl).mono ?_; rintro e w' ⟨rfl, rfl⟩; rw [HR.out])
      go_ret
      exact ⟨ret_s HP.out.symm, rfl⟩
    · by_cases h2 : (n : Int) < who
      · have HP := Lib.hid (show prF n R who = noS by unfold prF; rw [hr]; exact roF_out (by omega)); clear hr
        go_enter Try.func21, Try.ntmps21
        go_wp2_with (go_at_call 61; refine (iroles _ a n c R HI.out hl).mono ?_; rintro e w' ⟨rfl, rfl⟩; rw [HR.out])
        go_ret
        exact ⟨ret_s HP.out.symm, rfl⟩
      · obtain ⟨i, rfl⟩ : ∃ i : Nat, who = (i : Int) + 1 := ⟨(who - 1).toNat, by omega⟩
        have hi : i < n := by omega
        have HP := Lib.hid (show prF n R ((i : Int) + 1) = R i by unfold prF; rw [hr]; exact roF_in hi); clear hr
        obtain ⟨b, off, rfl, hb, hc⟩ := HI.out.ptr (by omega)
        have c0 := hc i hi
        have HC := Lib.hid hc; clear hc
        have hs : (i : Int) + 1 - 1 = (i : Int) := by omega
        go_enter Try.func21, Try.ntmps21
        go_wp2_with (go_at_call 61; refine (iroles _ _ n c R HI.out hl).mono ?_; rintro e w' ⟨rfl, rfl⟩; rw [HR.out])
        go_ret
        exact ⟨ret_s HP.out.symm, rfl⟩
end Po
end Go.Proofs.Ythbigmcklacbnaa
