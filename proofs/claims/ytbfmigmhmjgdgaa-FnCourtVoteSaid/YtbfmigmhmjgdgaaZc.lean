/-
  Courts: what the program's functions answer.
-/
import Derived.Test.YtbfmigmhmjgdgaaZb
namespace Go.Proofs.Ytbfmigmhmjgdgaa
namespace Ct
open Go.RowKit Alg Mem Con Draw
set_option linter.unusedVariables false

set_option maxRecDepth 100000 in
set_option maxHeartbeats 1000000 in
theorem iguard (w : World) (many : Int) (v1 v2 v3 v4 v5 : Value) (who : Int) :
    Calls Try.prog 52 #[.agg #[.int .i64 many, v1, v2, v3, v4, v5], .int .i64 who] w fun e w' => e = .returned (.bool (mgF many who)) ∧ w.grownBy w' none := by
  have G := Lib.hid (grown_alloc w (.cells #[.int .i64 many, v1, v2, v3, v4, v5] 27) none)
  have K := Lib.hid (Blk.new w #[.int .i64 many, v1, v2, v3, v4, v5] 27)
  have k0 := K.out.cell 0
  by_cases h1 : 1 ≤ who
  · by_cases h2 : who ≤ many
    · have HP := Lib.hid (mgF_iff.2 ⟨h1, h2⟩)
      go_enter Try.func52, Try.ntmps52
      go_wp2
      go_ret
      exact ⟨Mem.ret_b HP.out.symm, G.out⟩
    · have HP := Lib.hid (mgF_no (many := many) (m := who) (by omega))
      go_enter Try.func52, Try.ntmps52
      go_wp2
      go_ret
      exact ⟨Mem.ret_b HP.out.symm, G.out⟩
  · have HP := Lib.hid (mgF_no (many := many) (m := who) (by omega))
    go_enter Try.func52, Try.ntmps52
    go_wp2
    go_ret
    exact ⟨Mem.ret_b HP.out.symm, G.out⟩
set_option maxRecDepth 100000 in
set_option maxHeartbeats 1000000 in
theorem iall_gd (w : World) (a : Option Addr) (len cap : Nat) (z : Nat → Int) (many : Int) (v1 v2 v3 v4 v5 : Value) (hI : Ints w a len z) (hl : len ≤ 2000000) :
    Calls Try.prog 62 #[.slice a len cap, .func (.func 52) #[.agg #[.int .i64 many, v1, v2, v3, v4, v5]] #[]] w fun e w' => e = .returned (.bool (mgz many z len)) ∧ w.grownBy w' none := by
  have HI := Lib.hid hI; clear hI
  go_enter Try.func62, Try.ntmps62
  go_wp2
  go_loopw [9] (fun i wr => ∃ k : Nat, k ≤ len ∧ i = .int .i64 k ∧ mgz many z k = true ∧ w.grownBy wr none) (fun i _ => len - (intOf i).toNat)
  case atStart => exact ⟨0, by omega, rfl, rfl, grown_refl _ _⟩
  case round =>
    obtain ⟨k, hk, rfl, hz, hg⟩ := hrel
    have HZ := Lib.hid hz; have G := Lib.hid hg
    by_cases hlt : k < len
    · rcases HI.out.kept hg with h | ⟨b, off, rfl, hb, hc⟩
      · omega
      have hcx := hc k hlt
      clear hc hz hg
      cases hf : mgF many (z k) with
      | false =>
        have HR := Lib.hid (mgz_no hlt hf)
        have HF := Lib.hid hf; clear hf
        go_wp2_with (go_at_call 52; refine (iguard _ many v1 v2 v3 v4 v5 _).mono ?_; rintro e w' ⟨rfl, hg⟩; rw [HF.out]; have G2 := Lib.hid (gtr G.out hg); clear hg)
        go_ret
        exact ⟨Mem.ret_b HR.out.symm, G2.out⟩
      | true =>
        have HR := Lib.hid (mgz_next HZ.out hf)
        have HF := Lib.hid hf; clear hf
        go_wp2_with (go_at_call 52; refine (iguard _ many v1 v2 v3 v4 v5 _).mono ?_; rintro e w' ⟨rfl, hg⟩; rw [HF.out]; have G2 := Lib.hid (gtr G.out hg); clear hg)
        go_roundw
        case rel => exact ⟨k + 1, by omega, by go_num, HR.out, G2.out⟩
        case measure => simp [intOf]; omega
    · obtain rfl : k = len := by omega
      clear hz hg
      go_wp2
      go_ret
      exact ⟨Mem.ret_b HZ.out.symm, G.out⟩
set_option maxRecDepth 100000 in
set_option maxHeartbeats 1000000 in
theorem idist (w : World) (a : Option Addr) (len cap : Nat) (z : Nat → Int) (hI : Ints w a len z) (hl : len ≤ 2000000) (hc : len ≤ cap) (hm : cap ≤ maxLen) :
    Calls Try.prog 63 #[.slice a len cap] w fun e w' => e = .returned (.bool (dsz z len)) ∧ w = w' := by
  unfold maxLen at hm
  have HI := Lib.hid hI; clear hI
  go_enter Try.func63, Try.ntmps63
  go_wp2
  go_loop [7] (fun i => ∃ k : Nat, k ≤ len ∧ i = .int .i64 k ∧ dsz z k = true) (fun i => len - (intOf i).toNat)
  case atStart => exact ⟨0, by omega, rfl, rfl⟩
  case round =>
    obtain ⟨k, hk, rfl, hz⟩ := hrel
    have HZ := Lib.hid hz; clear hz
    by_cases hlt : k < len
    · have HJ := Lib.hid (HI.out.less (Nat.le_of_lt hlt))
      rcases HI.out with h | ⟨b, off, rfl, hb, hc'⟩
      · omega
      have hcx := hc' k hlt
      clear hc'
      cases hh : hasz z (z k) k with
      | true =>
        have HR := Lib.hid (dsz_no hlt hh)
        have HH := Lib.hid hh; clear hh
        go_wp2_with (go_at_call 72; refine (contains_any _ _ _ _ z (z k) HJ.out (by omega)).mono ?_; rintro e w' ⟨rfl, rfl⟩; rw [HH.out])
        go_ret
        exact ⟨Mem.ret_b HR.out.symm, rfl⟩
      | false =>
        have HR := Lib.hid (dsz_next HZ.out hh)
        have HH := Lib.hid hh; clear hh
        go_wp2_with (go_at_call 72; refine (contains_any _ _ _ _ z (z k) HJ.out (by omega)).mono ?_; rintro e w' ⟨rfl, rfl⟩; rw [HH.out])
        go_round
        case rel => exact ⟨k + 1, by omega, by go_num, HR.out⟩
        case measure => simp [intOf]; omega
    · obtain rfl : k = len := by omega
      go_wp2
      go_ret
      exact ⟨Mem.ret_b HZ.out.symm, rfl⟩
set_option maxRecDepth 100000 in
set_option maxHeartbeats 1000000 in
theorem ispok (w : World) (many : Int) (v1 v2 v3 v5 : Value) (a : Option Addr) (n c : Nat) (f : Nat → Int) (h1 : v1.oneCell' = true) (h2 : v2.oneCell' = true) (h3 : v3.oneCell' = true) (h5 : v5.oneCell' = true) (hI : Ints w a n f) (hl : n ≤ 2000000) (hc : n ≤ c) (hm : c ≤ maxLen) :
    Calls Try.prog 50 #[.agg #[.int .i64 many, v1, v2, v3, .slice a n c, v5]] w fun e w' => e = .returned (.bool (spF many f n)) ∧ w.grownBy w' none := by
  have G := Lib.hid (grown_alloc w (.cells #[.int .i64 many, v1, v2, v3, .slice a n c, v5] 27) none)
  have K := Lib.hid (Blk.new w #[.int .i64 many, v1, v2, v3, .slice a n c, v5] 27)
  have I := Lib.hid (hI.kept G.out); clear hI
  obtain ⟨k0, k1, k2, k3, k4, k5, f0, f1, f2, f3, f4, f5⟩ := c6_of K.out
  go_enter Try.func50, Try.ntmps50
  go_wp2_with fail
  refine (iall_gd _ a n c f many v1 v2 v3 _ v5 I.out hl).mono ?_
  rintro e w1 ⟨rfl, hg⟩
  clear k0 k1 k2 k3 k4 k5 f0 f1 f2 f3 f4 f5
  replace G := Lib.hid (gtr G.out hg)
  replace K := Lib.hid (K.out.keptN hg)
  replace I := Lib.hid (I.out.kept hg)
  clear hg
  obtain ⟨k0, k1, k2, k3, k4, k5, f0, f1, f2, f3, f4, f5⟩ := c6_of K.out
  cases h : mgz many f n with
  | false =>
    have HP := Lib.hid (show spF many f n = false by unfold spF; rw [h]; rfl); clear h
    go_wp2
    go_ret
    exact ⟨Mem.ret_b HP.out.symm, G.out⟩
  | true =>
    have HP := Lib.hid (show spF many f n = dsz f n by unfold spF; rw [h]; rfl); clear h
    go_wp2_with fail
    refine (idist _ a n c f I.out hl hc hm).mono ?_
    rintro e w2 ⟨rfl, rfl⟩
    go_wp2
    go_ret
    exact ⟨Mem.ret_b HP.out.symm, G.out⟩
set_option maxRecDepth 100000 in
set_option maxHeartbeats 1000000 in
theorem itime (w : World) (x : Int) :
    Calls Try.prog 45 #[.int .i64 x] w fun e w' => e = .returned (.bool (tmF x)) ∧ w = w' := by
  by_cases h1 : 0 ≤ x
  · by_cases h2 : x ≤ 99
    · have HP := Lib.hid (tmF_iff.2 ⟨h1, h2⟩)
      go_enter Try.func45, Try.ntmps45
      go_wp2
      go_ret
      exact ⟨Mem.ret_b HP.out.symm, rfl⟩
    · have HP := Lib.hid (tmF_no (x := x) (by omega))
      go_enter Try.func45, Try.ntmps45
      go_wp2
      go_ret
      exact ⟨Mem.ret_b HP.out.symm, rfl⟩
  · have HP := Lib.hid (tmF_no (x := x) (by omega))
    go_enter Try.func45, Try.ntmps45
    go_wp2
    go_ret
    exact ⟨Mem.ret_b HP.out.symm, rfl⟩
set_option maxRecDepth 100000 in
set_option maxHeartbeats 1000000 in
theorem inone (w : World) (at_ : Int) (a : Option Addr) (n c : Nat) (veto : Bool) :
    Calls Try.prog 51 #[.agg #[.int .i64 at_, .slice a n c, .bool veto]] w fun e w' => e = .returned (.bool (ncF at_ n veto)) ∧ w.grownBy w' none := by
  have G := Lib.hid (grown_alloc w (.cells #[.int .i64 at_, .slice a n c, .bool veto] 25) none)
  have K := Lib.hid (Blk.new w #[.int .i64 at_, .slice a n c, .bool veto] 25)
  obtain ⟨k0, k1, k2, f0, f1, f2⟩ := K.out.all
  by_cases h1 : at_ = 0
  · have e1 : (at_ == 0) = true := by simpa using h1
    by_cases h2 : n = 0
    · have e2 : ((n : Int) == 0) = true := by simpa using h2
      have HP := Lib.hid (show ncF at_ n veto = !veto by unfold ncF; rw [e1, h2]; rfl)
      clear h1 h2
      go_enter Try.func51, Try.ntmps51
      go_wp2
      go_ret
      exact ⟨Mem.ret_b (by rw [HP.out]), G.out⟩
    · have e2 : ((n : Int) == 0) = false := by simpa using h2
      have HP := Lib.hid (show ncF at_ n veto = false by unfold ncF; rw [show (n == 0) = false by simpa using h2]; simp)
      clear h1 h2
      go_enter Try.func51, Try.ntmps51
      go_wp2
      go_ret
      exact ⟨Mem.ret_b HP.out.symm, G.out⟩
  · have e1 : (at_ == 0) = false := by simpa using h1
    have HP := Lib.hid (show ncF at_ n veto = false by unfold ncF; rw [e1]; rfl)
    clear h1
    go_enter Try.func51, Try.ntmps51
    go_wp2
    go_ret
    exact ⟨Mem.ret_b HP.out.symm, G.out⟩
set_option maxRecDepth 100000 in
set_option maxHeartbeats 1000000 in
theorem ictok (w : World) (many need : Int) (on : Bool) (at_ : Int) (a : Option Addr) (n c : Nat) (f : Nat → Int) (veto : Bool) (hI : Ints w a n f) (hl : n ≤ 2000000) (hc : n ≤ c) (hm : c ≤ maxLen) :
    Calls Try.prog 22 #[.agg #[.int .i64 many, .int .i64 need, .bool on, .int .i64 at_, .slice a n c, .bool veto]] w fun e w' => e = .returned (.bool (cokF ⟨many, need, on, at_, n, f, veto⟩)) ∧ w.grownBy w' none := by
  have G := Lib.hid (grown_alloc w (.cells #[.int .i64 many, .int .i64 need, .bool on, .int .i64 at_, .slice a n c, .bool veto] 27) none)
  have K := Lib.hid (Blk.new w #[.int .i64 many, .int .i64 need, .bool on, .int .i64 at_, .slice a n c, .bool veto] 27)
  have I := Lib.hid (hI.kept G.out); clear hI
  obtain ⟨k0, k1, k2, k3, k4, k5, f0, f1, f2, f3, f4, f5⟩ := c6_of K.out
  go_enter Try.func22, Try.ntmps22
  go_wp2_with fail
  refine (icrew _ need many).mono ?_
  rintro e w' ⟨rfl, rfl⟩
  have E : cokF ⟨many, need, on, at_, n, f, veto⟩ = (crewF need many && (tmF at_ && (spF many f n && (on || ncF at_ n veto)))) := rfl
  have HE := Lib.hid E; clear E
  cases h1 : crewF need many with
  | false =>
    have HP := Lib.hid (show cokF ⟨many, need, on, at_, n, f, veto⟩ = false by rw [HE.out, h1]; rfl); clear h1
    go_wp2
    go_ret
    exact ⟨Mem.ret_b HP.out.symm, G.out⟩
  | true =>
    have H1 := Lib.hid h1; clear h1
    go_wp2_with fail
    refine (itime _ at_).mono ?_
    rintro e w' ⟨rfl, rfl⟩
    cases h2 : tmF at_ with
    | false =>
      have HP := Lib.hid (show cokF ⟨many, need, on, at_, n, f, veto⟩ = false by rw [HE.out, h2]; simp); clear h2
      go_wp2
      go_ret
      exact ⟨Mem.ret_b HP.out.symm, G.out⟩
    | true =>
      have H2 := Lib.hid h2; clear h2
      go_wp2_with fail
      refine (ispok _ many _ _ _ _ a n c f rfl rfl rfl rfl I.out hl hc hm).mono ?_
      rintro e w1 ⟨rfl, hg⟩
      clear k0 k1 k2 k3 k4 k5 f0 f1 f2 f3 f4 f5
      replace G := Lib.hid (gtr G.out hg)
      replace K := Lib.hid (K.out.keptN hg)
      replace I := Lib.hid (I.out.kept hg)
      clear hg
      obtain ⟨k0, k1, k2, k3, k4, k5, f0, f1, f2, f3, f4, f5⟩ := c6_of K.out
      cases h3 : spF many f n with
      | false =>
        have HP := Lib.hid (show cokF ⟨many, need, on, at_, n, f, veto⟩ = false by rw [HE.out, h3]; simp); clear h3
        go_wp2
        go_ret
        exact ⟨Mem.ret_b HP.out.symm, G.out⟩
      | true =>
        have H3 := Lib.hid h3; clear h3
        cases on with
        | true =>
          have HP := Lib.hid (show cokF ⟨many, need, true, at_, n, f, veto⟩ = true by rw [HE.out, H1.out, H2.out, H3.out]; rfl)
          go_wp2
          go_ret
          exact ⟨Mem.ret_b HP.out.symm, G.out⟩
        | false =>
          have HP := Lib.hid (show cokF ⟨many, need, false, at_, n, f, veto⟩ = ncF at_ n veto by rw [HE.out, H1.out, H2.out, H3.out]; rfl)
          go_wp2_with fail
          refine (inone _ at_ a n c veto).mono ?_
          rintro e w2 ⟨rfl, hg⟩
          clear k0 k1 k2 k3 k4 k5 f0 f1 f2 f3 f4 f5
          replace G := Lib.hid (gtr G.out hg)
          clear hg
          go_wp2
          go_ret
          exact ⟨Mem.ret_b HP.out.symm, G.out⟩
set_option maxRecDepth 100000 in
set_option maxHeartbeats 1000000 in
theorem istands (w : World) (v0 v1 v3 v4 : Value) (on veto : Bool) :
    Calls Try.prog 53 #[.agg #[v0, v1, .bool on, v3, v4, .bool veto]] w fun e w' => e = .returned (.bool (stF on veto)) ∧ w.grownBy w' none := by
  have G := Lib.hid (grown_alloc w (.cells #[v0, v1, .bool on, v3, v4, .bool veto] 27) none)
  have K := Lib.hid (Blk.new w #[v0, v1, .bool on, v3, v4, .bool veto] 27)
  have k2 := K.out.cell 2; have k5 := K.out.cell 5
  cases on with
  | false =>
    go_enter Try.func53, Try.ntmps53
    go_wp2
    go_ret
    exact ⟨rfl, G.out⟩
  | true =>
    go_enter Try.func53, Try.ntmps53
    go_wp2
    go_ret
    exact ⟨by simp [stF], G.out⟩
end Ct
end Go.Proofs.Ytbfmigmhmjgdgaa
