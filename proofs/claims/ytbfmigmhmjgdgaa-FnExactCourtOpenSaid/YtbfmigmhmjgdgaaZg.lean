/-
  Courts: what the model's functions answer.
-/
import Derived.Test.YtbfmigmhmjgdgaaZf
namespace Go.Proofs.Ytbfmigmhmjgdgaa
namespace Ct
open Go.RowKit Alg Mem Con Draw
set_option linter.unusedVariables false

theorem opV_no {C : CV} {now : Int} (h : (cokF C && tmF now) = false) : opV C now = zeroC := (opV_eq C now).trans (dsV_no h)
theorem opV_st {C : CV} {now : Int} (h : (cokF C && tmF now) = true) (h2 : stF C.on C.veto = true) : opV C now = C := (opV_eq C now).trans ((dsV_yes h).trans (opS_as h2))
theorem opV_nw {C : CV} {now : Int} (h : (cokF C && tmF now) = true) (h2 : stF C.on C.veto = false) : opV C now = newC C now := (opV_eq C now).trans ((dsV_yes h).trans (opS_new h2))
theorem opO_as (C : CV) (now : Int) : opO C now = (cokF C && tmF now && !stF C.on C.veto) := by unfold opO; rw [Bool.and_assoc]
theorem vtV_no {C : CV} {who : Int} (h : (cokF C && mgF C.many who) = false) : vtV C who = zeroC := (vtV_eq C who).trans (dsV_no h)
theorem vtV_as {C : CV} {who : Int} (h : (cokF C && mgF C.many who) = true) (h2 : vtA C who = false) : vtV C who = C := (vtV_eq C who).trans ((dsV_yes h).trans (vtS_as h2))
theorem vtV_nw {C : CV} {who : Int} (h : (cokF C && mgF C.many who) = true) (h2 : vtA C who = true) : vtV C who = addC C who := (vtV_eq C who).trans ((dsV_yes h).trans (vtS_new h2))
theorem vtO_as (C : CV) (who : Int) : vtO C who = (cokF C && mgF C.many who && vtA C who) := by unfold vtO vtA; rw [Bool.and_assoc]
theorem veV_no {C : CV} (h : cokF C = false) : veV C = zeroC := (veV_eq C).trans (dsV_no h)
theorem veV_as {C : CV} (h : cokF C = true) (h2 : stF C.on C.veto = false) : veV C = C := (veV_eq C).trans ((dsV_yes h).trans (veS_as h2))
theorem veV_nw {C : CV} (h : cokF C = true) (h2 : stF C.on C.veto = true) : veV C = endC C := (veV_eq C).trans ((dsV_yes h).trans (veS_new h2))
set_option maxRecDepth 100000 in
set_option maxHeartbeats 4000000 in
theorem s42copy (w : World) (many need : Int) (on : Bool) (at_ : Int) (a : Option Addr) (n c : Nat) (f : Nat → Int) (veto : Bool) (hI : Ints w a n f) (hl : n ≤ 2000000) :
    Calls Try.prog 44 #[.agg #[.int .i64 many, .int .i64 need, .bool on, .int .i64 at_, .slice a n c, .bool veto]] w (GotC w ⟨many, need, on, at_, n, f, veto⟩) := by
  have hs0 : ((w.alloc (.cells #[.int .i64 many, .int .i64 need, .bool on, .int .i64 at_, .slice a n c, .bool veto] 27)).alloc (.cells #[.int .i64 0, .int .i64 0, .bool false, .int .i64 0, .slice none 0 0, .bool false] 27)).heap.size = w.heap.size + 1 + 1 := by show ((w.heap.push _).push _).size = _; simp
  have HS := Lib.hid hs0; clear hs0
  have G := Lib.hid (gtr (grown_alloc w (.cells #[.int .i64 many, .int .i64 need, .bool on, .int .i64 at_, .slice a n c, .bool veto] 27) none) (grown_alloc _ (.cells #[.int .i64 0, .int .i64 0, .bool false, .int .i64 0, .slice none 0 0, .bool false] 27) none))
  have K := Lib.hid ((Blk.new w #[.int .i64 many, .int .i64 need, .bool on, .int .i64 at_, .slice a n c, .bool veto] 27).keptN (grown_alloc _ (.cells #[.int .i64 0, .int .i64 0, .bool false, .int .i64 0, .slice none 0 0, .bool false] 27) none))
  have R := Lib.hid (blk_new2 w (.cells #[.int .i64 many, .int .i64 need, .bool on, .int .i64 at_, .slice a n c, .bool veto] 27) #[.int .i64 0, .int .i64 0, .bool false, .int .i64 0, .slice none 0 0, .bool false] 27)
  have I := Lib.hid (hI.kept G.out)
  clear hI
  have he := (row_empty ((w.alloc (.cells #[.int .i64 many, .int .i64 need, .bool on, .int .i64 at_, .slice a n c, .bool veto] 27)).alloc (.cells #[.int .i64 0, .int .i64 0, .bool false, .int .i64 0, .slice none 0 0, .bool false] 27)) 3 f).owns
  rw [HS.out] at he
  have E1 := Lib.hid he
  have I2 := Lib.hid (I.out.kept (grown_alloc _ (.cells #[] 3) none))
  clear he I
  go_enter Try.func44, Try.ntmps44
  obtain ⟨k0, k1, k2, k3, k4, k5, f0, f1, f2, f3, f4, f5⟩ := c6_of K.out
  go_wp2_with (first
    | (at_builtin; refine wpList_append_wholeQ rfl (.tmp 3) (.tmp 6) rfl (w.heap.size + 1 + 1) (w.heap.size + 1 + 1) rfl E1.out a n c f rfl I2.out (ints_slQ I2.out) (by omega) (by rw [World.size_alloc, HS.out]; omega) ?_; intro b1 c1 w1 hO1 hg1; have hgN := grown_newR (B := w.heap.size + 1 + 1) (grown_alloc _ (.cells #[] 3) none) (by rw [HS.out]; exact Nat.le_refl _) hg1; have K2 := Lib.hid (K.out.keptN hgN); have R2 := Lib.hid (R.out.keptN hgN); have G2 := Lib.hid (gtr G.out hgN); have OW2 := Lib.hid (hO1.lower (lo' := w.heap.size) (by omega)); clear hgN hg1 hO1 k0 k1 k2 k3 k4 k5 f0 f1 f2 f3 f4 f5; obtain ⟨k0, k1, k2, k3, k4, k5, f0, f1, f2, f3, f4, f5⟩ := c6_of K2.out)
    | (refine wpList_store_atQ rfl 23 (.tmp 9) (.tmp 7) _ 4 _ _ _ #[.int .i64 many, .int .i64 need, .bool on, .int .i64 at_, .slice (some ⟨b1, 0, none⟩) n c1, .bool veto] 27 K2.out rfl rfl rfl rfl (Nat.le_of_ble_eq_true rfl) (by kernel_rfl) (by kernel_rfl) (by kernel_rfl) ?_; intro V hgV hRV; have R3 := Lib.hid (R2.out.kept hgV (by intro e; have e := Option.some.inj e; omega)); have G3 := Lib.hid (grown_new G2.out (by omega) hgV); have OW3 := Lib.hid (OW2.out.keptC K2.out (by decide) hgV); have K3 := Lib.hid hRV; clear hgV hRV k0 k1 k2 k3 k4 k5 f0 f1 f2 f3 f4 f5; obtain ⟨k0, k1, k2, k3, k4, k5, f0, f1, f2, f3, f4, f5⟩ := c6_of K3.out)
    | (refine wpList_store_atQ rfl 27 (.tmp 2) (.tmp 10) _ 0 _ _ _ #[.int .i64 many, .int .i64 need, .bool on, .int .i64 at_, .slice (some ⟨b1, 0, none⟩) n c1, .bool veto] 27 R3.out rfl rfl rfl rfl (Nat.le_of_ble_eq_true rfl) (by kernel_rfl) (by kernel_rfl) (by kernel_rfl) ?_; intro V4 hgV hRV; have HGV := Lib.hid hgV; have HRV := Lib.hid hRV; clear hgV hRV))
  (try simp only [Exit.inBlock, Exit.then])
  refine bodyPost_ret (ret_court rfl _ rfl HRV.out) rfl ?_
  exact ⟨_, _, rfl, OW3.out.keptC R3.out (by decide) HGV.out, grown_new G3.out (by omega) HGV.out⟩
set_option maxRecDepth 100000 in
set_option maxHeartbeats 4000000 in
theorem sopen (w : World) (many need : Int) (on : Bool) (at_ : Int) (a : Option Addr) (n c : Nat) (f : Nat → Int) (veto : Bool) (now : Int) (hI : Ints w a n f) (hl : n ≤ 2000000) (hc : n ≤ c) (hm : c ≤ maxLen) :
    Calls Try.prog 18 #[.agg #[.int .i64 many, .int .i64 need, .bool on, .int .i64 at_, .slice a n c, .bool veto], .int .i64 now] w (GotC2 w (opV ⟨many, need, on, at_, n, f, veto⟩ now) (opO ⟨many, need, on, at_, n, f, veto⟩ now)) := by
  have hs0 : ((w.alloc (.cells #[.int .i64 many, .int .i64 need, .bool on, .int .i64 at_, .slice a n c, .bool veto] 27)).alloc (.cells #[.int .i64 0, .int .i64 0, .bool false, .int .i64 0, .slice none 0 0, .bool false] 27)).heap.size = w.heap.size + 1 + 1 := by show ((w.heap.push _).push _).size = _; simp
  have HS := Lib.hid hs0; clear hs0
  have G := Lib.hid (gtr (grown_alloc w (.cells #[.int .i64 many, .int .i64 need, .bool on, .int .i64 at_, .slice a n c, .bool veto] 27) none) (grown_alloc _ (.cells #[.int .i64 0, .int .i64 0, .bool false, .int .i64 0, .slice none 0 0, .bool false] 27) none))
  have K := Lib.hid ((Blk.new w #[.int .i64 many, .int .i64 need, .bool on, .int .i64 at_, .slice a n c, .bool veto] 27).keptN (grown_alloc _ (.cells #[.int .i64 0, .int .i64 0, .bool false, .int .i64 0, .slice none 0 0, .bool false] 27) none))
  have R := Lib.hid (blk_new2 w (.cells #[.int .i64 many, .int .i64 need, .bool on, .int .i64 at_, .slice a n c, .bool veto] 27) #[.int .i64 0, .int .i64 0, .bool false, .int .i64 0, .slice none 0 0, .bool false] 27)
  have I := Lib.hid (hI.kept G.out)
  clear hI
  go_enter Try.func18, Try.ntmps18
  obtain ⟨k0, k1, k2, k3, k4, k5, f0, f1, f2, f3, f4, f5⟩ := c6_of K.out
  go_wp2_with fail
  refine (sctok _ many need on at_ a n c f veto I.out hl hc hm).mono ?_
  rintro e w1 ⟨rfl, hg⟩
  clear k0 k1 k2 k3 k4 k5 f0 f1 f2 f3 f4 f5
  have hs1 := hg.size
  replace G := Lib.hid (gtr G.out hg)
  replace K := Lib.hid (K.out.keptN hg)
  replace R := Lib.hid (R.out.keptN hg)
  replace I := Lib.hid (I.out.kept hg)
  rw [HS.out] at hs1
  clear hg HS
  obtain ⟨k0, k1, k2, k3, k4, k5, f0, f1, f2, f3, f4, f5⟩ := c6_of K.out
  cases hk : cokF ⟨many, need, on, at_, n, f, veto⟩ with
  | false =>
    have HV := Lib.hid (opV_no (C := ⟨many, need, on, at_, n, f, veto⟩) (now := now) (by rw [hk]; rfl))
    have HO := Lib.hid (show opO ⟨many, need, on, at_, n, f, veto⟩ now = false by rw [opO_as, hk]; rfl)
    clear hk
    go_wp2_with (first
      | (refine wpList_store_atQ rfl 27 (.tmp 4) (.tmp 14) _ 0 _ _ _ #[.int .i64 0, .int .i64 0, .bool false, .int .i64 0, .slice none 0 0, .bool false] 27 R.out rfl rfl rfl rfl (Nat.le_of_ble_eq_true rfl) (by kernel_rfl) (by kernel_rfl) (by kernel_rfl) ?_; intro V hgV hRV; have HGV := Lib.hid hgV; have HRV := Lib.hid hRV; clear hgV hRV))
    (try simp only [Exit.inBlock, Exit.then])
    refine bodyPost_ret (ret_court2 rfl _ rfl HRV.out) rfl ?_
    exact gotc2 ⟨_, _, rfl, OEQ.nil _ _ _, grown_new G.out (by omega) HGV.out⟩ HV.out HO.out
  | true =>
    have HK := Lib.hid hk; clear hk
    cases ht : tmF now with
    | false =>
      have HV := Lib.hid (opV_no (C := ⟨many, need, on, at_, n, f, veto⟩) (now := now) (by rw [ht]; simp))
      have HO := Lib.hid (show opO ⟨many, need, on, at_, n, f, veto⟩ now = false by rw [opO_as, ht]; simp)
      have HT := Lib.hid ht; clear ht
      go_wp2_with fail
      refine (s6in_as _ now 0 99 false HT.out.symm).mono ?_
      rintro e w' ⟨rfl, rfl⟩
      go_wp2_with (first
        | (refine wpList_store_atQ rfl 27 (.tmp 4) (.tmp 14) _ 0 _ _ _ #[.int .i64 0, .int .i64 0, .bool false, .int .i64 0, .slice none 0 0, .bool false] 27 R.out rfl rfl rfl rfl (Nat.le_of_ble_eq_true rfl) (by kernel_rfl) (by kernel_rfl) (by kernel_rfl) ?_; intro V hgV hRV; have HGV := Lib.hid hgV; have HRV := Lib.hid hRV; clear hgV hRV))
      (try simp only [Exit.inBlock, Exit.then])
      refine bodyPost_ret (ret_court2 rfl _ rfl HRV.out) rfl ?_
      exact gotc2 ⟨_, _, rfl, OEQ.nil _ _ _, grown_new G.out (by omega) HGV.out⟩ HV.out HO.out
    | true =>
      have HT := Lib.hid ht; clear ht
      go_wp2_with fail
      refine (s6in_as _ now 0 99 true HT.out.symm).mono ?_
      rintro e w' ⟨rfl, rfl⟩
      have HKT := Lib.hid (show (cokF ⟨many, need, on, at_, n, f, veto⟩ && tmF now) = true by rw [HK.out, HT.out]; rfl)
      cases on with
      | false =>
        have HV := Lib.hid (opV_nw HKT.out rfl)
        have HO := Lib.hid (show opO ⟨many, need, false, at_, n, f, veto⟩ now = true by rw [opO_as, HKT.out]; rfl)
        have he := (row_empty w1 3 f).owns
        have E1 := Lib.hid (he.alloc (.cells #[] 3)); clear he
        have R1 := Lib.hid (R.out.keptN (grown_alloc _ (.cells #[] 3) none))
        have G1 := Lib.hid (gtr G.out (grown_alloc _ (.cells #[] 3) none))
        have E2 := Lib.hid (row_empty w1 3 f).owns
        go_wp2_with (first
          | (refine wpList_store_atQ rfl 27 (.tmp 4) (.tmp 32) _ 0 _ _ _ #[.int .i64 many, .int .i64 need, .bool true, .int .i64 now, .slice (some ⟨w1.heap.size, 0, none⟩) 0 0, .bool false] 27 R1.out rfl rfl rfl rfl (Nat.le_of_ble_eq_true rfl) (by kernel_rfl) (by kernel_rfl) (by kernel_rfl) ?_; intro V hgV hRV; have HGV := Lib.hid hgV; have HRV := Lib.hid hRV; clear hgV hRV))
        (try simp only [Exit.inBlock, Exit.then])
        refine bodyPost_ret (ret_court2 rfl _ rfl HRV.out) rfl ?_
        have OW : OEQ (w1.alloc (.cells #[] 3)) w1.heap.size (some ⟨w1.heap.size, 0, none⟩) 0 0 f := E2.out
        exact gotc2 ⟨_, _, rfl, (OW.keptC R1.out (by decide) HGV.out).lower (by omega), grown_new G1.out (by omega) HGV.out⟩ HV.out HO.out
      | true =>
        cases veto with
        | true =>
          have HV := Lib.hid (opV_nw HKT.out rfl)
          have HO := Lib.hid (show opO ⟨many, need, true, at_, n, f, true⟩ now = true by rw [opO_as, HKT.out]; rfl)
          have he := (row_empty w1 3 f).owns
          have E1 := Lib.hid (he.alloc (.cells #[] 3)); clear he
          have R1 := Lib.hid (R.out.keptN (grown_alloc _ (.cells #[] 3) none))
          have G1 := Lib.hid (gtr G.out (grown_alloc _ (.cells #[] 3) none))
          have E2 := Lib.hid (row_empty w1 3 f).owns
          go_wp2_with (first
            | (refine wpList_store_atQ rfl 27 (.tmp 4) (.tmp 32) _ 0 _ _ _ #[.int .i64 many, .int .i64 need, .bool true, .int .i64 now, .slice (some ⟨w1.heap.size, 0, none⟩) 0 0, .bool false] 27 R1.out rfl rfl rfl rfl (Nat.le_of_ble_eq_true rfl) (by kernel_rfl) (by kernel_rfl) (by kernel_rfl) ?_; intro V hgV hRV; have HGV := Lib.hid hgV; have HRV := Lib.hid hRV; clear hgV hRV))
          (try simp only [Exit.inBlock, Exit.then])
          refine bodyPost_ret (ret_court2 rfl _ rfl HRV.out) rfl ?_
          have OW : OEQ (w1.alloc (.cells #[] 3)) w1.heap.size (some ⟨w1.heap.size, 0, none⟩) 0 0 f := E2.out
          exact gotc2 ⟨_, _, rfl, (OW.keptC R1.out (by decide) HGV.out).lower (by omega), grown_new G1.out (by omega) HGV.out⟩ HV.out HO.out
        | false =>
          have HV := Lib.hid (opV_st HKT.out rfl)
          have HO := Lib.hid (show opO ⟨many, need, true, at_, n, f, false⟩ now = false by rw [opO_as, HKT.out]; rfl)
          go_wp2_with fail
          refine (s42copy _ many need true at_ a n c f false I.out hl).mono ?_
          rintro e w2 ⟨a1, c1, rfl, hv, hg⟩
          clear k0 k1 k2 k3 k4 k5 f0 f1 f2 f3 f4 f5
          have OW := Lib.hid (hv.lower (lo' := w.heap.size) G.out.size)
          replace G := Lib.hid (gtr G.out hg)
          replace R := Lib.hid (R.out.keptN hg)
          clear hg hv K
          go_wp2_with (first
            | (refine wpList_store_atQ rfl 27 (.tmp 4) (.tmp 24) _ 0 _ _ _ #[.int .i64 many, .int .i64 need, .bool true, .int .i64 at_, .slice a1 n c1, .bool false] 27 R.out rfl rfl rfl rfl (Nat.le_of_ble_eq_true rfl) (by kernel_rfl) (by kernel_rfl) (by kernel_rfl) ?_; intro V hgV hRV; have HGV := Lib.hid hgV; have HRV := Lib.hid hRV; clear hgV hRV))
          (try simp only [Exit.inBlock, Exit.then])
          refine bodyPost_ret (ret_court2 rfl _ rfl HRV.out) rfl ?_
          exact gotc2 ⟨_, _, rfl, OW.out.keptC R.out (by decide) HGV.out, grown_new G.out (by omega) HGV.out⟩ HV.out HO.out
end Ct
end Go.Proofs.Ytbfmigmhmjgdgaa
