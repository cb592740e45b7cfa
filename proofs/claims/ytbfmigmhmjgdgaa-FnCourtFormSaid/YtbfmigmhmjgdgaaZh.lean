/-
  Courts: what the model's functions answer.
-/
import Derived.Test.YtbfmigmhmjgdgaaZg
namespace Go.Proofs.Ytbfmigmhmjgdgaa
namespace Ct
open Go.RowKit Alg Mem Con Draw
set_option linter.unusedVariables false

set_option maxRecDepth 100000 in
set_option maxHeartbeats 4000000 in
theorem svote (w : World) (many need : Int) (on : Bool) (at_ : Int) (a : Option Addr) (n c : Nat) (f : Nat → Int) (veto : Bool) (who : Int) (hI : Ints w a n f) (hl : n ≤ 2000000) (hc : n ≤ c) (hm : c ≤ maxLen) :
    Calls Try.prog 24 #[.agg #[.int .i64 many, .int .i64 need, .bool on, .int .i64 at_, .slice a n c, .bool veto], .int .i64 who] w (GotC2 w (vtV ⟨many, need, on, at_, n, f, veto⟩ who) (vtO ⟨many, need, on, at_, n, f, veto⟩ who)) := by
  have hs0 : ((w.alloc (.cells #[.int .i64 many, .int .i64 need, .bool on, .int .i64 at_, .slice a n c, .bool veto] 27)).alloc (.cells #[.int .i64 0, .int .i64 0, .bool false, .int .i64 0, .slice none 0 0, .bool false] 27)).heap.size = w.heap.size + 1 + 1 := by show ((w.heap.push _).push _).size = _; simp
  have HS := Lib.hid hs0; clear hs0
  have G := Lib.hid (gtr (grown_alloc w (.cells #[.int .i64 many, .int .i64 need, .bool on, .int .i64 at_, .slice a n c, .bool veto] 27) none) (grown_alloc _ (.cells #[.int .i64 0, .int .i64 0, .bool false, .int .i64 0, .slice none 0 0, .bool false] 27) none))
  have K := Lib.hid ((Blk.new w #[.int .i64 many, .int .i64 need, .bool on, .int .i64 at_, .slice a n c, .bool veto] 27).keptN (grown_alloc _ (.cells #[.int .i64 0, .int .i64 0, .bool false, .int .i64 0, .slice none 0 0, .bool false] 27) none))
  have R := Lib.hid (blk_new2 w (.cells #[.int .i64 many, .int .i64 need, .bool on, .int .i64 at_, .slice a n c, .bool veto] 27) #[.int .i64 0, .int .i64 0, .bool false, .int .i64 0, .slice none 0 0, .bool false] 27)
  have I := Lib.hid (hI.kept G.out)
  have HH := Lib.hid hI
  clear hI
  go_enter Try.func24, Try.ntmps24
  obtain ⟨k0, k1, k2, k3, k4, k5, f0, f1, f2, f3, f4, f5⟩ := c6_of K.out
  go_wp2_with fail
  refine (sctok _ many need on at_ a n c f veto I.out hl hc hm).mono ?_
  rintro e w1 ⟨rfl, hg⟩
  clear k0 k1 k2 k3 k4 k5 f0 f1 f2 f3 f4 f5
  have hs1 := hg.size
  replace G := Lib.hid (gtr G.out hg)
  replace K := Lib.hid (K.out.keptN hg)
  replace R := Lib.hid (R.out.keptN hg)
  replace I := Lib.hid (I.out.kept hg)
  rw [HS.out] at hs1
  clear hg HS
  obtain ⟨k0, k1, k2, k3, k4, k5, f0, f1, f2, f3, f4, f5⟩ := c6_of K.out
  cases hk : cokF ⟨many, need, on, at_, n, f, veto⟩ with
  | false =>
    have HV := Lib.hid (vtV_no (C := ⟨many, need, on, at_, n, f, veto⟩) (who := who) (by rw [hk]; rfl))
    have HO := Lib.hid (show vtO ⟨many, need, on, at_, n, f, veto⟩ who = false by rw [vtO_as, hk]; rfl)
    clear hk
    go_wp2_with (first
      | (refine wpList_store_atQ rfl 27 (.tmp 4) (.tmp 17) _ 0 _ _ _ #[.int .i64 0, .int .i64 0, .bool false, .int .i64 0, .slice none 0 0, .bool false] 27 R.out rfl rfl rfl rfl (Nat.le_of_ble_eq_true rfl) (by kernel_rfl) (by kernel_rfl) (by kernel_rfl) ?_; intro V hgV hRV; have HGV := Lib.hid hgV; have HRV := Lib.hid hRV; clear hgV hRV))
    (try simp only [Exit.inBlock, Exit.then])
    refine bodyPost_ret (ret_court2 rfl _ rfl HRV.out) rfl ?_
    exact gotc2 ⟨_, _, rfl, OEQ.nil _ _ _, grown_new G.out (by omega) HGV.out⟩ HV.out HO.out
  | true =>
    have HK := Lib.hid hk; clear hk
    cases ht : mgF many who with
    | false =>
      have HV := Lib.hid (vtV_no (C := ⟨many, need, on, at_, n, f, veto⟩) (who := who) (by rw [ht]; simp))
      have HO := Lib.hid (show vtO ⟨many, need, on, at_, n, f, veto⟩ who = false by rw [vtO_as, ht]; simp)
      have HT := Lib.hid ht; clear ht
      go_wp2_with fail
      refine (s6in_as _ who 1 many false HT.out.symm).mono ?_
      rintro e w' ⟨rfl, rfl⟩
      go_wp2_with (first
        | (refine wpList_store_atQ rfl 27 (.tmp 4) (.tmp 17) _ 0 _ _ _ #[.int .i64 0, .int .i64 0, .bool false, .int .i64 0, .slice none 0 0, .bool false] 27 R.out rfl rfl rfl rfl (Nat.le_of_ble_eq_true rfl) (by kernel_rfl) (by kernel_rfl) (by kernel_rfl) ?_; intro V hgV hRV; have HGV := Lib.hid hgV; have HRV := Lib.hid hRV; clear hgV hRV))
      (try simp only [Exit.inBlock, Exit.then])
      refine bodyPost_ret (ret_court2 rfl _ rfl HRV.out) rfl ?_
      exact gotc2 ⟨_, _, rfl, OEQ.nil _ _ _, grown_new G.out (by omega) HGV.out⟩ HV.out HO.out
    | true =>
      have HT := Lib.hid ht; clear ht
      go_wp2_with fail
      refine (s6in_as _ who 1 many true HT.out.symm).mono ?_
      rintro e w' ⟨rfl, rfl⟩
      have HKT := Lib.hid (show (cokF ⟨many, need, on, at_, n, f, veto⟩ && mgF many who) = true by rw [HK.out, HT.out]; rfl)
      cases on with
      | false =>
        have HV := Lib.hid (vtV_as HKT.out (show vtA ⟨many, need, false, at_, n, f, veto⟩ who = false from rfl))
        have HO := Lib.hid (show vtO ⟨many, need, false, at_, n, f, veto⟩ who = false by rw [vtO_as, HKT.out]; rfl)
        go_wp2_with fail
        refine (s42copy _ many need false at_ a n c f veto I.out hl).mono ?_
        rintro e w2 ⟨a1, c1, rfl, hv, hg⟩
        clear k0 k1 k2 k3 k4 k5 f0 f1 f2 f3 f4 f5
        have OW := Lib.hid (hv.lower (lo' := w.heap.size) G.out.size)
        replace G := Lib.hid (gtr G.out hg)
        replace R := Lib.hid (R.out.keptN hg)
        replace K := Lib.hid (K.out.keptN hg)
        have hs2 := hg.size
        clear hg hv I
        have J1 := Lib.hid (Blk.new w2 #[.int .i64 0, .int .i64 0, .bool false, .int .i64 0, .slice none 0 0, .bool false] 27)
        have K1 := Lib.hid (K.out.keptN (grown_alloc w2 (.cells #[.int .i64 0, .int .i64 0, .bool false, .int .i64 0, .slice none 0 0, .bool false] 27) none))
        have R1 := Lib.hid (R.out.keptN (grown_alloc w2 (.cells #[.int .i64 0, .int .i64 0, .bool false, .int .i64 0, .slice none 0 0, .bool false] 27) none))
        have G1 := Lib.hid (gtr G.out (grown_alloc w2 (.cells #[.int .i64 0, .int .i64 0, .bool false, .int .i64 0, .slice none 0 0, .bool false] 27) none))
        have OW1 := Lib.hid (OW.out.keptN (grown_alloc w2 (.cells #[.int .i64 0, .int .i64 0, .bool false, .int .i64 0, .slice none 0 0, .bool false] 27) none))
        clear K R G OW
        go_wp2_with (first | (refine wpList_store_atQ rfl 27 (.tmp 6) (.tmp 19) _ 0 _ _ _ #[.int .i64 many, .int .i64 need, .bool false, .int .i64 at_, .slice a1 n c1, .bool veto] 27 J1.out rfl rfl rfl rfl (Nat.le_of_ble_eq_true rfl) (by kernel_rfl) (by kernel_rfl) (by kernel_rfl) ?_; intro V hgV hRV; have J := Lib.hid hRV; have K := Lib.hid (K1.out.kept hgV (by intro e; have e := Option.some.inj e; omega)); have R := Lib.hid (R1.out.kept hgV (by intro e; have e := Option.some.inj e; omega)); have G := Lib.hid (grown_new G1.out (by omega) hgV); have OW := Lib.hid (OW1.out.keptC J1.out (by decide) hgV); clear hgV hRV K1 R1 G1 OW1 J1; obtain ⟨k0, k1, k2, k3, k4, k5, f0, f1, f2, f3, f4, f5⟩ := c6_of K.out; obtain ⟨j0, j1, j2, j3, j4, j5, g0, g1, g2, g3, g4, g5⟩ := c6_of J.out) | (refine wpList_store_atQ rfl 27 (.tmp 4) (.tmp 35) _ 0 _ _ _ #[.int .i64 many, .int .i64 need, .bool false, .int .i64 at_, .slice a1 n c1, .bool veto] 27 R.out rfl rfl rfl rfl (Nat.le_of_ble_eq_true rfl) (by kernel_rfl) (by kernel_rfl) (by kernel_rfl) ?_; intro V2 hgV hRV; have HGV := Lib.hid hgV; have HRV := Lib.hid hRV; clear hgV hRV))
        (try simp only [Exit.inBlock, Exit.then])
        refine bodyPost_ret (ret_court2 rfl _ rfl HRV.out) rfl ?_
        exact gotc2 ⟨_, _, rfl, OW.out.keptC R.out (by decide) HGV.out, grown_new G.out (by omega) HGV.out⟩ HV.out HO.out
      | true =>
        cases veto with
        | true =>
          have HV := Lib.hid (vtV_as HKT.out (show vtA ⟨many, need, true, at_, n, f, true⟩ who = false from rfl))
          have HO := Lib.hid (show vtO ⟨many, need, true, at_, n, f, true⟩ who = false by rw [vtO_as, HKT.out]; rfl)
          go_wp2_with fail
          refine (s42copy _ many need true at_ a n c f true I.out hl).mono ?_
          rintro e w2 ⟨a1, c1, rfl, hv, hg⟩
          clear k0 k1 k2 k3 k4 k5 f0 f1 f2 f3 f4 f5
          have OW := Lib.hid (hv.lower (lo' := w.heap.size) G.out.size)
          replace G := Lib.hid (gtr G.out hg)
          replace R := Lib.hid (R.out.keptN hg)
          replace K := Lib.hid (K.out.keptN hg)
          have hs2 := hg.size
          clear hg hv I
          have J1 := Lib.hid (Blk.new w2 #[.int .i64 0, .int .i64 0, .bool false, .int .i64 0, .slice none 0 0, .bool false] 27)
          have K1 := Lib.hid (K.out.keptN (grown_alloc w2 (.cells #[.int .i64 0, .int .i64 0, .bool false, .int .i64 0, .slice none 0 0, .bool false] 27) none))
          have R1 := Lib.hid (R.out.keptN (grown_alloc w2 (.cells #[.int .i64 0, .int .i64 0, .bool false, .int .i64 0, .slice none 0 0, .bool false] 27) none))
          have G1 := Lib.hid (gtr G.out (grown_alloc w2 (.cells #[.int .i64 0, .int .i64 0, .bool false, .int .i64 0, .slice none 0 0, .bool false] 27) none))
          have OW1 := Lib.hid (OW.out.keptN (grown_alloc w2 (.cells #[.int .i64 0, .int .i64 0, .bool false, .int .i64 0, .slice none 0 0, .bool false] 27) none))
          clear K R G OW
          go_wp2_with (first | (refine wpList_store_atQ rfl 27 (.tmp 6) (.tmp 19) _ 0 _ _ _ #[.int .i64 many, .int .i64 need, .bool true, .int .i64 at_, .slice a1 n c1, .bool true] 27 J1.out rfl rfl rfl rfl (Nat.le_of_ble_eq_true rfl) (by kernel_rfl) (by kernel_rfl) (by kernel_rfl) ?_; intro V hgV hRV; have J := Lib.hid hRV; have K := Lib.hid (K1.out.kept hgV (by intro e; have e := Option.some.inj e; omega)); have R := Lib.hid (R1.out.kept hgV (by intro e; have e := Option.some.inj e; omega)); have G := Lib.hid (grown_new G1.out (by omega) hgV); have OW := Lib.hid (OW1.out.keptC J1.out (by decide) hgV); clear hgV hRV K1 R1 G1 OW1 J1; obtain ⟨k0, k1, k2, k3, k4, k5, f0, f1, f2, f3, f4, f5⟩ := c6_of K.out; obtain ⟨j0, j1, j2, j3, j4, j5, g0, g1, g2, g3, g4, g5⟩ := c6_of J.out) | (refine wpList_store_atQ rfl 27 (.tmp 4) (.tmp 35) _ 0 _ _ _ #[.int .i64 many, .int .i64 need, .bool true, .int .i64 at_, .slice a1 n c1, .bool true] 27 R.out rfl rfl rfl rfl (Nat.le_of_ble_eq_true rfl) (by kernel_rfl) (by kernel_rfl) (by kernel_rfl) ?_; intro V2 hgV hRV; have HGV := Lib.hid hgV; have HRV := Lib.hid hRV; clear hgV hRV))
          (try simp only [Exit.inBlock, Exit.then])
          refine bodyPost_ret (ret_court2 rfl _ rfl HRV.out) rfl ?_
          exact gotc2 ⟨_, _, rfl, OW.out.keptC R.out (by decide) HGV.out, grown_new G.out (by omega) HGV.out⟩ HV.out HO.out
        | false =>
          go_wp2_with fail
          refine (s42copy _ many need true at_ a n c f false I.out hl).mono ?_
          rintro e w2 ⟨a1, c1, rfl, hv, hg⟩
          clear k0 k1 k2 k3 k4 k5 f0 f1 f2 f3 f4 f5
          have OW := Lib.hid (hv.lower (lo' := w.heap.size) G.out.size)
          replace G := Lib.hid (gtr G.out hg)
          replace R := Lib.hid (R.out.keptN hg)
          replace K := Lib.hid (K.out.keptN hg)
          have hs2 := hg.size
          clear hg hv I
          have J1 := Lib.hid (Blk.new w2 #[.int .i64 0, .int .i64 0, .bool false, .int .i64 0, .slice none 0 0, .bool false] 27)
          have K1 := Lib.hid (K.out.keptN (grown_alloc w2 (.cells #[.int .i64 0, .int .i64 0, .bool false, .int .i64 0, .slice none 0 0, .bool false] 27) none))
          have R1 := Lib.hid (R.out.keptN (grown_alloc w2 (.cells #[.int .i64 0, .int .i64 0, .bool false, .int .i64 0, .slice none 0 0, .bool false] 27) none))
          have G1 := Lib.hid (gtr G.out (grown_alloc w2 (.cells #[.int .i64 0, .int .i64 0, .bool false, .int .i64 0, .slice none 0 0, .bool false] 27) none))
          have OW1 := Lib.hid (OW.out.keptN (grown_alloc w2 (.cells #[.int .i64 0, .int .i64 0, .bool false, .int .i64 0, .slice none 0 0, .bool false] 27) none))
          clear K R G OW
          go_wp2_with (refine wpList_store_atQ rfl 27 (.tmp 6) (.tmp 19) _ 0 _ _ _ #[.int .i64 many, .int .i64 need, .bool true, .int .i64 at_, .slice a1 n c1, .bool false] 27 J1.out rfl rfl rfl rfl (Nat.le_of_ble_eq_true rfl) (by kernel_rfl) (by kernel_rfl) (by kernel_rfl) ?_; intro V hgV hRV; have J := Lib.hid hRV; have K := Lib.hid (K1.out.kept hgV (by intro e; have e := Option.some.inj e; omega)); have R := Lib.hid (R1.out.kept hgV (by intro e; have e := Option.some.inj e; omega)); have G := Lib.hid (grown_new G1.out (by omega) hgV); have OW := Lib.hid (OW1.out.keptC J1.out (by decide) hgV); clear hgV hRV K1 R1 G1 OW1 J1; obtain ⟨k0, k1, k2, k3, k4, k5, f0, f1, f2, f3, f4, f5⟩ := c6_of K.out; obtain ⟨j0, j1, j2, j3, j4, j5, g0, g1, g2, g3, g4, g5⟩ := c6_of J.out)
          refine (shas _ a n c f who (HH.out.kept G.out) (by omega)).mono ?_
          rintro e w' ⟨rfl, rfl⟩
          cases hh : hasz f who n with
          | true =>
            have HV := Lib.hid (vtV_as HKT.out (show vtA ⟨many, need, true, at_, n, f, false⟩ who = false by unfold vtA; dsimp only; rw [hh]; rfl))
            have HO := Lib.hid (show vtO ⟨many, need, true, at_, n, f, false⟩ who = false by rw [vtO_as, HKT.out]; unfold vtA; dsimp only; rw [hh]; rfl)
            clear hh
            go_wp2_with (first | (refine wpList_store_atQ rfl 27 (.tmp 4) (.tmp 35) _ 0 _ _ _ #[.int .i64 many, .int .i64 need, .bool true, .int .i64 at_, .slice a1 n c1, .bool false] 27 R.out rfl rfl rfl rfl (Nat.le_of_ble_eq_true rfl) (by kernel_rfl) (by kernel_rfl) (by kernel_rfl) ?_; intro V2 hgV hRV; have HGV := Lib.hid hgV; have HRV := Lib.hid hRV; clear hgV hRV))
            (try simp only [Exit.inBlock, Exit.then])
            refine bodyPost_ret (ret_court2 rfl _ rfl HRV.out) rfl ?_
            exact gotc2 ⟨_, _, rfl, OW.out.keptC R.out (by decide) HGV.out, grown_new G.out (by omega) HGV.out⟩ HV.out HO.out
          | false =>
            have HV := Lib.hid (vtV_nw HKT.out (show vtA ⟨many, need, true, at_, n, f, false⟩ who = true by unfold vtA; dsimp only; rw [hh]; rfl))
            have HO := Lib.hid (show vtO ⟨many, need, true, at_, n, f, false⟩ who = true by rw [vtO_as, HKT.out]; unfold vtA; dsimp only; rw [hh]; rfl)
            clear hh
            have hsJ := J.out.lt
            have OW2 := Lib.hid (OW.out.keptN (grown_alloc _ (.cells #[.int .i64 who] 3) none))
            go_wp2_with (first
              | (at_builtin; refine wpList_append_oneQ rfl (.tmp 38) (.tmp 40) rfl w.heap.size a1 n c1 f rfl OW2.out ⟨V.heap.size, 0, none⟩ who rfl (cell_one_new _ _ _) (by omega) (by simp; omega) ?_; intro b3 c3 w3 hO3 hg3; have hg := grow_ownQ (grown_alloc _ (.cells #[.int .i64 who] 3) none) hg3; have J2 := Lib.hid (blk_keptO J.out OW.out hg (by decide)); have R2 := Lib.hid (blk_keptO R.out OW.out hg (by decide)); have G2 := Lib.hid (grown_ownQ G.out OW.out hg); have OW3 := Lib.hid hO3; clear hO3 hg3 hg k0 k1 k2 k3 k4 k5 f0 f1 f2 f3 f4 f5 j0 j1 j2 j3 j4 j5 g0 g1 g2 g3 g4 g5; obtain ⟨j0, j1, j2, j3, j4, j5, g0, g1, g2, g3, g4, g5⟩ := c6_of J2.out)
              | (refine wpList_store_atQ rfl 23 (.tmp 43) (.tmp 41) _ 4 _ _ _ #[.int .i64 many, .int .i64 need, .bool true, .int .i64 at_, .slice (some ⟨b3, 0, none⟩) (n + 1) c3, .bool false] 27 J2.out rfl rfl rfl rfl (Nat.le_of_ble_eq_true rfl) (by kernel_rfl) (by kernel_rfl) (by kernel_rfl) ?_; intro V3 hgV hRV; have R3 := Lib.hid (R2.out.kept hgV (by intro e; have e := Option.some.inj e; omega)); have G3 := Lib.hid (grown_new G2.out (by omega) hgV); have OW4 := Lib.hid (OW3.out.keptC J2.out (by decide) hgV); have J3 := Lib.hid hRV; clear hgV hRV j0 j1 j2 j3 j4 j5 g0 g1 g2 g3 g4 g5; obtain ⟨j0, j1, j2, j3, j4, j5, g0, g1, g2, g3, g4, g5⟩ := c6_of J3.out)
              | (refine wpList_store_atQ rfl 27 (.tmp 4) (.tmp 44) _ 0 _ _ _ #[.int .i64 many, .int .i64 need, .bool true, .int .i64 at_, .slice (some ⟨b3, 0, none⟩) (n + 1) c3, .bool false] 27 R3.out rfl rfl rfl rfl (Nat.le_of_ble_eq_true rfl) (by kernel_rfl) (by kernel_rfl) (by kernel_rfl) ?_; intro V4 hgV hRV; have HGV := Lib.hid hgV; have HRV := Lib.hid hRV; clear hgV hRV))
            (try simp only [Exit.inBlock, Exit.then])
            refine bodyPost_ret (ret_court2 rfl _ rfl HRV.out) rfl ?_
            exact gotc2 ⟨_, _, rfl, OW4.out.keptC R3.out (by decide) HGV.out, grown_new G3.out (by omega) HGV.out⟩ HV.out HO.out
set_option maxRecDepth 100000 in
set_option maxHeartbeats 4000000 in
theorem sveto (w : World) (many need : Int) (on : Bool) (at_ : Int) (a : Option Addr) (n c : Nat) (f : Nat → Int) (veto : Bool) (hI : Ints w a n f) (hl : n ≤ 2000000) (hc : n ≤ c) (hm : c ≤ maxLen) :
    Calls Try.prog 29 #[.agg #[.int .i64 many, .int .i64 need, .bool on, .int .i64 at_, .slice a n c, .bool veto]] w (GotC2 w (veV ⟨many, need, on, at_, n, f, veto⟩) (veO ⟨many, need, on, at_, n, f, veto⟩)) := by
  have hs0 : ((w.alloc (.cells #[.int .i64 many, .int .i64 need, .bool on, .int .i64 at_, .slice a n c, .bool veto] 27)).alloc (.cells #[.int .i64 0, .int .i64 0, .bool false, .int .i64 0, .slice none 0 0, .bool false] 27)).heap.size = w.heap.size + 1 + 1 := by show ((w.heap.push _).push _).size = _; simp
  have HS := Lib.hid hs0; clear hs0
  have G := Lib.hid (gtr (grown_alloc w (.cells #[.int .i64 many, .int .i64 need, .bool on, .int .i64 at_, .slice a n c, .bool veto] 27) none) (grown_alloc _ (.cells #[.int .i64 0, .int .i64 0, .bool false, .int .i64 0, .slice none 0 0, .bool false] 27) none))
  have K := Lib.hid ((Blk.new w #[.int .i64 many, .int .i64 need, .bool on, .int .i64 at_, .slice a n c, .bool veto] 27).keptN (grown_alloc _ (.cells #[.int .i64 0, .int .i64 0, .bool false, .int .i64 0, .slice none 0 0, .bool false] 27) none))
  have R := Lib.hid (blk_new2 w (.cells #[.int .i64 many, .int .i64 need, .bool on, .int .i64 at_, .slice a n c, .bool veto] 27) #[.int .i64 0, .int .i64 0, .bool false, .int .i64 0, .slice none 0 0, .bool false] 27)
  have I := Lib.hid (hI.kept G.out)
  have HH := Lib.hid hI
  clear hI
  go_enter Try.func29, Try.ntmps29
  obtain ⟨k0, k1, k2, k3, k4, k5, f0, f1, f2, f3, f4, f5⟩ := c6_of K.out
  go_wp2_with fail
  refine (sctok _ many need on at_ a n c f veto I.out hl hc hm).mono ?_
  rintro e w1 ⟨rfl, hg⟩
  clear k0 k1 k2 k3 k4 k5 f0 f1 f2 f3 f4 f5
  have hs1 := hg.size
  replace G := Lib.hid (gtr G.out hg)
  replace K := Lib.hid (K.out.keptN hg)
  replace R := Lib.hid (R.out.keptN hg)
  replace I := Lib.hid (I.out.kept hg)
  rw [HS.out] at hs1
  clear hg HS
  obtain ⟨k0, k1, k2, k3, k4, k5, f0, f1, f2, f3, f4, f5⟩ := c6_of K.out
  cases hk : cokF ⟨many, need, on, at_, n, f, veto⟩ with
  | false =>
    have HV := Lib.hid (veV_no (C := ⟨many, need, on, at_, n, f, veto⟩) hk)
    have HO := Lib.hid (show veO ⟨many, need, on, at_, n, f, veto⟩ = false by unfold veO; rw [hk]; rfl)
    clear hk
    go_wp2_with (first
      | (refine wpList_store_atQ rfl 27 (.tmp 2) (.tmp 8) _ 0 _ _ _ #[.int .i64 0, .int .i64 0, .bool false, .int .i64 0, .slice none 0 0, .bool false] 27 R.out rfl rfl rfl rfl (Nat.le_of_ble_eq_true rfl) (by kernel_rfl) (by kernel_rfl) (by kernel_rfl) ?_; intro V hgV hRV; have HGV := Lib.hid hgV; have HRV := Lib.hid hRV; clear hgV hRV))
    (try simp only [Exit.inBlock, Exit.then])
    refine bodyPost_ret (ret_court2 rfl _ rfl HRV.out) rfl ?_
    exact gotc2 ⟨_, _, rfl, OEQ.nil _ _ _, grown_new G.out (by omega) HGV.out⟩ HV.out HO.out
  | true =>
    have HK := Lib.hid hk; clear hk
    cases on with
    | false =>
      have HV := Lib.hid (veV_as (C := ⟨many, need, false, at_, n, f, veto⟩) HK.out rfl)
      have HO := Lib.hid (show veO ⟨many, need, false, at_, n, f, veto⟩ = false by unfold veO; rw [HK.out]; rfl)
      go_wp2_with fail
      refine (s42copy _ many need false at_ a n c f veto I.out hl).mono ?_
      rintro e w2 ⟨a1, c1, rfl, hv, hg⟩
      clear k0 k1 k2 k3 k4 k5 f0 f1 f2 f3 f4 f5
      have OW := Lib.hid (hv.lower (lo' := w.heap.size) G.out.size)
      replace G := Lib.hid (gtr G.out hg)
      replace R := Lib.hid (R.out.keptN hg)
      replace K := Lib.hid (K.out.keptN hg)
      have hs2 := hg.size
      clear hg hv I
      have J1 := Lib.hid (Blk.new w2 #[.int .i64 0, .int .i64 0, .bool false, .int .i64 0, .slice none 0 0, .bool false] 27)
      have K1 := Lib.hid (K.out.keptN (grown_alloc w2 (.cells #[.int .i64 0, .int .i64 0, .bool false, .int .i64 0, .slice none 0 0, .bool false] 27) none))
      have R1 := Lib.hid (R.out.keptN (grown_alloc w2 (.cells #[.int .i64 0, .int .i64 0, .bool false, .int .i64 0, .slice none 0 0, .bool false] 27) none))
      have G1 := Lib.hid (gtr G.out (grown_alloc w2 (.cells #[.int .i64 0, .int .i64 0, .bool false, .int .i64 0, .slice none 0 0, .bool false] 27) none))
      have OW1 := Lib.hid (OW.out.keptN (grown_alloc w2 (.cells #[.int .i64 0, .int .i64 0, .bool false, .int .i64 0, .slice none 0 0, .bool false] 27) none))
      clear K R G OW
      go_wp2_with (first | (refine wpList_store_atQ rfl 27 (.tmp 4) (.tmp 10) _ 0 _ _ _ #[.int .i64 many, .int .i64 need, .bool false, .int .i64 at_, .slice a1 n c1, .bool veto] 27 J1.out rfl rfl rfl rfl (Nat.le_of_ble_eq_true rfl) (by kernel_rfl) (by kernel_rfl) (by kernel_rfl) ?_; intro V hgV hRV; have J := Lib.hid hRV; have K := Lib.hid (K1.out.kept hgV (by intro e; have e := Option.some.inj e; omega)); have R := Lib.hid (R1.out.kept hgV (by intro e; have e := Option.some.inj e; omega)); have G := Lib.hid (grown_new G1.out (by omega) hgV); have OW := Lib.hid (OW1.out.keptC J1.out (by decide) hgV); clear hgV hRV K1 R1 G1 OW1 J1; obtain ⟨k0, k1, k2, k3, k4, k5, f0, f1, f2, f3, f4, f5⟩ := c6_of K.out; obtain ⟨j0, j1, j2, j3, j4, j5, g0, g1, g2, g3, g4, g5⟩ := c6_of J.out) | (refine wpList_store_atQ rfl 27 (.tmp 2) (.tmp 19) _ 0 _ _ _ #[.int .i64 many, .int .i64 need, .bool false, .int .i64 at_, .slice a1 n c1, .bool veto] 27 R.out rfl rfl rfl rfl (Nat.le_of_ble_eq_true rfl) (by kernel_rfl) (by kernel_rfl) (by kernel_rfl) ?_; intro V2 hgV hRV; have HGV := Lib.hid hgV; have HRV := Lib.hid hRV; clear hgV hRV))
      (try simp only [Exit.inBlock, Exit.then])
      refine bodyPost_ret (ret_court2 rfl _ rfl HRV.out) rfl ?_
      exact gotc2 ⟨_, _, rfl, OW.out.keptC R.out (by decide) HGV.out, grown_new G.out (by omega) HGV.out⟩ HV.out HO.out
    | true =>
      cases veto with
      | true =>
        have HV := Lib.hid (veV_as (C := ⟨many, need, true, at_, n, f, true⟩) HK.out rfl)
        have HO := Lib.hid (show veO ⟨many, need, true, at_, n, f, true⟩ = false by unfold veO; rw [HK.out]; rfl)
        go_wp2_with fail
        refine (s42copy _ many need true at_ a n c f true I.out hl).mono ?_
        rintro e w2 ⟨a1, c1, rfl, hv, hg⟩
        clear k0 k1 k2 k3 k4 k5 f0 f1 f2 f3 f4 f5
        have OW := Lib.hid (hv.lower (lo' := w.heap.size) G.out.size)
        replace G := Lib.hid (gtr G.out hg)
        replace R := Lib.hid (R.out.keptN hg)
        replace K := Lib.hid (K.out.keptN hg)
        have hs2 := hg.size
        clear hg hv I
        have J1 := Lib.hid (Blk.new w2 #[.int .i64 0, .int .i64 0, .bool false, .int .i64 0, .slice none 0 0, .bool false] 27)
        have K1 := Lib.hid (K.out.keptN (grown_alloc w2 (.cells #[.int .i64 0, .int .i64 0, .bool false, .int .i64 0, .slice none 0 0, .bool false] 27) none))
        have R1 := Lib.hid (R.out.keptN (grown_alloc w2 (.cells #[.int .i64 0, .int .i64 0, .bool false, .int .i64 0, .slice none 0 0, .bool false] 27) none))
        have G1 := Lib.hid (gtr G.out (grown_alloc w2 (.cells #[.int .i64 0, .int .i64 0, .bool false, .int .i64 0, .slice none 0 0, .bool false] 27) none))
        have OW1 := Lib.hid (OW.out.keptN (grown_alloc w2 (.cells #[.int .i64 0, .int .i64 0, .bool false, .int .i64 0, .slice none 0 0, .bool false] 27) none))
        clear K R G OW
        go_wp2_with (first | (refine wpList_store_atQ rfl 27 (.tmp 4) (.tmp 10) _ 0 _ _ _ #[.int .i64 many, .int .i64 need, .bool true, .int .i64 at_, .slice a1 n c1, .bool true] 27 J1.out rfl rfl rfl rfl (Nat.le_of_ble_eq_true rfl) (by kernel_rfl) (by kernel_rfl) (by kernel_rfl) ?_; intro V hgV hRV; have J := Lib.hid hRV; have K := Lib.hid (K1.out.kept hgV (by intro e; have e := Option.some.inj e; omega)); have R := Lib.hid (R1.out.kept hgV (by intro e; have e := Option.some.inj e; omega)); have G := Lib.hid (grown_new G1.out (by omega) hgV); have OW := Lib.hid (OW1.out.keptC J1.out (by decide) hgV); clear hgV hRV K1 R1 G1 OW1 J1; obtain ⟨k0, k1, k2, k3, k4, k5, f0, f1, f2, f3, f4, f5⟩ := c6_of K.out; obtain ⟨j0, j1, j2, j3, j4, j5, g0, g1, g2, g3, g4, g5⟩ := c6_of J.out) | (refine wpList_store_atQ rfl 27 (.tmp 2) (.tmp 19) _ 0 _ _ _ #[.int .i64 many, .int .i64 need, .bool true, .int .i64 at_, .slice a1 n c1, .bool true] 27 R.out rfl rfl rfl rfl (Nat.le_of_ble_eq_true rfl) (by kernel_rfl) (by kernel_rfl) (by kernel_rfl) ?_; intro V2 hgV hRV; have HGV := Lib.hid hgV; have HRV := Lib.hid hRV; clear hgV hRV))
        (try simp only [Exit.inBlock, Exit.then])
        refine bodyPost_ret (ret_court2 rfl _ rfl HRV.out) rfl ?_
        exact gotc2 ⟨_, _, rfl, OW.out.keptC R.out (by decide) HGV.out, grown_new G.out (by omega) HGV.out⟩ HV.out HO.out
      | false =>
        have HV := Lib.hid (veV_nw (C := ⟨many, need, true, at_, n, f, false⟩) HK.out rfl)
        have HO := Lib.hid (show veO ⟨many, need, true, at_, n, f, false⟩ = true by unfold veO; rw [HK.out]; rfl)
        go_wp2_with fail
        refine (s42copy _ many need true at_ a n c f false I.out hl).mono ?_
        rintro e w2 ⟨a1, c1, rfl, hv, hg⟩
        clear k0 k1 k2 k3 k4 k5 f0 f1 f2 f3 f4 f5
        have OW := Lib.hid (hv.lower (lo' := w.heap.size) G.out.size)
        replace G := Lib.hid (gtr G.out hg)
        replace R := Lib.hid (R.out.keptN hg)
        replace K := Lib.hid (K.out.keptN hg)
        have hs2 := hg.size
        clear hg hv I
        have J1 := Lib.hid (Blk.new w2 #[.int .i64 0, .int .i64 0, .bool false, .int .i64 0, .slice none 0 0, .bool false] 27)
        have K1 := Lib.hid (K.out.keptN (grown_alloc w2 (.cells #[.int .i64 0, .int .i64 0, .bool false, .int .i64 0, .slice none 0 0, .bool false] 27) none))
        have R1 := Lib.hid (R.out.keptN (grown_alloc w2 (.cells #[.int .i64 0, .int .i64 0, .bool false, .int .i64 0, .slice none 0 0, .bool false] 27) none))
        have G1 := Lib.hid (gtr G.out (grown_alloc w2 (.cells #[.int .i64 0, .int .i64 0, .bool false, .int .i64 0, .slice none 0 0, .bool false] 27) none))
        have OW1 := Lib.hid (OW.out.keptN (grown_alloc w2 (.cells #[.int .i64 0, .int .i64 0, .bool false, .int .i64 0, .slice none 0 0, .bool false] 27) none))
        clear K R G OW
        go_wp2_with (first
          | (refine wpList_store_atQ rfl 27 (.tmp 4) (.tmp 10) _ 0 _ _ _ #[.int .i64 many, .int .i64 need, .bool true, .int .i64 at_, .slice a1 n c1, .bool false] 27 J1.out rfl rfl rfl rfl (Nat.le_of_ble_eq_true rfl) (by kernel_rfl) (by kernel_rfl) (by kernel_rfl) ?_; intro V hgV hRV; have J := Lib.hid hRV; have K := Lib.hid (K1.out.kept hgV (by intro e; have e := Option.some.inj e; omega)); have R := Lib.hid (R1.out.kept hgV (by intro e; have e := Option.some.inj e; omega)); have G := Lib.hid (grown_new G1.out (by omega) hgV); have OW := Lib.hid (OW1.out.keptC J1.out (by decide) hgV); clear hgV hRV K1 R1 G1 OW1 J1; obtain ⟨k0, k1, k2, k3, k4, k5, f0, f1, f2, f3, f4, f5⟩ := c6_of K.out; obtain ⟨j0, j1, j2, j3, j4, j5, g0, g1, g2, g3, g4, g5⟩ := c6_of J.out)
          | (refine wpList_store_atQ rfl 4 (.tmp 21) (.const (.bool true)) _ 5 _ _ _ #[.int .i64 many, .int .i64 need, .bool true, .int .i64 at_, .slice a1 n c1, .bool true] 27 J.out rfl rfl rfl rfl (Nat.le_of_ble_eq_true rfl) (by kernel_rfl) (by kernel_rfl) (by kernel_rfl) ?_; intro V3 hgV hRV; have hsJ := J.out.lt; have R3 := Lib.hid (R.out.kept hgV (by intro e; have e := Option.some.inj e; omega)); have G3 := Lib.hid (grown_new G.out (by omega) hgV); have OW4 := Lib.hid (OW.out.keptC J.out (by decide) hgV); have J3 := Lib.hid hRV; clear hgV hRV k0 k1 k2 k3 k4 k5 f0 f1 f2 f3 f4 f5 j0 j1 j2 j3 j4 j5 g0 g1 g2 g3 g4 g5; obtain ⟨j0, j1, j2, j3, j4, j5, g0, g1, g2, g3, g4, g5⟩ := c6_of J3.out)
          | (refine wpList_store_atQ rfl 27 (.tmp 2) (.tmp 22) _ 0 _ _ _ #[.int .i64 many, .int .i64 need, .bool true, .int .i64 at_, .slice a1 n c1, .bool true] 27 R3.out rfl rfl rfl rfl (Nat.le_of_ble_eq_true rfl) (by kernel_rfl) (by kernel_rfl) (by kernel_rfl) ?_; intro V4 hgV hRV; have HGV := Lib.hid hgV; have HRV := Lib.hid hRV; clear hgV hRV))
        (try simp only [Exit.inBlock, Exit.then])
        refine bodyPost_ret (ret_court2 rfl _ rfl HRV.out) rfl ?_
        exact gotc2 ⟨_, _, rfl, OW4.out.keptC R3.out (by decide) HGV.out, grown_new G3.out (by omega) HGV.out⟩ HV.out HO.out
set_option maxRecDepth 100000 in
set_option maxHeartbeats 4000000 in
theorem smay (w : World) (many need : Int) (on : Bool) (at_ : Int) (a : Option Addr) (n c : Nat) (f : Nat → Int) (veto : Bool) (now : Int) (hI : Ints w a n f) (hl : n ≤ 2000000) (hc : n ≤ c) (hm : c ≤ maxLen) :
    Calls Try.prog 33 #[.agg #[.int .i64 many, .int .i64 need, .bool on, .int .i64 at_, .slice a n c, .bool veto], .int .i64 now] w fun e w' => e = .returned (.bool (cmF ⟨many, need, on, at_, n, f, veto⟩ now)) ∧ w.grownBy w' none := by
  have G := Lib.hid (grown_alloc w (.cells #[.int .i64 many, .int .i64 need, .bool on, .int .i64 at_, .slice a n c, .bool veto] 27) none)
  have K := Lib.hid (Blk.new w #[.int .i64 many, .int .i64 need, .bool on, .int .i64 at_, .slice a n c, .bool veto] 27)
  have I := Lib.hid (hI.kept G.out); clear hI
  have HE := Lib.hid (show cmF ⟨many, need, on, at_, n, f, veto⟩ now = (cokF ⟨many, need, on, at_, n, f, veto⟩ && (tmF now && (stF on veto && (decide (need ≤ (n : Int)) && decide (10 ≤ now - at_))))) from rfl)
  go_enter Try.func33, Try.ntmps33
  obtain ⟨k0, k1, k2, k3, k4, k5, f0, f1, f2, f3, f4, f5⟩ := c6_of K.out
  go_wp2_with fail
  refine (sctok _ many need on at_ a n c f veto I.out hl hc hm).mono ?_
  rintro e w1 ⟨rfl, hg⟩
  clear k0 k1 k2 k3 k4 k5 f0 f1 f2 f3 f4 f5
  replace G := Lib.hid (gtr G.out hg)
  replace K := Lib.hid (K.out.keptN hg)
  clear hg
  obtain ⟨k0, k1, k2, k3, k4, k5, f0, f1, f2, f3, f4, f5⟩ := c6_of K.out
  cases h1 : cokF ⟨many, need, on, at_, n, f, veto⟩ with
  | false =>
    have HP := Lib.hid (show cmF ⟨many, need, on, at_, n, f, veto⟩ now = false by rw [HE.out, h1]; rfl); clear h1
    go_wp2
    go_ret
    exact ⟨Mem.ret_b HP.out.symm, G.out⟩
  | true =>
    have H1 := Lib.hid h1; clear h1
    have hAt := Lib.hid (tmF_iff.1 (cokF_iff.1 H1.out).2.1)
    cases h2 : tmF now with
    | false =>
      have HP := Lib.hid (show cmF ⟨many, need, on, at_, n, f, veto⟩ now = false by rw [HE.out, h2]; simp)
      have H2 := Lib.hid h2; clear h2
      go_wp2_with fail
      refine (s6in_as _ now 0 99 false H2.out.symm).mono ?_
      rintro e w' ⟨rfl, rfl⟩
      go_wp2
      go_ret
      exact ⟨Mem.ret_b HP.out.symm, G.out⟩
    | true =>
      have H2 := Lib.hid h2; clear h2
      go_wp2_with fail
      refine (s6in_as _ now 0 99 true H2.out.symm).mono ?_
      rintro e w' ⟨rfl, rfl⟩
      cases on with
      | false =>
        have HP := Lib.hid (show cmF ⟨many, need, false, at_, n, f, veto⟩ now = false by rw [HE.out]; simp [stF])
        go_wp2
        go_ret
        exact ⟨Mem.ret_b HP.out.symm, G.out⟩
      | true =>
        cases veto with
        | true =>
          have HP := Lib.hid (show cmF ⟨many, need, true, at_, n, f, true⟩ now = false by rw [HE.out]; simp [stF])
          go_wp2
          go_ret
          exact ⟨Mem.ret_b HP.out.symm, G.out⟩
        | false =>
          have a0 := hAt.out.1; have a1 := hAt.out.2
          have n0 := (tmF_iff.1 H2.out).1; have n1 := (tmF_iff.1 H2.out).2
          by_cases h4 : need ≤ (n : Int)
          · by_cases h5 : 10 ≤ now - at_
            · have HP := Lib.hid (show cmF ⟨many, need, true, at_, n, f, false⟩ now = true by rw [HE.out, H1.out, H2.out, decide_eq_true h4, decide_eq_true h5]; rfl)
              go_wp2
              go_ret
              exact ⟨Mem.ret_b HP.out.symm, G.out⟩
            · have HP := Lib.hid (show cmF ⟨many, need, true, at_, n, f, false⟩ now = false by rw [HE.out, decide_eq_false h5]; simp)
              go_wp2
              go_ret
              exact ⟨Mem.ret_b (by rw [HP.out]; exact decide_eq_false (by omega)), G.out⟩
          · have HP := Lib.hid (show cmF ⟨many, need, true, at_, n, f, false⟩ now = false by rw [HE.out, decide_eq_false h4]; simp)
            go_wp2
            go_ret
            exact ⟨Mem.ret_b HP.out.symm, G.out⟩
end Ct
end Go.Proofs.Ytbfmigmhmjgdgaa
