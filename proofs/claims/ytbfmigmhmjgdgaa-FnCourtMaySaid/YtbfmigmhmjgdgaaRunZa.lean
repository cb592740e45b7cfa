/-
  The walk of the law on what is granted.
-/
import Derived.Test.YtbfmigmhmjgdgaaZl
namespace Go.Proofs.Ytbfmigmhmjgdgaa
namespace Run
open Go.RowKit Alg Mem Con Draw Ct
set_option linter.unusedVariables false

set_option maxRecDepth 100000 in
set_option maxHeartbeats 8000000 in
theorem FnCourtMay (a : Option Addr) (len cap : Nat) (w : World) (hB : Bytes w w.heap.size a len) (hc : len ≤ cap) (hm : cap ≤ maxLen) :
    Calls Try.prog 6 #[.slice a len cap] w (Yes w) := by
  by_cases hbig : 1048576 < len
  · have hbig' : (1048576 : Int) < (len : Int) := by omega
    clear hB
    go_enter Try.func6, Try.ntmps6
    go_wp2
    go_ret
    exact ⟨rfl, Below.refl _ _⟩
  have hbig' : ¬ (1048576 : Int) < (len : Int) := by omega
  go_enter Try.func6, Try.ntmps6
  go_wp2_with fail
  refine (drawCtMay w a len cap hB hc hm).mono ?_
  rintro e v1 ⟨C, a1, c1, x, rfl, hO, hn7, hg⟩
  have G := Lib.hid hg; have Oc1 := Lib.hid hO
  clear hg hO hB
  go_wp2_with (refine stop_store rfl ?_)
  refine ⟨trivial, ?_⟩
  refine wpList_store_atQ rfl 27 (.tmp 3) (.tmp 12) _ 0 _ _ _ #[.int .i64 C.many, .int .i64 C.need, .bool C.on, .int .i64 C.at_, .slice a1 C.n c1, .bool C.veto] 27 (Blk.new v1 #[.int .i64 0, .int .i64 0, .bool false, .int .i64 0, .slice none 0 0, .bool false] 27) rfl rfl rfl rfl (Nat.le_of_ble_eq_true rfl) (by kernel_rfl) (by kernel_rfl) (by kernel_rfl) ?_
  intro u1 hgV hT
  have hg : (v1).grownBy u1 none := grown_new (grown_alloc (v1) (.cells #[.int .i64 0, .int .i64 0, .bool false, .int .i64 0, .slice none 0 0, .bool false] 27) none) (Nat.le_refl _) hgV
  have K1 := Lib.hid hT
  clear hgV hT
  replace G := Lib.hid (gtr G.out hg)
  replace Oc1 := Lib.hid (Oc1.out.kept hg (fun g e => by cases e))
  clear hg
  generalize (v1).heap.size = b1 at *
  obtain ⟨g, hg0⟩ : ∃ g, cmF C x = g := ⟨_, rfl⟩
  have HG := Lib.hid hg0; clear hg0
  have k1_0 : World.cell? u1 ⟨b1, 0, none⟩ = some (.int .i64 C.many) := K1.out.cell 0
  have k1_1 : World.cell? u1 ⟨b1, 1, none⟩ = some (.int .i64 C.need) := K1.out.cell 1
  have k1_2 : World.cell? u1 ⟨b1, 2, none⟩ = some (.bool C.on) := K1.out.cell 2
  have k1_3 : World.cell? u1 ⟨b1, 3, none⟩ = some (.int .i64 C.at_) := K1.out.cell 3
  have k1_4 : World.cell? u1 ⟨b1, 4, none⟩ = some (.slice a1 C.n c1) := K1.out.cell 4
  have k1_5 : World.cell? u1 ⟨b1, 5, none⟩ = some (.bool C.veto) := K1.out.cell 5
  go_wp2_with fail
  refine (imay _ C.many C.need C.on C.at_ a1 C.n c1 C.f C.veto x Oc1.out.ints (by omega) Oc1.out.le.1 Oc1.out.le.2).mono ?_
  rintro e v2 ⟨rfl, hg⟩
  rw [show cmF ⟨C.many, C.need, C.on, C.at_, C.n, C.f, C.veto⟩ x = g from HG.out]
  clear k1_0 k1_1 k1_2 k1_3 k1_4 k1_5
  replace G := Lib.hid (gtr G.out hg)
  replace Oc1 := Lib.hid (Oc1.out.kept hg (fun g e => by cases e))
  replace K1 := Lib.hid (K1.out.keptN hg)
  clear hg
  have k1_0 : World.cell? v2 ⟨b1, 0, none⟩ = some (.int .i64 C.many) := K1.out.cell 0
  have k1_1 : World.cell? v2 ⟨b1, 1, none⟩ = some (.int .i64 C.need) := K1.out.cell 1
  have k1_2 : World.cell? v2 ⟨b1, 2, none⟩ = some (.bool C.on) := K1.out.cell 2
  have k1_3 : World.cell? v2 ⟨b1, 3, none⟩ = some (.int .i64 C.at_) := K1.out.cell 3
  have k1_4 : World.cell? v2 ⟨b1, 4, none⟩ = some (.slice a1 C.n c1) := K1.out.cell 4
  have k1_5 : World.cell? v2 ⟨b1, 5, none⟩ = some (.bool C.veto) := K1.out.cell 5
  go_wp2_with fail
  refine (smay _ C.many C.need C.on C.at_ a1 C.n c1 C.f C.veto x Oc1.out.ints (by omega) Oc1.out.le.1 Oc1.out.le.2).mono ?_
  rintro e v3 ⟨rfl, hg⟩
  rw [show cmF ⟨C.many, C.need, C.on, C.at_, C.n, C.f, C.veto⟩ x = g from HG.out]
  clear k1_0 k1_1 k1_2 k1_3 k1_4 k1_5
  replace G := Lib.hid (gtr G.out hg)
  replace Oc1 := Lib.hid (Oc1.out.kept hg (fun g e => by cases e))
  replace K1 := Lib.hid (K1.out.keptN hg)
  clear hg
  have hne : (g != g) = false := by simp
  have k1_0 : World.cell? v3 ⟨b1, 0, none⟩ = some (.int .i64 C.many) := K1.out.cell 0
  have k1_1 : World.cell? v3 ⟨b1, 1, none⟩ = some (.int .i64 C.need) := K1.out.cell 1
  have k1_2 : World.cell? v3 ⟨b1, 2, none⟩ = some (.bool C.on) := K1.out.cell 2
  have k1_3 : World.cell? v3 ⟨b1, 3, none⟩ = some (.int .i64 C.at_) := K1.out.cell 3
  have k1_4 : World.cell? v3 ⟨b1, 4, none⟩ = some (.slice a1 C.n c1) := K1.out.cell 4
  have k1_5 : World.cell? v3 ⟨b1, 5, none⟩ = some (.bool C.veto) := K1.out.cell 5
  go_wp2_with fail
  refine (sctok _ C.many C.need C.on C.at_ a1 C.n c1 C.f C.veto Oc1.out.ints (by omega) Oc1.out.le.1 Oc1.out.le.2).mono ?_
  rintro e v4 ⟨rfl, hg⟩
  clear k1_0 k1_1 k1_2 k1_3 k1_4 k1_5
  replace G := Lib.hid (gtr G.out hg)
  replace Oc1 := Lib.hid (Oc1.out.kept hg (fun g e => by cases e))
  replace K1 := Lib.hid (K1.out.keptN hg)
  clear hg
  cases hk : cokF ⟨C.many, C.need, C.on, C.at_, C.n, C.f, C.veto⟩ with
  | false =>
    clear hk
    have k1_0 : World.cell? v4 ⟨b1, 0, none⟩ = some (.int .i64 C.many) := K1.out.cell 0
    have k1_1 : World.cell? v4 ⟨b1, 1, none⟩ = some (.int .i64 C.need) := K1.out.cell 1
    have k1_2 : World.cell? v4 ⟨b1, 2, none⟩ = some (.bool C.on) := K1.out.cell 2
    have k1_3 : World.cell? v4 ⟨b1, 3, none⟩ = some (.int .i64 C.at_) := K1.out.cell 3
    have k1_4 : World.cell? v4 ⟨b1, 4, none⟩ = some (.slice a1 C.n c1) := K1.out.cell 4
    have k1_5 : World.cell? v4 ⟨b1, 5, none⟩ = some (.bool C.veto) := K1.out.cell 5
    go_wp2_with fail
    refine (smay _ C.many C.need C.on C.at_ a1 C.n c1 C.f C.veto x Oc1.out.ints (by omega) Oc1.out.le.1 Oc1.out.le.2).mono ?_
    rintro e v5 ⟨rfl, hg⟩
    rw [show cmF ⟨C.many, C.need, C.on, C.at_, C.n, C.f, C.veto⟩ x = g from HG.out]
    clear k1_0 k1_1 k1_2 k1_3 k1_4 k1_5
    replace G := Lib.hid (gtr G.out hg)
    replace Oc1 := Lib.hid (Oc1.out.kept hg (fun g e => by cases e))
    replace K1 := Lib.hid (K1.out.keptN hg)
    clear hg
    go_wp2
    go_ret
    exact ⟨by simp, below_of G.out⟩
  | true =>
    have HC := Lib.hid hk; clear hk
    by_cases h0 : x < 0
    case pos =>
      have k1_0 : World.cell? v4 ⟨b1, 0, none⟩ = some (.int .i64 C.many) := K1.out.cell 0
      have k1_1 : World.cell? v4 ⟨b1, 1, none⟩ = some (.int .i64 C.need) := K1.out.cell 1
      have k1_2 : World.cell? v4 ⟨b1, 2, none⟩ = some (.bool C.on) := K1.out.cell 2
      have k1_3 : World.cell? v4 ⟨b1, 3, none⟩ = some (.int .i64 C.at_) := K1.out.cell 3
      have k1_4 : World.cell? v4 ⟨b1, 4, none⟩ = some (.slice a1 C.n c1) := K1.out.cell 4
      have k1_5 : World.cell? v4 ⟨b1, 5, none⟩ = some (.bool C.veto) := K1.out.cell 5
      go_wp2_with fail
      refine (smay _ C.many C.need C.on C.at_ a1 C.n c1 C.f C.veto x Oc1.out.ints (by omega) Oc1.out.le.1 Oc1.out.le.2).mono ?_
      rintro e v5 ⟨rfl, hg⟩
      rw [show cmF ⟨C.many, C.need, C.on, C.at_, C.n, C.f, C.veto⟩ x = g from HG.out]
      clear k1_0 k1_1 k1_2 k1_3 k1_4 k1_5
      replace G := Lib.hid (gtr G.out hg)
      replace Oc1 := Lib.hid (Oc1.out.kept hg (fun g e => by cases e))
      replace K1 := Lib.hid (K1.out.keptN hg)
      clear hg
      go_wp2
      go_ret
      exact ⟨by simp, below_of G.out⟩
    case neg =>
      by_cases h9 : 99 < x
      case pos =>
        have k1_0 : World.cell? v4 ⟨b1, 0, none⟩ = some (.int .i64 C.many) := K1.out.cell 0
        have k1_1 : World.cell? v4 ⟨b1, 1, none⟩ = some (.int .i64 C.need) := K1.out.cell 1
        have k1_2 : World.cell? v4 ⟨b1, 2, none⟩ = some (.bool C.on) := K1.out.cell 2
        have k1_3 : World.cell? v4 ⟨b1, 3, none⟩ = some (.int .i64 C.at_) := K1.out.cell 3
        have k1_4 : World.cell? v4 ⟨b1, 4, none⟩ = some (.slice a1 C.n c1) := K1.out.cell 4
        have k1_5 : World.cell? v4 ⟨b1, 5, none⟩ = some (.bool C.veto) := K1.out.cell 5
        go_wp2_with fail
        refine (smay _ C.many C.need C.on C.at_ a1 C.n c1 C.f C.veto x Oc1.out.ints (by omega) Oc1.out.le.1 Oc1.out.le.2).mono ?_
        rintro e v5 ⟨rfl, hg⟩
        rw [show cmF ⟨C.many, C.need, C.on, C.at_, C.n, C.f, C.veto⟩ x = g from HG.out]
        clear k1_0 k1_1 k1_2 k1_3 k1_4 k1_5
        replace G := Lib.hid (gtr G.out hg)
        replace Oc1 := Lib.hid (Oc1.out.kept hg (fun g e => by cases e))
        replace K1 := Lib.hid (K1.out.keptN hg)
        clear hg
        go_wp2
        go_ret
        exact ⟨by simp, below_of G.out⟩
      case neg =>
        have hat := tmF_iff.1 (cokF_iff.1 HC.out).2.1
        have a0 : 0 ≤ C.at_ := hat.1
        have a9 : C.at_ ≤ 99 := hat.2
        clear hat
        have E : g = (stF C.on C.veto && (decide (C.need ≤ (C.n : Int)) && decide (10 ≤ x - C.at_))) := by
          rw [← HG.out]; unfold cmF; rw [show cokF C = true from HC.out, show tmF x = true from tmF_iff.2 ⟨by omega, by omega⟩]; rfl
        have HE := Lib.hid E; clear E
        cases hon : C.on with
        | false =>
          have HG0 : g = false := by rw [HE.out, hon]; rfl
          subst HG0
          have k1_0 : World.cell? v4 ⟨b1, 0, none⟩ = some (.int .i64 C.many) := K1.out.cell 0
          have k1_1 : World.cell? v4 ⟨b1, 1, none⟩ = some (.int .i64 C.need) := K1.out.cell 1
          have k1_2 : World.cell? v4 ⟨b1, 2, none⟩ = some (.bool false) := by rw [← hon]; exact K1.out.cell 2
          have k1_3 : World.cell? v4 ⟨b1, 3, none⟩ = some (.int .i64 C.at_) := K1.out.cell 3
          have k1_4 : World.cell? v4 ⟨b1, 4, none⟩ = some (.slice a1 C.n c1) := K1.out.cell 4
          have k1_5 : World.cell? v4 ⟨b1, 5, none⟩ = some (.bool C.veto) := K1.out.cell 5
          go_wp2
          go_ret
          exact ⟨by rfl, below_of G.out⟩
        | true =>
          cases hve : C.veto with
          | true =>
            have HG0 : g = false := by rw [HE.out, hon, hve]; rfl
            subst HG0
            have k1_0 : World.cell? v4 ⟨b1, 0, none⟩ = some (.int .i64 C.many) := K1.out.cell 0
            have k1_1 : World.cell? v4 ⟨b1, 1, none⟩ = some (.int .i64 C.need) := K1.out.cell 1
            have k1_2 : World.cell? v4 ⟨b1, 2, none⟩ = some (.bool true) := by rw [← hon]; exact K1.out.cell 2
            have k1_3 : World.cell? v4 ⟨b1, 3, none⟩ = some (.int .i64 C.at_) := K1.out.cell 3
            have k1_4 : World.cell? v4 ⟨b1, 4, none⟩ = some (.slice a1 C.n c1) := K1.out.cell 4
            have k1_5 : World.cell? v4 ⟨b1, 5, none⟩ = some (.bool true) := by rw [← hve]; exact K1.out.cell 5
            go_wp2
            go_ret
            exact ⟨by rfl, below_of G.out⟩
          | false =>
            by_cases hn : C.need ≤ (C.n : Int)
            case neg =>
              have HG0 : g = false := by rw [HE.out, decide_eq_false hn]; simp
              subst HG0
              have k1_0 : World.cell? v4 ⟨b1, 0, none⟩ = some (.int .i64 C.many) := K1.out.cell 0
              have k1_1 : World.cell? v4 ⟨b1, 1, none⟩ = some (.int .i64 C.need) := K1.out.cell 1
              have k1_2 : World.cell? v4 ⟨b1, 2, none⟩ = some (.bool true) := by rw [← hon]; exact K1.out.cell 2
              have k1_3 : World.cell? v4 ⟨b1, 3, none⟩ = some (.int .i64 C.at_) := K1.out.cell 3
              have k1_4 : World.cell? v4 ⟨b1, 4, none⟩ = some (.slice a1 C.n c1) := K1.out.cell 4
              have k1_5 : World.cell? v4 ⟨b1, 5, none⟩ = some (.bool false) := by rw [← hve]; exact K1.out.cell 5
              go_wp2
              go_ret
              exact ⟨by rfl, below_of G.out⟩
            case pos =>
              by_cases ht : C.at_ + 10 ≤ x
              case pos =>
                have HG0 : g = true := by rw [HE.out, hon, hve, decide_eq_true hn, decide_eq_true (by omega : 10 ≤ x - C.at_)]; rfl
                subst HG0
                have k1_0 : World.cell? v4 ⟨b1, 0, none⟩ = some (.int .i64 C.many) := K1.out.cell 0
                have k1_1 : World.cell? v4 ⟨b1, 1, none⟩ = some (.int .i64 C.need) := K1.out.cell 1
                have k1_2 : World.cell? v4 ⟨b1, 2, none⟩ = some (.bool true) := by rw [← hon]; exact K1.out.cell 2
                have k1_3 : World.cell? v4 ⟨b1, 3, none⟩ = some (.int .i64 C.at_) := K1.out.cell 3
                have k1_4 : World.cell? v4 ⟨b1, 4, none⟩ = some (.slice a1 C.n c1) := K1.out.cell 4
                have k1_5 : World.cell? v4 ⟨b1, 5, none⟩ = some (.bool false) := by rw [← hve]; exact K1.out.cell 5
                go_wp2
                go_ret
                exact ⟨by first | rfl | (simp; omega) | simp, below_of G.out⟩
              case neg =>
                have HG0 : g = false := by rw [HE.out, decide_eq_false (by omega : ¬ 10 ≤ x - C.at_)]; simp
                subst HG0
                have k1_0 : World.cell? v4 ⟨b1, 0, none⟩ = some (.int .i64 C.many) := K1.out.cell 0
                have k1_1 : World.cell? v4 ⟨b1, 1, none⟩ = some (.int .i64 C.need) := K1.out.cell 1
                have k1_2 : World.cell? v4 ⟨b1, 2, none⟩ = some (.bool true) := by rw [← hon]; exact K1.out.cell 2
                have k1_3 : World.cell? v4 ⟨b1, 3, none⟩ = some (.int .i64 C.at_) := K1.out.cell 3
                have k1_4 : World.cell? v4 ⟨b1, 4, none⟩ = some (.slice a1 C.n c1) := K1.out.cell 4
                have k1_5 : World.cell? v4 ⟨b1, 5, none⟩ = some (.bool false) := by rw [← hve]; exact K1.out.cell 5
                go_wp2
                go_ret
                exact ⟨by first | rfl | (simp; omega) | simp, below_of G.out⟩
end Run
end Go.Proofs.Ytbfmigmhmjgdgaa
