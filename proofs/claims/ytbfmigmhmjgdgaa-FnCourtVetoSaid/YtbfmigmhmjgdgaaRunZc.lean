/-
  The walk of the law on vetoes.
-/
import Derived.Test.YtbfmigmhmjgdgaaZl
namespace Go.Proofs.Ytbfmigmhmjgdgaa
namespace Run
open Go.RowKit Alg Mem Con Draw Ct
set_option linter.unusedVariables false

set_option maxRecDepth 100000 in
set_option maxHeartbeats 8000000 in
theorem FnCourtVeto (a : Option Addr) (len cap : Nat) (w : World) (hB : Bytes w w.heap.size a len) (hc : len ≤ cap) (hm : cap ≤ maxLen) :
    Calls Try.prog 5 #[.slice a len cap] w (Yes w) := by
  by_cases hbig : 1048576 < len
  · have hbig' : (1048576 : Int) < (len : Int) := by omega
    clear hB
    go_enter Try.func5, Try.ntmps5
    go_wp2
    go_ret
    exact ⟨rfl, Below.refl _ _⟩
  have hbig' : ¬ (1048576 : Int) < (len : Int) := by omega
  go_enter Try.func5, Try.ntmps5
  go_wp2_with fail
  refine (drawCtVeto w a len cap hB hc hm).mono ?_
  rintro e v1 ⟨C, a1, c1, rfl, hO, hn7, hg⟩
  have G := Lib.hid hg; have Oc1 := Lib.hid hO
  clear hg hO hB
  go_wp2_with (refine stop_store rfl ?_)
  refine ⟨trivial, ?_⟩
  refine wpList_store_atQ rfl 27 (.tmp 3) (.tmp 17) _ 0 _ _ _ #[.int .i64 C.many, .int .i64 C.need, .bool C.on, .int .i64 C.at_, .slice a1 C.n c1, .bool C.veto] 27 (Blk.new v1 #[.int .i64 0, .int .i64 0, .bool false, .int .i64 0, .slice none 0 0, .bool false] 27) rfl rfl rfl rfl (Nat.le_of_ble_eq_true rfl) (by kernel_rfl) (by kernel_rfl) (by kernel_rfl) ?_
  intro u1 hgV hT
  have hg : (v1).grownBy u1 none := grown_new (grown_alloc (v1) (.cells #[.int .i64 0, .int .i64 0, .bool false, .int .i64 0, .slice none 0 0, .bool false] 27) none) (Nat.le_refl _) hgV
  have K1 := Lib.hid hT
  clear hgV hT
  replace G := Lib.hid (gtr G.out hg)
  replace Oc1 := Lib.hid (Oc1.out.kept hg (fun g e => by cases e))
  clear hg
  generalize (v1).heap.size = b1 at *
  obtain ⟨D, hD⟩ : ∃ D, veV ⟨C.many, C.need, C.on, C.at_, C.n, C.f, C.veto⟩ = D := ⟨_, rfl⟩
  obtain ⟨g, hg0⟩ : ∃ g, veO ⟨C.many, C.need, C.on, C.at_, C.n, C.f, C.veto⟩ = g := ⟨_, rfl⟩
  have HD := Lib.hid hD; have HK := Lib.hid hg0
  have hDn : D.n ≤ 7 := by rw [← hD]; exact Nat.le_trans (veV_n _) hn7
  clear hD hg0
  have k1_0 : World.cell? u1 ⟨b1, 0, none⟩ = some (.int .i64 C.many) := K1.out.cell 0
  have k1_1 : World.cell? u1 ⟨b1, 1, none⟩ = some (.int .i64 C.need) := K1.out.cell 1
  have k1_2 : World.cell? u1 ⟨b1, 2, none⟩ = some (.bool C.on) := K1.out.cell 2
  have k1_3 : World.cell? u1 ⟨b1, 3, none⟩ = some (.int .i64 C.at_) := K1.out.cell 3
  have k1_4 : World.cell? u1 ⟨b1, 4, none⟩ = some (.slice a1 C.n c1) := K1.out.cell 4
  have k1_5 : World.cell? u1 ⟨b1, 5, none⟩ = some (.bool C.veto) := K1.out.cell 5
  go_wp2_with fail
  refine (sveto _ C.many C.need C.on C.at_ a1 C.n c1 C.f C.veto  Oc1.out.ints (by omega) Oc1.out.le.1 Oc1.out.le.2).mono ?_
  rintro e v2 ⟨a2, c2, rfl, hO, hg⟩
  rw [HD.out] at hO ⊢
  rw [HK.out]
  clear k1_0 k1_1 k1_2 k1_3 k1_4 k1_5
  replace G := Lib.hid (gtr G.out hg)
  replace Oc1 := Lib.hid (Oc1.out.kept hg (fun g e => by cases e))
  replace K1 := Lib.hid (K1.out.keptN hg)
  clear hg
  have Oc2 := Lib.hid hO
  clear hO
  go_wp2_with (refine stop_store rfl ?_)
  refine ⟨trivial, ?_⟩
  refine wpList_store_atQ rfl 27 (.tmp 4) (.tmp 21) _ 0 _ _ _ #[.int .i64 D.many, .int .i64 D.need, .bool D.on, .int .i64 D.at_, .slice a2 D.n c2, .bool D.veto] 27 (Blk.new v2 #[.int .i64 0, .int .i64 0, .bool false, .int .i64 0, .slice none 0 0, .bool false] 27) rfl rfl rfl rfl (Nat.le_of_ble_eq_true rfl) (by kernel_rfl) (by kernel_rfl) (by kernel_rfl) ?_
  intro u2 hgV hT
  have hg : (v2).grownBy u2 none := grown_new (grown_alloc (v2) (.cells #[.int .i64 0, .int .i64 0, .bool false, .int .i64 0, .slice none 0 0, .bool false] 27) none) (Nat.le_refl _) hgV
  have K2 := Lib.hid hT
  clear hgV hT
  replace G := Lib.hid (gtr G.out hg)
  replace Oc1 := Lib.hid (Oc1.out.kept hg (fun g e => by cases e))
  replace K1 := Lib.hid (K1.out.keptN hg)
  replace Oc2 := Lib.hid (Oc2.out.kept hg (fun g e => by cases e))
  clear hg
  generalize (v2).heap.size = b2 at *
  have k1_0 : World.cell? u2 ⟨b1, 0, none⟩ = some (.int .i64 C.many) := K1.out.cell 0
  have k1_1 : World.cell? u2 ⟨b1, 1, none⟩ = some (.int .i64 C.need) := K1.out.cell 1
  have k1_2 : World.cell? u2 ⟨b1, 2, none⟩ = some (.bool C.on) := K1.out.cell 2
  have k1_3 : World.cell? u2 ⟨b1, 3, none⟩ = some (.int .i64 C.at_) := K1.out.cell 3
  have k1_4 : World.cell? u2 ⟨b1, 4, none⟩ = some (.slice a1 C.n c1) := K1.out.cell 4
  have k1_5 : World.cell? u2 ⟨b1, 5, none⟩ = some (.bool C.veto) := K1.out.cell 5
  go_wp2_with fail
  refine (iveto _ C.many C.need C.on C.at_ a1 C.n c1 C.f C.veto  Oc1.out.ints (by omega) Oc1.out.le.1 Oc1.out.le.2).mono ?_
  rintro e v3 ⟨a3, c3, rfl, hO, hg⟩
  rw [HD.out] at hO ⊢
  rw [HK.out]
  clear k1_0 k1_1 k1_2 k1_3 k1_4 k1_5
  replace G := Lib.hid (gtr G.out hg)
  replace Oc1 := Lib.hid (Oc1.out.kept hg (fun g e => by cases e))
  replace K1 := Lib.hid (K1.out.keptN hg)
  replace Oc2 := Lib.hid (Oc2.out.kept hg (fun g e => by cases e))
  replace K2 := Lib.hid (K2.out.keptN hg)
  clear hg
  have Oc3 := Lib.hid hO
  clear hO
  go_wp2_with (refine stop_store rfl ?_)
  refine ⟨trivial, ?_⟩
  refine wpList_store_atQ rfl 27 (.tmp 6) (.tmp 26) _ 0 _ _ _ #[.int .i64 D.many, .int .i64 D.need, .bool D.on, .int .i64 D.at_, .slice a3 D.n c3, .bool D.veto] 27 (Blk.new v3 #[.int .i64 0, .int .i64 0, .bool false, .int .i64 0, .slice none 0 0, .bool false] 27) rfl rfl rfl rfl (Nat.le_of_ble_eq_true rfl) (by kernel_rfl) (by kernel_rfl) (by kernel_rfl) ?_
  intro u3 hgV hT
  have hg : (v3).grownBy u3 none := grown_new (grown_alloc (v3) (.cells #[.int .i64 0, .int .i64 0, .bool false, .int .i64 0, .slice none 0 0, .bool false] 27) none) (Nat.le_refl _) hgV
  have K3 := Lib.hid hT
  clear hgV hT
  replace G := Lib.hid (gtr G.out hg)
  replace Oc1 := Lib.hid (Oc1.out.kept hg (fun g e => by cases e))
  replace K1 := Lib.hid (K1.out.keptN hg)
  replace Oc2 := Lib.hid (Oc2.out.kept hg (fun g e => by cases e))
  replace K2 := Lib.hid (K2.out.keptN hg)
  replace Oc3 := Lib.hid (Oc3.out.kept hg (fun g e => by cases e))
  clear hg
  generalize (v3).heap.size = b3 at *
  have hne : (g != g) = false := by simp
  have k3_0 : World.cell? u3 ⟨b3, 0, none⟩ = some (.int .i64 D.many) := K3.out.cell 0
  have k3_1 : World.cell? u3 ⟨b3, 1, none⟩ = some (.int .i64 D.need) := K3.out.cell 1
  have k3_2 : World.cell? u3 ⟨b3, 2, none⟩ = some (.bool D.on) := K3.out.cell 2
  have k3_3 : World.cell? u3 ⟨b3, 3, none⟩ = some (.int .i64 D.at_) := K3.out.cell 3
  have k3_4 : World.cell? u3 ⟨b3, 4, none⟩ = some (.slice a3 D.n c3) := K3.out.cell 4
  have k3_5 : World.cell? u3 ⟨b3, 5, none⟩ = some (.bool D.veto) := K3.out.cell 5
  have k2_0 : World.cell? u3 ⟨b2, 0, none⟩ = some (.int .i64 D.many) := K2.out.cell 0
  have k2_1 : World.cell? u3 ⟨b2, 1, none⟩ = some (.int .i64 D.need) := K2.out.cell 1
  have k2_2 : World.cell? u3 ⟨b2, 2, none⟩ = some (.bool D.on) := K2.out.cell 2
  have k2_3 : World.cell? u3 ⟨b2, 3, none⟩ = some (.int .i64 D.at_) := K2.out.cell 3
  have k2_4 : World.cell? u3 ⟨b2, 4, none⟩ = some (.slice a2 D.n c2) := K2.out.cell 4
  have k2_5 : World.cell? u3 ⟨b2, 5, none⟩ = some (.bool D.veto) := K2.out.cell 5
  go_wp2_with fail
  refine (lpct _ D.many D.need D.on D.at_ a3 a2 D.n c3 c2 D.f D.veto Oc3.out.ints Oc2.out.ints (by omega)).mono ?_
  rintro e v4 ⟨rfl, hg⟩
  clear k3_0 k3_1 k3_2 k3_3 k3_4 k3_5 k2_0 k2_1 k2_2 k2_3 k2_4 k2_5
  replace G := Lib.hid (gtr G.out hg)
  replace Oc1 := Lib.hid (Oc1.out.kept hg (fun g e => by cases e))
  replace K1 := Lib.hid (K1.out.keptN hg)
  replace Oc2 := Lib.hid (Oc2.out.kept hg (fun g e => by cases e))
  replace K2 := Lib.hid (K2.out.keptN hg)
  replace Oc3 := Lib.hid (Oc3.out.kept hg (fun g e => by cases e))
  replace K3 := Lib.hid (K3.out.keptN hg)
  clear hg
  have k1_0 : World.cell? v4 ⟨b1, 0, none⟩ = some (.int .i64 C.many) := K1.out.cell 0
  have k1_1 : World.cell? v4 ⟨b1, 1, none⟩ = some (.int .i64 C.need) := K1.out.cell 1
  have k1_2 : World.cell? v4 ⟨b1, 2, none⟩ = some (.bool C.on) := K1.out.cell 2
  have k1_3 : World.cell? v4 ⟨b1, 3, none⟩ = some (.int .i64 C.at_) := K1.out.cell 3
  have k1_4 : World.cell? v4 ⟨b1, 4, none⟩ = some (.slice a1 C.n c1) := K1.out.cell 4
  have k1_5 : World.cell? v4 ⟨b1, 5, none⟩ = some (.bool C.veto) := K1.out.cell 5
  go_wp2_with fail
  refine (sctok _ C.many C.need C.on C.at_ a1 C.n c1 C.f C.veto Oc1.out.ints (by omega) Oc1.out.le.1 Oc1.out.le.2).mono ?_
  rintro e v5 ⟨rfl, hg⟩
  clear k1_0 k1_1 k1_2 k1_3 k1_4 k1_5
  replace G := Lib.hid (gtr G.out hg)
  replace Oc1 := Lib.hid (Oc1.out.kept hg (fun g e => by cases e))
  replace K1 := Lib.hid (K1.out.keptN hg)
  replace Oc2 := Lib.hid (Oc2.out.kept hg (fun g e => by cases e))
  replace K2 := Lib.hid (K2.out.keptN hg)
  replace Oc3 := Lib.hid (Oc3.out.kept hg (fun g e => by cases e))
  replace K3 := Lib.hid (K3.out.keptN hg)
  clear hg
  cases hk : cokF ⟨C.many, C.need, C.on, C.at_, C.n, C.f, C.veto⟩ with
  | false =>
    clear hk
    have k3_0 : World.cell? v5 ⟨b3, 0, none⟩ = some (.int .i64 D.many) := K3.out.cell 0
    have k3_1 : World.cell? v5 ⟨b3, 1, none⟩ = some (.int .i64 D.need) := K3.out.cell 1
    have k3_2 : World.cell? v5 ⟨b3, 2, none⟩ = some (.bool D.on) := K3.out.cell 2
    have k3_3 : World.cell? v5 ⟨b3, 3, none⟩ = some (.int .i64 D.at_) := K3.out.cell 3
    have k3_4 : World.cell? v5 ⟨b3, 4, none⟩ = some (.slice a3 D.n c3) := K3.out.cell 4
    have k3_5 : World.cell? v5 ⟨b3, 5, none⟩ = some (.bool D.veto) := K3.out.cell 5
    have k2_0 : World.cell? v5 ⟨b2, 0, none⟩ = some (.int .i64 D.many) := K2.out.cell 0
    have k2_1 : World.cell? v5 ⟨b2, 1, none⟩ = some (.int .i64 D.need) := K2.out.cell 1
    have k2_2 : World.cell? v5 ⟨b2, 2, none⟩ = some (.bool D.on) := K2.out.cell 2
    have k2_3 : World.cell? v5 ⟨b2, 3, none⟩ = some (.int .i64 D.at_) := K2.out.cell 3
    have k2_4 : World.cell? v5 ⟨b2, 4, none⟩ = some (.slice a2 D.n c2) := K2.out.cell 4
    have k2_5 : World.cell? v5 ⟨b2, 5, none⟩ = some (.bool D.veto) := K2.out.cell 5
    go_wp2_with fail
    refine (lpct _ D.many D.need D.on D.at_ a3 a2 D.n c3 c2 D.f D.veto Oc3.out.ints Oc2.out.ints (by omega)).mono ?_
    rintro e v9 ⟨rfl, hg⟩
    clear k3_0 k3_1 k3_2 k3_3 k3_4 k3_5 k2_0 k2_1 k2_2 k2_3 k2_4 k2_5
    replace G := Lib.hid (gtr G.out hg)
    replace Oc1 := Lib.hid (Oc1.out.kept hg (fun g e => by cases e))
    replace K1 := Lib.hid (K1.out.keptN hg)
    replace Oc2 := Lib.hid (Oc2.out.kept hg (fun g e => by cases e))
    replace K2 := Lib.hid (K2.out.keptN hg)
    replace Oc3 := Lib.hid (Oc3.out.kept hg (fun g e => by cases e))
    replace K3 := Lib.hid (K3.out.keptN hg)
    clear hg
    go_wp2
    go_ret
    exact ⟨by simp, below_of G.out⟩
  | true =>
    have HC := Lib.hid hk; clear hk
    have HG := Lib.hid (show g = stF C.on C.veto by rw [← HK.out]; show veO C = _; unfold veO; rw [show cokF C = true from HC.out]; rfl)
    cases g with
    | false =>
      cases hon : C.on with
      | false =>
        obtain rfl : C = D := by rw [← HD.out]; exact (veV_as HC.out HG.out.symm).symm
        have q2 : World.cell? v5 ⟨b1, 2, none⟩ = some (.bool false) := by rw [← hon]; exact K1.out.cell 2
        have q5 : World.cell? v5 ⟨b1, 5, none⟩ = some (.bool C.veto) := K1.out.cell 5
        have q0 : World.cell? v5 ⟨b1, 0, none⟩ = some (.int .i64 C.many) := K1.out.cell 0; have q1 : World.cell? v5 ⟨b1, 1, none⟩ = some (.int .i64 C.need) := K1.out.cell 1; have q3 : World.cell? v5 ⟨b1, 3, none⟩ = some (.int .i64 C.at_) := K1.out.cell 3; have q4 : World.cell? v5 ⟨b1, 4, none⟩ = some (.slice a1 C.n c1) := K1.out.cell 4
        have k3_0 : World.cell? v5 ⟨b3, 0, none⟩ = some (.int .i64 C.many) := K3.out.cell 0
        have k3_1 : World.cell? v5 ⟨b3, 1, none⟩ = some (.int .i64 C.need) := K3.out.cell 1
        have k3_2 : World.cell? v5 ⟨b3, 2, none⟩ = some (.bool false) := by rw [← hon]; exact K3.out.cell 2
        have k3_3 : World.cell? v5 ⟨b3, 3, none⟩ = some (.int .i64 C.at_) := K3.out.cell 3
        have k3_4 : World.cell? v5 ⟨b3, 4, none⟩ = some (.slice a3 C.n c3) := K3.out.cell 4
        have k3_5 : World.cell? v5 ⟨b3, 5, none⟩ = some (.bool C.veto) := K3.out.cell 5
        go_wp2_with fail
        refine (lpct _ C.many C.need false C.at_ a3 a1 C.n c3 c1 C.f C.veto Oc3.out.ints Oc1.out.ints (by omega)).mono ?_
        rintro e v6 ⟨rfl, hg⟩
        clear k3_0 k3_1 k3_2 k3_3 k3_4 k3_5
        clear q0 q1 q2 q3 q4 q5
        replace G := Lib.hid (gtr G.out hg)
        replace Oc1 := Lib.hid (Oc1.out.kept hg (fun g e => by cases e))
        replace K1 := Lib.hid (K1.out.keptN hg)
        replace Oc2 := Lib.hid (Oc2.out.kept hg (fun g e => by cases e))
        replace K2 := Lib.hid (K2.out.keptN hg)
        replace Oc3 := Lib.hid (Oc3.out.kept hg (fun g e => by cases e))
        replace K3 := Lib.hid (K3.out.keptN hg)
        clear hg
        go_wp2
        go_ret
        exact ⟨by simp, below_of G.out⟩
      | true =>
        cases hve : C.veto with
        | true =>
          obtain rfl : C = D := by rw [← HD.out]; exact (veV_as HC.out HG.out.symm).symm
          have q2 : World.cell? v5 ⟨b1, 2, none⟩ = some (.bool true) := by rw [← hon]; exact K1.out.cell 2
          have q5 : World.cell? v5 ⟨b1, 5, none⟩ = some (.bool true) := by rw [← hve]; exact K1.out.cell 5
          have q0 : World.cell? v5 ⟨b1, 0, none⟩ = some (.int .i64 C.many) := K1.out.cell 0; have q1 : World.cell? v5 ⟨b1, 1, none⟩ = some (.int .i64 C.need) := K1.out.cell 1; have q3 : World.cell? v5 ⟨b1, 3, none⟩ = some (.int .i64 C.at_) := K1.out.cell 3; have q4 : World.cell? v5 ⟨b1, 4, none⟩ = some (.slice a1 C.n c1) := K1.out.cell 4
          have k3_0 : World.cell? v5 ⟨b3, 0, none⟩ = some (.int .i64 C.many) := K3.out.cell 0
          have k3_1 : World.cell? v5 ⟨b3, 1, none⟩ = some (.int .i64 C.need) := K3.out.cell 1
          have k3_2 : World.cell? v5 ⟨b3, 2, none⟩ = some (.bool true) := by rw [← hon]; exact K3.out.cell 2
          have k3_3 : World.cell? v5 ⟨b3, 3, none⟩ = some (.int .i64 C.at_) := K3.out.cell 3
          have k3_4 : World.cell? v5 ⟨b3, 4, none⟩ = some (.slice a3 C.n c3) := K3.out.cell 4
          have k3_5 : World.cell? v5 ⟨b3, 5, none⟩ = some (.bool true) := by rw [← hve]; exact K3.out.cell 5
          go_wp2_with fail
          refine (lpct _ C.many C.need true C.at_ a3 a1 C.n c3 c1 C.f true Oc3.out.ints Oc1.out.ints (by omega)).mono ?_
          rintro e v6 ⟨rfl, hg⟩
          clear k3_0 k3_1 k3_2 k3_3 k3_4 k3_5
          clear q0 q1 q2 q3 q4 q5
          replace G := Lib.hid (gtr G.out hg)
          replace Oc1 := Lib.hid (Oc1.out.kept hg (fun g e => by cases e))
          replace K1 := Lib.hid (K1.out.keptN hg)
          replace Oc2 := Lib.hid (Oc2.out.kept hg (fun g e => by cases e))
          replace K2 := Lib.hid (K2.out.keptN hg)
          replace Oc3 := Lib.hid (Oc3.out.kept hg (fun g e => by cases e))
          replace K3 := Lib.hid (K3.out.keptN hg)
          clear hg
          go_wp2
          go_ret
          exact ⟨by simp, below_of G.out⟩
        | false =>
          exfalso
          have := HG.out
          rw [hon, hve] at this
          exact absurd this (by decide)
    | true =>
      obtain rfl : endC C = D := by rw [← HD.out]; exact (veV_nw HC.out HG.out.symm).symm
      have HVO := Lib.hid (veV_ok HK.out); have hcE : cokF (endC C) = true := by have := HVO.out; rw [show veV C = endC C from veV_nw HC.out HG.out.symm] at this; exact this.1
      have HCE := Lib.hid hcE; clear hcE HVO
      have HS2 := Lib.hid (show stF (endC C).on (endC C).veto = false by simp [stF, endC])
      have HMY := Lib.hid (show ∀ t : Int, cmF (endC C) t = false from fun t => by unfold cmF; rw [HS2.out]; simp)
      have OZ := Lib.hid (Oc3.out.lower (Nat.zero_le _))
      go_wp2
      go_loopw [8] (fun i wr => ∃ k : Nat, k ≤ 100 ∧ i = .int .i64 k ∧ w.grownBy wr none ∧ Blk wr b3 #[.int .i64 (endC C).many, .int .i64 (endC C).need, .bool (endC C).on, .int .i64 (endC C).at_, .slice a3 (endC C).n c3, .bool (endC C).veto] 27 ∧ OEQ wr 0 a3 (endC C).n c3 (endC C).f) (fun i _ => 100 - (intOf i).toNat)
      case atStart => exact ⟨0, by omega, rfl, G.out, K3.out, OZ.out⟩
      case round =>
        clear G K1 K2 K3 Oc1 Oc2 Oc3 OZ
        obtain ⟨k, hk100, rfl, hG, hK, hO⟩ := hrel
        have G := Lib.hid hG; have K3 := Lib.hid hK; have Oc3 := Lib.hid hO
        clear hG hK hO
        by_cases hk99 : k ≤ 99
        case pos =>
          have hk99' : (k : Int) ≤ 99 := by omega
          have k3_0 : World.cell? wr ⟨b3, 0, none⟩ = some (.int .i64 C.many) := K3.out.cell 0
          have k3_1 : World.cell? wr ⟨b3, 1, none⟩ = some (.int .i64 C.need) := K3.out.cell 1
          have k3_2 : World.cell? wr ⟨b3, 2, none⟩ = some (.bool C.on) := K3.out.cell 2
          have k3_3 : World.cell? wr ⟨b3, 3, none⟩ = some (.int .i64 C.at_) := K3.out.cell 3
          have k3_4 : World.cell? wr ⟨b3, 4, none⟩ = some (.slice a3 C.n c3) := K3.out.cell 4
          have k3_5 : World.cell? wr ⟨b3, 5, none⟩ = some (.bool true) := K3.out.cell 5
          go_wp2_with fail
          refine (imay _ C.many C.need C.on C.at_ a3 C.n c3 C.f true (k : Int) Oc3.out.ints (by omega) Oc3.out.le.1 Oc3.out.le.2).mono ?_
          rintro e v6 ⟨rfl, hg⟩
          rw [show cmF ⟨C.many, C.need, C.on, C.at_, C.n, C.f, true⟩ (k : Int) = false from HMY.out _]
          clear k3_0 k3_1 k3_2 k3_3 k3_4 k3_5
          replace G := Lib.hid (gtr G.out hg)
          replace K3 := Lib.hid (K3.out.keptN hg)
          replace Oc3 := Lib.hid (Oc3.out.kept hg (fun g e => by cases e))
          clear hg
          go_wp2
          go_roundw
          case rel => exact ⟨k + 1, by omega, by go_num, G.out, K3.out, Oc3.out⟩
          case measure => simp [intOf]; omega
        case neg =>
          obtain rfl : k = 100 := by omega
          obtain ⟨D4, hD4⟩ : ∃ D4, vtV ⟨(endC C).many, (endC C).need, (endC C).on, (endC C).at_, (endC C).n, (endC C).f, (endC C).veto⟩ 1 = D4 := ⟨_, rfl⟩
          have HD4 := Lib.hid hD4; clear hD4
          have HK4 := Lib.hid (show vtO ⟨(endC C).many, (endC C).need, (endC C).on, (endC C).at_, (endC C).n, (endC C).f, (endC C).veto⟩ 1 = false by show vtO (endC C) 1 = false; rw [vtO_as]; unfold vtA; rw [HS2.out]; simp)
          have k3_0 : World.cell? wr ⟨b3, 0, none⟩ = some (.int .i64 (endC C).many) := K3.out.cell 0
          have k3_1 : World.cell? wr ⟨b3, 1, none⟩ = some (.int .i64 (endC C).need) := K3.out.cell 1
          have k3_2 : World.cell? wr ⟨b3, 2, none⟩ = some (.bool (endC C).on) := K3.out.cell 2
          have k3_3 : World.cell? wr ⟨b3, 3, none⟩ = some (.int .i64 (endC C).at_) := K3.out.cell 3
          have k3_4 : World.cell? wr ⟨b3, 4, none⟩ = some (.slice a3 (endC C).n c3) := K3.out.cell 4
          have k3_5 : World.cell? wr ⟨b3, 5, none⟩ = some (.bool (endC C).veto) := K3.out.cell 5
          go_wp2_with fail
          refine (ivote _ (endC C).many (endC C).need (endC C).on (endC C).at_ a3 (endC C).n c3 (endC C).f (endC C).veto 1 Oc3.out.ints (by omega) Oc3.out.le.1 Oc3.out.le.2).mono ?_
          rintro e v4 ⟨a4, c4, rfl, hO, hg⟩
          rw [HD4.out] at hO ⊢
          rw [HK4.out]
          clear k3_0 k3_1 k3_2 k3_3 k3_4 k3_5
          replace G := Lib.hid (gtr G.out hg)
          replace K3 := Lib.hid (K3.out.keptN hg)
          replace Oc3 := Lib.hid (Oc3.out.kept hg (fun g e => by cases e))
          clear hg
          have Oc4 := Lib.hid hO
          clear hO
          go_wp2_with (refine stop_store rfl ?_)
          refine ⟨trivial, ?_⟩
          refine wpList_store_atQ rfl 27 (.tmp 9) (.tmp 75) _ 0 _ _ _ #[.int .i64 D4.many, .int .i64 D4.need, .bool D4.on, .int .i64 D4.at_, .slice a4 D4.n c4, .bool D4.veto] 27 (Blk.new v4 #[.int .i64 0, .int .i64 0, .bool false, .int .i64 0, .slice none 0 0, .bool false] 27) rfl rfl rfl rfl (Nat.le_of_ble_eq_true rfl) (by kernel_rfl) (by kernel_rfl) (by kernel_rfl) ?_
          intro u4 hgV hT
          have hg : (v4).grownBy u4 none := grown_new (grown_alloc (v4) (.cells #[.int .i64 0, .int .i64 0, .bool false, .int .i64 0, .slice none 0 0, .bool false] 27) none) (Nat.le_refl _) hgV
          have K4 := Lib.hid hT
          clear hgV hT
          replace G := Lib.hid (gtr G.out hg)
          replace K3 := Lib.hid (K3.out.keptN hg)
          replace Oc3 := Lib.hid (Oc3.out.kept hg (fun g e => by cases e))
          replace Oc4 := Lib.hid (Oc4.out.kept hg (fun g e => by cases e))
          clear hg
          generalize (v4).heap.size = b4 at *
          have HT := Lib.hid (tmF_iff.2 ⟨by omega, by omega⟩ : tmF 50 = true)
          have HKT := Lib.hid (show (cokF (endC C) && tmF 50) = true by rw [HCE.out, HT.out]; rfl)
          have HD2 := Lib.hid (show opV ⟨(endC C).many, (endC C).need, (endC C).on, (endC C).at_, (endC C).n, (endC C).f, (endC C).veto⟩ 50 = newC (endC C) 50 from opV_nw HKT.out HS2.out)
          have HK2 := Lib.hid (show opO ⟨(endC C).many, (endC C).need, (endC C).on, (endC C).at_, (endC C).n, (endC C).f, (endC C).veto⟩ 50 = true by show opO (endC C) 50 = true; rw [opO_as, HKT.out, HS2.out]; rfl)
          have k3_0 : World.cell? u4 ⟨b3, 0, none⟩ = some (.int .i64 (endC C).many) := K3.out.cell 0
          have k3_1 : World.cell? u4 ⟨b3, 1, none⟩ = some (.int .i64 (endC C).need) := K3.out.cell 1
          have k3_2 : World.cell? u4 ⟨b3, 2, none⟩ = some (.bool (endC C).on) := K3.out.cell 2
          have k3_3 : World.cell? u4 ⟨b3, 3, none⟩ = some (.int .i64 (endC C).at_) := K3.out.cell 3
          have k3_4 : World.cell? u4 ⟨b3, 4, none⟩ = some (.slice a3 (endC C).n c3) := K3.out.cell 4
          have k3_5 : World.cell? u4 ⟨b3, 5, none⟩ = some (.bool (endC C).veto) := K3.out.cell 5
          go_wp2_with fail
          refine (iopen _ (endC C).many (endC C).need (endC C).on (endC C).at_ a3 (endC C).n c3 (endC C).f (endC C).veto 50 Oc3.out.ints (by omega) Oc3.out.le.1 Oc3.out.le.2).mono ?_
          rintro e v5 ⟨a5, c5, rfl, hO, hg⟩
          rw [HD2.out] at hO ⊢
          rw [HK2.out]
          clear k3_0 k3_1 k3_2 k3_3 k3_4 k3_5
          replace G := Lib.hid (gtr G.out hg)
          replace K3 := Lib.hid (K3.out.keptN hg)
          replace Oc3 := Lib.hid (Oc3.out.kept hg (fun g e => by cases e))
          replace Oc4 := Lib.hid (Oc4.out.kept hg (fun g e => by cases e))
          replace K4 := Lib.hid (K4.out.keptN hg)
          clear hg
          have Oc5 := Lib.hid hO
          clear hO
          go_wp2_with (refine stop_store rfl ?_)
          refine ⟨trivial, ?_⟩
          refine wpList_store_atQ rfl 27 (.tmp 11) (.tmp 80) _ 0 _ _ _ #[.int .i64 (newC (endC C) 50).many, .int .i64 (newC (endC C) 50).need, .bool (newC (endC C) 50).on, .int .i64 (newC (endC C) 50).at_, .slice a5 (newC (endC C) 50).n c5, .bool (newC (endC C) 50).veto] 27 (Blk.new v5 #[.int .i64 0, .int .i64 0, .bool false, .int .i64 0, .slice none 0 0, .bool false] 27) rfl rfl rfl rfl (Nat.le_of_ble_eq_true rfl) (by kernel_rfl) (by kernel_rfl) (by kernel_rfl) ?_
          intro u5 hgV hT
          have hg : (v5).grownBy u5 none := grown_new (grown_alloc (v5) (.cells #[.int .i64 0, .int .i64 0, .bool false, .int .i64 0, .slice none 0 0, .bool false] 27) none) (Nat.le_refl _) hgV
          have K5 := Lib.hid hT
          clear hgV hT
          replace G := Lib.hid (gtr G.out hg)
          replace K3 := Lib.hid (K3.out.keptN hg)
          replace Oc3 := Lib.hid (Oc3.out.kept hg (fun g e => by cases e))
          replace Oc4 := Lib.hid (Oc4.out.kept hg (fun g e => by cases e))
          replace K4 := Lib.hid (K4.out.keptN hg)
          replace Oc5 := Lib.hid (Oc5.out.kept hg (fun g e => by cases e))
          clear hg
          generalize (v5).heap.size = b5 at *
          have k3_0 : World.cell? u5 ⟨b3, 0, none⟩ = some (.int .i64 C.many) := K3.out.cell 0
          have k3_1 : World.cell? u5 ⟨b3, 1, none⟩ = some (.int .i64 C.need) := K3.out.cell 1
          have k3_2 : World.cell? u5 ⟨b3, 2, none⟩ = some (.bool C.on) := K3.out.cell 2
          have k3_3 : World.cell? u5 ⟨b3, 3, none⟩ = some (.int .i64 C.at_) := K3.out.cell 3
          have k3_4 : World.cell? u5 ⟨b3, 4, none⟩ = some (.slice a3 C.n c3) := K3.out.cell 4
          have k3_5 : World.cell? u5 ⟨b3, 5, none⟩ = some (.bool true) := K3.out.cell 5
          go_wp2_with fail
          refine (ictok _ C.many C.need C.on C.at_ a3 C.n c3 C.f true Oc3.out.ints (by omega) Oc3.out.le.1 Oc3.out.le.2).mono ?_
          rintro e v7 ⟨rfl, hg⟩
          rw [show cokF ⟨C.many, C.need, C.on, C.at_, C.n, C.f, true⟩ = true from HCE.out]
          clear k3_0 k3_1 k3_2 k3_3 k3_4 k3_5
          replace G := Lib.hid (gtr G.out hg)
          replace K3 := Lib.hid (K3.out.keptN hg)
          replace Oc3 := Lib.hid (Oc3.out.kept hg (fun g e => by cases e))
          replace Oc4 := Lib.hid (Oc4.out.kept hg (fun g e => by cases e))
          replace K4 := Lib.hid (K4.out.keptN hg)
          replace Oc5 := Lib.hid (Oc5.out.kept hg (fun g e => by cases e))
          replace K5 := Lib.hid (K5.out.keptN hg)
          clear hg
          go_wp2
          go_ret
          exact ⟨by simp, below_of G.out⟩
end Run
end Go.Proofs.Ytbfmigmhmjgdgaa
