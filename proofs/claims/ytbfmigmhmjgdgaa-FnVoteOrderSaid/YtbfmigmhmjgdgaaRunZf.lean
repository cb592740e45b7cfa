/-
  The walk of the law on the order of votes.
-/
import Derived.Test.YtbfmigmhmjgdgaaZl
namespace Go.Proofs.Ytbfmigmhmjgdgaa
namespace Run
open Go.RowKit Alg Mem Con Draw Ct
set_option linter.unusedVariables false

theorem cmF_two {C : CV} {x y : Int} (h1 : cokF (addC (addC C x) y) = true) (h2 : cokF (addC (addC C y) x) = true) (t : Int) : cmF (addC (addC C y) x) t = cmF (addC (addC C x) y) t := by
  unfold cmF; rw [h1, h2]; rfl
theorem vtO_addC {C : CV} {x y : Int} (h1 : cokF (addC C x) = true) (h2 : mgF C.many y = true) (h3 : cokF C = true) : vtO (addC C x) y = (vtO C y && (y != x)) := by
  rw [vtO_as, vtO_as, h1, h3, show mgF (addC C x).many y = true from h2, h2]
  unfold vtA
  rw [show hasz (addC C x).f y (addC C x).n = (hasz C.f y C.n || (x == y)) from hasz_addz]
  show (true && true && (stF C.on C.veto && !(hasz C.f y C.n || (x == y)))) = (true && true && (stF C.on C.veto && !hasz C.f y C.n) && (y != x))
  by_cases e : y = x
  · subst e; simp
  · have e1 : (x == y) = false := by simp; exact fun h => e h.symm
    have e2 : (y != x) = true := by simpa using e
    rw [e1, e2]; simp
theorem vtO_parts {C : CV} {x : Int} (h : vtO C x = true) : cokF C = true ∧ mgF C.many x = true ∧ vtA C x = true := by
  rw [vtO_as] at h; simp only [Bool.and_eq_true] at h; exact ⟨h.1.1, h.1.2, h.2⟩
theorem vtV_of {C : CV} {x : Int} (h : vtO C x = true) : vtV C x = addC C x := vtV_nw (by rw [(vtO_parts h).1, (vtO_parts h).2.1]; rfl) (vtO_parts h).2.2
theorem cok_of {C : CV} {x : Int} (h : vtO C x = true) : cokF (addC C x) = true := by rw [← vtV_of h]; exact (vtV_ok h).1
set_option maxRecDepth 100000 in
set_option maxHeartbeats 8000000 in
theorem FnVoteOrder (a : Option Addr) (len cap : Nat) (ab : Option Addr) (lenb capb : Nat) (w : World) (hB : Bytes w w.heap.size a len) (hc : len ≤ cap) (hm : cap ≤ maxLen) (hcb : lenb ≤ capb) (hmb : capb ≤ maxLen) :
    Calls Try.prog 11 #[.slice a len cap, .slice ab lenb capb] w (Yes w) := by
  by_cases hbig : 1048576 < len
  · have hbig' : (1048576 : Int) < (len : Int) := by omega
    clear hB
    go_enter Try.func11, Try.ntmps11
    go_wp2
    go_ret
    exact ⟨rfl, Below.refl _ _⟩
  have hbig' : ¬ (1048576 : Int) < (len : Int) := by omega
  by_cases hbih : 1048576 < lenb
  · have hbih' : (1048576 : Int) < (lenb : Int) := by omega
    clear hB
    go_enter Try.func11, Try.ntmps11
    go_wp2
    go_ret
    exact ⟨rfl, Below.refl _ _⟩
  have hbih' : ¬ (1048576 : Int) < (lenb : Int) := by omega
  go_enter Try.func11, Try.ntmps11
  go_wp2_with fail
  refine (drawCtVote w a len cap hB hc hm).mono ?_
  rintro e v1 ⟨C, a1, c1, x, rfl, hO, hn7, hg⟩
  have G := Lib.hid hg; have Oc1 := Lib.hid hO
  clear hg hO hB
  go_wp2_with (refine stop_store rfl ?_)
  refine ⟨trivial, ?_⟩
  refine wpList_store_atQ rfl 27 (.tmp 5) (.tmp 29) _ 0 _ _ _ #[.int .i64 C.many, .int .i64 C.need, .bool C.on, .int .i64 C.at_, .slice a1 C.n c1, .bool C.veto] 27 (Blk.new v1 #[.int .i64 0, .int .i64 0, .bool false, .int .i64 0, .slice none 0 0, .bool false] 27) rfl rfl rfl rfl (Nat.le_of_ble_eq_true rfl) (by kernel_rfl) (by kernel_rfl) (by kernel_rfl) ?_
  intro u1 hgV hT
  have hg : (v1).grownBy u1 none := grown_new (grown_alloc (v1) (.cells #[.int .i64 0, .int .i64 0, .bool false, .int .i64 0, .slice none 0 0, .bool false] 27) none) (Nat.le_refl _) hgV
  have K1 := Lib.hid hT
  clear hgV hT
  replace G := Lib.hid (gtr G.out hg)
  replace Oc1 := Lib.hid (Oc1.out.kept hg (fun g e => by cases e))
  clear hg
  generalize (v1).heap.size = b1 at *
  obtain ⟨D, hD⟩ : ∃ D, vtV ⟨C.many, C.need, C.on, C.at_, C.n, C.f, C.veto⟩ x = D := ⟨_, rfl⟩
  obtain ⟨g, hg0⟩ : ∃ g, vtO ⟨C.many, C.need, C.on, C.at_, C.n, C.f, C.veto⟩ x = g := ⟨_, rfl⟩
  have HD := Lib.hid hD; have HK := Lib.hid hg0
  have hDn : D.n ≤ 8 := by rw [← hD]; exact Nat.le_trans (vtV_n _ _) (by show C.n + 1 ≤ 8; omega)
  clear hD hg0
  have k1_0 : World.cell? u1 ⟨b1, 0, none⟩ = some (.int .i64 C.many) := K1.out.cell 0
  have k1_1 : World.cell? u1 ⟨b1, 1, none⟩ = some (.int .i64 C.need) := K1.out.cell 1
  have k1_2 : World.cell? u1 ⟨b1, 2, none⟩ = some (.bool C.on) := K1.out.cell 2
  have k1_3 : World.cell? u1 ⟨b1, 3, none⟩ = some (.int .i64 C.at_) := K1.out.cell 3
  have k1_4 : World.cell? u1 ⟨b1, 4, none⟩ = some (.slice a1 C.n c1) := K1.out.cell 4
  have k1_5 : World.cell? u1 ⟨b1, 5, none⟩ = some (.bool C.veto) := K1.out.cell 5
  go_wp2_with fail
  refine (svote _ C.many C.need C.on C.at_ a1 C.n c1 C.f C.veto x Oc1.out.ints (by omega) Oc1.out.le.1 Oc1.out.le.2).mono ?_
  rintro e v2 ⟨a2, c2, rfl, hO, hg⟩
  rw [HD.out] at hO ⊢
  rw [HK.out]
  clear k1_0 k1_1 k1_2 k1_3 k1_4 k1_5
  replace G := Lib.hid (gtr G.out hg)
  replace Oc1 := Lib.hid (Oc1.out.kept hg (fun g e => by cases e))
  replace K1 := Lib.hid (K1.out.keptN hg)
  clear hg
  have Oc2 := Lib.hid hO
  clear hO
  go_wp2_with (refine stop_store rfl ?_)
  refine ⟨trivial, ?_⟩
  refine wpList_store_atQ rfl 27 (.tmp 7) (.tmp 35) _ 0 _ _ _ #[.int .i64 D.many, .int .i64 D.need, .bool D.on, .int .i64 D.at_, .slice a2 D.n c2, .bool D.veto] 27 (Blk.new v2 #[.int .i64 0, .int .i64 0, .bool false, .int .i64 0, .slice none 0 0, .bool false] 27) rfl rfl rfl rfl (Nat.le_of_ble_eq_true rfl) (by kernel_rfl) (by kernel_rfl) (by kernel_rfl) ?_
  intro u2 hgV hT
  have hg : (v2).grownBy u2 none := grown_new (grown_alloc (v2) (.cells #[.int .i64 0, .int .i64 0, .bool false, .int .i64 0, .slice none 0 0, .bool false] 27) none) (Nat.le_refl _) hgV
  have K2 := Lib.hid hT
  clear hgV hT
  replace G := Lib.hid (gtr G.out hg)
  replace Oc1 := Lib.hid (Oc1.out.kept hg (fun g e => by cases e))
  replace K1 := Lib.hid (K1.out.keptN hg)
  replace Oc2 := Lib.hid (Oc2.out.kept hg (fun g e => by cases e))
  clear hg
  generalize (v2).heap.size = b2 at *
  have k1_0 : World.cell? u2 ⟨b1, 0, none⟩ = some (.int .i64 C.many) := K1.out.cell 0
  have k1_1 : World.cell? u2 ⟨b1, 1, none⟩ = some (.int .i64 C.need) := K1.out.cell 1
  have k1_2 : World.cell? u2 ⟨b1, 2, none⟩ = some (.bool C.on) := K1.out.cell 2
  have k1_3 : World.cell? u2 ⟨b1, 3, none⟩ = some (.int .i64 C.at_) := K1.out.cell 3
  have k1_4 : World.cell? u2 ⟨b1, 4, none⟩ = some (.slice a1 C.n c1) := K1.out.cell 4
  have k1_5 : World.cell? u2 ⟨b1, 5, none⟩ = some (.bool C.veto) := K1.out.cell 5
  go_wp2_with fail
  refine (ivote _ C.many C.need C.on C.at_ a1 C.n c1 C.f C.veto x Oc1.out.ints (by omega) Oc1.out.le.1 Oc1.out.le.2).mono ?_
  rintro e v3 ⟨a3, c3, rfl, hO, hg⟩
  rw [HD.out] at hO ⊢
  rw [HK.out]
  clear k1_0 k1_1 k1_2 k1_3 k1_4 k1_5
  replace G := Lib.hid (gtr G.out hg)
  replace Oc1 := Lib.hid (Oc1.out.kept hg (fun g e => by cases e))
  replace K1 := Lib.hid (K1.out.keptN hg)
  replace Oc2 := Lib.hid (Oc2.out.kept hg (fun g e => by cases e))
  replace K2 := Lib.hid (K2.out.keptN hg)
  clear hg
  have Oc3 := Lib.hid hO
  clear hO
  go_wp2_with (refine stop_store rfl ?_)
  refine ⟨trivial, ?_⟩
  refine wpList_store_atQ rfl 27 (.tmp 9) (.tmp 41) _ 0 _ _ _ #[.int .i64 D.many, .int .i64 D.need, .bool D.on, .int .i64 D.at_, .slice a3 D.n c3, .bool D.veto] 27 (Blk.new v3 #[.int .i64 0, .int .i64 0, .bool false, .int .i64 0, .slice none 0 0, .bool false] 27) rfl rfl rfl rfl (Nat.le_of_ble_eq_true rfl) (by kernel_rfl) (by kernel_rfl) (by kernel_rfl) ?_
  intro u3 hgV hT
  have hg : (v3).grownBy u3 none := grown_new (grown_alloc (v3) (.cells #[.int .i64 0, .int .i64 0, .bool false, .int .i64 0, .slice none 0 0, .bool false] 27) none) (Nat.le_refl _) hgV
  have K3 := Lib.hid hT
  clear hgV hT
  replace G := Lib.hid (gtr G.out hg)
  replace Oc1 := Lib.hid (Oc1.out.kept hg (fun g e => by cases e))
  replace K1 := Lib.hid (K1.out.keptN hg)
  replace Oc2 := Lib.hid (Oc2.out.kept hg (fun g e => by cases e))
  replace K2 := Lib.hid (K2.out.keptN hg)
  replace Oc3 := Lib.hid (Oc3.out.kept hg (fun g e => by cases e))
  clear hg
  generalize (v3).heap.size = b3 at *
  have hne : (g != g) = false := by simp
  have k3_0 : World.cell? u3 ⟨b3, 0, none⟩ = some (.int .i64 D.many) := K3.out.cell 0
  have k3_1 : World.cell? u3 ⟨b3, 1, none⟩ = some (.int .i64 D.need) := K3.out.cell 1
  have k3_2 : World.cell? u3 ⟨b3, 2, none⟩ = some (.bool D.on) := K3.out.cell 2
  have k3_3 : World.cell? u3 ⟨b3, 3, none⟩ = some (.int .i64 D.at_) := K3.out.cell 3
  have k3_4 : World.cell? u3 ⟨b3, 4, none⟩ = some (.slice a3 D.n c3) := K3.out.cell 4
  have k3_5 : World.cell? u3 ⟨b3, 5, none⟩ = some (.bool D.veto) := K3.out.cell 5
  have k2_0 : World.cell? u3 ⟨b2, 0, none⟩ = some (.int .i64 D.many) := K2.out.cell 0
  have k2_1 : World.cell? u3 ⟨b2, 1, none⟩ = some (.int .i64 D.need) := K2.out.cell 1
  have k2_2 : World.cell? u3 ⟨b2, 2, none⟩ = some (.bool D.on) := K2.out.cell 2
  have k2_3 : World.cell? u3 ⟨b2, 3, none⟩ = some (.int .i64 D.at_) := K2.out.cell 3
  have k2_4 : World.cell? u3 ⟨b2, 4, none⟩ = some (.slice a2 D.n c2) := K2.out.cell 4
  have k2_5 : World.cell? u3 ⟨b2, 5, none⟩ = some (.bool D.veto) := K2.out.cell 5
  go_wp2_with fail
  refine (lpct _ D.many D.need D.on D.at_ a3 a2 D.n c3 c2 D.f D.veto Oc3.out.ints Oc2.out.ints (by omega)).mono ?_
  rintro e v4 ⟨rfl, hg⟩
  clear k3_0 k3_1 k3_2 k3_3 k3_4 k3_5 k2_0 k2_1 k2_2 k2_3 k2_4 k2_5
  replace G := Lib.hid (gtr G.out hg)
  replace Oc1 := Lib.hid (Oc1.out.kept hg (fun g e => by cases e))
  replace K1 := Lib.hid (K1.out.keptN hg)
  replace Oc2 := Lib.hid (Oc2.out.kept hg (fun g e => by cases e))
  replace K2 := Lib.hid (K2.out.keptN hg)
  replace Oc3 := Lib.hid (Oc3.out.kept hg (fun g e => by cases e))
  replace K3 := Lib.hid (K3.out.keptN hg)
  clear hg
  cases g with
  | false =>
    have k3_0 : World.cell? v4 ⟨b3, 0, none⟩ = some (.int .i64 D.many) := K3.out.cell 0
    have k3_1 : World.cell? v4 ⟨b3, 1, none⟩ = some (.int .i64 D.need) := K3.out.cell 1
    have k3_2 : World.cell? v4 ⟨b3, 2, none⟩ = some (.bool D.on) := K3.out.cell 2
    have k3_3 : World.cell? v4 ⟨b3, 3, none⟩ = some (.int .i64 D.at_) := K3.out.cell 3
    have k3_4 : World.cell? v4 ⟨b3, 4, none⟩ = some (.slice a3 D.n c3) := K3.out.cell 4
    have k3_5 : World.cell? v4 ⟨b3, 5, none⟩ = some (.bool D.veto) := K3.out.cell 5
    have k2_0 : World.cell? v4 ⟨b2, 0, none⟩ = some (.int .i64 D.many) := K2.out.cell 0
    have k2_1 : World.cell? v4 ⟨b2, 1, none⟩ = some (.int .i64 D.need) := K2.out.cell 1
    have k2_2 : World.cell? v4 ⟨b2, 2, none⟩ = some (.bool D.on) := K2.out.cell 2
    have k2_3 : World.cell? v4 ⟨b2, 3, none⟩ = some (.int .i64 D.at_) := K2.out.cell 3
    have k2_4 : World.cell? v4 ⟨b2, 4, none⟩ = some (.slice a2 D.n c2) := K2.out.cell 4
    have k2_5 : World.cell? v4 ⟨b2, 5, none⟩ = some (.bool D.veto) := K2.out.cell 5
    go_wp2_with fail
    refine (lpct _ D.many D.need D.on D.at_ a3 a2 D.n c3 c2 D.f D.veto Oc3.out.ints Oc2.out.ints (by omega)).mono ?_
    rintro e v9 ⟨rfl, hg⟩
    clear k3_0 k3_1 k3_2 k3_3 k3_4 k3_5 k2_0 k2_1 k2_2 k2_3 k2_4 k2_5
    replace G := Lib.hid (gtr G.out hg)
    replace Oc1 := Lib.hid (Oc1.out.kept hg (fun g e => by cases e))
    replace K1 := Lib.hid (K1.out.keptN hg)
    replace Oc2 := Lib.hid (Oc2.out.kept hg (fun g e => by cases e))
    replace K2 := Lib.hid (K2.out.keptN hg)
    replace Oc3 := Lib.hid (Oc3.out.kept hg (fun g e => by cases e))
    replace K3 := Lib.hid (K3.out.keptN hg)
    clear hg
    go_wp2
    go_ret
    exact ⟨by simp, below_of G.out⟩
  | true =>
    have HO := Lib.hid (show vtO C x = true from HK.out)
    obtain rfl : addC C x = D := by rw [← HD.out]; exact (vtV_of HO.out).symm
    have HP := Lib.hid (vtO_parts HO.out)
    have hm5 := (crew_iff.1 (cokF_iff.1 HP.out.1).1).2.2
    have hm1 : 1 ≤ C.many := by have := mgF_iff.1 HP.out.2.1; omega
    obtain ⟨d, hd⟩ : ∃ d : Nat, ((lenb : Int)).tmod C.many = (d : Int) := ⟨(((lenb : Int)).tmod C.many).toNat, by have := Int.tmod_nonneg (a := (lenb : Int)) C.many (by omega); omega⟩
    have hdl : (d : Int) < C.many := by rw [← hd]; exact Int.tmod_lt_of_pos _ (by omega)
    have hnz : ¬ C.many = 0 := by omega
    have HY := Lib.hid (mgF_iff.2 ⟨by omega, by omega⟩ : mgF C.many (1 + (d : Int)) = true)
    obtain ⟨D4, hD4⟩ : ∃ D4, vtV ⟨(addC C x).many, (addC C x).need, (addC C x).on, (addC C x).at_, (addC C x).n, (addC C x).f, (addC C x).veto⟩ (1 + (d : Int)) = D4 := ⟨_, rfl⟩
    obtain ⟨g4, hg4⟩ : ∃ g4, vtO (addC C x) (1 + (d : Int)) = g4 := ⟨_, rfl⟩
    have HD4 := Lib.hid hD4
    have HK4 := Lib.hid (show vtO ⟨(addC C x).many, (addC C x).need, (addC C x).on, (addC C x).at_, (addC C x).n, (addC C x).f, (addC C x).veto⟩ (1 + (d : Int)) = g4 from hg4)
    obtain ⟨D5, hD5⟩ : ∃ D5, vtV ⟨C.many, C.need, C.on, C.at_, C.n, C.f, C.veto⟩ (1 + (d : Int)) = D5 := ⟨_, rfl⟩
    obtain ⟨g5, hg5⟩ : ∃ g5, vtO C (1 + (d : Int)) = g5 := ⟨_, rfl⟩
    have HD5 := Lib.hid hD5
    have HK5 := Lib.hid (show vtO ⟨C.many, C.need, C.on, C.at_, C.n, C.f, C.veto⟩ (1 + (d : Int)) = g5 from hg5)
    have hE : g4 = (g5 && ((1 + (d : Int)) != x)) := by rw [← hg4, ← hg5]; exact vtO_addC (cok_of HO.out) HY.out HP.out.1
    have HE := Lib.hid hE
    have hD4n : D4.n ≤ 9 := by rw [← hD4]; exact Nat.le_trans (vtV_n _ _) (by show C.n + 1 + 1 ≤ 9; omega)
    have hD5n : D5.n ≤ 8 := by rw [← hD5]; exact Nat.le_trans (vtV_n _ _) (by show C.n + 1 ≤ 8; omega)
    have hnx : (addC C x).n ≤ 8 := hDn
    clear hD4 hg4 hD5 hg5 hE
    have k1_0 : World.cell? v4 ⟨b1, 0, none⟩ = some (.int .i64 C.many) := K1.out.cell 0
    have k3_0 : World.cell? v4 ⟨b3, 0, none⟩ = some (.int .i64 (addC C x).many) := K3.out.cell 0
    have k3_1 : World.cell? v4 ⟨b3, 1, none⟩ = some (.int .i64 (addC C x).need) := K3.out.cell 1
    have k3_2 : World.cell? v4 ⟨b3, 2, none⟩ = some (.bool (addC C x).on) := K3.out.cell 2
    have k3_3 : World.cell? v4 ⟨b3, 3, none⟩ = some (.int .i64 (addC C x).at_) := K3.out.cell 3
    have k3_4 : World.cell? v4 ⟨b3, 4, none⟩ = some (.slice a3 (addC C x).n c3) := K3.out.cell 4
    have k3_5 : World.cell? v4 ⟨b3, 5, none⟩ = some (.bool (addC C x).veto) := K3.out.cell 5
    go_wp2_with fail
    refine (ivote _ (addC C x).many (addC C x).need (addC C x).on (addC C x).at_ a3 (addC C x).n c3 (addC C x).f (addC C x).veto (1 + (d : Int)) Oc3.out.ints (by omega) Oc3.out.le.1 Oc3.out.le.2).mono ?_
    rintro e v4b ⟨a4, c4, rfl, hO, hg⟩
    rw [HD4.out] at hO ⊢
    rw [HK4.out]
    clear k1_0 k3_0 k3_1 k3_2 k3_3 k3_4 k3_5 hd
    replace G := Lib.hid (gtr G.out hg)
    replace Oc1 := Lib.hid (Oc1.out.kept hg (fun g e => by cases e))
    replace K1 := Lib.hid (K1.out.keptN hg)
    replace Oc2 := Lib.hid (Oc2.out.kept hg (fun g e => by cases e))
    replace K2 := Lib.hid (K2.out.keptN hg)
    replace Oc3 := Lib.hid (Oc3.out.kept hg (fun g e => by cases e))
    replace K3 := Lib.hid (K3.out.keptN hg)
    clear hg
    have Oc4 := Lib.hid hO
    clear hO
    go_wp2_with (refine stop_store rfl ?_)
    refine ⟨trivial, ?_⟩
    refine wpList_store_atQ rfl 27 (.tmp 12) (.tmp 74) _ 0 _ _ _ #[.int .i64 D4.many, .int .i64 D4.need, .bool D4.on, .int .i64 D4.at_, .slice a4 D4.n c4, .bool D4.veto] 27 (Blk.new v4b #[.int .i64 0, .int .i64 0, .bool false, .int .i64 0, .slice none 0 0, .bool false] 27) rfl rfl rfl rfl (Nat.le_of_ble_eq_true rfl) (by kernel_rfl) (by kernel_rfl) (by kernel_rfl) ?_
    intro u4 hgV hT
    have hg : (v4b).grownBy u4 none := grown_new (grown_alloc (v4b) (.cells #[.int .i64 0, .int .i64 0, .bool false, .int .i64 0, .slice none 0 0, .bool false] 27) none) (Nat.le_refl _) hgV
    have K4 := Lib.hid hT
    clear hgV hT
    replace G := Lib.hid (gtr G.out hg)
    replace Oc1 := Lib.hid (Oc1.out.kept hg (fun g e => by cases e))
    replace K1 := Lib.hid (K1.out.keptN hg)
    replace Oc2 := Lib.hid (Oc2.out.kept hg (fun g e => by cases e))
    replace K2 := Lib.hid (K2.out.keptN hg)
    replace Oc3 := Lib.hid (Oc3.out.kept hg (fun g e => by cases e))
    replace K3 := Lib.hid (K3.out.keptN hg)
    replace Oc4 := Lib.hid (Oc4.out.kept hg (fun g e => by cases e))
    clear hg
    generalize (v4b).heap.size = b4 at *
    have k1_0 : World.cell? u4 ⟨b1, 0, none⟩ = some (.int .i64 C.many) := K1.out.cell 0
    have k1_1 : World.cell? u4 ⟨b1, 1, none⟩ = some (.int .i64 C.need) := K1.out.cell 1
    have k1_2 : World.cell? u4 ⟨b1, 2, none⟩ = some (.bool C.on) := K1.out.cell 2
    have k1_3 : World.cell? u4 ⟨b1, 3, none⟩ = some (.int .i64 C.at_) := K1.out.cell 3
    have k1_4 : World.cell? u4 ⟨b1, 4, none⟩ = some (.slice a1 C.n c1) := K1.out.cell 4
    have k1_5 : World.cell? u4 ⟨b1, 5, none⟩ = some (.bool C.veto) := K1.out.cell 5
    go_wp2_with fail
    refine (ivote _ C.many C.need C.on C.at_ a1 C.n c1 C.f C.veto (1 + (d : Int)) Oc1.out.ints (by omega) Oc1.out.le.1 Oc1.out.le.2).mono ?_
    rintro e v5 ⟨a5, c5, rfl, hO, hg⟩
    rw [HD5.out] at hO ⊢
    rw [HK5.out]
    clear k1_0 k1_1 k1_2 k1_3 k1_4 k1_5
    replace G := Lib.hid (gtr G.out hg)
    replace Oc1 := Lib.hid (Oc1.out.kept hg (fun g e => by cases e))
    replace K1 := Lib.hid (K1.out.keptN hg)
    replace Oc2 := Lib.hid (Oc2.out.kept hg (fun g e => by cases e))
    replace K2 := Lib.hid (K2.out.keptN hg)
    replace Oc3 := Lib.hid (Oc3.out.kept hg (fun g e => by cases e))
    replace K3 := Lib.hid (K3.out.keptN hg)
    replace Oc4 := Lib.hid (Oc4.out.kept hg (fun g e => by cases e))
    replace K4 := Lib.hid (K4.out.keptN hg)
    clear hg
    have Oc5 := Lib.hid hO
    clear hO
    go_wp2_with (refine stop_store rfl ?_)
    refine ⟨trivial, ?_⟩
    refine wpList_store_atQ rfl 27 (.tmp 14) (.tmp 80) _ 0 _ _ _ #[.int .i64 D5.many, .int .i64 D5.need, .bool D5.on, .int .i64 D5.at_, .slice a5 D5.n c5, .bool D5.veto] 27 (Blk.new v5 #[.int .i64 0, .int .i64 0, .bool false, .int .i64 0, .slice none 0 0, .bool false] 27) rfl rfl rfl rfl (Nat.le_of_ble_eq_true rfl) (by kernel_rfl) (by kernel_rfl) (by kernel_rfl) ?_
    intro u5 hgV hT
    have hg : (v5).grownBy u5 none := grown_new (grown_alloc (v5) (.cells #[.int .i64 0, .int .i64 0, .bool false, .int .i64 0, .slice none 0 0, .bool false] 27) none) (Nat.le_refl _) hgV
    have K5 := Lib.hid hT
    clear hgV hT
    replace G := Lib.hid (gtr G.out hg)
    replace Oc1 := Lib.hid (Oc1.out.kept hg (fun g e => by cases e))
    replace K1 := Lib.hid (K1.out.keptN hg)
    replace Oc2 := Lib.hid (Oc2.out.kept hg (fun g e => by cases e))
    replace K2 := Lib.hid (K2.out.keptN hg)
    replace Oc3 := Lib.hid (Oc3.out.kept hg (fun g e => by cases e))
    replace K3 := Lib.hid (K3.out.keptN hg)
    replace Oc4 := Lib.hid (Oc4.out.kept hg (fun g e => by cases e))
    replace K4 := Lib.hid (K4.out.keptN hg)
    replace Oc5 := Lib.hid (Oc5.out.kept hg (fun g e => by cases e))
    clear hg
    generalize (v5).heap.size = b5 at *
    cases g5 with
    | false =>
      obtain rfl : false = g4 := by rw [HE.out]; rfl
      go_wp2
      go_ret
      exact ⟨by simp, below_of G.out⟩
    | true =>
      cases g4 with
      | false =>
        have hyx : ((1 + (d : Int)) != x) = false := by have := HE.out; simpa using this.symm
        go_wp2
        go_ret
        exact ⟨by simp, below_of G.out⟩
      | true =>
        have hyx : ((1 + (d : Int)) != x) = true := by have := HE.out; simpa using this.symm
        have HO4 := Lib.hid (show vtO (addC C x) (1 + (d : Int)) = true from HK4.out)
        have HO5 := Lib.hid (show vtO C (1 + (d : Int)) = true from HK5.out)
        obtain rfl : addC (addC C x) (1 + (d : Int)) = D4 := by rw [← HD4.out]; exact (vtV_of HO4.out).symm
        obtain rfl : addC C (1 + (d : Int)) = D5 := by rw [← HD5.out]; exact (vtV_of HO5.out).symm
        have HO6 := Lib.hid (show vtO (addC C (1 + (d : Int))) x = true by
          rw [vtO_addC (cok_of HO5.out) HP.out.2.1 HP.out.1, HO.out]
          have : ¬ (1 + (d : Int)) = x := by simpa using hyx
          simp; exact fun h => this h.symm)
        clear hyx
        have HD6 := Lib.hid (show vtV ⟨(addC C (1 + (d : Int))).many, (addC C (1 + (d : Int))).need, (addC C (1 + (d : Int))).on, (addC C (1 + (d : Int))).at_, (addC C (1 + (d : Int))).n, (addC C (1 + (d : Int))).f, (addC C (1 + (d : Int))).veto⟩ x = (addC (addC C (1 + (d : Int))) x) from vtV_of HO6.out)
        have HK6 := Lib.hid (show vtO ⟨(addC C (1 + (d : Int))).many, (addC C (1 + (d : Int))).need, (addC C (1 + (d : Int))).on, (addC C (1 + (d : Int))).at_, (addC C (1 + (d : Int))).n, (addC C (1 + (d : Int))).f, (addC C (1 + (d : Int))).veto⟩ x = true from HO6.out)
        have k5_0 : World.cell? u5 ⟨b5, 0, none⟩ = some (.int .i64 (addC C (1 + (d : Int))).many) := K5.out.cell 0
        have k5_1 : World.cell? u5 ⟨b5, 1, none⟩ = some (.int .i64 (addC C (1 + (d : Int))).need) := K5.out.cell 1
        have k5_2 : World.cell? u5 ⟨b5, 2, none⟩ = some (.bool (addC C (1 + (d : Int))).on) := K5.out.cell 2
        have k5_3 : World.cell? u5 ⟨b5, 3, none⟩ = some (.int .i64 (addC C (1 + (d : Int))).at_) := K5.out.cell 3
        have k5_4 : World.cell? u5 ⟨b5, 4, none⟩ = some (.slice a5 (addC C (1 + (d : Int))).n c5) := K5.out.cell 4
        have k5_5 : World.cell? u5 ⟨b5, 5, none⟩ = some (.bool (addC C (1 + (d : Int))).veto) := K5.out.cell 5
        go_wp2_with fail
        refine (ivote _ (addC C (1 + (d : Int))).many (addC C (1 + (d : Int))).need (addC C (1 + (d : Int))).on (addC C (1 + (d : Int))).at_ a5 (addC C (1 + (d : Int))).n c5 (addC C (1 + (d : Int))).f (addC C (1 + (d : Int))).veto x Oc5.out.ints (by omega) Oc5.out.le.1 Oc5.out.le.2).mono ?_
        rintro e v6 ⟨a6, c6, rfl, hO, hg⟩
        rw [HD6.out] at hO ⊢
        rw [HK6.out]
        clear k5_0 k5_1 k5_2 k5_3 k5_4 k5_5
        replace G := Lib.hid (gtr G.out hg)
        replace Oc1 := Lib.hid (Oc1.out.kept hg (fun g e => by cases e))
        replace K1 := Lib.hid (K1.out.keptN hg)
        replace Oc2 := Lib.hid (Oc2.out.kept hg (fun g e => by cases e))
        replace K2 := Lib.hid (K2.out.keptN hg)
        replace Oc3 := Lib.hid (Oc3.out.kept hg (fun g e => by cases e))
        replace K3 := Lib.hid (K3.out.keptN hg)
        replace Oc4 := Lib.hid (Oc4.out.kept hg (fun g e => by cases e))
        replace K4 := Lib.hid (K4.out.keptN hg)
        replace Oc5 := Lib.hid (Oc5.out.kept hg (fun g e => by cases e))
        replace K5 := Lib.hid (K5.out.keptN hg)
        clear hg
        have Oc6 := Lib.hid hO
        clear hO
        go_wp2_with (refine stop_store rfl ?_)
        refine ⟨trivial, ?_⟩
        refine wpList_store_atQ rfl 27 (.tmp 16) (.tmp 100) _ 0 _ _ _ #[.int .i64 (addC (addC C (1 + (d : Int))) x).many, .int .i64 (addC (addC C (1 + (d : Int))) x).need, .bool (addC (addC C (1 + (d : Int))) x).on, .int .i64 (addC (addC C (1 + (d : Int))) x).at_, .slice a6 (addC (addC C (1 + (d : Int))) x).n c6, .bool (addC (addC C (1 + (d : Int))) x).veto] 27 (Blk.new v6 #[.int .i64 0, .int .i64 0, .bool false, .int .i64 0, .slice none 0 0, .bool false] 27) rfl rfl rfl rfl (Nat.le_of_ble_eq_true rfl) (by kernel_rfl) (by kernel_rfl) (by kernel_rfl) ?_
        intro u6 hgV hT
        have hg : (v6).grownBy u6 none := grown_new (grown_alloc (v6) (.cells #[.int .i64 0, .int .i64 0, .bool false, .int .i64 0, .slice none 0 0, .bool false] 27) none) (Nat.le_refl _) hgV
        have K6 := Lib.hid hT
        clear hgV hT
        replace G := Lib.hid (gtr G.out hg)
        replace Oc1 := Lib.hid (Oc1.out.kept hg (fun g e => by cases e))
        replace K1 := Lib.hid (K1.out.keptN hg)
        replace Oc2 := Lib.hid (Oc2.out.kept hg (fun g e => by cases e))
        replace K2 := Lib.hid (K2.out.keptN hg)
        replace Oc3 := Lib.hid (Oc3.out.kept hg (fun g e => by cases e))
        replace K3 := Lib.hid (K3.out.keptN hg)
        replace Oc4 := Lib.hid (Oc4.out.kept hg (fun g e => by cases e))
        replace K4 := Lib.hid (K4.out.keptN hg)
        replace Oc5 := Lib.hid (Oc5.out.kept hg (fun g e => by cases e))
        replace K5 := Lib.hid (K5.out.keptN hg)
        replace Oc6 := Lib.hid (Oc6.out.kept hg (fun g e => by cases e))
        clear hg
        generalize (v6).heap.size = b6 at *
        have HCM := Lib.hid (cmF_two (cok_of HO4.out) (cok_of HO6.out) 99)
        obtain ⟨q, hq⟩ : ∃ q, cmF (addC (addC C x) (1 + (d : Int))) 99 = q := ⟨_, rfl⟩
        have HQ := Lib.hid hq; clear hq
        go_wp2_with fail
        clear K1 K2 K3 K5 Oc1 Oc2 Oc3 Oc5
        refine wp_region_held_drew (S := (fun w' => w'.cell? ⟨b4, 0, none⟩ = some (.int .i64 (addC (addC C x) (1 + (d : Int))).many) ∧ w'.cell? ⟨b4, 1, none⟩ = some (.int .i64 (addC (addC C x) (1 + (d : Int))).need) ∧ w'.cell? ⟨b4, 2, none⟩ = some (.bool (addC (addC C x) (1 + (d : Int))).on) ∧ w'.cell? ⟨b4, 3, none⟩ = some (.int .i64 (addC (addC C x) (1 + (d : Int))).at_) ∧ w'.cell? ⟨b4, 4, none⟩ = some (.slice a4 (addC (addC C x) (1 + (d : Int))).n c4) ∧ w'.cell? ⟨b4, 5, none⟩ = some (.bool (addC (addC C x) (1 + (d : Int))).veto) ∧ w'.cell? ⟨b6, 0, none⟩ = some (.int .i64 (addC (addC C (1 + (d : Int))) x).many) ∧ w'.cell? ⟨b6, 1, none⟩ = some (.int .i64 (addC (addC C (1 + (d : Int))) x).need) ∧ w'.cell? ⟨b6, 2, none⟩ = some (.bool (addC (addC C (1 + (d : Int))) x).on) ∧ w'.cell? ⟨b6, 3, none⟩ = some (.int .i64 (addC (addC C (1 + (d : Int))) x).at_) ∧ w'.cell? ⟨b6, 4, none⟩ = some (.slice a6 (addC (addC C (1 + (d : Int))) x).n c6) ∧ w'.cell? ⟨b6, 5, none⟩ = some (.bool (addC (addC C (1 + (d : Int))) x).veto))) (by kernel_rfl) (⟨K4.out.cell 0, K4.out.cell 1, K4.out.cell 2, K4.out.cell 3, K4.out.cell 4, K4.out.cell 5, K6.out.cell 0, K6.out.cell 1, K6.out.cell 2, K6.out.cell 3, K6.out.cell 4, K6.out.cell 5⟩) (fun hHeld => ?_)
        have hg := gdrew u6
        replace G := Lib.hid (gtr G.out hg)
        replace Oc4 := Lib.hid (Oc4.out.kept hg (fun g e => by cases e))
        replace K4 := Lib.hid (K4.out.keptN hg)
        replace Oc6 := Lib.hid (Oc6.out.kept hg (fun g e => by cases e))
        replace K6 := Lib.hid (K6.out.keptN hg)
        clear hg
        generalize (u6).drew = W0 at *
        refine wpAnyH_take (i := 0) (oi := ⟨some 102, _, _, _, _, _⟩) (v := ?_) rfl (by kernel_rfl) (by kernel_rfl) (by kernel_rfl) (fun _ _ _ h => h) (Or.inl ⟨by rfl, ?_⟩) (by assumption) ?_
        rotate_left
        · intro w hSw; (try dsimp only at hSw); go_simp; try with_reducible rfl
        simp only [Act.put, List.setIfInBounds_toArray, List.set_cons_zero, List.set_cons_succ]
        refine wpAnyH_take (i := 1) (oi := ⟨some 103, _, _, _, _, _⟩) (v := ?_) rfl (by kernel_rfl) (by kernel_rfl) (by kernel_rfl) (fun _ _ _ h => h) (Or.inl ⟨by rfl, ?_⟩) (by assumption) ?_
        rotate_left
        · intro w hSw; (try dsimp only at hSw); go_simp; try with_reducible rfl
        simp only [Act.put, List.setIfInBounds_toArray, List.set_cons_zero, List.set_cons_succ]
        refine wpAnyH_take (i := 2) (oi := ⟨some 104, _, _, _, _, _⟩) (v := ?_) rfl (by kernel_rfl) (by kernel_rfl) (by kernel_rfl) (fun _ _ _ h => h) (Or.inl ⟨by rfl, ?_⟩) (by assumption) ?_
        rotate_left
        · intro w hSw; (try dsimp only at hSw); go_simp; try with_reducible rfl
        simp only [Act.put, List.setIfInBounds_toArray, List.set_cons_zero, List.set_cons_succ]
        refine wpAnyH_take (i := 4) (oi := ⟨some 106, _, _, _, _, _⟩) (v := ?_) rfl (by kernel_rfl) (by kernel_rfl) (by kernel_rfl) (fun _ _ _ h => h) (Or.inl ⟨by rfl, ?_⟩) (by assumption) ?_
        rotate_left
        · intro w hSw; (try dsimp only at hSw); go_simp; try with_reducible rfl
        simp only [Act.put, List.setIfInBounds_toArray, List.set_cons_zero, List.set_cons_succ]
        refine wpAnyH_ready (rs := [3]) (by kernel_rfl) (by simp) ?_
        refine AllReadyH.cons (o := ⟨some 105, _, _, _, _, _⟩) rfl (fun Kq hKq => ?_) AllReadyH.nil
        go_simp
        go_at_call 31
        refine (imay _ (addC (addC C x) (1 + (d : Int))).many (addC (addC C x) (1 + (d : Int))).need (addC (addC C x) (1 + (d : Int))).on (addC (addC C x) (1 + (d : Int))).at_ a4 (addC (addC C x) (1 + (d : Int))).n c4 (addC (addC C x) (1 + (d : Int))).f (addC (addC C x) (1 + (d : Int))).veto 99 Oc4.out.ints (by have := Oc4.out.le; show C.n + 1 + 1 ≤ 2000000; omega) Oc4.out.le.1 Oc4.out.le.2).mono ?_
        rintro e w7 ⟨rfl, hg⟩
        rw [show cmF ⟨(addC (addC C x) (1 + (d : Int))).many, (addC (addC C x) (1 + (d : Int))).need, (addC (addC C x) (1 + (d : Int))).on, (addC (addC C x) (1 + (d : Int))).at_, (addC (addC C x) (1 + (d : Int))).n, (addC (addC C x) (1 + (d : Int))).f, (addC (addC C x) (1 + (d : Int))).veto⟩ 99 = q from HQ.out]
        replace G := Lib.hid (gtr G.out hg)
        replace Oc4 := Lib.hid (Oc4.out.kept hg (fun g e => by cases e))
        replace K4 := Lib.hid (K4.out.keptN hg)
        replace Oc6 := Lib.hid (Oc6.out.kept hg (fun g e => by cases e))
        replace K6 := Lib.hid (K6.out.keptN hg)
        clear hg
        refine hKq.out _ _ (⟨K4.out.cell 0, K4.out.cell 1, K4.out.cell 2, K4.out.cell 3, K4.out.cell 4, K4.out.cell 5, K6.out.cell 0, K6.out.cell 1, K6.out.cell 2, K6.out.cell 3, K6.out.cell 4, K6.out.cell 5⟩) (fun hHeld => ?_)
        clear hKq Kq
        refine wpAnyH_ready (rs := [5]) (by kernel_rfl) (by simp) ?_
        refine AllReadyH.cons (o := ⟨some 107, _, _, _, _, _⟩) rfl (fun Kq hKq => ?_) AllReadyH.nil
        go_simp
        go_at_call 31
        refine (imay _ (addC (addC C (1 + (d : Int))) x).many (addC (addC C (1 + (d : Int))) x).need (addC (addC C (1 + (d : Int))) x).on (addC (addC C (1 + (d : Int))) x).at_ a6 (addC (addC C (1 + (d : Int))) x).n c6 (addC (addC C (1 + (d : Int))) x).f (addC (addC C (1 + (d : Int))) x).veto 99 Oc6.out.ints (by have := Oc6.out.le; show C.n + 1 + 1 ≤ 2000000; omega) Oc6.out.le.1 Oc6.out.le.2).mono ?_
        rintro e w8 ⟨rfl, hg⟩
        rw [show cmF ⟨(addC (addC C (1 + (d : Int))) x).many, (addC (addC C (1 + (d : Int))) x).need, (addC (addC C (1 + (d : Int))) x).on, (addC (addC C (1 + (d : Int))) x).at_, (addC (addC C (1 + (d : Int))) x).n, (addC (addC C (1 + (d : Int))) x).f, (addC (addC C (1 + (d : Int))) x).veto⟩ 99 = q from HCM.out.trans HQ.out]
        replace G := Lib.hid (gtr G.out hg)
        replace Oc4 := Lib.hid (Oc4.out.kept hg (fun g e => by cases e))
        replace K4 := Lib.hid (K4.out.keptN hg)
        replace Oc6 := Lib.hid (Oc6.out.kept hg (fun g e => by cases e))
        replace K6 := Lib.hid (K6.out.keptN hg)
        clear hg
        refine hKq.out _ _ (⟨K4.out.cell 0, K4.out.cell 1, K4.out.cell 2, K4.out.cell 3, K4.out.cell 4, K4.out.cell 5, K6.out.cell 0, K6.out.cell 1, K6.out.cell 2, K6.out.cell 3, K6.out.cell 4, K6.out.cell 5⟩) (fun hHeld => ?_)
        clear hKq Kq
        refine wpAnyH_take (i := 6) (oi := ⟨some 108, _, _, _, _, _⟩) (v := ?_) rfl (by kernel_rfl) (by kernel_rfl) (by kernel_rfl) (fun _ _ _ h => h) (Or.inl ⟨by rfl, ?_⟩) (by assumption) ?_
        rotate_left
        · intro w hSw; (try dsimp only at hSw); go_simp; try with_reducible rfl
        simp only [Act.put, List.setIfInBounds_toArray, List.set_cons_zero, List.set_cons_succ]
        refine wpAnyH_take (i := 7) (oi := ⟨some 109, _, _, _, _, _⟩) (v := ?_) rfl (by kernel_rfl) (by kernel_rfl) (by kernel_rfl) (fun _ _ _ h => h) (Or.inl ⟨by rfl, ?_⟩) (by assumption) ?_
        rotate_left
        · intro w hSw; (try dsimp only at hSw); go_simp; try with_reducible rfl
        simp only [Act.put, List.setIfInBounds_toArray, List.set_cons_zero, List.set_cons_succ]
        refine wpAnyH_take (i := 8) (oi := ⟨some 4, _, _, _, _, _⟩) (v := ?_) rfl (by kernel_rfl) (by kernel_rfl) (by kernel_rfl) (fun _ _ _ h => h) (Or.inl ⟨by rfl, ?_⟩) (by assumption) ?_
        rotate_left
        · intro w hSw; (try dsimp only at hSw); go_simp; try with_reducible rfl
        simp only [Act.put, List.setIfInBounds_toArray, List.set_cons_zero, List.set_cons_succ]
        refine wpAnyH_done (by kernel_rfl) ?_ _
        go_wp2
        go_ret
        exact ⟨by simp, below_of G.out⟩
end Run
end Go.Proofs.Ytbfmigmhmjgdgaa
