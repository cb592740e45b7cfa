/-
  The walk of the law on what is never granted ahead of its time.
-/
import Derived.Test.YtbfmigmhmjgdgaaZl
namespace Go.Proofs.Ytbfmigmhmjgdgaa
namespace Run
open Go.RowKit Alg Mem Con Draw Ct
set_option linter.unusedVariables false

theorem vtO_partsN {C : CV} {x : Int} (h : vtO C x = true) : cokF C = true ∧ mgF C.many x = true ∧ vtA C x = true := by
  rw [vtO_as] at h; simp only [Bool.and_eq_true] at h; exact ⟨h.1.1, h.1.2, h.2⟩
theorem vtV_ofN {C : CV} {x : Int} (h : vtO C x = true) : vtV C x = addC C x := vtV_nw (by rw [(vtO_partsN h).1, (vtO_partsN h).2.1]; rfl) (vtO_partsN h).2.2
/-- All guardians, in a circle. -/
def vfN (M L j : Nat) : Int := (((j + 1 + L) % M : Nat) : Int) + 1
theorem vfN_in {M L j : Nat} (h : 1 ≤ M) : mgF (M : Int) (vfN M L j) = true := mgF_iff.2 ⟨by unfold vfN; omega, by unfold vfN; have := Nat.mod_lt (j + 1 + L) h; omega⟩
theorem vfN_ne {M L i j : Nat} (hi : i < j) (hj : j < M) : vfN M L i ≠ vfN M L j := by
  intro e
  unfold vfN at e
  have e' : (i + 1 + L) % M = (j + 1 + L) % M := by omega
  have h1 : (j + 1 + L) = (i + 1 + L) + (j - i) := by omega
  rw [h1] at e'
  have h2 := Nat.sub_mod_eq_zero_of_mod_eq e'.symm
  rw [Nat.add_sub_cancel_left] at h2
  rw [Nat.mod_eq_of_lt (by omega)] at h2
  omega
/-- A court with so many of them. -/
def ctN (C : CV) (x : Int) (M L k : Nat) : CV := ⟨C.many, C.need, true, x, k, vfN M L, false⟩
theorem ctN_ok {C : CV} {x : Int} {M L k : Nat} (hC : cokF C = true) (hx : tmF x = true) (hM : C.many = M) (h1 : 1 ≤ M) (hk : k ≤ M) : cokF (ctN C x M L k) = true :=
  cokF_iff.2 ⟨(cokF_iff.1 hC).1, hx, spF_iff.2 fun j hj => ⟨by show mgF C.many _ = true; rw [hM]; exact vfN_in h1, hasz_no.2 fun i hi => vfN_ne hi (Nat.lt_of_lt_of_le hj hk)⟩, .inl rfl⟩
theorem ctN_vote {C : CV} {x : Int} {M L k : Nat} (hC : cokF C = true) (hx : tmF x = true) (hM : C.many = M) (h1 : 1 ≤ M) (hk : k < M) : vtO (ctN C x M L k) (vfN M L k) = true := by
  rw [vtO_as, ctN_ok hC hx hM h1 (Nat.le_of_lt hk), show mgF (ctN C x M L k).many (vfN M L k) = true by show mgF C.many _ = true; rw [hM]; exact vfN_in h1]
  unfold vtA
  rw [show hasz (ctN C x M L k).f (vfN M L k) (ctN C x M L k).n = false from hasz_no.2 fun i hi => vfN_ne hi hk]
  rfl
theorem addz_self {f : Nat → Int} {n j : Nat} (h : j < n + 1) : addz f n (f n) j = f j := by
  rcases Nat.lt_or_ge j n with h' | h'
  · exact addz_lt h'
  · obtain rfl : j = n := by omega
    exact addz_at
set_option maxRecDepth 100000 in
set_option maxHeartbeats 8000000 in
theorem FnCourtNever (a : Option Addr) (len cap : Nat) (ab : Option Addr) (lenb capb : Nat) (w : World) (hB : Bytes w w.heap.size a len) (hc : len ≤ cap) (hm : cap ≤ maxLen) (hcb : lenb ≤ capb) (hmb : capb ≤ maxLen) :
    Calls Try.prog 8 #[.slice a len cap, .slice ab lenb capb] w (Yes w) := by
  by_cases hbig : 1048576 < len
  · have hbig' : (1048576 : Int) < (len : Int) := by omega
    clear hB
    go_enter Try.func8, Try.ntmps8
    go_wp2
    go_ret
    exact ⟨rfl, Below.refl _ _⟩
  have hbig' : ¬ (1048576 : Int) < (len : Int) := by omega
  by_cases hbih : 1048576 < lenb
  · have hbih' : (1048576 : Int) < (lenb : Int) := by omega
    clear hB
    go_enter Try.func8, Try.ntmps8
    go_wp2
    go_ret
    exact ⟨rfl, Below.refl _ _⟩
  have hbih' : ¬ (1048576 : Int) < (lenb : Int) := by omega
  go_enter Try.func8, Try.ntmps8
  go_wp2_with fail
  refine (drawCtOpen w a len cap hB hc hm).mono ?_
  rintro e v1 ⟨C, a1, c1, x, rfl, hO, hn7, hg⟩
  have G := Lib.hid hg; have Oc1 := Lib.hid hO
  clear hg hO hB
  go_wp2_with (refine stop_store rfl ?_)
  refine ⟨trivial, ?_⟩
  refine wpList_store_atQ rfl 27 (.tmp 5) (.tmp 26) _ 0 _ _ _ #[.int .i64 C.many, .int .i64 C.need, .bool C.on, .int .i64 C.at_, .slice a1 C.n c1, .bool C.veto] 27 (Blk.new v1 #[.int .i64 0, .int .i64 0, .bool false, .int .i64 0, .slice none 0 0, .bool false] 27) rfl rfl rfl rfl (Nat.le_of_ble_eq_true rfl) (by kernel_rfl) (by kernel_rfl) (by kernel_rfl) ?_
  intro u1 hgV hT
  have hg : (v1).grownBy u1 none := grown_new (grown_alloc (v1) (.cells #[.int .i64 0, .int .i64 0, .bool false, .int .i64 0, .slice none 0 0, .bool false] 27) none) (Nat.le_refl _) hgV
  have K1 := Lib.hid hT
  clear hgV hT
  have hbw1 : w.heap.size ≤ (v1).heap.size := G.out.size
  replace G := Lib.hid (gtr G.out hg)
  replace Oc1 := Lib.hid (Oc1.out.kept hg (fun g e => by cases e))
  clear hg
  generalize (v1).heap.size = b1 at *
  obtain ⟨D, hD⟩ : ∃ D, opV ⟨C.many, C.need, C.on, C.at_, C.n, C.f, C.veto⟩ x = D := ⟨_, rfl⟩
  obtain ⟨g, hg0⟩ : ∃ g, opO ⟨C.many, C.need, C.on, C.at_, C.n, C.f, C.veto⟩ x = g := ⟨_, rfl⟩
  have HD := Lib.hid hD; have HK := Lib.hid hg0
  have hDn : D.n ≤ 7 := by rw [← hD]; exact Nat.le_trans (opV_n _ _) hn7
  clear hD hg0
  have k1_0 : World.cell? u1 ⟨b1, 0, none⟩ = some (.int .i64 C.many) := K1.out.cell 0
  have k1_1 : World.cell? u1 ⟨b1, 1, none⟩ = some (.int .i64 C.need) := K1.out.cell 1
  have k1_2 : World.cell? u1 ⟨b1, 2, none⟩ = some (.bool C.on) := K1.out.cell 2
  have k1_3 : World.cell? u1 ⟨b1, 3, none⟩ = some (.int .i64 C.at_) := K1.out.cell 3
  have k1_4 : World.cell? u1 ⟨b1, 4, none⟩ = some (.slice a1 C.n c1) := K1.out.cell 4
  have k1_5 : World.cell? u1 ⟨b1, 5, none⟩ = some (.bool C.veto) := K1.out.cell 5
  go_wp2_with fail
  refine (sopen _ C.many C.need C.on C.at_ a1 C.n c1 C.f C.veto x Oc1.out.ints (by omega) Oc1.out.le.1 Oc1.out.le.2).mono ?_
  rintro e v2 ⟨a2, c2, rfl, hO, hg⟩
  rw [HD.out] at hO ⊢
  rw [HK.out]
  clear k1_0 k1_1 k1_2 k1_3 k1_4 k1_5
  replace G := Lib.hid (gtr G.out hg)
  replace Oc1 := Lib.hid (Oc1.out.kept hg (fun g e => by cases e))
  replace K1 := Lib.hid (K1.out.keptN hg)
  clear hg
  have Oc2 := Lib.hid hO
  clear hO
  go_wp2_with (refine stop_store rfl ?_)
  refine ⟨trivial, ?_⟩
  refine wpList_store_atQ rfl 27 (.tmp 7) (.tmp 32) _ 0 _ _ _ #[.int .i64 D.many, .int .i64 D.need, .bool D.on, .int .i64 D.at_, .slice a2 D.n c2, .bool D.veto] 27 (Blk.new v2 #[.int .i64 0, .int .i64 0, .bool false, .int .i64 0, .slice none 0 0, .bool false] 27) rfl rfl rfl rfl (Nat.le_of_ble_eq_true rfl) (by kernel_rfl) (by kernel_rfl) (by kernel_rfl) ?_
  intro u2 hgV hT
  have hg : (v2).grownBy u2 none := grown_new (grown_alloc (v2) (.cells #[.int .i64 0, .int .i64 0, .bool false, .int .i64 0, .slice none 0 0, .bool false] 27) none) (Nat.le_refl _) hgV
  have K2 := Lib.hid hT
  clear hgV hT
  have hbw2 : w.heap.size ≤ (v2).heap.size := G.out.size
  have hbb1_2 : b1 < (v2).heap.size := K1.out.lt
  replace G := Lib.hid (gtr G.out hg)
  replace Oc1 := Lib.hid (Oc1.out.kept hg (fun g e => by cases e))
  replace K1 := Lib.hid (K1.out.keptN hg)
  replace Oc2 := Lib.hid (Oc2.out.kept hg (fun g e => by cases e))
  clear hg
  generalize (v2).heap.size = b2 at *
  have k1_0 : World.cell? u2 ⟨b1, 0, none⟩ = some (.int .i64 C.many) := K1.out.cell 0
  have k1_1 : World.cell? u2 ⟨b1, 1, none⟩ = some (.int .i64 C.need) := K1.out.cell 1
  have k1_2 : World.cell? u2 ⟨b1, 2, none⟩ = some (.bool C.on) := K1.out.cell 2
  have k1_3 : World.cell? u2 ⟨b1, 3, none⟩ = some (.int .i64 C.at_) := K1.out.cell 3
  have k1_4 : World.cell? u2 ⟨b1, 4, none⟩ = some (.slice a1 C.n c1) := K1.out.cell 4
  have k1_5 : World.cell? u2 ⟨b1, 5, none⟩ = some (.bool C.veto) := K1.out.cell 5
  go_wp2_with fail
  refine (iopen _ C.many C.need C.on C.at_ a1 C.n c1 C.f C.veto x Oc1.out.ints (by omega) Oc1.out.le.1 Oc1.out.le.2).mono ?_
  rintro e v3 ⟨a3, c3, rfl, hO, hg⟩
  rw [HD.out] at hO ⊢
  rw [HK.out]
  clear k1_0 k1_1 k1_2 k1_3 k1_4 k1_5
  replace G := Lib.hid (gtr G.out hg)
  replace Oc1 := Lib.hid (Oc1.out.kept hg (fun g e => by cases e))
  replace K1 := Lib.hid (K1.out.keptN hg)
  replace Oc2 := Lib.hid (Oc2.out.kept hg (fun g e => by cases e))
  replace K2 := Lib.hid (K2.out.keptN hg)
  clear hg
  have Oc3 := Lib.hid hO
  clear hO
  go_wp2_with (refine stop_store rfl ?_)
  refine ⟨trivial, ?_⟩
  refine wpList_store_atQ rfl 27 (.tmp 9) (.tmp 38) _ 0 _ _ _ #[.int .i64 D.many, .int .i64 D.need, .bool D.on, .int .i64 D.at_, .slice a3 D.n c3, .bool D.veto] 27 (Blk.new v3 #[.int .i64 0, .int .i64 0, .bool false, .int .i64 0, .slice none 0 0, .bool false] 27) rfl rfl rfl rfl (Nat.le_of_ble_eq_true rfl) (by kernel_rfl) (by kernel_rfl) (by kernel_rfl) ?_
  intro u3 hgV hT
  have hg : (v3).grownBy u3 none := grown_new (grown_alloc (v3) (.cells #[.int .i64 0, .int .i64 0, .bool false, .int .i64 0, .slice none 0 0, .bool false] 27) none) (Nat.le_refl _) hgV
  have K3 := Lib.hid hT
  clear hgV hT
  have hbw3 : w.heap.size ≤ (v3).heap.size := G.out.size
  have hbb1_3 : b1 < (v3).heap.size := K1.out.lt
  have hbb2_3 : b2 < (v3).heap.size := K2.out.lt
  replace G := Lib.hid (gtr G.out hg)
  replace Oc1 := Lib.hid (Oc1.out.kept hg (fun g e => by cases e))
  replace K1 := Lib.hid (K1.out.keptN hg)
  replace Oc2 := Lib.hid (Oc2.out.kept hg (fun g e => by cases e))
  replace K2 := Lib.hid (K2.out.keptN hg)
  replace Oc3 := Lib.hid (Oc3.out.kept hg (fun g e => by cases e))
  clear hg
  generalize (v3).heap.size = b3 at *
  have hne : (g != g) = false := by simp
  have k3_0 : World.cell? u3 ⟨b3, 0, none⟩ = some (.int .i64 D.many) := K3.out.cell 0
  have k3_1 : World.cell? u3 ⟨b3, 1, none⟩ = some (.int .i64 D.need) := K3.out.cell 1
  have k3_2 : World.cell? u3 ⟨b3, 2, none⟩ = some (.bool D.on) := K3.out.cell 2
  have k3_3 : World.cell? u3 ⟨b3, 3, none⟩ = some (.int .i64 D.at_) := K3.out.cell 3
  have k3_4 : World.cell? u3 ⟨b3, 4, none⟩ = some (.slice a3 D.n c3) := K3.out.cell 4
  have k3_5 : World.cell? u3 ⟨b3, 5, none⟩ = some (.bool D.veto) := K3.out.cell 5
  have k2_0 : World.cell? u3 ⟨b2, 0, none⟩ = some (.int .i64 D.many) := K2.out.cell 0
  have k2_1 : World.cell? u3 ⟨b2, 1, none⟩ = some (.int .i64 D.need) := K2.out.cell 1
  have k2_2 : World.cell? u3 ⟨b2, 2, none⟩ = some (.bool D.on) := K2.out.cell 2
  have k2_3 : World.cell? u3 ⟨b2, 3, none⟩ = some (.int .i64 D.at_) := K2.out.cell 3
  have k2_4 : World.cell? u3 ⟨b2, 4, none⟩ = some (.slice a2 D.n c2) := K2.out.cell 4
  have k2_5 : World.cell? u3 ⟨b2, 5, none⟩ = some (.bool D.veto) := K2.out.cell 5
  go_wp2_with fail
  refine (lpct _ D.many D.need D.on D.at_ a3 a2 D.n c3 c2 D.f D.veto Oc3.out.ints Oc2.out.ints (by omega)).mono ?_
  rintro e v4 ⟨rfl, hg⟩
  clear k3_0 k3_1 k3_2 k3_3 k3_4 k3_5 k2_0 k2_1 k2_2 k2_3 k2_4 k2_5
  replace G := Lib.hid (gtr G.out hg)
  replace Oc1 := Lib.hid (Oc1.out.kept hg (fun g e => by cases e))
  replace K1 := Lib.hid (K1.out.keptN hg)
  replace Oc2 := Lib.hid (Oc2.out.kept hg (fun g e => by cases e))
  replace K2 := Lib.hid (K2.out.keptN hg)
  replace Oc3 := Lib.hid (Oc3.out.kept hg (fun g e => by cases e))
  replace K3 := Lib.hid (K3.out.keptN hg)
  clear hg
  cases g with
  | false =>
    have k3_0 : World.cell? v4 ⟨b3, 0, none⟩ = some (.int .i64 D.many) := K3.out.cell 0
    have k3_1 : World.cell? v4 ⟨b3, 1, none⟩ = some (.int .i64 D.need) := K3.out.cell 1
    have k3_2 : World.cell? v4 ⟨b3, 2, none⟩ = some (.bool D.on) := K3.out.cell 2
    have k3_3 : World.cell? v4 ⟨b3, 3, none⟩ = some (.int .i64 D.at_) := K3.out.cell 3
    have k3_4 : World.cell? v4 ⟨b3, 4, none⟩ = some (.slice a3 D.n c3) := K3.out.cell 4
    have k3_5 : World.cell? v4 ⟨b3, 5, none⟩ = some (.bool D.veto) := K3.out.cell 5
    have k2_0 : World.cell? v4 ⟨b2, 0, none⟩ = some (.int .i64 D.many) := K2.out.cell 0
    have k2_1 : World.cell? v4 ⟨b2, 1, none⟩ = some (.int .i64 D.need) := K2.out.cell 1
    have k2_2 : World.cell? v4 ⟨b2, 2, none⟩ = some (.bool D.on) := K2.out.cell 2
    have k2_3 : World.cell? v4 ⟨b2, 3, none⟩ = some (.int .i64 D.at_) := K2.out.cell 3
    have k2_4 : World.cell? v4 ⟨b2, 4, none⟩ = some (.slice a2 D.n c2) := K2.out.cell 4
    have k2_5 : World.cell? v4 ⟨b2, 5, none⟩ = some (.bool D.veto) := K2.out.cell 5
    go_wp2_with fail
    refine (lpct _ D.many D.need D.on D.at_ a3 a2 D.n c3 c2 D.f D.veto Oc3.out.ints Oc2.out.ints (by omega)).mono ?_
    rintro e v9 ⟨rfl, hg⟩
    clear k3_0 k3_1 k3_2 k3_3 k3_4 k3_5 k2_0 k2_1 k2_2 k2_3 k2_4 k2_5
    replace G := Lib.hid (gtr G.out hg)
    replace Oc1 := Lib.hid (Oc1.out.kept hg (fun g e => by cases e))
    replace K1 := Lib.hid (K1.out.keptN hg)
    replace Oc2 := Lib.hid (Oc2.out.kept hg (fun g e => by cases e))
    replace K2 := Lib.hid (K2.out.keptN hg)
    replace Oc3 := Lib.hid (Oc3.out.kept hg (fun g e => by cases e))
    replace K3 := Lib.hid (K3.out.keptN hg)
    clear hg
    go_wp2
    go_ret
    exact ⟨by simp, below_of G.out⟩
  | true =>
    have hO := HK.out
    have HP := Lib.hid (show cokF C = true ∧ tmF x = true ∧ stF C.on C.veto = false by have h : opO C x = true := hO; unfold opO at h; simpa only [Bool.and_eq_true, Bool.not_eq_true'] using h)
    clear hO
    obtain rfl : newC C x = D := by rw [← HD.out]; exact (opV_nw (by rw [HP.out.1, HP.out.2.1]; rfl) HP.out.2.2).symm
    have hcr := crew_iff.1 (cokF_iff.1 HP.out.1).1
    have htx := tmF_iff.1 HP.out.2.1
    obtain ⟨x0, x99⟩ := htx
    obtain ⟨M, hM⟩ : ∃ M : Nat, C.many = M := ⟨C.many.toNat, by omega⟩
    have hM5 : M ≤ 5 := by omega
    have hM1 : 1 ≤ M := by omega
    have hnd : C.need ≤ (M : Int) := by omega
    clear hcr
    have hq1 : Blk v4 b1 #[.int .i64 (M : Int), .int .i64 C.need, .bool C.on, .int .i64 C.at_, .slice a1 C.n c1, .bool C.veto] 27 := by rw [← hM]; exact K1.out
    have hq3 : Blk v4 b3 #[.int .i64 (M : Int), .int .i64 C.need, .bool true, .int .i64 x, .slice a3 0 c3, .bool false] 27 := by rw [← hM]; exact K3.out
    have hq4 : OEQ v4 0 a3 0 c3 (vfN M lenb) := (show OEQ v4 _ a3 0 c3 C.f from Oc3.out).lower (Nat.zero_le _) |>.congr (fun j hj => by omega)
    have Q1 := Lib.hid hq1; have Q3 := Lib.hid hq3; have Q4 := Lib.hid hq4; clear hq1 hq3 hq4
    clear K1 K2 K3 Oc1 Oc2 Oc3
    go_wp2
    go_loopw [11] (fun i wr => ∃ (k : Nat) (a3 : Option Addr) (c3 : Nat), i = .int .i64 ((k : Int) + 1) ∧ k ≤ M ∧ w.grownBy wr none ∧ Blk wr b1 #[.int .i64 (M : Int), .int .i64 C.need, .bool C.on, .int .i64 C.at_, .slice a1 C.n c1, .bool C.veto] 27 ∧ Blk wr b3 #[.int .i64 (M : Int), .int .i64 C.need, .bool true, .int .i64 x, .slice a3 k c3, .bool false] 27 ∧ OEQ wr 0 a3 k c3 (vfN M lenb)) (fun i _ => 6 - (intOf i).toNat)
    case atStart => exact ⟨0, a3, c3, rfl, Nat.zero_le _, G.out, Q1.out, Q3.out, Q4.out⟩
    case round =>
      clear G Q1 Q3 Q4 hDn
      obtain ⟨k, a3, c3, rfl, hkM, hG, h1, h3, h4⟩ := hrel
      have G := Lib.hid hG; have K1 := Lib.hid h1; have K3 := Lib.hid h3; have OW := Lib.hid h4
      clear hG h1 h3 h4
      have k1_0 : World.cell? wr ⟨b1, 0, none⟩ = some (.int .i64 (M : Int)) := K1.out.cell 0
      by_cases hlt : k < M
      case pos =>
        have hlt' : (k : Int) + 1 ≤ (M : Int) := by omega
        have hnm : ¬ (M : Int) = 0 := by omega
        have hnM : ¬ M = 0 := by omega
        have hwl : IntKind.i64.wrap ((k : Int) + 1 + (lenb : Int)) = (k : Int) + 1 + (lenb : Int) := IntWalk.i64_in _ (by omega)
        have hrm : ((k : Int) + 1 + (lenb : Int)).tmod (M : Int) = (((k + 1 + lenb) % M : Nat) : Int) := by rw [Int.tmod_eq_emod_of_nonneg (by omega)]; exact (Int.natCast_emod (k + 1 + lenb) M).symm
        have hrl : (k + 1 + lenb) % M < M := Nat.mod_lt _ hM1
        obtain ⟨q, hq⟩ : ∃ q, (k + 1 + lenb) % M = q := ⟨_, rfl⟩
        rw [hq] at hrm hrl
        have hwq : IntKind.i64.wrap ((q : Int) + 1) = (q : Int) + 1 := IntWalk.i64_in _ (by omega)
        have HVF := Lib.hid (show vfN M lenb k = (q : Int) + 1 by unfold vfN; rw [hq])
        clear hq
        have HVO := Lib.hid (ctN_vote (L := lenb) HP.out.1 HP.out.2.1 hM hM1 hlt)
        have HD4 := Lib.hid (show vtV ⟨(M : Int), C.need, true, x, k, vfN M lenb, false⟩ ((q : Int) + 1) = ⟨(M : Int), C.need, true, x, k + 1, addz (vfN M lenb) k ((q : Int) + 1), false⟩ by
          have h := vtV_ofN HVO.out
          unfold ctN addC at h; rw [hM, HVF.out] at h; exact h)
        have HK4 := Lib.hid (show vtO ⟨(M : Int), C.need, true, x, k, vfN M lenb, false⟩ ((q : Int) + 1) = true by
          have h := HVO.out
          unfold ctN at h; rw [hM, HVF.out] at h; exact h)
        go_wp2_with fail
        clear k1_0
        refine' (fun (hk : Later _) => ?main) (Later.mk ?rest)
        case main =>
          refine wp_region_held_drew (S := (fun w' => w'.cell? ⟨b1, 0, none⟩ = some (.int .i64 (M : Int)) ∧ w'.cell? ⟨b3, 0, none⟩ = some (.int .i64 (M : Int)) ∧ w'.cell? ⟨b3, 1, none⟩ = some (.int .i64 C.need) ∧ w'.cell? ⟨b3, 2, none⟩ = some (.bool true) ∧ w'.cell? ⟨b3, 3, none⟩ = some (.int .i64 x) ∧ w'.cell? ⟨b3, 4, none⟩ = some (.slice a3 k c3) ∧ w'.cell? ⟨b3, 5, none⟩ = some (.bool false))) (by kernel_rfl) (⟨K1.out.cell 0, K3.out.cell 0, K3.out.cell 1, K3.out.cell 2, K3.out.cell 3, K3.out.cell 4, K3.out.cell 5⟩) (fun hHeld => ?_)
          have hg := gdrew wr
          replace G := Lib.hid (gtr G.out hg)
          replace K1 := Lib.hid (K1.out.keptN hg)
          replace K3 := Lib.hid (K3.out.keptN hg)
          replace OW := Lib.hid (OW.out.kept hg (fun g e => by cases e))
          clear hg
          generalize wr.drew = W0 at *
          refine wpAnyH_take (i := 0) (oi := ⟨some 68, _, _, _, _, _⟩) (v := ?_) rfl (by kernel_rfl) (by kernel_rfl) (by kernel_rfl) (fun _ _ _ h => h) (Or.inl ⟨by rfl, ?_⟩) (by assumption) ?_
          rotate_left
          · intro w hSw; (try dsimp only at hSw); go_simp; try with_reducible rfl
          simp only [Act.put, List.setIfInBounds_toArray, List.set_cons_zero, List.set_cons_succ]
          refine wpAnyH_take (i := 1) (oi := ⟨some 69, _, _, _, _, _⟩) (v := ?_) rfl (by kernel_rfl) (by kernel_rfl) (by kernel_rfl) (fun _ _ _ h => h) (Or.inl ⟨by rfl, ?_⟩) (by assumption) ?_
          rotate_left
          · intro w hSw; (try dsimp only at hSw); go_simp; try with_reducible rfl
          simp only [Act.put, List.setIfInBounds_toArray, List.set_cons_zero, List.set_cons_succ]
          refine wpAnyH_take (i := 2) (oi := ⟨some 70, _, _, _, _, _⟩) (v := ?_) rfl (by kernel_rfl) (by kernel_rfl) (by kernel_rfl) (fun _ _ _ h => h) (Or.inl ⟨by rfl, ?_⟩) (by assumption) ?_
          rotate_left
          · intro w hSw; (try dsimp only at hSw); go_simp; try with_reducible rfl
          simp only [Act.put, List.setIfInBounds_toArray, List.set_cons_zero, List.set_cons_succ]
          refine wpAnyH_take (i := 3) (oi := ⟨some 71, _, _, _, _, _⟩) (v := ?_) rfl (by kernel_rfl) (by kernel_rfl) (by kernel_rfl) (fun _ _ _ h => h) (Or.inl ⟨by rfl, ?_⟩) (by assumption) ?_
          rotate_left
          · intro w hSw; (try dsimp only at hSw); go_simp; try with_reducible rfl
          simp only [Act.put, List.setIfInBounds_toArray, List.set_cons_zero, List.set_cons_succ]
          refine wpAnyH_take (i := 4) (oi := ⟨some 72, _, _, _, _, _⟩) (v := ?_) rfl (by kernel_rfl) (by kernel_rfl) (by kernel_rfl) (fun _ _ _ h => h) (Or.inl ⟨by rfl, ?_⟩) (by assumption) ?_
          rotate_left
          · intro w hSw; (try dsimp only at hSw); go_simp; try with_reducible rfl
          simp only [Act.put, List.setIfInBounds_toArray, List.set_cons_zero, List.set_cons_succ]
          refine wpAnyH_take (i := 5) (oi := ⟨some 73, _, _, _, _, _⟩) (v := ?_) rfl (by kernel_rfl) (by kernel_rfl) (by kernel_rfl) (fun _ _ _ h => h) (Or.inl ⟨by rfl, ?_⟩) (by assumption) ?_
          rotate_left
          · intro w hSw; (try dsimp only at hSw); go_simp; try with_reducible rfl
          simp only [Act.put, List.setIfInBounds_toArray, List.set_cons_zero, List.set_cons_succ]
          refine wpAnyH_take (i := 6) (oi := ⟨some 74, _, _, _, _, _⟩) (v := ?_) rfl (by kernel_rfl) (by kernel_rfl) (by kernel_rfl) (fun _ _ _ h => h) (Or.inl ⟨by rfl, ?_⟩) (by assumption) ?_
          rotate_left
          · intro w hSw; (try dsimp only at hSw); go_simp; try with_reducible rfl
          simp only [Act.put, List.setIfInBounds_toArray, List.set_cons_zero, List.set_cons_succ]
          refine wpAnyH_take (i := 7) (oi := ⟨some 75, _, _, _, _, _⟩) (v := ?_) rfl (by kernel_rfl) (by kernel_rfl) (by kernel_rfl) (fun _ _ _ h => h) (Or.inl ⟨by rfl, ?_⟩) (by assumption) ?_
          rotate_left
          · intro w hSw; (try dsimp only at hSw); go_simp; try with_reducible rfl
          simp only [Act.put, List.setIfInBounds_toArray, List.set_cons_zero, List.set_cons_succ]
          refine wpAnyH_take (i := 8) (oi := ⟨some 76, _, _, _, _, _⟩) (v := ?_) rfl (by kernel_rfl) (by kernel_rfl) (by kernel_rfl) (fun _ _ _ h => h) (Or.inl ⟨by rfl, ?_⟩) (by assumption) ?_
          rotate_left
          · intro w hSw; (try dsimp only at hSw); go_simp; try with_reducible rfl
          simp only [Act.put, List.setIfInBounds_toArray, List.set_cons_zero, List.set_cons_succ]
          refine wpAnyH_ready (rs := [9, 13]) (by kernel_rfl) (by simp) ?_
          refine AllReadyH.cons (o := ⟨some 77, _, _, _, _, _⟩) rfl (fun Kq hKq => ?_) (AllReadyH.cons (o := ⟨some 12, _, _, _, _, _⟩) rfl (fun Kq hKq => ?_) AllReadyH.nil)
          · go_simp
            go_at_call 25
            refine (ivote _ (M : Int) C.need true x a3 k c3 (vfN M lenb) false ((q : Int) + 1) OW.out.ints (by omega) OW.out.le.1 OW.out.le.2).mono ?_
            rintro e v4 ⟨a4, c4, rfl, hO, hg⟩
            rw [HD4.out] at hO ⊢
            rw [HK4.out]
            have OX := Lib.hid (hO.lower (lo' := 0) (Nat.zero_le _))
            clear hO
            clear OW
            replace G := Lib.hid (gtr G.out hg)
            replace K1 := Lib.hid (K1.out.keptN hg)
            replace K3 := Lib.hid (K3.out.keptN hg)
            clear hg
            refine hKq.out _ _ (⟨K1.out.cell 0, K3.out.cell 0, K3.out.cell 1, K3.out.cell 2, K3.out.cell 3, K3.out.cell 4, K3.out.cell 5⟩) (fun hHeld => ?_)
            clear hKq Kq
            refine wpAnyH_take (i := 10) (oi := ⟨some 67, _, _, _, _, _⟩) (v := ?_) rfl (by kernel_rfl) (by kernel_rfl) (by kernel_rfl) (fun _ _ _ h => h) (Or.inl ⟨by rfl, ?_⟩) (by assumption) ?_
            rotate_left
            · intro w hSw; (try dsimp only at hSw); go_simp; try with_reducible rfl
            simp only [Act.put, List.setIfInBounds_toArray, List.set_cons_zero, List.set_cons_succ]
            refine wpAnyH_take (i := 11) (oi := ⟨some 78, _, _, _, _, _⟩) (v := ?_) rfl (by kernel_rfl) (by kernel_rfl) (by kernel_rfl) (fun _ _ _ h => h) (Or.inl ⟨by rfl, ?_⟩) (by assumption) ?_
            rotate_left
            · intro w hSw; (try dsimp only at hSw); go_simp; try with_reducible rfl
            simp only [Act.put, List.setIfInBounds_toArray, List.set_cons_zero, List.set_cons_succ]
            refine wpAnyH_take (i := 12) (oi := ⟨some 79, _, _, _, _, _⟩) (v := ?_) rfl (by kernel_rfl) (by kernel_rfl) (by kernel_rfl) (fun _ _ _ h => h) (Or.inl ⟨by rfl, ?_⟩) (by assumption) ?_
            rotate_left
            · intro w hSw; (try dsimp only at hSw); go_simp; try with_reducible rfl
            simp only [Act.put, List.setIfInBounds_toArray, List.set_cons_zero, List.set_cons_succ]
            refine wpAnyH_ready (rs := [13]) (by kernel_rfl) (by simp) ?_
            refine AllReadyH.cons (o := ⟨some 12, _, _, _, _, _⟩) rfl (fun Kq hKq => ?_) AllReadyH.nil
            go_simp
            refine at_alloc ?_
            intro Wa hg hT
            have hx1 : b1 < v4.heap.size := K1.out.lt
            have hx3 : b3 < v4.heap.size := K3.out.lt
            have hxw : w.heap.size ≤ v4.heap.size := G.out.size
            generalize v4.heap.size = xb at *
            have X := Lib.hid hT
            replace G := Lib.hid (gtr G.out hg)
            replace K1 := Lib.hid (K1.out.keptN hg)
            replace K3 := Lib.hid (K3.out.keptN hg)
            replace OX := Lib.hid (OX.out.kept hg (fun g e => by cases e))
            clear hg
            clear hT
            refine hKq.out _ _ (⟨K1.out.cell 0, K3.out.cell 0, K3.out.cell 1, K3.out.cell 2, K3.out.cell 3, K3.out.cell 4, K3.out.cell 5⟩) (fun hHeld => ?_)
            clear hKq Kq
            refine wpAnyH_ready (rs := [14]) (by kernel_rfl) (by simp) ?_
            refine AllReadyH.cons (o := ⟨none, _, _, _, _, _⟩) rfl (fun Kq hKq => ?_) AllReadyH.nil
            rw [if_pos (by rfl)]
            refine wp_store_atQ 27 (.tmp 12) (.tmp 78) xb 0 _ _ _ #[.int .i64 (M : Int), .int .i64 C.need, .bool true, .int .i64 x, .slice a4 (k + 1) c4, .bool false] 27 X.out rfl rfl rfl rfl (Nat.le_of_ble_eq_true rfl) (by kernel_rfl) (by kernel_rfl) (by kernel_rfl) ?_
            intro v5 hg hT
            have OX' := OX.out.keptC X.out (by decide) hg
            clear OX
            have OX := Lib.hid OX'
            clear OX' X
            have X := Lib.hid hT
            clear hT
            replace G := Lib.hid (grown_new G.out (by omega) hg)
            replace K1 := Lib.hid (K1.out.kept hg (by intro e; have e := Option.some.inj e; omega))
            replace K3 := Lib.hid (K3.out.kept hg (by intro e; have e := Option.some.inj e; omega))
            clear hg
            refine hKq.out _ _ (⟨K1.out.cell 0, K3.out.cell 0, K3.out.cell 1, K3.out.cell 2, K3.out.cell 3, K3.out.cell 4, K3.out.cell 5⟩) (fun hHeld => ?_)
            clear hKq Kq
            refine wpAnyH_take (i := 15) (oi := ⟨some 13, _, _, _, _, _⟩) (v := ?_) rfl (by kernel_rfl) (by kernel_rfl) (by kernel_rfl) (fun _ _ _ h => h) (Or.inl ⟨by rfl, ?_⟩) (by assumption) ?_
            rotate_left
            · intro w hSw; (try dsimp only at hSw); go_simp; try with_reducible rfl
            simp only [Act.put, List.setIfInBounds_toArray, List.set_cons_zero, List.set_cons_succ]
            refine wpAnyH_done (by kernel_rfl) ?_ _
            clear hHeld
            revert hx1; revert hx3; revert hxw; revert OX; revert X; revert K3; revert K1; revert G; revert c4; revert a4; revert xb; revert v5
            exact hk.out
          · go_simp
            refine at_alloc ?_
            intro Wa hg hT
            have hx1 : b1 < W0.heap.size := K1.out.lt
            have hx3 : b3 < W0.heap.size := K3.out.lt
            have hxw : w.heap.size ≤ W0.heap.size := G.out.size
            generalize W0.heap.size = xb at *
            have X := Lib.hid hT
            replace G := Lib.hid (gtr G.out hg)
            replace K1 := Lib.hid (K1.out.keptN hg)
            replace K3 := Lib.hid (K3.out.keptN hg)
            replace OW := Lib.hid (OW.out.kept hg (fun g e => by cases e))
            clear hg
            clear hT
            refine hKq.out _ _ (⟨K1.out.cell 0, K3.out.cell 0, K3.out.cell 1, K3.out.cell 2, K3.out.cell 3, K3.out.cell 4, K3.out.cell 5⟩) (fun hHeld => ?_)
            clear hKq Kq
            refine wpAnyH_ready (rs := [9]) (by kernel_rfl) (by simp) ?_
            refine AllReadyH.cons (o := ⟨some 77, _, _, _, _, _⟩) rfl (fun Kq hKq => ?_) AllReadyH.nil
            go_simp
            go_at_call 25
            refine (ivote _ (M : Int) C.need true x a3 k c3 (vfN M lenb) false ((q : Int) + 1) OW.out.ints (by omega) OW.out.le.1 OW.out.le.2).mono ?_
            rintro e v4 ⟨a4, c4, rfl, hO, hg⟩
            rw [HD4.out] at hO ⊢
            rw [HK4.out]
            have OX := Lib.hid (hO.lower (lo' := 0) (Nat.zero_le _))
            clear hO
            clear OW
            replace G := Lib.hid (gtr G.out hg)
            replace K1 := Lib.hid (K1.out.keptN hg)
            replace K3 := Lib.hid (K3.out.keptN hg)
            replace X := Lib.hid (X.out.keptN hg)
            clear hg
            refine hKq.out _ _ (⟨K1.out.cell 0, K3.out.cell 0, K3.out.cell 1, K3.out.cell 2, K3.out.cell 3, K3.out.cell 4, K3.out.cell 5⟩) (fun hHeld => ?_)
            clear hKq Kq
            refine wpAnyH_take (i := 10) (oi := ⟨some 67, _, _, _, _, _⟩) (v := ?_) rfl (by kernel_rfl) (by kernel_rfl) (by kernel_rfl) (fun _ _ _ h => h) (Or.inl ⟨by rfl, ?_⟩) (by assumption) ?_
            rotate_left
            · intro w hSw; (try dsimp only at hSw); go_simp; try with_reducible rfl
            simp only [Act.put, List.setIfInBounds_toArray, List.set_cons_zero, List.set_cons_succ]
            refine wpAnyH_take (i := 11) (oi := ⟨some 78, _, _, _, _, _⟩) (v := ?_) rfl (by kernel_rfl) (by kernel_rfl) (by kernel_rfl) (fun _ _ _ h => h) (Or.inl ⟨by rfl, ?_⟩) (by assumption) ?_
            rotate_left
            · intro w hSw; (try dsimp only at hSw); go_simp; try with_reducible rfl
            simp only [Act.put, List.setIfInBounds_toArray, List.set_cons_zero, List.set_cons_succ]
            refine wpAnyH_take (i := 12) (oi := ⟨some 79, _, _, _, _, _⟩) (v := ?_) rfl (by kernel_rfl) (by kernel_rfl) (by kernel_rfl) (fun _ _ _ h => h) (Or.inl ⟨by rfl, ?_⟩) (by assumption) ?_
            rotate_left
            · intro w hSw; (try dsimp only at hSw); go_simp; try with_reducible rfl
            simp only [Act.put, List.setIfInBounds_toArray, List.set_cons_zero, List.set_cons_succ]
            refine wpAnyH_ready (rs := [14]) (by kernel_rfl) (by simp) ?_
            refine AllReadyH.cons (o := ⟨none, _, _, _, _, _⟩) rfl (fun Kq hKq => ?_) AllReadyH.nil
            rw [if_pos (by rfl)]
            refine wp_store_atQ 27 (.tmp 12) (.tmp 78) xb 0 _ _ _ #[.int .i64 (M : Int), .int .i64 C.need, .bool true, .int .i64 x, .slice a4 (k + 1) c4, .bool false] 27 X.out rfl rfl rfl rfl (Nat.le_of_ble_eq_true rfl) (by kernel_rfl) (by kernel_rfl) (by kernel_rfl) ?_
            intro v5 hg hT
            have OX' := OX.out.keptC X.out (by decide) hg
            clear OX
            have OX := Lib.hid OX'
            clear OX' X
            have X := Lib.hid hT
            clear hT
            replace G := Lib.hid (grown_new G.out (by omega) hg)
            replace K1 := Lib.hid (K1.out.kept hg (by intro e; have e := Option.some.inj e; omega))
            replace K3 := Lib.hid (K3.out.kept hg (by intro e; have e := Option.some.inj e; omega))
            clear hg
            refine hKq.out _ _ (⟨K1.out.cell 0, K3.out.cell 0, K3.out.cell 1, K3.out.cell 2, K3.out.cell 3, K3.out.cell 4, K3.out.cell 5⟩) (fun hHeld => ?_)
            clear hKq Kq
            refine wpAnyH_take (i := 15) (oi := ⟨some 13, _, _, _, _, _⟩) (v := ?_) rfl (by kernel_rfl) (by kernel_rfl) (by kernel_rfl) (fun _ _ _ h => h) (Or.inl ⟨by rfl, ?_⟩) (by assumption) ?_
            rotate_left
            · intro w hSw; (try dsimp only at hSw); go_simp; try with_reducible rfl
            simp only [Act.put, List.setIfInBounds_toArray, List.set_cons_zero, List.set_cons_succ]
            refine wpAnyH_done (by kernel_rfl) ?_ _
            clear hHeld
            revert hx1; revert hx3; revert hxw; revert OX; revert X; revert K3; revert K1; revert G; revert c4; revert a4; revert xb; revert v5
            exact hk.out
        case rest =>
          clear G K1 K3
          clear OW
          intro v5 xb a4 c4 G K1 K3 X OX hxw hx3 hx1
          have hb3w : w.heap.size ≤ b3 := hbw3
          obtain ⟨y0, y1, y2, y3, y4, y5, z0, z1, z2, z3, z4, z5⟩ := c6_of X.out
          have OX2 := Lib.hid ((show OEQ v5 0 a4 (k + 1) c4 (addz (vfN M lenb) k ((q : Int) + 1)) from OX.out).congr (y := vfN M lenb) (fun j hj => by rw [← HVF.out]; exact addz_self hj))
          go_wp2_with (first
            | (refine wpList_store_atQ rfl 27 (.tmp 9) (.tmp 82) _ 0 _ _ _ #[.int .i64 (M : Int), .int .i64 C.need, .bool true, .int .i64 x, .slice a4 (k + 1) c4, .bool false] 27 K3.out rfl rfl rfl rfl (Nat.le_of_ble_eq_true rfl) (by kernel_rfl) (by kernel_rfl) (by kernel_rfl) ?_; intro V hgV hRV; have G2 := Lib.hid (grown_new G.out hb3w hgV); have K12 := Lib.hid (K1.out.kept hgV (by intro e; have e := Option.some.inj e; omega)); have OX3 := Lib.hid (OX2.out.keptC K3.out (by decide) hgV); have K32 := Lib.hid hRV; clear hgV hRV y0 y1 y2 y3 y4 y5 z0 z1 z2 z3 z4 z5))
          go_roundw
          case rel => exact ⟨k + 1, a4, c4, by go_num, by omega, G2.out, K12.out, K32.out, OX3.out⟩
          case measure => simp [intOf]; omega
      case neg =>
        obtain rfl : k = M := by omega
        have HOK := Lib.hid (ctN_ok (L := lenb) HP.out.1 HP.out.2.1 hM hM1 (Nat.le_refl _))
        have HMY := Lib.hid (show ∀ t : Int, 0 ≤ t → t ≤ 99 → cmF ⟨(k : Int), C.need, true, x, k, vfN k lenb, false⟩ t = decide (x + 10 ≤ t) from fun t h0 h9 => by
          have h := HOK.out
          unfold ctN at h; rw [hM] at h
          unfold cmF
          rw [h, tmF_iff.2 ⟨h0, h9⟩]
          show (true && (true && (true && (decide (C.need ≤ ((k : Nat) : Int)) && decide (10 ≤ t - x))))) = _
          rw [decide_eq_true hnd]
          simp
          omega)
        go_wp2
        go_loopw [14] (fun i wr => ∃ t : Nat, t ≤ 100 ∧ i = .int .i64 t ∧ w.grownBy wr none ∧ Blk wr b3 #[.int .i64 (k : Int), .int .i64 C.need, .bool true, .int .i64 x, .slice a3 k c3, .bool false] 27 ∧ OEQ wr 0 a3 k c3 (vfN k lenb)) (fun i _ => 100 - (intOf i).toNat)
        case atStart => exact ⟨0, by omega, rfl, G.out, K3.out, OW.out⟩
        case round =>
          clear k1_0 G K1 K3 OW
          obtain ⟨t, ht100, rfl, hG, h3, h4⟩ := hrel
          have G := Lib.hid hG; have K3 := Lib.hid h3; have OW := Lib.hid h4
          clear hG h3 h4
          by_cases ht9 : t ≤ 99
          case pos =>
            have ht9' : (t : Int) ≤ 99 := by omega
            obtain ⟨y0, y1, y2, y3, y4, y5, z0, z1, z2, z3, z4, z5⟩ := c6_of K3.out
            go_wp2_with fail
            refine (imay _ (k : Int) C.need true x a3 k c3 (vfN k lenb) false (t : Int) OW.out.ints (by omega) OW.out.le.1 OW.out.le.2).mono ?_
            rintro e v6 ⟨rfl, hg⟩
            clear y0 y1 y2 y3 y4 y5 z0 z1 z2 z3 z4 z5
            rw [HMY.out (t : Int) (by omega) (by omega)]
            replace G := Lib.hid (gtr G.out hg); replace K3 := Lib.hid (K3.out.keptN hg); replace OW := Lib.hid (OW.out.keptN hg)
            clear hg
            by_cases hxt : x + 10 ≤ (t : Int)
            · rw [decide_eq_true hxt]
              go_wp2
              go_roundw
              case rel => exact ⟨t + 1, by omega, by go_num, G.out, K3.out, OW.out⟩
              case measure => simp [intOf]; omega
            · rw [decide_eq_false hxt]
              go_wp2
              go_roundw
              case rel => exact ⟨t + 1, by omega, by go_num, G.out, K3.out, OW.out⟩
              case measure => simp [intOf]; omega
          case neg =>
            obtain rfl : t = 100 := by omega
            go_wp2
            go_ret
            exact ⟨rfl, below_of G.out⟩
end Run
end Go.Proofs.Ytbfmigmhmjgdgaa
