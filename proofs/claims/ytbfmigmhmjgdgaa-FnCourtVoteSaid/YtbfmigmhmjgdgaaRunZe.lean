/-
  The walk of the law on votes.
-/
import Derived.Test.YtbfmigmhmjgdgaaZl
namespace Go.Proofs.Ytbfmigmhmjgdgaa
namespace Run
open Go.RowKit Alg Mem Con Draw Ct
set_option linter.unusedVariables false

theorem lpinC (w : World) (a : Option Addr) (len cap : Nat) (z : Nat → Int) (n : Int) (hI : Ints w a len z) (hl : len ≤ 2000000) :
    Calls Try.prog 26 #[.slice a len cap, .int .i64 n] w fun e w' => e = .returned (.bool (hasz z n len)) ∧ w = w' := by
  go_enter Try.func26, Try.ntmps26
  go_wp2
  go_loop [5] (fun i => ∃ k : Nat, k ≤ len ∧ i = .int .i64 k ∧ hasz z n k = false) (fun i => len - (intOf i).toNat)
  case atStart => exact ⟨0, by omega, rfl, rfl⟩
  case round =>
    obtain ⟨k, hk, rfl, hz⟩ := hrel
    have HZ := Lib.hid hz; clear hz
    by_cases hlt : k < len
    · rcases hI with h | ⟨b, off, rfl, hb, hc⟩
      · omega
      have hcx := hc k hlt
      clear hc
      by_cases he : z k = n
      · have HR := Lib.hid (hasz_yes hlt he)
        have ht : (z k == n) = true := by simpa using he
        clear he
        go_wp2
        go_ret
        exact ⟨Mem.ret_b HR.out.symm, rfl⟩
      · have HN := Lib.hid (hasz_next HZ.out he)
        have ht : (z k == n) = false := by simpa using he
        clear he
        go_wp2
        go_round
        case rel => exact ⟨k + 1, by omega, by go_num, HN.out⟩
        case measure => simp [intOf]; omega
    · obtain rfl : k = len := by omega
      clear hI
      go_wp2
      go_ret
      exact ⟨Mem.ret_b HZ.out.symm, rfl⟩
theorem own_emptyQ {w : World} {lo b : Nat} (h : Blk w b #[] 3) (hl : lo ≤ b) : w.ownsRow lo 3 1 (.slice (some ⟨b, 0, none⟩) 0 0) 0 [] :=
  ⟨rfl, .inr ⟨b, 0, #[], rfl, hl, h, Nat.le_refl _, Nat.zero_le _, rfl, by simp⟩⟩
theorem wp_append_wholeQ {o : Oper} {act : Act} {w : World} {K : Act → World → Prop} {Q : Exit → Act → World → Prop} (s x : Operand)
    (ho : o.op = .call { callee := .builtin .append, args := #[s, x], argTypes := #[23, 23] }) (base g : Nat) (hs : act.eval s = .slice (some ⟨g, 0, none⟩) 0 0) (hown : w.ownsRow base 3 1 (.slice (some ⟨g, 0, none⟩) 0 0) 0 [])
    (a : Option Addr) (n c : Nat) (z : Nat → Int) (hx : act.eval x = .slice a n c) (hI : Ints w a n z) (hsl : SlQ a n c) (hn : n ≤ 2000000) (hbase : base ≤ w.heap.size)
    (h : ∀ b c' w', OEQ w' base (some ⟨b, 0, none⟩) n c' z → w.grownBy w' (some g) → K (act.put o.dst (.slice (some ⟨b, 0, none⟩) n c')) w') : o.wp Try.prog act w K Q := by
  obtain ⟨i0, hi, hz0, hz1, hz2⟩ := info_parts info_int
  rcases hsl with ⟨ad, rfl⟩ | ⟨rfl, rfl⟩
  · refine wp_append_own _ s x _ ho base 3 i0 (.int .i64 0) 1 8 und_ints hi hz0 hz1 hz2 rfl (by decide) _ 0 [] hs hown ad n c (vals z n) hx (by simp [vals_length]) (ints_newsQ hI) (one_cells _ _) (by unfold maxLen; omega) (by omega) hbase ?_
    intro v' w' ho' hg' hv'
    rw [Nat.zero_add, List.nil_append] at ho'
    rcases ho'.2 with ⟨hv, _⟩ | ⟨g', c', cur, hv, _⟩
    · have := (hv'.1 hv).1; cases this
    · subst hv
      exact h g' c' w' ho' hg'
  · have hrun := append_owned_noneQ (P := Try.prog) (w := w) base 23 o.type 3 i0 1 und_ints hi _ 0 c [] hown
    unfold Oper.wp
    simp [execOp, ho, resolve, invoke, builtin, hs, hx, hrun, Result.andThen]
    exact h g 0 w hown (grown_refl w _)
set_option maxRecDepth 100000 in
set_option maxHeartbeats 8000000 in
theorem FnCourtVote (a : Option Addr) (len cap : Nat) (w : World) (hB : Bytes w w.heap.size a len) (hc : len ≤ cap) (hm : cap ≤ maxLen) :
    Calls Try.prog 4 #[.slice a len cap] w (Yes w) := by
  by_cases hbig : 1048576 < len
  · have hbig' : (1048576 : Int) < (len : Int) := by omega
    clear hB
    go_enter Try.func4, Try.ntmps4
    go_wp2
    go_ret
    exact ⟨rfl, Below.refl _ _⟩
  have hbig' : ¬ (1048576 : Int) < (len : Int) := by omega
  go_enter Try.func4, Try.ntmps4
  go_wp2_with fail
  refine (drawCtVote w a len cap hB hc hm).mono ?_
  rintro e v1 ⟨C, a1, c1, x, rfl, hO, hn7, hg⟩
  have G := Lib.hid hg; have Oc1 := Lib.hid hO
  clear hg hO hB
  go_wp2_with (refine stop_store rfl ?_)
  refine ⟨trivial, ?_⟩
  refine wpList_store_atQ rfl 27 (.tmp 3) (.tmp 18) _ 0 _ _ _ #[.int .i64 C.many, .int .i64 C.need, .bool C.on, .int .i64 C.at_, .slice a1 C.n c1, .bool C.veto] 27 (Blk.new v1 #[.int .i64 0, .int .i64 0, .bool false, .int .i64 0, .slice none 0 0, .bool false] 27) rfl rfl rfl rfl (Nat.le_of_ble_eq_true rfl) (by kernel_rfl) (by kernel_rfl) (by kernel_rfl) ?_
  intro u1 hgV hT
  have hg : (v1).grownBy u1 none := grown_new (grown_alloc (v1) (.cells #[.int .i64 0, .int .i64 0, .bool false, .int .i64 0, .slice none 0 0, .bool false] 27) none) (Nat.le_refl _) hgV
  have K1 := Lib.hid hT
  clear hgV hT
  replace G := Lib.hid (gtr G.out hg)
  replace Oc1 := Lib.hid (Oc1.out.kept hg (fun g e => by cases e))
  clear hg
  generalize (v1).heap.size = b1 at *
  obtain ⟨D, hD⟩ : ∃ D, vtV ⟨C.many, C.need, C.on, C.at_, C.n, C.f, C.veto⟩ x = D := ⟨_, rfl⟩
  obtain ⟨g, hg0⟩ : ∃ g, vtO ⟨C.many, C.need, C.on, C.at_, C.n, C.f, C.veto⟩ x = g := ⟨_, rfl⟩
  have HD := Lib.hid hD; have HK := Lib.hid hg0
  have hDn : D.n ≤ 8 := by rw [← hD]; exact Nat.le_trans (vtV_n _ _) (by show C.n + 1 ≤ 8; omega)
  clear hD hg0
  have k1_0 : World.cell? u1 ⟨b1, 0, none⟩ = some (.int .i64 C.many) := K1.out.cell 0
  have k1_1 : World.cell? u1 ⟨b1, 1, none⟩ = some (.int .i64 C.need) := K1.out.cell 1
  have k1_2 : World.cell? u1 ⟨b1, 2, none⟩ = some (.bool C.on) := K1.out.cell 2
  have k1_3 : World.cell? u1 ⟨b1, 3, none⟩ = some (.int .i64 C.at_) := K1.out.cell 3
  have k1_4 : World.cell? u1 ⟨b1, 4, none⟩ = some (.slice a1 C.n c1) := K1.out.cell 4
  have k1_5 : World.cell? u1 ⟨b1, 5, none⟩ = some (.bool C.veto) := K1.out.cell 5
  go_wp2_with fail
  refine (svote _ C.many C.need C.on C.at_ a1 C.n c1 C.f C.veto x Oc1.out.ints (by omega) Oc1.out.le.1 Oc1.out.le.2).mono ?_
  rintro e v2 ⟨a2, c2, rfl, hO, hg⟩
  rw [HD.out] at hO ⊢
  rw [HK.out]
  clear k1_0 k1_1 k1_2 k1_3 k1_4 k1_5
  replace G := Lib.hid (gtr G.out hg)
  replace Oc1 := Lib.hid (Oc1.out.kept hg (fun g e => by cases e))
  replace K1 := Lib.hid (K1.out.keptN hg)
  clear hg
  have Oc2 := Lib.hid hO
  clear hO
  go_wp2_with (refine stop_store rfl ?_)
  refine ⟨trivial, ?_⟩
  refine wpList_store_atQ rfl 27 (.tmp 5) (.tmp 24) _ 0 _ _ _ #[.int .i64 D.many, .int .i64 D.need, .bool D.on, .int .i64 D.at_, .slice a2 D.n c2, .bool D.veto] 27 (Blk.new v2 #[.int .i64 0, .int .i64 0, .bool false, .int .i64 0, .slice none 0 0, .bool false] 27) rfl rfl rfl rfl (Nat.le_of_ble_eq_true rfl) (by kernel_rfl) (by kernel_rfl) (by kernel_rfl) ?_
  intro u2 hgV hT
  have hg : (v2).grownBy u2 none := grown_new (grown_alloc (v2) (.cells #[.int .i64 0, .int .i64 0, .bool false, .int .i64 0, .slice none 0 0, .bool false] 27) none) (Nat.le_refl _) hgV
  have K2 := Lib.hid hT
  clear hgV hT
  replace G := Lib.hid (gtr G.out hg)
  replace Oc1 := Lib.hid (Oc1.out.kept hg (fun g e => by cases e))
  replace K1 := Lib.hid (K1.out.keptN hg)
  replace Oc2 := Lib.hid (Oc2.out.kept hg (fun g e => by cases e))
  clear hg
  generalize (v2).heap.size = b2 at *
  have k1_0 : World.cell? u2 ⟨b1, 0, none⟩ = some (.int .i64 C.many) := K1.out.cell 0
  have k1_1 : World.cell? u2 ⟨b1, 1, none⟩ = some (.int .i64 C.need) := K1.out.cell 1
  have k1_2 : World.cell? u2 ⟨b1, 2, none⟩ = some (.bool C.on) := K1.out.cell 2
  have k1_3 : World.cell? u2 ⟨b1, 3, none⟩ = some (.int .i64 C.at_) := K1.out.cell 3
  have k1_4 : World.cell? u2 ⟨b1, 4, none⟩ = some (.slice a1 C.n c1) := K1.out.cell 4
  have k1_5 : World.cell? u2 ⟨b1, 5, none⟩ = some (.bool C.veto) := K1.out.cell 5
  go_wp2_with fail
  refine (ivote _ C.many C.need C.on C.at_ a1 C.n c1 C.f C.veto x Oc1.out.ints (by omega) Oc1.out.le.1 Oc1.out.le.2).mono ?_
  rintro e v3 ⟨a3, c3, rfl, hO, hg⟩
  rw [HD.out] at hO ⊢
  rw [HK.out]
  clear k1_0 k1_1 k1_2 k1_3 k1_4 k1_5
  replace G := Lib.hid (gtr G.out hg)
  replace Oc1 := Lib.hid (Oc1.out.kept hg (fun g e => by cases e))
  replace K1 := Lib.hid (K1.out.keptN hg)
  replace Oc2 := Lib.hid (Oc2.out.kept hg (fun g e => by cases e))
  replace K2 := Lib.hid (K2.out.keptN hg)
  clear hg
  have Oc3 := Lib.hid hO
  clear hO
  go_wp2_with (refine stop_store rfl ?_)
  refine ⟨trivial, ?_⟩
  refine wpList_store_atQ rfl 27 (.tmp 7) (.tmp 30) _ 0 _ _ _ #[.int .i64 D.many, .int .i64 D.need, .bool D.on, .int .i64 D.at_, .slice a3 D.n c3, .bool D.veto] 27 (Blk.new v3 #[.int .i64 0, .int .i64 0, .bool false, .int .i64 0, .slice none 0 0, .bool false] 27) rfl rfl rfl rfl (Nat.le_of_ble_eq_true rfl) (by kernel_rfl) (by kernel_rfl) (by kernel_rfl) ?_
  intro u3 hgV hT
  have hg : (v3).grownBy u3 none := grown_new (grown_alloc (v3) (.cells #[.int .i64 0, .int .i64 0, .bool false, .int .i64 0, .slice none 0 0, .bool false] 27) none) (Nat.le_refl _) hgV
  have K3 := Lib.hid hT
  clear hgV hT
  replace G := Lib.hid (gtr G.out hg)
  replace Oc1 := Lib.hid (Oc1.out.kept hg (fun g e => by cases e))
  replace K1 := Lib.hid (K1.out.keptN hg)
  replace Oc2 := Lib.hid (Oc2.out.kept hg (fun g e => by cases e))
  replace K2 := Lib.hid (K2.out.keptN hg)
  replace Oc3 := Lib.hid (Oc3.out.kept hg (fun g e => by cases e))
  clear hg
  generalize (v3).heap.size = b3 at *
  have hne : (g != g) = false := by simp
  have k3_0 : World.cell? u3 ⟨b3, 0, none⟩ = some (.int .i64 D.many) := K3.out.cell 0
  have k3_1 : World.cell? u3 ⟨b3, 1, none⟩ = some (.int .i64 D.need) := K3.out.cell 1
  have k3_2 : World.cell? u3 ⟨b3, 2, none⟩ = some (.bool D.on) := K3.out.cell 2
  have k3_3 : World.cell? u3 ⟨b3, 3, none⟩ = some (.int .i64 D.at_) := K3.out.cell 3
  have k3_4 : World.cell? u3 ⟨b3, 4, none⟩ = some (.slice a3 D.n c3) := K3.out.cell 4
  have k3_5 : World.cell? u3 ⟨b3, 5, none⟩ = some (.bool D.veto) := K3.out.cell 5
  have k2_0 : World.cell? u3 ⟨b2, 0, none⟩ = some (.int .i64 D.many) := K2.out.cell 0
  have k2_1 : World.cell? u3 ⟨b2, 1, none⟩ = some (.int .i64 D.need) := K2.out.cell 1
  have k2_2 : World.cell? u3 ⟨b2, 2, none⟩ = some (.bool D.on) := K2.out.cell 2
  have k2_3 : World.cell? u3 ⟨b2, 3, none⟩ = some (.int .i64 D.at_) := K2.out.cell 3
  have k2_4 : World.cell? u3 ⟨b2, 4, none⟩ = some (.slice a2 D.n c2) := K2.out.cell 4
  have k2_5 : World.cell? u3 ⟨b2, 5, none⟩ = some (.bool D.veto) := K2.out.cell 5
  go_wp2_with fail
  refine (lpct _ D.many D.need D.on D.at_ a3 a2 D.n c3 c2 D.f D.veto Oc3.out.ints Oc2.out.ints (by omega)).mono ?_
  rintro e v4 ⟨rfl, hg⟩
  clear k3_0 k3_1 k3_2 k3_3 k3_4 k3_5 k2_0 k2_1 k2_2 k2_3 k2_4 k2_5
  replace G := Lib.hid (gtr G.out hg)
  replace Oc1 := Lib.hid (Oc1.out.kept hg (fun g e => by cases e))
  replace K1 := Lib.hid (K1.out.keptN hg)
  replace Oc2 := Lib.hid (Oc2.out.kept hg (fun g e => by cases e))
  replace K2 := Lib.hid (K2.out.keptN hg)
  replace Oc3 := Lib.hid (Oc3.out.kept hg (fun g e => by cases e))
  replace K3 := Lib.hid (K3.out.keptN hg)
  clear hg
  have k1_0 : World.cell? v4 ⟨b1, 0, none⟩ = some (.int .i64 C.many) := K1.out.cell 0
  have k1_1 : World.cell? v4 ⟨b1, 1, none⟩ = some (.int .i64 C.need) := K1.out.cell 1
  have k1_2 : World.cell? v4 ⟨b1, 2, none⟩ = some (.bool C.on) := K1.out.cell 2
  have k1_3 : World.cell? v4 ⟨b1, 3, none⟩ = some (.int .i64 C.at_) := K1.out.cell 3
  have k1_4 : World.cell? v4 ⟨b1, 4, none⟩ = some (.slice a1 C.n c1) := K1.out.cell 4
  have k1_5 : World.cell? v4 ⟨b1, 5, none⟩ = some (.bool C.veto) := K1.out.cell 5
  go_wp2_with fail
  refine (sctok _ C.many C.need C.on C.at_ a1 C.n c1 C.f C.veto Oc1.out.ints (by omega) Oc1.out.le.1 Oc1.out.le.2).mono ?_
  rintro e v5 ⟨rfl, hg⟩
  clear k1_0 k1_1 k1_2 k1_3 k1_4 k1_5
  replace G := Lib.hid (gtr G.out hg)
  replace Oc1 := Lib.hid (Oc1.out.kept hg (fun g e => by cases e))
  replace K1 := Lib.hid (K1.out.keptN hg)
  replace Oc2 := Lib.hid (Oc2.out.kept hg (fun g e => by cases e))
  replace K2 := Lib.hid (K2.out.keptN hg)
  replace Oc3 := Lib.hid (Oc3.out.kept hg (fun g e => by cases e))
  replace K3 := Lib.hid (K3.out.keptN hg)
  clear hg
  cases hk : cokF ⟨C.many, C.need, C.on, C.at_, C.n, C.f, C.veto⟩ with
  | false =>
    clear hk
    have k3_0 : World.cell? v5 ⟨b3, 0, none⟩ = some (.int .i64 D.many) := K3.out.cell 0
    have k3_1 : World.cell? v5 ⟨b3, 1, none⟩ = some (.int .i64 D.need) := K3.out.cell 1
    have k3_2 : World.cell? v5 ⟨b3, 2, none⟩ = some (.bool D.on) := K3.out.cell 2
    have k3_3 : World.cell? v5 ⟨b3, 3, none⟩ = some (.int .i64 D.at_) := K3.out.cell 3
    have k3_4 : World.cell? v5 ⟨b3, 4, none⟩ = some (.slice a3 D.n c3) := K3.out.cell 4
    have k3_5 : World.cell? v5 ⟨b3, 5, none⟩ = some (.bool D.veto) := K3.out.cell 5
    have k2_0 : World.cell? v5 ⟨b2, 0, none⟩ = some (.int .i64 D.many) := K2.out.cell 0
    have k2_1 : World.cell? v5 ⟨b2, 1, none⟩ = some (.int .i64 D.need) := K2.out.cell 1
    have k2_2 : World.cell? v5 ⟨b2, 2, none⟩ = some (.bool D.on) := K2.out.cell 2
    have k2_3 : World.cell? v5 ⟨b2, 3, none⟩ = some (.int .i64 D.at_) := K2.out.cell 3
    have k2_4 : World.cell? v5 ⟨b2, 4, none⟩ = some (.slice a2 D.n c2) := K2.out.cell 4
    have k2_5 : World.cell? v5 ⟨b2, 5, none⟩ = some (.bool D.veto) := K2.out.cell 5
    go_wp2_with fail
    refine (lpct _ D.many D.need D.on D.at_ a3 a2 D.n c3 c2 D.f D.veto Oc3.out.ints Oc2.out.ints (by omega)).mono ?_
    rintro e v9 ⟨rfl, hg⟩
    clear k3_0 k3_1 k3_2 k3_3 k3_4 k3_5 k2_0 k2_1 k2_2 k2_3 k2_4 k2_5
    replace G := Lib.hid (gtr G.out hg)
    replace Oc1 := Lib.hid (Oc1.out.kept hg (fun g e => by cases e))
    replace K1 := Lib.hid (K1.out.keptN hg)
    replace Oc2 := Lib.hid (Oc2.out.kept hg (fun g e => by cases e))
    replace K2 := Lib.hid (K2.out.keptN hg)
    replace Oc3 := Lib.hid (Oc3.out.kept hg (fun g e => by cases e))
    replace K3 := Lib.hid (K3.out.keptN hg)
    clear hg
    go_wp2
    go_ret
    exact ⟨by simp, below_of G.out⟩
  | true =>
    have HC := Lib.hid hk; clear hk
    by_cases h0 : x < 1
    case pos =>
      have k3_0 : World.cell? v5 ⟨b3, 0, none⟩ = some (.int .i64 D.many) := K3.out.cell 0
      have k3_1 : World.cell? v5 ⟨b3, 1, none⟩ = some (.int .i64 D.need) := K3.out.cell 1
      have k3_2 : World.cell? v5 ⟨b3, 2, none⟩ = some (.bool D.on) := K3.out.cell 2
      have k3_3 : World.cell? v5 ⟨b3, 3, none⟩ = some (.int .i64 D.at_) := K3.out.cell 3
      have k3_4 : World.cell? v5 ⟨b3, 4, none⟩ = some (.slice a3 D.n c3) := K3.out.cell 4
      have k3_5 : World.cell? v5 ⟨b3, 5, none⟩ = some (.bool D.veto) := K3.out.cell 5
      have k2_0 : World.cell? v5 ⟨b2, 0, none⟩ = some (.int .i64 D.many) := K2.out.cell 0
      have k2_1 : World.cell? v5 ⟨b2, 1, none⟩ = some (.int .i64 D.need) := K2.out.cell 1
      have k2_2 : World.cell? v5 ⟨b2, 2, none⟩ = some (.bool D.on) := K2.out.cell 2
      have k2_3 : World.cell? v5 ⟨b2, 3, none⟩ = some (.int .i64 D.at_) := K2.out.cell 3
      have k2_4 : World.cell? v5 ⟨b2, 4, none⟩ = some (.slice a2 D.n c2) := K2.out.cell 4
      have k2_5 : World.cell? v5 ⟨b2, 5, none⟩ = some (.bool D.veto) := K2.out.cell 5
      go_wp2_with fail
      refine (lpct _ D.many D.need D.on D.at_ a3 a2 D.n c3 c2 D.f D.veto Oc3.out.ints Oc2.out.ints (by omega)).mono ?_
      rintro e v9 ⟨rfl, hg⟩
      clear k3_0 k3_1 k3_2 k3_3 k3_4 k3_5 k2_0 k2_1 k2_2 k2_3 k2_4 k2_5
      replace G := Lib.hid (gtr G.out hg)
      replace Oc1 := Lib.hid (Oc1.out.kept hg (fun g e => by cases e))
      replace K1 := Lib.hid (K1.out.keptN hg)
      replace Oc2 := Lib.hid (Oc2.out.kept hg (fun g e => by cases e))
      replace K2 := Lib.hid (K2.out.keptN hg)
      replace Oc3 := Lib.hid (Oc3.out.kept hg (fun g e => by cases e))
      replace K3 := Lib.hid (K3.out.keptN hg)
      clear hg
      go_wp2
      go_ret
      exact ⟨by simp, below_of G.out⟩
    case neg =>
      by_cases h9 : C.many < x
      case pos =>
        have q0 : World.cell? v5 ⟨b1, 0, none⟩ = some (.int .i64 C.many) := K1.out.cell 0
        have k3_0 : World.cell? v5 ⟨b3, 0, none⟩ = some (.int .i64 D.many) := K3.out.cell 0
        have k3_1 : World.cell? v5 ⟨b3, 1, none⟩ = some (.int .i64 D.need) := K3.out.cell 1
        have k3_2 : World.cell? v5 ⟨b3, 2, none⟩ = some (.bool D.on) := K3.out.cell 2
        have k3_3 : World.cell? v5 ⟨b3, 3, none⟩ = some (.int .i64 D.at_) := K3.out.cell 3
        have k3_4 : World.cell? v5 ⟨b3, 4, none⟩ = some (.slice a3 D.n c3) := K3.out.cell 4
        have k3_5 : World.cell? v5 ⟨b3, 5, none⟩ = some (.bool D.veto) := K3.out.cell 5
        have k2_0 : World.cell? v5 ⟨b2, 0, none⟩ = some (.int .i64 D.many) := K2.out.cell 0
        have k2_1 : World.cell? v5 ⟨b2, 1, none⟩ = some (.int .i64 D.need) := K2.out.cell 1
        have k2_2 : World.cell? v5 ⟨b2, 2, none⟩ = some (.bool D.on) := K2.out.cell 2
        have k2_3 : World.cell? v5 ⟨b2, 3, none⟩ = some (.int .i64 D.at_) := K2.out.cell 3
        have k2_4 : World.cell? v5 ⟨b2, 4, none⟩ = some (.slice a2 D.n c2) := K2.out.cell 4
        have k2_5 : World.cell? v5 ⟨b2, 5, none⟩ = some (.bool D.veto) := K2.out.cell 5
        go_wp2_with fail
        refine (lpct _ D.many D.need D.on D.at_ a3 a2 D.n c3 c2 D.f D.veto Oc3.out.ints Oc2.out.ints (by omega)).mono ?_
        rintro e v9 ⟨rfl, hg⟩
        clear q0
        clear k3_0 k3_1 k3_2 k3_3 k3_4 k3_5 k2_0 k2_1 k2_2 k2_3 k2_4 k2_5
        replace G := Lib.hid (gtr G.out hg)
        replace Oc1 := Lib.hid (Oc1.out.kept hg (fun g e => by cases e))
        replace K1 := Lib.hid (K1.out.keptN hg)
        replace Oc2 := Lib.hid (Oc2.out.kept hg (fun g e => by cases e))
        replace K2 := Lib.hid (K2.out.keptN hg)
        replace Oc3 := Lib.hid (Oc3.out.kept hg (fun g e => by cases e))
        replace K3 := Lib.hid (K3.out.keptN hg)
        clear hg
        go_wp2
        go_ret
        exact ⟨by simp, below_of G.out⟩
      case neg =>
        have HT := Lib.hid (mgF_iff.2 ⟨by omega, by omega⟩ : mgF C.many x = true)
        have HKT := Lib.hid (show (cokF C && mgF C.many x) = true by rw [show cokF C = true from HC.out, HT.out]; rfl)
        have HG := Lib.hid (show g = vtA C x by rw [← HK.out]; show vtO C x = _; rw [vtO_as, HKT.out]; rfl)
        cases hon : C.on with
        | false =>
          have hA : vtA C x = false := by unfold vtA stF; rw [hon]; rfl
          obtain rfl : false = g := by rw [HG.out, hA]
          obtain rfl : C = D := by rw [← HD.out]; exact (vtV_as HKT.out hA).symm
          clear hA
          have q2 : World.cell? v5 ⟨b1, 2, none⟩ = some (.bool false) := by rw [← hon]; exact K1.out.cell 2
          have q5 : World.cell? v5 ⟨b1, 5, none⟩ = some (.bool C.veto) := by exact K1.out.cell 5
          have q0 : World.cell? v5 ⟨b1, 0, none⟩ = some (.int .i64 C.many) := K1.out.cell 0; have q1 : World.cell? v5 ⟨b1, 1, none⟩ = some (.int .i64 C.need) := K1.out.cell 1; have q3 : World.cell? v5 ⟨b1, 3, none⟩ = some (.int .i64 C.at_) := K1.out.cell 3; have q4 : World.cell? v5 ⟨b1, 4, none⟩ = some (.slice a1 C.n c1) := K1.out.cell 4
          have k3_0 : World.cell? v5 ⟨b3, 0, none⟩ = some (.int .i64 C.many) := K3.out.cell 0
          have k3_1 : World.cell? v5 ⟨b3, 1, none⟩ = some (.int .i64 C.need) := K3.out.cell 1
          have k3_2 : World.cell? v5 ⟨b3, 2, none⟩ = some (.bool false) := by rw [← hon]; exact K3.out.cell 2
          have k3_3 : World.cell? v5 ⟨b3, 3, none⟩ = some (.int .i64 C.at_) := K3.out.cell 3
          have k3_4 : World.cell? v5 ⟨b3, 4, none⟩ = some (.slice a3 C.n c3) := K3.out.cell 4
          have k3_5 : World.cell? v5 ⟨b3, 5, none⟩ = some (.bool C.veto) := K3.out.cell 5
          go_wp2_with fail
          refine (lpct _ C.many C.need false C.at_ a3 a1 C.n c3 c1 C.f C.veto Oc3.out.ints Oc1.out.ints (by omega)).mono ?_
          rintro e v6 ⟨rfl, hg⟩
          clear k3_0 k3_1 k3_2 k3_3 k3_4 k3_5
          clear q0 q1 q2 q3 q4 q5
          replace G := Lib.hid (gtr G.out hg)
          replace Oc1 := Lib.hid (Oc1.out.kept hg (fun g e => by cases e))
          replace K1 := Lib.hid (K1.out.keptN hg)
          replace Oc2 := Lib.hid (Oc2.out.kept hg (fun g e => by cases e))
          replace K2 := Lib.hid (K2.out.keptN hg)
          replace Oc3 := Lib.hid (Oc3.out.kept hg (fun g e => by cases e))
          replace K3 := Lib.hid (K3.out.keptN hg)
          clear hg
          go_wp2
          go_ret
          exact ⟨by simp, below_of G.out⟩
        | true =>
          cases hve : C.veto with
          | true =>
            have hA : vtA C x = false := by unfold vtA stF; rw [hon, hve]; rfl
            obtain rfl : false = g := by rw [HG.out, hA]
            obtain rfl : C = D := by rw [← HD.out]; exact (vtV_as HKT.out hA).symm
            clear hA
            have q2 : World.cell? v5 ⟨b1, 2, none⟩ = some (.bool true) := by rw [← hon]; exact K1.out.cell 2
            have q5 : World.cell? v5 ⟨b1, 5, none⟩ = some (.bool true) := by rw [← hve]; exact K1.out.cell 5
            have q0 : World.cell? v5 ⟨b1, 0, none⟩ = some (.int .i64 C.many) := K1.out.cell 0; have q1 : World.cell? v5 ⟨b1, 1, none⟩ = some (.int .i64 C.need) := K1.out.cell 1; have q3 : World.cell? v5 ⟨b1, 3, none⟩ = some (.int .i64 C.at_) := K1.out.cell 3; have q4 : World.cell? v5 ⟨b1, 4, none⟩ = some (.slice a1 C.n c1) := K1.out.cell 4
            have k3_0 : World.cell? v5 ⟨b3, 0, none⟩ = some (.int .i64 C.many) := K3.out.cell 0
            have k3_1 : World.cell? v5 ⟨b3, 1, none⟩ = some (.int .i64 C.need) := K3.out.cell 1
            have k3_2 : World.cell? v5 ⟨b3, 2, none⟩ = some (.bool true) := by rw [← hon]; exact K3.out.cell 2
            have k3_3 : World.cell? v5 ⟨b3, 3, none⟩ = some (.int .i64 C.at_) := K3.out.cell 3
            have k3_4 : World.cell? v5 ⟨b3, 4, none⟩ = some (.slice a3 C.n c3) := K3.out.cell 4
            have k3_5 : World.cell? v5 ⟨b3, 5, none⟩ = some (.bool true) := by rw [← hve]; exact K3.out.cell 5
            go_wp2_with fail
            refine (lpct _ C.many C.need true C.at_ a3 a1 C.n c3 c1 C.f true Oc3.out.ints Oc1.out.ints (by omega)).mono ?_
            rintro e v6 ⟨rfl, hg⟩
            clear k3_0 k3_1 k3_2 k3_3 k3_4 k3_5
            clear q0 q1 q2 q3 q4 q5
            replace G := Lib.hid (gtr G.out hg)
            replace Oc1 := Lib.hid (Oc1.out.kept hg (fun g e => by cases e))
            replace K1 := Lib.hid (K1.out.keptN hg)
            replace Oc2 := Lib.hid (Oc2.out.kept hg (fun g e => by cases e))
            replace K2 := Lib.hid (K2.out.keptN hg)
            replace Oc3 := Lib.hid (Oc3.out.kept hg (fun g e => by cases e))
            replace K3 := Lib.hid (K3.out.keptN hg)
            clear hg
            go_wp2
            go_ret
            exact ⟨by simp, below_of G.out⟩
          | false =>
            cases hh : hasz C.f x C.n with
            | true =>
              have hA : vtA C x = false := by unfold vtA stF; rw [hon, hve, hh]; rfl
              obtain rfl : false = g := by rw [HG.out, hA]
              obtain rfl : C = D := by rw [← HD.out]; exact (vtV_as HKT.out hA).symm
              clear hA
              have q2 : World.cell? v5 ⟨b1, 2, none⟩ = some (.bool true) := by rw [← hon]; exact K1.out.cell 2
              have q5 : World.cell? v5 ⟨b1, 5, none⟩ = some (.bool false) := by rw [← hve]; exact K1.out.cell 5
              have q0 : World.cell? v5 ⟨b1, 0, none⟩ = some (.int .i64 C.many) := K1.out.cell 0; have q1 : World.cell? v5 ⟨b1, 1, none⟩ = some (.int .i64 C.need) := K1.out.cell 1; have q3 : World.cell? v5 ⟨b1, 3, none⟩ = some (.int .i64 C.at_) := K1.out.cell 3; have q4 : World.cell? v5 ⟨b1, 4, none⟩ = some (.slice a1 C.n c1) := K1.out.cell 4
              have k3_0 : World.cell? v5 ⟨b3, 0, none⟩ = some (.int .i64 C.many) := K3.out.cell 0
              have k3_1 : World.cell? v5 ⟨b3, 1, none⟩ = some (.int .i64 C.need) := K3.out.cell 1
              have k3_2 : World.cell? v5 ⟨b3, 2, none⟩ = some (.bool true) := by rw [← hon]; exact K3.out.cell 2
              have k3_3 : World.cell? v5 ⟨b3, 3, none⟩ = some (.int .i64 C.at_) := K3.out.cell 3
              have k3_4 : World.cell? v5 ⟨b3, 4, none⟩ = some (.slice a3 C.n c3) := K3.out.cell 4
              have k3_5 : World.cell? v5 ⟨b3, 5, none⟩ = some (.bool false) := by rw [← hve]; exact K3.out.cell 5
              go_wp2_with fail
              refine (lpinC _ a1 C.n c1 C.f x Oc1.out.ints (by omega)).mono ?_
              rintro e w' ⟨rfl, rfl⟩
              rw [hh]
              clear hh
              go_wp2_with fail
              refine (lpct _ C.many C.need true C.at_ a3 a1 C.n c3 c1 C.f false Oc3.out.ints Oc1.out.ints (by omega)).mono ?_
              rintro e v6 ⟨rfl, hg⟩
              clear k3_0 k3_1 k3_2 k3_3 k3_4 k3_5
              clear q0 q1 q2 q3 q4 q5
              replace G := Lib.hid (gtr G.out hg)
              replace Oc1 := Lib.hid (Oc1.out.kept hg (fun g e => by cases e))
              replace K1 := Lib.hid (K1.out.keptN hg)
              replace Oc2 := Lib.hid (Oc2.out.kept hg (fun g e => by cases e))
              replace K2 := Lib.hid (K2.out.keptN hg)
              replace Oc3 := Lib.hid (Oc3.out.kept hg (fun g e => by cases e))
              replace K3 := Lib.hid (K3.out.keptN hg)
              clear hg
              go_wp2
              go_ret
              exact ⟨by simp, below_of G.out⟩
            | false =>
              have HA := Lib.hid (show vtA C x = true by unfold vtA stF; rw [hon, hve, hh]; rfl)
              obtain rfl : true = g := by rw [HG.out, HA.out]
              obtain rfl : addC C x = D := by rw [← HD.out]; exact (vtV_nw HKT.out HA.out).symm
              have hcE : cokF (addC C x) = true := by have := (vtV_ok HK.out).1; rw [show vtV C x = addC C x from vtV_nw HKT.out HA.out] at this; exact this
              have HCE := Lib.hid hcE; clear hcE
              have HA2 := Lib.hid (show vtA (addC C x) x = false by unfold vtA addC; dsimp only; rw [hasz_addz]; simp)
              have HKT2 := Lib.hid (show (cokF (addC C x) && mgF (addC C x).many x) = true by rw [HCE.out, show mgF (addC C x).many x = true from HT.out]; rfl)
              have HD4 := Lib.hid (show vtV ⟨(addC C x).many, (addC C x).need, (addC C x).on, (addC C x).at_, (addC C x).n, (addC C x).f, (addC C x).veto⟩ x = addC C x from vtV_as HKT2.out HA2.out)
              have HK4 := Lib.hid (show vtO ⟨(addC C x).many, (addC C x).need, (addC C x).on, (addC C x).at_, (addC C x).n, (addC C x).f, (addC C x).veto⟩ x = false by show vtO (addC C x) x = false; rw [vtO_as, HA2.out]; simp)
              have hnx : (addC C x).n ≤ 8 := hDn
              have q2 : World.cell? v5 ⟨b1, 2, none⟩ = some (.bool true) := by rw [← hon]; exact K1.out.cell 2
              have q5 : World.cell? v5 ⟨b1, 5, none⟩ = some (.bool false) := by rw [← hve]; exact K1.out.cell 5
              have q4 : World.cell? v5 ⟨b1, 4, none⟩ = some (.slice a1 C.n c1) := K1.out.cell 4
              have q0 : World.cell? v5 ⟨b1, 0, none⟩ = some (.int .i64 C.many) := K1.out.cell 0
              go_wp2_with fail
              refine (lpinC _ a1 C.n c1 C.f x Oc1.out.ints (by omega)).mono ?_
              rintro e w' ⟨rfl, rfl⟩
              rw [hh]
              clear hh
              clear q0 q2 q4 q5
              have k3_0 : World.cell? v5 ⟨b3, 0, none⟩ = some (.int .i64 (addC C x).many) := K3.out.cell 0
              have k3_1 : World.cell? v5 ⟨b3, 1, none⟩ = some (.int .i64 (addC C x).need) := K3.out.cell 1
              have k3_2 : World.cell? v5 ⟨b3, 2, none⟩ = some (.bool (addC C x).on) := K3.out.cell 2
              have k3_3 : World.cell? v5 ⟨b3, 3, none⟩ = some (.int .i64 (addC C x).at_) := K3.out.cell 3
              have k3_4 : World.cell? v5 ⟨b3, 4, none⟩ = some (.slice a3 (addC C x).n c3) := K3.out.cell 4
              have k3_5 : World.cell? v5 ⟨b3, 5, none⟩ = some (.bool (addC C x).veto) := K3.out.cell 5
              go_wp2_with fail
              refine (ivote _ (addC C x).many (addC C x).need (addC C x).on (addC C x).at_ a3 (addC C x).n c3 (addC C x).f (addC C x).veto x Oc3.out.ints (by omega) Oc3.out.le.1 Oc3.out.le.2).mono ?_
              rintro e v4 ⟨a4, c4, rfl, hO, hg⟩
              rw [HD4.out] at hO ⊢
              rw [HK4.out]
              clear k3_0 k3_1 k3_2 k3_3 k3_4 k3_5
              replace G := Lib.hid (gtr G.out hg)
              replace Oc1 := Lib.hid (Oc1.out.kept hg (fun g e => by cases e))
              replace K1 := Lib.hid (K1.out.keptN hg)
              replace Oc2 := Lib.hid (Oc2.out.kept hg (fun g e => by cases e))
              replace K2 := Lib.hid (K2.out.keptN hg)
              replace Oc3 := Lib.hid (Oc3.out.kept hg (fun g e => by cases e))
              replace K3 := Lib.hid (K3.out.keptN hg)
              clear hg
              have Oc4 := Lib.hid hO
              clear hO
              go_wp2_with (refine stop_store rfl ?_)
              refine ⟨trivial, ?_⟩
              refine wpList_store_atQ rfl 27 (.tmp 10) (.tmp 93) _ 0 _ _ _ #[.int .i64 (addC C x).many, .int .i64 (addC C x).need, .bool (addC C x).on, .int .i64 (addC C x).at_, .slice a4 (addC C x).n c4, .bool (addC C x).veto] 27 (Blk.new v4 #[.int .i64 0, .int .i64 0, .bool false, .int .i64 0, .slice none 0 0, .bool false] 27) rfl rfl rfl rfl (Nat.le_of_ble_eq_true rfl) (by kernel_rfl) (by kernel_rfl) (by kernel_rfl) ?_
              intro u4 hgV hT
              have hg : (v4).grownBy u4 none := grown_new (grown_alloc (v4) (.cells #[.int .i64 0, .int .i64 0, .bool false, .int .i64 0, .slice none 0 0, .bool false] 27) none) (Nat.le_refl _) hgV
              have K4 := Lib.hid hT
              clear hgV hT
              replace G := Lib.hid (gtr G.out hg)
              replace Oc1 := Lib.hid (Oc1.out.kept hg (fun g e => by cases e))
              replace K1 := Lib.hid (K1.out.keptN hg)
              replace Oc2 := Lib.hid (Oc2.out.kept hg (fun g e => by cases e))
              replace K2 := Lib.hid (K2.out.keptN hg)
              replace Oc3 := Lib.hid (Oc3.out.kept hg (fun g e => by cases e))
              replace K3 := Lib.hid (K3.out.keptN hg)
              replace Oc4 := Lib.hid (Oc4.out.kept hg (fun g e => by cases e))
              clear hg
              generalize (v4).heap.size = b4 at *
              have hq3 : Blk u4 b3 #[.int .i64 C.many, .int .i64 C.need, .bool true, .int .i64 C.at_, .slice a3 (C.n + 1) c3, .bool false] 27 := by have h := K3.out; unfold addC at h; dsimp only at h; rw [hon, hve] at h; exact h
              have Q3 := Lib.hid hq3; clear hq3
              have hq4 : Blk u4 b4 #[.int .i64 C.many, .int .i64 C.need, .bool true, .int .i64 C.at_, .slice a4 (C.n + 1) c4, .bool false] 27 := by have h := K4.out; unfold addC at h; dsimp only at h; rw [hon, hve] at h; exact h
              have Q4 := Lib.hid hq4; clear hq4
              have HL3 := Lib.hid Oc3.out.le; have HI1 := Lib.hid Oc1.out.ints; have HI3 := Lib.hid (show Ints u4 a3 (C.n + 1) (addz C.f C.n x) from Oc3.out.ints); have HI4 := Lib.hid (show Ints u4 a4 (C.n + 1) (addz C.f C.n x) from Oc4.out.ints)
              have HCF := Lib.hid (show cokF ⟨C.many, C.need, true, C.at_, C.n + 1, addz C.f C.n x, false⟩ = true by have h := HCE.out; unfold addC at h; rw [hon, hve] at h; exact h)
              clear hon hve
              go_wp2_with fail
              refine wp_region_held_drew (S := (fun w' => w'.cell? ⟨b1, 4, none⟩ = some (.slice a1 C.n c1) ∧ w'.cell? ⟨b3, 0, none⟩ = some (.int .i64 C.many) ∧ w'.cell? ⟨b3, 1, none⟩ = some (.int .i64 C.need) ∧ w'.cell? ⟨b3, 2, none⟩ = some (.bool true) ∧ w'.cell? ⟨b3, 3, none⟩ = some (.int .i64 C.at_) ∧ w'.cell? ⟨b3, 4, none⟩ = some (.slice a3 (C.n + 1) c3) ∧ w'.cell? ⟨b3, 5, none⟩ = some (.bool false) ∧ w'.cell? ⟨b4, 0, none⟩ = some (.int .i64 C.many) ∧ w'.cell? ⟨b4, 1, none⟩ = some (.int .i64 C.need) ∧ w'.cell? ⟨b4, 2, none⟩ = some (.bool true) ∧ w'.cell? ⟨b4, 3, none⟩ = some (.int .i64 C.at_) ∧ w'.cell? ⟨b4, 4, none⟩ = some (.slice a4 (C.n + 1) c4) ∧ w'.cell? ⟨b4, 5, none⟩ = some (.bool false))) (by kernel_rfl) (⟨K1.out.cell 4, Q3.out.cell 0, Q3.out.cell 1, Q3.out.cell 2, Q3.out.cell 3, Q3.out.cell 4, Q3.out.cell 5, Q4.out.cell 0, Q4.out.cell 1, Q4.out.cell 2, Q4.out.cell 3, Q4.out.cell 4, Q4.out.cell 5⟩) (fun hHeld => ?_)
              have hg := gdrew u4
              replace G := Lib.hid (gtr G.out hg)
              replace Q3 := Lib.hid (Q3.out.keptN hg)
              replace Q4 := Lib.hid (Q4.out.keptN hg)
              replace K1 := Lib.hid (K1.out.keptN hg)
              replace HI1 := Lib.hid (HI1.out.kept hg)
              replace HI3 := Lib.hid (HI3.out.kept hg)
              replace HI4 := Lib.hid (HI4.out.kept hg)
              clear hg
              generalize u4.drew = W0 at *
              have Z := Lib.hid (grown_refl W0 none)
              refine wpAnyH_take (i := 0) (oi := ⟨some 95, _, _, _, _, _⟩) (v := ?_) rfl (by kernel_rfl) (by kernel_rfl) (by kernel_rfl) (fun _ _ _ h => h) (Or.inl ⟨by rfl, ?_⟩) (by assumption) ?_
              rotate_left
              · intro w hSw; (try dsimp only at hSw); go_simp; try with_reducible rfl
              simp only [Act.put, List.setIfInBounds_toArray, List.set_cons_zero, List.set_cons_succ]
              refine wpAnyH_take (i := 1) (oi := ⟨some 96, _, _, _, _, _⟩) (v := ?_) rfl (by kernel_rfl) (by kernel_rfl) (by kernel_rfl) (fun _ _ _ h => h) (Or.inl ⟨by rfl, ?_⟩) (by assumption) ?_
              rotate_left
              · intro w hSw; (try dsimp only at hSw); go_simp; try with_reducible rfl
              simp only [Act.put, List.setIfInBounds_toArray, List.set_cons_zero, List.set_cons_succ]
              refine wpAnyH_take (i := 2) (oi := ⟨some 97, _, _, _, _, _⟩) (v := ?_) rfl (by kernel_rfl) (by kernel_rfl) (by kernel_rfl) (fun _ _ _ h => h) (Or.inl ⟨by rfl, ?_⟩) (by assumption) ?_
              rotate_left
              · intro w hSw; (try dsimp only at hSw); go_simp; try with_reducible rfl
              simp only [Act.put, List.setIfInBounds_toArray, List.set_cons_zero, List.set_cons_succ]
              refine wpAnyH_take (i := 3) (oi := ⟨some 98, _, _, _, _, _⟩) (v := ?_) rfl (by kernel_rfl) (by kernel_rfl) (by kernel_rfl) (fun _ _ _ h => h) (Or.inl ⟨by rfl, ?_⟩) (by assumption) ?_
              rotate_left
              · intro w hSw; (try dsimp only at hSw); go_simp; try with_reducible rfl
              simp only [Act.put, List.setIfInBounds_toArray, List.set_cons_zero, List.set_cons_succ]
              refine wpAnyH_take (i := 4) (oi := ⟨some 99, _, _, _, _, _⟩) (v := ?_) rfl (by kernel_rfl) (by kernel_rfl) (by kernel_rfl) (fun _ _ _ h => h) (Or.inl ⟨by rfl, ?_⟩) (by assumption) ?_
              rotate_left
              · intro w hSw; (try dsimp only at hSw); go_simp; try with_reducible rfl
              simp only [Act.put, List.setIfInBounds_toArray, List.set_cons_zero, List.set_cons_succ]
              refine wpAnyH_take (i := 6) (oi := ⟨some 101, _, _, _, _, _⟩) (v := ?_) rfl (by kernel_rfl) (by kernel_rfl) (by kernel_rfl) (fun _ _ _ h => h) (Or.inl ⟨by rfl, ?_⟩) (by assumption) ?_
              rotate_left
              · intro w hSw; (try dsimp only at hSw); go_simp; try with_reducible rfl
              simp only [Act.put, List.setIfInBounds_toArray, List.set_cons_zero, List.set_cons_succ]
              refine wpAnyH_take (i := 7) (oi := ⟨some 102, _, _, _, _, _⟩) (v := ?_) rfl (by kernel_rfl) (by kernel_rfl) (by kernel_rfl) (fun _ _ _ h => h) (Or.inl ⟨by rfl, ?_⟩) (by assumption) ?_
              rotate_left
              · intro w hSw; (try dsimp only at hSw); go_simp; try with_reducible rfl
              simp only [Act.put, List.setIfInBounds_toArray, List.set_cons_zero, List.set_cons_succ]
              refine wpAnyH_take (i := 8) (oi := ⟨some 103, _, _, _, _, _⟩) (v := ?_) rfl (by kernel_rfl) (by kernel_rfl) (by kernel_rfl) (fun _ _ _ h => h) (Or.inl ⟨by rfl, ?_⟩) (by assumption) ?_
              rotate_left
              · intro w hSw; (try dsimp only at hSw); go_simp; try with_reducible rfl
              simp only [Act.put, List.setIfInBounds_toArray, List.set_cons_zero, List.set_cons_succ]
              refine wpAnyH_take (i := 10) (oi := ⟨some 105, _, _, _, _, _⟩) (v := ?_) rfl (by kernel_rfl) (by kernel_rfl) (by kernel_rfl) (fun _ _ _ h => h) (Or.inl ⟨by rfl, ?_⟩) (by assumption) ?_
              rotate_left
              · intro w hSw; (try dsimp only at hSw); go_simp; try with_reducible rfl
              simp only [Act.put, List.setIfInBounds_toArray, List.set_cons_zero, List.set_cons_succ]
              refine wpAnyH_ready (rs := [5, 11]) (by kernel_rfl) (by simp) ?_
              refine AllReadyH.cons (o := ⟨some 100, _, _, _, _, _⟩) rfl (fun Kq hKq => ?_) (AllReadyH.cons (o := ⟨some 106, _, _, _, _, _⟩) rfl (fun Kq hKq => ?_) AllReadyH.nil)
              · go_simp
                refine at_alloc ?_
                intro We hg hE
                try have hxg : xb < W0.heap.size := X.out.lt
                obtain ⟨gb, hgb⟩ : ∃ gb, gb = W0.heap.size := ⟨_, rfl⟩
                have hgz : W0.heap.size ≤ gb := by rw [hgb]; exact Z.out.size
                rw [← hgb] at hE ⊢
                try rw [← hgb] at hxg
                clear hgb
                have E := Lib.hid hE
                replace Z := Lib.hid (gtr Z.out hg)
                clear hg
                clear hE
                refine hKq.out _ _ (⟨(K1.out.keptN Z.out).cell 4, (Q3.out.keptN Z.out).cell 0, (Q3.out.keptN Z.out).cell 1, (Q3.out.keptN Z.out).cell 2, (Q3.out.keptN Z.out).cell 3, (Q3.out.keptN Z.out).cell 4, (Q3.out.keptN Z.out).cell 5, (Q4.out.keptN Z.out).cell 0, (Q4.out.keptN Z.out).cell 1, (Q4.out.keptN Z.out).cell 2, (Q4.out.keptN Z.out).cell 3, (Q4.out.keptN Z.out).cell 4, (Q4.out.keptN Z.out).cell 5⟩) (fun hHeld => ?_)
                clear hKq Kq
                refine wpAnyH_ready (rs := [9, 11]) (by kernel_rfl) (by simp) ?_
                refine AllReadyH.cons (o := ⟨some 104, _, _, _, _, _⟩) rfl (fun Kq hKq => ?_) (AllReadyH.cons (o := ⟨some 106, _, _, _, _, _⟩) rfl (fun Kq hKq => ?_) AllReadyH.nil)
                · refine wp_append_wholeQ (.tmp 100) (.tmp 103) rfl W0.heap.size gb rfl (own_emptyQ E.out hgz) a1 C.n c1 C.f rfl (HI1.out.kept Z.out) (ints_slQ (HI1.out.kept Z.out)) (by omega) Z.out.size ?_
                  intro b8 c8 w8 hO8 hg
                  clear E
                  replace Z := Lib.hid (grown_new Z.out (by omega) hg)
                  clear hg
                  have Oc8 := Lib.hid hO8
                  clear hO8
                  refine hKq.out _ _ (⟨(K1.out.keptN Z.out).cell 4, (Q3.out.keptN Z.out).cell 0, (Q3.out.keptN Z.out).cell 1, (Q3.out.keptN Z.out).cell 2, (Q3.out.keptN Z.out).cell 3, (Q3.out.keptN Z.out).cell 4, (Q3.out.keptN Z.out).cell 5, (Q4.out.keptN Z.out).cell 0, (Q4.out.keptN Z.out).cell 1, (Q4.out.keptN Z.out).cell 2, (Q4.out.keptN Z.out).cell 3, (Q4.out.keptN Z.out).cell 4, (Q4.out.keptN Z.out).cell 5⟩) (fun hHeld => ?_)
                  clear hKq Kq
                  refine wpAnyH_ready (rs := [11]) (by kernel_rfl) (by simp) ?_
                  refine AllReadyH.cons (o := ⟨some 106, _, _, _, _, _⟩) rfl (fun Kq hKq => ?_) AllReadyH.nil
                  go_simp
                  refine at_alloc ?_
                  intro Wx hg hX
                  try have hxg : gb < w8.heap.size := E.out.lt
                  obtain ⟨xb, hxb⟩ : ∃ xb, xb = w8.heap.size := ⟨_, rfl⟩
                  rw [← hxb] at hX ⊢
                  try rw [← hxb] at hxg
                  clear hxb
                  have X := Lib.hid hX
                  replace Z := Lib.hid (gtr Z.out hg)
                  replace Oc8 := Lib.hid (Oc8.out.kept hg (fun g e => by cases e))
                  clear hg
                  clear hX
                  refine hKq.out _ _ (⟨(K1.out.keptN Z.out).cell 4, (Q3.out.keptN Z.out).cell 0, (Q3.out.keptN Z.out).cell 1, (Q3.out.keptN Z.out).cell 2, (Q3.out.keptN Z.out).cell 3, (Q3.out.keptN Z.out).cell 4, (Q3.out.keptN Z.out).cell 5, (Q4.out.keptN Z.out).cell 0, (Q4.out.keptN Z.out).cell 1, (Q4.out.keptN Z.out).cell 2, (Q4.out.keptN Z.out).cell 3, (Q4.out.keptN Z.out).cell 4, (Q4.out.keptN Z.out).cell 5⟩) (fun hHeld => ?_)
                  clear hKq Kq
                  refine wpAnyH_ready (rs := [12]) (by kernel_rfl) (by simp) ?_
                  refine AllReadyH.cons (o := ⟨some 107, _, _, _, _, _⟩) rfl (fun Kq hKq => ?_) AllReadyH.nil
                  refine wp_append_oneQ (.tmp 104) (.tmp 106) rfl W0.heap.size (some ⟨b8, 0, none⟩) C.n c8 C.f rfl Oc8.out ⟨xb, 0, none⟩ x rfl (blk_newsQ X.out) (by omega) Z.out.size ?_
                  intro b9 c9 w9 hO9 hg9
                  have hZ := grown_ownQ Z.out Oc8.out hg9
                  clear Z Oc8 X hg9
                  have Z := Lib.hid hZ
                  have Oc9 := Lib.hid hO9
                  clear hZ hO9
                  refine hKq.out _ _ (⟨(K1.out.keptN Z.out).cell 4, (Q3.out.keptN Z.out).cell 0, (Q3.out.keptN Z.out).cell 1, (Q3.out.keptN Z.out).cell 2, (Q3.out.keptN Z.out).cell 3, (Q3.out.keptN Z.out).cell 4, (Q3.out.keptN Z.out).cell 5, (Q4.out.keptN Z.out).cell 0, (Q4.out.keptN Z.out).cell 1, (Q4.out.keptN Z.out).cell 2, (Q4.out.keptN Z.out).cell 3, (Q4.out.keptN Z.out).cell 4, (Q4.out.keptN Z.out).cell 5⟩) (fun hHeld => ?_)
                  clear hKq Kq
                  refine wpAnyH_ready (rs := [13]) (by kernel_rfl) (by simp) ?_
                  refine AllReadyH.cons (o := ⟨some 108, _, _, _, _, _⟩) rfl (fun Kq hKq => ?_) AllReadyH.nil
                  go_simp
                  go_at_call 27
                  refine (lpints _ a3 (some ⟨b9, 0, none⟩) (C.n + 1) c3 c9 (addz C.f C.n x) (HI3.out.kept Z.out) Oc9.out.ints (by omega)).mono ?_
                  rintro e w10 ⟨rfl, hg⟩
                  replace Z := Lib.hid (gtr Z.out hg)
                  replace Oc9 := Lib.hid (Oc9.out.kept hg (fun g e => by cases e))
                  clear hg
                  refine hKq.out _ _ (⟨(K1.out.keptN Z.out).cell 4, (Q3.out.keptN Z.out).cell 0, (Q3.out.keptN Z.out).cell 1, (Q3.out.keptN Z.out).cell 2, (Q3.out.keptN Z.out).cell 3, (Q3.out.keptN Z.out).cell 4, (Q3.out.keptN Z.out).cell 5, (Q4.out.keptN Z.out).cell 0, (Q4.out.keptN Z.out).cell 1, (Q4.out.keptN Z.out).cell 2, (Q4.out.keptN Z.out).cell 3, (Q4.out.keptN Z.out).cell 4, (Q4.out.keptN Z.out).cell 5⟩) (fun hHeld => ?_)
                  clear hKq Kq
                  refine wpAnyH_take (i := 14) (oi := ⟨some 109, _, _, _, _, _⟩) (v := ?_) rfl (by kernel_rfl) (by kernel_rfl) (by kernel_rfl) (fun _ _ _ h => h) (Or.inl ⟨by rfl, ?_⟩) (by assumption) ?_
                  rotate_left
                  · intro w hSw; (try dsimp only at hSw); go_simp; try with_reducible rfl
                  simp only [Act.put, List.setIfInBounds_toArray, List.set_cons_zero, List.set_cons_succ]
                  refine wpAnyH_take (i := 15) (oi := ⟨some 110, _, _, _, _, _⟩) (v := ?_) rfl (by kernel_rfl) (by kernel_rfl) (by kernel_rfl) (fun _ _ _ h => h) (Or.inl ⟨by rfl, ?_⟩) (by assumption) ?_
                  rotate_left
                  · intro w hSw; (try dsimp only at hSw); go_simp; try with_reducible rfl
                  simp only [Act.put, List.setIfInBounds_toArray, List.set_cons_zero, List.set_cons_succ]
                  refine wpAnyH_take (i := 16) (oi := ⟨some 111, _, _, _, _, _⟩) (v := ?_) rfl (by kernel_rfl) (by kernel_rfl) (by kernel_rfl) (fun _ _ _ h => h) (Or.inl ⟨by rfl, ?_⟩) (by assumption) ?_
                  rotate_left
                  · intro w hSw; (try dsimp only at hSw); go_simp; try with_reducible rfl
                  simp only [Act.put, List.setIfInBounds_toArray, List.set_cons_zero, List.set_cons_succ]
                  refine wpAnyH_take (i := 17) (oi := ⟨some 112, _, _, _, _, _⟩) (v := ?_) rfl (by kernel_rfl) (by kernel_rfl) (by kernel_rfl) (fun _ _ _ h => h) (Or.inl ⟨by rfl, ?_⟩) (by assumption) ?_
                  rotate_left
                  · intro w hSw; (try dsimp only at hSw); go_simp; try with_reducible rfl
                  simp only [Act.put, List.setIfInBounds_toArray, List.set_cons_zero, List.set_cons_succ]
                  refine wpAnyH_take (i := 18) (oi := ⟨some 113, _, _, _, _, _⟩) (v := ?_) rfl (by kernel_rfl) (by kernel_rfl) (by kernel_rfl) (fun _ _ _ h => h) (Or.inl ⟨by rfl, ?_⟩) (by assumption) ?_
                  rotate_left
                  · intro w hSw; (try dsimp only at hSw); go_simp; try with_reducible rfl
                  simp only [Act.put, List.setIfInBounds_toArray, List.set_cons_zero, List.set_cons_succ]
                  refine wpAnyH_take (i := 19) (oi := ⟨some 114, _, _, _, _, _⟩) (v := ?_) rfl (by kernel_rfl) (by kernel_rfl) (by kernel_rfl) (fun _ _ _ h => h) (Or.inl ⟨by rfl, ?_⟩) (by assumption) ?_
                  rotate_left
                  · intro w hSw; (try dsimp only at hSw); go_simp; try with_reducible rfl
                  simp only [Act.put, List.setIfInBounds_toArray, List.set_cons_zero, List.set_cons_succ]
                  refine wpAnyH_take (i := 20) (oi := ⟨some 115, _, _, _, _, _⟩) (v := ?_) rfl (by kernel_rfl) (by kernel_rfl) (by kernel_rfl) (fun _ _ _ h => h) (Or.inl ⟨by rfl, ?_⟩) (by assumption) ?_
                  rotate_left
                  · intro w hSw; (try dsimp only at hSw); go_simp; try with_reducible rfl
                  simp only [Act.put, List.setIfInBounds_toArray, List.set_cons_zero, List.set_cons_succ]
                  refine wpAnyH_take (i := 21) (oi := ⟨some 116, _, _, _, _, _⟩) (v := ?_) rfl (by kernel_rfl) (by kernel_rfl) (by kernel_rfl) (fun _ _ _ h => h) (Or.inl ⟨by rfl, ?_⟩) (by assumption) ?_
                  rotate_left
                  · intro w hSw; (try dsimp only at hSw); go_simp; try with_reducible rfl
                  simp only [Act.put, List.setIfInBounds_toArray, List.set_cons_zero, List.set_cons_succ]
                  refine wpAnyH_ready (rs := [22]) (by kernel_rfl) (by simp) ?_
                  refine AllReadyH.cons (o := ⟨some 117, _, _, _, _, _⟩) rfl (fun Kq hKq => ?_) AllReadyH.nil
                  go_simp
                  go_at_call 20
                  refine (lpct _ C.many C.need true C.at_ a4 a3 (C.n + 1) c4 c3 (addz C.f C.n x) false (HI4.out.kept Z.out) (HI3.out.kept Z.out) (by omega)).mono ?_
                  rintro e w11 ⟨rfl, hg⟩
                  replace Z := Lib.hid (gtr Z.out hg)
                  replace Oc9 := Lib.hid (Oc9.out.kept hg (fun g e => by cases e))
                  clear hg
                  refine hKq.out _ _ (⟨(K1.out.keptN Z.out).cell 4, (Q3.out.keptN Z.out).cell 0, (Q3.out.keptN Z.out).cell 1, (Q3.out.keptN Z.out).cell 2, (Q3.out.keptN Z.out).cell 3, (Q3.out.keptN Z.out).cell 4, (Q3.out.keptN Z.out).cell 5, (Q4.out.keptN Z.out).cell 0, (Q4.out.keptN Z.out).cell 1, (Q4.out.keptN Z.out).cell 2, (Q4.out.keptN Z.out).cell 3, (Q4.out.keptN Z.out).cell 4, (Q4.out.keptN Z.out).cell 5⟩) (fun hHeld => ?_)
                  clear hKq Kq
                  refine wpAnyH_take (i := 23) (oi := ⟨some 118, _, _, _, _, _⟩) (v := ?_) rfl (by kernel_rfl) (by kernel_rfl) (by kernel_rfl) (fun _ _ _ h => h) (Or.inl ⟨by rfl, ?_⟩) (by assumption) ?_
                  rotate_left
                  · intro w hSw; (try dsimp only at hSw); go_simp; try with_reducible rfl
                  simp only [Act.put, List.setIfInBounds_toArray, List.set_cons_zero, List.set_cons_succ]
                  refine wpAnyH_take (i := 24) (oi := ⟨some 119, _, _, _, _, _⟩) (v := ?_) rfl (by kernel_rfl) (by kernel_rfl) (by kernel_rfl) (fun _ _ _ h => h) (Or.inl ⟨by rfl, ?_⟩) (by assumption) ?_
                  rotate_left
                  · intro w hSw; (try dsimp only at hSw); go_simp; try with_reducible rfl
                  simp only [Act.put, List.setIfInBounds_toArray, List.set_cons_zero, List.set_cons_succ]
                  refine wpAnyH_take (i := 25) (oi := ⟨some 120, _, _, _, _, _⟩) (v := ?_) rfl (by kernel_rfl) (by kernel_rfl) (by kernel_rfl) (fun _ _ _ h => h) (Or.inl ⟨by rfl, ?_⟩) (by assumption) ?_
                  rotate_left
                  · intro w hSw; (try dsimp only at hSw); go_simp; try with_reducible rfl
                  simp only [Act.put, List.setIfInBounds_toArray, List.set_cons_zero, List.set_cons_succ]
                  refine wpAnyH_ready (rs := [26]) (by kernel_rfl) (by simp) ?_
                  refine AllReadyH.cons (o := ⟨some 121, _, _, _, _, _⟩) rfl (fun Kq hKq => ?_) AllReadyH.nil
                  go_simp
                  go_at_call 22
                  refine (ictok _ C.many C.need true C.at_ a3 (C.n + 1) c3 (addz C.f C.n x) false (HI3.out.kept Z.out) (by omega) HL3.out.1 HL3.out.2).mono ?_
                  rintro e w12 ⟨rfl, hg⟩
                  rw [HCF.out]
                  replace Z := Lib.hid (gtr Z.out hg)
                  replace Oc9 := Lib.hid (Oc9.out.kept hg (fun g e => by cases e))
                  clear hg
                  refine hKq.out _ _ (⟨(K1.out.keptN Z.out).cell 4, (Q3.out.keptN Z.out).cell 0, (Q3.out.keptN Z.out).cell 1, (Q3.out.keptN Z.out).cell 2, (Q3.out.keptN Z.out).cell 3, (Q3.out.keptN Z.out).cell 4, (Q3.out.keptN Z.out).cell 5, (Q4.out.keptN Z.out).cell 0, (Q4.out.keptN Z.out).cell 1, (Q4.out.keptN Z.out).cell 2, (Q4.out.keptN Z.out).cell 3, (Q4.out.keptN Z.out).cell 4, (Q4.out.keptN Z.out).cell 5⟩) (fun hHeld => ?_)
                  clear hKq Kq
                  refine wpAnyH_take (i := 27) (oi := ⟨some 122, _, _, _, _, _⟩) (v := ?_) rfl (by kernel_rfl) (by kernel_rfl) (by kernel_rfl) (fun _ _ _ h => h) (Or.inl ⟨by rfl, ?_⟩) (by assumption) ?_
                  rotate_left
                  · intro w hSw; (try dsimp only at hSw); go_simp; try with_reducible rfl
                  simp only [Act.put, List.setIfInBounds_toArray, List.set_cons_zero, List.set_cons_succ]
                  refine wpAnyH_take (i := 28) (oi := ⟨some 2, _, _, _, _, _⟩) (v := ?_) rfl (by kernel_rfl) (by kernel_rfl) (by kernel_rfl) (fun _ _ _ h => h) (Or.inl ⟨by rfl, ?_⟩) (by assumption) ?_
                  rotate_left
                  · intro w hSw; (try dsimp only at hSw); go_simp; try with_reducible rfl
                  simp only [Act.put, List.setIfInBounds_toArray, List.set_cons_zero, List.set_cons_succ]
                  refine wpAnyH_done (by kernel_rfl) ?_ _
                  go_wp2
                  go_ret
                  exact ⟨by simp, below_of (gtr G.out Z.out)⟩
                · go_simp
                  refine at_alloc ?_
                  intro Wx hg hX
                  try have hxg : gb < We.heap.size := E.out.lt
                  obtain ⟨xb, hxb⟩ : ∃ xb, xb = We.heap.size := ⟨_, rfl⟩
                  rw [← hxb] at hX ⊢
                  try rw [← hxb] at hxg
                  clear hxb
                  have X := Lib.hid hX
                  replace Z := Lib.hid (gtr Z.out hg)
                  replace E := Lib.hid (E.out.keptN hg)
                  clear hg
                  clear hX
                  refine hKq.out _ _ (⟨(K1.out.keptN Z.out).cell 4, (Q3.out.keptN Z.out).cell 0, (Q3.out.keptN Z.out).cell 1, (Q3.out.keptN Z.out).cell 2, (Q3.out.keptN Z.out).cell 3, (Q3.out.keptN Z.out).cell 4, (Q3.out.keptN Z.out).cell 5, (Q4.out.keptN Z.out).cell 0, (Q4.out.keptN Z.out).cell 1, (Q4.out.keptN Z.out).cell 2, (Q4.out.keptN Z.out).cell 3, (Q4.out.keptN Z.out).cell 4, (Q4.out.keptN Z.out).cell 5⟩) (fun hHeld => ?_)
                  clear hKq Kq
                  refine wpAnyH_ready (rs := [9]) (by kernel_rfl) (by simp) ?_
                  refine AllReadyH.cons (o := ⟨some 104, _, _, _, _, _⟩) rfl (fun Kq hKq => ?_) AllReadyH.nil
                  refine wp_append_wholeQ (.tmp 100) (.tmp 103) rfl W0.heap.size gb rfl (own_emptyQ E.out hgz) a1 C.n c1 C.f rfl (HI1.out.kept Z.out) (ints_slQ (HI1.out.kept Z.out)) (by omega) Z.out.size ?_
                  intro b8 c8 w8 hO8 hg
                  clear E
                  replace Z := Lib.hid (grown_new Z.out (by omega) hg)
                  replace X := Lib.hid (X.out.kept hg (by intro e; have e := Option.some.inj e; omega))
                  clear hg
                  have Oc8 := Lib.hid hO8
                  clear hO8
                  refine hKq.out _ _ (⟨(K1.out.keptN Z.out).cell 4, (Q3.out.keptN Z.out).cell 0, (Q3.out.keptN Z.out).cell 1, (Q3.out.keptN Z.out).cell 2, (Q3.out.keptN Z.out).cell 3, (Q3.out.keptN Z.out).cell 4, (Q3.out.keptN Z.out).cell 5, (Q4.out.keptN Z.out).cell 0, (Q4.out.keptN Z.out).cell 1, (Q4.out.keptN Z.out).cell 2, (Q4.out.keptN Z.out).cell 3, (Q4.out.keptN Z.out).cell 4, (Q4.out.keptN Z.out).cell 5⟩) (fun hHeld => ?_)
                  clear hKq Kq
                  refine wpAnyH_ready (rs := [12]) (by kernel_rfl) (by simp) ?_
                  refine AllReadyH.cons (o := ⟨some 107, _, _, _, _, _⟩) rfl (fun Kq hKq => ?_) AllReadyH.nil
                  refine wp_append_oneQ (.tmp 104) (.tmp 106) rfl W0.heap.size (some ⟨b8, 0, none⟩) C.n c8 C.f rfl Oc8.out ⟨xb, 0, none⟩ x rfl (blk_newsQ X.out) (by omega) Z.out.size ?_
                  intro b9 c9 w9 hO9 hg9
                  have hZ := grown_ownQ Z.out Oc8.out hg9
                  clear Z Oc8 X hg9
                  have Z := Lib.hid hZ
                  have Oc9 := Lib.hid hO9
                  clear hZ hO9
                  refine hKq.out _ _ (⟨(K1.out.keptN Z.out).cell 4, (Q3.out.keptN Z.out).cell 0, (Q3.out.keptN Z.out).cell 1, (Q3.out.keptN Z.out).cell 2, (Q3.out.keptN Z.out).cell 3, (Q3.out.keptN Z.out).cell 4, (Q3.out.keptN Z.out).cell 5, (Q4.out.keptN Z.out).cell 0, (Q4.out.keptN Z.out).cell 1, (Q4.out.keptN Z.out).cell 2, (Q4.out.keptN Z.out).cell 3, (Q4.out.keptN Z.out).cell 4, (Q4.out.keptN Z.out).cell 5⟩) (fun hHeld => ?_)
                  clear hKq Kq
                  refine wpAnyH_ready (rs := [13]) (by kernel_rfl) (by simp) ?_
                  refine AllReadyH.cons (o := ⟨some 108, _, _, _, _, _⟩) rfl (fun Kq hKq => ?_) AllReadyH.nil
                  go_simp
                  go_at_call 27
                  refine (lpints _ a3 (some ⟨b9, 0, none⟩) (C.n + 1) c3 c9 (addz C.f C.n x) (HI3.out.kept Z.out) Oc9.out.ints (by omega)).mono ?_
                  rintro e w10 ⟨rfl, hg⟩
                  replace Z := Lib.hid (gtr Z.out hg)
                  replace Oc9 := Lib.hid (Oc9.out.kept hg (fun g e => by cases e))
                  clear hg
                  refine hKq.out _ _ (⟨(K1.out.keptN Z.out).cell 4, (Q3.out.keptN Z.out).cell 0, (Q3.out.keptN Z.out).cell 1, (Q3.out.keptN Z.out).cell 2, (Q3.out.keptN Z.out).cell 3, (Q3.out.keptN Z.out).cell 4, (Q3.out.keptN Z.out).cell 5, (Q4.out.keptN Z.out).cell 0, (Q4.out.keptN Z.out).cell 1, (Q4.out.keptN Z.out).cell 2, (Q4.out.keptN Z.out).cell 3, (Q4.out.keptN Z.out).cell 4, (Q4.out.keptN Z.out).cell 5⟩) (fun hHeld => ?_)
                  clear hKq Kq
                  refine wpAnyH_take (i := 14) (oi := ⟨some 109, _, _, _, _, _⟩) (v := ?_) rfl (by kernel_rfl) (by kernel_rfl) (by kernel_rfl) (fun _ _ _ h => h) (Or.inl ⟨by rfl, ?_⟩) (by assumption) ?_
                  rotate_left
                  · intro w hSw; (try dsimp only at hSw); go_simp; try with_reducible rfl
                  simp only [Act.put, List.setIfInBounds_toArray, List.set_cons_zero, List.set_cons_succ]
                  refine wpAnyH_take (i := 15) (oi := ⟨some 110, _, _, _, _, _⟩) (v := ?_) rfl (by kernel_rfl) (by kernel_rfl) (by kernel_rfl) (fun _ _ _ h => h) (Or.inl ⟨by rfl, ?_⟩) (by assumption) ?_
                  rotate_left
                  · intro w hSw; (try dsimp only at hSw); go_simp; try with_reducible rfl
                  simp only [Act.put, List.setIfInBounds_toArray, List.set_cons_zero, List.set_cons_succ]
                  refine wpAnyH_take (i := 16) (oi := ⟨some 111, _, _, _, _, _⟩) (v := ?_) rfl (by kernel_rfl) (by kernel_rfl) (by kernel_rfl) (fun _ _ _ h => h) (Or.inl ⟨by rfl, ?_⟩) (by assumption) ?_
                  rotate_left
                  · intro w hSw; (try dsimp only at hSw); go_simp; try with_reducible rfl
                  simp only [Act.put, List.setIfInBounds_toArray, List.set_cons_zero, List.set_cons_succ]
                  refine wpAnyH_take (i := 17) (oi := ⟨some 112, _, _, _, _, _⟩) (v := ?_) rfl (by kernel_rfl) (by kernel_rfl) (by kernel_rfl) (fun _ _ _ h => h) (Or.inl ⟨by rfl, ?_⟩) (by assumption) ?_
                  rotate_left
                  · intro w hSw; (try dsimp only at hSw); go_simp; try with_reducible rfl
                  simp only [Act.put, List.setIfInBounds_toArray, List.set_cons_zero, List.set_cons_succ]
                  refine wpAnyH_take (i := 18) (oi := ⟨some 113, _, _, _, _, _⟩) (v := ?_) rfl (by kernel_rfl) (by kernel_rfl) (by kernel_rfl) (fun _ _ _ h => h) (Or.inl ⟨by rfl, ?_⟩) (by assumption) ?_
                  rotate_left
                  · intro w hSw; (try dsimp only at hSw); go_simp; try with_reducible rfl
                  simp only [Act.put, List.setIfInBounds_toArray, List.set_cons_zero, List.set_cons_succ]
                  refine wpAnyH_take (i := 19) (oi := ⟨some 114, _, _, _, _, _⟩) (v := ?_) rfl (by kernel_rfl) (by kernel_rfl) (by kernel_rfl) (fun _ _ _ h => h) (Or.inl ⟨by rfl, ?_⟩) (by assumption) ?_
                  rotate_left
                  · intro w hSw; (try dsimp only at hSw); go_simp; try with_reducible rfl
                  simp only [Act.put, List.setIfInBounds_toArray, List.set_cons_zero, List.set_cons_succ]
                  refine wpAnyH_take (i := 20) (oi := ⟨some 115, _, _, _, _, _⟩) (v := ?_) rfl (by kernel_rfl) (by kernel_rfl) (by kernel_rfl) (fun _ _ _ h => h) (Or.inl ⟨by rfl, ?_⟩) (by assumption) ?_
                  rotate_left
                  · intro w hSw; (try dsimp only at hSw); go_simp; try with_reducible rfl
                  simp only [Act.put, List.setIfInBounds_toArray, List.set_cons_zero, List.set_cons_succ]
                  refine wpAnyH_take (i := 21) (oi := ⟨some 116, _, _, _, _, _⟩) (v := ?_) rfl (by kernel_rfl) (by kernel_rfl) (by kernel_rfl) (fun _ _ _ h => h) (Or.inl ⟨by rfl, ?_⟩) (by assumption) ?_
                  rotate_left
                  · intro w hSw; (try dsimp only at hSw); go_simp; try with_reducible rfl
                  simp only [Act.put, List.setIfInBounds_toArray, List.set_cons_zero, List.set_cons_succ]
                  refine wpAnyH_ready (rs := [22]) (by kernel_rfl) (by simp) ?_
                  refine AllReadyH.cons (o := ⟨some 117, _, _, _, _, _⟩) rfl (fun Kq hKq => ?_) AllReadyH.nil
                  go_simp
                  go_at_call 20
                  refine (lpct _ C.many C.need true C.at_ a4 a3 (C.n + 1) c4 c3 (addz C.f C.n x) false (HI4.out.kept Z.out) (HI3.out.kept Z.out) (by omega)).mono ?_
                  rintro e w11 ⟨rfl, hg⟩
                  replace Z := Lib.hid (gtr Z.out hg)
                  replace Oc9 := Lib.hid (Oc9.out.kept hg (fun g e => by cases e))
                  clear hg
                  refine hKq.out _ _ (⟨(K1.out.keptN Z.out).cell 4, (Q3.out.keptN Z.out).cell 0, (Q3.out.keptN Z.out).cell 1, (Q3.out.keptN Z.out).cell 2, (Q3.out.keptN Z.out).cell 3, (Q3.out.keptN Z.out).cell 4, (Q3.out.keptN Z.out).cell 5, (Q4.out.keptN Z.out).cell 0, (Q4.out.keptN Z.out).cell 1, (Q4.out.keptN Z.out).cell 2, (Q4.out.keptN Z.out).cell 3, (Q4.out.keptN Z.out).cell 4, (Q4.out.keptN Z.out).cell 5⟩) (fun hHeld => ?_)
                  clear hKq Kq
                  refine wpAnyH_take (i := 23) (oi := ⟨some 118, _, _, _, _, _⟩) (v := ?_) rfl (by kernel_rfl) (by kernel_rfl) (by kernel_rfl) (fun _ _ _ h => h) (Or.inl ⟨by rfl, ?_⟩) (by assumption) ?_
                  rotate_left
                  · intro w hSw; (try dsimp only at hSw); go_simp; try with_reducible rfl
                  simp only [Act.put, List.setIfInBounds_toArray, List.set_cons_zero, List.set_cons_succ]
                  refine wpAnyH_take (i := 24) (oi := ⟨some 119, _, _, _, _, _⟩) (v := ?_) rfl (by kernel_rfl) (by kernel_rfl) (by kernel_rfl) (fun _ _ _ h => h) (Or.inl ⟨by rfl, ?_⟩) (by assumption) ?_
                  rotate_left
                  · intro w hSw; (try dsimp only at hSw); go_simp; try with_reducible rfl
                  simp only [Act.put, List.setIfInBounds_toArray, List.set_cons_zero, List.set_cons_succ]
                  refine wpAnyH_take (i := 25) (oi := ⟨some 120, _, _, _, _, _⟩) (v := ?_) rfl (by kernel_rfl) (by kernel_rfl) (by kernel_rfl) (fun _ _ _ h => h) (Or.inl ⟨by rfl, ?_⟩) (by assumption) ?_
                  rotate_left
                  · intro w hSw; (try dsimp only at hSw); go_simp; try with_reducible rfl
                  simp only [Act.put, List.setIfInBounds_toArray, List.set_cons_zero, List.set_cons_succ]
                  refine wpAnyH_ready (rs := [26]) (by kernel_rfl) (by simp) ?_
                  refine AllReadyH.cons (o := ⟨some 121, _, _, _, _, _⟩) rfl (fun Kq hKq => ?_) AllReadyH.nil
                  go_simp
                  go_at_call 22
                  refine (ictok _ C.many C.need true C.at_ a3 (C.n + 1) c3 (addz C.f C.n x) false (HI3.out.kept Z.out) (by omega) HL3.out.1 HL3.out.2).mono ?_
                  rintro e w12 ⟨rfl, hg⟩
                  rw [HCF.out]
                  replace Z := Lib.hid (gtr Z.out hg)
                  replace Oc9 := Lib.hid (Oc9.out.kept hg (fun g e => by cases e))
                  clear hg
                  refine hKq.out _ _ (⟨(K1.out.keptN Z.out).cell 4, (Q3.out.keptN Z.out).cell 0, (Q3.out.keptN Z.out).cell 1, (Q3.out.keptN Z.out).cell 2, (Q3.out.keptN Z.out).cell 3, (Q3.out.keptN Z.out).cell 4, (Q3.out.keptN Z.out).cell 5, (Q4.out.keptN Z.out).cell 0, (Q4.out.keptN Z.out).cell 1, (Q4.out.keptN Z.out).cell 2, (Q4.out.keptN Z.out).cell 3, (Q4.out.keptN Z.out).cell 4, (Q4.out.keptN Z.out).cell 5⟩) (fun hHeld => ?_)
                  clear hKq Kq
                  refine wpAnyH_take (i := 27) (oi := ⟨some 122, _, _, _, _, _⟩) (v := ?_) rfl (by kernel_rfl) (by kernel_rfl) (by kernel_rfl) (fun _ _ _ h => h) (Or.inl ⟨by rfl, ?_⟩) (by assumption) ?_
                  rotate_left
                  · intro w hSw; (try dsimp only at hSw); go_simp; try with_reducible rfl
                  simp only [Act.put, List.setIfInBounds_toArray, List.set_cons_zero, List.set_cons_succ]
                  refine wpAnyH_take (i := 28) (oi := ⟨some 2, _, _, _, _, _⟩) (v := ?_) rfl (by kernel_rfl) (by kernel_rfl) (by kernel_rfl) (fun _ _ _ h => h) (Or.inl ⟨by rfl, ?_⟩) (by assumption) ?_
                  rotate_left
                  · intro w hSw; (try dsimp only at hSw); go_simp; try with_reducible rfl
                  simp only [Act.put, List.setIfInBounds_toArray, List.set_cons_zero, List.set_cons_succ]
                  refine wpAnyH_done (by kernel_rfl) ?_ _
                  go_wp2
                  go_ret
                  exact ⟨by simp, below_of (gtr G.out Z.out)⟩
              · go_simp
                refine at_alloc ?_
                intro Wx hg hX
                try have hxg : gb < W0.heap.size := E.out.lt
                obtain ⟨xb, hxb⟩ : ∃ xb, xb = W0.heap.size := ⟨_, rfl⟩
                rw [← hxb] at hX ⊢
                try rw [← hxb] at hxg
                clear hxb
                have X := Lib.hid hX
                replace Z := Lib.hid (gtr Z.out hg)
                clear hg
                clear hX
                refine hKq.out _ _ (⟨(K1.out.keptN Z.out).cell 4, (Q3.out.keptN Z.out).cell 0, (Q3.out.keptN Z.out).cell 1, (Q3.out.keptN Z.out).cell 2, (Q3.out.keptN Z.out).cell 3, (Q3.out.keptN Z.out).cell 4, (Q3.out.keptN Z.out).cell 5, (Q4.out.keptN Z.out).cell 0, (Q4.out.keptN Z.out).cell 1, (Q4.out.keptN Z.out).cell 2, (Q4.out.keptN Z.out).cell 3, (Q4.out.keptN Z.out).cell 4, (Q4.out.keptN Z.out).cell 5⟩) (fun hHeld => ?_)
                clear hKq Kq
                refine wpAnyH_ready (rs := [5]) (by kernel_rfl) (by simp) ?_
                refine AllReadyH.cons (o := ⟨some 100, _, _, _, _, _⟩) rfl (fun Kq hKq => ?_) AllReadyH.nil
                go_simp
                refine at_alloc ?_
                intro We hg hE
                try have hxg : xb < Wx.heap.size := X.out.lt
                obtain ⟨gb, hgb⟩ : ∃ gb, gb = Wx.heap.size := ⟨_, rfl⟩
                have hgz : W0.heap.size ≤ gb := by rw [hgb]; exact Z.out.size
                rw [← hgb] at hE ⊢
                try rw [← hgb] at hxg
                clear hgb
                have E := Lib.hid hE
                replace Z := Lib.hid (gtr Z.out hg)
                replace X := Lib.hid (X.out.keptN hg)
                clear hg
                clear hE
                refine hKq.out _ _ (⟨(K1.out.keptN Z.out).cell 4, (Q3.out.keptN Z.out).cell 0, (Q3.out.keptN Z.out).cell 1, (Q3.out.keptN Z.out).cell 2, (Q3.out.keptN Z.out).cell 3, (Q3.out.keptN Z.out).cell 4, (Q3.out.keptN Z.out).cell 5, (Q4.out.keptN Z.out).cell 0, (Q4.out.keptN Z.out).cell 1, (Q4.out.keptN Z.out).cell 2, (Q4.out.keptN Z.out).cell 3, (Q4.out.keptN Z.out).cell 4, (Q4.out.keptN Z.out).cell 5⟩) (fun hHeld => ?_)
                clear hKq Kq
                refine wpAnyH_ready (rs := [9]) (by kernel_rfl) (by simp) ?_
                refine AllReadyH.cons (o := ⟨some 104, _, _, _, _, _⟩) rfl (fun Kq hKq => ?_) AllReadyH.nil
                refine wp_append_wholeQ (.tmp 100) (.tmp 103) rfl W0.heap.size gb rfl (own_emptyQ E.out hgz) a1 C.n c1 C.f rfl (HI1.out.kept Z.out) (ints_slQ (HI1.out.kept Z.out)) (by omega) Z.out.size ?_
                intro b8 c8 w8 hO8 hg
                clear E
                replace Z := Lib.hid (grown_new Z.out (by omega) hg)
                replace X := Lib.hid (X.out.kept hg (by intro e; have e := Option.some.inj e; omega))
                clear hg
                have Oc8 := Lib.hid hO8
                clear hO8
                refine hKq.out _ _ (⟨(K1.out.keptN Z.out).cell 4, (Q3.out.keptN Z.out).cell 0, (Q3.out.keptN Z.out).cell 1, (Q3.out.keptN Z.out).cell 2, (Q3.out.keptN Z.out).cell 3, (Q3.out.keptN Z.out).cell 4, (Q3.out.keptN Z.out).cell 5, (Q4.out.keptN Z.out).cell 0, (Q4.out.keptN Z.out).cell 1, (Q4.out.keptN Z.out).cell 2, (Q4.out.keptN Z.out).cell 3, (Q4.out.keptN Z.out).cell 4, (Q4.out.keptN Z.out).cell 5⟩) (fun hHeld => ?_)
                clear hKq Kq
                refine wpAnyH_ready (rs := [12]) (by kernel_rfl) (by simp) ?_
                refine AllReadyH.cons (o := ⟨some 107, _, _, _, _, _⟩) rfl (fun Kq hKq => ?_) AllReadyH.nil
                refine wp_append_oneQ (.tmp 104) (.tmp 106) rfl W0.heap.size (some ⟨b8, 0, none⟩) C.n c8 C.f rfl Oc8.out ⟨xb, 0, none⟩ x rfl (blk_newsQ X.out) (by omega) Z.out.size ?_
                intro b9 c9 w9 hO9 hg9
                have hZ := grown_ownQ Z.out Oc8.out hg9
                clear Z Oc8 X hg9
                have Z := Lib.hid hZ
                have Oc9 := Lib.hid hO9
                clear hZ hO9
                refine hKq.out _ _ (⟨(K1.out.keptN Z.out).cell 4, (Q3.out.keptN Z.out).cell 0, (Q3.out.keptN Z.out).cell 1, (Q3.out.keptN Z.out).cell 2, (Q3.out.keptN Z.out).cell 3, (Q3.out.keptN Z.out).cell 4, (Q3.out.keptN Z.out).cell 5, (Q4.out.keptN Z.out).cell 0, (Q4.out.keptN Z.out).cell 1, (Q4.out.keptN Z.out).cell 2, (Q4.out.keptN Z.out).cell 3, (Q4.out.keptN Z.out).cell 4, (Q4.out.keptN Z.out).cell 5⟩) (fun hHeld => ?_)
                clear hKq Kq
                refine wpAnyH_ready (rs := [13]) (by kernel_rfl) (by simp) ?_
                refine AllReadyH.cons (o := ⟨some 108, _, _, _, _, _⟩) rfl (fun Kq hKq => ?_) AllReadyH.nil
                go_simp
                go_at_call 27
                refine (lpints _ a3 (some ⟨b9, 0, none⟩) (C.n + 1) c3 c9 (addz C.f C.n x) (HI3.out.kept Z.out) Oc9.out.ints (by omega)).mono ?_
                rintro e w10 ⟨rfl, hg⟩
                replace Z := Lib.hid (gtr Z.out hg)
                replace Oc9 := Lib.hid (Oc9.out.kept hg (fun g e => by cases e))
                clear hg
                refine hKq.out _ _ (⟨(K1.out.keptN Z.out).cell 4, (Q3.out.keptN Z.out).cell 0, (Q3.out.keptN Z.out).cell 1, (Q3.out.keptN Z.out).cell 2, (Q3.out.keptN Z.out).cell 3, (Q3.out.keptN Z.out).cell 4, (Q3.out.keptN Z.out).cell 5, (Q4.out.keptN Z.out).cell 0, (Q4.out.keptN Z.out).cell 1, (Q4.out.keptN Z.out).cell 2, (Q4.out.keptN Z.out).cell 3, (Q4.out.keptN Z.out).cell 4, (Q4.out.keptN Z.out).cell 5⟩) (fun hHeld => ?_)
                clear hKq Kq
                refine wpAnyH_take (i := 14) (oi := ⟨some 109, _, _, _, _, _⟩) (v := ?_) rfl (by kernel_rfl) (by kernel_rfl) (by kernel_rfl) (fun _ _ _ h => h) (Or.inl ⟨by rfl, ?_⟩) (by assumption) ?_
                rotate_left
                · intro w hSw; (try dsimp only at hSw); go_simp; try with_reducible rfl
                simp only [Act.put, List.setIfInBounds_toArray, List.set_cons_zero, List.set_cons_succ]
                refine wpAnyH_take (i := 15) (oi := ⟨some 110, _, _, _, _, _⟩) (v := ?_) rfl (by kernel_rfl) (by kernel_rfl) (by kernel_rfl) (fun _ _ _ h => h) (Or.inl ⟨by rfl, ?_⟩) (by assumption) ?_
                rotate_left
                · intro w hSw; (try dsimp only at hSw); go_simp; try with_reducible rfl
                simp only [Act.put, List.setIfInBounds_toArray, List.set_cons_zero, List.set_cons_succ]
                refine wpAnyH_take (i := 16) (oi := ⟨some 111, _, _, _, _, _⟩) (v := ?_) rfl (by kernel_rfl) (by kernel_rfl) (by kernel_rfl) (fun _ _ _ h => h) (Or.inl ⟨by rfl, ?_⟩) (by assumption) ?_
                rotate_left
                · intro w hSw; (try dsimp only at hSw); go_simp; try with_reducible rfl
                simp only [Act.put, List.setIfInBounds_toArray, List.set_cons_zero, List.set_cons_succ]
                refine wpAnyH_take (i := 17) (oi := ⟨some 112, _, _, _, _, _⟩) (v := ?_) rfl (by kernel_rfl) (by kernel_rfl) (by kernel_rfl) (fun _ _ _ h => h) (Or.inl ⟨by rfl, ?_⟩) (by assumption) ?_
                rotate_left
                · intro w hSw; (try dsimp only at hSw); go_simp; try with_reducible rfl
                simp only [Act.put, List.setIfInBounds_toArray, List.set_cons_zero, List.set_cons_succ]
                refine wpAnyH_take (i := 18) (oi := ⟨some 113, _, _, _, _, _⟩) (v := ?_) rfl (by kernel_rfl) (by kernel_rfl) (by kernel_rfl) (fun _ _ _ h => h) (Or.inl ⟨by rfl, ?_⟩) (by assumption) ?_
                rotate_left
                · intro w hSw; (try dsimp only at hSw); go_simp; try with_reducible rfl
                simp only [Act.put, List.setIfInBounds_toArray, List.set_cons_zero, List.set_cons_succ]
                refine wpAnyH_take (i := 19) (oi := ⟨some 114, _, _, _, _, _⟩) (v := ?_) rfl (by kernel_rfl) (by kernel_rfl) (by kernel_rfl) (fun _ _ _ h => h) (Or.inl ⟨by rfl, ?_⟩) (by assumption) ?_
                rotate_left
                · intro w hSw; (try dsimp only at hSw); go_simp; try with_reducible rfl
                simp only [Act.put, List.setIfInBounds_toArray, List.set_cons_zero, List.set_cons_succ]
                refine wpAnyH_take (i := 20) (oi := ⟨some 115, _, _, _, _, _⟩) (v := ?_) rfl (by kernel_rfl) (by kernel_rfl) (by kernel_rfl) (fun _ _ _ h => h) (Or.inl ⟨by rfl, ?_⟩) (by assumption) ?_
                rotate_left
                · intro w hSw; (try dsimp only at hSw); go_simp; try with_reducible rfl
                simp only [Act.put, List.setIfInBounds_toArray, List.set_cons_zero, List.set_cons_succ]
                refine wpAnyH_take (i := 21) (oi := ⟨some 116, _, _, _, _, _⟩) (v := ?_) rfl (by kernel_rfl) (by kernel_rfl) (by kernel_rfl) (fun _ _ _ h => h) (Or.inl ⟨by rfl, ?_⟩) (by assumption) ?_
                rotate_left
                · intro w hSw; (try dsimp only at hSw); go_simp; try with_reducible rfl
                simp only [Act.put, List.setIfInBounds_toArray, List.set_cons_zero, List.set_cons_succ]
                refine wpAnyH_ready (rs := [22]) (by kernel_rfl) (by simp) ?_
                refine AllReadyH.cons (o := ⟨some 117, _, _, _, _, _⟩) rfl (fun Kq hKq => ?_) AllReadyH.nil
                go_simp
                go_at_call 20
                refine (lpct _ C.many C.need true C.at_ a4 a3 (C.n + 1) c4 c3 (addz C.f C.n x) false (HI4.out.kept Z.out) (HI3.out.kept Z.out) (by omega)).mono ?_
                rintro e w11 ⟨rfl, hg⟩
                replace Z := Lib.hid (gtr Z.out hg)
                replace Oc9 := Lib.hid (Oc9.out.kept hg (fun g e => by cases e))
                clear hg
                refine hKq.out _ _ (⟨(K1.out.keptN Z.out).cell 4, (Q3.out.keptN Z.out).cell 0, (Q3.out.keptN Z.out).cell 1, (Q3.out.keptN Z.out).cell 2, (Q3.out.keptN Z.out).cell 3, (Q3.out.keptN Z.out).cell 4, (Q3.out.keptN Z.out).cell 5, (Q4.out.keptN Z.out).cell 0, (Q4.out.keptN Z.out).cell 1, (Q4.out.keptN Z.out).cell 2, (Q4.out.keptN Z.out).cell 3, (Q4.out.keptN Z.out).cell 4, (Q4.out.keptN Z.out).cell 5⟩) (fun hHeld => ?_)
                clear hKq Kq
                refine wpAnyH_take (i := 23) (oi := ⟨some 118, _, _, _, _, _⟩) (v := ?_) rfl (by kernel_rfl) (by kernel_rfl) (by kernel_rfl) (fun _ _ _ h => h) (Or.inl ⟨by rfl, ?_⟩) (by assumption) ?_
                rotate_left
                · intro w hSw; (try dsimp only at hSw); go_simp; try with_reducible rfl
                simp only [Act.put, List.setIfInBounds_toArray, List.set_cons_zero, List.set_cons_succ]
                refine wpAnyH_take (i := 24) (oi := ⟨some 119, _, _, _, _, _⟩) (v := ?_) rfl (by kernel_rfl) (by kernel_rfl) (by kernel_rfl) (fun _ _ _ h => h) (Or.inl ⟨by rfl, ?_⟩) (by assumption) ?_
                rotate_left
                · intro w hSw; (try dsimp only at hSw); go_simp; try with_reducible rfl
                simp only [Act.put, List.setIfInBounds_toArray, List.set_cons_zero, List.set_cons_succ]
                refine wpAnyH_take (i := 25) (oi := ⟨some 120, _, _, _, _, _⟩) (v := ?_) rfl (by kernel_rfl) (by kernel_rfl) (by kernel_rfl) (fun _ _ _ h => h) (Or.inl ⟨by rfl, ?_⟩) (by assumption) ?_
                rotate_left
                · intro w hSw; (try dsimp only at hSw); go_simp; try with_reducible rfl
                simp only [Act.put, List.setIfInBounds_toArray, List.set_cons_zero, List.set_cons_succ]
                refine wpAnyH_ready (rs := [26]) (by kernel_rfl) (by simp) ?_
                refine AllReadyH.cons (o := ⟨some 121, _, _, _, _, _⟩) rfl (fun Kq hKq => ?_) AllReadyH.nil
                go_simp
                go_at_call 22
                refine (ictok _ C.many C.need true C.at_ a3 (C.n + 1) c3 (addz C.f C.n x) false (HI3.out.kept Z.out) (by omega) HL3.out.1 HL3.out.2).mono ?_
                rintro e w12 ⟨rfl, hg⟩
                rw [HCF.out]
                replace Z := Lib.hid (gtr Z.out hg)
                replace Oc9 := Lib.hid (Oc9.out.kept hg (fun g e => by cases e))
                clear hg
                refine hKq.out _ _ (⟨(K1.out.keptN Z.out).cell 4, (Q3.out.keptN Z.out).cell 0, (Q3.out.keptN Z.out).cell 1, (Q3.out.keptN Z.out).cell 2, (Q3.out.keptN Z.out).cell 3, (Q3.out.keptN Z.out).cell 4, (Q3.out.keptN Z.out).cell 5, (Q4.out.keptN Z.out).cell 0, (Q4.out.keptN Z.out).cell 1, (Q4.out.keptN Z.out).cell 2, (Q4.out.keptN Z.out).cell 3, (Q4.out.keptN Z.out).cell 4, (Q4.out.keptN Z.out).cell 5⟩) (fun hHeld => ?_)
                clear hKq Kq
                refine wpAnyH_take (i := 27) (oi := ⟨some 122, _, _, _, _, _⟩) (v := ?_) rfl (by kernel_rfl) (by kernel_rfl) (by kernel_rfl) (fun _ _ _ h => h) (Or.inl ⟨by rfl, ?_⟩) (by assumption) ?_
                rotate_left
                · intro w hSw; (try dsimp only at hSw); go_simp; try with_reducible rfl
                simp only [Act.put, List.setIfInBounds_toArray, List.set_cons_zero, List.set_cons_succ]
                refine wpAnyH_take (i := 28) (oi := ⟨some 2, _, _, _, _, _⟩) (v := ?_) rfl (by kernel_rfl) (by kernel_rfl) (by kernel_rfl) (fun _ _ _ h => h) (Or.inl ⟨by rfl, ?_⟩) (by assumption) ?_
                rotate_left
                · intro w hSw; (try dsimp only at hSw); go_simp; try with_reducible rfl
                simp only [Act.put, List.setIfInBounds_toArray, List.set_cons_zero, List.set_cons_succ]
                refine wpAnyH_done (by kernel_rfl) ?_ _
                go_wp2
                go_ret
                exact ⟨by simp, below_of (gtr G.out Z.out)⟩
end Run
end Go.Proofs.Ytbfmigmhmjgdgaa
