/-
  The walk of the law on what a court is.
-/
import Derived.Test.YtbfmigmhmjgdgaaZl
namespace Go.Proofs.Ytbfmigmhmjgdgaa
namespace Run
open Go.RowKit Alg Mem Con Draw Ct
set_option linter.unusedVariables false

theorem cok_sp {C : CV} (h : spF C.many C.f C.n = false) : cokF C = false := by unfold cokF; rw [h]; simp
theorem cok_twice {many need : Int} {on : Bool} {at_ : Int} {n : Nat} {f : Nat → Int} {veto : Bool} : cokF ⟨many, need, on, at_, n + 2, addz (addz f n 1) (n + 1) 1, veto⟩ = false := by
  refine cok_sp (spF_no (k := n + 1) (Nat.lt_succ_self _) (.inr ?_))
  show hasz (addz (addz f n 1) (n + 1) 1) (addz (addz f n 1) (n + 1) 1 (n + 1)) (n + 1) = true
  rw [addz_at]
  exact hasz_yes (k := n) (Nat.lt_succ_self _) (by rw [addz_lt (Nat.lt_succ_self _)]; exact addz_at)
theorem vals_one' (f : Nat → Int) (n : Nat) (x : Int) : vals f n ++ [.int .i64 x] = vals (addz f n x) (n + 1) := by
  have h1 : vals (addz f n x) (n + 1) = vals (addz f n x) n ++ [.int .i64 (addz f n x n)] := by simp [vals, List.range_succ]
  rw [h1, addz_at, Ct.vals_congr (z := addz f n x) (y := f) fun j hj => addz_lt hj]
theorem vals_two (f : Nat → Int) (n : Nat) (x : Int) : vals f n ++ [.int .i64 x, .int .i64 x] = vals (addz (addz f n x) (n + 1) x) (n + 2) := by
  rw [show n + 2 = n + 1 + 1 from rfl, ← vals_one' (addz f n x) (n + 1) x, ← vals_one' f n x, List.append_assoc]; rfl
theorem two_new (w : World) (x y : Int) (E : TypeId) : ∀ j u, ([.int .i64 x, .int .i64 y] : List Value)[j]? = some u → (w.alloc (.cells #[.int .i64 x, .int .i64 y] E)).cell? ((⟨w.heap.size, 0, none⟩ : Addr).add j) = some u := by
  have hb := Blk.new w #[.int .i64 x, .int .i64 y] E
  intro j u hu
  match j, hu with
  | 0, hu => simp at hu; subst hu; simp [Addr.add]
  | 1, hu => simp at hu; subst hu; simp [Addr.add]
set_option maxRecDepth 100000 in
set_option maxHeartbeats 8000000 in
theorem FnCourtForm (a : Option Addr) (len cap : Nat) (w : World) (hB : Bytes w w.heap.size a len) (hc : len ≤ cap) (hm : cap ≤ maxLen) :
    Calls Try.prog 9 #[.slice a len cap] w (Yes w) := by
  by_cases hbig : 1048576 < len
  · have hbig' : (1048576 : Int) < (len : Int) := by omega
    clear hB
    go_enter Try.func9, Try.ntmps9
    go_wp2
    go_ret
    exact ⟨rfl, Below.refl _ _⟩
  have hbig' : ¬ (1048576 : Int) < (len : Int) := by omega
  go_enter Try.func9, Try.ntmps9
  go_wp2_with fail
  refine (drawCtOk w a len cap hB hc hm).mono ?_
  rintro e v1 ⟨C, a1, c1, rfl, hO, hn7, hg⟩
  have G := Lib.hid hg; have Oc1 := Lib.hid hO
  clear hg hO hB
  go_wp2_with (refine stop_store rfl ?_)
  refine ⟨trivial, ?_⟩
  refine wpList_store_atQ rfl 27 (.tmp 3) (.tmp 12) _ 0 _ _ _ #[.int .i64 C.many, .int .i64 C.need, .bool C.on, .int .i64 C.at_, .slice a1 C.n c1, .bool C.veto] 27 (Blk.new v1 #[.int .i64 0, .int .i64 0, .bool false, .int .i64 0, .slice none 0 0, .bool false] 27) rfl rfl rfl rfl (Nat.le_of_ble_eq_true rfl) (by kernel_rfl) (by kernel_rfl) (by kernel_rfl) ?_
  intro u1 hgV hT
  have hg : (v1).grownBy u1 none := grown_new (grown_alloc (v1) (.cells #[.int .i64 0, .int .i64 0, .bool false, .int .i64 0, .slice none 0 0, .bool false] 27) none) (Nat.le_refl _) hgV
  have K1 := Lib.hid hT
  clear hgV hT
  replace G := Lib.hid (gtr G.out hg)
  replace Oc1 := Lib.hid (Oc1.out.kept hg (fun g e => by cases e))
  clear hg
  generalize (v1).heap.size = b1 at *
  obtain ⟨g, hg0⟩ : ∃ g, cokF C = g := ⟨_, rfl⟩
  have HG := Lib.hid hg0; clear hg0
  have k1_0 : World.cell? u1 ⟨b1, 0, none⟩ = some (.int .i64 C.many) := K1.out.cell 0
  have k1_1 : World.cell? u1 ⟨b1, 1, none⟩ = some (.int .i64 C.need) := K1.out.cell 1
  have k1_2 : World.cell? u1 ⟨b1, 2, none⟩ = some (.bool C.on) := K1.out.cell 2
  have k1_3 : World.cell? u1 ⟨b1, 3, none⟩ = some (.int .i64 C.at_) := K1.out.cell 3
  have k1_4 : World.cell? u1 ⟨b1, 4, none⟩ = some (.slice a1 C.n c1) := K1.out.cell 4
  have k1_5 : World.cell? u1 ⟨b1, 5, none⟩ = some (.bool C.veto) := K1.out.cell 5
  go_wp2_with fail
  refine (ictok _ C.many C.need C.on C.at_ a1 C.n c1 C.f C.veto Oc1.out.ints (by omega) Oc1.out.le.1 Oc1.out.le.2).mono ?_
  rintro e v2 ⟨rfl, hg⟩
  rw [show cokF ⟨C.many, C.need, C.on, C.at_, C.n, C.f, C.veto⟩ = g from HG.out]
  clear k1_0 k1_1 k1_2 k1_3 k1_4 k1_5
  replace G := Lib.hid (gtr G.out hg)
  replace Oc1 := Lib.hid (Oc1.out.kept hg (fun g e => by cases e))
  replace K1 := Lib.hid (K1.out.keptN hg)
  clear hg
  have k1_0 : World.cell? v2 ⟨b1, 0, none⟩ = some (.int .i64 C.many) := K1.out.cell 0
  have k1_1 : World.cell? v2 ⟨b1, 1, none⟩ = some (.int .i64 C.need) := K1.out.cell 1
  have k1_2 : World.cell? v2 ⟨b1, 2, none⟩ = some (.bool C.on) := K1.out.cell 2
  have k1_3 : World.cell? v2 ⟨b1, 3, none⟩ = some (.int .i64 C.at_) := K1.out.cell 3
  have k1_4 : World.cell? v2 ⟨b1, 4, none⟩ = some (.slice a1 C.n c1) := K1.out.cell 4
  have k1_5 : World.cell? v2 ⟨b1, 5, none⟩ = some (.bool C.veto) := K1.out.cell 5
  go_wp2_with fail
  refine (sctok _ C.many C.need C.on C.at_ a1 C.n c1 C.f C.veto Oc1.out.ints (by omega) Oc1.out.le.1 Oc1.out.le.2).mono ?_
  rintro e v3 ⟨rfl, hg⟩
  rw [show cokF ⟨C.many, C.need, C.on, C.at_, C.n, C.f, C.veto⟩ = g from HG.out]
  clear k1_0 k1_1 k1_2 k1_3 k1_4 k1_5
  replace G := Lib.hid (gtr G.out hg)
  replace Oc1 := Lib.hid (Oc1.out.kept hg (fun g e => by cases e))
  replace K1 := Lib.hid (K1.out.keptN hg)
  clear hg
  have hne : (g != g) = false := by simp
  cases g with
  | false =>
    have k1_0 : World.cell? v3 ⟨b1, 0, none⟩ = some (.int .i64 C.many) := K1.out.cell 0
    have k1_1 : World.cell? v3 ⟨b1, 1, none⟩ = some (.int .i64 C.need) := K1.out.cell 1
    have k1_2 : World.cell? v3 ⟨b1, 2, none⟩ = some (.bool C.on) := K1.out.cell 2
    have k1_3 : World.cell? v3 ⟨b1, 3, none⟩ = some (.int .i64 C.at_) := K1.out.cell 3
    have k1_4 : World.cell? v3 ⟨b1, 4, none⟩ = some (.slice a1 C.n c1) := K1.out.cell 4
    have k1_5 : World.cell? v3 ⟨b1, 5, none⟩ = some (.bool C.veto) := K1.out.cell 5
    go_wp2_with fail
    refine (sctok _ C.many C.need C.on C.at_ a1 C.n c1 C.f C.veto Oc1.out.ints (by omega) Oc1.out.le.1 Oc1.out.le.2).mono ?_
    rintro e v4 ⟨rfl, hg⟩
    rw [show cokF ⟨C.many, C.need, C.on, C.at_, C.n, C.f, C.veto⟩ = false from HG.out]
    clear k1_0 k1_1 k1_2 k1_3 k1_4 k1_5
    replace G := Lib.hid (gtr G.out hg)
    replace Oc1 := Lib.hid (Oc1.out.kept hg (fun g e => by cases e))
    replace K1 := Lib.hid (K1.out.keptN hg)
    clear hg
    go_wp2
    go_ret
    exact ⟨by simp, below_of G.out⟩
  | true =>
    have hck := cokF_iff.1 HG.out
    have hcr := crew_iff.1 hck.1
    have HSP := Lib.hid hck.2.2.1
    have hm5 := hcr.2.2
    have hm1 : 1 ≤ C.many := by omega
    clear hck hcr
    have k1_0 : World.cell? v3 ⟨b1, 0, none⟩ = some (.int .i64 C.many) := K1.out.cell 0
    have k1_1 : World.cell? v3 ⟨b1, 1, none⟩ = some (.int .i64 C.need) := K1.out.cell 1
    have k1_2 : World.cell? v3 ⟨b1, 2, none⟩ = some (.bool C.on) := K1.out.cell 2
    have k1_3 : World.cell? v3 ⟨b1, 3, none⟩ = some (.int .i64 C.at_) := K1.out.cell 3
    have k1_4 : World.cell? v3 ⟨b1, 4, none⟩ = some (.slice a1 C.n c1) := K1.out.cell 4
    have k1_5 : World.cell? v3 ⟨b1, 5, none⟩ = some (.bool C.veto) := K1.out.cell 5
    go_wp2_with (refine stop_store rfl ?_)
    refine ⟨trivial, ?_⟩
    refine wpList_store_atQ rfl 27 (.tmp 5) (.tmp 27) _ 0 _ _ _ #[.int .i64 C.many, .int .i64 C.need, .bool C.on, .int .i64 C.at_, .slice a1 C.n c1, .bool C.veto] 27 (Blk.new v3 #[.int .i64 0, .int .i64 0, .bool false, .int .i64 0, .slice none 0 0, .bool false] 27) rfl rfl rfl rfl (Nat.le_of_ble_eq_true rfl) (by kernel_rfl) (by kernel_rfl) (by kernel_rfl) ?_
    intro u5 hgV hT
    have hg : (v3).grownBy u5 none := grown_new (grown_alloc (v3) (.cells #[.int .i64 0, .int .i64 0, .bool false, .int .i64 0, .slice none 0 0, .bool false] 27) none) (Nat.le_refl _) hgV
    have K5 := Lib.hid hT
    clear hgV hT
    clear k1_0 k1_1 k1_2 k1_3 k1_4 k1_5
    have hb1_5 : b1 < (v3).heap.size := K1.out.lt
    have hwk5 : w.heap.size ≤ (v3).heap.size := G.out.size
    replace G := Lib.hid (gtr G.out hg)
    replace Oc1 := Lib.hid (Oc1.out.kept hg (fun g e => by cases e))
    replace K1 := Lib.hid (K1.out.keptN hg)
    clear hg
    generalize (v3).heap.size = b5 at *
    have he := (row_empty u5 3 C.f).owns
    have E1 := Lib.hid he
    have I2 := Lib.hid (Oc1.out.ints.kept (grown_alloc u5 (.cells #[] 3) none))
    have hs0 : (u5).heap.size ≤ ((u5).alloc (.cells #[] 3)).heap.size := by simp
    clear he
    have k1_0 : World.cell? u5 ⟨b1, 0, none⟩ = some (.int .i64 C.many) := K1.out.cell 0
    have k1_1 : World.cell? u5 ⟨b1, 1, none⟩ = some (.int .i64 C.need) := K1.out.cell 1
    have k1_2 : World.cell? u5 ⟨b1, 2, none⟩ = some (.bool C.on) := K1.out.cell 2
    have k1_3 : World.cell? u5 ⟨b1, 3, none⟩ = some (.int .i64 C.at_) := K1.out.cell 3
    have k1_4 : World.cell? u5 ⟨b1, 4, none⟩ = some (.slice a1 C.n c1) := K1.out.cell 4
    have k1_5 : World.cell? u5 ⟨b1, 5, none⟩ = some (.bool C.veto) := K1.out.cell 5
    have hb1u : b1 < u5.heap.size := K1.out.lt
    obtain ⟨i0, hi, hz0, hz1, hz2⟩ := info_parts info_int
    go_wp2_with (at_builtin; refine stop_here ?_)
    refine ⟨trivial, ?_⟩
    refine wpList_append_wholeQ rfl (.tmp 28) (.tmp 31) rfl (u5).heap.size (u5).heap.size rfl E1.out a1 C.n c1 C.f rfl I2.out (ints_slQ I2.out) (by omega) hs0 ?_
    intro b8 c8 v8 hO8 hg8
    have hg1 : (u5).grownBy v8 none := grown_newR (B := (u5).heap.size) (grown_alloc _ (.cells #[] 3) none) (Nat.le_refl _) hg8
    have H8 := Lib.hid hg1
    have Oa := Lib.hid hO8
    have hs8 : u5.heap.size ≤ v8.heap.size := hg1.size
    clear hO8 hg8 hg1 E1 I2 hs0
    clear k1_0 k1_1 k1_2 k1_3 k1_4 k1_5
    have Ob := Lib.hid (Oa.out.keptN (grown_alloc v8 (.cells #[.int .i64 1, .int .i64 1] 3) none))
    go_wp2_with (at_builtin; refine stop_here ?_)
    refine ⟨trivial, ?_⟩
    refine wpList_append_own _ rfl (.tmp 32) (.tmp 33) 23 rfl u5.heap.size 3 i0 (.int .i64 0) 1 8 und_ints hi hz0 hz1 hz2 rfl (by decide) _ C.n (vals C.f C.n) rfl Ob.out ⟨v8.heap.size, 0, none⟩ 2 2 [.int .i64 1, .int .i64 1] rfl rfl (two_new v8 1 1 _) (by simp [Value.oneCell']) (by unfold maxLen; omega) (by omega) (by rw [World.size_alloc]; omega) ?_
    intro v9 w9 ho9 hg9 hv9
    rw [vals_two C.f C.n 1] at ho9
    obtain ⟨a9, c9, rfl⟩ := own_sliceQ ho9
    have hgg := grow_ownQ (grown_alloc v8 (.cells #[.int .i64 1, .int .i64 1] 3) none) hg9
    have hg : u5.grownBy w9 none := grown_ownQ H8.out Oa.out hgg
    have Oc9 := Lib.hid (show OEQ w9 u5.heap.size a9 (C.n + 2) c9 (addz (addz C.f C.n 1) (C.n + 1) 1) from ho9)
    clear ho9 hg9 hv9 hgg Ob Oa H8 hs8
    replace G := Lib.hid (gtr G.out hg)
    replace Oc1 := Lib.hid (Oc1.out.kept hg (fun g e => by cases e))
    replace K1 := Lib.hid (K1.out.keptN hg)
    replace K5 := Lib.hid (K5.out.keptN hg)
    clear hg
    go_wp2_with (refine stop_store rfl ?_)
    refine ⟨trivial, ?_⟩
    refine wpList_store_atQ rfl 23 (.tmp 36) (.tmp 34) b5 4 _ _ _ #[.int .i64 C.many, .int .i64 C.need, .bool C.on, .int .i64 C.at_, .slice a9 (C.n + 2) c9, .bool C.veto] 27 K5.out rfl rfl rfl rfl (Nat.le_of_ble_eq_true rfl) (by kernel_rfl) (by kernel_rfl) (by kernel_rfl) ?_
    intro w10 hg hT
    have Oc1N := Oc1.out.keptC K5.out (by decide) hg
    have Oc9N := Oc9.out.keptC K5.out (by decide) hg
    clear K5 Oc1 Oc9
    have Oc1 := Lib.hid Oc1N
    have Oc9 := Lib.hid Oc9N
    have K5 := Lib.hid hT
    clear hT Oc1N Oc9N
    replace G := Lib.hid (grown_new G.out (by omega) hg)
    replace K1 := Lib.hid (K1.out.kept hg (by intro e; have e := Option.some.inj e; omega))
    clear hg
    have k1_0 : World.cell? w10 ⟨b1, 0, none⟩ = some (.int .i64 C.many) := K1.out.cell 0
    have k1_1 : World.cell? w10 ⟨b1, 1, none⟩ = some (.int .i64 C.need) := K1.out.cell 1
    have k1_2 : World.cell? w10 ⟨b1, 2, none⟩ = some (.bool C.on) := K1.out.cell 2
    have k1_3 : World.cell? w10 ⟨b1, 3, none⟩ = some (.int .i64 C.at_) := K1.out.cell 3
    have k1_4 : World.cell? w10 ⟨b1, 4, none⟩ = some (.slice a1 C.n c1) := K1.out.cell 4
    have k1_5 : World.cell? w10 ⟨b1, 5, none⟩ = some (.bool C.veto) := K1.out.cell 5
    go_wp2_with (refine stop_store rfl ?_)
    refine ⟨trivial, ?_⟩
    refine wpList_store_atQ rfl 27 (.tmp 6) (.tmp 37) _ 0 _ _ _ #[.int .i64 C.many, .int .i64 C.need, .bool C.on, .int .i64 C.at_, .slice a1 C.n c1, .bool C.veto] 27 (Blk.new w10 #[.int .i64 0, .int .i64 0, .bool false, .int .i64 0, .slice none 0 0, .bool false] 27) rfl rfl rfl rfl (Nat.le_of_ble_eq_true rfl) (by kernel_rfl) (by kernel_rfl) (by kernel_rfl) ?_
    intro u6 hgV hT
    have hg : (w10).grownBy u6 none := grown_new (grown_alloc (w10) (.cells #[.int .i64 0, .int .i64 0, .bool false, .int .i64 0, .slice none 0 0, .bool false] 27) none) (Nat.le_refl _) hgV
    have K6 := Lib.hid hT
    clear hgV hT
    clear k1_0 k1_1 k1_2 k1_3 k1_4 k1_5
    have hb1_6 : b1 < (w10).heap.size := K1.out.lt
    have hb5_6 : b5 < (w10).heap.size := K5.out.lt
    have hwk6 : w.heap.size ≤ (w10).heap.size := G.out.size
    replace G := Lib.hid (gtr G.out hg)
    replace K1 := Lib.hid (K1.out.keptN hg)
    replace K5 := Lib.hid (K5.out.keptN hg)
    replace Oc1 := Lib.hid (Oc1.out.kept hg (fun g e => by cases e))
    replace Oc9 := Lib.hid (Oc9.out.kept hg (fun g e => by cases e))
    clear hg
    generalize (w10).heap.size = b6 at *
    go_wp2_with (refine stop_store rfl ?_)
    refine ⟨trivial, ?_⟩
    refine wpList_store_atQ rfl 4 (.tmp 38) (.const (.bool false)) b6 2 _ _ _ #[.int .i64 C.many, .int .i64 C.need, .bool false, .int .i64 C.at_, .slice a1 C.n c1, .bool C.veto] 27 K6.out rfl rfl rfl rfl (Nat.le_of_ble_eq_true rfl) (by kernel_rfl) (by kernel_rfl) (by kernel_rfl) ?_
    intro w11 hg hT
    have Oc1N := Oc1.out.keptC K6.out (by decide) hg
    have Oc9N := Oc9.out.keptC K6.out (by decide) hg
    clear K6 Oc1 Oc9
    have Oc1 := Lib.hid Oc1N
    have Oc9 := Lib.hid Oc9N
    have K6 := Lib.hid hT
    clear hT Oc1N Oc9N
    replace G := Lib.hid (grown_new G.out (by omega) hg)
    replace K1 := Lib.hid (K1.out.kept hg (by intro e; have e := Option.some.inj e; omega))
    replace K5 := Lib.hid (K5.out.kept hg (by intro e; have e := Option.some.inj e; omega))
    clear hg
    go_wp2_with (refine stop_store rfl ?_)
    refine ⟨trivial, ?_⟩
    refine wpList_store_atQ rfl 3 (.tmp 40) (.const (.int .i64 5)) b6 3 _ _ _ #[.int .i64 C.many, .int .i64 C.need, .bool false, .int .i64 5, .slice a1 C.n c1, .bool C.veto] 27 K6.out rfl rfl rfl rfl (Nat.le_of_ble_eq_true rfl) (by kernel_rfl) (by kernel_rfl) (by kernel_rfl) ?_
    intro w12 hg hT
    have Oc1N := Oc1.out.keptC K6.out (by decide) hg
    have Oc9N := Oc9.out.keptC K6.out (by decide) hg
    clear K6 Oc1 Oc9
    have Oc1 := Lib.hid Oc1N
    have Oc9 := Lib.hid Oc9N
    have K6 := Lib.hid hT
    clear hT Oc1N Oc9N
    replace G := Lib.hid (grown_new G.out (by omega) hg)
    replace K1 := Lib.hid (K1.out.kept hg (by intro e; have e := Option.some.inj e; omega))
    replace K5 := Lib.hid (K5.out.kept hg (by intro e; have e := Option.some.inj e; omega))
    clear hg
    have k1_0 : World.cell? w12 ⟨b1, 0, none⟩ = some (.int .i64 C.many) := K1.out.cell 0
    have k1_1 : World.cell? w12 ⟨b1, 1, none⟩ = some (.int .i64 C.need) := K1.out.cell 1
    have k1_2 : World.cell? w12 ⟨b1, 2, none⟩ = some (.bool C.on) := K1.out.cell 2
    have k1_3 : World.cell? w12 ⟨b1, 3, none⟩ = some (.int .i64 C.at_) := K1.out.cell 3
    have k1_4 : World.cell? w12 ⟨b1, 4, none⟩ = some (.slice a1 C.n c1) := K1.out.cell 4
    have k1_5 : World.cell? w12 ⟨b1, 5, none⟩ = some (.bool C.veto) := K1.out.cell 5
    go_wp2_with (refine stop_store rfl ?_)
    refine ⟨trivial, ?_⟩
    refine wpList_store_atQ rfl 27 (.tmp 7) (.tmp 41) _ 0 _ _ _ #[.int .i64 C.many, .int .i64 C.need, .bool C.on, .int .i64 C.at_, .slice a1 C.n c1, .bool C.veto] 27 (Blk.new w12 #[.int .i64 0, .int .i64 0, .bool false, .int .i64 0, .slice none 0 0, .bool false] 27) rfl rfl rfl rfl (Nat.le_of_ble_eq_true rfl) (by kernel_rfl) (by kernel_rfl) (by kernel_rfl) ?_
    intro u7 hgV hT
    have hg : (w12).grownBy u7 none := grown_new (grown_alloc (w12) (.cells #[.int .i64 0, .int .i64 0, .bool false, .int .i64 0, .slice none 0 0, .bool false] 27) none) (Nat.le_refl _) hgV
    have K7 := Lib.hid hT
    clear hgV hT
    clear k1_0 k1_1 k1_2 k1_3 k1_4 k1_5
    have hb1_7 : b1 < (w12).heap.size := K1.out.lt
    have hb5_7 : b5 < (w12).heap.size := K5.out.lt
    have hb6_7 : b6 < (w12).heap.size := K6.out.lt
    have hwk7 : w.heap.size ≤ (w12).heap.size := G.out.size
    replace G := Lib.hid (gtr G.out hg)
    replace K1 := Lib.hid (K1.out.keptN hg)
    replace K5 := Lib.hid (K5.out.keptN hg)
    replace K6 := Lib.hid (K6.out.keptN hg)
    replace Oc1 := Lib.hid (Oc1.out.kept hg (fun g e => by cases e))
    replace Oc9 := Lib.hid (Oc9.out.kept hg (fun g e => by cases e))
    clear hg
    generalize (w12).heap.size = b7 at *
    have k1_0 : World.cell? u7 ⟨b1, 0, none⟩ = some (.int .i64 C.many) := K1.out.cell 0
    go_wp2_with (refine stop_store rfl ?_)
    refine ⟨trivial, ?_⟩
    refine wpList_store_atQ rfl 3 (.tmp 45) (.tmp 44) b7 1 _ _ _ #[.int .i64 C.many, .int .i64 (C.many + 1), .bool C.on, .int .i64 C.at_, .slice a1 C.n c1, .bool C.veto] 27 K7.out rfl rfl rfl rfl (Nat.le_of_ble_eq_true rfl) (by kernel_rfl) (by kernel_rfl) (by kernel_rfl) ?_
    intro w13 hg hT
    clear k1_0
    have Oc1N := Oc1.out.keptC K7.out (by decide) hg
    have Oc9N := Oc9.out.keptC K7.out (by decide) hg
    clear K7 Oc1 Oc9
    have Oc1 := Lib.hid Oc1N
    have Oc9 := Lib.hid Oc9N
    have K7 := Lib.hid hT
    clear hT Oc1N Oc9N
    replace G := Lib.hid (grown_new G.out (by omega) hg)
    replace K1 := Lib.hid (K1.out.kept hg (by intro e; have e := Option.some.inj e; omega))
    replace K5 := Lib.hid (K5.out.kept hg (by intro e; have e := Option.some.inj e; omega))
    replace K6 := Lib.hid (K6.out.kept hg (by intro e; have e := Option.some.inj e; omega))
    clear hg
    have k5_0 : World.cell? w13 ⟨b5, 0, none⟩ = some (.int .i64 C.many) := K5.out.cell 0
    have k5_1 : World.cell? w13 ⟨b5, 1, none⟩ = some (.int .i64 C.need) := K5.out.cell 1
    have k5_2 : World.cell? w13 ⟨b5, 2, none⟩ = some (.bool C.on) := K5.out.cell 2
    have k5_3 : World.cell? w13 ⟨b5, 3, none⟩ = some (.int .i64 C.at_) := K5.out.cell 3
    have k5_4 : World.cell? w13 ⟨b5, 4, none⟩ = some (.slice a9 (C.n + 2) c9) := K5.out.cell 4
    have k5_5 : World.cell? w13 ⟨b5, 5, none⟩ = some (.bool C.veto) := K5.out.cell 5
    have hQ : cokF ⟨C.many, C.need, C.on, C.at_, C.n + 2, (addz (addz C.f C.n 1) (C.n + 1) 1), C.veto⟩ = false := cok_twice
    go_wp2_with fail
    refine (ictok _ C.many C.need C.on C.at_ a9 (C.n + 2) c9 (addz (addz C.f C.n 1) (C.n + 1) 1) C.veto Oc9.out.ints (by omega) Oc9.out.le.1 Oc9.out.le.2).mono ?_
    rintro e w14 ⟨rfl, hg⟩
    rw [hQ]
    clear hQ
    clear k5_0 k5_1 k5_2 k5_3 k5_4 k5_5
    replace G := Lib.hid (gtr G.out hg)
    replace K1 := Lib.hid (K1.out.keptN hg)
    replace K5 := Lib.hid (K5.out.keptN hg)
    replace K6 := Lib.hid (K6.out.keptN hg)
    replace K7 := Lib.hid (K7.out.keptN hg)
    replace Oc1 := Lib.hid (Oc1.out.kept hg (fun g e => by cases e))
    replace Oc9 := Lib.hid (Oc9.out.kept hg (fun g e => by cases e))
    clear hg
    have k6_0 : World.cell? w14 ⟨b6, 0, none⟩ = some (.int .i64 C.many) := K6.out.cell 0
    have k6_1 : World.cell? w14 ⟨b6, 1, none⟩ = some (.int .i64 C.need) := K6.out.cell 1
    have k6_2 : World.cell? w14 ⟨b6, 2, none⟩ = some (.bool false) := K6.out.cell 2
    have k6_3 : World.cell? w14 ⟨b6, 3, none⟩ = some (.int .i64 5) := K6.out.cell 3
    have k6_4 : World.cell? w14 ⟨b6, 4, none⟩ = some (.slice a1 C.n c1) := K6.out.cell 4
    have k6_5 : World.cell? w14 ⟨b6, 5, none⟩ = some (.bool C.veto) := K6.out.cell 5
    have hQ : cokF ⟨C.many, C.need, false, 5, C.n, C.f, C.veto⟩ = false := by unfold cokF ncF; simp
    go_wp2_with fail
    refine (ictok _ C.many C.need false 5 a1 C.n c1 C.f C.veto Oc1.out.ints (by omega) Oc1.out.le.1 Oc1.out.le.2).mono ?_
    rintro e w15 ⟨rfl, hg⟩
    rw [hQ]
    clear hQ
    clear k6_0 k6_1 k6_2 k6_3 k6_4 k6_5
    replace G := Lib.hid (gtr G.out hg)
    replace K1 := Lib.hid (K1.out.keptN hg)
    replace K5 := Lib.hid (K5.out.keptN hg)
    replace K6 := Lib.hid (K6.out.keptN hg)
    replace K7 := Lib.hid (K7.out.keptN hg)
    replace Oc1 := Lib.hid (Oc1.out.kept hg (fun g e => by cases e))
    replace Oc9 := Lib.hid (Oc9.out.kept hg (fun g e => by cases e))
    clear hg
    have k7_0 : World.cell? w15 ⟨b7, 0, none⟩ = some (.int .i64 C.many) := K7.out.cell 0
    have k7_1 : World.cell? w15 ⟨b7, 1, none⟩ = some (.int .i64 (C.many + 1)) := K7.out.cell 1
    have k7_2 : World.cell? w15 ⟨b7, 2, none⟩ = some (.bool C.on) := K7.out.cell 2
    have k7_3 : World.cell? w15 ⟨b7, 3, none⟩ = some (.int .i64 C.at_) := K7.out.cell 3
    have k7_4 : World.cell? w15 ⟨b7, 4, none⟩ = some (.slice a1 C.n c1) := K7.out.cell 4
    have k7_5 : World.cell? w15 ⟨b7, 5, none⟩ = some (.bool C.veto) := K7.out.cell 5
    have hQ : cokF ⟨C.many, C.many + 1, C.on, C.at_, C.n, C.f, C.veto⟩ = false := by unfold cokF; dsimp only; rw [crew_no (by omega)]; rfl
    go_wp2_with fail
    refine (ictok _ C.many (C.many + 1) C.on C.at_ a1 C.n c1 C.f C.veto Oc1.out.ints (by omega) Oc1.out.le.1 Oc1.out.le.2).mono ?_
    rintro e w16 ⟨rfl, hg⟩
    rw [hQ]
    clear hQ
    clear k7_0 k7_1 k7_2 k7_3 k7_4 k7_5
    replace G := Lib.hid (gtr G.out hg)
    replace K1 := Lib.hid (K1.out.keptN hg)
    replace K5 := Lib.hid (K5.out.keptN hg)
    replace K6 := Lib.hid (K6.out.keptN hg)
    replace K7 := Lib.hid (K7.out.keptN hg)
    replace Oc1 := Lib.hid (Oc1.out.kept hg (fun g e => by cases e))
    replace Oc9 := Lib.hid (Oc9.out.kept hg (fun g e => by cases e))
    clear hg
    go_wp2
    go_ret
    exact ⟨by simp, below_of G.out⟩
end Run
end Go.Proofs.Ytbfmigmhmjgdgaa
