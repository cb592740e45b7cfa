/-
  Policies: how many approve, and up to how much, as the model reckons.
-/
import Derived.Test.YthbigmcklacbnaaYd
namespace Go.Proofs.Ythbigmcklacbnaa
namespace Po
open Go.RowKit Alg Mem Con
set_option linter.unusedVariables false

set_option maxRecDepth 100000 in
set_option maxHeartbeats 4000000 in
theorem smanyL (w : World) (a : Option Addr) (n c : Nat) (R : Nat → ByteArray) (aw : Option Addr) (q cw : Nat) (z : Nat → Int) (role : ByteArray) (hI : StrI w a n R) (hZ : Ints w aw q z) (hl : n ≤ 2000000) (hq : q ≤ 2000000) (hqc : q ≤ cw) (hr : isR role = true) :
    Calls Try.prog 69 #[.slice a n c, .slice aw q cw, .string role] w fun e w' => e = .returned (.int .i64 (mnF n R q z role)) ∧ w.grownBy w' none := by
  have I := Lib.hid hI; have Z := Lib.hid hZ; clear hI hZ
  have HR := Lib.hid hr; clear hr
  go_enter Try.func69, Try.ntmps69
  go_wp2
  go_loopw [7, 8] (fun v i wr => ∃ k m : Nat, k ≤ q ∧ i = .int .i64 k ∧ v = .int .i64 m ∧ m ≤ n ∧ mnF n R k z role = m ∧ w.grownBy wr none) (fun _ i _ => q - (intOf i).toNat)
  case atStart => exact ⟨0, 0, by omega, rfl, rfl, by omega, mnF_zero, Draw.grown_refl _ _⟩
  case round =>
    obtain ⟨k, m, hk, rfl, rfl, hmn, hm, hg⟩ := hrel
    have HM := Lib.hid hm; have G := Lib.hid hg
    have I2 := Lib.hid (I.out.kept hg); have Z2 := Lib.hid (Z.out.kept hg)
    clear hm hg
    by_cases hlt : k < q
    · obtain ⟨b, off, rfl, hb, hc⟩ := Z2.out.ptr (by omega)
      have hkc : k ≤ cw := by omega
      have c0 := hc k hlt
      have HC := Lib.hid (hc k hlt)
      have HZZ := Lib.hid ((Z2.out.less (k := k) (by omega)).kept (gdr wr))
      clear hc
      obtain ⟨x, hx⟩ : ∃ x, z k = x := ⟨_, rfl⟩
      rw [hx] at c0
      have HX := Lib.hid hx
      obtain ⟨ro, hro⟩ : ∃ ro, roF n R x = ro := ⟨_, rfl⟩
      have HRO := Lib.hid hro
      have hE0 : ∀ bb : Bool, ((roF n R (z k)).toList == role.toList) = bb → eqB (roF n R (z k)) role = bb := fun bb h => h
      rw [hx, hro] at hE0
      clear hx hro
      by_cases he : ro.toList = role.toList
      · have HE := Lib.hid (hE0 true (by simpa using he))
        clear hE0
        cases hh : hasz z x k with
        | true =>
          have HN := Lib.hid (show mnF n R (k + 1) z role = m by rw [mnF_same (.inr (by rw [HX.out]; exact hh)) HR.out, HM.out])
          have HH := Lib.hid hh; clear hh
          go_wp2_with fail
          refine wp_region_held_drew (S := (fun w' => w'.cell? ⟨b, off + k, none⟩ = some (.int .i64 x))) (by kernel_rfl) (c0) (fun hHeld => ?_)
          have hg := gdr wr
          replace c0 := (World.cell?_of_block (hg.block b hb (by simp))).trans c0
          replace I2 := Lib.hid (I2.out.kept hg)
          replace G := Lib.hid (gtr G.out hg)
          clear hg
          generalize wr.drew = w1 at *
          refine wpAnyH_take (i := 0) (oi := ⟨some 15, _, _, _, _, _⟩) (v := ?_) rfl (by kernel_rfl) (by kernel_rfl) (by kernel_rfl) (fun _ _ _ h => h) (Or.inl ⟨by rfl, ?_⟩) (by assumption) ?_
          rotate_left
          · intro w hSw; (try dsimp only at hSw); go_simp; try with_reducible rfl
          simp only [Act.put, List.setIfInBounds_toArray, List.set_cons_zero, List.set_cons_succ]
          refine wpAnyH_take (i := 1) (oi := ⟨some 16, _, _, _, _, _⟩) (v := ?_) rfl (by kernel_rfl) (by kernel_rfl) (by kernel_rfl) (fun _ _ _ h => h) (Or.inl ⟨by rfl, ?_⟩) (by assumption) ?_
          rotate_left
          · intro w hSw; (try dsimp only at hSw); go_simp; try with_reducible rfl
          simp only [Act.put, List.setIfInBounds_toArray, List.set_cons_zero, List.set_cons_succ]
          refine wpAnyH_take (i := 2) (oi := ⟨some 17, _, _, _, _, _⟩) (v := ?_) rfl (by kernel_rfl) (by kernel_rfl) (by kernel_rfl) (fun _ _ _ h => h) (Or.inl ⟨by rfl, ?_⟩) (by assumption) ?_
          rotate_left
          · intro w hSw; (try dsimp only at hSw); go_simp; try with_reducible rfl
          simp only [Act.put, List.setIfInBounds_toArray, List.set_cons_zero, List.set_cons_succ]
          refine wpAnyH_take (i := 3) (oi := ⟨some 18, _, _, _, _, _⟩) (v := ?_) rfl (by kernel_rfl) (by kernel_rfl) (by kernel_rfl) (fun _ _ _ h => h) (Or.inl ⟨by rfl, ?_⟩) (by assumption) ?_
          rotate_left
          · intro w hSw; (try dsimp only at hSw); go_simp; try with_reducible rfl
          simp only [Act.put, List.setIfInBounds_toArray, List.set_cons_zero, List.set_cons_succ]
          refine wpAnyH_take (i := 4) (oi := ⟨some 19, _, _, _, _, _⟩) (v := ?_) rfl (by kernel_rfl) (by kernel_rfl) (by kernel_rfl) (fun _ _ _ h => h) (Or.inl ⟨by rfl, ?_⟩) (by assumption) ?_
          rotate_left
          · intro w hSw; (try dsimp only at hSw); go_simp; try with_reducible rfl
          simp only [Act.put, List.setIfInBounds_toArray, List.set_cons_zero, List.set_cons_succ]
          refine wpAnyH_take (i := 6) (oi := ⟨some 21, _, _, _, _, _⟩) (v := ?_) rfl (by kernel_rfl) (by kernel_rfl) (by kernel_rfl) (fun _ _ _ h => h) (Or.inl ⟨by rfl, ?_⟩) (by assumption) ?_
          rotate_left
          · intro w hSw; (try dsimp only at hSw); go_simp; try with_reducible rfl
          simp only [Act.put, List.setIfInBounds_toArray, List.set_cons_zero, List.set_cons_succ]
          refine wpAnyH_ready (rs := [5]) (by kernel_rfl) (by simp) ?_
          refine AllReadyH.cons (o := ⟨some 20, _, _, _, _, _⟩) rfl (fun Kq hKq => ?_) AllReadyH.nil
          go_simp
          go_at_call 62
          refine (sof _ a n c R x I2.out hl).mono ?_
          rintro e w' ⟨rfl, rfl⟩
          rw [HRO.out]
          refine hKq.out _ _ (c0) (fun hHeld => ?_)
          clear hKq Kq
          refine wpAnyH_take (i := 7) (oi := ⟨some 22, _, _, _, _, _⟩) (v := ?_) rfl (by kernel_rfl) (by kernel_rfl) (by kernel_rfl) (fun _ _ _ h => h) (Or.inl ⟨by rfl, ?_⟩) (by assumption) ?_
          rotate_left
          · intro w hSw; (try dsimp only at hSw); go_simp; try with_reducible rfl
          simp only [Act.put, List.setIfInBounds_toArray, List.set_cons_zero, List.set_cons_succ]
          refine wpAnyH_take (i := 8) (oi := ⟨some 23, _, _, _, _, _⟩) (v := ?_) rfl (by kernel_rfl) (by kernel_rfl) (by kernel_rfl) (fun _ _ _ h => h) (Or.inl ⟨by rfl, ?_⟩) (by assumption) ?_
          rotate_left
          · intro w hSw; (try dsimp only at hSw); go_simp; try with_reducible rfl
          simp only [Act.put, List.setIfInBounds_toArray, List.set_cons_zero, List.set_cons_succ]
          refine wpAnyH_take (i := 9) (oi := ⟨some 24, _, _, _, _, _⟩) (v := ?_) rfl (by kernel_rfl) (by kernel_rfl) (by kernel_rfl) (fun _ _ _ h => h) (Or.inl ⟨by rfl, ?_⟩) (by assumption) ?_
          rotate_left
          · intro w hSw; (try dsimp only at hSw); go_simp; try with_reducible rfl
          simp only [Act.put, List.setIfInBounds_toArray, List.set_cons_zero, List.set_cons_succ]
          refine wpAnyH_take (i := 10) (oi := ⟨some 25, _, _, _, _, _⟩) (v := ?_) rfl (by kernel_rfl) (by kernel_rfl) (by kernel_rfl) (fun _ _ _ h => h) (Or.inl ⟨by rfl, ?_⟩) (by assumption) ?_
          rotate_left
          · intro w hSw; (try dsimp only at hSw); go_simp; try with_reducible rfl
          simp only [Act.put, List.setIfInBounds_toArray, List.set_cons_zero, List.set_cons_succ]
          refine wpAnyH_take (i := 11) (oi := ⟨some 26, _, _, _, _, _⟩) (v := ?_) rfl (by kernel_rfl) (by kernel_rfl) (by kernel_rfl) (fun _ _ _ h => h) (Or.inl ⟨by rfl, ?_⟩) (by assumption) ?_
          rotate_left
          · intro w hSw; (try dsimp only at hSw); go_simp; try with_reducible rfl
          simp only [Act.put, List.setIfInBounds_toArray, List.set_cons_zero, List.set_cons_succ]
          refine wpAnyH_take (i := 12) (oi := ⟨some 27, _, _, _, _, _⟩) (v := ?_) rfl (by kernel_rfl) (by kernel_rfl) (by kernel_rfl) (fun _ _ _ h => h) (Or.inl ⟨by rfl, ?_⟩) (by assumption) ?_
          rotate_left
          · intro w hSw; (try dsimp only at hSw); go_simp; try with_reducible rfl
          simp only [Act.put, List.setIfInBounds_toArray, List.set_cons_zero, List.set_cons_succ]
          refine wpAnyH_take (i := 13) (oi := ⟨some 28, _, _, _, _, _⟩) (v := ?_) rfl (by kernel_rfl) (by kernel_rfl) (by kernel_rfl) (fun _ _ _ h => h) (Or.inl ⟨by rfl, ?_⟩) (by assumption) ?_
          rotate_left
          · intro w hSw; (try dsimp only at hSw); go_simp; try with_reducible rfl
          simp only [Act.put, List.setIfInBounds_toArray, List.set_cons_zero, List.set_cons_succ]
          refine wpAnyH_take (i := 14) (oi := ⟨some 29, _, _, _, _, _⟩) (v := ?_) rfl (by kernel_rfl) (by kernel_rfl) (by kernel_rfl) (fun _ _ _ h => h) (Or.inl ⟨by rfl, ?_⟩) (by assumption) ?_
          rotate_left
          · intro w hSw; (try dsimp only at hSw); go_simp; try with_reducible rfl
          simp only [Act.put, List.setIfInBounds_toArray, List.set_cons_zero, List.set_cons_succ]
          refine wpAnyH_take (i := 15) (oi := ⟨some 30, _, _, _, _, _⟩) (v := ?_) rfl (by kernel_rfl) (by kernel_rfl) (by kernel_rfl) (fun _ _ _ h => h) (Or.inl ⟨by rfl, ?_⟩) (by assumption) ?_
          rotate_left
          · intro w hSw; (try dsimp only at hSw); go_simp; try with_reducible rfl
          simp only [Act.put, List.setIfInBounds_toArray, List.set_cons_zero, List.set_cons_succ]
          refine wpAnyH_ready (rs := [16]) (by kernel_rfl) (by simp) ?_
          refine AllReadyH.cons (o := ⟨some 31, _, _, _, _, _⟩) rfl (fun Kq hKq => ?_) AllReadyH.nil
          go_simp
          go_at_call 97
          refine (shas _ _ k cw z x HZZ.out (by omega)).mono ?_
          rintro e w' ⟨rfl, rfl⟩
          rw [HH.out]
          refine hKq.out _ _ (c0) (fun hHeld => ?_)
          clear hKq Kq
          refine wpAnyH_take (i := 17) (oi := ⟨some 32, _, _, _, _, _⟩) (v := ?_) rfl (by kernel_rfl) (by kernel_rfl) (by kernel_rfl) (fun _ _ _ h => h) (Or.inl ⟨by rfl, ?_⟩) (by assumption) ?_
          rotate_left
          · intro w hSw; (try dsimp only at hSw); go_simp; try with_reducible rfl
          simp only [Act.put, List.setIfInBounds_toArray, List.set_cons_zero, List.set_cons_succ]
          refine wpAnyH_take (i := 18) (oi := ⟨some 33, _, _, _, _, _⟩) (v := ?_) rfl (by kernel_rfl) (by kernel_rfl) (by kernel_rfl) (fun _ _ _ h => h) (Or.inl ⟨by rfl, ?_⟩) (by assumption) ?_
          rotate_left
          · intro w hSw; (try dsimp only at hSw); go_simp; try with_reducible rfl
          simp only [Act.put, List.setIfInBounds_toArray, List.set_cons_zero, List.set_cons_succ]
          refine wpAnyH_done (by kernel_rfl) ?_ _
          go_wp2
          go_roundw
          case rel => exact ⟨k + 1, m, by omega, by go_num, rfl, hmn, HN.out, G.out⟩
          case measure => simp [intOf]; omega
        | false =>
          have HN := Lib.hid (show mnF n R (k + 1) z role = m + 1 by rw [mnF_more (by rw [HX.out, HRO.out]; exact HE.out) (by rw [HX.out]; exact hh) HR.out, HM.out])
          have hm2 : m + 1 ≤ n := by have := mnF_le (n := n) (R := R) (q := k + 1) (z := z) (role := role); rw [HN.out] at this; exact this
          have HH := Lib.hid hh; clear hh
          go_wp2_with fail
          refine wp_region_held_drew (S := (fun w' => w'.cell? ⟨b, off + k, none⟩ = some (.int .i64 x))) (by kernel_rfl) (c0) (fun hHeld => ?_)
          have hg := gdr wr
          replace c0 := (World.cell?_of_block (hg.block b hb (by simp))).trans c0
          replace I2 := Lib.hid (I2.out.kept hg)
          replace G := Lib.hid (gtr G.out hg)
          clear hg
          generalize wr.drew = w1 at *
          refine wpAnyH_take (i := 0) (oi := ⟨some 15, _, _, _, _, _⟩) (v := ?_) rfl (by kernel_rfl) (by kernel_rfl) (by kernel_rfl) (fun _ _ _ h => h) (Or.inl ⟨by rfl, ?_⟩) (by assumption) ?_
          rotate_left
          · intro w hSw; (try dsimp only at hSw); go_simp; try with_reducible rfl
          simp only [Act.put, List.setIfInBounds_toArray, List.set_cons_zero, List.set_cons_succ]
          refine wpAnyH_take (i := 1) (oi := ⟨some 16, _, _, _, _, _⟩) (v := ?_) rfl (by kernel_rfl) (by kernel_rfl) (by kernel_rfl) (fun _ _ _ h => h) (Or.inl ⟨by rfl, ?_⟩) (by assumption) ?_
          rotate_left
          · intro w hSw; (try dsimp only at hSw); go_simp; try with_reducible rfl
          simp only [Act.put, List.setIfInBounds_toArray, List.set_cons_zero, List.set_cons_succ]
          refine wpAnyH_take (i := 2) (oi := ⟨some 17, _, _, _, _, _⟩) (v := ?_) rfl (by kernel_rfl) (by kernel_rfl) (by kernel_rfl) (fun _ _ _ h => h) (Or.inl ⟨by rfl, ?_⟩) (by assumption) ?_
          rotate_left
          · intro w hSw; (try dsimp only at hSw); go_simp; try with_reducible rfl
          simp only [Act.put, List.setIfInBounds_toArray, List.set_cons_zero, List.set_cons_succ]
          refine wpAnyH_take (i := 3) (oi := ⟨some 18, _, _, _, _, _⟩) (v := ?_) rfl (by kernel_rfl) (by kernel_rfl) (by kernel_rfl) (fun _ _ _ h => h) (Or.inl ⟨by rfl, ?_⟩) (by assumption) ?_
          rotate_left
          · intro w hSw; (try dsimp only at hSw); go_simp; try with_reducible rfl
          simp only [Act.put, List.setIfInBounds_toArray, List.set_cons_zero, List.set_cons_succ]
          refine wpAnyH_take (i := 4) (oi := ⟨some 19, _, _, _, _, _⟩) (v := ?_) rfl (by kernel_rfl) (by kernel_rfl) (by kernel_rfl) (fun _ _ _ h => h) (Or.inl ⟨by rfl, ?_⟩) (by assumption) ?_
          rotate_left
          · intro w hSw; (try dsimp only at hSw); go_simp; try with_reducible rfl
          simp only [Act.put, List.setIfInBounds_toArray, List.set_cons_zero, List.set_cons_succ]
          refine wpAnyH_take (i := 6) (oi := ⟨some 21, _, _, _, _, _⟩) (v := ?_) rfl (by kernel_rfl) (by kernel_rfl) (by kernel_rfl) (fun _ _ _ h => h) (Or.inl ⟨by rfl, ?_⟩) (by assumption) ?_
          rotate_left
          · intro w hSw; (try dsimp only at hSw); go_simp; try with_reducible rfl
          simp only [Act.put, List.setIfInBounds_toArray, List.set_cons_zero, List.set_cons_succ]
          refine wpAnyH_ready (rs := [5]) (by kernel_rfl) (by simp) ?_
          refine AllReadyH.cons (o := ⟨some 20, _, _, _, _, _⟩) rfl (fun Kq hKq => ?_) AllReadyH.nil
          go_simp
          go_at_call 62
          refine (sof _ a n c R x I2.out hl).mono ?_
          rintro e w' ⟨rfl, rfl⟩
          rw [HRO.out]
          refine hKq.out _ _ (c0) (fun hHeld => ?_)
          clear hKq Kq
          refine wpAnyH_take (i := 7) (oi := ⟨some 22, _, _, _, _, _⟩) (v := ?_) rfl (by kernel_rfl) (by kernel_rfl) (by kernel_rfl) (fun _ _ _ h => h) (Or.inl ⟨by rfl, ?_⟩) (by assumption) ?_
          rotate_left
          · intro w hSw; (try dsimp only at hSw); go_simp; try with_reducible rfl
          simp only [Act.put, List.setIfInBounds_toArray, List.set_cons_zero, List.set_cons_succ]
          refine wpAnyH_take (i := 8) (oi := ⟨some 23, _, _, _, _, _⟩) (v := ?_) rfl (by kernel_rfl) (by kernel_rfl) (by kernel_rfl) (fun _ _ _ h => h) (Or.inl ⟨by rfl, ?_⟩) (by assumption) ?_
          rotate_left
          · intro w hSw; (try dsimp only at hSw); go_simp; try with_reducible rfl
          simp only [Act.put, List.setIfInBounds_toArray, List.set_cons_zero, List.set_cons_succ]
          refine wpAnyH_take (i := 9) (oi := ⟨some 24, _, _, _, _, _⟩) (v := ?_) rfl (by kernel_rfl) (by kernel_rfl) (by kernel_rfl) (fun _ _ _ h => h) (Or.inl ⟨by rfl, ?_⟩) (by assumption) ?_
          rotate_left
          · intro w hSw; (try dsimp only at hSw); go_simp; try with_reducible rfl
          simp only [Act.put, List.setIfInBounds_toArray, List.set_cons_zero, List.set_cons_succ]
          refine wpAnyH_take (i := 10) (oi := ⟨some 25, _, _, _, _, _⟩) (v := ?_) rfl (by kernel_rfl) (by kernel_rfl) (by kernel_rfl) (fun _ _ _ h => h) (Or.inl ⟨by rfl, ?_⟩) (by assumption) ?_
          rotate_left
          · intro w hSw; (try dsimp only at hSw); go_simp; try with_reducible rfl
          simp only [Act.put, List.setIfInBounds_toArray, List.set_cons_zero, List.set_cons_succ]
          refine wpAnyH_take (i := 11) (oi := ⟨some 26, _, _, _, _, _⟩) (v := ?_) rfl (by kernel_rfl) (by kernel_rfl) (by kernel_rfl) (fun _ _ _ h => h) (Or.inl ⟨by rfl, ?_⟩) (by assumption) ?_
          rotate_left
          · intro w hSw; (try dsimp only at hSw); go_simp; try with_reducible rfl
          simp only [Act.put, List.setIfInBounds_toArray, List.set_cons_zero, List.set_cons_succ]
          refine wpAnyH_take (i := 12) (oi := ⟨some 27, _, _, _, _, _⟩) (v := ?_) rfl (by kernel_rfl) (by kernel_rfl) (by kernel_rfl) (fun _ _ _ h => h) (Or.inl ⟨by rfl, ?_⟩) (by assumption) ?_
          rotate_left
          · intro w hSw; (try dsimp only at hSw); go_simp; try with_reducible rfl
          simp only [Act.put, List.setIfInBounds_toArray, List.set_cons_zero, List.set_cons_succ]
          refine wpAnyH_take (i := 13) (oi := ⟨some 28, _, _, _, _, _⟩) (v := ?_) rfl (by kernel_rfl) (by kernel_rfl) (by kernel_rfl) (fun _ _ _ h => h) (Or.inl ⟨by rfl, ?_⟩) (by assumption) ?_
          rotate_left
          · intro w hSw; (try dsimp only at hSw); go_simp; try with_reducible rfl
          simp only [Act.put, List.setIfInBounds_toArray, List.set_cons_zero, List.set_cons_succ]
          refine wpAnyH_take (i := 14) (oi := ⟨some 29, _, _, _, _, _⟩) (v := ?_) rfl (by kernel_rfl) (by kernel_rfl) (by kernel_rfl) (fun _ _ _ h => h) (Or.inl ⟨by rfl, ?_⟩) (by assumption) ?_
          rotate_left
          · intro w hSw; (try dsimp only at hSw); go_simp; try with_reducible rfl
          simp only [Act.put, List.setIfInBounds_toArray, List.set_cons_zero, List.set_cons_succ]
          refine wpAnyH_take (i := 15) (oi := ⟨some 30, _, _, _, _, _⟩) (v := ?_) rfl (by kernel_rfl) (by kernel_rfl) (by kernel_rfl) (fun _ _ _ h => h) (Or.inl ⟨by rfl, ?_⟩) (by assumption) ?_
          rotate_left
          · intro w hSw; (try dsimp only at hSw); go_simp; try with_reducible rfl
          simp only [Act.put, List.setIfInBounds_toArray, List.set_cons_zero, List.set_cons_succ]
          refine wpAnyH_ready (rs := [16]) (by kernel_rfl) (by simp) ?_
          refine AllReadyH.cons (o := ⟨some 31, _, _, _, _, _⟩) rfl (fun Kq hKq => ?_) AllReadyH.nil
          go_simp
          go_at_call 97
          refine (shas _ _ k cw z x HZZ.out (by omega)).mono ?_
          rintro e w' ⟨rfl, rfl⟩
          rw [HH.out]
          refine hKq.out _ _ (c0) (fun hHeld => ?_)
          clear hKq Kq
          refine wpAnyH_take (i := 17) (oi := ⟨some 32, _, _, _, _, _⟩) (v := ?_) rfl (by kernel_rfl) (by kernel_rfl) (by kernel_rfl) (fun _ _ _ h => h) (Or.inl ⟨by rfl, ?_⟩) (by assumption) ?_
          rotate_left
          · intro w hSw; (try dsimp only at hSw); go_simp; try with_reducible rfl
          simp only [Act.put, List.setIfInBounds_toArray, List.set_cons_zero, List.set_cons_succ]
          refine wpAnyH_take (i := 18) (oi := ⟨some 33, _, _, _, _, _⟩) (v := ?_) rfl (by kernel_rfl) (by kernel_rfl) (by kernel_rfl) (fun _ _ _ h => h) (Or.inl ⟨by rfl, ?_⟩) (by assumption) ?_
          rotate_left
          · intro w hSw; (try dsimp only at hSw); go_simp; try with_reducible rfl
          simp only [Act.put, List.setIfInBounds_toArray, List.set_cons_zero, List.set_cons_succ]
          refine wpAnyH_done (by kernel_rfl) ?_ _
          go_wp2
          go_roundw
          case rel => exact ⟨k + 1, m + 1, by omega, by go_num, by go_num, hm2, HN.out, G.out⟩
          case measure => simp [intOf]; omega
      · have hef : (ro.toList == role.toList) = false := by simpa using he
        have HE := Lib.hid (hE0 false hef)
        clear hE0
        have HN := Lib.hid (show mnF n R (k + 1) z role = m by rw [mnF_same (.inl (by rw [HX.out, HRO.out]; exact HE.out)) HR.out, HM.out])
        go_wp2_with fail
        refine wp_region_held_drew (S := (fun w' => w'.cell? ⟨b, off + k, none⟩ = some (.int .i64 x))) (by kernel_rfl) (c0) (fun hHeld => ?_)
        have hg := gdr wr
        replace c0 := (World.cell?_of_block (hg.block b hb (by simp))).trans c0
        replace I2 := Lib.hid (I2.out.kept hg)
        replace G := Lib.hid (gtr G.out hg)
        clear hg
        generalize wr.drew = w1 at *
        refine wpAnyH_take (i := 0) (oi := ⟨some 15, _, _, _, _, _⟩) (v := ?_) rfl (by kernel_rfl) (by kernel_rfl) (by kernel_rfl) (fun _ _ _ h => h) (Or.inl ⟨by rfl, ?_⟩) (by assumption) ?_
        rotate_left
        · intro w hSw; (try dsimp only at hSw); go_simp; try with_reducible rfl
        simp only [Act.put, List.setIfInBounds_toArray, List.set_cons_zero, List.set_cons_succ]
        refine wpAnyH_take (i := 1) (oi := ⟨some 16, _, _, _, _, _⟩) (v := ?_) rfl (by kernel_rfl) (by kernel_rfl) (by kernel_rfl) (fun _ _ _ h => h) (Or.inl ⟨by rfl, ?_⟩) (by assumption) ?_
        rotate_left
        · intro w hSw; (try dsimp only at hSw); go_simp; try with_reducible rfl
        simp only [Act.put, List.setIfInBounds_toArray, List.set_cons_zero, List.set_cons_succ]
        refine wpAnyH_take (i := 2) (oi := ⟨some 17, _, _, _, _, _⟩) (v := ?_) rfl (by kernel_rfl) (by kernel_rfl) (by kernel_rfl) (fun _ _ _ h => h) (Or.inl ⟨by rfl, ?_⟩) (by assumption) ?_
        rotate_left
        · intro w hSw; (try dsimp only at hSw); go_simp; try with_reducible rfl
        simp only [Act.put, List.setIfInBounds_toArray, List.set_cons_zero, List.set_cons_succ]
        refine wpAnyH_take (i := 3) (oi := ⟨some 18, _, _, _, _, _⟩) (v := ?_) rfl (by kernel_rfl) (by kernel_rfl) (by kernel_rfl) (fun _ _ _ h => h) (Or.inl ⟨by rfl, ?_⟩) (by assumption) ?_
        rotate_left
        · intro w hSw; (try dsimp only at hSw); go_simp; try with_reducible rfl
        simp only [Act.put, List.setIfInBounds_toArray, List.set_cons_zero, List.set_cons_succ]
        refine wpAnyH_take (i := 4) (oi := ⟨some 19, _, _, _, _, _⟩) (v := ?_) rfl (by kernel_rfl) (by kernel_rfl) (by kernel_rfl) (fun _ _ _ h => h) (Or.inl ⟨by rfl, ?_⟩) (by assumption) ?_
        rotate_left
        · intro w hSw; (try dsimp only at hSw); go_simp; try with_reducible rfl
        simp only [Act.put, List.setIfInBounds_toArray, List.set_cons_zero, List.set_cons_succ]
        refine wpAnyH_take (i := 6) (oi := ⟨some 21, _, _, _, _, _⟩) (v := ?_) rfl (by kernel_rfl) (by kernel_rfl) (by kernel_rfl) (fun _ _ _ h => h) (Or.inl ⟨by rfl, ?_⟩) (by assumption) ?_
        rotate_left
        · intro w hSw; (try dsimp only at hSw); go_simp; try with_reducible rfl
        simp only [Act.put, List.setIfInBounds_toArray, List.set_cons_zero, List.set_cons_succ]
        refine wpAnyH_ready (rs := [5]) (by kernel_rfl) (by simp) ?_
        refine AllReadyH.cons (o := ⟨some 20, _, _, _, _, _⟩) rfl (fun Kq hKq => ?_) AllReadyH.nil
        go_simp
        go_at_call 62
        refine (sof _ a n c R x I2.out hl).mono ?_
        rintro e w' ⟨rfl, rfl⟩
        rw [HRO.out]
        refine hKq.out _ _ (c0) (fun hHeld => ?_)
        clear hKq Kq
        refine wpAnyH_take (i := 7) (oi := ⟨some 22, _, _, _, _, _⟩) (v := ?_) rfl (by kernel_rfl) (by kernel_rfl) (by kernel_rfl) (fun _ _ _ h => h) (Or.inl ⟨by rfl, ?_⟩) (by assumption) ?_
        rotate_left
        · intro w hSw; (try dsimp only at hSw); go_simp; try with_reducible rfl
        simp only [Act.put, List.setIfInBounds_toArray, List.set_cons_zero, List.set_cons_succ]
        refine wpAnyH_take (i := 8) (oi := ⟨some 23, _, _, _, _, _⟩) (v := ?_) rfl (by kernel_rfl) (by kernel_rfl) (by kernel_rfl) (fun _ _ _ h => h) (Or.inl ⟨by rfl, ?_⟩) (by assumption) ?_
        rotate_left
        · intro w hSw; (try dsimp only at hSw); go_simp; try with_reducible rfl
        simp only [Act.put, List.setIfInBounds_toArray, List.set_cons_zero, List.set_cons_succ]
        refine wpAnyH_take (i := 9) (oi := ⟨some 24, _, _, _, _, _⟩) (v := undef) rfl (by kernel_rfl) (by kernel_rfl) (by kernel_rfl) (fun _ _ _ h => h) (Or.inr ⟨by rfl, rfl⟩) (by assumption) ?_
        simp only [Act.put, List.setIfInBounds_toArray, List.set_cons_zero, List.set_cons_succ]
        refine wpAnyH_take (i := 10) (oi := ⟨some 25, _, _, _, _, _⟩) (v := undef) rfl (by kernel_rfl) (by kernel_rfl) (by kernel_rfl) (fun _ _ _ h => h) (Or.inr ⟨by rfl, rfl⟩) (by assumption) ?_
        simp only [Act.put, List.setIfInBounds_toArray, List.set_cons_zero, List.set_cons_succ]
        refine wpAnyH_take (i := 11) (oi := ⟨some 26, _, _, _, _, _⟩) (v := undef) rfl (by kernel_rfl) (by kernel_rfl) (by kernel_rfl) (fun _ _ _ h => h) (Or.inr ⟨by rfl, rfl⟩) (by assumption) ?_
        simp only [Act.put, List.setIfInBounds_toArray, List.set_cons_zero, List.set_cons_succ]
        refine wpAnyH_take (i := 12) (oi := ⟨some 27, _, _, _, _, _⟩) (v := undef) rfl (by kernel_rfl) (by kernel_rfl) (by kernel_rfl) (fun _ _ _ h => h) (Or.inr ⟨by rfl, rfl⟩) (by assumption) ?_
        simp only [Act.put, List.setIfInBounds_toArray, List.set_cons_zero, List.set_cons_succ]
        refine wpAnyH_take (i := 13) (oi := ⟨some 28, _, _, _, _, _⟩) (v := undef) rfl (by kernel_rfl) (by kernel_rfl) (by kernel_rfl) (fun _ _ _ h => h) (Or.inr ⟨by rfl, rfl⟩) (by assumption) ?_
        simp only [Act.put, List.setIfInBounds_toArray, List.set_cons_zero, List.set_cons_succ]
        refine wpAnyH_take (i := 14) (oi := ⟨some 29, _, _, _, _, _⟩) (v := undef) rfl (by kernel_rfl) (by kernel_rfl) (by kernel_rfl) (fun _ _ _ h => h) (Or.inr ⟨by rfl, rfl⟩) (by assumption) ?_
        simp only [Act.put, List.setIfInBounds_toArray, List.set_cons_zero, List.set_cons_succ]
        refine wpAnyH_take (i := 15) (oi := ⟨some 30, _, _, _, _, _⟩) (v := undef) rfl (by kernel_rfl) (by kernel_rfl) (by kernel_rfl) (fun _ _ _ h => h) (Or.inr ⟨by rfl, rfl⟩) (by assumption) ?_
        simp only [Act.put, List.setIfInBounds_toArray, List.set_cons_zero, List.set_cons_succ]
        refine wpAnyH_take (i := 16) (oi := ⟨some 31, _, _, _, _, _⟩) (v := undef) rfl (by kernel_rfl) (by kernel_rfl) (by kernel_rfl) (fun _ _ _ h => h) (Or.inr ⟨by rfl, rfl⟩) (by assumption) ?_
        simp only [Act.put, List.setIfInBounds_toArray, List.set_cons_zero, List.set_cons_succ]
        refine wpAnyH_take (i := 17) (oi := ⟨some 32, _, _, _, _, _⟩) (v := undef) rfl (by kernel_rfl) (by kernel_rfl) (by kernel_rfl) (fun _ _ _ h => h) (Or.inr ⟨by rfl, rfl⟩) (by assumption) ?_
        simp only [Act.put, List.setIfInBounds_toArray, List.set_cons_zero, List.set_cons_succ]
        refine wpAnyH_take (i := 18) (oi := ⟨some 33, _, _, _, _, _⟩) (v := ?_) rfl (by kernel_rfl) (by kernel_rfl) (by kernel_rfl) (fun _ _ _ h => h) (Or.inl ⟨by rfl, ?_⟩) (by assumption) ?_
        rotate_left
        · intro w hSw; (try dsimp only at hSw); go_simp; try with_reducible rfl
        simp only [Act.put, List.setIfInBounds_toArray, List.set_cons_zero, List.set_cons_succ]
        refine wpAnyH_done (by kernel_rfl) ?_ _
        go_wp2
        go_roundw
        case rel => exact ⟨k + 1, m, by omega, by go_num, rfl, hmn, HN.out, G.out⟩
        case measure => simp [intOf]; omega
    · obtain rfl : k = q := by omega
      go_wp2
      go_ret
      exact ⟨Mem.ret_i (by rw [HM.out]), G.out⟩
theorem spmany (w : World) (a : Option Addr) (n c : Nat) (R : Nat → ByteArray) (aw : Option Addr) (q cw : Nat) (z : Nat → Int) (role : ByteArray) (hI : StrI w a n R) (hZ : Ints w aw q z) (hl : n ≤ 2000000) (hq : q ≤ 2000000) (hqc : q ≤ cw) :
    Calls Try.prog 26 #[.slice a n c, .slice aw q cw, .string role] w fun e w' => e = .returned (.int .i64 (pmF n R q z role)) ∧ w.grownBy w' none := by
  have HI := Lib.hid hI; have HZ := Lib.hid hZ; clear hI hZ
  have HP := Lib.hid (plF_zero (n := n) (R := R) (U := fun _ => ⟨noS, 0, 0⟩))
  go_enter Try.func26, Try.ntmps26
  go_wp2_with fail
  refine (spolok _ a n c R none 0 0 (fun _ => ⟨noS, 0, 0⟩) HI.out (.inl rfl) hl (by omega)).mono ?_
  rintro e w1 ⟨rfl, hg⟩
  have G := Lib.hid hg; clear hg
  rw [HP.out]
  cases hr : plR n R with
  | false =>
    have HQ := Lib.hid (show pmF n R q z role = 0 from pmF_out (by simp [hr])); clear hr
    go_wp2
    go_ret
    exact ⟨Mem.ret_i (by rw [HQ.out]; rfl), G.out⟩
  | true =>
    go_wp2_with fail
    refine (srole _ _).mono ?_
    rintro e w' ⟨rfl, rfl⟩
    cases ho : isR role with
    | false =>
      have HQ := Lib.hid (show pmF n R q z role = 0 from pmF_out (by simp [ho])); clear hr ho
      go_wp2
      go_ret
      exact ⟨Mem.ret_i (by rw [HQ.out]; rfl), G.out⟩
    | true =>
      have HQ := Lib.hid (show pmF n R q z role = mnF n R q z role from pmF_in hr ho)
      have HO := Lib.hid ho
      clear hr ho
      go_wp2_with fail
      refine (smanyL _ a n c R aw q cw z role (HI.out.kept G.out) (HZ.out.kept G.out) hl hq hqc HO.out).mono ?_
      rintro e w2 ⟨rfl, hg⟩
      have G2 := Lib.hid (gtr G.out hg); clear hg
      go_wp2
      go_ret
      exact ⟨Mem.ret_i (by rw [HQ.out]), G2.out⟩
set_option maxRecDepth 100000 in
set_option maxHeartbeats 4000000 in
theorem smostL (w : World) (a : Option Addr) (n c : Nat) (R : Nat → ByteArray) (au : Option Addr) (m cu : Nat) (U : Nat → RV) (aw : Option Addr) (q cw : Nat) (z : Nat → Int) (hI : StrI w a n R) (hU : RuI w au m U) (hZ : Ints w aw q z) (hl : n ≤ 2000000) (hm : m ≤ 2000000) (hq : q ≤ 2000000) (hqc : q ≤ cw) (hr : ∀ j, j < m → ruE (U j) = true) :
    Calls Try.prog 72 #[.slice a n c, .slice au m cu, .slice aw q cw] w fun e w' => e = .returned (.int .i64 (mx (vlF n R U q z) m)) ∧ w.grownBy w' none := by
  have I := Lib.hid hI; have HU := Lib.hid hU; have Z := Lib.hid hZ; clear hI hU hZ
  have HR := Lib.hid hr; clear hr
  obtain ⟨v, hv⟩ : ∃ v : Nat → Int, v = vlF n R U q z := ⟨_, rfl⟩
  rw [← hv]
  have HV := Lib.hid hv; clear hv
  go_enter Try.func72, Try.ntmps72
  go_wp2
  go_loopw [7, 8] (fun t i wr => ∃ (k : Nat) (x : Int), k ≤ m ∧ i = .int .i64 k ∧ t = .int .i64 x ∧ -1 ≤ x ∧ mx v k = x ∧ w.grownBy wr none) (fun _ i _ => m - (intOf i).toNat)
  case atStart => exact ⟨0, -1, by omega, rfl, rfl, by omega, rfl, Draw.grown_refl _ _⟩
  case round =>
    obtain ⟨k, x, hk, rfl, rfl, hx1, hx, hg⟩ := hrel
    have HX := Lib.hid hx; have G := Lib.hid hg
    have I2 := Lib.hid (I.out.kept hg); have Z2 := Lib.hid (Z.out.kept hg); have U2 := Lib.hid (HU.out.kept hg)
    clear hx hg
    by_cases hlt : k < m
    · obtain ⟨ru, hu⟩ : ∃ u, U k = u := ⟨_, rfl⟩
      have HE := Lib.hid (show isR ru.r = true by rw [← hu]; exact (ruE_iff.1 (HR.out k hlt)).1)
      have HW0 := Lib.hid hu
      obtain ⟨b, off, rfl, hb, hc⟩ := U2.out.ptr (by omega)
      have hc1 := hc k hlt
      rw [hu] at hc1
      clear hc hu
      obtain ⟨pm, hpm⟩ : ∃ pm, mnF n R q z ru.r = pm := ⟨_, rfl⟩
      have HP := Lib.hid hpm; clear hpm
      have HVK := Lib.hid (show v k = if ru.many ≤ (pm : Int) then ru.most else -1 by rw [HV.out]; unfold vlF; rw [HW0.out, HP.out])
      obtain ⟨c0, c1, c2⟩ := hc1
      go_wp2_with fail
      refine wp_region_held_drew (S := (fun w' => w'.cell? ⟨b, off + k * 3, none⟩ = some (.string ru.r) ∧ w'.cell? ⟨b, off + k * 3 + 1, none⟩ = some (.int .i64 ru.many))) (by kernel_rfl) (⟨c0, c1⟩) (fun hHeld => ?_)
      have hg := gdr wr
      have hq1 := hg.block b hb (by simp)
      replace c0 := (World.cell?_of_block hq1).trans c0
      replace c1 := (World.cell?_of_block hq1).trans c1
      replace c2 := (World.cell?_of_block hq1).trans c2
      replace hb := Nat.lt_of_lt_of_le hb hg.size
      clear hq1
      replace I2 := Lib.hid (I2.out.kept hg); replace Z2 := Lib.hid (Z2.out.kept hg)
      replace G := Lib.hid (gtr G.out hg)
      clear hg
      generalize wr.drew = w1 at *
      refine wpAnyH_take (i := 0) (oi := ⟨some 15, _, _, _, _, _⟩) (v := ?_) rfl (by kernel_rfl) (by kernel_rfl) (by kernel_rfl) (fun _ _ _ h => h) (Or.inl ⟨by rfl, ?_⟩) (by assumption) ?_
      rotate_left
      · intro w hSw; (try dsimp only at hSw); go_simp; try with_reducible rfl
      simp only [Act.put, List.setIfInBounds_toArray, List.set_cons_zero, List.set_cons_succ]
      refine wpAnyH_take (i := 1) (oi := ⟨some 16, _, _, _, _, _⟩) (v := ?_) rfl (by kernel_rfl) (by kernel_rfl) (by kernel_rfl) (fun _ _ _ h => h) (Or.inl ⟨by rfl, ?_⟩) (by assumption) ?_
      rotate_left
      · intro w hSw; (try dsimp only at hSw); go_simp; try with_reducible rfl
      simp only [Act.put, List.setIfInBounds_toArray, List.set_cons_zero, List.set_cons_succ]
      refine wpAnyH_take (i := 2) (oi := ⟨some 17, _, _, _, _, _⟩) (v := ?_) rfl (by kernel_rfl) (by kernel_rfl) (by kernel_rfl) (fun _ _ _ h => h) (Or.inl ⟨by rfl, ?_⟩) (by assumption) ?_
      rotate_left
      · intro w hSw; (try dsimp only at hSw); go_simp; try with_reducible rfl
      simp only [Act.put, List.setIfInBounds_toArray, List.set_cons_zero, List.set_cons_succ]
      refine wpAnyH_take (i := 3) (oi := ⟨some 18, _, _, _, _, _⟩) (v := ?_) rfl (by kernel_rfl) (by kernel_rfl) (by kernel_rfl) (fun _ _ _ h => h) (Or.inl ⟨by rfl, ?_⟩) (by assumption) ?_
      rotate_left
      · intro w hSw; (try dsimp only at hSw); go_simp; try with_reducible rfl
      simp only [Act.put, List.setIfInBounds_toArray, List.set_cons_zero, List.set_cons_succ]
      refine wpAnyH_take (i := 4) (oi := ⟨some 19, _, _, _, _, _⟩) (v := ?_) rfl (by kernel_rfl) (by kernel_rfl) (by kernel_rfl) (fun _ _ _ h => h) (Or.inl ⟨by rfl, ?_⟩) (by assumption) ?_
      rotate_left
      · intro w hSw; (try dsimp only at hSw); go_simp; try with_reducible rfl
      simp only [Act.put, List.setIfInBounds_toArray, List.set_cons_zero, List.set_cons_succ]
      refine wpAnyH_take (i := 5) (oi := ⟨some 20, _, _, _, _, _⟩) (v := ?_) rfl (by kernel_rfl) (by kernel_rfl) (by kernel_rfl) (fun _ _ _ h => h) (Or.inl ⟨by rfl, ?_⟩) (by assumption) ?_
      rotate_left
      · intro w hSw; (try dsimp only at hSw); go_simp; try with_reducible rfl
      simp only [Act.put, List.setIfInBounds_toArray, List.set_cons_zero, List.set_cons_succ]
      refine wpAnyH_take (i := 6) (oi := ⟨some 21, _, _, _, _, _⟩) (v := ?_) rfl (by kernel_rfl) (by kernel_rfl) (by kernel_rfl) (fun _ _ _ h => h) (Or.inl ⟨by rfl, ?_⟩) (by assumption) ?_
      rotate_left
      · intro w hSw; (try dsimp only at hSw); go_simp; try with_reducible rfl
      simp only [Act.put, List.setIfInBounds_toArray, List.set_cons_zero, List.set_cons_succ]
      refine wpAnyH_take (i := 8) (oi := ⟨some 23, _, _, _, _, _⟩) (v := ?_) rfl (by kernel_rfl) (by kernel_rfl) (by kernel_rfl) (fun _ _ _ h => h) (Or.inl ⟨by rfl, ?_⟩) (by assumption) ?_
      rotate_left
      · intro w hSw; (try dsimp only at hSw); go_simp; try with_reducible rfl
      simp only [Act.put, List.setIfInBounds_toArray, List.set_cons_zero, List.set_cons_succ]
      refine wpAnyH_take (i := 9) (oi := ⟨some 24, _, _, _, _, _⟩) (v := ?_) rfl (by kernel_rfl) (by kernel_rfl) (by kernel_rfl) (fun _ _ _ h => h) (Or.inl ⟨by rfl, ?_⟩) (by assumption) ?_
      rotate_left
      · intro w hSw; (try dsimp only at hSw); go_simp; try with_reducible rfl
      simp only [Act.put, List.setIfInBounds_toArray, List.set_cons_zero, List.set_cons_succ]
      refine wpAnyH_take (i := 10) (oi := ⟨some 25, _, _, _, _, _⟩) (v := ?_) rfl (by kernel_rfl) (by kernel_rfl) (by kernel_rfl) (fun _ _ _ h => h) (Or.inl ⟨by rfl, ?_⟩) (by assumption) ?_
      rotate_left
      · intro w hSw; (try dsimp only at hSw); go_simp; try with_reducible rfl
      simp only [Act.put, List.setIfInBounds_toArray, List.set_cons_zero, List.set_cons_succ]
      refine wpAnyH_take (i := 11) (oi := ⟨some 26, _, _, _, _, _⟩) (v := ?_) rfl (by kernel_rfl) (by kernel_rfl) (by kernel_rfl) (fun _ _ _ h => h) (Or.inl ⟨by rfl, ?_⟩) (by assumption) ?_
      rotate_left
      · intro w hSw; (try dsimp only at hSw); go_simp; try with_reducible rfl
      simp only [Act.put, List.setIfInBounds_toArray, List.set_cons_zero, List.set_cons_succ]
      refine wpAnyH_take (i := 12) (oi := ⟨some 27, _, _, _, _, _⟩) (v := ?_) rfl (by kernel_rfl) (by kernel_rfl) (by kernel_rfl) (fun _ _ _ h => h) (Or.inl ⟨by rfl, ?_⟩) (by assumption) ?_
      rotate_left
      · intro w hSw; (try dsimp only at hSw); go_simp; try with_reducible rfl
      simp only [Act.put, List.setIfInBounds_toArray, List.set_cons_zero, List.set_cons_succ]
      refine wpAnyH_ready (rs := [7]) (by kernel_rfl) (by simp) ?_
      refine AllReadyH.cons (o := ⟨some 22, _, _, _, _, _⟩) rfl (fun Kq hKq => ?_) AllReadyH.nil
      go_simp
      go_at_call 69
      refine (smanyL _ a n c R aw q cw z ru.r I2.out Z2.out hl hq hqc HE.out).mono ?_
      rintro e w2 ⟨rfl, hg⟩
      rw [HP.out]
      have hq1 := hg.block b hb (by simp)
      replace c0 := (World.cell?_of_block hq1).trans c0
      replace c1 := (World.cell?_of_block hq1).trans c1
      replace c2 := (World.cell?_of_block hq1).trans c2
      clear hq1
      replace G := Lib.hid (gtr G.out hg)
      clear hg
      refine hKq.out _ _ (⟨c0, c1⟩) (fun hHeld => ?_)
      clear hKq Kq
      refine wpAnyH_take (i := 13) (oi := ⟨some 28, _, _, _, _, _⟩) (v := ?_) rfl (by kernel_rfl) (by kernel_rfl) (by kernel_rfl) (fun _ _ _ h => h) (Or.inl ⟨by rfl, ?_⟩) (by assumption) ?_
      rotate_left
      · intro w hSw; (try dsimp only at hSw); go_simp; try with_reducible rfl
      simp only [Act.put, List.setIfInBounds_toArray, List.set_cons_zero, List.set_cons_succ]
      refine wpAnyH_done (by kernel_rfl) ?_ _
      by_cases h : ru.many ≤ (pm : Int)
      · have HN := Lib.hid (show mx v (k + 1) = max x ru.most by rw [mx, HX.out, HVK.out, if_pos h])
        go_wp2
        go_roundw
        case rel => exact ⟨k + 1, max x ru.most, by omega, by go_num, by go_num, by omega, HN.out, G.out⟩
        case measure => simp [intOf]; omega
      · have HN := Lib.hid (show mx v (k + 1) = x by rw [mx, HX.out, HVK.out, if_neg h]; omega)
        have h' : ¬ (pm : Int) ≥ ru.many := h
        go_wp2
        go_roundw
        case rel => exact ⟨k + 1, x, by omega, by go_num, rfl, by omega, HN.out, G.out⟩
        case measure => simp [intOf]; omega
    · obtain rfl : k = m := by omega
      go_wp2
      go_ret
      exact ⟨Mem.ret_i HX.out.symm, G.out⟩
theorem spmost (w : World) (a : Option Addr) (n c : Nat) (R : Nat → ByteArray) (au : Option Addr) (m cu : Nat) (U : Nat → RV) (aw : Option Addr) (q cw : Nat) (z : Nat → Int) (hI : StrI w a n R) (hU : RuI w au m U) (hZ : Ints w aw q z) (hl : n ≤ 2000000) (hm : m ≤ 2000000) (hq : q ≤ 2000000) (hqc : q ≤ cw) :
    Calls Try.prog 33 #[.slice a n c, .slice au m cu, .slice aw q cw] w fun e w' => e = .returned (.int .i64 (psF n R m U q z)) ∧ w.grownBy w' none := by
  have I := Lib.hid hI; have HU := Lib.hid hU; have Z := Lib.hid hZ; clear hI hU hZ
  go_enter Try.func33, Try.ntmps33
  go_wp2_with fail
  refine (spolok _ a n c R au m cu U I.out HU.out hl hm).mono ?_
  rintro e w1 ⟨rfl, hg⟩
  have G := Lib.hid hg; clear hg
  cases hp : plF n R m U with
  | false =>
    have HP := Lib.hid (show psF n R m U q z = -1 by unfold psF; rw [hp]; rfl); clear hp
    go_wp2
    go_ret
    exact ⟨Mem.ret_i HP.out.symm, G.out⟩
  | true =>
    have HP := Lib.hid (show psF n R m U q z = mx (vlF n R U q z) m from if_pos hp)
    have HL := Lib.hid (plF_iff.1 hp).2.2; clear hp
    go_wp2_with fail
    refine (smostL _ a n c R au m cu U aw q cw z (I.out.kept G.out) (HU.out.kept G.out) (Z.out.kept G.out) hl hm hq hqc HL.out).mono ?_
    rintro e w2 ⟨rfl, hg⟩
    have G2 := Lib.hid (gtr G.out hg); clear hg
    rw [← HP.out]
    go_wp2
    go_ret
    exact ⟨rfl, G2.out⟩
theorem spmay (w : World) (a : Option Addr) (n c : Nat) (R : Nat → ByteArray) (au : Option Addr) (m cu : Nat) (U : Nat → RV) (aw : Option Addr) (q cw : Nat) (z : Nat → Int) (amount : Int) (hI : StrI w a n R) (hU : RuI w au m U) (hZ : Ints w aw q z) (hl : n ≤ 2000000) (hm : m ≤ 2000000) (hq : q ≤ 2000000) (hqc : q ≤ cw) :
    Calls Try.prog 30 #[.slice a n c, .slice au m cu, .slice aw q cw, .int .i64 amount] w fun e w' => e = .returned (.bool (myF n R m U q z amount)) ∧ w.grownBy w' none := by
  have I := Lib.hid hI; have HU := Lib.hid hU; have Z := Lib.hid hZ; clear hI hU hZ
  go_enter Try.func30, Try.ntmps30
  go_wp2_with fail
  refine (spolok _ a n c R au m cu U I.out HU.out hl hm).mono ?_
  rintro e w1 ⟨rfl, hg⟩
  have G := Lib.hid hg; clear hg
  cases hp : plF n R m U with
  | false =>
    have HP := Lib.hid (show myF n R m U q z amount = false by unfold myF; rw [hp]; rfl); clear hp
    go_wp2
    go_ret
    exact ⟨Mem.ret_b HP.out.symm, G.out⟩
  | true =>
    have HS := Lib.hid (show psF n R m U q z = mx (vlF n R U q z) m from if_pos hp)
    have HP := Lib.hid (show myF n R m U q z amount = decide (0 ≤ amount ∧ amount ≤ 99 ∧ amount ≤ psF n R m U q z) by unfold myF; rw [hp]; rfl)
    have HL := Lib.hid (plF_iff.1 hp).2.2; clear hp
    by_cases h9 : 0 ≤ amount ∧ amount ≤ 99
    · obtain ⟨h0, h9⟩ := h9
      go_wp2_with fail
      refine (s6in_yes _ _ _ _ h0 h9).mono ?_
      rintro e w' ⟨rfl, rfl⟩
      go_wp2_with fail
      refine (smostL _ a n c R au m cu U aw q cw z (I.out.kept G.out) (HU.out.kept G.out) (Z.out.kept G.out) hl hm hq hqc HL.out).mono ?_
      rintro e w2 ⟨rfl, hg⟩
      have G2 := Lib.hid (gtr G.out hg); clear hg
      rw [← HS.out]
      by_cases hle : amount ≤ psF n R m U q z
      · have HQ := Lib.hid (show myF n R m U q z amount = true by rw [HP.out]; exact decide_eq_true ⟨h0, h9, hle⟩)
        go_wp2
        go_ret
        exact ⟨Mem.ret_b (by first | exact HQ.out.symm | (rw [HQ.out]; simp [hle])), G2.out⟩
      · have HQ := Lib.hid (show myF n R m U q z amount = false by rw [HP.out]; exact decide_eq_false fun h => hle h.2.2)
        go_wp2
        go_ret
        exact ⟨Mem.ret_b (by first | exact HQ.out.symm | (rw [HQ.out]; simp [hle])), G2.out⟩
    · have HQ := Lib.hid (show myF n R m U q z amount = false by rw [HP.out]; exact decide_eq_false fun h => h9 ⟨h.1, h.2.1⟩)
      go_wp2_with fail
      refine (s6in_no _ _ _ _ h9).mono ?_
      rintro e w' ⟨rfl, rfl⟩
      go_wp2
      go_ret
      exact ⟨Mem.ret_b HQ.out.symm, G.out⟩
end Po
end Go.Proofs.Ythbigmcklacbnaa
