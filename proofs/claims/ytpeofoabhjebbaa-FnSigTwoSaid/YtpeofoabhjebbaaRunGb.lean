/-
  The walks of the laws on one answer, on two signatures with one drawn number, and on a signature that is spoilt.
-/
import Derived.Test.YtpeofoabhjebbaaRunGa
namespace Go.Proofs.Ytpeofoabhjebbaa
namespace Run
open Go.RowKit Alg Mem Con Mp Draw
set_option linter.unusedVariables false

/-- A signature that is spoilt is none. -/
theorem sa_spoilt {secret msg drawn d : Int} (h1 : fok secret = true) (h2 : fok drawn = true) (h3 : mok msg = true) (hd : fok d = true) (h0 : d ≠ 0) : sgF (gofF secret) msg (gofF drawn) (sumF (saZ secret msg drawn) d) = false := by
  have hr := sa_right h1 h2 h3
  rw [sgF_hit (gof_ok h1) h3 (gof_ok h2) (saZ_ok _ _ _), decide_eq_true_eq] at hr
  rw [sgF_hit (gof_ok h1) h3 (gof_ok h2) (sumF_ok _ _), ← hr]
  apply decide_eq_false
  intro e
  have hz := saZ_ok secret msg drawn
  generalize saZ secret msg drawn = x at *
  obtain ⟨x0, x1⟩ := fok_iff.1 hz
  obtain ⟨d0, d1⟩ := fok_iff.1 hd
  rw [sumF_in hz hd] at e
  omega

set_option maxRecDepth 100000 in
set_option maxHeartbeats 4000000 in
theorem FnSigOne (a : Option Addr) (len cap : Nat) (w : World) (hB : Draw.Bytes w w.heap.size a len) (hc : len ≤ cap) (hm : cap ≤ maxLen) :
    Calls Try.prog 5 #[.slice a len cap] w (Yes w) := by
  by_cases hbig : 1048576 < len
  · have hbig' : (1048576 : Int) < (len : Int) := by omega
    clear hB
    go_enter Try.func5, Try.ntmps5
    go_wp2
    go_ret
    exact ⟨rfl, Below.refl _ _⟩
  have hbig' : ¬ (1048576 : Int) < (len : Int) := by omega
  go_enter Try.func5, Try.ntmps5
  go_wp2_with fail
  refine (drawSig _ a len cap hB hc hm).mono ?_
  rintro e w1 ⟨pub, msg, R, Z, rfl, hg⟩
  have G := Lib.hid (gtr hg (Draw.grown_alloc w1 (.cells #[.int .i64 R, .int .i64 Z] 29) none))
  have T := Lib.hid (Du.of_blk (Blk.new w1 #[.int .i64 R, .int .i64 Z] 29))
  clear hg hB
  obtain ⟨_, t0, t1⟩ := T.out
  go_wp2_with fail
  refine (isigok _ pub msg R Z).mono ?_
  rintro e w2 ⟨rfl, hg⟩
  clear t0 t1
  replace G := Lib.hid (gtr G.out hg)
  replace T := Lib.hid (T.out.kept hg)
  clear hg
  obtain ⟨_, t0, t1⟩ := T.out
  go_wp2_with fail
  refine (ssigok _ pub msg R Z).mono ?_
  rintro e w3 ⟨rfl, hg⟩
  clear t0 t1
  replace G := Lib.hid (gtr G.out hg)
  replace T := Lib.hid (T.out.kept hg)
  clear hg
  obtain ⟨_, t0, t1⟩ := T.out
  have hne : (sgF pub msg R Z != sgF pub msg R Z) = false := by simp
  have heq : (sgF pub msg R Z == sgF pub msg R Z) = true := by simp
  rcases gokc pub with h1 | h1
  case inr =>
    go_wp2_with fail
    refine (igok_no _ _ h1).mono ?_
    rintro e w4 ⟨rfl, hg⟩
    clear t0 t1
    replace G := Lib.hid (gtr G.out hg)
    replace T := Lib.hid (T.out.kept hg)
    clear hg
    obtain ⟨_, t0, t1⟩ := T.out
    go_wp2_with fail
    refine (ssigok _ pub msg R Z).mono ?_
    rintro e w9 ⟨rfl, hg⟩
    clear t0 t1
    replace G := Lib.hid (gtr G.out hg)
    replace T := Lib.hid (T.out.kept hg)
    clear hg
    obtain ⟨_, t0, t1⟩ := T.out
    go_wp2
    go_ret
    exact ⟨rfl, Draw.below_of G.out⟩
  go_wp2_with fail
  refine (igok_yes _ _ h1).mono ?_
  rintro e w4 ⟨rfl, hg⟩
  clear t0 t1
  replace G := Lib.hid (gtr G.out hg)
  replace T := Lib.hid (T.out.kept hg)
  clear hg
  obtain ⟨_, t0, t1⟩ := T.out
  rcases gokc R with h2 | h2
  case inr =>
    go_wp2_with fail
    refine (igok_no _ _ h2).mono ?_
    rintro e w5 ⟨rfl, hg⟩
    clear t0 t1
    replace G := Lib.hid (gtr G.out hg)
    replace T := Lib.hid (T.out.kept hg)
    clear hg
    obtain ⟨_, t0, t1⟩ := T.out
    go_wp2_with fail
    refine (ssigok _ pub msg R Z).mono ?_
    rintro e w9 ⟨rfl, hg⟩
    clear t0 t1
    replace G := Lib.hid (gtr G.out hg)
    replace T := Lib.hid (T.out.kept hg)
    clear hg
    obtain ⟨_, t0, t1⟩ := T.out
    go_wp2
    go_ret
    exact ⟨rfl, Draw.below_of G.out⟩
  go_wp2_with fail
  refine (igok_yes _ _ h2).mono ?_
  rintro e w5 ⟨rfl, hg⟩
  clear t0 t1
  replace G := Lib.hid (gtr G.out hg)
  replace T := Lib.hid (T.out.kept hg)
  clear hg
  obtain ⟨_, t0, t1⟩ := T.out
  by_cases m0 : msg < 0
  · skip
    go_wp2_with fail
    refine (ssigok _ pub msg R Z).mono ?_
    rintro e w9 ⟨rfl, hg⟩
    clear t0 t1
    replace G := Lib.hid (gtr G.out hg)
    replace T := Lib.hid (T.out.kept hg)
    clear hg
    obtain ⟨_, t0, t1⟩ := T.out
    go_wp2
    go_ret
    exact ⟨rfl, Draw.below_of G.out⟩
  by_cases m1 : 99 < msg
  · skip
    go_wp2_with fail
    refine (ssigok _ pub msg R Z).mono ?_
    rintro e w9 ⟨rfl, hg⟩
    clear t0 t1
    replace G := Lib.hid (gtr G.out hg)
    replace T := Lib.hid (T.out.kept hg)
    clear hg
    obtain ⟨_, t0, t1⟩ := T.out
    go_wp2
    go_ret
    exact ⟨rfl, Draw.below_of G.out⟩
  have hms : mok msg = true := mok_iff.2 (by omega)
  obtain ⟨v0, v1⟩ := fok_iff.1 (sgZ_ok (msg := msg) h1 h2).1
  have HV := Lib.hid (show ∀ k : Nat, k < 23 → sgF pub msg R k = decide ((k : Int) = sgZ pub msg R) from fun k hk => sgF_hit h1 hms h2 (fok_iff.2 (by omega)))
  have H1 := Lib.hid h1; have H2 := Lib.hid h2; have H3 := Lib.hid hms
  clear h1 h2 hms
  generalize sgZ pub msg R = v at *
  go_wp2
  clear t0 t1
  go_loopw [7, 8] (fun n i W => ∃ k : Nat, k ≤ 23 ∧ n = .int .i64 (cnt1 v k) ∧ i = .int .i64 k ∧ w5.grownBy W none) (fun _ i _ => 23 - (intOf i).toNat)
  case atStart => exact ⟨0, by omega, by unfold cnt1; rw [if_neg (by omega)], rfl, Draw.grown_refl _ _⟩
  case round =>
    obtain ⟨k, hk, rfl, rfl, hg⟩ := hrel
    obtain ⟨W1, hW⟩ : ∃ W, W = wr := ⟨_, rfl⟩; subst hW
    have C := Lib.hid hg
    replace G := Lib.hid (gtr G.out hg)
    replace T := Lib.hid (T.out.kept hg)
    clear hg
    obtain ⟨_, t0, t1⟩ := T.out
    obtain ⟨c0, c1⟩ := cnt1_range (e := v) (k := k)
    by_cases hlt : k < 23
    · skip
      have hlt' : (k : Int) < 23 := by omega
      go_wp2_with fail
      refine (isigok _ pub msg R (k : Int)).mono ?_
      rintro e w6 ⟨rfl, hg⟩
      clear t0 t1
      replace G := Lib.hid (gtr G.out hg)
      replace T := Lib.hid (T.out.kept hg)
      replace C := Lib.hid (gtr C.out hg)
      clear hg
      obtain ⟨_, t0, t1⟩ := T.out
      by_cases he : (k : Int) = v
      · have HE := Lib.hid (cnt1_yes he)
        rw [HV.out k hlt, decide_eq_true he]
        clear he
        go_wp2
        go_roundw
        case rel => exact ⟨k + 1, by omega, by rw [HE.out]; try go_num, by go_num, C.out⟩
        case measure => simp [intOf]; omega
      · have HE := Lib.hid (cnt1_no he)
        rw [HV.out k hlt, decide_eq_false he]
        clear he
        go_wp2
        go_roundw
        case rel => exact ⟨k + 1, by omega, by rw [HE.out], by go_num, C.out⟩
        case measure => simp [intOf]; omega
    · obtain rfl : k = 23 := by omega
      have h23 : ¬ ((23 : Nat) : Int) < 23 := by omega
      have hone : cnt1 v 23 = 1 := by unfold cnt1; rw [if_pos (by omega)]
      rw [hone]
      clear hone c0 c1 hne heq
      rcases fokc Z with h6 | h6
      case inr =>
        have HF := Lib.hid (sgF_out (pub := pub) (msg := msg) (R := R) (Or.inr (Or.inr (Or.inr h6))))
        rw [HF.out]
        go_wp2_with fail
        refine wp_region_held_drew (S := (fun w' => w'.cell? ⟨w1.heap.size, 0, none⟩ = some (.int .i64 R) ∧ w'.cell? ⟨w1.heap.size, 1, none⟩ = some (.int .i64 Z))) (by kernel_rfl) (⟨T.out.c0, T.out.c1⟩) (fun hHeld => ?_)
        have hg := Draw.gdrew W1
        clear t0 t1
        replace G := Lib.hid (gtr G.out hg)
        replace T := Lib.hid (T.out.kept hg)
        replace C := Lib.hid (gtr C.out hg)
        clear hg
        obtain ⟨_, t0, t1⟩ := T.out
        generalize W1.drew = V at *
        refine wpAnyH_take (i := 0) (oi := ⟨some 66, _, _, _, _, _⟩) (v := ?_) rfl (by kernel_rfl) (by kernel_rfl) (by kernel_rfl) (fun _ _ _ h => h) (Or.inl ⟨by rfl, ?_⟩) (by assumption) ?_
        rotate_left
        · intro w hSw; (try dsimp only at hSw); go_simp; try with_reducible rfl
        simp only [Act.put, List.setIfInBounds_toArray, List.set_cons_zero, List.set_cons_succ]
        refine wpAnyH_take (i := 1) (oi := ⟨some 67, _, _, _, _, _⟩) (v := ?_) rfl (by kernel_rfl) (by kernel_rfl) (by kernel_rfl) (fun _ _ _ h => h) (Or.inl ⟨by rfl, ?_⟩) (by assumption) ?_
        rotate_left
        · intro w hSw; (try dsimp only at hSw); go_simp; try with_reducible rfl
        simp only [Act.put, List.setIfInBounds_toArray, List.set_cons_zero, List.set_cons_succ]
        refine wpAnyH_take (i := 2) (oi := ⟨some 68, _, _, _, _, _⟩) (v := ?_) rfl (by kernel_rfl) (by kernel_rfl) (by kernel_rfl) (fun _ _ _ h => h) (Or.inl ⟨by rfl, ?_⟩) (by assumption) ?_
        rotate_left
        · intro w hSw; (try dsimp only at hSw); go_simp; try with_reducible rfl
        simp only [Act.put, List.setIfInBounds_toArray, List.set_cons_zero, List.set_cons_succ]
        refine wpAnyH_take (i := 3) (oi := ⟨some 69, _, _, _, _, _⟩) (v := ?_) rfl (by kernel_rfl) (by kernel_rfl) (by kernel_rfl) (fun _ _ _ h => h) (Or.inl ⟨by rfl, ?_⟩) (by assumption) ?_
        rotate_left
        · intro w hSw; (try dsimp only at hSw); go_simp; try with_reducible rfl
        simp only [Act.put, List.setIfInBounds_toArray, List.set_cons_zero, List.set_cons_succ]
        refine wpAnyH_take (i := 4) (oi := ⟨some 70, _, _, _, _, _⟩) (v := ?_) rfl (by kernel_rfl) (by kernel_rfl) (by kernel_rfl) (fun _ _ _ h => h) (Or.inl ⟨by rfl, ?_⟩) (by assumption) ?_
        rotate_left
        · intro w hSw; (try dsimp only at hSw); go_simp; try with_reducible rfl
        simp only [Act.put, List.setIfInBounds_toArray, List.set_cons_zero, List.set_cons_succ]
        refine wpAnyH_take (i := 5) (oi := ⟨some 71, _, _, _, _, _⟩) (v := ?_) rfl (by kernel_rfl) (by kernel_rfl) (by kernel_rfl) (fun _ _ _ h => h) (Or.inl ⟨by rfl, ?_⟩) (by assumption) ?_
        rotate_left
        · intro w hSw; (try dsimp only at hSw); go_simp; try with_reducible rfl
        simp only [Act.put, List.setIfInBounds_toArray, List.set_cons_zero, List.set_cons_succ]
        refine wpAnyH_ready (rs := [6]) (by kernel_rfl) (by simp) ?_
        refine AllReadyH.cons (o := ⟨some 72, _, _, _, _, _⟩) rfl (fun Kq hKq => ?_) AllReadyH.nil
        go_simp
        go_at_call 21
        refine (iok_no _ _ h6).mono ?_
        rintro e v2 ⟨rfl, rfl⟩
        refine hKq.out _ _ (⟨T.out.c0, T.out.c1⟩) (fun hHeld => ?_)
        clear hKq Kq
        refine wpAnyH_take (i := 7) (oi := ⟨some 73, _, _, _, _, _⟩) (v := ?_) rfl (by kernel_rfl) (by kernel_rfl) (by kernel_rfl) (fun _ _ _ h => h) (Or.inl ⟨by rfl, ?_⟩) (by assumption) ?_
        rotate_left
        · intro w hSw; (try dsimp only at hSw); go_simp; try with_reducible rfl
        simp only [Act.put, List.setIfInBounds_toArray, List.set_cons_zero, List.set_cons_succ]
        refine wpAnyH_take (i := 8) (oi := ⟨some 74, _, _, _, _, _⟩) (v := undef) rfl (by kernel_rfl) (by kernel_rfl) (by kernel_rfl) (fun _ _ _ h => h) (Or.inr ⟨by rfl, rfl⟩) (by assumption) ?_
        simp only [Act.put, List.setIfInBounds_toArray, List.set_cons_zero, List.set_cons_succ]
        refine wpAnyH_take (i := 9) (oi := ⟨some 75, _, _, _, _, _⟩) (v := undef) rfl (by kernel_rfl) (by kernel_rfl) (by kernel_rfl) (fun _ _ _ h => h) (Or.inr ⟨by rfl, rfl⟩) (by assumption) ?_
        simp only [Act.put, List.setIfInBounds_toArray, List.set_cons_zero, List.set_cons_succ]
        refine wpAnyH_take (i := 10) (oi := ⟨some 76, _, _, _, _, _⟩) (v := undef) rfl (by kernel_rfl) (by kernel_rfl) (by kernel_rfl) (fun _ _ _ h => h) (Or.inr ⟨by rfl, rfl⟩) (by assumption) ?_
        simp only [Act.put, List.setIfInBounds_toArray, List.set_cons_zero, List.set_cons_succ]
        refine wpAnyH_take (i := 11) (oi := ⟨some 77, _, _, _, _, _⟩) (v := undef) rfl (by kernel_rfl) (by kernel_rfl) (by kernel_rfl) (fun _ _ _ h => h) (Or.inr ⟨by rfl, rfl⟩) (by assumption) ?_
        simp only [Act.put, List.setIfInBounds_toArray, List.set_cons_zero, List.set_cons_succ]
        refine wpAnyH_take (i := 12) (oi := ⟨some 78, _, _, _, _, _⟩) (v := undef) rfl (by kernel_rfl) (by kernel_rfl) (by kernel_rfl) (fun _ _ _ h => h) (Or.inr ⟨by rfl, rfl⟩) (by assumption) ?_
        simp only [Act.put, List.setIfInBounds_toArray, List.set_cons_zero, List.set_cons_succ]
        refine wpAnyH_take (i := 13) (oi := ⟨some 79, _, _, _, _, _⟩) (v := undef) rfl (by kernel_rfl) (by kernel_rfl) (by kernel_rfl) (fun _ _ _ h => h) (Or.inr ⟨by rfl, rfl⟩) (by assumption) ?_
        simp only [Act.put, List.setIfInBounds_toArray, List.set_cons_zero, List.set_cons_succ]
        refine wpAnyH_take (i := 14) (oi := ⟨some 80, _, _, _, _, _⟩) (v := undef) rfl (by kernel_rfl) (by kernel_rfl) (by kernel_rfl) (fun _ _ _ h => h) (Or.inr ⟨by rfl, rfl⟩) (by assumption) ?_
        simp only [Act.put, List.setIfInBounds_toArray, List.set_cons_zero, List.set_cons_succ]
        refine wpAnyH_take (i := 15) (oi := ⟨some 81, _, _, _, _, _⟩) (v := undef) rfl (by kernel_rfl) (by kernel_rfl) (by kernel_rfl) (fun _ _ _ h => h) (Or.inr ⟨by rfl, rfl⟩) (by assumption) ?_
        simp only [Act.put, List.setIfInBounds_toArray, List.set_cons_zero, List.set_cons_succ]
        refine wpAnyH_take (i := 16) (oi := ⟨some 82, _, _, _, _, _⟩) (v := undef) rfl (by kernel_rfl) (by kernel_rfl) (by kernel_rfl) (fun _ _ _ h => h) (Or.inr ⟨by rfl, rfl⟩) (by assumption) ?_
        simp only [Act.put, List.setIfInBounds_toArray, List.set_cons_zero, List.set_cons_succ]
        refine wpAnyH_take (i := 17) (oi := ⟨some 83, _, _, _, _, _⟩) (v := undef) rfl (by kernel_rfl) (by kernel_rfl) (by kernel_rfl) (fun _ _ _ h => h) (Or.inr ⟨by rfl, rfl⟩) (by assumption) ?_
        simp only [Act.put, List.setIfInBounds_toArray, List.set_cons_zero, List.set_cons_succ]
        refine wpAnyH_take (i := 18) (oi := ⟨some 84, _, _, _, _, _⟩) (v := undef) rfl (by kernel_rfl) (by kernel_rfl) (by kernel_rfl) (fun _ _ _ h => h) (Or.inr ⟨by rfl, rfl⟩) (by assumption) ?_
        simp only [Act.put, List.setIfInBounds_toArray, List.set_cons_zero, List.set_cons_succ]
        refine wpAnyH_take (i := 19) (oi := ⟨some 85, _, _, _, _, _⟩) (v := undef) rfl (by kernel_rfl) (by kernel_rfl) (by kernel_rfl) (fun _ _ _ h => h) (Or.inr ⟨by rfl, rfl⟩) (by assumption) ?_
        simp only [Act.put, List.setIfInBounds_toArray, List.set_cons_zero, List.set_cons_succ]
        refine wpAnyH_take (i := 20) (oi := ⟨some 86, _, _, _, _, _⟩) (v := undef) rfl (by kernel_rfl) (by kernel_rfl) (by kernel_rfl) (fun _ _ _ h => h) (Or.inr ⟨by rfl, rfl⟩) (by assumption) ?_
        simp only [Act.put, List.setIfInBounds_toArray, List.set_cons_zero, List.set_cons_succ]
        refine wpAnyH_take (i := 21) (oi := ⟨some 87, _, _, _, _, _⟩) (v := undef) rfl (by kernel_rfl) (by kernel_rfl) (by kernel_rfl) (fun _ _ _ h => h) (Or.inr ⟨by rfl, rfl⟩) (by assumption) ?_
        simp only [Act.put, List.setIfInBounds_toArray, List.set_cons_zero, List.set_cons_succ]
        refine wpAnyH_take (i := 22) (oi := ⟨some 88, _, _, _, _, _⟩) (v := ?_) rfl (by kernel_rfl) (by kernel_rfl) (by kernel_rfl) (fun _ _ _ h => h) (Or.inl ⟨by rfl, ?_⟩) (by assumption) ?_
        rotate_left
        · intro w hSw; (try dsimp only at hSw); go_simp; try with_reducible rfl
        simp only [Act.put, List.setIfInBounds_toArray, List.set_cons_zero, List.set_cons_succ]
        refine wpAnyH_take (i := 23) (oi := ⟨some 89, _, _, _, _, _⟩) (v := ?_) rfl (by kernel_rfl) (by kernel_rfl) (by kernel_rfl) (fun _ _ _ h => h) (Or.inl ⟨by rfl, ?_⟩) (by assumption) ?_
        rotate_left
        · intro w hSw; (try dsimp only at hSw); go_simp; try with_reducible rfl
        simp only [Act.put, List.setIfInBounds_toArray, List.set_cons_zero, List.set_cons_succ]
        refine wpAnyH_take (i := 24) (oi := ⟨some 90, _, _, _, _, _⟩) (v := ?_) rfl (by kernel_rfl) (by kernel_rfl) (by kernel_rfl) (fun _ _ _ h => h) (Or.inl ⟨by rfl, ?_⟩) (by assumption) ?_
        rotate_left
        · intro w hSw; (try dsimp only at hSw); go_simp; try with_reducible rfl
        simp only [Act.put, List.setIfInBounds_toArray, List.set_cons_zero, List.set_cons_succ]
        refine wpAnyH_take (i := 25) (oi := ⟨some 2, _, _, _, _, _⟩) (v := ?_) rfl (by kernel_rfl) (by kernel_rfl) (by kernel_rfl) (fun _ _ _ h => h) (Or.inl ⟨by rfl, ?_⟩) (by assumption) ?_
        rotate_left
        · intro w hSw; (try dsimp only at hSw); go_simp; try with_reducible rfl
        simp only [Act.put, List.setIfInBounds_toArray, List.set_cons_zero, List.set_cons_succ]
        refine wpAnyH_done (by kernel_rfl) ?_ _
        go_wp2
        go_ret
        exact ⟨rfl, Draw.below_of G.out⟩
      have HF := Lib.hid (sgF_in H1.out H3.out H2.out h6)
      have HH := Lib.hid (hF_in H2.out H1.out H3.out)
      rw [HF.out]
      generalize hq : gpowF pub (hz R pub msg) = q
      have HQ := Lib.hid hq; clear hq
      go_wp2_with fail
      refine wp_region_held_drew (S := (fun w' => w'.cell? ⟨w1.heap.size, 0, none⟩ = some (.int .i64 R) ∧ w'.cell? ⟨w1.heap.size, 1, none⟩ = some (.int .i64 Z))) (by kernel_rfl) (⟨T.out.c0, T.out.c1⟩) (fun hHeld => ?_)
      have hg := Draw.gdrew W1
      clear t0 t1
      replace G := Lib.hid (gtr G.out hg)
      replace T := Lib.hid (T.out.kept hg)
      replace C := Lib.hid (gtr C.out hg)
      clear hg
      obtain ⟨_, t0, t1⟩ := T.out
      generalize W1.drew = V at *
      refine wpAnyH_take (i := 0) (oi := ⟨some 66, _, _, _, _, _⟩) (v := ?_) rfl (by kernel_rfl) (by kernel_rfl) (by kernel_rfl) (fun _ _ _ h => h) (Or.inl ⟨by rfl, ?_⟩) (by assumption) ?_
      rotate_left
      · intro w hSw; (try dsimp only at hSw); go_simp; try with_reducible rfl
      simp only [Act.put, List.setIfInBounds_toArray, List.set_cons_zero, List.set_cons_succ]
      refine wpAnyH_take (i := 1) (oi := ⟨some 67, _, _, _, _, _⟩) (v := ?_) rfl (by kernel_rfl) (by kernel_rfl) (by kernel_rfl) (fun _ _ _ h => h) (Or.inl ⟨by rfl, ?_⟩) (by assumption) ?_
      rotate_left
      · intro w hSw; (try dsimp only at hSw); go_simp; try with_reducible rfl
      simp only [Act.put, List.setIfInBounds_toArray, List.set_cons_zero, List.set_cons_succ]
      refine wpAnyH_take (i := 2) (oi := ⟨some 68, _, _, _, _, _⟩) (v := ?_) rfl (by kernel_rfl) (by kernel_rfl) (by kernel_rfl) (fun _ _ _ h => h) (Or.inl ⟨by rfl, ?_⟩) (by assumption) ?_
      rotate_left
      · intro w hSw; (try dsimp only at hSw); go_simp; try with_reducible rfl
      simp only [Act.put, List.setIfInBounds_toArray, List.set_cons_zero, List.set_cons_succ]
      refine wpAnyH_take (i := 3) (oi := ⟨some 69, _, _, _, _, _⟩) (v := ?_) rfl (by kernel_rfl) (by kernel_rfl) (by kernel_rfl) (fun _ _ _ h => h) (Or.inl ⟨by rfl, ?_⟩) (by assumption) ?_
      rotate_left
      · intro w hSw; (try dsimp only at hSw); go_simp; try with_reducible rfl
      simp only [Act.put, List.setIfInBounds_toArray, List.set_cons_zero, List.set_cons_succ]
      refine wpAnyH_take (i := 4) (oi := ⟨some 70, _, _, _, _, _⟩) (v := ?_) rfl (by kernel_rfl) (by kernel_rfl) (by kernel_rfl) (fun _ _ _ h => h) (Or.inl ⟨by rfl, ?_⟩) (by assumption) ?_
      rotate_left
      · intro w hSw; (try dsimp only at hSw); go_simp; try with_reducible rfl
      simp only [Act.put, List.setIfInBounds_toArray, List.set_cons_zero, List.set_cons_succ]
      refine wpAnyH_take (i := 5) (oi := ⟨some 71, _, _, _, _, _⟩) (v := ?_) rfl (by kernel_rfl) (by kernel_rfl) (by kernel_rfl) (fun _ _ _ h => h) (Or.inl ⟨by rfl, ?_⟩) (by assumption) ?_
      rotate_left
      · intro w hSw; (try dsimp only at hSw); go_simp; try with_reducible rfl
      simp only [Act.put, List.setIfInBounds_toArray, List.set_cons_zero, List.set_cons_succ]
      refine wpAnyH_ready (rs := [6]) (by kernel_rfl) (by simp) ?_
      refine AllReadyH.cons (o := ⟨some 72, _, _, _, _, _⟩) rfl (fun Kq hKq => ?_) AllReadyH.nil
      go_simp
      go_at_call 21
      refine (iok_yes _ _ h6).mono ?_
      rintro e v2 ⟨rfl, rfl⟩
      refine hKq.out _ _ (⟨T.out.c0, T.out.c1⟩) (fun hHeld => ?_)
      clear hKq Kq
      refine wpAnyH_take (i := 7) (oi := ⟨some 73, _, _, _, _, _⟩) (v := ?_) rfl (by kernel_rfl) (by kernel_rfl) (by kernel_rfl) (fun _ _ _ h => h) (Or.inl ⟨by rfl, ?_⟩) (by assumption) ?_
      rotate_left
      · intro w hSw; (try dsimp only at hSw); go_simp; try with_reducible rfl
      simp only [Act.put, List.setIfInBounds_toArray, List.set_cons_zero, List.set_cons_succ]
      refine wpAnyH_take (i := 8) (oi := ⟨some 74, _, _, _, _, _⟩) (v := ?_) rfl (by kernel_rfl) (by kernel_rfl) (by kernel_rfl) (fun _ _ _ h => h) (Or.inl ⟨by rfl, ?_⟩) (by assumption) ?_
      rotate_left
      · intro w hSw; (try dsimp only at hSw); go_simp; try with_reducible rfl
      simp only [Act.put, List.setIfInBounds_toArray, List.set_cons_zero, List.set_cons_succ]
      refine wpAnyH_take (i := 9) (oi := ⟨some 75, _, _, _, _, _⟩) (v := ?_) rfl (by kernel_rfl) (by kernel_rfl) (by kernel_rfl) (fun _ _ _ h => h) (Or.inl ⟨by rfl, ?_⟩) (by assumption) ?_
      rotate_left
      · intro w hSw; (try dsimp only at hSw); go_simp; try with_reducible rfl
      simp only [Act.put, List.setIfInBounds_toArray, List.set_cons_zero, List.set_cons_succ]
      refine wpAnyH_take (i := 11) (oi := ⟨some 77, _, _, _, _, _⟩) (v := ?_) rfl (by kernel_rfl) (by kernel_rfl) (by kernel_rfl) (fun _ _ _ h => h) (Or.inl ⟨by rfl, ?_⟩) (by assumption) ?_
      rotate_left
      · intro w hSw; (try dsimp only at hSw); go_simp; try with_reducible rfl
      simp only [Act.put, List.setIfInBounds_toArray, List.set_cons_zero, List.set_cons_succ]
      refine wpAnyH_take (i := 12) (oi := ⟨some 78, _, _, _, _, _⟩) (v := ?_) rfl (by kernel_rfl) (by kernel_rfl) (by kernel_rfl) (fun _ _ _ h => h) (Or.inl ⟨by rfl, ?_⟩) (by assumption) ?_
      rotate_left
      · intro w hSw; (try dsimp only at hSw); go_simp; try with_reducible rfl
      simp only [Act.put, List.setIfInBounds_toArray, List.set_cons_zero, List.set_cons_succ]
      refine wpAnyH_take (i := 13) (oi := ⟨some 79, _, _, _, _, _⟩) (v := ?_) rfl (by kernel_rfl) (by kernel_rfl) (by kernel_rfl) (fun _ _ _ h => h) (Or.inl ⟨by rfl, ?_⟩) (by assumption) ?_
      rotate_left
      · intro w hSw; (try dsimp only at hSw); go_simp; try with_reducible rfl
      simp only [Act.put, List.setIfInBounds_toArray, List.set_cons_zero, List.set_cons_succ]
      refine wpAnyH_take (i := 14) (oi := ⟨some 80, _, _, _, _, _⟩) (v := ?_) rfl (by kernel_rfl) (by kernel_rfl) (by kernel_rfl) (fun _ _ _ h => h) (Or.inl ⟨by rfl, ?_⟩) (by assumption) ?_
      rotate_left
      · intro w hSw; (try dsimp only at hSw); go_simp; try with_reducible rfl
      simp only [Act.put, List.setIfInBounds_toArray, List.set_cons_zero, List.set_cons_succ]
      refine wpAnyH_take (i := 15) (oi := ⟨some 81, _, _, _, _, _⟩) (v := ?_) rfl (by kernel_rfl) (by kernel_rfl) (by kernel_rfl) (fun _ _ _ h => h) (Or.inl ⟨by rfl, ?_⟩) (by assumption) ?_
      rotate_left
      · intro w hSw; (try dsimp only at hSw); go_simp; try with_reducible rfl
      simp only [Act.put, List.setIfInBounds_toArray, List.set_cons_zero, List.set_cons_succ]
      refine wpAnyH_take (i := 16) (oi := ⟨some 82, _, _, _, _, _⟩) (v := ?_) rfl (by kernel_rfl) (by kernel_rfl) (by kernel_rfl) (fun _ _ _ h => h) (Or.inl ⟨by rfl, ?_⟩) (by assumption) ?_
      rotate_left
      · intro w hSw; (try dsimp only at hSw); go_simp; try with_reducible rfl
      simp only [Act.put, List.setIfInBounds_toArray, List.set_cons_zero, List.set_cons_succ]
      refine wpAnyH_take (i := 17) (oi := ⟨some 83, _, _, _, _, _⟩) (v := ?_) rfl (by kernel_rfl) (by kernel_rfl) (by kernel_rfl) (fun _ _ _ h => h) (Or.inl ⟨by rfl, ?_⟩) (by assumption) ?_
      rotate_left
      · intro w hSw; (try dsimp only at hSw); go_simp; try with_reducible rfl
      simp only [Act.put, List.setIfInBounds_toArray, List.set_cons_zero, List.set_cons_succ]
      refine wpAnyH_ready (rs := [10]) (by kernel_rfl) (by simp) ?_
      refine AllReadyH.cons (o := ⟨some 76, _, _, _, _, _⟩) rfl (fun Kq hKq => ?_) AllReadyH.nil
      go_simp
      go_at_call 26
      refine (igof Z _).mono ?_
      rintro e v3 ⟨rfl, hg⟩
      clear t0 t1
      replace G := Lib.hid (gtr G.out hg)
      replace T := Lib.hid (T.out.kept hg)
      replace C := Lib.hid (gtr C.out hg)
      clear hg
      obtain ⟨_, t0, t1⟩ := T.out
      refine hKq.out _ _ (⟨T.out.c0, T.out.c1⟩) (fun hHeld => ?_)
      clear hKq Kq
      refine wpAnyH_ready (rs := [18]) (by kernel_rfl) (by simp) ?_
      refine AllReadyH.cons (o := ⟨some 84, _, _, _, _, _⟩) rfl (fun Kq hKq => ?_) AllReadyH.nil
      go_simp
      go_at_call 18
      refine (ihash _ R pub msg).mono ?_
      rintro e v4 ⟨rfl, hg⟩
      rw [HH.out]
      clear t0 t1
      replace G := Lib.hid (gtr G.out hg)
      replace T := Lib.hid (T.out.kept hg)
      replace C := Lib.hid (gtr C.out hg)
      clear hg
      obtain ⟨_, t0, t1⟩ := T.out
      refine hKq.out _ _ (⟨T.out.c0, T.out.c1⟩) (fun hHeld => ?_)
      clear hKq Kq
      refine wpAnyH_ready (rs := [19]) (by kernel_rfl) (by simp) ?_
      refine AllReadyH.cons (o := ⟨some 85, _, _, _, _, _⟩) rfl (fun Kq hKq => ?_) AllReadyH.nil
      go_simp
      go_at_call 32
      refine (igpow pub _ _).mono ?_
      rintro e v5 ⟨rfl, hg⟩
      rw [HQ.out]
      clear t0 t1
      replace G := Lib.hid (gtr G.out hg)
      replace T := Lib.hid (T.out.kept hg)
      replace C := Lib.hid (gtr C.out hg)
      clear hg
      obtain ⟨_, t0, t1⟩ := T.out
      refine hKq.out _ _ (⟨T.out.c0, T.out.c1⟩) (fun hHeld => ?_)
      clear hKq Kq
      refine wpAnyH_ready (rs := [20]) (by kernel_rfl) (by simp) ?_
      refine AllReadyH.cons (o := ⟨some 86, _, _, _, _, _⟩) rfl (fun Kq hKq => ?_) AllReadyH.nil
      go_simp
      go_at_call 31
      refine (igmul R _ _).mono ?_
      rintro e v6 ⟨rfl, hg⟩
      clear t0 t1
      replace G := Lib.hid (gtr G.out hg)
      replace T := Lib.hid (T.out.kept hg)
      replace C := Lib.hid (gtr C.out hg)
      clear hg
      obtain ⟨_, t0, t1⟩ := T.out
      refine hKq.out _ _ (⟨T.out.c0, T.out.c1⟩) (fun hHeld => ?_)
      clear hKq Kq
      refine wpAnyH_take (i := 21) (oi := ⟨some 87, _, _, _, _, _⟩) (v := ?_) rfl (by kernel_rfl) (by kernel_rfl) (by kernel_rfl) (fun _ _ _ h => h) (Or.inl ⟨by rfl, ?_⟩) (by assumption) ?_
      rotate_left
      · intro w hSw; (try dsimp only at hSw); go_simp; try with_reducible rfl
      simp only [Act.put, List.setIfInBounds_toArray, List.set_cons_zero, List.set_cons_succ]
      refine wpAnyH_take (i := 22) (oi := ⟨some 88, _, _, _, _, _⟩) (v := ?_) rfl (by kernel_rfl) (by kernel_rfl) (by kernel_rfl) (fun _ _ _ h => h) (Or.inl ⟨by rfl, ?_⟩) (by assumption) ?_
      rotate_left
      · intro w hSw; (try dsimp only at hSw); go_simp; try with_reducible rfl
      simp only [Act.put, List.setIfInBounds_toArray, List.set_cons_zero, List.set_cons_succ]
      refine wpAnyH_take (i := 23) (oi := ⟨some 89, _, _, _, _, _⟩) (v := ?_) rfl (by kernel_rfl) (by kernel_rfl) (by kernel_rfl) (fun _ _ _ h => h) (Or.inl ⟨by rfl, ?_⟩) (by assumption) ?_
      rotate_left
      · intro w hSw; (try dsimp only at hSw); go_simp; try with_reducible rfl
      simp only [Act.put, List.setIfInBounds_toArray, List.set_cons_zero, List.set_cons_succ]
      refine wpAnyH_take (i := 24) (oi := ⟨some 90, _, _, _, _, _⟩) (v := ?_) rfl (by kernel_rfl) (by kernel_rfl) (by kernel_rfl) (fun _ _ _ h => h) (Or.inl ⟨by rfl, ?_⟩) (by assumption) ?_
      rotate_left
      · intro w hSw; (try dsimp only at hSw); go_simp; try with_reducible rfl
      simp only [Act.put, List.setIfInBounds_toArray, List.set_cons_zero, List.set_cons_succ]
      refine wpAnyH_take (i := 25) (oi := ⟨some 2, _, _, _, _, _⟩) (v := ?_) rfl (by kernel_rfl) (by kernel_rfl) (by kernel_rfl) (fun _ _ _ h => h) (Or.inl ⟨by rfl, ?_⟩) (by assumption) ?_
      rotate_left
      · intro w hSw; (try dsimp only at hSw); go_simp; try with_reducible rfl
      simp only [Act.put, List.setIfInBounds_toArray, List.set_cons_zero, List.set_cons_succ]
      refine wpAnyH_done (by kernel_rfl) ?_ _
      go_wp2
      go_ret
      exact ⟨by first | rfl | simp, Draw.below_of G.out⟩
end Run
end Go.Proofs.Ytpeofoabhjebbaa
