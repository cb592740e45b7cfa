/-
  The walks of the laws on what a message asks, and on who signs alone.
-/
import Derived.Test.YtpeofoabhjebbaaGf
import Derived.Test.YtpeofoabhjebbaaRunKi
namespace Go.Proofs.Ytpeofoabhjebbaa
namespace Run
open Go.RowKit Alg Mem Con Mp Draw
set_option linter.unusedVariables false

theorem FnHash (a : Option Addr) (len cap : Nat) (w : World) (hB : Draw.Bytes w w.heap.size a len) (hc : len ≤ cap) (hm : cap ≤ maxLen) :
    Calls Try.prog 3 #[.slice a len cap] w (Yes w) := by
  by_cases hbig : 1048576 < len
  · have hbig' : (1048576 : Int) < (len : Int) := by omega
    clear hB
    go_enter Try.func3, Try.ntmps3
    go_wp2
    go_ret
    exact ⟨rfl, Below.refl _ _⟩
  have hbig' : ¬ (1048576 : Int) < (len : Int) := by omega
  go_enter Try.func3, Try.ntmps3
  go_wp2_with fail
  refine (drawHash _ a len cap hB hc hm).mono ?_
  rintro e w1 ⟨r, pub, msg, rfl, hg⟩
  have G := Lib.hid hg
  clear hg hB
  go_wp2_with fail
  refine (ihash _ r pub msg).mono ?_
  rintro e w2 ⟨rfl, hg⟩
  replace G := Lib.hid (gtr G.out hg)
  clear hg
  go_wp2_with fail
  refine (shash _ r pub msg).mono ?_
  rintro e w' ⟨rfl, rfl⟩
  have hne : (hF r pub msg != hF r pub msg) = false := by simp
  rcases gokc r with h1 | h1
  case inr =>
    have h0 := hF_out (pub := pub) (msg := msg) (Or.inl h1)
    rw [h0] at hne ⊢
    go_wp2_with fail
    refine (igok_no _ _ h1).mono ?_
    rintro e w3 ⟨rfl, hg⟩
    replace G := Lib.hid (gtr G.out hg)
    clear hg
    go_wp2
    go_ret
    exact ⟨rfl, Draw.below_of G.out⟩
  rcases gokc pub with h2 | h2
  case inr =>
    have h0 := hF_out (r := r) (msg := msg) (Or.inr (Or.inl h2))
    rw [h0] at hne ⊢
    go_wp2_with fail
    refine (igok_yes _ _ h1).mono ?_
    rintro e w3 ⟨rfl, hg⟩
    replace G := Lib.hid (gtr G.out hg)
    clear hg
    go_wp2_with fail
    refine (igok_no _ _ h2).mono ?_
    rintro e w4 ⟨rfl, hg⟩
    replace G := Lib.hid (gtr G.out hg)
    clear hg
    go_wp2
    go_ret
    exact ⟨rfl, Draw.below_of G.out⟩
  go_wp2_with fail
  refine (igok_yes _ _ h1).mono ?_
  rintro e w3 ⟨rfl, hg⟩
  replace G := Lib.hid (gtr G.out hg)
  clear hg
  go_wp2_with fail
  refine (igok_yes _ _ h2).mono ?_
  rintro e w4 ⟨rfl, hg⟩
  replace G := Lib.hid (gtr G.out hg)
  clear hg
  by_cases m0 : msg < 0
  · have h0 := hF_out (r := r) (pub := pub) (Or.inr (Or.inr (mok_not.2 (by omega : ¬ (0 ≤ msg ∧ msg ≤ 99)))))
    rw [h0] at hne ⊢
    clear h1 h2
    go_wp2
    go_ret
    exact ⟨rfl, Draw.below_of G.out⟩
  by_cases m1 : 99 < msg
  · have h0 := hF_out (r := r) (pub := pub) (Or.inr (Or.inr (mok_not.2 (by omega : ¬ (0 ≤ msg ∧ msg ≤ 99)))))
    rw [h0] at hne ⊢
    clear h1 h2
    go_wp2
    go_ret
    exact ⟨rfl, Draw.below_of G.out⟩
  have h0 := hF_in h1 h2 (mok_iff.2 (by omega : 0 ≤ msg ∧ msg ≤ 99))
  have hok := hz_ok r pub msg
  rw [h0] at hne ⊢
  obtain ⟨r0, r1⟩ := gok_range h1
  obtain ⟨p0, p1⟩ := gok_range h2
  have hnn : 0 ≤ 5 * r + 7 * pub + 11 * msg + 3 := by omega
  have heq : (hz r pub msg == (5 * r + 7 * pub + 11 * msg + 3) % 23) = true := by unfold hz; simp
  clear h0 h1 h2
  go_wp2_with fail
  refine (iok_yes _ _ hok).mono ?_
  rintro e w' ⟨rfl, rfl⟩
  go_wp2
  go_ret
  exact ⟨rfl, Draw.below_of G.out⟩

set_option maxRecDepth 100000 in
set_option maxHeartbeats 4000000 in
theorem FnAlone (a : Option Addr) (len cap : Nat) (w : World) (hB : Draw.Bytes w w.heap.size a len) (hc : len ≤ cap) (hm : cap ≤ maxLen) :
    Calls Try.prog 4 #[.slice a len cap] w (Yes w) := by
  by_cases hbig : 1048576 < len
  · have hbig' : (1048576 : Int) < (len : Int) := by omega
    clear hB
    go_enter Try.func4, Try.ntmps4
    go_wp2
    go_ret
    exact ⟨rfl, Below.refl _ _⟩
  have hbig' : ¬ (1048576 : Int) < (len : Int) := by omega
  go_enter Try.func4, Try.ntmps4
  go_wp2_with fail
  refine (drawSA _ a len cap hB hc hm).mono ?_
  rintro e w1 ⟨secret, drawn, msg, rfl, hg⟩
  have G := Lib.hid hg
  clear hg hB
  go_wp2_with fail
  refine (ssalone _ secret msg drawn).mono ?_
  rintro e w2 ⟨rfl, hg⟩
  replace G := Lib.hid (gtr G.out hg)
  clear hg
  unfold saV
  have hg := Draw.grown_alloc w2 (.cells #[.int .i64 (saR' secret msg drawn), .int .i64 (saZ' secret msg drawn)] 29) none
  have Z := Lib.hid (Blk.new w2 #[.int .i64 (saR' secret msg drawn), .int .i64 (saZ' secret msg drawn)] 29)
  replace G := Lib.hid (gtr G.out hg)
  clear hg
  have hlZ := Z.out.lt
  go_wp2_with fail
  refine (isalone _ secret msg drawn).mono ?_
  rintro e w3 ⟨rfl, hg⟩
  unfold saV
  clear hlZ
  replace G := Lib.hid (gtr G.out hg)
  replace Z := Lib.hid (Z.out.keptN hg)
  clear hg
  have hg := Draw.grown_alloc w3 (.cells #[.int .i64 (saR' secret msg drawn), .int .i64 (saZ' secret msg drawn)] 29) none
  have Q := Lib.hid (Blk.new w3 #[.int .i64 (saR' secret msg drawn), .int .i64 (saZ' secret msg drawn)] 29)
  replace G := Lib.hid (gtr G.out hg)
  replace Z := Lib.hid (Z.out.keptN hg)
  clear hg
  generalize hvR : saR' secret msg drawn = vR at *
  generalize hvZ : saZ' secret msg drawn = vZ at *
  have z0 : World.cell? _ ⟨w2.heap.size, 0, none⟩ = some (.int .i64 vR) := Z.out.cell 0
  have z1 : World.cell? _ ⟨w2.heap.size, 1, none⟩ = some (.int .i64 vZ) := Z.out.cell 1
  have q0 : World.cell? _ ⟨w3.heap.size, 0, none⟩ = some (.int .i64 vR) := Q.out.cell 0
  have q1 : World.cell? _ ⟨w3.heap.size, 1, none⟩ = some (.int .i64 vZ) := Q.out.cell 1
  have hlZ := Z.out.lt; have hlQ := Q.out.lt
  cases hok : saOk secret msg drawn with
  | false =>
    go_wp2
    go_ret
    exact ⟨rfl, Draw.below_of G.out⟩
  | true =>
    obtain ⟨hs, hd, hms⟩ := saOk_iff.1 hok
    rw [saR_yes hok] at hvR
    rw [saZ_yes hok] at hvZ
    subst hvR
    have HZ := Lib.hid hvZ; clear hvZ hok
    have HR := Lib.hid (show sgF (gofF secret) msg (gofF drawn) vZ = true by rw [← HZ.out]; exact sa_right hs hd hms)
    have HH := Lib.hid (hF_in (gof_ok hd) (gof_ok hs) hms)
    have hfin : (vZ == sumF drawn (mulF (hz (gofF drawn) (gofF secret) msg) secret)) = true := by rw [← HZ.out]; simp [saZ]
    clear hs hd hms
    go_wp2_with fail
    clear z0 z1 q0 q1 hlZ hlQ
    refine wp_region_held_drew (S := (fun w' => w'.cell? ⟨w3.heap.size, 0, none⟩ = some (.int .i64 (gofF drawn)) ∧ w'.cell? ⟨w3.heap.size, 1, none⟩ = some (.int .i64 vZ))) (by kernel_rfl) (⟨Q.out.cell 0, Q.out.cell 1⟩) (fun hHeld => ?_)
    have hg := Draw.gdrew (w3.alloc (.cells #[.int .i64 (gofF drawn), .int .i64 vZ] 29))
    replace G := Lib.hid (gtr G.out hg)
    replace Z := Lib.hid (Z.out.keptN hg)
    replace Q := Lib.hid (Q.out.keptN hg)
    clear hg
    generalize ((w3.alloc (.cells #[.int .i64 (gofF drawn), .int .i64 vZ] 29))).drew = V at *
    refine wpAnyH_take (i := 0) (oi := ⟨some 53, _, _, _, _, _⟩) (v := ?_) rfl (by kernel_rfl) (by kernel_rfl) (by kernel_rfl) (fun _ _ _ h => h) (Or.inl ⟨by rfl, ?_⟩) (by assumption) ?_
    rotate_left
    · intro w hSw; (try dsimp only at hSw); go_simp; try with_reducible rfl
    simp only [Act.put, List.setIfInBounds_toArray, List.set_cons_zero, List.set_cons_succ]
    refine wpAnyH_take (i := 2) (oi := ⟨some 55, _, _, _, _, _⟩) (v := ?_) rfl (by kernel_rfl) (by kernel_rfl) (by kernel_rfl) (fun _ _ _ h => h) (Or.inl ⟨by rfl, ?_⟩) (by assumption) ?_
    rotate_left
    · intro w hSw; (try dsimp only at hSw); go_simp; try with_reducible rfl
    simp only [Act.put, List.setIfInBounds_toArray, List.set_cons_zero, List.set_cons_succ]
    refine wpAnyH_take (i := 3) (oi := ⟨some 56, _, _, _, _, _⟩) (v := ?_) rfl (by kernel_rfl) (by kernel_rfl) (by kernel_rfl) (fun _ _ _ h => h) (Or.inl ⟨by rfl, ?_⟩) (by assumption) ?_
    rotate_left
    · intro w hSw; (try dsimp only at hSw); go_simp; try with_reducible rfl
    simp only [Act.put, List.setIfInBounds_toArray, List.set_cons_zero, List.set_cons_succ]
    refine wpAnyH_ready (rs := [1]) (by kernel_rfl) (by simp) ?_
    refine AllReadyH.cons (o := ⟨some 54, _, _, _, _, _⟩) rfl (fun Kq hKq => ?_) AllReadyH.nil
    go_simp
    go_at_call 26
    refine (igof secret _).mono ?_
    rintro e v1 ⟨rfl, hg⟩
    replace G := Lib.hid (gtr G.out hg)
    replace Z := Lib.hid (Z.out.keptN hg)
    replace Q := Lib.hid (Q.out.keptN hg)
    clear hg
    refine hKq.out _ _ (⟨Q.out.cell 0, Q.out.cell 1⟩) (fun hHeld => ?_)
    clear hKq Kq
    refine wpAnyH_ready (rs := [4]) (by kernel_rfl) (by simp) ?_
    refine AllReadyH.cons (o := ⟨some 57, _, _, _, _, _⟩) rfl (fun Kq hKq => ?_) AllReadyH.nil
    go_simp
    go_at_call 25
    refine (isigok _ (gofF secret) msg (gofF drawn) vZ).mono ?_
    rintro e v2 ⟨rfl, hg⟩
    rw [HR.out]
    replace G := Lib.hid (gtr G.out hg)
    replace Z := Lib.hid (Z.out.keptN hg)
    replace Q := Lib.hid (Q.out.keptN hg)
    clear hg
    refine hKq.out _ _ (⟨Q.out.cell 0, Q.out.cell 1⟩) (fun hHeld => ?_)
    clear hKq Kq
    refine wpAnyH_take (i := 5) (oi := ⟨some 58, _, _, _, _, _⟩) (v := ?_) rfl (by kernel_rfl) (by kernel_rfl) (by kernel_rfl) (fun _ _ _ h => h) (Or.inl ⟨by rfl, ?_⟩) (by assumption) ?_
    rotate_left
    · intro w hSw; (try dsimp only at hSw); go_simp; try with_reducible rfl
    simp only [Act.put, List.setIfInBounds_toArray, List.set_cons_zero, List.set_cons_succ]
    refine wpAnyH_take (i := 6) (oi := ⟨some 59, _, _, _, _, _⟩) (v := ?_) rfl (by kernel_rfl) (by kernel_rfl) (by kernel_rfl) (fun _ _ _ h => h) (Or.inl ⟨by rfl, ?_⟩) (by assumption) ?_
    rotate_left
    · intro w hSw; (try dsimp only at hSw); go_simp; try with_reducible rfl
    simp only [Act.put, List.setIfInBounds_toArray, List.set_cons_zero, List.set_cons_succ]
    refine wpAnyH_take (i := 7) (oi := ⟨some 60, _, _, _, _, _⟩) (v := ?_) rfl (by kernel_rfl) (by kernel_rfl) (by kernel_rfl) (fun _ _ _ h => h) (Or.inl ⟨by rfl, ?_⟩) (by assumption) ?_
    rotate_left
    · intro w hSw; (try dsimp only at hSw); go_simp; try with_reducible rfl
    simp only [Act.put, List.setIfInBounds_toArray, List.set_cons_zero, List.set_cons_succ]
    refine wpAnyH_take (i := 8) (oi := ⟨some 61, _, _, _, _, _⟩) (v := ?_) rfl (by kernel_rfl) (by kernel_rfl) (by kernel_rfl) (fun _ _ _ h => h) (Or.inl ⟨by rfl, ?_⟩) (by assumption) ?_
    rotate_left
    · intro w hSw; (try dsimp only at hSw); go_simp; try with_reducible rfl
    simp only [Act.put, List.setIfInBounds_toArray, List.set_cons_zero, List.set_cons_succ]
    refine wpAnyH_ready (rs := [9]) (by kernel_rfl) (by simp) ?_
    refine AllReadyH.cons (o := ⟨some 62, _, _, _, _, _⟩) rfl (fun Kq hKq => ?_) AllReadyH.nil
    go_simp
    go_at_call 26
    refine (igof drawn _).mono ?_
    rintro e v3 ⟨rfl, hg⟩
    replace G := Lib.hid (gtr G.out hg)
    replace Z := Lib.hid (Z.out.keptN hg)
    replace Q := Lib.hid (Q.out.keptN hg)
    clear hg
    refine hKq.out _ _ (⟨Q.out.cell 0, Q.out.cell 1⟩) (fun hHeld => ?_)
    clear hKq Kq
    refine wpAnyH_take (i := 10) (oi := ⟨some 63, _, _, _, _, _⟩) (v := ?_) rfl (by kernel_rfl) (by kernel_rfl) (by kernel_rfl) (fun _ _ _ h => h) (Or.inl ⟨by rfl, ?_⟩) (by assumption) ?_
    rotate_left
    · intro w hSw; (try dsimp only at hSw); go_simp; try with_reducible rfl
    simp only [Act.put, List.setIfInBounds_toArray, List.set_cons_zero, List.set_cons_succ]
    refine wpAnyH_take (i := 11) (oi := ⟨some 64, _, _, _, _, _⟩) (v := ?_) rfl (by kernel_rfl) (by kernel_rfl) (by kernel_rfl) (fun _ _ _ h => h) (Or.inl ⟨by rfl, ?_⟩) (by assumption) ?_
    rotate_left
    · intro w hSw; (try dsimp only at hSw); go_simp; try with_reducible rfl
    simp only [Act.put, List.setIfInBounds_toArray, List.set_cons_zero, List.set_cons_succ]
    refine wpAnyH_take (i := 12) (oi := ⟨some 65, _, _, _, _, _⟩) (v := ?_) rfl (by kernel_rfl) (by kernel_rfl) (by kernel_rfl) (fun _ _ _ h => h) (Or.inl ⟨by rfl, ?_⟩) (by assumption) ?_
    rotate_left
    · intro w hSw; (try dsimp only at hSw); go_simp; try with_reducible rfl
    simp only [Act.put, List.setIfInBounds_toArray, List.set_cons_zero, List.set_cons_succ]
    refine wpAnyH_take (i := 13) (oi := ⟨some 66, _, _, _, _, _⟩) (v := ?_) rfl (by kernel_rfl) (by kernel_rfl) (by kernel_rfl) (fun _ _ _ h => h) (Or.inl ⟨by rfl, ?_⟩) (by assumption) ?_
    rotate_left
    · intro w hSw; (try dsimp only at hSw); go_simp; try with_reducible rfl
    simp only [Act.put, List.setIfInBounds_toArray, List.set_cons_zero, List.set_cons_succ]
    refine wpAnyH_take (i := 14) (oi := ⟨some 67, _, _, _, _, _⟩) (v := ?_) rfl (by kernel_rfl) (by kernel_rfl) (by kernel_rfl) (fun _ _ _ h => h) (Or.inl ⟨by rfl, ?_⟩) (by assumption) ?_
    rotate_left
    · intro w hSw; (try dsimp only at hSw); go_simp; try with_reducible rfl
    simp only [Act.put, List.setIfInBounds_toArray, List.set_cons_zero, List.set_cons_succ]
    refine wpAnyH_take (i := 15) (oi := ⟨some 68, _, _, _, _, _⟩) (v := ?_) rfl (by kernel_rfl) (by kernel_rfl) (by kernel_rfl) (fun _ _ _ h => h) (Or.inl ⟨by rfl, ?_⟩) (by assumption) ?_
    rotate_left
    · intro w hSw; (try dsimp only at hSw); go_simp; try with_reducible rfl
    simp only [Act.put, List.setIfInBounds_toArray, List.set_cons_zero, List.set_cons_succ]
    refine wpAnyH_take (i := 16) (oi := ⟨some 69, _, _, _, _, _⟩) (v := ?_) rfl (by kernel_rfl) (by kernel_rfl) (by kernel_rfl) (fun _ _ _ h => h) (Or.inl ⟨by rfl, ?_⟩) (by assumption) ?_
    rotate_left
    · intro w hSw; (try dsimp only at hSw); go_simp; try with_reducible rfl
    simp only [Act.put, List.setIfInBounds_toArray, List.set_cons_zero, List.set_cons_succ]
    refine wpAnyH_take (i := 17) (oi := ⟨some 70, _, _, _, _, _⟩) (v := ?_) rfl (by kernel_rfl) (by kernel_rfl) (by kernel_rfl) (fun _ _ _ h => h) (Or.inl ⟨by rfl, ?_⟩) (by assumption) ?_
    rotate_left
    · intro w hSw; (try dsimp only at hSw); go_simp; try with_reducible rfl
    simp only [Act.put, List.setIfInBounds_toArray, List.set_cons_zero, List.set_cons_succ]
    refine wpAnyH_take (i := 18) (oi := ⟨some 71, _, _, _, _, _⟩) (v := ?_) rfl (by kernel_rfl) (by kernel_rfl) (by kernel_rfl) (fun _ _ _ h => h) (Or.inl ⟨by rfl, ?_⟩) (by assumption) ?_
    rotate_left
    · intro w hSw; (try dsimp only at hSw); go_simp; try with_reducible rfl
    simp only [Act.put, List.setIfInBounds_toArray, List.set_cons_zero, List.set_cons_succ]
    refine wpAnyH_take (i := 20) (oi := ⟨some 73, _, _, _, _, _⟩) (v := ?_) rfl (by kernel_rfl) (by kernel_rfl) (by kernel_rfl) (fun _ _ _ h => h) (Or.inl ⟨by rfl, ?_⟩) (by assumption) ?_
    rotate_left
    · intro w hSw; (try dsimp only at hSw); go_simp; try with_reducible rfl
    simp only [Act.put, List.setIfInBounds_toArray, List.set_cons_zero, List.set_cons_succ]
    refine wpAnyH_take (i := 22) (oi := ⟨some 75, _, _, _, _, _⟩) (v := ?_) rfl (by kernel_rfl) (by kernel_rfl) (by kernel_rfl) (fun _ _ _ h => h) (Or.inl ⟨by rfl, ?_⟩) (by assumption) ?_
    rotate_left
    · intro w hSw; (try dsimp only at hSw); go_simp; try with_reducible rfl
    simp only [Act.put, List.setIfInBounds_toArray, List.set_cons_zero, List.set_cons_succ]
    refine wpAnyH_ready (rs := [19]) (by kernel_rfl) (by simp) ?_
    refine AllReadyH.cons (o := ⟨some 72, _, _, _, _, _⟩) rfl (fun Kq hKq => ?_) AllReadyH.nil
    go_simp
    go_at_call 26
    refine (igof secret _).mono ?_
    rintro e v4 ⟨rfl, hg⟩
    replace G := Lib.hid (gtr G.out hg)
    replace Z := Lib.hid (Z.out.keptN hg)
    replace Q := Lib.hid (Q.out.keptN hg)
    clear hg
    refine hKq.out _ _ (⟨Q.out.cell 0, Q.out.cell 1⟩) (fun hHeld => ?_)
    clear hKq Kq
    refine wpAnyH_ready (rs := [21]) (by kernel_rfl) (by simp) ?_
    refine AllReadyH.cons (o := ⟨some 74, _, _, _, _, _⟩) rfl (fun Kq hKq => ?_) AllReadyH.nil
    go_simp
    go_at_call 18
    refine (ihash _ (gofF drawn) (gofF secret) msg).mono ?_
    rintro e v5 ⟨rfl, hg⟩
    rw [HH.out]
    replace G := Lib.hid (gtr G.out hg)
    replace Z := Lib.hid (Z.out.keptN hg)
    replace Q := Lib.hid (Q.out.keptN hg)
    clear hg
    refine hKq.out _ _ (⟨Q.out.cell 0, Q.out.cell 1⟩) (fun hHeld => ?_)
    clear hKq Kq
    refine wpAnyH_ready (rs := [23]) (by kernel_rfl) (by simp) ?_
    refine AllReadyH.cons (o := ⟨some 76, _, _, _, _, _⟩) rfl (fun Kq hKq => ?_) AllReadyH.nil
    go_simp
    go_at_call 28
    refine (imul _ secret _).mono ?_
    rintro e v6 ⟨rfl, rfl⟩
    refine hKq.out _ _ (⟨Q.out.cell 0, Q.out.cell 1⟩) (fun hHeld => ?_)
    clear hKq Kq
    refine wpAnyH_ready (rs := [24]) (by kernel_rfl) (by simp) ?_
    refine AllReadyH.cons (o := ⟨some 77, _, _, _, _, _⟩) rfl (fun Kq hKq => ?_) AllReadyH.nil
    go_simp
    go_at_call 27
    refine (isum drawn _ _).mono ?_
    rintro e v7 ⟨rfl, rfl⟩
    refine hKq.out _ _ (⟨Q.out.cell 0, Q.out.cell 1⟩) (fun hHeld => ?_)
    clear hKq Kq
    refine wpAnyH_take (i := 25) (oi := ⟨some 78, _, _, _, _, _⟩) (v := ?_) rfl (by kernel_rfl) (by kernel_rfl) (by kernel_rfl) (fun _ _ _ h => h) (Or.inl ⟨by rfl, ?_⟩) (by assumption) ?_
    rotate_left
    · intro w hSw; (try dsimp only at hSw); go_simp; try with_reducible rfl
    simp only [Act.put, List.setIfInBounds_toArray, List.set_cons_zero, List.set_cons_succ]
    refine wpAnyH_take (i := 26) (oi := ⟨some 79, _, _, _, _, _⟩) (v := ?_) rfl (by kernel_rfl) (by kernel_rfl) (by kernel_rfl) (fun _ _ _ h => h) (Or.inl ⟨by rfl, ?_⟩) (by assumption) ?_
    rotate_left
    · intro w hSw; (try dsimp only at hSw); go_simp; try with_reducible rfl
    simp only [Act.put, List.setIfInBounds_toArray, List.set_cons_zero, List.set_cons_succ]
    refine wpAnyH_take (i := 27) (oi := ⟨some 2, _, _, _, _, _⟩) (v := ?_) rfl (by kernel_rfl) (by kernel_rfl) (by kernel_rfl) (fun _ _ _ h => h) (Or.inl ⟨by rfl, ?_⟩) (by assumption) ?_
    rotate_left
    · intro w hSw; (try dsimp only at hSw); go_simp; try with_reducible rfl
    simp only [Act.put, List.setIfInBounds_toArray, List.set_cons_zero, List.set_cons_succ]
    refine wpAnyH_done (by kernel_rfl) ?_ _
    go_wp2
    go_ret
    exact ⟨by first | rfl | rw [hfin], Draw.below_of G.out⟩
end Run
end Go.Proofs.Ytpeofoabhjebbaa
