/-
  The walks of the laws on two signatures with one drawn number, and on a signature that is spoilt.
-/
import Derived.Test.YtpeofoabhjebbaaRunGb
namespace Go.Proofs.Ytpeofoabhjebbaa
namespace Run
open Go.RowKit Alg Mem Con Mp Draw
set_option linter.unusedVariables false


set_option maxRecDepth 100000 in
set_option maxHeartbeats 4000000 in
theorem FnSigTwo (a : Option Addr) (len cap : Nat) (a1 : Option Addr) (len1 cap1 : Nat) (w : World) (hB : Draw.Bytes w w.heap.size a len) (hc : len ≤ cap) (hm : cap ≤ maxLen) (hc1 : len1 ≤ cap1) (hm1 : cap1 ≤ maxLen) :
    Calls Try.prog 6 #[.slice a len cap, .slice a1 len1 cap1] w (Yes w) := by
  have HM := hm; unfold maxLen at HM
  have HM1 := hm1; unfold maxLen at HM1
  by_cases hL : (1048576 : Int) < (len : Int)
  · have HB := Lib.hid hB; clear hB
    go_enter Try.func6, Try.ntmps6
    go_wp2
    go_ret
    exact ⟨rfl, Below.refl _ _⟩
  by_cases hL1 : (1048576 : Int) < (len1 : Int)
  · have HB := Lib.hid hB; clear hB
    have hL0 : ¬ (1048576 : Int) < (len : Int) := hL
    go_enter Try.func6, Try.ntmps6
    go_wp2
    go_ret
    exact ⟨rfl, Below.refl _ _⟩
  have hL0 : ¬ (1048576 : Int) < (len : Int) := hL
  clear HM HM1
  go_enter Try.func6, Try.ntmps6
  go_wp2_with fail
  refine (drawSA _ a len cap hB hc hm).mono ?_
  rintro e w1 ⟨secret, drawn, msg, rfl, hg⟩
  have G := Lib.hid hg
  clear hg hB
  go_wp2_with fail
  refine (ssalone _ secret msg drawn).mono ?_
  rintro e w2 ⟨rfl, hg⟩
  replace G := Lib.hid (gtr G.out hg)
  clear hg
  unfold saV
  have hg := Draw.grown_alloc w2 (.cells #[.int .i64 (saR' secret msg drawn), .int .i64 (saZ' secret msg drawn)] 29) none
  have Z := Lib.hid (Blk.new w2 #[.int .i64 (saR' secret msg drawn), .int .i64 (saZ' secret msg drawn)] 29)
  replace G := Lib.hid (gtr G.out hg)
  clear hg
  have hlZ := Z.out.lt
  go_wp2_with fail
  refine (isalone _ secret msg drawn).mono ?_
  rintro e w3 ⟨rfl, hg⟩
  unfold saV
  clear hlZ
  replace G := Lib.hid (gtr G.out hg)
  replace Z := Lib.hid (Z.out.keptN hg)
  clear hg
  have hg := Draw.grown_alloc w3 (.cells #[.int .i64 (saR' secret msg drawn), .int .i64 (saZ' secret msg drawn)] 29) none
  have Q := Lib.hid (Blk.new w3 #[.int .i64 (saR' secret msg drawn), .int .i64 (saZ' secret msg drawn)] 29)
  replace G := Lib.hid (gtr G.out hg)
  replace Z := Lib.hid (Z.out.keptN hg)
  clear hg
  generalize hvR : saR' secret msg drawn = vR at *
  generalize hvZ : saZ' secret msg drawn = vZ at *
  have z0 : World.cell? _ ⟨w2.heap.size, 0, none⟩ = some (.int .i64 vR) := Z.out.cell 0
  have z1 : World.cell? _ ⟨w2.heap.size, 1, none⟩ = some (.int .i64 vZ) := Z.out.cell 1
  have q0 : World.cell? _ ⟨w3.heap.size, 0, none⟩ = some (.int .i64 vR) := Q.out.cell 0
  have q1 : World.cell? _ ⟨w3.heap.size, 1, none⟩ = some (.int .i64 vZ) := Q.out.cell 1
  have hlZ := Z.out.lt; have hlQ := Q.out.lt
  cases hok : saOk secret msg drawn with
  | false =>
    go_wp2
    go_ret
    exact ⟨rfl, Draw.below_of G.out⟩
  | true =>
    obtain ⟨hs, hd, hms⟩ := saOk_iff.1 hok
    rw [saR_yes hok] at hvR
    rw [saZ_yes hok] at hvZ
    subst hvR
    have HZ := Lib.hid hvZ; clear hvZ hok
    obtain ⟨o, ho⟩ : ∃ o : Int, o = (len1 : Int) % 100 := ⟨_, rfl⟩
    have hmo : mok o = true := mok_iff.2 (by omega)
    have HO := Lib.hid (saOk_iff.2 ⟨hs, hd, hmo⟩)
    have HH1 := Lib.hid (hF_in (gof_ok hd) (gof_ok hs) hms)
    have HH2 := Lib.hid (hF_in (gof_ok hd) (gof_ok hs) hmo)
    have HS := Lib.hid hs; have HD := Lib.hid hd
    clear hs hd hms hmo
    go_wp2_with fail
    rw [← ho]
    refine (isalone _ secret o drawn).mono ?_
    rintro e w4 ⟨rfl, hg⟩
    rw [saV_yes HO.out]
    obtain ⟨tZ, htZ⟩ : ∃ q, q = saZ secret o drawn := ⟨_, rfl⟩
    rw [← htZ]
    have HT := Lib.hid htZ; clear htZ
    clear z0 z1 q0 q1 hlZ hlQ ho
    clear Z
    replace G := Lib.hid (gtr G.out hg)
    replace Q := Lib.hid (Q.out.keptN hg)
    clear hg
    have hg := Draw.grown_alloc w4 (.cells #[.int .i64 (gofF drawn), .int .i64 tZ] 29) none
    have T := Lib.hid (Blk.new w4 #[.int .i64 (gofF drawn), .int .i64 tZ] 29)
    replace G := Lib.hid (gtr G.out hg)
    replace Q := Lib.hid (Q.out.keptN hg)
    clear hg
    have hlQ := Q.out.lt; have hlT := T.out.lt
    go_wp2_with fail
    refine (igof secret _).mono ?_
    rintro e w5 ⟨rfl, hg⟩
    replace G := Lib.hid (gtr G.out hg)
    replace Q := Lib.hid (Q.out.keptN hg)
    replace T := Lib.hid (T.out.keptN hg)
    clear hg
    clear hlQ hlT
    go_wp2_with fail
    refine wp_region_held_drew (S := (fun w' => w'.cell? ⟨w3.heap.size, 0, none⟩ = some (.int .i64 (gofF drawn)) ∧ w'.cell? ⟨w4.heap.size, 0, none⟩ = some (.int .i64 (gofF drawn)))) (by kernel_rfl) (⟨Q.out.cell 0, T.out.cell 0⟩) (fun hHeld => ?_)
    have hg := Draw.gdrew w5
    replace G := Lib.hid (gtr G.out hg)
    replace Q := Lib.hid (Q.out.keptN hg)
    replace T := Lib.hid (T.out.keptN hg)
    clear hg
    generalize w5.drew = V at *
    refine wpAnyH_take (i := 0) (oi := ⟨some 79, _, _, _, _, _⟩) (v := ?_) rfl (by kernel_rfl) (by kernel_rfl) (by kernel_rfl) (fun _ _ _ h => h) (Or.inl ⟨by rfl, ?_⟩) (by assumption) ?_
    rotate_left
    · intro w hSw; (try dsimp only at hSw); go_simp; try with_reducible rfl
    simp only [Act.put, List.setIfInBounds_toArray, List.set_cons_zero, List.set_cons_succ]
    refine wpAnyH_take (i := 1) (oi := ⟨some 80, _, _, _, _, _⟩) (v := ?_) rfl (by kernel_rfl) (by kernel_rfl) (by kernel_rfl) (fun _ _ _ h => h) (Or.inl ⟨by rfl, ?_⟩) (by assumption) ?_
    rotate_left
    · intro w hSw; (try dsimp only at hSw); go_simp; try with_reducible rfl
    simp only [Act.put, List.setIfInBounds_toArray, List.set_cons_zero, List.set_cons_succ]
    refine wpAnyH_take (i := 2) (oi := ⟨some 81, _, _, _, _, _⟩) (v := ?_) rfl (by kernel_rfl) (by kernel_rfl) (by kernel_rfl) (fun _ _ _ h => h) (Or.inl ⟨by rfl, ?_⟩) (by assumption) ?_
    rotate_left
    · intro w hSw; (try dsimp only at hSw); go_simp; try with_reducible rfl
    simp only [Act.put, List.setIfInBounds_toArray, List.set_cons_zero, List.set_cons_succ]
    refine wpAnyH_take (i := 3) (oi := ⟨some 82, _, _, _, _, _⟩) (v := ?_) rfl (by kernel_rfl) (by kernel_rfl) (by kernel_rfl) (fun _ _ _ h => h) (Or.inl ⟨by rfl, ?_⟩) (by assumption) ?_
    rotate_left
    · intro w hSw; (try dsimp only at hSw); go_simp; try with_reducible rfl
    simp only [Act.put, List.setIfInBounds_toArray, List.set_cons_zero, List.set_cons_succ]
    refine wpAnyH_take (i := 5) (oi := ⟨some 84, _, _, _, _, _⟩) (v := ?_) rfl (by kernel_rfl) (by kernel_rfl) (by kernel_rfl) (fun _ _ _ h => h) (Or.inl ⟨by rfl, ?_⟩) (by assumption) ?_
    rotate_left
    · intro w hSw; (try dsimp only at hSw); go_simp; try with_reducible rfl
    simp only [Act.put, List.setIfInBounds_toArray, List.set_cons_zero, List.set_cons_succ]
    refine wpAnyH_take (i := 6) (oi := ⟨some 85, _, _, _, _, _⟩) (v := ?_) rfl (by kernel_rfl) (by kernel_rfl) (by kernel_rfl) (fun _ _ _ h => h) (Or.inl ⟨by rfl, ?_⟩) (by assumption) ?_
    rotate_left
    · intro w hSw; (try dsimp only at hSw); go_simp; try with_reducible rfl
    simp only [Act.put, List.setIfInBounds_toArray, List.set_cons_zero, List.set_cons_succ]
    refine wpAnyH_take (i := 7) (oi := ⟨some 86, _, _, _, _, _⟩) (v := ?_) rfl (by kernel_rfl) (by kernel_rfl) (by kernel_rfl) (fun _ _ _ h => h) (Or.inl ⟨by rfl, ?_⟩) (by assumption) ?_
    rotate_left
    · intro w hSw; (try dsimp only at hSw); go_simp; try with_reducible rfl
    simp only [Act.put, List.setIfInBounds_toArray, List.set_cons_zero, List.set_cons_succ]
    refine wpAnyH_take (i := 8) (oi := ⟨some 87, _, _, _, _, _⟩) (v := ?_) rfl (by kernel_rfl) (by kernel_rfl) (by kernel_rfl) (fun _ _ _ h => h) (Or.inl ⟨by rfl, ?_⟩) (by assumption) ?_
    rotate_left
    · intro w hSw; (try dsimp only at hSw); go_simp; try with_reducible rfl
    simp only [Act.put, List.setIfInBounds_toArray, List.set_cons_zero, List.set_cons_succ]
    refine wpAnyH_ready (rs := [4]) (by kernel_rfl) (by simp) ?_
    refine AllReadyH.cons (o := ⟨some 83, _, _, _, _, _⟩) rfl (fun Kq hKq => ?_) AllReadyH.nil
    go_simp
    go_at_call 18
    refine (ihash _ (gofF drawn) (gofF secret) msg).mono ?_
    rintro e v1 ⟨rfl, hg⟩
    rw [HH1.out]
    replace G := Lib.hid (gtr G.out hg)
    replace Q := Lib.hid (Q.out.keptN hg)
    replace T := Lib.hid (T.out.keptN hg)
    clear hg
    refine hKq.out _ _ (⟨Q.out.cell 0, T.out.cell 0⟩) (fun hHeld => ?_)
    clear hKq Kq
    refine wpAnyH_ready (rs := [9]) (by kernel_rfl) (by simp) ?_
    refine AllReadyH.cons (o := ⟨some 88, _, _, _, _, _⟩) rfl (fun Kq hKq => ?_) AllReadyH.nil
    go_simp
    go_at_call 18
    refine (ihash _ (gofF drawn) (gofF secret) o).mono ?_
    rintro e v2 ⟨rfl, hg⟩
    rw [HH2.out]
    replace G := Lib.hid (gtr G.out hg)
    replace Q := Lib.hid (Q.out.keptN hg)
    replace T := Lib.hid (T.out.keptN hg)
    clear hg
    refine hKq.out _ _ (⟨Q.out.cell 0, T.out.cell 0⟩) (fun hHeld => ?_)
    clear hKq Kq
    refine wpAnyH_ready (rs := [10]) (by kernel_rfl) (by simp) ?_
    refine AllReadyH.cons (o := ⟨some 89, _, _, _, _, _⟩) rfl (fun Kq hKq => ?_) AllReadyH.nil
    go_simp
    go_at_call 33
    refine (idif _ _ _).mono ?_
    rintro e v3 ⟨rfl, rfl⟩
    refine hKq.out _ _ (⟨Q.out.cell 0, T.out.cell 0⟩) (fun hHeld => ?_)
    clear hKq Kq
    refine wpAnyH_take (i := 11) (oi := ⟨some 16, _, _, _, _, _⟩) (v := ?_) rfl (by kernel_rfl) (by kernel_rfl) (by kernel_rfl) (fun _ _ _ h => h) (Or.inl ⟨by rfl, ?_⟩) (by assumption) ?_
    rotate_left
    · intro w hSw; (try dsimp only at hSw); go_simp; try with_reducible rfl
    simp only [Act.put, List.setIfInBounds_toArray, List.set_cons_zero, List.set_cons_succ]
    refine wpAnyH_done (by kernel_rfl) ?_ _
    obtain ⟨h1, hh1⟩ : ∃ q, q = hz (gofF drawn) (gofF secret) msg := ⟨_, rfl⟩
    obtain ⟨h2, hh2⟩ : ∃ q, q = hz (gofF drawn) (gofF secret) o := ⟨_, rfl⟩
    have HV1 := Lib.hid (show vZ = sumF drawn (mulF h1 secret) by rw [← HZ.out, hh1]; rfl)
    have HV2 := Lib.hid (show tZ = sumF drawn (mulF h2 secret) by rw [HT.out, hh2]; rfl)
    have HF1 := Lib.hid (show fok h1 = true by rw [hh1]; exact hz_ok _ _ _)
    have HF2 := Lib.hid (show fok h2 = true by rw [hh2]; exact hz_ok _ _ _)
    rw [← hh1, ← hh2]
    clear hh1 hh2 HZ HT
    have q0 : World.cell? _ ⟨w3.heap.size, 0, none⟩ = some (.int .i64 (gofF drawn)) := Q.out.cell 0
    have q1 : World.cell? _ ⟨w3.heap.size, 1, none⟩ = some (.int .i64 vZ) := Q.out.cell 1
    have t0 : World.cell? _ ⟨w4.heap.size, 0, none⟩ = some (.int .i64 (gofF drawn)) := T.out.cell 0
    have t1 : World.cell? _ ⟨w4.heap.size, 1, none⟩ = some (.int .i64 tZ) := T.out.cell 1
    have hrr : (gofF drawn == gofF drawn) = true := by simp
    by_cases hcz : difF h1 h2 = 0
    · rw [hcz]
      go_wp2_with fail
      refine (iinv_no 0 _ (.inr rfl)).mono ?_
      rintro e w' ⟨rfl, rfl⟩
      go_wp2
      go_ret
      exact ⟨rfl, Draw.below_of G.out⟩
    · have HE := Lib.hid (show mulF (difF vZ tZ) (invF (difF h1 h2)) = secret by rw [HV1.out, HV2.out]; exact sa_two HS.out HD.out HF1.out HF2.out hcz)
      go_wp2_with fail
      refine (iinv_yes _ _ (difF_ok _ _) hcz).mono ?_
      rintro e w' ⟨rfl, rfl⟩
      generalize invF (difF h1 h2) = iv at *
      clear hcz
      go_wp2_with fail
      refine (idif vZ tZ _).mono ?_
      rintro e w' ⟨rfl, rfl⟩
      go_wp2_with fail
      refine (imul _ iv _).mono ?_
      rintro e w' ⟨rfl, rfl⟩
      rw [HE.out]
      go_wp2
      go_ret
      exact ⟨by first | rfl | simp, Draw.below_of G.out⟩

set_option maxRecDepth 100000 in
set_option maxHeartbeats 4000000 in
theorem FnSigSpoilt (a : Option Addr) (len cap : Nat) (a1 : Option Addr) (len1 cap1 : Nat) (w : World) (hB : Draw.Bytes w w.heap.size a len) (hc : len ≤ cap) (hm : cap ≤ maxLen) (hc1 : len1 ≤ cap1) (hm1 : cap1 ≤ maxLen) :
    Calls Try.prog 9 #[.slice a len cap, .slice a1 len1 cap1] w (Yes w) := by
  have HM := hm; unfold maxLen at HM
  have HM1 := hm1; unfold maxLen at HM1
  by_cases hL : (1048576 : Int) < (len : Int)
  · have HB := Lib.hid hB; clear hB
    go_enter Try.func9, Try.ntmps9
    go_wp2
    go_ret
    exact ⟨rfl, Below.refl _ _⟩
  by_cases hL1 : (1048576 : Int) < (len1 : Int)
  · have HB := Lib.hid hB; clear hB
    have hL0 : ¬ (1048576 : Int) < (len : Int) := hL
    go_enter Try.func9, Try.ntmps9
    go_wp2
    go_ret
    exact ⟨rfl, Below.refl _ _⟩
  have hL0 : ¬ (1048576 : Int) < (len : Int) := hL
  clear HM HM1
  go_enter Try.func9, Try.ntmps9
  go_wp2_with fail
  refine (drawSA _ a len cap hB hc hm).mono ?_
  rintro e w1 ⟨secret, drawn, msg, rfl, hg⟩
  have G := Lib.hid hg
  clear hg hB
  go_wp2_with fail
  refine (ssalone _ secret msg drawn).mono ?_
  rintro e w2 ⟨rfl, hg⟩
  replace G := Lib.hid (gtr G.out hg)
  clear hg
  unfold saV
  have hg := Draw.grown_alloc w2 (.cells #[.int .i64 (saR' secret msg drawn), .int .i64 (saZ' secret msg drawn)] 29) none
  have Z := Lib.hid (Blk.new w2 #[.int .i64 (saR' secret msg drawn), .int .i64 (saZ' secret msg drawn)] 29)
  replace G := Lib.hid (gtr G.out hg)
  clear hg
  have hlZ := Z.out.lt
  go_wp2_with fail
  refine (isalone _ secret msg drawn).mono ?_
  rintro e w3 ⟨rfl, hg⟩
  unfold saV
  clear hlZ
  replace G := Lib.hid (gtr G.out hg)
  replace Z := Lib.hid (Z.out.keptN hg)
  clear hg
  have hg := Draw.grown_alloc w3 (.cells #[.int .i64 (saR' secret msg drawn), .int .i64 (saZ' secret msg drawn)] 29) none
  have Q := Lib.hid (Blk.new w3 #[.int .i64 (saR' secret msg drawn), .int .i64 (saZ' secret msg drawn)] 29)
  replace G := Lib.hid (gtr G.out hg)
  replace Z := Lib.hid (Z.out.keptN hg)
  clear hg
  generalize hvR : saR' secret msg drawn = vR at *
  generalize hvZ : saZ' secret msg drawn = vZ at *
  have z0 : World.cell? _ ⟨w2.heap.size, 0, none⟩ = some (.int .i64 vR) := Z.out.cell 0
  have z1 : World.cell? _ ⟨w2.heap.size, 1, none⟩ = some (.int .i64 vZ) := Z.out.cell 1
  have q0 : World.cell? _ ⟨w3.heap.size, 0, none⟩ = some (.int .i64 vR) := Q.out.cell 0
  have q1 : World.cell? _ ⟨w3.heap.size, 1, none⟩ = some (.int .i64 vZ) := Q.out.cell 1
  have hlZ := Z.out.lt; have hlQ := Q.out.lt
  cases hok : saOk secret msg drawn with
  | false =>
    go_wp2
    go_ret
    exact ⟨rfl, Draw.below_of G.out⟩
  | true =>
    obtain ⟨hs, hd, hms⟩ := saOk_iff.1 hok
    rw [saR_yes hok] at hvR
    rw [saZ_yes hok] at hvZ
    subst hvR
    have HZ := Lib.hid hvZ; clear hvZ hok
    obtain ⟨o, ho⟩ : ∃ o : Int, o = (len1 : Int) % 100 := ⟨_, rfl⟩
    obtain ⟨d, hd9⟩ : ∃ d : Int, d = 1 + (len1 : Int) % 22 := ⟨_, rfl⟩
    have hd1 : 1 ≤ d := by omega
    have hd2 : d ≤ 22 := by omega
    have hmo : mok o = true := mok_iff.2 (by omega)
    have HH1 := Lib.hid (hF_in (gof_ok hd) (gof_ok hs) hms)
    have HH2 := Lib.hid (hF_in (gof_ok hd) (gof_ok hs) hmo)
    have HB9 := Lib.hid (show sgF (gofF secret) msg (gofF drawn) (sumF vZ d) = false by rw [← HZ.out]; exact sa_spoilt hs hd hms (fok_mk (by omega) (by omega)) (by omega))
    have HO9 := Lib.hid (show sgF (gofF secret) o (gofF drawn) vZ = (secret == 0 || hz (gofF drawn) (gofF secret) o == hz (gofF drawn) (gofF secret) msg) by rw [← HZ.out]; exact sa_other hs hd hms hmo)
    have HDD := Lib.hid (show IntKind.i64.wrap (1 + (len1 : Int).tmod 22) = d by rw [Int.tmod_eq_emod_of_nonneg (by omega), IntWalk.i64_in _ (by omega), hd9])
    clear hs hd hms hmo
    go_wp2_with fail
    refine (igof secret _).mono ?_
    rintro e w5 ⟨rfl, hg⟩
    replace G := Lib.hid (gtr G.out hg)
    replace Z := Lib.hid (Z.out.keptN hg)
    replace Q := Lib.hid (Q.out.keptN hg)
    clear hg
    clear Z
    clear z0 z1 q0 q1 hlZ hlQ
    go_wp2_with fail
    refine wp_region_held_drew (S := (fun w' => w'.cell? ⟨w3.heap.size, 0, none⟩ = some (.int .i64 (gofF drawn)) ∧ w'.cell? ⟨w3.heap.size, 1, none⟩ = some (.int .i64 vZ))) (by kernel_rfl) (⟨Q.out.cell 0, Q.out.cell 1⟩) (fun hHeld => ?_)
    have hg := Draw.gdrew w5
    replace G := Lib.hid (gtr G.out hg)
    replace Q := Lib.hid (Q.out.keptN hg)
    clear hg
    generalize w5.drew = V at *
    refine wpAnyH_take (i := 0) (oi := ⟨some 66, _, _, _, _, _⟩) (v := ?_) rfl (by kernel_rfl) (by kernel_rfl) (by kernel_rfl) (fun _ _ _ h => h) (Or.inl ⟨by rfl, ?_⟩) (by assumption) ?_
    rotate_left
    · intro w hSw; (try dsimp only at hSw); go_simp; try with_reducible rfl
    simp only [Act.put, List.setIfInBounds_toArray, List.set_cons_zero, List.set_cons_succ]
    refine wpAnyH_take (i := 1) (oi := ⟨some 67, _, _, _, _, _⟩) (v := ?_) rfl (by kernel_rfl) (by kernel_rfl) (by kernel_rfl) (fun _ _ _ h => h) (Or.inl ⟨by rfl, ?_⟩) (by assumption) ?_
    rotate_left
    · intro w hSw; (try dsimp only at hSw); go_simp; try with_reducible rfl
    simp only [Act.put, List.setIfInBounds_toArray, List.set_cons_zero, List.set_cons_succ]
    refine wpAnyH_take (i := 2) (oi := ⟨some 68, _, _, _, _, _⟩) (v := ?_) rfl (by kernel_rfl) (by kernel_rfl) (by kernel_rfl) (fun _ _ _ h => h) (Or.inl ⟨by rfl, ?_⟩) (by assumption) ?_
    rotate_left
    · intro w hSw; (try dsimp only at hSw); go_simp; try with_reducible rfl
    simp only [Act.put, List.setIfInBounds_toArray, List.set_cons_zero, List.set_cons_succ]
    refine wpAnyH_take (i := 3) (oi := ⟨some 69, _, _, _, _, _⟩) (v := ?_) rfl (by kernel_rfl) (by kernel_rfl) (by kernel_rfl) (fun _ _ _ h => h) (Or.inl ⟨by rfl, ?_⟩) (by assumption) ?_
    rotate_left
    · intro w hSw; (try dsimp only at hSw); go_simp; try with_reducible rfl
    simp only [Act.put, List.setIfInBounds_toArray, List.set_cons_zero, List.set_cons_succ]
    refine wpAnyH_take (i := 4) (oi := ⟨some 70, _, _, _, _, _⟩) (v := ?_) rfl (by kernel_rfl) (by kernel_rfl) (by kernel_rfl) (fun _ _ _ h => h) (Or.inl ⟨by rfl, ?_⟩) (by assumption) ?_
    rotate_left
    · intro w hSw; (try dsimp only at hSw); go_simp; try with_reducible rfl
    simp only [Act.put, List.setIfInBounds_toArray, List.set_cons_zero, List.set_cons_succ]
    refine wpAnyH_take (i := 5) (oi := ⟨some 71, _, _, _, _, _⟩) (v := ?_) rfl (by kernel_rfl) (by kernel_rfl) (by kernel_rfl) (fun _ _ _ h => h) (Or.inl ⟨by rfl, ?_⟩) (by assumption) ?_
    rotate_left
    · intro w hSw; (try dsimp only at hSw); go_simp; try with_reducible rfl
    simp only [Act.put, List.setIfInBounds_toArray, List.set_cons_zero, List.set_cons_succ]
    refine wpAnyH_take (i := 6) (oi := ⟨some 72, _, _, _, _, _⟩) (v := ?_) rfl (by kernel_rfl) (by kernel_rfl) (by kernel_rfl) (fun _ _ _ h => h) (Or.inl ⟨by rfl, ?_⟩) (by assumption) ?_
    rotate_left
    · intro w hSw; (try dsimp only at hSw); go_simp; try with_reducible rfl
    simp only [Act.put, List.setIfInBounds_toArray, List.set_cons_zero, List.set_cons_succ]
    refine wpAnyH_take (i := 7) (oi := ⟨some 73, _, _, _, _, _⟩) (v := ?_) rfl (by kernel_rfl) (by kernel_rfl) (by kernel_rfl) (fun _ _ _ h => h) (Or.inl ⟨by rfl, ?_⟩) (by assumption) ?_
    rotate_left
    · intro w hSw; (try dsimp only at hSw); go_simp; try with_reducible rfl
    simp only [Act.put, List.setIfInBounds_toArray, List.set_cons_zero, List.set_cons_succ]
    rw [HDD.out]
    clear hd9
    refine wpAnyH_ready (rs := [8, 10]) (by kernel_rfl) (by simp) ?_
    refine AllReadyH.cons (o := ⟨some 74, _, _, _, _, _⟩) rfl (fun Kq hKq => ?_) (AllReadyH.cons (o := ⟨some 13, _, _, _, _, _⟩) rfl (fun Kq hKq => ?_) AllReadyH.nil)
    · go_simp
      go_at_call 27
      refine (isum vZ d _).mono ?_
      rintro e v1 ⟨rfl, rfl⟩
      refine hKq.out _ _ (⟨Q.out.cell 0, Q.out.cell 1⟩) (fun hHeld => ?_)
      clear hKq Kq
      refine wpAnyH_take (i := 9) (oi := ⟨some 75, _, _, _, _, _⟩) (v := ?_) rfl (by kernel_rfl) (by kernel_rfl) (by kernel_rfl) (fun _ _ _ h => h) (Or.inl ⟨by rfl, ?_⟩) (by assumption) ?_
      rotate_left
      · intro w hSw; (try dsimp only at hSw); go_simp; try with_reducible rfl
      simp only [Act.put, List.setIfInBounds_toArray, List.set_cons_zero, List.set_cons_succ]
      refine wpAnyH_ready (rs := [10]) (by kernel_rfl) (by simp) ?_
      refine AllReadyH.cons (o := ⟨some 13, _, _, _, _, _⟩) rfl (fun Kq hKq => ?_) AllReadyH.nil
      go_simp
      refine at_alloc ?_
      intro Wa hg hT
      have hbq : w3.heap.size < (V).heap.size := Q.out.lt
      have hbg : w.heap.size ≤ (V).heap.size := G.out.size
      generalize (V).heap.size = bb at *
      have B := Lib.hid hT
      replace G := Lib.hid (gtr G.out hg)
      replace Q := Lib.hid (Q.out.keptN hg)
      clear hg
      clear hT
      refine hKq.out _ _ (⟨Q.out.cell 0, Q.out.cell 1⟩) (fun hHeld => ?_)
      clear hKq Kq
      refine wpAnyH_ready (rs := [11]) (by kernel_rfl) (by simp) ?_
      refine AllReadyH.cons (o := ⟨none, _, _, _, _, _⟩) rfl (fun Kq hKq => ?_) AllReadyH.nil
      rw [if_pos (by rfl)]
      refine wp_store_blk 29 (.tmp 13) (.tmp 75) _ _ _ 29 B.out rfl rfl rfl rfl (by kernel_rfl) (by simp [Value.oneCell']) rfl ?_
      intro V6 hg hT
      replace B := Lib.hid hT
      replace G := Lib.hid (grown_new G.out (by omega) hg)
      replace Q := Lib.hid (Q.out.kept hg (by intro e; have e := Option.some.inj e; omega))
      clear hg
      clear hT
      refine hKq.out _ _ (⟨Q.out.cell 0, Q.out.cell 1⟩) (fun hHeld => ?_)
      clear hKq Kq
      refine wpAnyH_done (by kernel_rfl) ?_ _
      go_wp2_with fail
      rw [← ho]
      clear hHeld ho
      by_cases hs0 : secret = 0
      · subst hs0
        have HO8 := Lib.hid (show sgF (gofF 0) o (gofF drawn) vZ = true by rw [HO9.out]; rfl)
        refine wp_region_held_drew (S := (fun w' => w'.cell? ⟨w3.heap.size, 0, none⟩ = some (.int .i64 (gofF drawn)) ∧ w'.cell? ⟨w3.heap.size, 1, none⟩ = some (.int .i64 vZ))) (by kernel_rfl) (⟨Q.out.cell 0, Q.out.cell 1⟩) (fun hHeld => ?_)
        have hg := Draw.gdrew V6
        replace G := Lib.hid (gtr G.out hg)
        replace Q := Lib.hid (Q.out.keptN hg)
        replace B := Lib.hid (B.out.keptN hg)
        clear hg
        generalize (V6).drew = V8 at *
        refine wpAnyH_take (i := 0) (oi := ⟨some 79, _, _, _, _, _⟩) (v := ?_) rfl (by kernel_rfl) (by kernel_rfl) (by kernel_rfl) (fun _ _ _ h => h) (Or.inl ⟨by rfl, ?_⟩) (by assumption) ?_
        rotate_left
        · intro w hSw; (try dsimp only at hSw); go_simp; try with_reducible rfl
        simp only [Act.put, List.setIfInBounds_toArray, List.set_cons_zero, List.set_cons_succ]
        refine wpAnyH_take (i := 1) (oi := ⟨some 80, _, _, _, _, _⟩) (v := ?_) rfl (by kernel_rfl) (by kernel_rfl) (by kernel_rfl) (fun _ _ _ h => h) (Or.inl ⟨by rfl, ?_⟩) (by assumption) ?_
        rotate_left
        · intro w hSw; (try dsimp only at hSw); go_simp; try with_reducible rfl
        simp only [Act.put, List.setIfInBounds_toArray, List.set_cons_zero, List.set_cons_succ]
        refine wpAnyH_take (i := 2) (oi := ⟨some 81, _, _, _, _, _⟩) (v := ?_) rfl (by kernel_rfl) (by kernel_rfl) (by kernel_rfl) (fun _ _ _ h => h) (Or.inl ⟨by rfl, ?_⟩) (by assumption) ?_
        rotate_left
        · intro w hSw; (try dsimp only at hSw); go_simp; try with_reducible rfl
        simp only [Act.put, List.setIfInBounds_toArray, List.set_cons_zero, List.set_cons_succ]
        refine wpAnyH_take (i := 3) (oi := ⟨some 82, _, _, _, _, _⟩) (v := undef) rfl (by kernel_rfl) (by kernel_rfl) (by kernel_rfl) (fun _ _ _ h => h) (Or.inr ⟨by rfl, rfl⟩) (by assumption) ?_
        simp only [Act.put, List.setIfInBounds_toArray, List.set_cons_zero, List.set_cons_succ]
        refine wpAnyH_take (i := 4) (oi := ⟨some 83, _, _, _, _, _⟩) (v := undef) rfl (by kernel_rfl) (by kernel_rfl) (by kernel_rfl) (fun _ _ _ h => h) (Or.inr ⟨by rfl, rfl⟩) (by assumption) ?_
        simp only [Act.put, List.setIfInBounds_toArray, List.set_cons_zero, List.set_cons_succ]
        refine wpAnyH_take (i := 5) (oi := ⟨some 84, _, _, _, _, _⟩) (v := undef) rfl (by kernel_rfl) (by kernel_rfl) (by kernel_rfl) (fun _ _ _ h => h) (Or.inr ⟨by rfl, rfl⟩) (by assumption) ?_
        simp only [Act.put, List.setIfInBounds_toArray, List.set_cons_zero, List.set_cons_succ]
        refine wpAnyH_take (i := 6) (oi := ⟨some 85, _, _, _, _, _⟩) (v := undef) rfl (by kernel_rfl) (by kernel_rfl) (by kernel_rfl) (fun _ _ _ h => h) (Or.inr ⟨by rfl, rfl⟩) (by assumption) ?_
        simp only [Act.put, List.setIfInBounds_toArray, List.set_cons_zero, List.set_cons_succ]
        refine wpAnyH_take (i := 7) (oi := ⟨some 86, _, _, _, _, _⟩) (v := undef) rfl (by kernel_rfl) (by kernel_rfl) (by kernel_rfl) (fun _ _ _ h => h) (Or.inr ⟨by rfl, rfl⟩) (by assumption) ?_
        simp only [Act.put, List.setIfInBounds_toArray, List.set_cons_zero, List.set_cons_succ]
        refine wpAnyH_take (i := 8) (oi := ⟨some 87, _, _, _, _, _⟩) (v := undef) rfl (by kernel_rfl) (by kernel_rfl) (by kernel_rfl) (fun _ _ _ h => h) (Or.inr ⟨by rfl, rfl⟩) (by assumption) ?_
        simp only [Act.put, List.setIfInBounds_toArray, List.set_cons_zero, List.set_cons_succ]
        refine wpAnyH_take (i := 9) (oi := ⟨some 88, _, _, _, _, _⟩) (v := undef) rfl (by kernel_rfl) (by kernel_rfl) (by kernel_rfl) (fun _ _ _ h => h) (Or.inr ⟨by rfl, rfl⟩) (by assumption) ?_
        simp only [Act.put, List.setIfInBounds_toArray, List.set_cons_zero, List.set_cons_succ]
        refine wpAnyH_take (i := 10) (oi := ⟨some 89, _, _, _, _, _⟩) (v := undef) rfl (by kernel_rfl) (by kernel_rfl) (by kernel_rfl) (fun _ _ _ h => h) (Or.inr ⟨by rfl, rfl⟩) (by assumption) ?_
        simp only [Act.put, List.setIfInBounds_toArray, List.set_cons_zero, List.set_cons_succ]
        refine wpAnyH_take (i := 11) (oi := ⟨some 90, _, _, _, _, _⟩) (v := undef) rfl (by kernel_rfl) (by kernel_rfl) (by kernel_rfl) (fun _ _ _ h => h) (Or.inr ⟨by rfl, rfl⟩) (by assumption) ?_
        simp only [Act.put, List.setIfInBounds_toArray, List.set_cons_zero, List.set_cons_succ]
        refine wpAnyH_take (i := 12) (oi := ⟨some 91, _, _, _, _, _⟩) (v := undef) rfl (by kernel_rfl) (by kernel_rfl) (by kernel_rfl) (fun _ _ _ h => h) (Or.inr ⟨by rfl, rfl⟩) (by assumption) ?_
        simp only [Act.put, List.setIfInBounds_toArray, List.set_cons_zero, List.set_cons_succ]
        refine wpAnyH_take (i := 13) (oi := ⟨some 92, _, _, _, _, _⟩) (v := undef) rfl (by kernel_rfl) (by kernel_rfl) (by kernel_rfl) (fun _ _ _ h => h) (Or.inr ⟨by rfl, rfl⟩) (by assumption) ?_
        simp only [Act.put, List.setIfInBounds_toArray, List.set_cons_zero, List.set_cons_succ]
        refine wpAnyH_take (i := 14) (oi := ⟨some 93, _, _, _, _, _⟩) (v := ?_) rfl (by kernel_rfl) (by kernel_rfl) (by kernel_rfl) (fun _ _ _ h => h) (Or.inl ⟨by rfl, ?_⟩) (by assumption) ?_
        rotate_left
        · intro w hSw; (try dsimp only at hSw); go_simp; try with_reducible rfl
        simp only [Act.put, List.setIfInBounds_toArray, List.set_cons_zero, List.set_cons_succ]
        refine wpAnyH_take (i := 15) (oi := ⟨some 15, _, _, _, _, _⟩) (v := ?_) rfl (by kernel_rfl) (by kernel_rfl) (by kernel_rfl) (fun _ _ _ h => h) (Or.inl ⟨by rfl, ?_⟩) (by assumption) ?_
        rotate_left
        · intro w hSw; (try dsimp only at hSw); go_simp; try with_reducible rfl
        simp only [Act.put, List.setIfInBounds_toArray, List.set_cons_zero, List.set_cons_succ]
        refine wpAnyH_done (by kernel_rfl) ?_ _
        have b0 : World.cell? _ ⟨bb, 0, none⟩ = some (.int .i64 (gofF drawn)) := B.out.cell 0
        have b1 : World.cell? _ ⟨bb, 1, none⟩ = some (.int .i64 (sumF vZ d)) := B.out.cell 1
        go_wp2_with fail
        refine (isigok _ (gofF 0) msg (gofF drawn) (sumF vZ d)).mono ?_
        rintro e w8 ⟨rfl, hg⟩
        replace G := Lib.hid (gtr G.out hg)
        replace Q := Lib.hid (Q.out.keptN hg)
        replace B := Lib.hid (B.out.keptN hg)
        clear hg
        rw [HB9.out]
        clear b0 b1
        have q0 : World.cell? _ ⟨w3.heap.size, 0, none⟩ = some (.int .i64 (gofF drawn)) := Q.out.cell 0
        have q1 : World.cell? _ ⟨w3.heap.size, 1, none⟩ = some (.int .i64 vZ) := Q.out.cell 1
        go_wp2_with fail
        refine (isigok _ (gofF 0) o (gofF drawn) vZ).mono ?_
        rintro e w9 ⟨rfl, hg⟩
        replace G := Lib.hid (gtr G.out hg)
        replace Q := Lib.hid (Q.out.keptN hg)
        replace B := Lib.hid (B.out.keptN hg)
        clear hg
        rw [HO8.out]
        go_wp2
        go_ret
        exact ⟨by first | rfl | simp, Draw.below_of G.out⟩
      · have hst : (secret == 0) = false := by simpa using hs0
        have HO8 := Lib.hid (show sgF (gofF secret) o (gofF drawn) vZ = (hz (gofF drawn) (gofF secret) o == hz (gofF drawn) (gofF secret) msg) by rw [HO9.out, hst]; rfl)
        clear hs0
        refine wp_region_held_drew (S := (fun w' => w'.cell? ⟨w3.heap.size, 0, none⟩ = some (.int .i64 (gofF drawn)) ∧ w'.cell? ⟨w3.heap.size, 1, none⟩ = some (.int .i64 vZ))) (by kernel_rfl) (⟨Q.out.cell 0, Q.out.cell 1⟩) (fun hHeld => ?_)
        have hg := Draw.gdrew V6
        replace G := Lib.hid (gtr G.out hg)
        replace Q := Lib.hid (Q.out.keptN hg)
        replace B := Lib.hid (B.out.keptN hg)
        clear hg
        generalize (V6).drew = V8 at *
        refine wpAnyH_take (i := 0) (oi := ⟨some 79, _, _, _, _, _⟩) (v := ?_) rfl (by kernel_rfl) (by kernel_rfl) (by kernel_rfl) (fun _ _ _ h => h) (Or.inl ⟨by rfl, ?_⟩) (by assumption) ?_
        rotate_left
        · intro w hSw; (try dsimp only at hSw); go_simp; try with_reducible rfl
        simp only [Act.put, List.setIfInBounds_toArray, List.set_cons_zero, List.set_cons_succ]
        refine wpAnyH_take (i := 1) (oi := ⟨some 80, _, _, _, _, _⟩) (v := ?_) rfl (by kernel_rfl) (by kernel_rfl) (by kernel_rfl) (fun _ _ _ h => h) (Or.inl ⟨by rfl, ?_⟩) (by assumption) ?_
        rotate_left
        · intro w hSw; (try dsimp only at hSw); go_simp; try with_reducible rfl
        simp only [Act.put, List.setIfInBounds_toArray, List.set_cons_zero, List.set_cons_succ]
        refine wpAnyH_take (i := 2) (oi := ⟨some 81, _, _, _, _, _⟩) (v := ?_) rfl (by kernel_rfl) (by kernel_rfl) (by kernel_rfl) (fun _ _ _ h => h) (Or.inl ⟨by rfl, ?_⟩) (by assumption) ?_
        rotate_left
        · intro w hSw; (try dsimp only at hSw); go_simp; try with_reducible rfl
        simp only [Act.put, List.setIfInBounds_toArray, List.set_cons_zero, List.set_cons_succ]
        refine wpAnyH_take (i := 3) (oi := ⟨some 82, _, _, _, _, _⟩) (v := ?_) rfl (by kernel_rfl) (by kernel_rfl) (by kernel_rfl) (fun _ _ _ h => h) (Or.inl ⟨by rfl, ?_⟩) (by assumption) ?_
        rotate_left
        · intro w hSw; (try dsimp only at hSw); go_simp; try with_reducible rfl
        simp only [Act.put, List.setIfInBounds_toArray, List.set_cons_zero, List.set_cons_succ]
        refine wpAnyH_take (i := 4) (oi := ⟨some 83, _, _, _, _, _⟩) (v := ?_) rfl (by kernel_rfl) (by kernel_rfl) (by kernel_rfl) (fun _ _ _ h => h) (Or.inl ⟨by rfl, ?_⟩) (by assumption) ?_
        rotate_left
        · intro w hSw; (try dsimp only at hSw); go_simp; try with_reducible rfl
        simp only [Act.put, List.setIfInBounds_toArray, List.set_cons_zero, List.set_cons_succ]
        refine wpAnyH_take (i := 5) (oi := ⟨some 84, _, _, _, _, _⟩) (v := ?_) rfl (by kernel_rfl) (by kernel_rfl) (by kernel_rfl) (fun _ _ _ h => h) (Or.inl ⟨by rfl, ?_⟩) (by assumption) ?_
        rotate_left
        · intro w hSw; (try dsimp only at hSw); go_simp; try with_reducible rfl
        simp only [Act.put, List.setIfInBounds_toArray, List.set_cons_zero, List.set_cons_succ]
        refine wpAnyH_take (i := 6) (oi := ⟨some 85, _, _, _, _, _⟩) (v := ?_) rfl (by kernel_rfl) (by kernel_rfl) (by kernel_rfl) (fun _ _ _ h => h) (Or.inl ⟨by rfl, ?_⟩) (by assumption) ?_
        rotate_left
        · intro w hSw; (try dsimp only at hSw); go_simp; try with_reducible rfl
        simp only [Act.put, List.setIfInBounds_toArray, List.set_cons_zero, List.set_cons_succ]
        refine wpAnyH_take (i := 8) (oi := ⟨some 87, _, _, _, _, _⟩) (v := ?_) rfl (by kernel_rfl) (by kernel_rfl) (by kernel_rfl) (fun _ _ _ h => h) (Or.inl ⟨by rfl, ?_⟩) (by assumption) ?_
        rotate_left
        · intro w hSw; (try dsimp only at hSw); go_simp; try with_reducible rfl
        simp only [Act.put, List.setIfInBounds_toArray, List.set_cons_zero, List.set_cons_succ]
        refine wpAnyH_take (i := 9) (oi := ⟨some 88, _, _, _, _, _⟩) (v := ?_) rfl (by kernel_rfl) (by kernel_rfl) (by kernel_rfl) (fun _ _ _ h => h) (Or.inl ⟨by rfl, ?_⟩) (by assumption) ?_
        rotate_left
        · intro w hSw; (try dsimp only at hSw); go_simp; try with_reducible rfl
        simp only [Act.put, List.setIfInBounds_toArray, List.set_cons_zero, List.set_cons_succ]
        refine wpAnyH_take (i := 10) (oi := ⟨some 89, _, _, _, _, _⟩) (v := ?_) rfl (by kernel_rfl) (by kernel_rfl) (by kernel_rfl) (fun _ _ _ h => h) (Or.inl ⟨by rfl, ?_⟩) (by assumption) ?_
        rotate_left
        · intro w hSw; (try dsimp only at hSw); go_simp; try with_reducible rfl
        simp only [Act.put, List.setIfInBounds_toArray, List.set_cons_zero, List.set_cons_succ]
        refine wpAnyH_take (i := 11) (oi := ⟨some 90, _, _, _, _, _⟩) (v := ?_) rfl (by kernel_rfl) (by kernel_rfl) (by kernel_rfl) (fun _ _ _ h => h) (Or.inl ⟨by rfl, ?_⟩) (by assumption) ?_
        rotate_left
        · intro w hSw; (try dsimp only at hSw); go_simp; try with_reducible rfl
        simp only [Act.put, List.setIfInBounds_toArray, List.set_cons_zero, List.set_cons_succ]
        refine wpAnyH_ready (rs := [7]) (by kernel_rfl) (by simp) ?_
        refine AllReadyH.cons (o := ⟨some 86, _, _, _, _, _⟩) rfl (fun Kq hKq => ?_) AllReadyH.nil
        go_simp
        go_at_call 18
        refine (ihash _ (gofF drawn) (gofF secret) o).mono ?_
        rintro e v2 ⟨rfl, hg⟩
        rw [HH2.out]
        replace G := Lib.hid (gtr G.out hg)
        replace Q := Lib.hid (Q.out.keptN hg)
        replace B := Lib.hid (B.out.keptN hg)
        clear hg
        refine hKq.out _ _ (⟨Q.out.cell 0, Q.out.cell 1⟩) (fun hHeld => ?_)
        clear hKq Kq
        refine wpAnyH_ready (rs := [12]) (by kernel_rfl) (by simp) ?_
        refine AllReadyH.cons (o := ⟨some 91, _, _, _, _, _⟩) rfl (fun Kq hKq => ?_) AllReadyH.nil
        go_simp
        go_at_call 18
        refine (ihash _ (gofF drawn) (gofF secret) msg).mono ?_
        rintro e v3 ⟨rfl, hg⟩
        rw [HH1.out]
        replace G := Lib.hid (gtr G.out hg)
        replace Q := Lib.hid (Q.out.keptN hg)
        replace B := Lib.hid (B.out.keptN hg)
        clear hg
        refine hKq.out _ _ (⟨Q.out.cell 0, Q.out.cell 1⟩) (fun hHeld => ?_)
        clear hKq Kq
        refine wpAnyH_take (i := 13) (oi := ⟨some 92, _, _, _, _, _⟩) (v := ?_) rfl (by kernel_rfl) (by kernel_rfl) (by kernel_rfl) (fun _ _ _ h => h) (Or.inl ⟨by rfl, ?_⟩) (by assumption) ?_
        rotate_left
        · intro w hSw; (try dsimp only at hSw); go_simp; try with_reducible rfl
        simp only [Act.put, List.setIfInBounds_toArray, List.set_cons_zero, List.set_cons_succ]
        refine wpAnyH_take (i := 14) (oi := ⟨some 93, _, _, _, _, _⟩) (v := ?_) rfl (by kernel_rfl) (by kernel_rfl) (by kernel_rfl) (fun _ _ _ h => h) (Or.inl ⟨by rfl, ?_⟩) (by assumption) ?_
        rotate_left
        · intro w hSw; (try dsimp only at hSw); go_simp; try with_reducible rfl
        simp only [Act.put, List.setIfInBounds_toArray, List.set_cons_zero, List.set_cons_succ]
        refine wpAnyH_take (i := 15) (oi := ⟨some 15, _, _, _, _, _⟩) (v := ?_) rfl (by kernel_rfl) (by kernel_rfl) (by kernel_rfl) (fun _ _ _ h => h) (Or.inl ⟨by rfl, ?_⟩) (by assumption) ?_
        rotate_left
        · intro w hSw; (try dsimp only at hSw); go_simp; try with_reducible rfl
        simp only [Act.put, List.setIfInBounds_toArray, List.set_cons_zero, List.set_cons_succ]
        refine wpAnyH_done (by kernel_rfl) ?_ _
        have b0 : World.cell? _ ⟨bb, 0, none⟩ = some (.int .i64 (gofF drawn)) := B.out.cell 0
        have b1 : World.cell? _ ⟨bb, 1, none⟩ = some (.int .i64 (sumF vZ d)) := B.out.cell 1
        go_wp2_with fail
        refine (isigok _ (gofF secret) msg (gofF drawn) (sumF vZ d)).mono ?_
        rintro e w8 ⟨rfl, hg⟩
        replace G := Lib.hid (gtr G.out hg)
        replace Q := Lib.hid (Q.out.keptN hg)
        replace B := Lib.hid (B.out.keptN hg)
        clear hg
        rw [HB9.out]
        clear b0 b1
        have q0 : World.cell? _ ⟨w3.heap.size, 0, none⟩ = some (.int .i64 (gofF drawn)) := Q.out.cell 0
        have q1 : World.cell? _ ⟨w3.heap.size, 1, none⟩ = some (.int .i64 vZ) := Q.out.cell 1
        go_wp2_with fail
        refine (isigok _ (gofF secret) o (gofF drawn) vZ).mono ?_
        rintro e w9 ⟨rfl, hg⟩
        replace G := Lib.hid (gtr G.out hg)
        replace Q := Lib.hid (Q.out.keptN hg)
        replace B := Lib.hid (B.out.keptN hg)
        clear hg
        rw [HO8.out]
        go_wp2
        go_ret
        exact ⟨by first | rfl | simp, Draw.below_of G.out⟩
    · go_simp
      refine at_alloc ?_
      intro Wa hg hT
      have hbq : w3.heap.size < (V).heap.size := Q.out.lt
      have hbg : w.heap.size ≤ (V).heap.size := G.out.size
      generalize (V).heap.size = bb at *
      have B := Lib.hid hT
      replace G := Lib.hid (gtr G.out hg)
      replace Q := Lib.hid (Q.out.keptN hg)
      clear hg
      clear hT
      refine hKq.out _ _ (⟨Q.out.cell 0, Q.out.cell 1⟩) (fun hHeld => ?_)
      clear hKq Kq
      refine wpAnyH_ready (rs := [8]) (by kernel_rfl) (by simp) ?_
      refine AllReadyH.cons (o := ⟨some 74, _, _, _, _, _⟩) rfl (fun Kq hKq => ?_) AllReadyH.nil
      go_simp
      go_at_call 27
      refine (isum vZ d _).mono ?_
      rintro e v1 ⟨rfl, rfl⟩
      refine hKq.out _ _ (⟨Q.out.cell 0, Q.out.cell 1⟩) (fun hHeld => ?_)
      clear hKq Kq
      refine wpAnyH_take (i := 9) (oi := ⟨some 75, _, _, _, _, _⟩) (v := ?_) rfl (by kernel_rfl) (by kernel_rfl) (by kernel_rfl) (fun _ _ _ h => h) (Or.inl ⟨by rfl, ?_⟩) (by assumption) ?_
      rotate_left
      · intro w hSw; (try dsimp only at hSw); go_simp; try with_reducible rfl
      simp only [Act.put, List.setIfInBounds_toArray, List.set_cons_zero, List.set_cons_succ]
      refine wpAnyH_ready (rs := [11]) (by kernel_rfl) (by simp) ?_
      refine AllReadyH.cons (o := ⟨none, _, _, _, _, _⟩) rfl (fun Kq hKq => ?_) AllReadyH.nil
      rw [if_pos (by rfl)]
      refine wp_store_blk 29 (.tmp 13) (.tmp 75) _ _ _ 29 B.out rfl rfl rfl rfl (by kernel_rfl) (by simp [Value.oneCell']) rfl ?_
      intro V6 hg hT
      replace B := Lib.hid hT
      replace G := Lib.hid (grown_new G.out (by omega) hg)
      replace Q := Lib.hid (Q.out.kept hg (by intro e; have e := Option.some.inj e; omega))
      clear hg
      clear hT
      refine hKq.out _ _ (⟨Q.out.cell 0, Q.out.cell 1⟩) (fun hHeld => ?_)
      clear hKq Kq
      refine wpAnyH_done (by kernel_rfl) ?_ _
      go_wp2_with fail
      rw [← ho]
      clear hHeld ho
      by_cases hs0 : secret = 0
      · subst hs0
        have HO8 := Lib.hid (show sgF (gofF 0) o (gofF drawn) vZ = true by rw [HO9.out]; rfl)
        refine wp_region_held_drew (S := (fun w' => w'.cell? ⟨w3.heap.size, 0, none⟩ = some (.int .i64 (gofF drawn)) ∧ w'.cell? ⟨w3.heap.size, 1, none⟩ = some (.int .i64 vZ))) (by kernel_rfl) (⟨Q.out.cell 0, Q.out.cell 1⟩) (fun hHeld => ?_)
        have hg := Draw.gdrew V6
        replace G := Lib.hid (gtr G.out hg)
        replace Q := Lib.hid (Q.out.keptN hg)
        replace B := Lib.hid (B.out.keptN hg)
        clear hg
        generalize (V6).drew = V8 at *
        refine wpAnyH_take (i := 0) (oi := ⟨some 79, _, _, _, _, _⟩) (v := ?_) rfl (by kernel_rfl) (by kernel_rfl) (by kernel_rfl) (fun _ _ _ h => h) (Or.inl ⟨by rfl, ?_⟩) (by assumption) ?_
        rotate_left
        · intro w hSw; (try dsimp only at hSw); go_simp; try with_reducible rfl
        simp only [Act.put, List.setIfInBounds_toArray, List.set_cons_zero, List.set_cons_succ]
        refine wpAnyH_take (i := 1) (oi := ⟨some 80, _, _, _, _, _⟩) (v := ?_) rfl (by kernel_rfl) (by kernel_rfl) (by kernel_rfl) (fun _ _ _ h => h) (Or.inl ⟨by rfl, ?_⟩) (by assumption) ?_
        rotate_left
        · intro w hSw; (try dsimp only at hSw); go_simp; try with_reducible rfl
        simp only [Act.put, List.setIfInBounds_toArray, List.set_cons_zero, List.set_cons_succ]
        refine wpAnyH_take (i := 2) (oi := ⟨some 81, _, _, _, _, _⟩) (v := ?_) rfl (by kernel_rfl) (by kernel_rfl) (by kernel_rfl) (fun _ _ _ h => h) (Or.inl ⟨by rfl, ?_⟩) (by assumption) ?_
        rotate_left
        · intro w hSw; (try dsimp only at hSw); go_simp; try with_reducible rfl
        simp only [Act.put, List.setIfInBounds_toArray, List.set_cons_zero, List.set_cons_succ]
        refine wpAnyH_take (i := 3) (oi := ⟨some 82, _, _, _, _, _⟩) (v := undef) rfl (by kernel_rfl) (by kernel_rfl) (by kernel_rfl) (fun _ _ _ h => h) (Or.inr ⟨by rfl, rfl⟩) (by assumption) ?_
        simp only [Act.put, List.setIfInBounds_toArray, List.set_cons_zero, List.set_cons_succ]
        refine wpAnyH_take (i := 4) (oi := ⟨some 83, _, _, _, _, _⟩) (v := undef) rfl (by kernel_rfl) (by kernel_rfl) (by kernel_rfl) (fun _ _ _ h => h) (Or.inr ⟨by rfl, rfl⟩) (by assumption) ?_
        simp only [Act.put, List.setIfInBounds_toArray, List.set_cons_zero, List.set_cons_succ]
        refine wpAnyH_take (i := 5) (oi := ⟨some 84, _, _, _, _, _⟩) (v := undef) rfl (by kernel_rfl) (by kernel_rfl) (by kernel_rfl) (fun _ _ _ h => h) (Or.inr ⟨by rfl, rfl⟩) (by assumption) ?_
        simp only [Act.put, List.setIfInBounds_toArray, List.set_cons_zero, List.set_cons_succ]
        refine wpAnyH_take (i := 6) (oi := ⟨some 85, _, _, _, _, _⟩) (v := undef) rfl (by kernel_rfl) (by kernel_rfl) (by kernel_rfl) (fun _ _ _ h => h) (Or.inr ⟨by rfl, rfl⟩) (by assumption) ?_
        simp only [Act.put, List.setIfInBounds_toArray, List.set_cons_zero, List.set_cons_succ]
        refine wpAnyH_take (i := 7) (oi := ⟨some 86, _, _, _, _, _⟩) (v := undef) rfl (by kernel_rfl) (by kernel_rfl) (by kernel_rfl) (fun _ _ _ h => h) (Or.inr ⟨by rfl, rfl⟩) (by assumption) ?_
        simp only [Act.put, List.setIfInBounds_toArray, List.set_cons_zero, List.set_cons_succ]
        refine wpAnyH_take (i := 8) (oi := ⟨some 87, _, _, _, _, _⟩) (v := undef) rfl (by kernel_rfl) (by kernel_rfl) (by kernel_rfl) (fun _ _ _ h => h) (Or.inr ⟨by rfl, rfl⟩) (by assumption) ?_
        simp only [Act.put, List.setIfInBounds_toArray, List.set_cons_zero, List.set_cons_succ]
        refine wpAnyH_take (i := 9) (oi := ⟨some 88, _, _, _, _, _⟩) (v := undef) rfl (by kernel_rfl) (by kernel_rfl) (by kernel_rfl) (fun _ _ _ h => h) (Or.inr ⟨by rfl, rfl⟩) (by assumption) ?_
        simp only [Act.put, List.setIfInBounds_toArray, List.set_cons_zero, List.set_cons_succ]
        refine wpAnyH_take (i := 10) (oi := ⟨some 89, _, _, _, _, _⟩) (v := undef) rfl (by kernel_rfl) (by kernel_rfl) (by kernel_rfl) (fun _ _ _ h => h) (Or.inr ⟨by rfl, rfl⟩) (by assumption) ?_
        simp only [Act.put, List.setIfInBounds_toArray, List.set_cons_zero, List.set_cons_succ]
        refine wpAnyH_take (i := 11) (oi := ⟨some 90, _, _, _, _, _⟩) (v := undef) rfl (by kernel_rfl) (by kernel_rfl) (by kernel_rfl) (fun _ _ _ h => h) (Or.inr ⟨by rfl, rfl⟩) (by assumption) ?_
        simp only [Act.put, List.setIfInBounds_toArray, List.set_cons_zero, List.set_cons_succ]
        refine wpAnyH_take (i := 12) (oi := ⟨some 91, _, _, _, _, _⟩) (v := undef) rfl (by kernel_rfl) (by kernel_rfl) (by kernel_rfl) (fun _ _ _ h => h) (Or.inr ⟨by rfl, rfl⟩) (by assumption) ?_
        simp only [Act.put, List.setIfInBounds_toArray, List.set_cons_zero, List.set_cons_succ]
        refine wpAnyH_take (i := 13) (oi := ⟨some 92, _, _, _, _, _⟩) (v := undef) rfl (by kernel_rfl) (by kernel_rfl) (by kernel_rfl) (fun _ _ _ h => h) (Or.inr ⟨by rfl, rfl⟩) (by assumption) ?_
        simp only [Act.put, List.setIfInBounds_toArray, List.set_cons_zero, List.set_cons_succ]
        refine wpAnyH_take (i := 14) (oi := ⟨some 93, _, _, _, _, _⟩) (v := ?_) rfl (by kernel_rfl) (by kernel_rfl) (by kernel_rfl) (fun _ _ _ h => h) (Or.inl ⟨by rfl, ?_⟩) (by assumption) ?_
        rotate_left
        · intro w hSw; (try dsimp only at hSw); go_simp; try with_reducible rfl
        simp only [Act.put, List.setIfInBounds_toArray, List.set_cons_zero, List.set_cons_succ]
        refine wpAnyH_take (i := 15) (oi := ⟨some 15, _, _, _, _, _⟩) (v := ?_) rfl (by kernel_rfl) (by kernel_rfl) (by kernel_rfl) (fun _ _ _ h => h) (Or.inl ⟨by rfl, ?_⟩) (by assumption) ?_
        rotate_left
        · intro w hSw; (try dsimp only at hSw); go_simp; try with_reducible rfl
        simp only [Act.put, List.setIfInBounds_toArray, List.set_cons_zero, List.set_cons_succ]
        refine wpAnyH_done (by kernel_rfl) ?_ _
        have b0 : World.cell? _ ⟨bb, 0, none⟩ = some (.int .i64 (gofF drawn)) := B.out.cell 0
        have b1 : World.cell? _ ⟨bb, 1, none⟩ = some (.int .i64 (sumF vZ d)) := B.out.cell 1
        go_wp2_with fail
        refine (isigok _ (gofF 0) msg (gofF drawn) (sumF vZ d)).mono ?_
        rintro e w8 ⟨rfl, hg⟩
        replace G := Lib.hid (gtr G.out hg)
        replace Q := Lib.hid (Q.out.keptN hg)
        replace B := Lib.hid (B.out.keptN hg)
        clear hg
        rw [HB9.out]
        clear b0 b1
        have q0 : World.cell? _ ⟨w3.heap.size, 0, none⟩ = some (.int .i64 (gofF drawn)) := Q.out.cell 0
        have q1 : World.cell? _ ⟨w3.heap.size, 1, none⟩ = some (.int .i64 vZ) := Q.out.cell 1
        go_wp2_with fail
        refine (isigok _ (gofF 0) o (gofF drawn) vZ).mono ?_
        rintro e w9 ⟨rfl, hg⟩
        replace G := Lib.hid (gtr G.out hg)
        replace Q := Lib.hid (Q.out.keptN hg)
        replace B := Lib.hid (B.out.keptN hg)
        clear hg
        rw [HO8.out]
        go_wp2
        go_ret
        exact ⟨by first | rfl | simp, Draw.below_of G.out⟩
      · have hst : (secret == 0) = false := by simpa using hs0
        have HO8 := Lib.hid (show sgF (gofF secret) o (gofF drawn) vZ = (hz (gofF drawn) (gofF secret) o == hz (gofF drawn) (gofF secret) msg) by rw [HO9.out, hst]; rfl)
        clear hs0
        refine wp_region_held_drew (S := (fun w' => w'.cell? ⟨w3.heap.size, 0, none⟩ = some (.int .i64 (gofF drawn)) ∧ w'.cell? ⟨w3.heap.size, 1, none⟩ = some (.int .i64 vZ))) (by kernel_rfl) (⟨Q.out.cell 0, Q.out.cell 1⟩) (fun hHeld => ?_)
        have hg := Draw.gdrew V6
        replace G := Lib.hid (gtr G.out hg)
        replace Q := Lib.hid (Q.out.keptN hg)
        replace B := Lib.hid (B.out.keptN hg)
        clear hg
        generalize (V6).drew = V8 at *
        refine wpAnyH_take (i := 0) (oi := ⟨some 79, _, _, _, _, _⟩) (v := ?_) rfl (by kernel_rfl) (by kernel_rfl) (by kernel_rfl) (fun _ _ _ h => h) (Or.inl ⟨by rfl, ?_⟩) (by assumption) ?_
        rotate_left
        · intro w hSw; (try dsimp only at hSw); go_simp; try with_reducible rfl
        simp only [Act.put, List.setIfInBounds_toArray, List.set_cons_zero, List.set_cons_succ]
        refine wpAnyH_take (i := 1) (oi := ⟨some 80, _, _, _, _, _⟩) (v := ?_) rfl (by kernel_rfl) (by kernel_rfl) (by kernel_rfl) (fun _ _ _ h => h) (Or.inl ⟨by rfl, ?_⟩) (by assumption) ?_
        rotate_left
        · intro w hSw; (try dsimp only at hSw); go_simp; try with_reducible rfl
        simp only [Act.put, List.setIfInBounds_toArray, List.set_cons_zero, List.set_cons_succ]
        refine wpAnyH_take (i := 2) (oi := ⟨some 81, _, _, _, _, _⟩) (v := ?_) rfl (by kernel_rfl) (by kernel_rfl) (by kernel_rfl) (fun _ _ _ h => h) (Or.inl ⟨by rfl, ?_⟩) (by assumption) ?_
        rotate_left
        · intro w hSw; (try dsimp only at hSw); go_simp; try with_reducible rfl
        simp only [Act.put, List.setIfInBounds_toArray, List.set_cons_zero, List.set_cons_succ]
        refine wpAnyH_take (i := 3) (oi := ⟨some 82, _, _, _, _, _⟩) (v := ?_) rfl (by kernel_rfl) (by kernel_rfl) (by kernel_rfl) (fun _ _ _ h => h) (Or.inl ⟨by rfl, ?_⟩) (by assumption) ?_
        rotate_left
        · intro w hSw; (try dsimp only at hSw); go_simp; try with_reducible rfl
        simp only [Act.put, List.setIfInBounds_toArray, List.set_cons_zero, List.set_cons_succ]
        refine wpAnyH_take (i := 4) (oi := ⟨some 83, _, _, _, _, _⟩) (v := ?_) rfl (by kernel_rfl) (by kernel_rfl) (by kernel_rfl) (fun _ _ _ h => h) (Or.inl ⟨by rfl, ?_⟩) (by assumption) ?_
        rotate_left
        · intro w hSw; (try dsimp only at hSw); go_simp; try with_reducible rfl
        simp only [Act.put, List.setIfInBounds_toArray, List.set_cons_zero, List.set_cons_succ]
        refine wpAnyH_take (i := 5) (oi := ⟨some 84, _, _, _, _, _⟩) (v := ?_) rfl (by kernel_rfl) (by kernel_rfl) (by kernel_rfl) (fun _ _ _ h => h) (Or.inl ⟨by rfl, ?_⟩) (by assumption) ?_
        rotate_left
        · intro w hSw; (try dsimp only at hSw); go_simp; try with_reducible rfl
        simp only [Act.put, List.setIfInBounds_toArray, List.set_cons_zero, List.set_cons_succ]
        refine wpAnyH_take (i := 6) (oi := ⟨some 85, _, _, _, _, _⟩) (v := ?_) rfl (by kernel_rfl) (by kernel_rfl) (by kernel_rfl) (fun _ _ _ h => h) (Or.inl ⟨by rfl, ?_⟩) (by assumption) ?_
        rotate_left
        · intro w hSw; (try dsimp only at hSw); go_simp; try with_reducible rfl
        simp only [Act.put, List.setIfInBounds_toArray, List.set_cons_zero, List.set_cons_succ]
        refine wpAnyH_take (i := 8) (oi := ⟨some 87, _, _, _, _, _⟩) (v := ?_) rfl (by kernel_rfl) (by kernel_rfl) (by kernel_rfl) (fun _ _ _ h => h) (Or.inl ⟨by rfl, ?_⟩) (by assumption) ?_
        rotate_left
        · intro w hSw; (try dsimp only at hSw); go_simp; try with_reducible rfl
        simp only [Act.put, List.setIfInBounds_toArray, List.set_cons_zero, List.set_cons_succ]
        refine wpAnyH_take (i := 9) (oi := ⟨some 88, _, _, _, _, _⟩) (v := ?_) rfl (by kernel_rfl) (by kernel_rfl) (by kernel_rfl) (fun _ _ _ h => h) (Or.inl ⟨by rfl, ?_⟩) (by assumption) ?_
        rotate_left
        · intro w hSw; (try dsimp only at hSw); go_simp; try with_reducible rfl
        simp only [Act.put, List.setIfInBounds_toArray, List.set_cons_zero, List.set_cons_succ]
        refine wpAnyH_take (i := 10) (oi := ⟨some 89, _, _, _, _, _⟩) (v := ?_) rfl (by kernel_rfl) (by kernel_rfl) (by kernel_rfl) (fun _ _ _ h => h) (Or.inl ⟨by rfl, ?_⟩) (by assumption) ?_
        rotate_left
        · intro w hSw; (try dsimp only at hSw); go_simp; try with_reducible rfl
        simp only [Act.put, List.setIfInBounds_toArray, List.set_cons_zero, List.set_cons_succ]
        refine wpAnyH_take (i := 11) (oi := ⟨some 90, _, _, _, _, _⟩) (v := ?_) rfl (by kernel_rfl) (by kernel_rfl) (by kernel_rfl) (fun _ _ _ h => h) (Or.inl ⟨by rfl, ?_⟩) (by assumption) ?_
        rotate_left
        · intro w hSw; (try dsimp only at hSw); go_simp; try with_reducible rfl
        simp only [Act.put, List.setIfInBounds_toArray, List.set_cons_zero, List.set_cons_succ]
        refine wpAnyH_ready (rs := [7]) (by kernel_rfl) (by simp) ?_
        refine AllReadyH.cons (o := ⟨some 86, _, _, _, _, _⟩) rfl (fun Kq hKq => ?_) AllReadyH.nil
        go_simp
        go_at_call 18
        refine (ihash _ (gofF drawn) (gofF secret) o).mono ?_
        rintro e v2 ⟨rfl, hg⟩
        rw [HH2.out]
        replace G := Lib.hid (gtr G.out hg)
        replace Q := Lib.hid (Q.out.keptN hg)
        replace B := Lib.hid (B.out.keptN hg)
        clear hg
        refine hKq.out _ _ (⟨Q.out.cell 0, Q.out.cell 1⟩) (fun hHeld => ?_)
        clear hKq Kq
        refine wpAnyH_ready (rs := [12]) (by kernel_rfl) (by simp) ?_
        refine AllReadyH.cons (o := ⟨some 91, _, _, _, _, _⟩) rfl (fun Kq hKq => ?_) AllReadyH.nil
        go_simp
        go_at_call 18
        refine (ihash _ (gofF drawn) (gofF secret) msg).mono ?_
        rintro e v3 ⟨rfl, hg⟩
        rw [HH1.out]
        replace G := Lib.hid (gtr G.out hg)
        replace Q := Lib.hid (Q.out.keptN hg)
        replace B := Lib.hid (B.out.keptN hg)
        clear hg
        refine hKq.out _ _ (⟨Q.out.cell 0, Q.out.cell 1⟩) (fun hHeld => ?_)
        clear hKq Kq
        refine wpAnyH_take (i := 13) (oi := ⟨some 92, _, _, _, _, _⟩) (v := ?_) rfl (by kernel_rfl) (by kernel_rfl) (by kernel_rfl) (fun _ _ _ h => h) (Or.inl ⟨by rfl, ?_⟩) (by assumption) ?_
        rotate_left
        · intro w hSw; (try dsimp only at hSw); go_simp; try with_reducible rfl
        simp only [Act.put, List.setIfInBounds_toArray, List.set_cons_zero, List.set_cons_succ]
        refine wpAnyH_take (i := 14) (oi := ⟨some 93, _, _, _, _, _⟩) (v := ?_) rfl (by kernel_rfl) (by kernel_rfl) (by kernel_rfl) (fun _ _ _ h => h) (Or.inl ⟨by rfl, ?_⟩) (by assumption) ?_
        rotate_left
        · intro w hSw; (try dsimp only at hSw); go_simp; try with_reducible rfl
        simp only [Act.put, List.setIfInBounds_toArray, List.set_cons_zero, List.set_cons_succ]
        refine wpAnyH_take (i := 15) (oi := ⟨some 15, _, _, _, _, _⟩) (v := ?_) rfl (by kernel_rfl) (by kernel_rfl) (by kernel_rfl) (fun _ _ _ h => h) (Or.inl ⟨by rfl, ?_⟩) (by assumption) ?_
        rotate_left
        · intro w hSw; (try dsimp only at hSw); go_simp; try with_reducible rfl
        simp only [Act.put, List.setIfInBounds_toArray, List.set_cons_zero, List.set_cons_succ]
        refine wpAnyH_done (by kernel_rfl) ?_ _
        have b0 : World.cell? _ ⟨bb, 0, none⟩ = some (.int .i64 (gofF drawn)) := B.out.cell 0
        have b1 : World.cell? _ ⟨bb, 1, none⟩ = some (.int .i64 (sumF vZ d)) := B.out.cell 1
        go_wp2_with fail
        refine (isigok _ (gofF secret) msg (gofF drawn) (sumF vZ d)).mono ?_
        rintro e w8 ⟨rfl, hg⟩
        replace G := Lib.hid (gtr G.out hg)
        replace Q := Lib.hid (Q.out.keptN hg)
        replace B := Lib.hid (B.out.keptN hg)
        clear hg
        rw [HB9.out]
        clear b0 b1
        have q0 : World.cell? _ ⟨w3.heap.size, 0, none⟩ = some (.int .i64 (gofF drawn)) := Q.out.cell 0
        have q1 : World.cell? _ ⟨w3.heap.size, 1, none⟩ = some (.int .i64 vZ) := Q.out.cell 1
        go_wp2_with fail
        refine (isigok _ (gofF secret) o (gofF drawn) vZ).mono ?_
        rintro e w9 ⟨rfl, hg⟩
        replace G := Lib.hid (gtr G.out hg)
        replace Q := Lib.hid (Q.out.keptN hg)
        replace B := Lib.hid (B.out.keptN hg)
        clear hg
        rw [HO8.out]
        go_wp2
        go_ret
        exact ⟨by first | rfl | simp, Draw.below_of G.out⟩
end Run
end Go.Proofs.Ytpeofoabhjebbaa
