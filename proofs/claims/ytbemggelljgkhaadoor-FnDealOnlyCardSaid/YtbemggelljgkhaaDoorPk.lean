/-
  The factors of places, the program's and the model's, at every argument.
-/
import Derived.Test.YtbemggelljgkhaaDoorPb
import Derived.Test.YtbemggelljgkhaaDoorPh
import Derived.Test.YtbemggelljgkhaaDoorPj
namespace Go.Proofs.YtbemggelljgkhaaDoor
namespace Con
open Go.RowKit Alg Mem Pol
set_option linter.unusedVariables false

theorem plok_apart {len : Nat} {z : Nat → Int} (h : plok len z = true) : ∀ i j, i < len → j < len → i ≠ j → z i ≠ z j := by
  have h2 := (plok_iff.1 h).2
  intro i j hi hj hij e
  rcases Nat.lt_or_gt_of_ne hij with h | h
  · exact hasz_no.1 (h2 j hj).2 i h e
  · exact hasz_no.1 (h2 i hi).2 j h e.symm
theorem mem_oth {z : Nat → Int} {i k : Nat} {x : F} (h : x ∈ oth z i k) : ∃ j, j < k ∧ j ≠ i ∧ x = cv (z j) := by
  induction k with
  | zero => cases h
  | succ k ih =>
    by_cases e : k = i
    · subst e; rw [oth_own] at h
      obtain ⟨j, hj, hne, hx⟩ := ih h
      exact ⟨j, by omega, hne, hx⟩
    · rw [oth_next z e] at h
      rcases List.mem_append.1 h with h | h
      · obtain ⟨j, hj, hne, hx⟩ := ih h
        exact ⟨j, by omega, hne, hx⟩
      · exact ⟨k, by omega, e, by simpa using h⟩
theorem prd_own_ne {len : Nat} {z : Nat → Int} (h : plok len z = true) {i : Nat} (hi : i < len) : prd ((fl z len).eraseIdx i) (cv (z i)) ≠ 0 := by
  rw [← oth_erase z i len hi]
  apply prd_ne
  intro hm
  obtain ⟨j, hj, hne, hx⟩ := mem_oth hm
  have h2 := (plok_iff.1 h).2
  exact plok_apart h i j hi hj (fun e => hne e.symm) ((cv_inj (h2 i hi).1 (h2 j hj).1).1 hx)
theorem fl_nodup {len : Nat} {z : Nat → Int} (h : plok len z = true) : (fl z len).Nodup := by
  have h2 := (plok_iff.1 h).2
  rw [List.nodup_iff_pairwise_ne, List.pairwise_iff_getElem]
  intro i j hi hj hij
  rw [fl_length] at hi hj
  rw [fl_get z hi, fl_get z hj]
  intro e
  exact plok_apart h i j hi hj (by omega) ((cv_inj (h2 i hi).1 (h2 j hj).1).1 e)

theorem ipline_no (w : World) (a : Option Addr) (len cap : Nat) (z : Nat → Int) (x : Int) (hI : Ints w a len z) (hl : len ≤ 2000000) (hc : len ≤ cap) (hm : cap ≤ maxLen) (h : plok len z = false ∨ fok x = false) :
    Calls Tryd.prog 14 #[.slice a len cap, .int .i64 x] w fun e w' => e = .returned (.slice none 0 0) ∧ w = w' := by
  have HI := Lib.hid hI; clear hI
  cases hp : plok len z with
  | false =>
    clear h
    go_enter Tryd.func14, Tryd.ntmps14
    go_wp2_with fail
    refine (iplok _ _ _ _ z HI.out (by omega) hc hm).mono ?_
    rintro e w1 ⟨rfl, rfl⟩
    go_wp2
    go_ret
    exact ⟨rfl, rfl⟩
  | true =>
    have hx : fok x = false := by rcases h with h | h; rw [hp] at h; cases h; exact h
    clear h
    go_enter Tryd.func14, Tryd.ntmps14
    go_wp2_with fail
    refine (iplok _ _ _ _ z HI.out (by omega) hc hm).mono ?_
    rintro e w1 ⟨rfl, rfl⟩
    go_wp2_with fail
    refine (iok_no _ _ hx).mono ?_
    rintro e w' ⟨rfl, rfl⟩
    go_wp2
    go_ret
    exact ⟨rfl, rfl⟩
theorem ipline_yes (w : World) (a : Option Addr) (len cap : Nat) (z : Nat → Int) (x : Int) (hI : Ints w a len z) (hc : len ≤ cap) (hm : cap ≤ maxLen) (hp : plok len z = true) (hx : fok x = true) :
    Calls Tryd.prog 14 #[.slice a len cap, .int .i64 x] w (NewRow 3 w len (zline len z x)) := by
  have HI := Lib.hid hI; clear hI
  have HP := Lib.hid hp; have HX := Lib.hid hx
  have hl := (plok_iff.1 hp).1
  have hmk := run_make_row' (P := Tryd.prog) 23 3 (.int .i64 0) 8 und_ints info_int rfl .i64 .i64 len (by omega) (by omega)
  go_enter Tryd.func14, Tryd.ntmps14
  go_wp2_with fail
  refine (iplok _ _ _ _ z HI.out (by omega) hc hm).mono ?_
  rintro e w1 ⟨rfl, rfl⟩
  go_wp2_with fail
  refine (iok_yes _ _ hx).mono ?_
  rintro e w' ⟨rfl, rfl⟩
  go_wp2_with fail
  refine (conv_ie _ _ _ _ z HI.out (by omega)).mono ?_
  rintro e w1 ⟨b1, rfl, hr, hg⟩
  have HR := Lib.hid hr; have HG1 := Lib.hid hg; clear hr hg
  clear hp hx
  go_wp2
  go_loopw [23] (fun i wr => ∃ k : Nat, k ≤ len ∧ i = .int .i64 k ∧ Row wr w1.heap.size 3 w1.heap.size len len (fun j => if j < k then zline len z x j else 0) ∧ w1.grownBy wr none) (fun i _ => len - (intOf i).toNat)
  case atStart => exact ⟨0, by omega, rfl, first_row w1 _ _ (by unfold maxLen; omega) _, Draw.grown_alloc _ _ _⟩
  case round =>
    clear hmk
    obtain ⟨k, hk, rfl, hr, hg⟩ := hrel
    have HG := Lib.hid hg; have HW := Lib.hid hr; clear hg hr
    by_cases hlt : k < len
    · go_wp2_with fail
      refine (lagr _ _ _ _ k z x (HR.out.ints.kept HG.out) (by omega) hlt (fun j hj => ((plok_iff.1 HP.out).2 j hj).1) HX.out (prd_own_ne HP.out hlt)).mono ?_
      rintro e w2 ⟨rfl, hg2⟩
      have HG2 := Lib.hid hg2; clear hg2
      have hr2 := HW.out.keptN HG2.out
      have c0 := zero_row hr2 hlt
      have f0 := hr2.frozen k
      have HS := Lib.hid (step_row hr2)
      clear hr2
      go_wp2
      go_roundw
      case rel => exact ⟨k + 1, by omega, by go_num, HS.out, grown_new (gtr HG.out HG2.out) (Nat.le_refl _) (grown_set _ _ _ _)⟩
      case measure => simp [intOf]; omega
    · obtain rfl : k = len := by omega
      have HF := Lib.hid (full_row HW.out)
      go_wp2
      go_ret
      exact ⟨_, rfl, HF.out.lower HG1.out.size, gtr HG1.out HG.out⟩
end Con
end Go.Proofs.YtbemggelljgkhaaDoor
