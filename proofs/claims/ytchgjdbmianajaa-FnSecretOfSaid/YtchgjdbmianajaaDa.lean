/-
  Which committees are valid; the polynomial of a deal: the program's and the model's functions, at every argument.
-/
import Derived.Test.YtchgjdbmianajaaPe
namespace Go.Proofs.Ytchgjdbmianajaa
namespace Con
open Go.RowKit Alg Mem
set_option linter.unusedVariables false

/-- Is the committee valid? -/
def crewF (n m : Int) : Bool := decide (1 ≤ n ∧ n ≤ m ∧ m ≤ 5)
theorem crew_iff {n m : Int} : crewF n m = true ↔ 1 ≤ n ∧ n ≤ m ∧ m ≤ 5 := by simp [crewF]
theorem crew_no {n m : Int} (h : ¬ (1 ≤ n ∧ n ≤ m ∧ m ≤ 5)) : crewF n m = false := decide_eq_false h

theorem s6in_yes (w : World) (n lo hi : Int) (h1 : lo ≤ n) (h2 : n ≤ hi) : Calls Try.prog 45 #[.int .i64 n, .int .i64 lo, .int .i64 hi] w fun e w' => e = .returned (.bool true) ∧ w = w' := by
  go_enter Try.func45, Try.ntmps45
  go_wp2
  go_ret
  exact ⟨rfl, rfl⟩
theorem s6in_no (w : World) (n lo hi : Int) (h : ¬ (lo ≤ n ∧ n ≤ hi)) : Calls Try.prog 45 #[.int .i64 n, .int .i64 lo, .int .i64 hi] w fun e w' => e = .returned (.bool false) ∧ w = w' := by
  by_cases h1 : lo ≤ n
  · have h2 : ¬ n ≤ hi := fun h2 => h ⟨h1, h2⟩
    clear h
    go_enter Try.func45, Try.ntmps45
    go_wp2
    go_ret
    exact ⟨rfl, rfl⟩
  · clear h
    go_enter Try.func45, Try.ntmps45
    go_wp2
    go_ret
    exact ⟨rfl, rfl⟩
theorem screw (w : World) (n m : Int) : Calls Try.prog 76 #[.int .i64 n, .int .i64 m] w fun e w' => e = .returned (.bool (crewF n m)) ∧ w = w' := by
  by_cases h1 : 1 ≤ m ∧ m ≤ 5
  · by_cases h2 : 1 ≤ n ∧ n ≤ m
    · have HR := Lib.hid (crew_iff.2 ⟨h2.1, h2.2, h1.2⟩)
      go_enter Try.func76, Try.ntmps76
      go_wp2_with fail
      refine (s6in_yes _ _ _ _ h1.1 h1.2).mono ?_
      rintro e w' ⟨rfl, rfl⟩
      go_wp2_with fail
      refine (s6in_yes _ _ _ _ h2.1 h2.2).mono ?_
      rintro e w' ⟨rfl, rfl⟩
      go_wp2
      go_ret
      exact ⟨ret_b HR.out.symm, rfl⟩
    · have HR := Lib.hid (crew_no (n := n) (m := m) (by omega))
      go_enter Try.func76, Try.ntmps76
      go_wp2_with fail
      refine (s6in_yes _ _ _ _ h1.1 h1.2).mono ?_
      rintro e w' ⟨rfl, rfl⟩
      go_wp2_with fail
      refine (s6in_no _ _ _ _ h2).mono ?_
      rintro e w' ⟨rfl, rfl⟩
      go_wp2
      go_ret
      exact ⟨ret_b HR.out.symm, rfl⟩
  · have HR := Lib.hid (crew_no (n := n) (m := m) (by omega))
    go_enter Try.func76, Try.ntmps76
    go_wp2_with fail
    refine (s6in_no _ _ _ _ h1).mono ?_
    rintro e w' ⟨rfl, rfl⟩
    go_wp2
    go_ret
    exact ⟨ret_b HR.out.symm, rfl⟩

/-- The numbers of a deal's polynomial. -/
def dco (seed : Int) (j : Nat) : Int := (seed * (2 * (j : Int) + 1) + seed / 23 * 5 + (j : Int) * j * 3) % 23
def dz (secret seed : Int) (j : Nat) : Int := if j = 0 then secret else dco seed j
theorem dz_ok {secret seed : Int} (h : fok secret = true) (j : Nat) : fok (dz secret seed j) = true := by
  unfold dz; split
  · exact h
  · exact fok_mk (Int.emod_nonneg _ (by omega)) (Int.emod_lt_of_pos _ (by omega))
theorem dz_step {w : World} {lo : Nat} {E : TypeId} {b len cap k : Nat} {s d : Int} (h : Row w lo E b len cap (fun j => if j < k then dz s d j else 0)) (x : Int) (hx : x = dz s d k) :
    Row (w.setCell ⟨b, k, none⟩ (.int .i64 x)) lo E b len cap (fun j => if j < k + 1 then dz s d j else 0) := by subst hx; exact step_row h
def dpok (need secret seed : Int) : Bool := decide (1 ≤ need ∧ need ≤ 5) && fok secret && decide (0 ≤ seed ∧ seed ≤ 999)
theorem dpok_iff {need secret seed : Int} : dpok need secret seed = true ↔ (1 ≤ need ∧ need ≤ 5) ∧ fok secret = true ∧ (0 ≤ seed ∧ seed ≤ 999) := by
  unfold dpok; simp [and_assoc]
theorem dpok_no {need secret seed : Int} (h : dpok need secret seed = false) : need < 1 ∨ (1 ≤ need ∧ 5 < need) ∨ (1 ≤ need ∧ need ≤ 5 ∧ fok secret = false) ∨ (1 ≤ need ∧ need ≤ 5 ∧ fok secret = true ∧ seed < 0) ∨ (1 ≤ need ∧ need ≤ 5 ∧ fok secret = true ∧ 0 ≤ seed ∧ 999 < seed) := by
  have h' := mt dpok_iff.2 (by rw [h]; simp)
  cases hf : fok secret with
  | false => simp only [hf] at h' ⊢; simp; omega
  | true => simp only [hf] at h' ⊢; simp at h' ⊢; omega
theorem row_lit1 (w : World) (E : TypeId) (n : Int) (z : Nat → Int) (h : z 0 = n) : Row (w.alloc (.cells #[.int .i64 n] E)) w.heap.size E w.heap.size 1 1 z := by
  have hb : (w.alloc (.cells #[.int .i64 n] E)).rowIs w.heap.size E 1 (fun _ => .int .i64 n) := by
    refine ⟨#[.int .i64 n], by show (w.heap.push _)[w.heap.size]? = _; simp, rfl, fun i hi => ?_⟩
    have hi' : i < 1 := hi
    obtain rfl : i = 0 := by omega
    rfl
  exact ⟨Nat.le_refl _, ⟨_, hb, fun j hj => by
    have hj' : j < 1 := hj
    obtain rfl : j = 0 := by omega
    rw [h]⟩, Nat.le_refl _, by decide⟩
set_option maxRecDepth 100000 in
set_option maxHeartbeats 1000000 in
theorem s11poly (w : World) (n : Nat) (secret seed : Int) (h1 : 1 ≤ n) (h5 : n ≤ 5) (hd : 0 ≤ seed) (hd' : seed ≤ 999) :
    Calls Try.prog 67 #[.int .i64 n, .int .i64 secret, .int .i64 seed] w (Own1 3 w n (dz secret seed)) := by
  obtain ⟨i0, hi, hz0, hz1, hz2⟩ := info_parts info_int
  go_enter Try.func67, Try.ntmps67
  go_wp2
  go_loopw [7, 8] (fun v i wr => ∃ k b cap : Nat, 1 ≤ k ∧ k ≤ n ∧ v = .slice (some ⟨b, 0, none⟩) k cap ∧ i = .int .i64 k ∧ Row wr w.heap.size 3 b k cap (dz secret seed) ∧ w.grownBy wr none) (fun _ i _ => n - (intOf i).toNat)
  case atStart => exact ⟨1, w.heap.size, 1, by omega, by omega, rfl, rfl, row_lit1 _ _ _ _ rfl, Draw.grown_alloc _ _ _⟩
  case round =>
    obtain ⟨k, bo, co, hk1, hk, rfl, rfl, hr, hg⟩ := hrel
    have HG := Lib.hid hg; have hge := hr.from_; have HW := Lib.hid hr; clear hg hr
    have hsz := HG.out.size
    by_cases hka : k < n
    · rcases (by omega : k = 1 ∨ k = 2 ∨ k = 3 ∨ k = 4) with rfl | rfl | rfl | rfl
      · go_wp2_with (at_builtin; refine wpList_append_own _ rfl _ _ 23 rfl w.heap.size 3 i0 (.int .i64 0) 1 8 und_ints hi hz0 hz1 hz2 rfl (by decide) _ 1 (vals (dz secret seed) 1) rfl (HW.out.alloc _).owns ⟨wr.heap.size, 0, none⟩ 1 1 [.int .i64 _] rfl rfl (cell_one_new _ _ _) (by simp [Value.oneCell']) (by unfold maxLen; omega) (by omega) (by simp; omega) ?_; intro v' w1 hown' hgrow _)
        obtain ⟨b', cap', rfl, hrow⟩ := app_row hown' (by first | (simp [dz, dco]; omega) | (rw [dz, if_neg (by omega), dco]; omega))
        have HR := Lib.hid hrow; have HGr := Lib.hid (app_grown HG.out hge hgrow)
        clear hown' hgrow hrow
        go_wp2
        go_roundw
        case rel => exact ⟨1 + 1, b', cap', by omega, by omega, rfl, by go_num, HR.out, HGr.out⟩
        case measure => simp [intOf]; omega
      · go_wp2_with (at_builtin; refine wpList_append_own _ rfl _ _ 23 rfl w.heap.size 3 i0 (.int .i64 0) 1 8 und_ints hi hz0 hz1 hz2 rfl (by decide) _ 2 (vals (dz secret seed) 2) rfl (HW.out.alloc _).owns ⟨wr.heap.size, 0, none⟩ 1 1 [.int .i64 _] rfl rfl (cell_one_new _ _ _) (by simp [Value.oneCell']) (by unfold maxLen; omega) (by omega) (by simp; omega) ?_; intro v' w1 hown' hgrow _)
        obtain ⟨b', cap', rfl, hrow⟩ := app_row hown' (by first | (simp [dz, dco]; omega) | (rw [dz, if_neg (by omega), dco]; omega))
        have HR := Lib.hid hrow; have HGr := Lib.hid (app_grown HG.out hge hgrow)
        clear hown' hgrow hrow
        go_wp2
        go_roundw
        case rel => exact ⟨2 + 1, b', cap', by omega, by omega, rfl, by go_num, HR.out, HGr.out⟩
        case measure => simp [intOf]; omega
      · go_wp2_with (at_builtin; refine wpList_append_own _ rfl _ _ 23 rfl w.heap.size 3 i0 (.int .i64 0) 1 8 und_ints hi hz0 hz1 hz2 rfl (by decide) _ 3 (vals (dz secret seed) 3) rfl (HW.out.alloc _).owns ⟨wr.heap.size, 0, none⟩ 1 1 [.int .i64 _] rfl rfl (cell_one_new _ _ _) (by simp [Value.oneCell']) (by unfold maxLen; omega) (by omega) (by simp; omega) ?_; intro v' w1 hown' hgrow _)
        obtain ⟨b', cap', rfl, hrow⟩ := app_row hown' (by first | (simp [dz, dco]; omega) | (rw [dz, if_neg (by omega), dco]; omega))
        have HR := Lib.hid hrow; have HGr := Lib.hid (app_grown HG.out hge hgrow)
        clear hown' hgrow hrow
        go_wp2
        go_roundw
        case rel => exact ⟨3 + 1, b', cap', by omega, by omega, rfl, by go_num, HR.out, HGr.out⟩
        case measure => simp [intOf]; omega
      · go_wp2_with (at_builtin; refine wpList_append_own _ rfl _ _ 23 rfl w.heap.size 3 i0 (.int .i64 0) 1 8 und_ints hi hz0 hz1 hz2 rfl (by decide) _ 4 (vals (dz secret seed) 4) rfl (HW.out.alloc _).owns ⟨wr.heap.size, 0, none⟩ 1 1 [.int .i64 _] rfl rfl (cell_one_new _ _ _) (by simp [Value.oneCell']) (by unfold maxLen; omega) (by omega) (by simp; omega) ?_; intro v' w1 hown' hgrow _)
        obtain ⟨b', cap', rfl, hrow⟩ := app_row hown' (by first | (simp [dz, dco]; omega) | (rw [dz, if_neg (by omega), dco]; omega))
        have HR := Lib.hid hrow; have HGr := Lib.hid (app_grown HG.out hge hgrow)
        clear hown' hgrow hrow
        go_wp2
        go_roundw
        case rel => exact ⟨4 + 1, b', cap', by omega, by omega, rfl, by go_num, HR.out, HGr.out⟩
        case measure => simp [intOf]; omega
    · obtain rfl : k = n := by omega
      go_wp2
      go_ret
      exact ⟨_, _, rfl, HW.out, HG.out⟩
end Con
end Go.Proofs.Ytchgjdbmianajaa
/-
  The model's polynomial of a deal, at every argument; how the model draws a committee and what a deal's polynomial is of.
-/

namespace Go.Proofs.Ytchgjdbmianajaa
namespace Con
open Go.RowKit Alg Mem
set_option linter.unusedVariables false

theorem pokz_dz {n : Nat} {secret seed : Int} (h1 : 1 ≤ n) (h5 : n ≤ 5) (hs : fok secret = true) : pokz n (dz secret seed) = true :=
  pokz_iff.2 ⟨h1, h5, fun j _ => dz_ok hs j⟩
theorem ev_at0 {z : Nat → Int} {n : Nat} (h : 1 ≤ n) (hz : fok (z 0) = true) : Pol.fi (Pol.ev (fl z n) (Pol.cv 0)) = z 0 := by
  rw [show Pol.cv 0 = 0 from rfl, Pol.ev_zero]
  obtain ⟨m, rfl⟩ : ∃ m, n = m + 1 := ⟨n - 1, by omega⟩
  rw [show (fl z (m + 1)).headD 0 = Pol.cv (z 0) by simp [fl, List.range_succ_eq_map], Pol.fi_cv hz]
theorem patz_dz0 {n : Nat} {secret seed : Int} (h1 : 1 ≤ n) (h5 : n ≤ 5) (hs : fok secret = true) : patz n (dz secret seed) 0 = secret := by
  rw [patz_in (pokz_dz h1 h5 hs) rfl, ev_at0 h1 (dz_ok hs 0)]; rfl
end Con
namespace Draw
open Go.RowKit Mem Con

end Draw
end Go.Proofs.Ytchgjdbmianajaa
