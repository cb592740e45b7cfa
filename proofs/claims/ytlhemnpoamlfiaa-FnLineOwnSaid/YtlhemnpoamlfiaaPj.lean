/-
  The model's sum of two polynomials, and its factors of places.
-/
import Derived.Test.YtlhemnpoamlfiaaPe
import Derived.Test.YtlhemnpoamlfiaaPg
namespace Go.Proofs.Ytlhemnpoamlfiaa
namespace Con
open Go.RowKit Alg Mem Pol
set_option linter.unusedVariables false

theorem zsum_right {la lb : Nat} {za zb : Nat → Int} {j : Nat} (ha : la ≤ j) (hb : j < lb) (hf : fok (zb j) = true) : zsum la za lb zb j = zb j := by
  rw [zsum_comm]; exact zsum_left hb ha hf
theorem sum_zero_left {b : Int} (hb : fok b = true) : sumF 0 b = b := by
  rw [sumF_in rfl hb]; have := fok_iff.1 hb; omega

set_option maxHeartbeats 1000000 in
theorem spsum_yes (w : World) (a b : Option Addr) (la ca lb cb : Nat) (za zb : Nat → Int) (hA : Ints w a la za) (hB : Ints w b lb zb) (hp : pokz la za = true) (hq : pokz lb zb = true) :
    Calls Try.prog 27 #[.slice a la ca, .slice b lb cb] w (Own1 3 w (max la lb) (zsum la za lb zb)) := by
  have HA := Lib.hid hA; have HB := Lib.hid hB; clear hA hB
  obtain ⟨p1, p5, pz⟩ := pokz_iff.1 hp
  obtain ⟨q1, q5, qz⟩ := pokz_iff.1 hq
  have HP := Lib.hid pz; have HQ := Lib.hid qz; clear pz qz
  obtain ⟨i0, hi, hz0, hz1, hz2⟩ := info_parts info_int
  go_enter Try.func27, Try.ntmps27
  go_wp2_with fail
  refine (spok _ _ _ _ za (HA.out.kept (Draw.grown_alloc _ _ _)) (by omega)).mono ?_
  rintro e w' ⟨rfl, rfl⟩
  go_wp2_with fail
  refine (spok _ _ _ _ zb (HB.out.kept (Draw.grown_alloc _ _ _)) (by omega)).mono ?_
  rintro e w' ⟨rfl, rfl⟩
  go_wp2
  clear hp hq
  go_loopw [5, 6] (fun v i wr => ∃ k b cap : Nat, k ≤ max la lb ∧ v = .slice (some ⟨b, 0, none⟩) k cap ∧ i = .int .i64 k ∧ Row wr w.heap.size 3 b k cap (zsum la za lb zb) ∧ w.grownBy wr none) (fun _ i _ => max la lb - (intOf i).toNat)
  case atStart => exact ⟨0, w.heap.size, 0, by omega, rfl, rfl, row_empty w _ _, Draw.grown_alloc _ _ _⟩
  case round =>
    obtain ⟨k, bo, co, hk, rfl, rfl, hr, hg⟩ := hrel
    have HG := Lib.hid hg; have hge := hr.from_; have HW := Lib.hid hr; clear hg hr
    have hsz := HG.out.size
    have hmm : k ≤ 5 := by omega
    by_cases hka : k < la
    · have hlt : (k : Int) < max (la : Int) (lb : Int) := by omega
      obtain ⟨b1, o1, rfl, hb1, hc1⟩ := (HA.out.kept HG.out).ptr (by omega)
      have hcx := hc1 k hka
      clear hc1
      by_cases hkb : k < lb
      · obtain ⟨b2, o2, rfl, hb2, hc2⟩ := (HB.out.kept HG.out).ptr (by omega)
        have hcy := hc2 k hkb
        clear hc2
        have HS := Lib.hid (show sumF (za k) (zb k) = zsum la za lb zb k by rw [zsum_both hka hkb, ← fi_sum, fi_cv (HP.out k hka), fi_cv (HQ.out k hkb)])
        go_wp2_with (first
          | (go_at_call 54; refine (ssum _ _ _).mono ?_; rintro e w' ⟨rfl, rfl⟩)
          | (at_builtin; refine wpList_append_own _ rfl _ _ 23 rfl w.heap.size 3 i0 (.int .i64 0) 1 8 und_ints hi hz0 hz1 hz2 rfl (by decide) _ k (vals (zsum la za lb zb) k) rfl (HW.out.alloc _).owns ⟨wr.heap.size, 0, none⟩ 1 1 [.int .i64 (sumF (za k) (zb k))] rfl rfl (cell_one_new _ _ _) (by simp [Value.oneCell']) (by unfold maxLen; omega) (by omega) (by simp; omega) ?_; intro v' w1 hown' hgrow _))
        obtain ⟨b', cap', rfl, hrow⟩ := app_row hown' HS.out
        have HR := Lib.hid hrow; have HGr := Lib.hid (app_grown HG.out hge hgrow)
        clear hown' hgrow hrow
        go_wp2
        go_roundw
        case rel => exact ⟨k + 1, b', cap', by omega, rfl, by go_num, HR.out, HGr.out⟩
        case measure => simp [intOf]; omega
      · have HS := Lib.hid (show za k = zsum la za lb zb k from (zsum_left hka (by omega) (HP.out k hka)).symm)
        have hnb : ¬ (k : Int) < (lb : Int) := by omega
        go_wp2_with (at_builtin; refine wpList_append_own _ rfl _ _ 23 rfl w.heap.size 3 i0 (.int .i64 0) 1 8 und_ints hi hz0 hz1 hz2 rfl (by decide) _ k (vals (zsum la za lb zb) k) rfl (HW.out.alloc _).owns ⟨wr.heap.size, 0, none⟩ 1 1 [.int .i64 (za k)] rfl rfl (cell_one_new _ _ _) (by simp [Value.oneCell']) (by unfold maxLen; omega) (by omega) (by simp; omega) ?_; intro v' w1 hown' hgrow _)
        obtain ⟨b', cap', rfl, hrow⟩ := app_row hown' HS.out
        have HR := Lib.hid hrow; have HGr := Lib.hid (app_grown HG.out hge hgrow)
        clear hown' hgrow hrow
        go_wp2
        go_roundw
        case rel => exact ⟨k + 1, b', cap', by omega, rfl, by go_num, HR.out, HGr.out⟩
        case measure => simp [intOf]; omega
    · have hna : ¬ (k : Int) < (la : Int) := by omega
      by_cases hkb : k < lb
      · have hlt : (k : Int) < max (la : Int) (lb : Int) := by omega
        obtain ⟨b2, o2, rfl, hb2, hc2⟩ := (HB.out.kept HG.out).ptr (by omega)
        have hcy := hc2 k hkb
        clear hc2
        have HS := Lib.hid (show sumF 0 (zb k) = zsum la za lb zb k by rw [zsum_right (by omega) hkb (HQ.out k hkb), sum_zero_left (HQ.out k hkb)])
        go_wp2_with (first
          | (go_at_call 54; refine (ssum _ _ _).mono ?_; rintro e w' ⟨rfl, rfl⟩)
          | (at_builtin; refine wpList_append_own _ rfl _ _ 23 rfl w.heap.size 3 i0 (.int .i64 0) 1 8 und_ints hi hz0 hz1 hz2 rfl (by decide) _ k (vals (zsum la za lb zb) k) rfl (HW.out.alloc _).owns ⟨wr.heap.size, 0, none⟩ 1 1 [.int .i64 (sumF 0 (zb k))] rfl rfl (cell_one_new _ _ _) (by simp [Value.oneCell']) (by unfold maxLen; omega) (by omega) (by simp; omega) ?_; intro v' w1 hown' hgrow _))
        obtain ⟨b', cap', rfl, hrow⟩ := app_row hown' HS.out
        have HR := Lib.hid hrow; have HGr := Lib.hid (app_grown HG.out hge hgrow)
        clear hown' hgrow hrow
        go_wp2
        go_roundw
        case rel => exact ⟨k + 1, b', cap', by omega, rfl, by go_num, HR.out, HGr.out⟩
        case measure => simp [intOf]; omega
      · obtain rfl : k = max la lb := by omega
        have hlt : ¬ ((max la lb : Nat) : Int) < max (la : Int) (lb : Int) := by omega
        go_wp2
        all_goals
          go_ret
          exact ⟨_, _, rfl, HW.out, HG.out⟩
/-- The model's factor, of the first k places. -/
def sp (z : Nat → Int) (x : F) (i : Nat) : Nat → F
  | 0 => 1
  | k + 1 => if k = i then sp z x i k else sp z x i k * ((x - cv (z k)) * inv (cv (z i) - cv (z k)))
theorem sp_own (z : Nat → Int) (x : F) (i : Nat) : sp z x i (i + 1) = sp z x i i := if_pos rfl
theorem sp_next (z : Nat → Int) (x : F) {i k : Nat} (h : ¬ k = i) : sp z x i (k + 1) = sp z x i k * ((x - cv (z k)) * inv (cv (z i) - cv (z k))) := if_neg h
theorem sp_oth (z : Nat → Int) (x : F) (i k : Nat) : sp z x i k = prd (oth z i k) x * inv (prd (oth z i k) (cv (z i))) := by
  induction k with
  | zero => simp only [sp, oth, prd]; rw [show inv (1 : F) = 1 from by decide +kernel]; grind
  | succ k ih =>
    by_cases e : k = i
    · subst e; rw [sp_own, oth_own, ih]
    · rw [sp_next z x e, oth_next z e, ih, prd_append, prd_append, Pol.inv_mul]
      simp only [prd]
      rw [show (cv (z i) - cv (z k)) * 1 = cv (z i) - cv (z k) from by grind]
      grind
theorem sp_lag (z : Nat → Int) (x : F) {i len : Nat} (h : i < len) : sp z x i len = lag (fl z len) i x := by
  rw [sp_oth, oth_erase z i len h]; unfold lag; rw [fl_getD z h]
/-- The factors' numbers. -/
def zline (len : Nat) (z : Nat → Int) (x : Int) (i : Nat) : Int := fi (lag (fl z len) i (cv x))
theorem q_sdif {a b : Int} {w : World} {n : Nat} : Calls Try.prog 68 #[.int .i64 a, .int .i64 b] (w.drewN n) fun e w'' => e = .returned (.int .i64 (difF a b)) ∧ ∃ m, w'' = w.drewN m :=
  Calls.quiet_of_same ((sdif a b _).mono fun _ _ h => ⟨h.1, h.2.symm⟩)
theorem q_smul {a b : Int} {w : World} {n : Nat} : Calls Try.prog 67 #[.int .i64 a, .int .i64 b] (w.drewN n) fun e w'' => e = .returned (.int .i64 (mulF a b)) ∧ ∃ m, w'' = w.drewN m :=
  Calls.quiet_of_same ((smul a b _).mono fun _ _ h => ⟨h.1, h.2.symm⟩)
theorem q_search {a : Int} {w : World} {n : Nat} (ha : fok a = true) (h : a ≠ 0) : Calls Try.prog 69 #[.int .i64 a] (w.drewN n) fun e w'' => e = .returned (.int .i64 (invF a)) ∧ ∃ m, w'' = w.drewN m :=
  Calls.quiet_of_same ((search a _ ha h).mono fun _ _ h => ⟨h.1, h.2.symm⟩)

set_option maxHeartbeats 2000000 in
theorem s3line (w : World) (a : Option Addr) (len cap : Nat) (z : Nat → Int) (x : Int) (hI : Ints w a len z) (hl : len ≤ 5) (hz : ∀ j, j < len → fok (z j) = true) (hd : ∀ i j, i < len → j < len → i ≠ j → z i ≠ z j) (hx : fok x = true) :
    Calls Try.prog 58 #[.slice a len cap, .int .i64 x] w (Own1 3 w len (zline len z x)) := by
  have HI := Lib.hid hI; have HZ := Lib.hid hz; have HD := Lib.hid hd; have HX := Lib.hid hx; clear hI hz hd hx
  obtain ⟨i0, hi, hz0, hz1, hz2⟩ := info_parts info_int
  go_enter Try.func58, Try.ntmps58
  go_wp2
  go_loopw [5, 6] (fun v i wr => ∃ k b cap : Nat, k ≤ len ∧ v = .slice (some ⟨b, 0, none⟩) k cap ∧ i = .int .i64 k ∧ Row wr w.heap.size 3 b k cap (zline len z x) ∧ w.grownBy wr none) (fun _ i _ => len - (intOf i).toNat)
  case atStart => exact ⟨0, w.heap.size, 0, by omega, rfl, rfl, row_empty w _ _, Draw.grown_alloc _ _ _⟩
  case round =>
    obtain ⟨k, bo, co, hk, rfl, rfl, hr, hg⟩ := hrel
    have HG := Lib.hid hg; have hge := hr.from_; have HW := Lib.hid hr; clear hg hr
    have hsz := HG.out.size
    by_cases hlt : k < len
    · go_wp2
      go_loopw [7, 8] (fun n j ws => ∃ m : Nat, m ≤ len ∧ j = .int .i64 m ∧ n = .int .i64 (fi (sp z (cv x) k m)) ∧ wr.grownBy ws none) (fun _ j _ => len - (intOf j).toNat)
      case atStart => exact ⟨0, by omega, rfl, rfl, Draw.grown_refl _ _⟩
      case round =>
        obtain ⟨m, hm, rfl, rfl, hgi⟩ := hrel
        have HGi := Lib.hid hgi; clear hgi
        by_cases hlm : m < len
        · by_cases he : m = k
          · have hne : ((m : Int) != (k : Int)) = false := by simp [he]
            have HE := Lib.hid (show sp z (cv x) k (m + 1) = sp z (cv x) k m by subst he; exact sp_own z _ m)
            clear he
            go_wp2
            go_roundw
            case rel => exact ⟨m + 1, by omega, by go_num, by rw [HE.out], HGi.out⟩
            case measure => simp [intOf]; omega
          · have hne : ((m : Int) != (k : Int)) = true := by simp; omega
            obtain ⟨b1, o1, rfl, hb1, hc1⟩ := (HI.out.kept (gtr HG.out HGi.out)).ptr (by omega)
            have hcm := hc1 m hlm
            have hck := hc1 k hlt
            have hdn : difF (z k) (z m) ≠ 0 := fun e => HD.out k m hlt hlm (by omega) ((dif_zero (HZ.out k hlt) (HZ.out m hlm)).1 e)
            have HN := Lib.hid hdn
            have HE := Lib.hid (show mulF (fi (sp z (cv x) k m)) (mulF (difF x (z m)) (invF (difF (z k) (z m)))) = fi (sp z (cv x) k (m + 1)) by
              rw [sp_next z (cv x) he, ← fi_mul, ← fi_mul, ← fi_inv, ← fi_dif, ← fi_dif, fi_cv HX.out, fi_cv (HZ.out m hlm), fi_cv (HZ.out k hlt)])
            clear he hc1 hdn
            go_wp2
            go_quiet ((first
              | (go_at_call 68; exact q_sdif)
              | (go_at_call 69; exact q_search (difF_ok _ _) HN.out)
              | (go_at_call 67; exact q_smul)))
            go_wp2
            go_roundw
            case rel => exact ⟨m + 1, by omega, by go_num, by rw [← HE.out], grown_drew HGi.out _⟩
            case measure => simp [intOf]; omega
        · obtain rfl : m = len := by omega
          have HS := Lib.hid (show fi (sp z (cv x) k m) = zline m z x k by rw [sp_lag z (cv x) hlt]; rfl)
          have HG2 := Lib.hid (gtr HG.out HGi.out)
          have HW2 := Lib.hid (HW.out.keptN HGi.out)
          have hsz2 := HGi.out.size
          go_wp2_with (at_builtin; refine wpList_append_own _ rfl _ _ 23 rfl w.heap.size 3 i0 (.int .i64 0) 1 8 und_ints hi hz0 hz1 hz2 rfl (by decide) _ k (vals (zline m z x) k) rfl (HW2.out.alloc _).owns ⟨wr.heap.size, 0, none⟩ 1 1 [.int .i64 (fi (sp z (cv x) k m))] rfl rfl (cell_one_new _ _ _) (by simp [Value.oneCell']) (by unfold maxLen; omega) (by omega) (by simp; omega) ?_; intro v' w1 hown' hgrow _)
          obtain ⟨b', cap', rfl, hrow⟩ := app_row hown' HS.out
          have HR := Lib.hid hrow; have HGr := Lib.hid (app_grown HG2.out hge hgrow)
          clear hown' hgrow hrow
          go_wp2
          go_roundw
          case rel => exact ⟨k + 1, b', cap', by omega, rfl, by go_num, HR.out, HGr.out⟩
          case measure => simp [intOf]; omega
    · obtain rfl : k = len := by omega
      go_wp2
      go_ret
      exact ⟨_, _, rfl, HW.out, HG.out⟩
end Con
end Go.Proofs.Ytlhemnpoamlfiaa
