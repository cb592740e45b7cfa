/-
  The program's sum of two polynomials: the longer one is cloned, and the other's numbers are put to it.
-/
import Derived.Test.YtpdmolphmimomaaPd
import Derived.Maps.AppendAt
import Derived.Lib.SliceRun
namespace Go.Proofs.Ytpdmolphmimomaa
namespace Con
open Go.RowKit Alg Mem Pol
set_option linter.unusedVariables false

theorem und_poly : Try.prog.underlying 57 = some (.slice 48) := by kernel_rfl
/-- A slice of the call's own, whatever its capacity. -/
def Own1 (E : TypeId) (w : World) (len : Nat) (z : Nat → Int) (e : Ending) (w' : World) : Prop :=
  ∃ b cap, e = .returned (.slice (some ⟨b, 0, none⟩) len cap) ∧ Row w' w.heap.size E b len cap z ∧ w.grownBy w' none
theorem one_cells (z : Nat → Int) (n : Nat) : ∀ u ∈ vals z n, u.oneCell' = true := by
  intro u hu; simp [vals] at hu; obtain ⟨j, _, rfl⟩ := hu; rfl
theorem cells_at {w : World} {b off len : Nat} {z : Nat → Int} (hc : ∀ j, j < len → w.cell? ⟨b, off + j, none⟩ = some (.int .i64 (z j))) :
    ∀ j u, (vals z len)[j]? = some u → w.cell? ((⟨b, off, none⟩ : Addr).add j) = some u := by
  intro j u hu
  have hj : j < len := by
    have := (List.getElem?_eq_some_iff.1 hu).1; rwa [vals_length] at this
  rw [vals_get z hj] at hu
  cases hu
  have h := hc j hj
  by_cases h0 : j = 0
  · subst h0; simpa [Addr.add] using h
  · simpa [Addr.add, h0] using h
theorem padd_getD (a b : List F) (j : Nat) : (padd a b).getD j 0 = a.getD j 0 + b.getD j 0 := by
  induction a generalizing b j with
  | nil => simp [padd]
  | cons x a ih => cases b with
    | nil => simp [padd]
    | cons y b => cases j with
      | zero => simp [padd]
      | succ j => simpa [padd] using ih b j
theorem fl_getD_out (z : Nat → Int) {len k : Nat} (hk : len ≤ k) : (fl z len).getD k 0 = 0 := by simp [fl, hk]
/-- The sum's numbers. -/
def zsum (la : Nat) (za : Nat → Int) (lb : Nat) (zb : Nat → Int) (j : Nat) : Int := fi ((padd (fl za la) (fl zb lb)).getD j 0)
theorem zsum_both {la lb : Nat} {za zb : Nat → Int} {j : Nat} (ha : j < la) (hb : j < lb) : zsum la za lb zb j = fi (cv (za j) + cv (zb j)) := by
  unfold zsum; rw [padd_getD, fl_getD za ha, fl_getD zb hb]
theorem zsum_left {la lb : Nat} {za zb : Nat → Int} {j : Nat} (ha : j < la) (hb : lb ≤ j) (hf : fok (za j) = true) : zsum la za lb zb j = za j := by
  unfold zsum; rw [padd_getD, fl_getD za ha, fl_getD_out zb hb]
  rw [show cv (za j) + 0 = cv (za j) from by grind, fi_cv hf]
theorem zsum_comm (la : Nat) (za : Nat → Int) (lb : Nat) (zb : Nat → Int) : zsum la za lb zb = zsum lb zb la za := by funext j; unfold zsum; rw [padd_comm]
theorem clone_any (w : World) (a : Option Addr) (len cap : Nat) (z : Nat → Int) (hI : Ints w a len z) (h1 : 1 ≤ len) (hl : len ≤ 2000000) :
    Calls Try.prog 96 #[.slice a len cap] w (Own1 48 w len z) := by
  obtain ⟨b, off, rfl, hb, hc⟩ := hI.ptr h1
  have HC := Lib.hid hc; clear hc hI
  have hq : ∀ (w : World) (a : Option Addr) (n c n' c' : Nat), (binOp .eql 57 (.slice a n c) (.slice none n' c')).run Try.prog w = .ok (.bool a.isNone) w := fun w a n c n' c' => Lib.run_eql_slice_nil w _ _ a n c n' c' und_poly
  obtain ⟨i0, hi, hz0, hz1, hz2⟩ := info_parts info_elt
  go_enter Try.func96, Try.ntmps96
  go_wp2_with (at_builtin; refine wpList_append_own _ rfl _ _ 57 rfl w.heap.size 48 i0 (.int .i64 0) 1 8 und_poly hi hz0 hz1 hz2 rfl (by decide) _ 0 [] rfl (World.ownsRow_lit w #[] 0 (Nat.le_refl _) (by decide) rfl) ⟨b, off, none⟩ len cap (vals z len) rfl (by rw [vals_length, Nat.mul_one]) (cells_at fun j hj => by rw [World.cell?_of_block (w := w) (Below.heap_alloc _ _ _ hb)]; exact HC.out j hj) (one_cells _ _) (by unfold maxLen; omega) (by omega) (by simp) ?_; intro v' w1 hown' hgrow _)
  obtain ⟨b', cap', rfl, hrow⟩ := row_of_owns hown' (by omega) (fun j hj => by rw [List.nil_append]; exact vals_get z (by omega))
  have HW := Lib.hid hrow; have HG := Lib.hid hgrow
  clear hown' hgrow hrow
  rw [Nat.zero_add] at HW ⊢
  go_wp2
  go_ret
  exact ⟨_, _, rfl, HW.out, grown_new (Draw.grown_alloc _ _ _) (Nat.le_refl _) HG.out⟩

theorem sum_in (w : World) (a b : Option Addr) (la ca lb cb : Nat) (za zb : Nat → Int) (hA : Ints w a la za) (hB : Ints w b lb zb) (h : lb ≤ la) (h1 : 1 ≤ la) (hl : la ≤ 2000000)
    (hza : ∀ j, j < la → fok (za j) = true) (hzb : ∀ j, j < lb → fok (zb j) = true) :
    Calls Try.prog 80 #[.slice a la ca, .slice b lb cb] w (Own1 48 w la (zsum la za lb zb)) := by
  have HA := Lib.hid hA; have HB := Lib.hid hB; have HZA := Lib.hid hza; have HZB := Lib.hid hzb; clear hA hB hza hzb
  have hnl : ¬ (la : Int) < (lb : Int) := by omega
  go_enter Try.func80, Try.ntmps80
  go_wp2_with (go_at_call 96; refine (clone_any _ _ _ _ za HA.out (by omega) (by omega)).mono ?_; rintro e w1 ⟨b1, c1, rfl, hr, hg⟩; have HR := Lib.hid hr; have HG := Lib.hid hg; clear hr hg)
  go_loopw [19] (fun i wr => ∃ k : Nat, k ≤ lb ∧ i = .int .i64 k ∧ Row wr w.heap.size 48 b1 la c1 (fun j => if j < k then zsum la za lb zb j else za j) ∧ w.grownBy wr none) (fun i _ => lb - (intOf i).toNat)
  case atStart => exact ⟨0, by omega, rfl, HR.out.congr (fun j _ => by simp), HG.out⟩
  case round =>
    obtain ⟨k, hk, rfl, hr, hg⟩ := hrel
    have HG := Lib.hid hg; clear hg
    by_cases hlt : k < lb
    · obtain ⟨bb, off, rfl, hb, hc⟩ := (HB.out.kept HG.out).ptr (by omega)
      have hcx := hc k hlt
      have c0 : wr.cell? ⟨b1, k, none⟩ = some (.int .i64 (za k)) := by have := hr.cell (by omega : k < la); simpa using this
      have f0 := hr.frozen k
      have hfa := HZA.out k (by omega)
      have hfb := HZB.out k (by omega)
      obtain ⟨u0, u1⟩ := fok_iff.1 hfa
      obtain ⟨v0, v1⟩ := fok_iff.1 hfb
      have hcap := hr.le
      have HW := Lib.hid (show Row (wr.setCell ⟨b1, k, none⟩ (.int .i64 ((za k + zb k) % 23))) w.heap.size 48 b1 la c1 (fun j => if j < k + 1 then zsum la za lb zb j else za j) from
        (hr.set k _).congr fun j hj => by
          by_cases e : j = k
          · subst e
            have hz := zsum_both (za := za) (zb := zb) (la := la) (lb := lb) hj hlt
            rw [← fi_sum, fi_cv hfa, fi_cv hfb, sumF_in hfa hfb] at hz
            simp [hz]
          · by_cases hk : j < k
            · simp [e, hk]; omega
            · have : ¬ j < k + 1 := by omega
              simp [e, hk, this])
      have hge := hr.from_
      clear hc hr hfa hfb
      go_wp2
      go_roundw
      case rel => exact ⟨k + 1, by omega, by go_num, HW.out, grown_new HG.out hge (grown_set _ _ _ _)⟩
      case measure => simp [intOf]; omega
    · obtain rfl : k = lb := by omega
      have HW := Lib.hid (show Row wr w.heap.size 48 b1 la c1 (zsum la za k zb) from hr.congr fun j hj => by
        by_cases hjk : j < k
        · simp [hjk]
        · simp only [if_neg hjk]; exact (zsum_left hj (by omega) (HZA.out j hj)).symm)
      clear hr
      go_wp2
      go_ret
      exact ⟨_, _, rfl, HW.out, HG.out⟩
theorem sum_swap (w : World) (a b : Option Addr) (la ca lb cb : Nat) (za zb : Nat → Int) (hA : Ints w a la za) (hB : Ints w b lb zb) (h : la < lb) (hl : lb ≤ 2000000)
    (hza : ∀ j, j < la → fok (za j) = true) (hzb : ∀ j, j < lb → fok (zb j) = true) :
    Calls Try.prog 80 #[.slice a la ca, .slice b lb cb] w (Own1 48 w lb (zsum la za lb zb)) := by
  rw [zsum_comm]
  have HA := Lib.hid hA; have HB := Lib.hid hB; have HZA := Lib.hid hza; have HZB := Lib.hid hzb; clear hA hB hza hzb
  have hnl : (la : Int) < (lb : Int) := by omega
  go_enter Try.func80, Try.ntmps80
  go_wp2_with (go_at_call 96; refine (clone_any _ _ _ _ zb HB.out (by omega) (by omega)).mono ?_; rintro e w1 ⟨b1, c1, rfl, hr, hg⟩; have HR := Lib.hid hr; have HG := Lib.hid hg; clear hr hg)
  go_loopw [19] (fun i wr => ∃ k : Nat, k ≤ la ∧ i = .int .i64 k ∧ Row wr w.heap.size 48 b1 lb c1 (fun j => if j < k then zsum lb zb la za j else zb j) ∧ w.grownBy wr none) (fun i _ => la - (intOf i).toNat)
  case atStart => exact ⟨0, by omega, rfl, HR.out.congr (fun j _ => by simp), HG.out⟩
  case round =>
    obtain ⟨k, hk, rfl, hr, hg⟩ := hrel
    have HG := Lib.hid hg; clear hg
    by_cases hlt : k < la
    · obtain ⟨bb, off, rfl, hb, hc⟩ := (HA.out.kept HG.out).ptr (by omega)
      have hcx := hc k hlt
      have c0 : wr.cell? ⟨b1, k, none⟩ = some (.int .i64 (zb k)) := by have := hr.cell (by omega : k < lb); simpa using this
      have f0 := hr.frozen k
      have hfa := HZB.out k (by omega)
      have hfb := HZA.out k (by omega)
      obtain ⟨u0, u1⟩ := fok_iff.1 hfa
      obtain ⟨v0, v1⟩ := fok_iff.1 hfb
      have hcap := hr.le
      have HW := Lib.hid (show Row (wr.setCell ⟨b1, k, none⟩ (.int .i64 ((zb k + za k) % 23))) w.heap.size 48 b1 lb c1 (fun j => if j < k + 1 then zsum lb zb la za j else zb j) from
        (hr.set k _).congr fun j hj => by
          by_cases e : j = k
          · subst e
            have hz := zsum_both (za := zb) (zb := za) (la := lb) (lb := la) hj hlt
            rw [← fi_sum, fi_cv hfa, fi_cv hfb, sumF_in hfa hfb] at hz
            simp [hz]
          · by_cases hk : j < k
            · simp [e, hk]; omega
            · have : ¬ j < k + 1 := by omega
              simp [e, hk, this])
      have hge := hr.from_
      clear hc hr hfa hfb
      go_wp2
      go_roundw
      case rel => exact ⟨k + 1, by omega, by go_num, HW.out, grown_new HG.out hge (grown_set _ _ _ _)⟩
      case measure => simp [intOf]; omega
    · obtain rfl : k = la := by omega
      have HW := Lib.hid (show Row wr w.heap.size 48 b1 lb c1 (zsum lb zb k za) from hr.congr fun j hj => by
        by_cases hjk : j < k
        · simp [hjk]
        · simp only [if_neg hjk]; exact (zsum_left hj (by omega) (HZB.out j hj)).symm)
      clear hr
      go_wp2
      go_ret
      exact ⟨_, _, rfl, HW.out, HG.out⟩
end Con
end Go.Proofs.Ytpdmolphmimomaa
