/-
  What the model shows of a polynomial.
-/
import Derived.Test.YtkklhlffbfgolaaDoorCd
import Derived.Test.YtkklhlffbfgolaaDoorPe
namespace Go.Proofs.YtkklhlffbfgolaaDoor
namespace Con
open Go.RowKit Alg Mem Pol
set_option linter.unusedVariables false

/-- What is shown, number by number. -/
def gz (z : Nat → Int) (j : Nat) : Int := gofF (z j)
set_option maxRecDepth 100000 in
set_option maxHeartbeats 1000000 in
theorem s4of (w : World) (a : Option Addr) (len cap : Nat) (z : Nat → Int) (hI : Ints w a len z) (hl : len ≤ 2000000) (hz : ∀ j, j < len → fok (z j) = true) :
    Calls Tryd.prog 65 #[.slice a len cap] w (Own1 3 w len (gz z)) := by
  have HA := Lib.hid hI; have HZ := Lib.hid hz; clear hI hz
  obtain ⟨i0, hi, hz0, hz1, hz2⟩ := info_parts info_int
  go_enter Tryd.func65, Tryd.ntmps65
  go_wp2
  go_loopw [3, 4] (fun v i wr => ∃ k b cap : Nat, k ≤ len ∧ v = .slice (some ⟨b, 0, none⟩) k cap ∧ i = .int .i64 k ∧ Row wr w.heap.size 3 b k cap (gz z) ∧ w.grownBy wr none) (fun _ i _ => len - (intOf i).toNat)
  case atStart => exact ⟨0, w.heap.size, 0, by omega, rfl, rfl, row_empty w _ _, Draw.grown_alloc _ _ _⟩
  case round =>
    obtain ⟨k, bo, co, hk, rfl, rfl, hr, hg⟩ := hrel
    have HG := Lib.hid hg; have hge := hr.from_; have HW := Lib.hid hr; clear hg hr
    have hsz := HG.out.size
    by_cases hka : k < len
    · have hlt : (k : Int) < (len : Int) := by omega
      obtain ⟨b1, o1, rfl, hb1, hc1⟩ := (HA.out.kept HG.out).ptr (by omega)
      have hcx := hc1 k hka
      clear hc1
      obtain ⟨n0, n1⟩ := fok_iff.1 (HZ.out k hka)
      have HS := Lib.hid (show pw 2 (z k).toNat = gz z k from (gof_in (HZ.out k hka)).symm)
      go_wp2_with (first
        | (go_at_call 68; refine (spow _ _ _ (by omega) (by omega) (by omega) (by omega)).mono ?_; rintro e w' ⟨rfl, rfl⟩)
        | (at_builtin; refine wpList_append_own _ rfl _ _ 23 rfl w.heap.size 3 i0 (.int .i64 0) 1 8 und_ints hi hz0 hz1 hz2 rfl (by decide) _ k (vals (gz z) k) rfl (HW.out.alloc _).owns ⟨wr.heap.size, 0, none⟩ 1 1 [.int .i64 (pw 2 (z k).toNat)] rfl rfl (cell_one_new _ _ _) (by simp [Value.oneCell']) (by unfold maxLen; omega) (by omega) (by simp; omega) ?_; intro v' w1 hown' hgrow _))
      obtain ⟨b', cap', rfl, hrow⟩ := app_row hown' HS.out
      have HR := Lib.hid hrow; have HGr := Lib.hid (app_grown HG.out hge hgrow)
      clear hown' hgrow hrow
      go_wp2
      go_roundw
      case rel => exact ⟨k + 1, b', cap', by omega, rfl, by go_num, HR.out, HGr.out⟩
      case measure => simp [intOf]; omega
    · obtain rfl : k = len := by omega
      go_wp2
      go_ret
      exact ⟨_, _, rfl, HW.out, HG.out⟩
end Con
end Go.Proofs.YtkklhlffbfgolaaDoor
