/-
  Copies of slices, equal slices, marks in slices; the program's change of a slice's element type; the model's value of a polynomial.
-/
import Derived.Test.YtocecdnebkeeoaaDoorPa
import Derived.Test.YtocecdnebkeeoaaDoorPol
namespace Go.Proofs.YtocecdnebkeeoaaDoor
namespace Con
open Go.RowKit Alg Mem
set_option linter.unusedVariables false

theorem info_int : (Tryd.prog.info? 3).map (fun i => (i.zero, i.size, i.bytes)) = some (some (.int .i64 0), 1, 8) := by kernel_rfl
theorem info_elt : (Tryd.prog.info? 93).map (fun i => (i.zero, i.size, i.bytes)) = some (some (.int .i64 0), 1, 8) := by kernel_rfl
theorem und_ints : Tryd.prog.underlying 23 = some (.slice 3) := by kernel_rfl
/-- A new slice, whole: its row begins at a new block. -/
def NewRow (E : TypeId) (w : World) (len : Nat) (z : Nat → Int) (e : Ending) (w' : World) : Prop :=
  ∃ b, e = .returned (.slice (some ⟨b, 0, none⟩) len len) ∧ Row w' w.heap.size E b len len z ∧ w.grownBy w' none

theorem step_row {w : World} {lo : Nat} {E : TypeId} {b len cap k : Nat} {z : Nat → Int} (h : Row w lo E b len cap (fun j => if j < k then z j else 0)) :
    Row (w.setCell ⟨b, k, none⟩ (.int .i64 (z k))) lo E b len cap (fun j => if j < k + 1 then z j else 0) :=
  (h.set k (z k)).congr fun j hj => by
    by_cases e : j = k
    · subst e; simp
    · by_cases hk : j < k
      · simp [e, hk]; omega
      · have : ¬ j < k + 1 := by omega
        simp [e, hk, this]
theorem full_row {w : World} {lo : Nat} {E : TypeId} {b len cap : Nat} {z : Nat → Int} (h : Row w lo E b len cap (fun j => if j < len then z j else 0)) : Row w lo E b len cap z :=
  h.congr fun j hj => by simp [hj]
theorem zero_row {w : World} {lo : Nat} {E : TypeId} {b len cap k : Nat} {z : Nat → Int} (h : Row w lo E b len cap (fun j => if j < k then z j else 0)) (hk : k < len) : w.cell? ⟨b, k, none⟩ = some (.int .i64 0) := by
  have := h.cell hk; simpa using this
theorem first_row (w : World) (E : TypeId) (n : Nat) (hn : n ≤ maxLen) (z : Nat → Int) : Row (w.alloc (.cells (madeCells #[.int .i64 0] n) E)) w.heap.size E w.heap.size n n (fun j => if j < 0 then z j else 0) :=
  (Row.made w E n hn).congr fun j _ => by simp

theorem toInt (w : World) (a : Option Addr) (len cap : Nat) (z : Nat → Int) (hI : Ints w a len z) (hl : len ≤ 2000000) :
    Calls Tryd.prog 66 #[.slice a len cap] w (NewRow 3 w len z) := by
  have hmk := run_make_row' (P := Tryd.prog) 23 3 (.int .i64 0) 8 und_ints info_int rfl .i64 .i64 len (by omega) (by omega)
  go_enter Tryd.func66, Tryd.ntmps66
  go_wp2
  go_loopw [4] (fun i wr => ∃ k : Nat, k ≤ len ∧ i = .int .i64 k ∧ Row wr w.heap.size 3 w.heap.size len len (fun j => if j < k then z j else 0) ∧ w.grownBy wr none) (fun i _ => len - (intOf i).toNat)
  case atStart => exact ⟨0, by omega, rfl, first_row w _ _ (by unfold maxLen; omega) z, Draw.grown_alloc _ _ _⟩
  case round =>
    clear hmk
    obtain ⟨k, hk, rfl, hr, hg⟩ := hrel
    have HG := Lib.hid hg; clear hg
    by_cases hlt : k < len
    · rcases hI.kept HG.out with h | ⟨b, off, rfl, hb, hc⟩
      · omega
      have hcx := hc k hlt
      have c0 := zero_row hr hlt
      have f0 := hr.frozen k
      have HR := Lib.hid (step_row hr)
      clear hc hr hI
      go_wp2
      go_roundw
      case rel => exact ⟨k + 1, by omega, by go_num, HR.out, grown_new HG.out (Nat.le_refl _) (grown_set _ _ _ _)⟩
      case measure => simp [intOf]; omega
    · obtain rfl : k = len := by omega
      have HR := Lib.hid (full_row hr)
      clear hI hr
      go_wp2
      go_ret
      exact ⟨_, rfl, HR.out, HG.out⟩

theorem eqint (w : World) (a b : Option Addr) (len ca cb : Nat) (z : Nat → Int) (hA : Ints w a len z) (hB : Ints w b len z) (hl : len ≤ 2000000) :
    Calls Tryd.prog 68 #[.slice a len ca, .slice b len cb] w fun e w' => e = .returned (.bool true) ∧ w.grownBy w' none := by
  go_enter Tryd.func68, Tryd.ntmps68
  go_wp2
  go_loopw [5] (fun i wr => ∃ k : Nat, k ≤ len ∧ i = .int .i64 k ∧ w.grownBy wr none) (fun i _ => len - (intOf i).toNat)
  case atStart => exact ⟨0, by omega, rfl, Draw.grown_refl _ _⟩
  case round =>
    obtain ⟨k, hk, rfl, hg⟩ := hrel
    have HG := Lib.hid hg; clear hg
    by_cases hlt : k < len
    · rcases hA.kept HG.out with h | ⟨b1, off1, rfl, hb1, hc1⟩
      · omega
      rcases hB.kept HG.out with h | ⟨b2, off2, rfl, hb2, hc2⟩
      · omega
      have hcx := hc1 k hlt
      have hcy := hc2 k hlt
      clear hA hB hc1 hc2
      go_wp2
      go_quiet (fail)
      go_wp2
      go_roundw
      case rel => exact ⟨k + 1, by omega, by go_num, grown_drew HG.out _⟩
      case measure => simp [intOf]; omega
    · obtain rfl : k = len := by omega
      clear hA hB
      go_wp2
      go_ret
      exact ⟨rfl, HG.out⟩
end Con
end Go.Proofs.YtocecdnebkeeoaaDoor
