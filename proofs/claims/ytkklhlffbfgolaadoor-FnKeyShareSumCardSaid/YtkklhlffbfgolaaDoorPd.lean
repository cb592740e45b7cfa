/-
  The value of a polynomial at a place, as the model has it.
-/
import Derived.Test.YtkklhlffbfgolaaDoorPc
namespace Go.Proofs.YtkklhlffbfgolaaDoor
namespace Con
open Go.RowKit Alg Mem Pol
set_option linter.unusedVariables false

/-- What a slice's numbers are in the field. -/
def fl (z : Nat → Int) (len : Nat) : List F := (List.range len).map fun j => cv (z j)
theorem fl_length (z : Nat → Int) (len : Nat) : (fl z len).length = len := by simp [fl]
theorem fl_get (z : Nat → Int) {len k : Nat} (hk : k < len) : (fl z len)[k]'(by rw [fl_length]; exact hk) = cv (z k) := by simp [fl]
theorem fl_getD (z : Nat → Int) {len k : Nat} (hk : k < len) : (fl z len).getD k 0 = cv (z k) := by simp [fl, hk]
theorem fl_congr {z y : Nat → Int} {len : Nat} (h : ∀ j, j < len → z j = y j) : fl z len = fl y len := by
  apply List.ext_getElem
  · simp [fl]
  · intro i h1 h2
    have : i < len := by simpa [fl] using h1
    simp [fl, h i this]
theorem fl_fi (l : List F) : fl (fun j => fi (l.getD j 0)) l.length = l := by
  apply List.ext_getElem
  · simp [fl]
  · intro i h1 h2
    simp [fl, cv_fi, h2]
/-- The value from the k-th number on. -/
def pv (z : Nat → Int) (len : Nat) (x : F) (k : Nat) : F := ev ((fl z len).drop k) x
theorem pv_last (z : Nat → Int) (len : Nat) (x : F) : pv z len x len = 0 := by
  unfold pv; rw [List.drop_of_length_le (by simp [fl])]; rfl
theorem pv_step (z : Nat → Int) {len : Nat} (x : F) {k : Nat} (hk : k < len) : pv z len x k = pv z len x (k + 1) * x + cv (z k) := by
  unfold pv
  rw [List.drop_eq_getElem_cons (by simpa [fl] using hk)]
  simp only [ev, fl_get z hk]
theorem pv_all (z : Nat → Int) (len : Nat) (x : F) : pv z len x 0 = ev (fl z len) x := rfl
theorem horner {v : F} {x c : Int} (hx : fok x = true) (hc : fok c = true) : (fi v * x + c) % 23 = fi (v * cv x + cv c) := by
  rw [← fi_sum, ← fi_mul, fi_cv hx, fi_cv hc, sumF_in (mulF_ok _ _) hc, mulF_in (fi_ok v) hx]; omega
theorem ret_iz {x y : Int} (h : x = y) : Ending.returned (.int .i64 x) = .returned (.int .i64 y) := by rw [h]

/-- The model's value, of numbers and a place of the field. -/
theorem s3at (w : World) (a : Option Addr) (len cap : Nat) (z : Nat → Int) (x : Int) (hI : Ints w a len z) (hl : len ≤ 2000000) (hz : ∀ j, j < len → fok (z j) = true) (hx : fok x = true) :
    Calls Tryd.prog 66 #[.slice a len cap, .int .i64 x] w fun e w' => e = .returned (.int .i64 (fi (ev (fl z len) (cv x)))) ∧ w = w' := by
  have HX := Lib.hid hx
  have HZ := Lib.hid hz
  obtain ⟨x0, x1⟩ := fok_iff.1 hx
  clear hx hz
  go_enter Tryd.func66, Tryd.ntmps66
  go_wp2
  go_loop [5, 6] (fun o i => ∃ k : Nat, k ≤ len ∧ i = .int .i64 ((k : Int) - 1) ∧ o = .int .i64 (fi (pv z len (cv x) k))) (fun _ i => (intOf i + 1).toNat)
  case atStart => exact ⟨len, by omega, by first | rfl | go_num, by rw [pv_last]; rfl⟩
  case round =>
    obtain ⟨k, hk, rfl, rfl⟩ := hrel
    obtain ⟨v0, v1⟩ := fi_range (pv z len (cv x) k)
    by_cases hlt : 1 ≤ k
    · obtain ⟨m, rfl⟩ : ∃ m, k = m + 1 := ⟨k - 1, by omega⟩
      rcases hI with h | ⟨b1, off1, rfl, hb1, hc1⟩
      · omega
      have hcx := hc1 m (by omega)
      have hf := HZ.out m (by omega)
      obtain ⟨c0, c1⟩ := fok_iff.1 hf
      have u0 : 0 ≤ fi (pv z len (cv x) (m + 1)) * x := Int.mul_nonneg v0 x0
      have u1 : fi (pv z len (cv x) (m + 1)) * x ≤ 22 * 22 := Int.mul_le_mul v1 (by omega) x0 (by decide)
      have HR := Lib.hid ((horner (v := pv z len (cv x) (m + 1)) HX.out hf).trans (congrArg fi (pv_step z (cv x) (by omega : m < len)).symm))
      have t0 : 0 ≤ ((m + 1 : Nat) : Int) - 1 := by omega
      have t1 : (((m + 1 : Nat) : Int) - 1).toNat = m := by omega
      have t2 : ((m + 1 : Nat) : Int) - 1 < (len : Int) := by omega
      clear hc1 hf
      go_wp2
      go_round
      case rel => exact ⟨m, by omega, by go_num, by rw [← HR.out]⟩
      case measure => simp [intOf]
    · obtain rfl : k = 0 := by omega
      clear hI
      go_wp2
      go_ret
      exact ⟨rfl, rfl⟩
/-- What is asked of a polynomial and a place. -/
def patz (len : Nat) (z : Nat → Int) (x : Int) : Int := if pokz len z = true ∧ fok x = true then fi (ev (fl z len) (cv x)) else 0
theorem patz_in {len : Nat} {z : Nat → Int} {x : Int} (hp : pokz len z = true) (hx : fok x = true) : patz len z x = fi (ev (fl z len) (cv x)) := by unfold patz; rw [if_pos ⟨hp, hx⟩]
theorem patz_out {len : Nat} {z : Nat → Int} {x : Int} (h : pokz len z = false ∨ fok x = false) : patz len z x = 0 := by
  unfold patz; rcases h with h | h <;> simp [h]
theorem patz_ok (len : Nat) (z : Nat → Int) (x : Int) : fok (patz len z x) = true := by unfold patz; split; exact fi_ok _; rfl
end Con
end Go.Proofs.YtkklhlffbfgolaaDoor
