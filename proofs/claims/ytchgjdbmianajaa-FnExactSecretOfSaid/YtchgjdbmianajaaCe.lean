/-
  What the functions that test what is shown answer, the program's and the model's: whether there are one to five numbers, all of the group.
-/
import Derived.Test.YtchgjdbmianajaaPe
import Derived.Test.YtchgjdbmianajaaMem
import Derived.Test.YtchgjdbmianajaaPg
namespace Go.Proofs.Ytchgjdbmianajaa
namespace Con
open Go.RowKit Alg Mem
set_option linter.unusedVariables false

def gkz (z : Nat → Int) : Nat → Bool
  | 0 => true
  | k + 1 => gkz z k && gok (z k)
/-- Is it what is shown of a polynomial? -/
def cokz (len : Nat) (z : Nat → Int) : Bool := decide (1 ≤ len ∧ len ≤ 5) && gkz z len

theorem gkz_iff {z : Nat → Int} {n : Nat} : gkz z n = true ↔ ∀ j, j < n → gok (z j) = true := by
  induction n with
  | zero => simp [gkz]
  | succ n ih =>
    simp only [gkz, Bool.and_eq_true, ih]
    exact ⟨fun h j hj => by rcases Nat.lt_or_ge j n with h' | h'; exact h.1 j h'; obtain rfl : j = n := by omega
                            exact h.2, fun h => ⟨fun j hj => h j (by omega), h n (by omega)⟩⟩
theorem gkz_no {z : Nat → Int} {n k : Nat} (hk : k < n) (h : gok (z k) = false) : gkz z n = false := by
  cases h' : gkz z n with
  | false => rfl
  | true => rw [gkz_iff.1 h' k hk] at h; cases h
theorem gkz_next {z : Nat → Int} {k : Nat} (h : gkz z k = true) (hf : gok (z k) = true) : gkz z (k + 1) = true := by simp [gkz, h, hf]
theorem cokz_iff {len : Nat} {z : Nat → Int} : cokz len z = true ↔ 1 ≤ len ∧ len ≤ 5 ∧ ∀ j, j < len → gok (z j) = true := by
  unfold cokz; rw [Bool.and_eq_true, gkz_iff, decide_eq_true_eq, and_assoc]
theorem cokz_out {len : Nat} {z : Nat → Int} (h : len < 1 ∨ 5 < len) : cokz len z = false := by
  unfold cokz; rw [decide_eq_false (by omega)]; rfl
theorem cokz_in {len : Nat} {z : Nat → Int} (h1 : 1 ≤ len) (h5 : len ≤ 5) : cokz len z = gkz z len := by
  unfold cokz; rw [decide_eq_true ⟨h1, h5⟩]; rfl

theorem scok (w : World) (a : Option Addr) (len cap : Nat) (z : Nat → Int) (hI : Ints w a len z) (hl : len ≤ 2000000) :
    Calls Try.prog 81 #[.slice a len cap] w fun e w' => e = .returned (.bool (cokz len z)) ∧ w = w' := by
  go_enter Try.func81, Try.ntmps81
  go_wp2
  go_loop [3] (fun i => ∃ k : Nat, k ≤ len ∧ i = .int .i64 k ∧ gkz z k = true) (fun i => len - (intOf i).toNat)
  case atStart => exact ⟨0, by omega, rfl, rfl⟩
  case round =>
    obtain ⟨k, hk, rfl, hz⟩ := hrel
    have HZ := Lib.hid hz; clear hz
    by_cases hlt : k < len
    · rcases hI with h | ⟨b, off, rfl, hb, hc⟩
      · omega
      have hcx := hc k hlt
      clear hc
      cases hf : gok (z k) with
      | false =>
        have HR := Lib.hid (show cokz len z = false by unfold cokz; rw [gkz_no hlt hf, Bool.and_false])
        go_wp2_with (go_at_call 86; refine (sgok_no _ _ (by assumption)).mono ?_; rintro e w' ⟨rfl, rfl⟩)
        go_ret
        exact ⟨ret_b HR.out.symm, rfl⟩
      | true =>
        have HR := Lib.hid (gkz_next HZ.out hf)
        go_wp2_with (go_at_call 86; refine (sgok_yes _ _ (by assumption)).mono ?_; rintro e w' ⟨rfl, rfl⟩)
        go_round
        case rel => exact ⟨k + 1, by omega, by go_num, HR.out⟩
        case measure => simp [intOf]; omega
    · obtain rfl : k = len := by omega
      clear hI
      by_cases h1 : 1 ≤ k
      · by_cases h5 : k ≤ 5
        · have HR := Lib.hid ((cokz_in h1 h5).trans HZ.out)
          have h1' : (1 : Int) ≤ (k : Int) := by omega
          have h5' : (k : Int) ≤ 5 := by omega
          go_wp2_with go_in
          go_ret
          exact ⟨ret_b HR.out.symm, rfl⟩
        · have HR := Lib.hid (cokz_out (z := z) (.inr (by omega) : k < 1 ∨ 5 < k))
          have h1' : (1 : Int) ≤ (k : Int) := by omega
          have h5' : ¬ (k : Int) ≤ 5 := by omega
          go_wp2_with go_in
          go_ret
          exact ⟨ret_b HR.out.symm, rfl⟩
      · obtain rfl : k = 0 := by omega
        have HR := Lib.hid (cokz_out (z := z) (.inl (by omega) : 0 < 1 ∨ 5 < 0))
        go_wp2_with go_in
        go_ret
        exact ⟨ret_b HR.out.symm, rfl⟩
end Con
end Go.Proofs.Ytchgjdbmianajaa
/-
  What is shown of a polynomial's value at a place, the program's and the model's: in the exponents it is the polynomial's value.
-/

namespace Go.Proofs.Ytchgjdbmianajaa
namespace Con
open Go.RowKit Go.Shelf Alg Mem Pol
set_option linter.unusedVariables false
attribute [local go_sem] Oper.semAt_some

/-- The exponents. -/
def lz (z : Nat → Int) (j : Nat) : Int := lg (z j)
theorem lz_ok {z : Nat → Int} {j : Nat} (h : gok (z j) = true) : fok (lz z j) = true := (lg_ok h).1
theorem lz_of {z : Nat → Int} {j : Nat} (h : gok (z j) = true) : gofF (lz z j) = z j := (lg_ok h).2
theorem lz_fi {z : Nat → Int} {j : Nat} (h : gok (z j) = true) : gofF (fi (cv (lz z j))) = z j := by rw [fi_cv (lz_ok h)]; exact lz_of h
/-- One step of the value, in the exponents. -/
theorem gstep {v : F} {x e : Int} (hx : fok x = true) (he : fok e = true) : pw (gofF (fi v)) x.toNat * gofF e % 47 = gofF (fi (v * cv x + cv e)) := by
  have h1 : pw (gofF (fi v)) x.toNat = gofF (mulF (fi v) x) := by rw [← gpow_of (fi_ok v) hx, gpow_in (gof_ok (fi_ok v)) hx]
  rw [h1, ← gmul_in (gof_ok (mulF_ok _ _)) (gof_ok he), gmul_of (mulF_ok _ _) he, ← fi_sum, ← fi_mul, fi_cv hx, fi_cv he]
theorem gstepz {v : F} {x c : Int} (hx : fok x = true) (hc : gok c = true) : pw (gofF (fi v)) x.toNat * c % 47 = gofF (fi (v * cv x + cv (lg c))) := by
  have h := gstep (v := v) hx (lg_ok hc).1; rw [(lg_ok hc).2] at h; exact h
theorem gfi_range (v : F) : 1 ≤ gofF (fi v) ∧ gofF (fi v) ≤ 46 := gok_range (gof_ok (fi_ok v))

set_option maxHeartbeats 1000000 in
/-- The model's value, of numbers of the group and a place of the field. -/
theorem s4at (w : World) (a : Option Addr) (len cap : Nat) (z : Nat → Int) (x : Int) (hI : Ints w a len z) (hl : len ≤ 2000000) (hz : ∀ j, j < len → gok (z j) = true) (hx : fok x = true) :
    Calls Try.prog 85 #[.slice a len cap, .int .i64 x] w fun e w' => e = .returned (.int .i64 (gofF (fi (ev (fl (lz z) len) (cv x))))) ∧ w.grownBy w' none := by
  have HX := Lib.hid hx
  have HZ := Lib.hid hz
  obtain ⟨x0, x1⟩ := fok_iff.1 hx
  clear hx hz
  go_enter Try.func85, Try.ntmps85
  go_wp2
  go_loopw [5, 6] (fun o i wr => ∃ k : Nat, k ≤ len ∧ i = .int .i64 ((k : Int) - 1) ∧ o = .int .i64 (gofF (fi (pv (lz z) len (cv x) k))) ∧ w.grownBy wr none) (fun _ i _ => (intOf i + 1).toNat)
  case atStart => exact ⟨len, by omega, by first | rfl | go_num, by rw [pv_last]; rfl, Draw.grown_refl _ _⟩
  case round =>
    obtain ⟨k, hk, rfl, rfl, hg⟩ := hrel
    have HI := Lib.hid (hI.kept hg)
    have HG := Lib.hid hg; clear hI hg
    obtain ⟨v0, v1⟩ := gfi_range (pv (lz z) len (cv x) k)
    by_cases hlt : 1 ≤ k
    · obtain ⟨m, rfl⟩ : ∃ m, k = m + 1 := ⟨k - 1, by omega⟩
      obtain ⟨b1, off1, rfl, hb1, hc1⟩ := HI.out.ptr (by omega)
      have hcx := hc1 m (by omega)
      have hf := HZ.out m (by omega)
      obtain ⟨c0, c1⟩ := gok_range hf
      have hP := pw_range (gofF (fi (pv (lz z) len (cv x) (m + 1)))) x.toNat
      have u0 : 0 ≤ pw (gofF (fi (pv (lz z) len (cv x) (m + 1)))) x.toNat * z m := Int.mul_nonneg hP.1 (by omega)
      have u1 : pw (gofF (fi (pv (lz z) len (cv x) (m + 1)))) x.toNat * z m ≤ 46 * 46 := Int.mul_le_mul hP.2 c1 (by omega) (by decide)
      have HR := Lib.hid ((gstepz (v := pv (lz z) len (cv x) (m + 1)) HX.out hf).trans (congrArg (fun v => gofF (fi v)) (pv_step (lz z) (cv x) (by omega : m < len)).symm))
      have t0 : 0 ≤ ((m + 1 : Nat) : Int) - 1 := by omega
      have t1 : (((m + 1 : Nat) : Int) - 1).toNat = m := by omega
      have t2 : ((m + 1 : Nat) : Int) - 1 < (len : Int) := by omega
      clear hc1 hf hP
      go_wp2
      go_quiet (first | (go_at_call 84; refine Calls.quiet_of_same ((spow _ _ _ (by omega) (by omega) (by omega) (by omega)).mono fun _ _ h => ⟨h.1, h.2.symm⟩)))
      have HG2 := Lib.hid (grown_drew HG.out nq)
      go_wp2
      go_roundw
      case rel => exact ⟨m, by omega, by go_num, by rw [← HR.out], HG2.out⟩
      case measure => simp [intOf]
    · obtain rfl : k = 0 := by omega
      go_wp2
      go_ret
      exact ⟨rfl, HG.out⟩

end Con
end Go.Proofs.Ytchgjdbmianajaa
/-
  What is shown at a place, and whether a number fits what is shown: the program's and the model's functions, at every argument.
-/

namespace Go.Proofs.Ytchgjdbmianajaa
namespace Con
open Go.RowKit Alg Mem Pol
set_option linter.unusedVariables false

/-- What is shown at a place. -/
def catz (len : Nat) (z : Nat → Int) (x : Int) : Int := if cokz len z = true ∧ fok x = true then gofF (fi (ev (fl (lz z) len) (cv x))) else 0
theorem catz_in {len : Nat} {z : Nat → Int} {x : Int} (hp : cokz len z = true) (hx : fok x = true) : catz len z x = gofF (fi (ev (fl (lz z) len) (cv x))) := by unfold catz; rw [if_pos ⟨hp, hx⟩]
theorem catz_out {len : Nat} {z : Nat → Int} {x : Int} (h : cokz len z = false ∨ fok x = false) : catz len z x = 0 := by
  unfold catz; rcases h with h | h <;> simp [h]
/-- Does a number fit what is shown, at a place? -/
def cfz (len : Nat) (z : Nat → Int) (x n : Int) : Bool := cokz len z && (fok x && (fok n && (gofF n == catz len z x)))
theorem cfz_in {len : Nat} {z : Nat → Int} {x n : Int} (hp : cokz len z = true) (hx : fok x = true) (hn : fok n = true) : cfz len z x n = (gofF n == catz len z x) := by simp [cfz, hp, hx, hn]
theorem cfz_out {len : Nat} {z : Nat → Int} {x n : Int} (h : cokz len z = false ∨ fok x = false ∨ fok n = false) : cfz len z x n = false := by
  unfold cfz; rcases h with h | h | h <;> simp [h]
end Con
end Go.Proofs.Ytchgjdbmianajaa
/-
  Whether a number fits what is shown: the program's and the model's functions, at every argument.
-/

namespace Go.Proofs.Ytchgjdbmianajaa
namespace Con
open Go.RowKit Alg Mem Pol
set_option linter.unusedVariables false

theorem s4fit (w : World) (a : Option Addr) (len cap : Nat) (z : Nat → Int) (x n : Int) (hI : Ints w a len z) (hl : len ≤ 2000000) (hz : ∀ j, j < len → gok (z j) = true) (hx : fok x = true) (hn : fok n = true) :
    Calls Try.prog 75 #[.slice a len cap, .int .i64 x, .int .i64 n] w fun e w' => e = .returned (.bool (gofF n == gofF (fi (ev (fl (lz z) len) (cv x))))) ∧ w.grownBy w' none := by
  have HI := Lib.hid hI; have HZ := Lib.hid hz; have HX := Lib.hid hx; have HN := Lib.hid hn
  have HO := Lib.hid (gof_in hn)
  obtain ⟨n0, n1⟩ := fok_iff.1 hn
  clear hI hz hx hn
  go_enter Try.func75, Try.ntmps75
  go_wp2_with (first
    | (go_at_call 84; refine (spow _ _ _ (by omega) (by omega) (by omega) (by omega)).mono ?_; rintro e w' ⟨rfl, rfl⟩)
    | (go_at_call 85; refine (s4at _ _ _ _ z x HI.out (by omega) HZ.out HX.out).mono ?_; rintro e w' ⟨rfl, hg⟩))
  go_ret
  refine ⟨ret_b ?_, hg⟩
  rw [HO.out]
end Con
end Go.Proofs.Ytchgjdbmianajaa
/-
  What the model shows of a polynomial.
-/

namespace Go.Proofs.Ytchgjdbmianajaa
namespace Con
open Go.RowKit Alg Mem Pol
set_option linter.unusedVariables false

/-- What is shown, number by number. -/
def gz (z : Nat → Int) (j : Nat) : Int := gofF (z j)
set_option maxRecDepth 100000 in
set_option maxHeartbeats 1000000 in
theorem s4of (w : World) (a : Option Addr) (len cap : Nat) (z : Nat → Int) (hI : Ints w a len z) (hl : len ≤ 2000000) (hz : ∀ j, j < len → fok (z j) = true) :
    Calls Try.prog 79 #[.slice a len cap] w (Own1 3 w len (gz z)) := by
  have HA := Lib.hid hI; have HZ := Lib.hid hz; clear hI hz
  obtain ⟨i0, hi, hz0, hz1, hz2⟩ := info_parts info_int
  go_enter Try.func79, Try.ntmps79
  go_wp2
  go_loopw [3, 4] (fun v i wr => ∃ k b cap : Nat, k ≤ len ∧ v = .slice (some ⟨b, 0, none⟩) k cap ∧ i = .int .i64 k ∧ Row wr w.heap.size 3 b k cap (gz z) ∧ w.grownBy wr none) (fun _ i _ => len - (intOf i).toNat)
  case atStart => exact ⟨0, w.heap.size, 0, by omega, rfl, rfl, row_empty w _ _, Draw.grown_alloc _ _ _⟩
  case round =>
    obtain ⟨k, bo, co, hk, rfl, rfl, hr, hg⟩ := hrel
    have HG := Lib.hid hg; have hge := hr.from_; have HW := Lib.hid hr; clear hg hr
    have hsz := HG.out.size
    by_cases hka : k < len
    · have hlt : (k : Int) < (len : Int) := by omega
      obtain ⟨b1, o1, rfl, hb1, hc1⟩ := (HA.out.kept HG.out).ptr (by omega)
      have hcx := hc1 k hka
      clear hc1
      obtain ⟨n0, n1⟩ := fok_iff.1 (HZ.out k hka)
      have HS := Lib.hid (show pw 2 (z k).toNat = gz z k from (gof_in (HZ.out k hka)).symm)
      go_wp2_with (first
        | (go_at_call 84; refine (spow _ _ _ (by omega) (by omega) (by omega) (by omega)).mono ?_; rintro e w' ⟨rfl, rfl⟩)
        | (at_builtin; refine wpList_append_own _ rfl _ _ 23 rfl w.heap.size 3 i0 (.int .i64 0) 1 8 und_ints hi hz0 hz1 hz2 rfl (by decide) _ k (vals (gz z) k) rfl (HW.out.alloc _).owns ⟨wr.heap.size, 0, none⟩ 1 1 [.int .i64 (pw 2 (z k).toNat)] rfl rfl (cell_one_new _ _ _) (by simp [Value.oneCell']) (by unfold maxLen; omega) (by omega) (by simp; omega) ?_; intro v' w1 hown' hgrow _))
      obtain ⟨b', cap', rfl, hrow⟩ := app_row hown' HS.out
      have HR := Lib.hid hrow; have HGr := Lib.hid (app_grown HG.out hge hgrow)
      clear hown' hgrow hrow
      go_wp2
      go_roundw
      case rel => exact ⟨k + 1, b', cap', by omega, rfl, by go_num, HR.out, HGr.out⟩
      case measure => simp [intOf]; omega
    · obtain rfl : k = len := by omega
      go_wp2
      go_ret
      exact ⟨_, _, rfl, HW.out, HG.out⟩
end Con
end Go.Proofs.Ytchgjdbmianajaa
