/-
  What the functions that test what is shown answer, the program's and the model's: whether there are one to five numbers, all of the group.
-/
import Derived.Test.YthbigmcklacbnaaGreatDoorPe
import Derived.Test.YthbigmcklacbnaaGreatDoorMem
import Derived.Test.YthbigmcklacbnaaGreatDoorPg
namespace Go.Proofs.YthbigmcklacbnaaGreatDoor
namespace Con
open Go.RowKit Alg Mem
set_option linter.unusedVariables false

def gkz (z : Nat → Int) : Nat → Bool
  | 0 => true
  | k + 1 => gkz z k && gok (z k)
/-- Is it what is shown of a polynomial? -/
def cokz (len : Nat) (z : Nat → Int) : Bool := decide (1 ≤ len ∧ len ≤ 5) && gkz z len

theorem gkz_iff {z : Nat → Int} {n : Nat} : gkz z n = true ↔ ∀ j, j < n → gok (z j) = true := by
  induction n with
  | zero => simp [gkz]
  | succ n ih =>
    simp only [gkz, Bool.and_eq_true, ih]
    exact ⟨fun h j hj => by rcases Nat.lt_or_ge j n with h' | h'; exact h.1 j h'; obtain rfl : j = n := by omega
                            exact h.2, fun h => ⟨fun j hj => h j (by omega), h n (by omega)⟩⟩
theorem gkz_no {z : Nat → Int} {n k : Nat} (hk : k < n) (h : gok (z k) = false) : gkz z n = false := by
  cases h' : gkz z n with
  | false => rfl
  | true => rw [gkz_iff.1 h' k hk] at h; cases h
theorem gkz_next {z : Nat → Int} {k : Nat} (h : gkz z k = true) (hf : gok (z k) = true) : gkz z (k + 1) = true := by simp [gkz, h, hf]
theorem cokz_iff {len : Nat} {z : Nat → Int} : cokz len z = true ↔ 1 ≤ len ∧ len ≤ 5 ∧ ∀ j, j < len → gok (z j) = true := by
  unfold cokz; rw [Bool.and_eq_true, gkz_iff, decide_eq_true_eq, and_assoc]
theorem cokz_out {len : Nat} {z : Nat → Int} (h : len < 1 ∨ 5 < len) : cokz len z = false := by
  unfold cokz; rw [decide_eq_false (by omega)]; rfl
theorem cokz_in {len : Nat} {z : Nat → Int} (h1 : 1 ≤ len) (h5 : len ≤ 5) : cokz len z = gkz z len := by
  unfold cokz; rw [decide_eq_true ⟨h1, h5⟩]; rfl

theorem iall_g (w : World) (a : Option Addr) (len cap : Nat) (z : Nat → Int) (hI : Ints w a len z) (hl : len ≤ 2000000) :
    Calls Tryz.prog 47 #[.slice a len cap, .func (.func 52) #[] #[]] w fun e w' => e = .returned (.bool (gkz z len)) ∧ w.grownBy w' none := by
  go_enter Tryz.func47, Tryz.ntmps47
  go_wp2
  go_loopw [9] (fun i wr => ∃ k : Nat, k ≤ len ∧ i = .int .i64 k ∧ gkz z k = true ∧ w.grownBy wr none) (fun i _ => len - (intOf i).toNat)
  case atStart => exact ⟨0, by omega, rfl, rfl, Draw.grown_refl _ _⟩
  case round =>
    obtain ⟨k, hk, rfl, hz, hg⟩ := hrel
    have HZ := Lib.hid hz; clear hz
    have HI := Lib.hid (hI.kept hg)
    have HG := Lib.hid hg; clear hg hI
    by_cases hlt : k < len
    · obtain ⟨b, off, rfl, hb, hc⟩ := HI.out.ptr (by omega)
      have hcx := hc k hlt
      clear hc
      cases hf : gok (z k) with
      | false =>
        have HR := Lib.hid (gkz_no hlt hf)
        go_wp2_with (go_at_call 52; refine (igok_no _ _ (by assumption)).mono ?_; rintro e w' ⟨rfl, hg1⟩)
        go_ret
        exact ⟨ret_b HR.out.symm, gtr HG.out hg1⟩
      | true =>
        have HR := Lib.hid (gkz_next HZ.out hf)
        go_wp2_with (go_at_call 52; refine (igok_yes _ _ (by assumption)).mono ?_; rintro e w' ⟨rfl, hg1⟩)
        have HG1 := Lib.hid (gtr HG.out hg1); clear hg1
        go_roundw
        case rel => exact ⟨k + 1, by omega, by go_num, HR.out, HG1.out⟩
        case measure => simp [intOf]; omega
    · obtain rfl : k = len := by omega
      go_wp2
      go_ret
      exact ⟨ret_b HZ.out.symm, HG.out⟩
theorem icoef_g (w : World) (a : Option Addr) (len cap : Nat) (z : Nat → Int) (hI : Ints w a len z) (hl : len ≤ 2000000) :
    Calls Tryz.prog 74 #[.slice a len cap, .func (.func 52) #[] #[]] w fun e w' => e = .returned (.bool (cokz len z)) ∧ w.grownBy w' none := by
  have HI := Lib.hid hI; clear hI
  by_cases h1 : 1 ≤ len
  · by_cases h5 : len ≤ 5
    · have HR := Lib.hid (cokz_in (z := z) h1 h5)
      have h1' : (1 : Int) ≤ (len : Int) := by omega
      have h5' : (len : Int) ≤ 5 := by omega
      go_enter Tryz.func74, Tryz.ntmps74
      go_wp2_with (go_at_call 47; refine (iall_g _ _ _ _ _ HI.out hl).mono ?_; rintro e w' ⟨rfl, hg⟩)
      go_ret
      exact ⟨ret_b HR.out.symm, hg⟩
    · have HR := Lib.hid (cokz_out (z := z) (.inr (by omega) : len < 1 ∨ 5 < len))
      have h1' : (1 : Int) ≤ (len : Int) := by omega
      have h5' : ¬ (len : Int) ≤ 5 := by omega
      go_enter Tryz.func74, Tryz.ntmps74
      go_wp2
      go_ret
      exact ⟨ret_b HR.out.symm, Draw.grown_refl _ _⟩
  · have HR := Lib.hid (cokz_out (z := z) (.inl (by omega) : len < 1 ∨ 5 < len))
    have h1' : ¬ (1 : Int) ≤ (len : Int) := by omega
    go_enter Tryz.func74, Tryz.ntmps74
    go_wp2
    go_ret
    exact ⟨ret_b HR.out.symm, Draw.grown_refl _ _⟩
theorem icok (w : World) (a : Option Addr) (len cap : Nat) (z : Nat → Int) (hI : Ints w a len z) (hl : len ≤ 2000000) :
    Calls Tryz.prog 46 #[.slice a len cap] w fun e w' => e = .returned (.bool (cokz len z)) ∧ w.grownBy w' none := by
  have HI := Lib.hid hI; clear hI
  go_enter Tryz.func46, Tryz.ntmps46
  go_wp2_with (go_at_call 74; refine (icoef_g _ _ _ _ _ HI.out hl).mono ?_; rintro e w' ⟨rfl, hg⟩)
  go_ret
  exact ⟨rfl, hg⟩

theorem scok (w : World) (a : Option Addr) (len cap : Nat) (z : Nat → Int) (hI : Ints w a len z) (hl : len ≤ 2000000) :
    Calls Tryz.prog 69 #[.slice a len cap] w fun e w' => e = .returned (.bool (cokz len z)) ∧ w = w' := by
  go_enter Tryz.func69, Tryz.ntmps69
  go_wp2
  go_loop [3] (fun i => ∃ k : Nat, k ≤ len ∧ i = .int .i64 k ∧ gkz z k = true) (fun i => len - (intOf i).toNat)
  case atStart => exact ⟨0, by omega, rfl, rfl⟩
  case round =>
    obtain ⟨k, hk, rfl, hz⟩ := hrel
    have HZ := Lib.hid hz; clear hz
    by_cases hlt : k < len
    · rcases hI with h | ⟨b, off, rfl, hb, hc⟩
      · omega
      have hcx := hc k hlt
      clear hc
      cases hf : gok (z k) with
      | false =>
        have HR := Lib.hid (show cokz len z = false by unfold cokz; rw [gkz_no hlt hf, Bool.and_false])
        go_wp2_with (go_at_call 33; refine (sgok_no _ _ (by assumption)).mono ?_; rintro e w' ⟨rfl, rfl⟩)
        go_ret
        exact ⟨ret_b HR.out.symm, rfl⟩
      | true =>
        have HR := Lib.hid (gkz_next HZ.out hf)
        go_wp2_with (go_at_call 33; refine (sgok_yes _ _ (by assumption)).mono ?_; rintro e w' ⟨rfl, rfl⟩)
        go_round
        case rel => exact ⟨k + 1, by omega, by go_num, HR.out⟩
        case measure => simp [intOf]; omega
    · obtain rfl : k = len := by omega
      clear hI
      by_cases h1 : 1 ≤ k
      · by_cases h5 : k ≤ 5
        · have HR := Lib.hid ((cokz_in h1 h5).trans HZ.out)
          have h1' : (1 : Int) ≤ (k : Int) := by omega
          have h5' : (k : Int) ≤ 5 := by omega
          go_wp2_with go_in
          go_ret
          exact ⟨ret_b HR.out.symm, rfl⟩
        · have HR := Lib.hid (cokz_out (z := z) (.inr (by omega) : k < 1 ∨ 5 < k))
          have h1' : (1 : Int) ≤ (k : Int) := by omega
          have h5' : ¬ (k : Int) ≤ 5 := by omega
          go_wp2_with go_in
          go_ret
          exact ⟨ret_b HR.out.symm, rfl⟩
      · obtain rfl : k = 0 := by omega
        have HR := Lib.hid (cokz_out (z := z) (.inl (by omega) : 0 < 1 ∨ 5 < 0))
        go_wp2_with go_in
        go_ret
        exact ⟨ret_b HR.out.symm, rfl⟩
end Con
end Go.Proofs.YthbigmcklacbnaaGreatDoor
/-
  What is shown of a polynomial's value at a place, the program's and the model's: in the exponents it is the polynomial's value.
-/

namespace Go.Proofs.YthbigmcklacbnaaGreatDoor
namespace Con
open Go.RowKit Go.Shelf Alg Mem Pol
set_option linter.unusedVariables false
attribute [local go_sem] Oper.semAt_some

/-- The exponents. -/
def lz (z : Nat → Int) (j : Nat) : Int := lg (z j)
theorem lz_ok {z : Nat → Int} {j : Nat} (h : gok (z j) = true) : fok (lz z j) = true := (lg_ok h).1
theorem lz_of {z : Nat → Int} {j : Nat} (h : gok (z j) = true) : gofF (lz z j) = z j := (lg_ok h).2
theorem lz_fi {z : Nat → Int} {j : Nat} (h : gok (z j) = true) : gofF (fi (cv (lz z j))) = z j := by rw [fi_cv (lz_ok h)]; exact lz_of h
/-- One step of the value, in the exponents. -/
theorem gstep {v : F} {x e : Int} (hx : fok x = true) (he : fok e = true) : pw (gofF (fi v)) x.toNat * gofF e % 47 = gofF (fi (v * cv x + cv e)) := by
  have h1 : pw (gofF (fi v)) x.toNat = gofF (mulF (fi v) x) := by rw [← gpow_of (fi_ok v) hx, gpow_in (gof_ok (fi_ok v)) hx]
  rw [h1, ← gmul_in (gof_ok (mulF_ok _ _)) (gof_ok he), gmul_of (mulF_ok _ _) he, ← fi_sum, ← fi_mul, fi_cv hx, fi_cv he]
theorem gstepz {v : F} {x c : Int} (hx : fok x = true) (hc : gok c = true) : pw (gofF (fi v)) x.toNat * c % 47 = gofF (fi (v * cv x + cv (lg c))) := by
  have h := gstep (v := v) hx (lg_ok hc).1; rw [(lg_ok hc).2] at h; exact h
theorem gfi_range (v : F) : 1 ≤ gofF (fi v) ∧ gofF (fi v) ≤ 46 := gok_range (gof_ok (fi_ok v))

set_option maxHeartbeats 1000000 in
/-- The model's value, of numbers of the group and a place of the field. -/
theorem s4at (w : World) (a : Option Addr) (len cap : Nat) (z : Nat → Int) (x : Int) (hI : Ints w a len z) (hl : len ≤ 2000000) (hz : ∀ j, j < len → gok (z j) = true) (hx : fok x = true) :
    Calls Tryz.prog 93 #[.slice a len cap, .int .i64 x] w fun e w' => e = .returned (.int .i64 (gofF (fi (ev (fl (lz z) len) (cv x))))) ∧ w.grownBy w' none := by
  have HX := Lib.hid hx
  have HZ := Lib.hid hz
  obtain ⟨x0, x1⟩ := fok_iff.1 hx
  clear hx hz
  go_enter Tryz.func93, Tryz.ntmps93
  go_wp2
  go_loopw [5, 6] (fun o i wr => ∃ k : Nat, k ≤ len ∧ i = .int .i64 ((k : Int) - 1) ∧ o = .int .i64 (gofF (fi (pv (lz z) len (cv x) k))) ∧ w.grownBy wr none) (fun _ i _ => (intOf i + 1).toNat)
  case atStart => exact ⟨len, by omega, by first | rfl | go_num, by rw [pv_last]; rfl, Draw.grown_refl _ _⟩
  case round =>
    obtain ⟨k, hk, rfl, rfl, hg⟩ := hrel
    have HI := Lib.hid (hI.kept hg)
    have HG := Lib.hid hg; clear hI hg
    obtain ⟨v0, v1⟩ := gfi_range (pv (lz z) len (cv x) k)
    by_cases hlt : 1 ≤ k
    · obtain ⟨m, rfl⟩ : ∃ m, k = m + 1 := ⟨k - 1, by omega⟩
      obtain ⟨b1, off1, rfl, hb1, hc1⟩ := HI.out.ptr (by omega)
      have hcx := hc1 m (by omega)
      have hf := HZ.out m (by omega)
      obtain ⟨c0, c1⟩ := gok_range hf
      have hP := pw_range (gofF (fi (pv (lz z) len (cv x) (m + 1)))) x.toNat
      have u0 : 0 ≤ pw (gofF (fi (pv (lz z) len (cv x) (m + 1)))) x.toNat * z m := Int.mul_nonneg hP.1 (by omega)
      have u1 : pw (gofF (fi (pv (lz z) len (cv x) (m + 1)))) x.toNat * z m ≤ 46 * 46 := Int.mul_le_mul hP.2 c1 (by omega) (by decide)
      have HR := Lib.hid ((gstepz (v := pv (lz z) len (cv x) (m + 1)) HX.out hf).trans (congrArg (fun v => gofF (fi v)) (pv_step (lz z) (cv x) (by omega : m < len)).symm))
      have t0 : 0 ≤ ((m + 1 : Nat) : Int) - 1 := by omega
      have t1 : (((m + 1 : Nat) : Int) - 1).toNat = m := by omega
      have t2 : ((m + 1 : Nat) : Int) - 1 < (len : Int) := by omega
      clear hc1 hf hP
      go_wp2
      go_quiet (first | (go_at_call 14; refine Calls.quiet_of_same ((spow _ _ _ (by omega) (by omega) (by omega) (by omega)).mono fun _ _ h => ⟨h.1, h.2.symm⟩)))
      have HG2 := Lib.hid (grown_drew HG.out nq)
      go_wp2
      go_roundw
      case rel => exact ⟨m, by omega, by go_num, by rw [← HR.out], HG2.out⟩
      case measure => simp [intOf]
    · obtain rfl : k = 0 := by omega
      go_wp2
      go_ret
      exact ⟨rfl, HG.out⟩

set_option maxRecDepth 100000 in
set_option maxHeartbeats 2000000 in
theorem cbwd1 (Fe : Fence) (n : Nat) (h7 : Fe.fn 136) (hro : Fe.round = none) (hn : 1 ≤ n) (l Bs n₀ : Nat) (a : Option Addr) (len cap : Nat) (z : Nat → Int) (hl : len ≤ 2000000) (hn0 : ∀ b off, a = some ⟨b, off, none⟩ → b < n₀)
    (hz : ∀ j, j < len → gok (z j) = true) (J Jx : List (Nat × F) → World → Prop)
    (hY : ∀ pre x W, J pre W → pre.length < len → YieldAt Fe (n - 1) Tryz.prog l #[.int .i64 (x.1 : Int), .int .i64 (gofF (fi x.2))] W fun e W' =>
      (e = .returned (.bool true) ∧ J (pre ++ [x]) W' ∧ Kept n₀ Bs Bs W W') ∨ (e = .returned (.bool false) ∧ Jx (pre ++ [x]) W'))
    (W : World) (hBs : W.cell? ⟨Bs, 0, none⟩ = some (.slice a len cap)) (hI : Ints W a len z) (h0 : J [] W) :
    CallsIn Fe n Tryz.prog 136 #[.func (.yield l) #[] #[], .pointer (some ⟨Bs, 0, none⟩)] W fun e W' => (∃ v, e = .returned v) ∧
      ((∃ ys, ys = upto (bkf (lz z) len) len ∧ J ys W') ∨ (∃ pre, True ∧ Jx pre W')) := by
  refine callsIn_of_wp Tryz.func136 rfl h7 ?_ hro
  simp only [Tryz.ntmps136, List.size_toArray, List.length_cons, List.length_nil, Nat.reduceAdd, Nat.reduceSub, Array.replicate_succ, Array.replicate_zero, List.push_toArray, List.append_toArray, List.nil_append, List.cons_append]
  have HI := Lib.hid hI; have HZ := Lib.hid hz; clear hI hz
  gi_wp2
  gi_loopw [3] (fun i wr => ∃ k : Nat, k ≤ len ∧ i = .int .i64 ((k : Int) - 1) ∧ J (upto (bkf (lz z) len) (len - k)) wr ∧ Kept n₀ Bs Bs W wr)
    (fun i _ => (intOf i + 1).toNat)
  case atStart => exact ⟨len, Nat.le_refl _, by first | rfl | go_num, by rw [Nat.sub_self]; exact h0, Below.refl _ _, rfl, rfl⟩
  case round =>
    obtain ⟨k, hk, rfl, hJs, hnx⟩ := hrel
    have hBr : wr.cell? ⟨Bs, 0, none⟩ = some (.slice a len cap) := (World.cell?_of_block (w := W) (w' := wr) hnx.2.1).trans hBs
    by_cases hlt : 1 ≤ k
    · obtain ⟨m, rfl⟩ : ∃ m, k = m + 1 := ⟨k - 1, by omega⟩
      obtain ⟨b, off, rfl, hb, hc⟩ := HI.out.ptr (by omega)
      have hcx : wr.cell? ⟨b, off + m, none⟩ = some (.int .i64 (z m)) := (hnx.1.cell (p := ⟨b, off + m, none⟩) (hn0 b off rfl)).trans (hc m (by omega))
      have hx : bkf (lz z) len (len - (m + 1)) = (m, cv (lz z m)) := by unfold bkf; rw [show len - 1 - (len - (m + 1)) = m from by omega]
      have hfz := lz_fi (HZ.out m (by omega))
      obtain ⟨fn, tmps, assign, body, hy, hR⟩ := hY _ (m, cv (lz z m)) wr hJs (by rw [upto_length]; omega)
      dsimp only at hy hR
      rw [hfz] at hy
      have HX := Lib.hid hx; have HF := Lib.hid hfz; clear hx hfz hc
      have t0 : 0 ≤ ((m + 1 : Nat) : Int) - 1 := by omega
      have t1 : (((m + 1 : Nat) : Int) - 1).toNat = m := by omega
      have t2 : ((m + 1 : Nat) : Int) - 1 < (len : Int) := by omega
      have t3 : ((m + 1 : Nat) : Int) - 1 = (m : Int) := by omega
      gi_wp2
      refine hR.mono ?_
      rintro e W3 (⟨rfl, hJ3, hk3⟩ | ⟨rfl, hJx3⟩)
      · gi_wp2
        go_roundw
        case rel => exact ⟨m, by omega, by go_num, by rw [show len - m = (len - (m + 1)) + 1 from by omega, upto_succ, HX.out]; exact hJ3, kept_t hnx hk3⟩
        case measure => simp [intOf]
      · gi_wp2
        refine bodyPost_ret (results_none rfl _ _ _) rfl ?_
        exact ⟨⟨_, rfl⟩, .inr ⟨_, trivial, hJx3⟩⟩
    · obtain rfl : k = 0 := by omega
      gi_wp2
      go_end0
      exact ⟨⟨_, rfl⟩, .inl ⟨_, rfl, hJs⟩⟩
theorem cbwd (w : World) (a : Option Addr) (len cap : Nat) :
    Calls Tryz.prog 135 #[.slice a len cap] w fun e w' => e = .returned (.func (.func 136) #[] #[.pointer (some ⟨w.heap.size, 0, none⟩)]) ∧ w' = w.alloc (.cells #[.slice a len cap] 186) := by
  go_enter Tryz.func135, Tryz.ntmps135
  go_wp2
  go_ret
  exact ⟨rfl, rfl⟩
/-- The two methods, called through the interface of the type's coefficients. -/
theorem cmeth_times (v : Int) (w : World) : (method 310 184 (.int .i64 v) "loop.example/wardstaff/impl.times").run Tryz.prog w = .ok (150, .int .i64 v) w := by kernel_rfl
theorem cmeth_plus (v : Int) (w : World) : (method 310 184 (.int .i64 v) "loop.example/wardstaff/impl.plus").run Tryz.prog w = .ok (149, .int .i64 v) w := by kernel_rfl
theorem ctimes (a x : Int) (w : World) (a0 : 0 ≤ a) (a1 : a ≤ 46) (x0 : 0 ≤ x) (x1 : x ≤ 23) : Calls Tryz.prog 150 #[.int .i64 a, .int .i64 x] w fun e w' => e = .returned (.int .i64 (pw a x.toNat)) ∧ w.grownBy w' none := by
  go_enter Tryz.func150, Tryz.ntmps150
  go_wp2_with (go_at_call 75; refine (power_any _ _ _ a0 a1 x0 x1).mono ?_; rintro e w' ⟨rfl, hg⟩)
  go_ret
  exact ⟨rfl, hg⟩
theorem cplus (a b : Int) (w : World) (a0 : 0 ≤ a) (a1 : a ≤ 46) (b0 : 0 ≤ b) (b1 : b ≤ 46) : Calls Tryz.prog 149 #[.int .i64 a, .int .i64 b] w fun e w' => e = .returned (.int .i64 (a * b % 47)) ∧ w = w' := by
  go_enter Tryz.func149, Tryz.ntmps149
  go_wp2_with (go_at_call 89; refine (gtimes _ _ _ a0 a1 b0 b1).mono ?_; rintro e w' ⟨rfl, rfl⟩)
  go_ret
  exact ⟨rfl, rfl⟩
theorem cbwd_stops (n : Nat) (hn : 1 ≤ n) (Bs n₀ : Nat) (a : Option Addr) (len cap : Nat) (z : Nat → Int) (hl : len ≤ 2000000) (hn0 : ∀ b off, a = some ⟨b, off, none⟩ → b < n₀)
    (hz : ∀ j, j < len → gok (z j) = true) (w : World) (hB : Bs < w.heap.size) (hBs : w.cell? ⟨Bs, 0, none⟩ = some (.slice a len cap)) (hI : Ints w a len z) :
    SeqStopsK Fence.wide n Tryz.prog 136 #[.pointer (some ⟨Bs, 0, none⟩)] (fun x : Nat × F => #[.int .i64 (x.1 : Int), .int .i64 (gofF (fi x.2))]) (Kept n₀ Bs Bs) (fun ys => ys = upto (bkf (lz z) len) len) (fun _ => True) len w := fun l J Jx W hW _ _ hY h0 =>
  cbwd1 Fence.wide n trivial rfl hn l Bs n₀ a len cap z hl hn0 hz J Jx hY W ((hW.cell (p := ⟨Bs, 0, none⟩) hB).trans hBs) (hI.keptB (fun k hk => hW.block k hk) hW.size) h0
set_option maxRecDepth 100000 in
set_option maxHeartbeats 2000000 in
theorem cat_in (w : World) (a : Option Addr) (n cap : Nat) (z : Nat → Int) (x : Int) (hI : Ints w a (n + 1) z) (hl : n ≤ 1000000) (hcap : n + 1 ≤ cap) (hm : cap ≤ maxLen) (hz : ∀ j, j < n + 1 → gok (z j) = true) (hx : fok x = true) :
    Calls Tryz.prog 133 #[.slice a (n + 1) cap, .int .i64 x] w fun e w' => e = .returned (.int .i64 (gofF (fi (ev (fl (lz z) (n + 1)) (cv x))))) ∧ w.grownBy w' none := by
  unfold maxLen at hm
  obtain ⟨b, off, rfl, hb, hc⟩ := hI.ptr (by omega)
  have hcn := hc n (by omega)
  have HC := Lib.hid hc; have HZ := Lib.hid hz; have HX := Lib.hid hx; have HI := Lib.hid hI
  clear hc hz hx hI
  refine (callsIn_wide (n := 6)).1 ?_
  refine callsIn_of_wp_marks Tryz.func133 rfl trivial ?_ rfl
  simp only [Tryz.ntmps133, List.size_toArray, List.length_cons, List.length_nil, Nat.reduceAdd, Nat.reduceSub, Array.replicate_succ, Array.replicate_zero, List.push_toArray, List.append_toArray, List.nil_append, List.cons_append]
  gi_wp2_with (refine ⟨trivial, ?_⟩; gi_at_call 135; refine (callsIn_wide.2 (cbwd _ _ _ _)).mono ?_; rintro e w' ⟨rfl, rfl⟩)
  have hx' := HX.out
  obtain ⟨x0, x1⟩ := fok_iff.1 HX.out
  have b0 := cell_of_box (w := w) (v := .int .i64 x) (t := 84)
  have b1 := cell_of_box (w := w.alloc (.cells #[.int .i64 x] 84)) (v := .int .i64 (z n)) (t := 184)
  have b2 := cell_of_box (w := (w.alloc (.cells #[.int .i64 x] 84)).alloc (.cells #[.int .i64 (z n)] 184)) (v := .slice (some ⟨b, off, none⟩) n cap) (t := 186)
  simp only [World.size_alloc] at b1 b2
  have hB0 : Below w.heap.size w (((w.alloc (.cells #[.int .i64 x] 84)).alloc (.cells #[.int .i64 (z n)] 184)).alloc (.cells #[.slice (some ⟨b, off, none⟩) n cap] 186)) := (((Below.refl _ w).alloc (Nat.le_refl _) _).alloc (by simp) _).alloc (by simp; omega) _
  have HI3 := ((HI.out.less (Nat.le_succ n)).kept (grown_below hB0))
  refine wpIn_rangeFunc_ownF (F := Fence.wide) rfl (by omega) (gf := 136) (lb := #[.pointer (some ⟨w.heap.size + 1 + 1, 0, none⟩)]) rfl trivial (enters_of Tryz.func136 (by kernel_rfl) rfl)
    (cbwd_stops 5 (by omega) (w.heap.size + 1 + 1) w.heap.size (some ⟨b, off, none⟩) n cap z (by omega) (fun b' off' e => by cases e; exact hb) (fun j hj => HZ.out j (by omega)) _ (by simp) b2.1 HI3)
    kept_t (kept_b (by simp; omega) (by simp) (by simp)) (Below.refl _ _) (fun _ => rfl)
    (fun pre W => (W.cell? ⟨w.heap.size + 1, 0, none⟩ = some (.int .i64 (gofF (fi (hf (lz z) n (cv x) pre)))) ∧ W.frozen? ⟨w.heap.size + 1, 0, none⟩ = false ∧ W.cell? ⟨w.heap.size, 0, none⟩ = some (.int .i64 x) ∧ w.heap.size + 1 + 1 < W.heap.size) ∧ Below w.heap.size w W)
    (fun _ _ _ => False)
    (OwnFrom.and (Own.from (fun s A B row hs hg hr => ⟨cell_kept hs.1 hg hr, (frozen_kept hs.1 hg hr).trans hs.2.1, cell_kept hs.2.2.1 hg hr, Nat.lt_of_lt_of_le hs.2.2.2 hg.size⟩) _) (ownFrom_below (Nat.le_refl _) (by simp; omega)))
    (fun _ _ _ _ _ hs _ _ => hs)
    ⟨⟨by rw [hf_nil, lz_fi (HZ.out n (by omega))]; exact cell_al _ b1.1, frozen_al _ b1.1 b1.2, cell_al _ (cell_al _ b0.1), by simp⟩, hB0⟩
    (fun c => { tmps := #[.slice (some ⟨b, off, none⟩) (n + 1) cap, .int .i64 x, undef, .pointer (some ⟨w.heap.size, 0, none⟩), .int .i64 0, .int .i64 n, .pointer (some ⟨w.heap.size + 1, 0, none⟩), undef, .int .i64 (gofF (fi c.2)), .slice (some ⟨b, off, none⟩) (n + 1) cap, .int .i64 (n + 1), .int .i64 n, .slice (some ⟨b, off, none⟩) (n + 1) cap, .int .i64 n, .pointer (some ⟨b, off + n, none⟩), .int .i64 (z n), .slice (some ⟨b, off, none⟩) (n + 1) cap, .int .i64 n, .slice (some ⟨b, off, none⟩) n cap, .func (.func 136) #[] #[.pointer (some ⟨w.heap.size + 1 + 1, 0, none⟩)], .int .i64 (c.1 : Int), .int .i64 (gofF (fi c.2)), undef, undef, undef, undef, undef, undef, undef, undef], defers := [] }) ?assign ?body ?done ?stop
  case assign =>
    intro l x W K hK
    gi_wp2
    exact hK
  case body =>
    rintro l pre c W ⟨⟨hv, hvf, hcx, hsz⟩, hB⟩ _
    obtain ⟨v0, v1⟩ := gfi_range (hf (lz z) n (cv x) pre)
    obtain ⟨c0, c1⟩ := gfi_range c.2
    have hP := pw_range (gofF (fi (hf (lz z) n (cv x) pre))) x.toNat
    have HS := Lib.hid ((gstep (v := hf (lz z) n (cv x) pre) hx' (fi_ok c.2)).trans (congrArg (fun v => gofF (fi v)) (show _ = hf (lz z) n (cv x) (pre ++ [c]) by rw [cv_fi]; exact (hf_snoc (lz z) n (cv x) pre c).symm)))
    have mt := cmeth_times
    have mp := cmeth_plus
    obtain ⟨p0, p1⟩ := hP
    gi_wp2_with (first
      | (refine ⟨trivial, ?_⟩; gi_at_call 150; refine (CallsIn.inRound l (callsIn_wide.2 (ctimes _ _ _ (by omega) v1 x0 (by omega)))).mono ?_; rintro e W1 ⟨rfl, hg1⟩; have hv1 : W1.cell? ⟨w.heap.size + 1, 0, none⟩ = some (.int .i64 (gofF (fi (hf (lz z) n (cv x) pre)))) := hg1.cell hv (by simp); have hvf1 : W1.frozen? ⟨w.heap.size + 1, 0, none⟩ = false := (World.frozen?_of_block (w := W) (hg1.block _ (by show w.heap.size + 1 < _; omega) (by simp))).trans hvf)
      | (refine ⟨trivial, ?_⟩; gi_at_call 149; refine (CallsIn.inRound l (callsIn_wide.2 (cplus _ _ _ p0 p1 (by omega) c1))).mono ?_; rintro e W2 ⟨rfl, rfl⟩))
    have hb1 : Below w.heap.size W W1 := ⟨hg1.os, hg1.tape, hg1.output, hg1.size, fun k hk => hg1.block k (by omega) (by simp)⟩
    exact ⟨(KeepsOthers.of_grownBy hg1 (fun j o h => by cases h)).trans (KeepsOthers.setCell _ _ _), ⟨hb1.setCell (p := ⟨w.heap.size + 1, 0, none⟩) (by simp) _, (heap_setCell_other W1 _ _ _ (by show w.heap.size + 1 + 1 ≠ w.heap.size + 1; omega)).trans (hg1.block _ hsz (by simp)), (heap_setCell_other W1 _ _ _ (by show w.heap.size + 1 + 1 ≠ w.heap.size + 1; omega)).trans (hg1.block _ hsz (by simp))⟩,
      ⟨by rw [← HS.out]; exact World.cell?_setCell_same' _ _ _ (by rw [hv1]; rfl), by rw [World.frozen?_setCell]; exact hvf1, by rw [World.cell?_setCell_other W1 _ _ _ (by intro e; injection e with e1; omega)]; exact hg1.cell hcx (by simp), by rw [World.size_setCell]; exact Nat.lt_of_lt_of_le hsz hg1.size⟩, hB.trans (hb1.setCell (p := ⟨w.heap.size + 1, 0, none⟩) (by simp) _)⟩
  case done =>
    rintro D ys W hD rfl ⟨⟨hv, _, _, _⟩, hB⟩ hK
    rw [hf_upto (lz z) n (cv x) n (Nat.le_refl _), Nat.sub_self, pv_all] at hv
    gi_wp2
    refine ⟨by simp, .inl ⟨_, _, rfl, run_takeDeferred hK, ?_⟩⟩
    exact ⟨_, results_tmp rfl _ _ _, rfl, grown_below (hB.trans (belowK_b (w := w) (Nat.le_refl _) W D _ _ (by simp at hD; omega) hK rfl rfl))⟩
  case stop =>
    rintro D c pre W _ _ h _
    exact h.elim
end Con
end Go.Proofs.YthbigmcklacbnaaGreatDoor
/-
  What is shown at a place, and whether a number fits what is shown: the program's and the model's functions, at every argument.
-/

namespace Go.Proofs.YthbigmcklacbnaaGreatDoor
namespace Con
open Go.RowKit Alg Mem Pol
set_option linter.unusedVariables false

theorem info_com : (Tryz.prog.info? 184).map (fun i => (i.zero, i.size, i.bytes)) = some (some (.int .i64 0), 1, 8) := by kernel_rfl
theorem und_coms : Tryz.prog.underlying 185 = some (.slice 184) := by kernel_rfl
theorem conv_ic (w : World) (a : Option Addr) (len cap : Nat) (z : Nat → Int) (hI : Ints w a len z) (hl : len ≤ 2000000) :
    Calls Tryz.prog 134 #[.slice a len cap] w (NewRow 184 w len z) := by
  have hmk := run_make_row' (P := Tryz.prog) 185 184 (.int .i64 0) 8 und_coms info_com rfl .i64 .i64 len (by omega) (by omega)
  go_enter Tryz.func134, Tryz.ntmps134
  go_wp2
  go_loopw [11] (fun i wr => ∃ k : Nat, k ≤ len ∧ i = .int .i64 k ∧ Row wr w.heap.size 184 w.heap.size len len (fun j => if j < k then z j else 0) ∧ w.grownBy wr none) (fun i _ => len - (intOf i).toNat)
  case atStart => exact ⟨0, by omega, rfl, first_row w _ _ (by unfold maxLen; omega) z, Draw.grown_alloc _ _ _⟩
  case round =>
    clear hmk
    obtain ⟨k, hk, rfl, hr, hg⟩ := hrel
    have HG := Lib.hid hg; clear hg
    by_cases hlt : k < len
    · rcases hI.kept HG.out with h | ⟨b, off, rfl, hb, hc⟩
      · omega
      have hcx := hc k hlt
      have c0 := zero_row hr hlt
      have f0 := hr.frozen k
      have HR := Lib.hid (step_row hr)
      clear hc hr hI
      go_wp2
      go_roundw
      case rel => exact ⟨k + 1, by omega, by go_num, HR.out, grown_new HG.out (Nat.le_refl _) (grown_set _ _ _ _)⟩
      case measure => simp [intOf]; omega
    · obtain rfl : k = len := by omega
      have HR := Lib.hid (full_row hr)
      clear hI hr
      go_wp2
      go_ret
      exact ⟨_, rfl, HR.out, HG.out⟩
theorem inexp (w : World) (a : Option Addr) (len cap : Nat) (z : Nat → Int) (hI : Ints w a len z) (hl : len ≤ 2000000) :
    Calls Tryz.prog 132 #[.slice a len cap] w (NewRow 184 w len z) := by
  have HI := Lib.hid hI; clear hI
  go_enter Tryz.func132, Tryz.ntmps132
  go_wp2_with fail
  refine (conv_ic _ _ _ _ z HI.out (by omega)).mono ?_
  rintro e w' ⟨b, rfl, hr, hg⟩
  have HR := Lib.hid hr; have HG := Lib.hid hg; clear hr hg
  go_wp2
  go_ret
  exact ⟨_, rfl, HR.out, HG.out⟩

/-- What is shown at a place. -/
def catz (len : Nat) (z : Nat → Int) (x : Int) : Int := if cokz len z = true ∧ fok x = true then gofF (fi (ev (fl (lz z) len) (cv x))) else 0
theorem catz_in {len : Nat} {z : Nat → Int} {x : Int} (hp : cokz len z = true) (hx : fok x = true) : catz len z x = gofF (fi (ev (fl (lz z) len) (cv x))) := by unfold catz; rw [if_pos ⟨hp, hx⟩]
theorem catz_out {len : Nat} {z : Nat → Int} {x : Int} (h : cokz len z = false ∨ fok x = false) : catz len z x = 0 := by
  unfold catz; rcases h with h | h <;> simp [h]
theorem icat (w : World) (a : Option Addr) (len cap : Nat) (z : Nat → Int) (x : Int) (hI : Ints w a len z) (hl : len ≤ 2000000) :
    Calls Tryz.prog 130 #[.slice a len cap, .int .i64 x] w fun e w' => e = .returned (.int .i64 (catz len z x)) ∧ w.grownBy w' none := by
  have HI := Lib.hid hI; clear hI
  cases hp : cokz len z with
  | false =>
    have HR := Lib.hid (catz_out (x := x) (.inl hp))
    go_enter Tryz.func130, Tryz.ntmps130
    go_wp2_with fail
    refine (icok _ _ _ _ z HI.out (by omega)).mono ?_
    rintro e w1 ⟨rfl, hg⟩
    rw [hp]
    go_wp2
    go_ret
    exact ⟨ret_iz HR.out.symm, hg⟩
  | true =>
    cases hx : fok x with
    | false =>
      have HR := Lib.hid (catz_out (len := len) (z := z) (.inr hx))
      have HX := Lib.hid hx
      go_enter Tryz.func130, Tryz.ntmps130
      go_wp2_with fail
      refine (icok _ _ _ _ z HI.out (by omega)).mono ?_
      rintro e w1 ⟨rfl, hg⟩
      rw [hp]
      go_wp2_with (go_at_call 43; refine (iok_no _ _ HX.out).mono ?_; rintro e w' ⟨rfl, rfl⟩)
      go_ret
      exact ⟨ret_iz HR.out.symm, hg⟩
    | true =>
      have HR := Lib.hid (catz_in hp hx)
      have HZ := Lib.hid (cokz_iff.1 hp)
      have HX := Lib.hid hx
      obtain ⟨m, rfl⟩ : ∃ m, len = m + 1 := ⟨len - 1, by have := (cokz_iff.1 hp).1; omega⟩
      go_enter Tryz.func130, Tryz.ntmps130
      go_wp2_with fail
      refine (icok _ _ _ _ z HI.out (by omega)).mono ?_
      rintro e w0 ⟨rfl, hg0⟩
      rw [hp]
      have HG0 := Lib.hid hg0; clear hg0
      go_wp2_with fail
      refine (iok_yes _ _ HX.out).mono ?_
      rintro e w' ⟨rfl, rfl⟩
      go_wp2_with fail
      refine (inexp _ _ _ _ z (HI.out.kept HG0.out) (by omega)).mono ?_
      rintro e w1 ⟨b, rfl, hr, hg⟩
      have HW := Lib.hid hr; have HG := Lib.hid (gtr HG0.out hg); clear hr hg
      go_wp2_with fail
      refine (cat_in _ _ m (m + 1) z x HW.out.ints (by have := HZ.out.2.1; omega) (Nat.le_refl _) (by unfold maxLen; omega) HZ.out.2.2 HX.out).mono ?_
      rintro e w2 ⟨rfl, hg2⟩
      have HG2 := Lib.hid hg2; clear hg2
      go_wp2
      go_ret
      exact ⟨ret_iz HR.out.symm, gtr HG.out HG2.out⟩
/-- Does a number fit what is shown, at a place? -/
def cfz (len : Nat) (z : Nat → Int) (x n : Int) : Bool := cokz len z && (fok x && (fok n && (gofF n == catz len z x)))
theorem cfz_in {len : Nat} {z : Nat → Int} {x n : Int} (hp : cokz len z = true) (hx : fok x = true) (hn : fok n = true) : cfz len z x n = (gofF n == catz len z x) := by simp [cfz, hp, hx, hn]
theorem cfz_out {len : Nat} {z : Nat → Int} {x n : Int} (h : cokz len z = false ∨ fok x = false ∨ fok n = false) : cfz len z x n = false := by
  unfold cfz; rcases h with h | h | h <;> simp [h]
end Con
end Go.Proofs.YthbigmcklacbnaaGreatDoor
/-
  Whether a number fits what is shown: the program's and the model's functions, at every argument.
-/

namespace Go.Proofs.YthbigmcklacbnaaGreatDoor
namespace Con
open Go.RowKit Alg Mem Pol
set_option linter.unusedVariables false

theorem s4fit (w : World) (a : Option Addr) (len cap : Nat) (z : Nat → Int) (x n : Int) (hI : Ints w a len z) (hl : len ≤ 2000000) (hz : ∀ j, j < len → gok (z j) = true) (hx : fok x = true) (hn : fok n = true) :
    Calls Tryz.prog 81 #[.slice a len cap, .int .i64 x, .int .i64 n] w fun e w' => e = .returned (.bool (gofF n == gofF (fi (ev (fl (lz z) len) (cv x))))) ∧ w.grownBy w' none := by
  have HI := Lib.hid hI; have HZ := Lib.hid hz; have HX := Lib.hid hx; have HN := Lib.hid hn
  have HO := Lib.hid (gof_in hn)
  obtain ⟨n0, n1⟩ := fok_iff.1 hn
  clear hI hz hx hn
  go_enter Tryz.func81, Tryz.ntmps81
  go_wp2_with (first
    | (go_at_call 14; refine (spow _ _ _ (by omega) (by omega) (by omega) (by omega)).mono ?_; rintro e w' ⟨rfl, rfl⟩)
    | (go_at_call 93; refine (s4at _ _ _ _ z x HI.out (by omega) HZ.out HX.out).mono ?_; rintro e w' ⟨rfl, hg⟩))
  go_ret
  refine ⟨ret_b ?_, hg⟩
  rw [HO.out]
end Con
end Go.Proofs.YthbigmcklacbnaaGreatDoor
/-
  What the model shows of a polynomial.
-/

namespace Go.Proofs.YthbigmcklacbnaaGreatDoor
namespace Con
open Go.RowKit Alg Mem Pol
set_option linter.unusedVariables false

/-- What is shown, number by number. -/
def gz (z : Nat → Int) (j : Nat) : Int := gofF (z j)
set_option maxRecDepth 100000 in
set_option maxHeartbeats 1000000 in
theorem s4of (w : World) (a : Option Addr) (len cap : Nat) (z : Nat → Int) (hI : Ints w a len z) (hl : len ≤ 2000000) (hz : ∀ j, j < len → fok (z j) = true) :
    Calls Tryz.prog 85 #[.slice a len cap] w (Own1 3 w len (gz z)) := by
  have HA := Lib.hid hI; have HZ := Lib.hid hz; clear hI hz
  obtain ⟨i0, hi, hz0, hz1, hz2⟩ := info_parts info_int
  go_enter Tryz.func85, Tryz.ntmps85
  go_wp2
  go_loopw [3, 4] (fun v i wr => ∃ k b cap : Nat, k ≤ len ∧ v = .slice (some ⟨b, 0, none⟩) k cap ∧ i = .int .i64 k ∧ Row wr w.heap.size 3 b k cap (gz z) ∧ w.grownBy wr none) (fun _ i _ => len - (intOf i).toNat)
  case atStart => exact ⟨0, w.heap.size, 0, by omega, rfl, rfl, row_empty w _ _, Draw.grown_alloc _ _ _⟩
  case round =>
    obtain ⟨k, bo, co, hk, rfl, rfl, hr, hg⟩ := hrel
    have HG := Lib.hid hg; have hge := hr.from_; have HW := Lib.hid hr; clear hg hr
    have hsz := HG.out.size
    by_cases hka : k < len
    · have hlt : (k : Int) < (len : Int) := by omega
      obtain ⟨b1, o1, rfl, hb1, hc1⟩ := (HA.out.kept HG.out).ptr (by omega)
      have hcx := hc1 k hka
      clear hc1
      obtain ⟨n0, n1⟩ := fok_iff.1 (HZ.out k hka)
      have HS := Lib.hid (show pw 2 (z k).toNat = gz z k from (gof_in (HZ.out k hka)).symm)
      go_wp2_with (first
        | (go_at_call 14; refine (spow _ _ _ (by omega) (by omega) (by omega) (by omega)).mono ?_; rintro e w' ⟨rfl, rfl⟩)
        | (at_builtin; refine wpList_append_own _ rfl _ _ 23 rfl w.heap.size 3 i0 (.int .i64 0) 1 8 und_ints hi hz0 hz1 hz2 rfl (by decide) _ k (vals (gz z) k) rfl (HW.out.alloc _).owns ⟨wr.heap.size, 0, none⟩ 1 1 [.int .i64 (pw 2 (z k).toNat)] rfl rfl (cell_one_new _ _ _) (by simp [Value.oneCell']) (by unfold maxLen; omega) (by omega) (by simp; omega) ?_; intro v' w1 hown' hgrow _))
      obtain ⟨b', cap', rfl, hrow⟩ := app_row hown' HS.out
      have HR := Lib.hid hrow; have HGr := Lib.hid (app_grown HG.out hge hgrow)
      clear hown' hgrow hrow
      go_wp2
      go_roundw
      case rel => exact ⟨k + 1, b', cap', by omega, rfl, by go_num, HR.out, HGr.out⟩
      case measure => simp [intOf]; omega
    · obtain rfl : k = len := by omega
      go_wp2
      go_ret
      exact ⟨_, _, rfl, HW.out, HG.out⟩
end Con
end Go.Proofs.YthbigmcklacbnaaGreatDoor
