/-
  Shares with their members: the program's own functions (which are valid, what the first of them tell, whose is wrong).
-/
import Derived.Test.YthbigmcklacbnaaGreatDoorSm
import Derived.Test.YthbigmcklacbnaaGreatDoorSb
namespace Go.Proofs.YthbigmcklacbnaaGreatDoor
namespace Hd
open Go.RowKit Alg Mem Con Mp
set_option linter.unusedVariables false

/-- The member ahead. -/
def pv (H : Nat → HV) : Nat → Int
  | 0 => 0
  | k + 1 => (H k).m
theorem pv_low {H : Nat → HV} {k : Nat} (h : hkF H k = true) : 0 ≤ pv H k := by
  cases k with
  | zero => exact Int.le_refl _
  | succ k => have := (hk_at h (Nat.lt_succ_self k)).1.1; show 0 ≤ (H k).m; omega
theorem pv_bad {H : Nat → HV} {k : Nat} (h : hkF H k = true) (e : (H k).m ≤ pv H k) : hkE H k = false := by
  cases hd : hkE H k with
  | false => rfl
  | true =>
    obtain ⟨⟨h1, h2⟩, _, h3⟩ := hkE_iff.1 hd
    cases k with
    | zero => have : (H 0).m ≤ 0 := e; omega
    | succ k => have : (H (k + 1)).m ≤ (H k).m := e; simp at h3; omega
theorem pv_big {H : Nat → HV} {k : Nat} (e : 5 < (H k).m) : hkE H k = false := by
  cases hd : hkE H k with
  | false => rfl
  | true => have := (hkE_iff.1 hd).1; omega
theorem pv_fok {H : Nat → HV} {k : Nat} (e : fok (H k).s = false) : hkE H k = false := by
  cases hd : hkE H k with
  | false => rfl
  | true => have := (hkE_iff.1 hd).2.1; rw [e] at this; cases this
theorem pv_good {H : Nat → HV} {k : Nat} (h : hkF H k = true) (e : pv H k < (H k).m) (e5 : (H k).m ≤ 5) (hs : fok (H k).s = true) : hkE H k = true := by
  have h0 := pv_low h
  refine hkE_iff.2 ⟨⟨by omega, e5⟩, hs, ?_⟩
  cases k with
  | zero => exact .inl rfl
  | succ k => exact .inr e
theorem ms_plok' {H : Nat → HV} {q : Nat} (hk : hkF H q = true) : plok q (ms H) = true :=
  plok_iff.2 ⟨hk_five hk, fun j hj => ⟨ms_fok hk j hj, hasz_no.2 fun i hi => ms_ne hk i j (by omega) hj (by omega)⟩⟩
theorem jn_next' {H : Nat → HV} {n k : Nat} (hs : fok (H k).s = true) : sumF (Pol.fi (jn H n k)) (mulF (zline n (ms H) 0 k) (H k).s) = Pol.fi (jn H n (k + 1)) := by
  have e : jn H n (k + 1) = jn H n k + Pol.lag (fl (ms H) n) k 0 * Pol.cv (H k).s := rfl
  rw [e, ← Pol.fi_sum, ← Pol.fi_mul, Pol.fi_cv hs]; rfl
end Hd
end Go.Proofs.YthbigmcklacbnaaGreatDoor
