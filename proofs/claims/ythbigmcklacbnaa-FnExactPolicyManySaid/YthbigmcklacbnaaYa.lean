/-
  Policies as numbers, and in memory: texts, rules, how many of a role there are, up to how much some are enough.
-/
import Derived.Test.YthbigmcklacbnaaPe
import Derived.Laws.OwnMore
namespace Go.Proofs.Ythbigmcklacbnaa
namespace Po
open Go.RowKit Alg Mem Con
set_option linter.unusedVariables false

/-! How many are such. -/
def cn (p : Nat → Bool) : Nat → Nat
  | 0 => 0
  | k + 1 => cn p k + (if p k = true then 1 else 0)
theorem cn_le (p : Nat → Bool) : ∀ n, cn p n ≤ n
  | 0 => Nat.le_refl _
  | n + 1 => by have := cn_le p n; unfold cn; split <;> omega
theorem cn_yes {p : Nat → Bool} {k : Nat} (h : p k = true) : cn p (k + 1) = cn p k + 1 := by rw [cn, if_pos h]
theorem cn_no {p : Nat → Bool} {k : Nat} (h : p k = false) : cn p (k + 1) = cn p k := by rw [cn, h]; rfl
theorem cn_congr {p q : Nat → Bool} : ∀ {n : Nat}, (∀ j, j < n → p j = q j) → cn p n = cn q n
  | 0, _ => rfl
  | n + 1, h => by rw [cn, cn, cn_congr (fun j hj => h j (by omega)), h n (by omega)]
theorem cn_zero {p : Nat → Bool} {n : Nat} (h : ∀ j, j < n → p j = false) : cn p n = 0 := by
  rw [cn_congr (q := fun _ => false) h]
  induction n with
  | zero => rfl
  | succ n ih => rw [cn_no rfl]; exact ih fun j hj => h j (by omega)
theorem cn_mono {p q : Nat → Bool} : ∀ {n : Nat}, (∀ j, j < n → p j = true → q j = true) → cn p n ≤ cn q n
  | 0, _ => Nat.le_refl _
  | n + 1, h => by
    have ih := cn_mono (n := n) (fun j hj => h j (by omega))
    cases hp : p n with
    | false => rw [cn_no hp, cn]; split <;> omega
    | true => rw [cn_yes hp, cn_yes (h n (by omega) hp)]; omega
theorem cn_one {p q : Nat → Bool} {i n : Nat} (hp : p i = false) (hq : q i = true) (hi : i < n) (h : ∀ j, j < n → j ≠ i → q j = p j) : cn q n = cn p n + 1 := by
  induction n with
  | zero => omega
  | succ n ih =>
    rcases (by omega : i < n ∨ i = n) with hl | rfl
    · have ih := ih hl (fun j hj => h j (by omega))
      have e := h n (by omega) (by omega)
      rw [cn, cn, ih, e]; omega
    · rw [cn_yes hq, cn_no hp, cn_congr (fun j hj => h j (by omega) (by omega))]
/-! The greatest, and -1. -/
def mx (v : Nat → Int) : Nat → Int
  | 0 => -1
  | k + 1 => max (mx v k) (v k)
theorem mx_low (v : Nat → Int) : ∀ n, -1 ≤ mx v n
  | 0 => Int.le_refl _
  | n + 1 => by have := mx_low v n; unfold mx; omega
theorem mx_le {v : Nat → Int} {x : Int} : ∀ {n : Nat}, mx v n ≤ x ↔ -1 ≤ x ∧ ∀ j, j < n → v j ≤ x
  | 0 => ⟨fun h => ⟨h, fun j hj => by omega⟩, fun h => h.1⟩
  | n + 1 => by
    unfold mx
    constructor
    · intro h
      have h1 := (mx_le (v := v) (x := x) (n := n)).1 (by omega)
      refine ⟨h1.1, fun j hj => ?_⟩
      rcases (by omega : j < n ∨ j = n) with h2 | rfl
      · exact h1.2 j h2
      · omega
    · intro h
      have h1 := (mx_le (v := v) (x := x) (n := n)).2 ⟨h.1, fun j hj => h.2 j (by omega)⟩
      have := h.2 n (by omega)
      omega
theorem mx_at {v : Nat → Int} {n j : Nat} (h : j < n) : v j ≤ mx v n := (mx_le.1 (Int.le_refl (mx v n))).2 j h
theorem mx_ge {v : Nat → Int} {a : Int} (ha : -1 < a) : ∀ {n : Nat}, a ≤ mx v n ↔ ∃ j, j < n ∧ a ≤ v j
  | 0 => ⟨fun h => by unfold mx at h; omega, fun ⟨j, hj, _⟩ => by omega⟩
  | n + 1 => by
    constructor
    · intro h
      unfold mx at h
      rcases (by omega : a ≤ mx v n ∨ a ≤ v n) with h1 | h1
      · obtain ⟨j, hj, h2⟩ := (mx_ge ha).1 h1; exact ⟨j, by omega, h2⟩
      · exact ⟨n, by omega, h1⟩
    · rintro ⟨j, hj, h⟩
      have := mx_at (v := v) hj
      omega
theorem mx_congr {v u : Nat → Int} : ∀ {n : Nat}, (∀ j, j < n → v j = u j) → mx v n = mx u n
  | 0, _ => rfl
  | n + 1, h => by rw [mx, mx, mx_congr (fun j hj => h j (by omega)), h n (by omega)]
theorem mx_mono {v : Nat → Int} {k n : Nat} (h : k ≤ n) : mx v k ≤ mx v n := mx_le.2 ⟨mx_low v n, fun j hj => mx_at (by omega)⟩
theorem mx_up {v u : Nat → Int} {n : Nat} (h : ∀ j, j < n → v j ≤ u j) : mx v n ≤ mx u n := mx_le.2 ⟨mx_low u n, fun j hj => Int.le_trans (h j hj) (mx_at hj)⟩
theorem mx_back {v u : Nat → Int} {n : Nat} (h : ∀ j, j < n → u j = v (n - 1 - j)) : mx u n = mx v n := by
  apply Int.le_antisymm
  · exact mx_le.2 ⟨mx_low v n, fun j hj => by rw [h j hj]; exact mx_at (by omega)⟩
  · refine mx_le.2 ⟨mx_low u n, fun j hj => ?_⟩
    have e := h (n - 1 - j) (by omega)
    rw [show n - 1 - (n - 1 - j) = j by omega] at e
    rw [← e]; exact mx_at (by omega)

/-! Roles and rules. -/
/-- A rule. -/
structure RV where
  r : ByteArray
  many : Int
  most : Int
/-- Is it a role? -/
def isR (s : ByteArray) : Bool := s.toList == [97] || (s.toList == [98] || s.toList == [99])
def roA (R : Nat → ByteArray) : Nat → Bool
  | 0 => true
  | k + 1 => roA R k && isR (R k)
theorem roA_iff {R : Nat → ByteArray} {n : Nat} : roA R n = true ↔ ∀ j, j < n → isR (R j) = true := by
  induction n with
  | zero => simp [roA]
  | succ n ih =>
    simp only [roA, Bool.and_eq_true, ih]
    exact ⟨fun h j hj => by rcases Nat.lt_or_ge j n with h' | h'; exact h.1 j h'; obtain rfl : j = n := by omega
                            exact h.2, fun h => ⟨fun j hj => h j (by omega), h n (by omega)⟩⟩
theorem roA_no {R : Nat → ByteArray} {n k : Nat} (hk : k < n) (h : isR (R k) = false) : roA R n = false := by
  cases h' : roA R n with
  | false => rfl
  | true => rw [roA_iff.1 h' k hk] at h; cases h
theorem roA_next {R : Nat → ByteArray} {k : Nat} (h : roA R k = true) (hf : isR (R k) = true) : roA R (k + 1) = true := by simp [roA, h, hf]
def ruE (u : RV) : Bool := isR u.r && decide (1 ≤ u.many ∧ u.many ≤ 6 ∧ 0 ≤ u.most ∧ u.most ≤ 99)
theorem ruE_iff {u : RV} : ruE u = true ↔ isR u.r = true ∧ 1 ≤ u.many ∧ u.many ≤ 6 ∧ 0 ≤ u.most ∧ u.most ≤ 99 := by unfold ruE; rw [Bool.and_eq_true, decide_eq_true_eq]
def ruA (U : Nat → RV) : Nat → Bool
  | 0 => true
  | k + 1 => ruA U k && ruE (U k)
theorem ruA_iff {U : Nat → RV} {n : Nat} : ruA U n = true ↔ ∀ j, j < n → ruE (U j) = true := by
  induction n with
  | zero => simp [ruA]
  | succ n ih =>
    simp only [ruA, Bool.and_eq_true, ih]
    exact ⟨fun h j hj => by rcases Nat.lt_or_ge j n with h' | h'; exact h.1 j h'; obtain rfl : j = n := by omega
                            exact h.2, fun h => ⟨fun j hj => h j (by omega), h n (by omega)⟩⟩
theorem ruA_no {U : Nat → RV} {n k : Nat} (hk : k < n) (h : ruE (U k) = false) : ruA U n = false := by
  cases h' : ruA U n with
  | false => rfl
  | true => rw [ruA_iff.1 h' k hk] at h; cases h
theorem ruA_next {U : Nat → RV} {k : Nat} (h : ruA U k = true) (hf : ruE (U k) = true) : ruA U (k + 1) = true := by simp [ruA, h, hf]
/-- Are they roles of people? -/
def plR (n : Nat) (R : Nat → ByteArray) : Bool := decide (n ≤ 6) && roA R n
theorem plR_iff {n : Nat} {R : Nat → ByteArray} : plR n R = true ↔ n ≤ 6 ∧ ∀ j, j < n → isR (R j) = true := by unfold plR; rw [Bool.and_eq_true, decide_eq_true_eq, roA_iff]
theorem plR_out {n : Nat} {R : Nat → ByteArray} (h : ¬ n ≤ 6) : plR n R = false := by unfold plR; rw [decide_eq_false h]; rfl
theorem plR_in {n : Nat} {R : Nat → ByteArray} (h : n ≤ 6) : plR n R = roA R n := by unfold plR; rw [decide_eq_true h]; rfl
/-- Is it a policy? -/
def plF (n : Nat) (R : Nat → ByteArray) (m : Nat) (U : Nat → RV) : Bool := plR n R && (decide (m ≤ 4) && ruA U m)
theorem plF_iff {n : Nat} {R : Nat → ByteArray} {m : Nat} {U : Nat → RV} : plF n R m U = true ↔ plR n R = true ∧ m ≤ 4 ∧ ∀ j, j < m → ruE (U j) = true := by
  unfold plF; rw [Bool.and_eq_true, Bool.and_eq_true, decide_eq_true_eq, ruA_iff]
theorem plF_zero {n : Nat} {R : Nat → ByteArray} {U : Nat → RV} : plF n R 0 U = plR n R := by simp [plF, ruA]
def noS : ByteArray := ⟨#[]⟩
theorem noS_list : noS.toList = [] := by first | rfl | decide | (rw [Lib.toList_data]; rfl)
/-- The role of one. -/
def roF (n : Nat) (R : Nat → ByteArray) (who : Int) : ByteArray := if 1 ≤ who ∧ who ≤ n then R (who - 1).toNat else noS
def prF (n : Nat) (R : Nat → ByteArray) (who : Int) : ByteArray := if plR n R = true then roF n R who else noS
theorem roF_in {n : Nat} {R : Nat → ByteArray} {i : Nat} (h : i < n) : roF n R ((i : Int) + 1) = R i := by unfold roF; rw [if_pos (by omega), show ((i : Int) + 1 - 1).toNat = i by omega]
theorem roF_out {n : Nat} {R : Nat → ByteArray} {who : Int} (h : ¬ (1 ≤ who ∧ who ≤ n)) : roF n R who = noS := if_neg h
/-- How many of a role are among some. -/
def eqB (a b : ByteArray) : Bool := a.toList == b.toList
def mhit (R : Nat → ByteArray) (z : Nat → Int) (q : Nat) (role : ByteArray) (i : Nat) : Bool := eqB (R i) role && hasz z ((i : Int) + 1) q
def mnF (n : Nat) (R : Nat → ByteArray) (q : Nat) (z : Nat → Int) (role : ByteArray) : Nat := cn (mhit R z q role) n
def pmF (n : Nat) (R : Nat → ByteArray) (q : Nat) (z : Nat → Int) (role : ByteArray) : Nat := if plR n R = true ∧ isR role = true then mnF n R q z role else 0
/-- What a rule allows. -/
def vlF (n : Nat) (R : Nat → ByteArray) (U : Nat → RV) (q : Nat) (z : Nat → Int) (j : Nat) : Int := if (U j).many ≤ mnF n R q z (U j).r then (U j).most else -1
def psF (n : Nat) (R : Nat → ByteArray) (m : Nat) (U : Nat → RV) (q : Nat) (z : Nat → Int) : Int := if plF n R m U = true then mx (vlF n R U q z) m else -1
def myF (n : Nat) (R : Nat → ByteArray) (m : Nat) (U : Nat → RV) (q : Nat) (z : Nat → Int) (amount : Int) : Bool := plF n R m U && decide (0 ≤ amount ∧ amount ≤ 99 ∧ amount ≤ psF n R m U q z)
/-- As the model counts: one more of some. -/
theorem hasz_one {z : Nat → Int} {x : Int} {k : Nat} : hasz z x (k + 1) = (hasz z x k || (z k == x)) := rfl
theorem mnF_same {n : Nat} {R : Nat → ByteArray} {k : Nat} {z : Nat → Int} {role : ByteArray} (h : eqB (roF n R (z k)) role = false ∨ hasz z (z k) k = true) (hr : isR role = true) : mnF n R (k + 1) z role = mnF n R k z role := by
  refine cn_congr fun i hi => ?_
  unfold mhit
  rw [hasz_one]
  by_cases e : z k = (i : Int) + 1
  · rcases h with h | h
    · rw [e, roF_in hi] at h
      rw [h]; simp
    · rw [e] at h
      rw [h]; simp
  · rw [show (z k == (i : Int) + 1) = false by simpa using e, Bool.or_false]
theorem mnF_more {n : Nat} {R : Nat → ByteArray} {k : Nat} {z : Nat → Int} {role : ByteArray} (h : eqB (roF n R (z k)) role = true) (h2 : hasz z (z k) k = false) (hr : isR role = true) : mnF n R (k + 1) z role = mnF n R k z role + 1 := by
  have hin : 1 ≤ z k ∧ z k ≤ n := by
    apply Classical.byContradiction
    intro hn
    rw [roF_out hn] at h
    have e : role.toList = [] := by unfold eqB at h; have := eq_of_beq h; rw [noS_list] at this; exact this.symm
    unfold isR at hr; rw [e] at hr; simp at hr
  obtain ⟨i, e⟩ : ∃ i : Nat, z k = (i : Int) + 1 := ⟨(z k - 1).toNat, by omega⟩
  have hi : i < n := by omega
  rw [e] at h h2
  rw [roF_in hi] at h
  refine cn_one (i := i) ?_ ?_ hi fun j hj hne => ?_
  · unfold mhit; rw [h2]; simp
  · unfold mhit; rw [hasz_one, e, h]; simp
  · unfold mhit; rw [hasz_one, e, show (((i : Int) + 1) == (j : Int) + 1) = false by simp; omega, Bool.or_false]
theorem mnF_le {n : Nat} {R : Nat → ByteArray} {q : Nat} {z : Nat → Int} {role : ByteArray} : mnF n R q z role ≤ n := cn_le _ _
theorem mnF_zero {n : Nat} {R : Nat → ByteArray} {z : Nat → Int} {role : ByteArray} : mnF n R 0 z role = 0 := cn_zero fun j hj => by simp [mhit, hasz]
theorem mnF_mono {n : Nat} {R : Nat → ByteArray} {q q' : Nat} {z z' : Nat → Int} {role : ByteArray} (h : ∀ x, hasz z x q = true → hasz z' x q' = true) : mnF n R q z role ≤ mnF n R q' z' role := cn_mono fun j hj e => by
  unfold mhit at e ⊢
  rw [Bool.and_eq_true] at e ⊢
  exact ⟨e.1, h _ e.2⟩
theorem mnF_congr {n : Nat} {R : Nat → ByteArray} {q q' : Nat} {z z' : Nat → Int} {role : ByteArray} (h : ∀ x, hasz z x q = hasz z' x q') : mnF n R q z role = mnF n R q' z' role := cn_congr fun j hj => by
  unfold mhit; rw [h]

/-! Texts and rules in memory. -/
def StrI (w : World) (a : Option Addr) (len : Nat) (R : Nat → ByteArray) : Prop :=
  len = 0 ∨ ∃ b off, a = some ⟨b, off, none⟩ ∧ b < w.heap.size ∧ ∀ j, j < len → w.cell? ⟨b, off + j, none⟩ = some (.string (R j))
theorem StrI.keptR {w w' : World} {a : Option Addr} {len : Nat} {R : Nat → ByteArray} {r : Option Nat} (h : StrI w a len R) (hg : w.grownBy w' r) (hr : ∀ b off, a = some ⟨b, off, none⟩ → some b ≠ r) : StrI w' a len R := by
  rcases h with h | ⟨b, off, ha, hl, hc⟩
  · exact .inl h
  · exact .inr ⟨b, off, ha, Nat.lt_of_lt_of_le hl hg.size, fun j hj => (World.cell?_of_block (hg.block b hl (hr b off ha))).trans (hc j hj)⟩
theorem StrI.kept {w w' : World} {a : Option Addr} {len : Nat} {R : Nat → ByteArray} (h : StrI w a len R) (hg : w.grownBy w' none) : StrI w' a len R := h.keptR hg (fun _ _ _ => by simp)
theorem StrI.less {w : World} {a : Option Addr} {len k : Nat} {R : Nat → ByteArray} (h : StrI w a len R) (hk : k ≤ len) : StrI w a k R := by
  rcases h with h | ⟨b, off, ha, hl, hc⟩
  · exact .inl (by omega)
  · exact .inr ⟨b, off, ha, hl, fun j hj => hc j (by omega)⟩
theorem StrI.ptr {w : World} {a : Option Addr} {len : Nat} {R : Nat → ByteArray} (h : StrI w a len R) (h1 : 1 ≤ len) : ∃ b off, a = some ⟨b, off, none⟩ ∧ b < w.heap.size ∧ ∀ j, j < len → w.cell? ⟨b, off + j, none⟩ = some (.string (R j)) := by
  rcases h with h | h
  · omega
  · exact h
theorem StrI.zero (w : World) (a : Option Addr) (R : Nat → ByteArray) : StrI w a 0 R := .inl rfl
def RuI (w : World) (a : Option Addr) (len : Nat) (U : Nat → RV) : Prop :=
  len = 0 ∨ ∃ b off, a = some ⟨b, off, none⟩ ∧ b < w.heap.size ∧ ∀ j, j < len → w.cell? ⟨b, off + j * 3, none⟩ = some (.string (U j).r) ∧ w.cell? ⟨b, off + j * 3 + 1, none⟩ = some (.int .i64 (U j).many) ∧ w.cell? ⟨b, off + j * 3 + 2, none⟩ = some (.int .i64 (U j).most)
theorem RuI.keptR {w w' : World} {a : Option Addr} {len : Nat} {U : Nat → RV} {r : Option Nat} (h : RuI w a len U) (hg : w.grownBy w' r) (hr : ∀ b off, a = some ⟨b, off, none⟩ → some b ≠ r) : RuI w' a len U := by
  rcases h with h | ⟨b, off, ha, hl, hc⟩
  · exact .inl h
  · refine .inr ⟨b, off, ha, Nat.lt_of_lt_of_le hl hg.size, fun j hj => ?_⟩
    obtain ⟨h0, h1, h2⟩ := hc j hj
    have e := hg.block b hl (hr b off ha)
    exact ⟨(World.cell?_of_block e).trans h0, (World.cell?_of_block e).trans h1, (World.cell?_of_block e).trans h2⟩
theorem RuI.kept {w w' : World} {a : Option Addr} {len : Nat} {U : Nat → RV} (h : RuI w a len U) (hg : w.grownBy w' none) : RuI w' a len U := h.keptR hg (fun _ _ _ => by simp)
theorem RuI.less {w : World} {a : Option Addr} {len k : Nat} {U : Nat → RV} (h : RuI w a len U) (hk : k ≤ len) : RuI w a k U := by
  rcases h with h | ⟨b, off, ha, hl, hc⟩
  · exact .inl (by omega)
  · exact .inr ⟨b, off, ha, hl, fun j hj => hc j (by omega)⟩
theorem RuI.congr {w : World} {a : Option Addr} {len : Nat} {U V : Nat → RV} (h : RuI w a len U) (e : ∀ j, j < len → U j = V j) : RuI w a len V := by
  rcases h with h | ⟨b, off, ha, hl, hc⟩
  · exact .inl h
  · exact .inr ⟨b, off, ha, hl, fun j hj => by rw [← e j hj]; exact hc j hj⟩
theorem RuI.ptr {w : World} {a : Option Addr} {len : Nat} {U : Nat → RV} (h : RuI w a len U) (h1 : 1 ≤ len) : ∃ b off, a = some ⟨b, off, none⟩ ∧ b < w.heap.size ∧ ∀ j, j < len → w.cell? ⟨b, off + j * 3, none⟩ = some (.string (U j).r) ∧ w.cell? ⟨b, off + j * 3 + 1, none⟩ = some (.int .i64 (U j).many) ∧ w.cell? ⟨b, off + j * 3 + 2, none⟩ = some (.int .i64 (U j).most) := by
  rcases h with h | h
  · omega
  · exact h
theorem RuI.zero (w : World) (a : Option Addr) (U : Nat → RV) : RuI w a 0 U := .inl rfl
/-! Rows of the call's own, whatever lies in them. -/
def flat (cs : Nat → List Value) (k : Nat) : List Value := (List.range k).flatMap cs
theorem flat_succ (cs : Nat → List Value) (k : Nat) : flat cs (k + 1) = flat cs k ++ cs k := by simp [flat, List.range_succ]
theorem flat_len {cs : Nat → List Value} {s : Nat} (h : ∀ j, (cs j).length = s) (k : Nat) : (flat cs k).length = k * s := by
  induction k with
  | zero => rw [Nat.zero_mul]; rfl
  | succ k ih => rw [flat_succ, List.length_append, ih, h, Nat.succ_mul]
theorem flat_at {cs : Nat → List Value} {s : Nat} (h : ∀ j, (cs j).length = s) {k j i : Nat} (hj : j < k) (hi : i < s) : (flat cs k)[j * s + i]? = (cs j)[i]? := by
  induction k with
  | zero => omega
  | succ k ih =>
    rw [flat_succ]
    rcases (by omega : j < k ∨ j = k) with h1 | rfl
    · rw [List.getElem?_append_left (by rw [flat_len h]; have := Nat.mul_le_mul_right s (show j + 1 ≤ k by omega); rw [Nat.succ_mul] at this; omega)]; exact ih h1
    · rw [List.getElem?_append_right (by rw [flat_len h]; omega), flat_len h, show j * s + i - j * s = i by omega]
theorem flat_one {cs : Nat → List Value} (h : ∀ j, ∀ u ∈ cs j, u.oneCell' = true) (k : Nat) : ∀ u ∈ flat cs k, u.oneCell' = true := by
  intro u hu
  simp only [flat, List.mem_flatMap, List.mem_range] at hu
  obtain ⟨j, _, hj⟩ := hu
  exact h j u hj
theorem flat_congr {cs ds : Nat → List Value} {k : Nat} (h : ∀ j, j < k → cs j = ds j) : flat cs k = flat ds k := by
  induction k with
  | zero => rfl
  | succ k ih => rw [flat_succ, flat_succ, ih (fun j hj => h j (by omega)), h k (by omega)]
theorem flat_cat {cs ds es : Nat → List Value} {n m : Nat} (h1 : ∀ j, j < n → es j = cs j) (h2 : ∀ j, j < m → es (n + j) = ds j) : flat cs n ++ flat ds m = flat es (n + m) := by
  induction m with
  | zero => rw [Nat.add_zero, flat_congr (fun j hj => (h1 j hj).symm)]; simp [flat]
  | succ m ih => rw [flat_succ, ← List.append_assoc, ih (fun j hj => h2 j (by omega)), ← h2 m (by omega), ← Nat.add_assoc, flat_succ]
theorem addr_add (b off j : Nat) : (⟨b, off, none⟩ : Addr).add j = ⟨b, off + j, none⟩ := by
  by_cases h0 : j = 0
  · subst h0; simp [Addr.add]
  · simp [Addr.add, h0]
/-- What lies in memory, for an append of it. -/
theorem flat_news {w : World} {b off m s : Nat} {ds : Nat → List Value} (hl : ∀ j, (ds j).length = s) (hs : 0 < s) (h : ∀ j i u, j < m → (ds j)[i]? = some u → w.cell? ⟨b, off + (j * s + i), none⟩ = some u) :
    ∀ j u, (flat ds m)[j]? = some u → w.cell? ((⟨b, off, none⟩ : Addr).add j) = some u := by
  intro j u hu
  have hj : j < m * s := by have := (List.getElem?_eq_some_iff.1 hu).1; rwa [flat_len hl] at this
  rw [addr_add]
  have hi : j % s < s := Nat.mod_lt _ hs
  have hq : j / s < m := Nat.div_lt_of_lt_mul (by rw [Nat.mul_comm]; exact hj)
  have e : j = j / s * s + j % s := by rw [Nat.mul_comm]; exact (Nat.div_add_mod j s).symm
  rw [e] at hu ⊢
  rw [flat_at hl hq hi] at hu
  exact h _ _ _ hq hu
theorem app_G {P : Program} {o : Oper} {act : Act} {w : World} {K : Act → World → Prop} {Q : Exit → Act → World → Prop} (s x : Operand) (t e : TypeId) (z : Value) (sz bytes : Nat)
    (hund : P.underlying t = some (.slice e)) (hinfo : (P.info? e).map (fun i => (i.zero, i.size, i.bytes)) = some (some z, sz, bytes)) (hz : z.cells.size = sz) (hs0 : 0 < sz) (hby : bytes ≤ 1000)
    (ho : o.op = .call { callee := .builtin .append, args := #[s, x], argTypes := #[t, t] })
    (base : Nat) (cs ds es : Nat → List Value) (hds : ∀ j, (ds j).length = sz) (hd1 : ∀ j, ∀ u ∈ ds j, u.oneCell' = true)
    (g n c : Nat) (hs : act.eval s = .slice (some ⟨g, 0, none⟩) n c) (hown : w.ownsRow base e sz (.slice (some ⟨g, 0, none⟩) n c) n (flat cs n))
    (b off m c2 : Nat) (hx : act.eval x = .slice (some ⟨b, off, none⟩) m c2) (hnews : ∀ j i u, j < m → (ds j)[i]? = some u → w.cell? ⟨b, off + (j * sz + i), none⟩ = some u)
    (he1 : ∀ j, j < n → es j = cs j) (he2 : ∀ j, j < m → es (n + j) = ds j) (hn : n + m ≤ 2000000) (hbase : base ≤ w.heap.size)
    (h : ∀ b' c' w', w'.ownsRow base e sz (.slice (some ⟨b', 0, none⟩) (n + m) c') (n + m) (flat es (n + m)) → w.grownBy w' (some g) → K (act.put o.dst (.slice (some ⟨b', 0, none⟩) (n + m) c')) w') : o.wp P act w K Q := by
  obtain ⟨i, hi, hzz⟩ := Option.map_eq_some_iff.1 hinfo
  simp only [Prod.mk.injEq] at hzz
  obtain ⟨hz0, hz1, hz2⟩ := hzz
  have hb2 : (n + m) * bytes ≤ 140737488355328 := Nat.le_trans (Nat.mul_le_mul hn hby) (by decide)
  refine wp_append_own w s x t ho base e i z sz bytes hund hi hz0 hz1 hz2 hz hs0 (.slice (some ⟨g, 0, none⟩) n c) n (flat cs n) hs hown ⟨b, off, none⟩ m c2 (flat ds m) hx (flat_len hds m) (flat_news hds hs0 hnews) (flat_one hd1 m) (by unfold maxLen; omega) hb2 hbase ?_
  intro v' w' ho' hg' hv'
  rw [flat_cat he1 he2] at ho'
  rcases ho'.2 with ⟨hv, _⟩ | ⟨g', c', cur, hv, _⟩
  · have := (hv'.1 hv).1; cases this
  · subst hv
    exact h g' c' w' ho' hg'
def sC (R : Nat → ByteArray) (j : Nat) : List Value := [.string (R j)]
def uC (U : Nat → RV) (j : Nat) : List Value := [.string (U j).r, .int .i64 (U j).many, .int .i64 (U j).most]
def zC (z : Nat → Int) (j : Nat) : List Value := [.int .i64 (z j)]
/-- Texts, rules, numbers of the call's own. -/
def OS (w : World) (lo b n c : Nat) (R : Nat → ByteArray) : Prop := w.ownsRow lo 9 1 (.slice (some ⟨b, 0, none⟩) n c) n (flat (sC R) n)
def OU (w : World) (lo b n c : Nat) (U : Nat → RV) : Prop := w.ownsRow lo 39 3 (.slice (some ⟨b, 0, none⟩) n c) n (flat (uC U) n)
def OZ (w : World) (lo b n c : Nat) (z : Nat → Int) : Prop := w.ownsRow lo 3 1 (.slice (some ⟨b, 0, none⟩) n c) n (flat (zC z) n)
theorem own_le {w : World} {lo b n c s : Nat} {T : TypeId} {xs : List Value} (h : w.ownsRow lo T s (.slice (some ⟨b, 0, none⟩) n c) n xs) : n ≤ c ∧ c ≤ maxLen := by
  rcases h.2 with ⟨hv, _⟩ | ⟨g, c', cur, hv, hb, _, hn, hm, _⟩
  · cases hv
  · injection hv with h1 h2 h3; subst h3; exact ⟨hn, hm⟩
theorem own_low {w : World} {lo lo' k n : Nat} {T : TypeId} {v : Value} {xs : List Value} (h : w.ownsRow lo T k v n xs) (hl : lo' ≤ lo) : w.ownsRow lo' T k v n xs := by
  refine ⟨h.1, ?_⟩
  rcases h.2 with h1 | ⟨g, c, cur, hv, hb, h2⟩
  · exact .inl h1
  · exact .inr ⟨g, c, cur, hv, by omega, h2⟩
theorem own_at {w : World} {lo b n c s : Nat} {T : TypeId} {cs : Nat → List Value} (hl : ∀ j, (cs j).length = s) (h : w.ownsRow lo T s (.slice (some ⟨b, 0, none⟩) n c) n (flat cs n)) {j i : Nat} (hj : j < n) (hi : i < s) : w.cell? ⟨b, j * s + i, none⟩ = (cs j)[i]? :=
  (World.ownsRow.cellAt h _ (by have := Nat.mul_le_mul_right s (show j + 1 ≤ n by omega); rw [Nat.succ_mul] at this; omega)).trans (flat_at hl hj hi)
theorem own_nil {w : World} {lo b s : Nat} {T : TypeId} {cs : Nat → List Value} (hb : w.heap[b]? = some (.cells #[] T (0, 0))) (hl : lo ≤ b) : w.ownsRow lo T s (.slice (some ⟨b, 0, none⟩) 0 0) 0 (flat cs 0) :=
  ⟨by simp [flat], .inr ⟨b, 0, #[], rfl, hl, hb, Nat.le_refl _, by decide, by simp, by simp [flat]⟩⟩
theorem OS.lt {w : World} {lo b n c : Nat} {R : Nat → ByteArray} (h : OS w lo b n c R) : lo ≤ b ∧ b < w.heap.size := World.ownsRow.lt h b rfl
theorem OU.lt {w : World} {lo b n c : Nat} {U : Nat → RV} (h : OU w lo b n c U) : lo ≤ b ∧ b < w.heap.size := World.ownsRow.lt h b rfl
theorem OZ.lt {w : World} {lo b n c : Nat} {z : Nat → Int} (h : OZ w lo b n c z) : lo ≤ b ∧ b < w.heap.size := World.ownsRow.lt h b rfl
theorem OS.kept {w w' : World} {lo b n c : Nat} {R : Nat → ByteArray} {r : Option Nat} (h : OS w lo b n c R) (hg : w.grownBy w' r) (hne : some b ≠ r) : OS w' lo b n c R := World.ownsRow.kept h hg (.inr hne)
theorem OU.kept {w w' : World} {lo b n c : Nat} {U : Nat → RV} {r : Option Nat} (h : OU w lo b n c U) (hg : w.grownBy w' r) (hne : some b ≠ r) : OU w' lo b n c U := World.ownsRow.kept h hg (.inr hne)
theorem OZ.kept {w w' : World} {lo b n c : Nat} {z : Nat → Int} {r : Option Nat} (h : OZ w lo b n c z) (hg : w.grownBy w' r) (hne : some b ≠ r) : OZ w' lo b n c z := World.ownsRow.kept h hg (.inr hne)
theorem OS.keptN {w w' : World} {lo b n c : Nat} {R : Nat → ByteArray} (h : OS w lo b n c R) (hg : w.grownBy w' none) : OS w' lo b n c R := h.kept hg (by simp)
theorem OU.keptN {w w' : World} {lo b n c : Nat} {U : Nat → RV} (h : OU w lo b n c U) (hg : w.grownBy w' none) : OU w' lo b n c U := h.kept hg (by simp)
theorem OZ.keptN {w w' : World} {lo b n c : Nat} {z : Nat → Int} (h : OZ w lo b n c z) (hg : w.grownBy w' none) : OZ w' lo b n c z := h.kept hg (by simp)
theorem OS.lower {w : World} {lo lo' b n c : Nat} {R : Nat → ByteArray} (h : OS w lo b n c R) (hl : lo' ≤ lo) : OS w lo' b n c R := own_low h hl
theorem OU.lower {w : World} {lo lo' b n c : Nat} {U : Nat → RV} (h : OU w lo b n c U) (hl : lo' ≤ lo) : OU w lo' b n c U := own_low h hl
theorem OZ.lower {w : World} {lo lo' b n c : Nat} {z : Nat → Int} (h : OZ w lo b n c z) (hl : lo' ≤ lo) : OZ w lo' b n c z := own_low h hl
theorem OS.str {w : World} {lo b n c : Nat} {R : Nat → ByteArray} (h : OS w lo b n c R) : StrI w (some ⟨b, 0, none⟩) n R :=
  .inr ⟨b, 0, rfl, h.lt.2, fun j hj => by have := own_at (cs := sC R) (fun _ => rfl) h hj (show 0 < 1 by omega); rw [Nat.mul_one, Nat.add_zero] at this; rw [Nat.zero_add]; exact this⟩
theorem OZ.ints {w : World} {lo b n c : Nat} {z : Nat → Int} (h : OZ w lo b n c z) : Ints w (some ⟨b, 0, none⟩) n z :=
  .inr ⟨b, 0, rfl, h.lt.2, fun j hj => by have := own_at (cs := zC z) (fun _ => rfl) h hj (show 0 < 1 by omega); rw [Nat.mul_one, Nat.add_zero] at this; rw [Nat.zero_add]; exact this⟩
theorem OU.rul {w : World} {lo b n c : Nat} {U : Nat → RV} (h : OU w lo b n c U) : RuI w (some ⟨b, 0, none⟩) n U := by
  refine .inr ⟨b, 0, rfl, h.lt.2, fun j hj => ?_⟩
  have h0 := own_at (cs := uC U) (fun _ => rfl) h hj (show 0 < 3 by omega)
  have h1 := own_at (cs := uC U) (fun _ => rfl) h hj (show 1 < 3 by omega)
  have h2 := own_at (cs := uC U) (fun _ => rfl) h hj (show 2 < 3 by omega)
  rw [Nat.zero_add]
  exact ⟨h0, h1, h2⟩
end Po
end Go.Proofs.Ythbigmcklacbnaa
