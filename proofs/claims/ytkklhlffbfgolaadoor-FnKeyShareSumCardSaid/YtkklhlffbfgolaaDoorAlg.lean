/-
  Plain arithmetic of the numbers below 23, on Lean's integers: the functions that the contracts speak of, and their laws, by finite check. It imports nothing of the program.
-/
import Derived.WalkKit
namespace Go.Proofs.YtkklhlffbfgolaaDoor
namespace Alg

/-- Is it a number of the field? -/
def fok (n : Int) : Bool := decide (0 ≤ n ∧ n < 23)
def sumF (a b : Int) : Int := if fok a = true ∧ fok b = true then (a + b) % 23 else 0
def difF (a b : Int) : Int := if fok a = true ∧ fok b = true then (a + 23 - b) % 23 else 0
def mulF (a b : Int) : Int := if fok a = true ∧ fok b = true then (a * b) % 23 else 0
def invF (a : Int) : Int := if fok a = true then a ^ 21 % 23 else 0
def hasInv (a : Int) : Bool := fok a && !(a == 0)

theorem fok_mk {n : Int} (h0 : 0 ≤ n) (h1 : n < 23) : fok n = true := by simp [fok, h0, h1]
theorem fok_iff {n : Int} : fok n = true ↔ 0 ≤ n ∧ n < 23 := by simp [fok]
theorem fok_not {n : Int} : fok n = false ↔ n < 0 ∨ 23 ≤ n := by
  simp only [fok, decide_eq_false_iff_not]; omega
theorem sumF_in {a b : Int} (ha : fok a = true) (hb : fok b = true) : sumF a b = (a + b) % 23 := by simp [sumF, ha, hb]
theorem difF_in {a b : Int} (ha : fok a = true) (hb : fok b = true) : difF a b = (a + 23 - b) % 23 := by simp [difF, ha, hb]
theorem mulF_in {a b : Int} (ha : fok a = true) (hb : fok b = true) : mulF a b = (a * b) % 23 := by simp [mulF, ha, hb]
theorem sumF_out {a b : Int} (h : fok a = false ∨ fok b = false) : sumF a b = 0 := by rcases h with h | h <;> simp [sumF, h]
theorem difF_out {a b : Int} (h : fok a = false ∨ fok b = false) : difF a b = 0 := by rcases h with h | h <;> simp [difF, h]
theorem mulF_out {a b : Int} (h : fok a = false ∨ fok b = false) : mulF a b = 0 := by rcases h with h | h <;> simp [mulF, h]
theorem sumF_ok (a b : Int) : fok (sumF a b) = true := by
  unfold sumF; split
  · exact fok_mk (Int.emod_nonneg _ (by decide)) (Int.emod_lt_of_pos _ (by decide))
  · rfl
theorem difF_ok (a b : Int) : fok (difF a b) = true := by
  unfold difF; split
  · exact fok_mk (Int.emod_nonneg _ (by decide)) (Int.emod_lt_of_pos _ (by decide))
  · rfl
theorem mulF_ok (a b : Int) : fok (mulF a b) = true := by
  unfold mulF; split
  · exact fok_mk (Int.emod_nonneg _ (by decide)) (Int.emod_lt_of_pos _ (by decide))
  · rfl
theorem invF_ok (a : Int) : fok (invF a) = true := by
  unfold invF; split
  · exact fok_mk (Int.emod_nonneg _ (by decide)) (Int.emod_lt_of_pos _ (by decide))
  · rfl

/-- What holds of all 23 numbers holds of each that is one. -/
theorem one {P : Int → Prop} (h : ∀ a : Fin 23, P (a.val : Int)) {a : Int} (ha : fok a = true) : P a := by
  obtain ⟨h0, h1⟩ := fok_iff.1 ha
  have := h ⟨a.toNat, by omega⟩
  simpa [Int.toNat_of_nonneg h0] using this
theorem two {P : Int → Int → Prop} (h : ∀ a b : Fin 23, P (a.val : Int) (b.val : Int)) {a b : Int} (ha : fok a = true) (hb : fok b = true) : P a b :=
  one (P := fun a => P a b) (fun x => one (P := fun b => P (x.val : Int) b) (h x) hb) ha
theorem three {P : Int → Int → Int → Prop} (h : ∀ a b c : Fin 23, P (a.val : Int) (b.val : Int) (c.val : Int)) {a b c : Int} (ha : fok a = true) (hb : fok b = true) (hc : fok c = true) : P a b c :=
  one (P := fun a => P a b c) (fun x => two (P := fun b c => P (x.val : Int) b c) (h x) hb hc) ha

theorem em_l (x c : Int) : x % 23 * c % 23 = x * c % 23 := by
  rw [Int.mul_emod, Int.emod_emod_of_dvd x (Int.dvd_refl 23), ← Int.mul_emod]
theorem em_r (x c : Int) : x * (c % 23) % 23 = x * c % 23 := by rw [Int.mul_comm, em_l, Int.mul_comm]

/-! The laws. -/
theorem sum_comm {a b : Int} : sumF b a = sumF a b := by
  unfold sumF; rw [Int.add_comm b a]; congr 1; exact propext And.comm
theorem mul_comm {a b : Int} : mulF b a = mulF a b := by
  unfold mulF; rw [Int.mul_comm b a]; congr 1; exact propext And.comm
theorem sum_assoc {a b c : Int} (ha : fok a = true) (hb : fok b = true) (hc : fok c = true) : sumF (sumF a b) c = sumF a (sumF b c) := by
  rw [sumF_in (sumF_ok _ _) hc, sumF_in ha (sumF_ok _ _), sumF_in ha hb, sumF_in hb hc]; omega
theorem sum_zero {a : Int} (ha : fok a = true) : sumF a 0 = a := by
  rw [sumF_in ha rfl]; have := fok_iff.1 ha; omega
theorem dif_sum {a b : Int} (ha : fok a = true) (hb : fok b = true) : sumF (difF a b) b = a := by
  rw [sumF_in (difF_ok _ _) hb, difF_in ha hb]; have := fok_iff.1 ha; have := fok_iff.1 hb; omega
theorem sum_dif {a b : Int} (ha : fok a = true) (hb : fok b = true) : difF (sumF a b) b = a := by
  rw [difF_in (sumF_ok _ _) hb, sumF_in ha hb]; have := fok_iff.1 ha; have := fok_iff.1 hb; omega
theorem dif_self {a : Int} (ha : fok a = true) : difF a a = 0 := by
  rw [difF_in ha ha]; have := fok_iff.1 ha; omega
theorem mul_assoc {a b c : Int} (ha : fok a = true) (hb : fok b = true) (hc : fok c = true) : mulF (mulF a b) c = mulF a (mulF b c) := by
  rw [mulF_in (mulF_ok _ _) hc, mulF_in ha (mulF_ok _ _), mulF_in ha hb, mulF_in hb hc, em_l, em_r, Int.mul_assoc]
theorem mul_one {a : Int} (ha : fok a = true) : mulF a 1 = a := by
  rw [mulF_in ha rfl]; have := fok_iff.1 ha; omega
theorem mul_sum {a b c : Int} (ha : fok a = true) (hb : fok b = true) (hc : fok c = true) : mulF a (sumF b c) = sumF (mulF a b) (mulF a c) := by
  rw [mulF_in ha (sumF_ok _ _), sumF_in hb hc, sumF_in (mulF_ok _ _) (mulF_ok _ _), mulF_in ha hb, mulF_in ha hc, em_r, Int.mul_add, ← Int.add_emod]
theorem mul_none {a b : Int} (ha : fok a = true) (hb : fok b = true) : mulF a b = 0 ↔ a = 0 ∨ b = 0 :=
  two (P := fun a b => mulF a b = 0 ↔ a = 0 ∨ b = 0) (by decide +kernel) ha hb
theorem mul_cancel {a b c : Int} (ha : fok a = true) (hb : fok b = true) (hc : fok c = true) (h : b ≠ 0) : mulF c b = mulF a b ↔ c = a :=
  three (P := fun a b c => b ≠ 0 → (mulF c b = mulF a b ↔ c = a)) (by decide +kernel) ha hb hc h
theorem squares {a b : Int} (ha : fok a = true) (hb : fok b = true) : mulF a a = mulF b b ↔ a = b ∨ sumF a b = 0 :=
  two (P := fun a b => mulF a a = mulF b b ↔ a = b ∨ sumF a b = 0) (by decide +kernel) ha hb
theorem dif_zero {a b : Int} (ha : fok a = true) (hb : fok b = true) : difF a b = 0 ↔ a = b := by
  rw [difF_in ha hb]; have := fok_iff.1 ha; have := fok_iff.1 hb; omega
theorem dif_turn {a b : Int} (ha : fok a = true) (hb : fok b = true) : difF b a = difF 0 (difF a b) := by
  rw [difF_in hb ha, difF_in rfl (difF_ok _ _), difF_in ha hb]; have := fok_iff.1 ha; have := fok_iff.1 hb; omega
theorem inv_mul {a : Int} (ha : fok a = true) (h : a ≠ 0) : mulF a (invF a) = 1 :=
  one (P := fun a => a ≠ 0 → mulF a (invF a) = 1) (by decide +kernel) ha h
theorem inv_ne {a : Int} (ha : fok a = true) (h : a ≠ 0) : invF a ≠ 0 :=
  one (P := fun a => a ≠ 0 → invF a ≠ 0) (by decide +kernel) ha h
theorem inv_inv {a : Int} (ha : fok a = true) : invF (invF a) = a :=
  one (P := fun a => invF (invF a) = a) (by decide +kernel) ha
theorem inv_of_mul {a b : Int} (ha : fok a = true) (hb : fok b = true) : invF (mulF a b) = mulF (invF a) (invF b) :=
  two (P := fun a b => invF (mulF a b) = mulF (invF a) (invF b)) (by decide +kernel) ha hb
theorem inv_same {a b : Int} (ha : fok a = true) (hb : fok b = true) : invF a = invF b ↔ a = b :=
  two (P := fun a b => invF a = invF b ↔ a = b) (by decide +kernel) ha hb
theorem inv_only {a n : Int} (ha : fok a = true) (hn : fok n = true) (h : a ≠ 0) : a * n % 23 = 1 ↔ n = invF a :=
  two (P := fun a n => a ≠ 0 → (a * n % 23 = 1 ↔ n = invF a)) (by decide +kernel) ha hn h

/-! Euclid's rounds on 23 and a: what is left, what is left next, and their factors. -/
def eucStep (s : Int × Int × Int × Int) : Int × Int × Int × Int :=
  (s.2.1, s.1 - s.1 / s.2.1 * s.2.1, s.2.2.2, s.2.2.1 - s.1 / s.2.1 * s.2.2.2)
def euc (a : Int) : Nat → Int × Int × Int × Int
  | 0 => (23, a, 0, 1)
  | k + 1 => if (euc a k).2.1 = 0 then euc a k else eucStep (euc a k)
def fixUp (n : Int) : Int := if n < 0 then n + 23 else n
/-- All that the walk asks of a round. -/
def EucFine (a : Int) (k : Nat) : Prop :=
  0 ≤ (euc a k).1 ∧ (euc a k).1 ≤ 23 ∧ 0 ≤ (euc a k).2.1 ∧ (euc a k).2.1 ≤ 23 ∧ -23 ≤ (euc a k).2.2.1 ∧ (euc a k).2.2.1 ≤ 23 ∧ -23 ≤ (euc a k).2.2.2 ∧ (euc a k).2.2.2 ≤ 23 ∧
  ((euc a k).2.1 = 0 → fixUp (euc a k).2.2.1 = invF a) ∧
  ((euc a k).2.1 ≠ 0 → k < 22 ∧ (euc a (k + 1)).2.1 < (euc a k).2.1 ∧ (euc a k).1 / (euc a k).2.1 ≤ 23 ∧ 0 ≤ (euc a k).1 / (euc a k).2.1 ∧
    -600 ≤ (euc a k).1 / (euc a k).2.1 * (euc a k).2.1 ∧ (euc a k).1 / (euc a k).2.1 * (euc a k).2.1 ≤ 600 ∧
    -600 ≤ (euc a k).1 / (euc a k).2.1 * (euc a k).2.2.2 ∧ (euc a k).1 / (euc a k).2.1 * (euc a k).2.2.2 ≤ 600)
instance (a : Int) (k : Nat) : Decidable (EucFine a k) := by unfold EucFine; infer_instance
theorem euc_fine {a : Int} (ha : fok a = true) (h : a ≠ 0) {k : Nat} (hk : k < 23) : EucFine a k :=
  one (P := fun a => a ≠ 0 → EucFine a k) (fun x => (by decide +kernel : ∀ k : Fin 23, ∀ x : Fin 23, (x.val : Int) ≠ 0 → EucFine (x.val : Int) k.val) ⟨k, hk⟩ x) ha h
theorem euc_next {a : Int} {k : Nat} (h : (euc a k).2.1 ≠ 0) : euc a (k + 1) = eucStep (euc a k) := by simp [euc, h]
end Alg
end Go.Proofs.YtkklhlffbfgolaaDoor
