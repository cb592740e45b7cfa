/-
  Plain arithmetic of the numbers below 23, on Lean's integers: the functions that the contracts speak of, and their laws, by finite check. It imports nothing of the program.
-/
import Derived.WalkKit
namespace Go.Proofs.Ytchgjdbmianajaa
namespace Alg

/-- Is it a number of the field? -/
def fok (n : Int) : Bool := decide (0 ≤ n ∧ n < 23)
def sumF (a b : Int) : Int := if fok a = true ∧ fok b = true then (a + b) % 23 else 0
def difF (a b : Int) : Int := if fok a = true ∧ fok b = true then (a + 23 - b) % 23 else 0
def mulF (a b : Int) : Int := if fok a = true ∧ fok b = true then (a * b) % 23 else 0
def invF (a : Int) : Int := if fok a = true then a ^ 21 % 23 else 0
def hasInv (a : Int) : Bool := fok a && !(a == 0)

theorem fok_mk {n : Int} (h0 : 0 ≤ n) (h1 : n < 23) : fok n = true := by simp [fok, h0, h1]
theorem fok_iff {n : Int} : fok n = true ↔ 0 ≤ n ∧ n < 23 := by simp [fok]
theorem fok_not {n : Int} : fok n = false ↔ n < 0 ∨ 23 ≤ n := by
  simp only [fok, decide_eq_false_iff_not]; omega
theorem sumF_in {a b : Int} (ha : fok a = true) (hb : fok b = true) : sumF a b = (a + b) % 23 := by simp [sumF, ha, hb]
theorem difF_in {a b : Int} (ha : fok a = true) (hb : fok b = true) : difF a b = (a + 23 - b) % 23 := by simp [difF, ha, hb]
theorem mulF_in {a b : Int} (ha : fok a = true) (hb : fok b = true) : mulF a b = (a * b) % 23 := by simp [mulF, ha, hb]
theorem sumF_out {a b : Int} (h : fok a = false ∨ fok b = false) : sumF a b = 0 := by rcases h with h | h <;> simp [sumF, h]
theorem difF_out {a b : Int} (h : fok a = false ∨ fok b = false) : difF a b = 0 := by rcases h with h | h <;> simp [difF, h]
theorem mulF_out {a b : Int} (h : fok a = false ∨ fok b = false) : mulF a b = 0 := by rcases h with h | h <;> simp [mulF, h]
theorem sumF_ok (a b : Int) : fok (sumF a b) = true := by
  unfold sumF; split
  · exact fok_mk (Int.emod_nonneg _ (by decide)) (Int.emod_lt_of_pos _ (by decide))
  · rfl
theorem difF_ok (a b : Int) : fok (difF a b) = true := by
  unfold difF; split
  · exact fok_mk (Int.emod_nonneg _ (by decide)) (Int.emod_lt_of_pos _ (by decide))
  · rfl
theorem mulF_ok (a b : Int) : fok (mulF a b) = true := by
  unfold mulF; split
  · exact fok_mk (Int.emod_nonneg _ (by decide)) (Int.emod_lt_of_pos _ (by decide))
  · rfl
theorem invF_ok (a : Int) : fok (invF a) = true := by
  unfold invF; split
  · exact fok_mk (Int.emod_nonneg _ (by decide)) (Int.emod_lt_of_pos _ (by decide))
  · rfl

/-- What holds of all 23 numbers holds of each that is one. -/
theorem one {P : Int → Prop} (h : ∀ a : Fin 23, P (a.val : Int)) {a : Int} (ha : fok a = true) : P a := by
  obtain ⟨h0, h1⟩ := fok_iff.1 ha
  have := h ⟨a.toNat, by omega⟩
  simpa [Int.toNat_of_nonneg h0] using this
theorem two {P : Int → Int → Prop} (h : ∀ a b : Fin 23, P (a.val : Int) (b.val : Int)) {a b : Int} (ha : fok a = true) (hb : fok b = true) : P a b :=
  one (P := fun a => P a b) (fun x => one (P := fun b => P (x.val : Int) b) (h x) hb) ha
theorem three {P : Int → Int → Int → Prop} (h : ∀ a b c : Fin 23, P (a.val : Int) (b.val : Int) (c.val : Int)) {a b c : Int} (ha : fok a = true) (hb : fok b = true) (hc : fok c = true) : P a b c :=
  one (P := fun a => P a b c) (fun x => two (P := fun b c => P (x.val : Int) b c) (h x) hb hc) ha

theorem em_l (x c : Int) : x % 23 * c % 23 = x * c % 23 := by
  rw [Int.mul_emod, Int.emod_emod_of_dvd x (Int.dvd_refl 23), ← Int.mul_emod]
theorem em_r (x c : Int) : x * (c % 23) % 23 = x * c % 23 := by rw [Int.mul_comm, em_l, Int.mul_comm]

/-! The laws. -/
theorem sum_comm {a b : Int} : sumF b a = sumF a b := by
  unfold sumF; rw [Int.add_comm b a]; congr 1; exact propext And.comm
theorem mul_comm {a b : Int} : mulF b a = mulF a b := by
  unfold mulF; rw [Int.mul_comm b a]; congr 1; exact propext And.comm
theorem sum_assoc {a b c : Int} (ha : fok a = true) (hb : fok b = true) (hc : fok c = true) : sumF (sumF a b) c = sumF a (sumF b c) := by
  rw [sumF_in (sumF_ok _ _) hc, sumF_in ha (sumF_ok _ _), sumF_in ha hb, sumF_in hb hc]; omega
theorem sum_zero {a : Int} (ha : fok a = true) : sumF a 0 = a := by
  rw [sumF_in ha rfl]; have := fok_iff.1 ha; omega
theorem dif_sum {a b : Int} (ha : fok a = true) (hb : fok b = true) : sumF (difF a b) b = a := by
  rw [sumF_in (difF_ok _ _) hb, difF_in ha hb]; have := fok_iff.1 ha; have := fok_iff.1 hb; omega
theorem sum_dif {a b : Int} (ha : fok a = true) (hb : fok b = true) : difF (sumF a b) b = a := by
  rw [difF_in (sumF_ok _ _) hb, sumF_in ha hb]; have := fok_iff.1 ha; have := fok_iff.1 hb; omega
theorem dif_self {a : Int} (ha : fok a = true) : difF a a = 0 := by
  rw [difF_in ha ha]; have := fok_iff.1 ha; omega
theorem mul_assoc {a b c : Int} (ha : fok a = true) (hb : fok b = true) (hc : fok c = true) : mulF (mulF a b) c = mulF a (mulF b c) := by
  rw [mulF_in (mulF_ok _ _) hc, mulF_in ha (mulF_ok _ _), mulF_in ha hb, mulF_in hb hc, em_l, em_r, Int.mul_assoc]
theorem mul_one {a : Int} (ha : fok a = true) : mulF a 1 = a := by
  rw [mulF_in ha rfl]; have := fok_iff.1 ha; omega
theorem mul_sum {a b c : Int} (ha : fok a = true) (hb : fok b = true) (hc : fok c = true) : mulF a (sumF b c) = sumF (mulF a b) (mulF a c) := by
  rw [mulF_in ha (sumF_ok _ _), sumF_in hb hc, sumF_in (mulF_ok _ _) (mulF_ok _ _), mulF_in ha hb, mulF_in ha hc, em_r, Int.mul_add, ← Int.add_emod]
theorem mul_none {a b : Int} (ha : fok a = true) (hb : fok b = true) : mulF a b = 0 ↔ a = 0 ∨ b = 0 :=
  two (P := fun a b => mulF a b = 0 ↔ a = 0 ∨ b = 0) (by decide +kernel) ha hb
theorem mul_cancel {a b c : Int} (ha : fok a = true) (hb : fok b = true) (hc : fok c = true) (h : b ≠ 0) : mulF c b = mulF a b ↔ c = a :=
  three (P := fun a b c => b ≠ 0 → (mulF c b = mulF a b ↔ c = a)) (by decide +kernel) ha hb hc h
theorem squares {a b : Int} (ha : fok a = true) (hb : fok b = true) : mulF a a = mulF b b ↔ a = b ∨ sumF a b = 0 :=
  two (P := fun a b => mulF a a = mulF b b ↔ a = b ∨ sumF a b = 0) (by decide +kernel) ha hb
theorem dif_zero {a b : Int} (ha : fok a = true) (hb : fok b = true) : difF a b = 0 ↔ a = b := by
  rw [difF_in ha hb]; have := fok_iff.1 ha; have := fok_iff.1 hb; omega
theorem dif_turn {a b : Int} (ha : fok a = true) (hb : fok b = true) : difF b a = difF 0 (difF a b) := by
  rw [difF_in hb ha, difF_in rfl (difF_ok _ _), difF_in ha hb]; have := fok_iff.1 ha; have := fok_iff.1 hb; omega
theorem inv_mul {a : Int} (ha : fok a = true) (h : a ≠ 0) : mulF a (invF a) = 1 :=
  one (P := fun a => a ≠ 0 → mulF a (invF a) = 1) (by decide +kernel) ha h
theorem inv_ne {a : Int} (ha : fok a = true) (h : a ≠ 0) : invF a ≠ 0 :=
  one (P := fun a => a ≠ 0 → invF a ≠ 0) (by decide +kernel) ha h
theorem inv_inv {a : Int} (ha : fok a = true) : invF (invF a) = a :=
  one (P := fun a => invF (invF a) = a) (by decide +kernel) ha
theorem inv_of_mul {a b : Int} (ha : fok a = true) (hb : fok b = true) : invF (mulF a b) = mulF (invF a) (invF b) :=
  two (P := fun a b => invF (mulF a b) = mulF (invF a) (invF b)) (by decide +kernel) ha hb
theorem inv_same {a b : Int} (ha : fok a = true) (hb : fok b = true) : invF a = invF b ↔ a = b :=
  two (P := fun a b => invF a = invF b ↔ a = b) (by decide +kernel) ha hb
theorem inv_only {a n : Int} (ha : fok a = true) (hn : fok n = true) (h : a ≠ 0) : a * n % 23 = 1 ↔ n = invF a :=
  two (P := fun a n => a ≠ 0 → (a * n % 23 = 1 ↔ n = invF a)) (by decide +kernel) ha hn h

/-! Euclid's rounds on 23 and a: what is left, what is left next, and their factors. -/
def eucStep (s : Int × Int × Int × Int) : Int × Int × Int × Int :=
  (s.2.1, s.1 - s.1 / s.2.1 * s.2.1, s.2.2.2, s.2.2.1 - s.1 / s.2.1 * s.2.2.2)
def euc (a : Int) : Nat → Int × Int × Int × Int
  | 0 => (23, a, 0, 1)
  | k + 1 => if (euc a k).2.1 = 0 then euc a k else eucStep (euc a k)
def fixUp (n : Int) : Int := if n < 0 then n + 23 else n
/-- All that the walk asks of a round. -/
def EucFine (a : Int) (k : Nat) : Prop :=
  0 ≤ (euc a k).1 ∧ (euc a k).1 ≤ 23 ∧ 0 ≤ (euc a k).2.1 ∧ (euc a k).2.1 ≤ 23 ∧ -23 ≤ (euc a k).2.2.1 ∧ (euc a k).2.2.1 ≤ 23 ∧ -23 ≤ (euc a k).2.2.2 ∧ (euc a k).2.2.2 ≤ 23 ∧
  ((euc a k).2.1 = 0 → fixUp (euc a k).2.2.1 = invF a) ∧
  ((euc a k).2.1 ≠ 0 → k < 22 ∧ (euc a (k + 1)).2.1 < (euc a k).2.1 ∧ (euc a k).1 / (euc a k).2.1 ≤ 23 ∧ 0 ≤ (euc a k).1 / (euc a k).2.1 ∧
    -600 ≤ (euc a k).1 / (euc a k).2.1 * (euc a k).2.1 ∧ (euc a k).1 / (euc a k).2.1 * (euc a k).2.1 ≤ 600 ∧
    -600 ≤ (euc a k).1 / (euc a k).2.1 * (euc a k).2.2.2 ∧ (euc a k).1 / (euc a k).2.1 * (euc a k).2.2.2 ≤ 600)
instance (a : Int) (k : Nat) : Decidable (EucFine a k) := by unfold EucFine; infer_instance
theorem euc_fine {a : Int} (ha : fok a = true) (h : a ≠ 0) {k : Nat} (hk : k < 23) : EucFine a k :=
  one (P := fun a => a ≠ 0 → EucFine a k) (fun x => (by decide +kernel : ∀ k : Fin 23, ∀ x : Fin 23, (x.val : Int) ≠ 0 → EucFine (x.val : Int) k.val) ⟨k, hk⟩ x) ha h
theorem euc_next {a : Int} {k : Nat} (h : (euc a k).2.1 ≠ 0) : euc a (k + 1) = eucStep (euc a k) := by simp [euc, h]
end Alg
end Go.Proofs.Ytchgjdbmianajaa
/-
  Plain arithmetic of the group of the powers of 2 modulo 47, on Lean's integers: the functions that the contracts speak of, and their laws, by finite check over exponents. It imports nothing of the program.
-/

namespace Go.Proofs.Ytchgjdbmianajaa
namespace Alg

/-- Is it of the group: is its power to 23 equal to 1? -/
def gok (n : Int) : Bool := decide (0 < n ∧ n < 47 ∧ n ^ 23 % 47 = 1)
/-- A number, so often, round by round. -/
def pw (a : Int) : Nat → Int
  | 0 => 1
  | k + 1 => pw a k * a % 47
def gmulF (a b : Int) : Int := if gok a = true ∧ gok b = true then a * b % 47 else 0
def gpowF (a n : Int) : Int := if gok a = true ∧ fok n = true then pw a n.toNat else 0
def gofF (n : Int) : Int := if fok n = true then pw 2 n.toNat else 0
def ginvF (a : Int) : Int := if gok a = true then pw a 22 else 0

theorem gok_range {n : Int} (h : gok n = true) : 1 ≤ n ∧ n ≤ 46 := by
  have h' := of_decide_eq_true h; omega
/-- What holds of all 46 numbers that are not 0 holds of each that is one. -/
theorem one47 {P : Int → Prop} (h : ∀ a : Fin 47, P (a.val : Int)) {a : Int} (h0 : 0 ≤ a) (h1 : a ≤ 46) : P a := by
  have := h ⟨a.toNat, by omega⟩
  simpa [Int.toNat_of_nonneg h0] using this
/-- The exponent of one of the group; of none 0. -/
def lg (a : Int) : Int := ((List.range 23).find? fun k => pw 2 k == a).getD 0
theorem lg_ok {a : Int} (h : gok a = true) : fok (lg a) = true ∧ gofF (lg a) = a := by
  obtain ⟨h0, h1⟩ := gok_range h
  exact one47 (P := fun a => gok a = true → fok (lg a) = true ∧ gofF (lg a) = a) (by decide +kernel) (by omega) h1 h
theorem gof_ok {n : Int} (h : fok n = true) : gok (gofF n) = true :=
  one (P := fun n => gok (gofF n) = true) (by decide +kernel) h
theorem gof_lg {a : Int} (h : gok a = true) : ∃ n, fok n = true ∧ gofF n = a := ⟨lg a, lg_ok h⟩
theorem gof_out {n : Int} (h : fok n = false) : gofF n = 0 := by simp [gofF, h]
theorem gof_same {a b : Int} (ha : fok a = true) (hb : fok b = true) : gofF a = gofF b ↔ a = b :=
  two (P := fun a b => gofF a = gofF b ↔ a = b) (by decide +kernel) ha hb
theorem gmul_of {a b : Int} (ha : fok a = true) (hb : fok b = true) : gmulF (gofF a) (gofF b) = gofF (sumF a b) :=
  two (P := fun a b => gmulF (gofF a) (gofF b) = gofF (sumF a b)) (by decide +kernel) ha hb
theorem gpow_of {a n : Int} (ha : fok a = true) (hn : fok n = true) : gpowF (gofF a) n = gofF (mulF a n) :=
  two (P := fun a n => gpowF (gofF a) n = gofF (mulF a n)) (by decide +kernel) ha hn
theorem ginv_of {a : Int} (ha : fok a = true) : ginvF (gofF a) = gofF (difF 0 a) :=
  one (P := fun a => ginvF (gofF a) = gofF (difF 0 a)) (by decide +kernel) ha
theorem gof_zero : gofF 0 = 1 := by decide +kernel
theorem gof_one : gofF 1 = 2 := by decide +kernel

theorem gmul_out {a b : Int} (h : gok a = false ∨ gok b = false) : gmulF a b = 0 := by rcases h with h | h <;> simp [gmulF, h]
theorem gpow_out {a n : Int} (h : gok a = false ∨ fok n = false) : gpowF a n = 0 := by rcases h with h | h <;> simp [gpowF, h]
theorem ginv_out {a : Int} (h : gok a = false) : ginvF a = 0 := by simp [ginvF, h]
theorem gmul_in {a b : Int} (ha : gok a = true) (hb : gok b = true) : gmulF a b = a * b % 47 := by simp [gmulF, ha, hb]
theorem gpow_in {a n : Int} (ha : gok a = true) (hn : fok n = true) : gpowF a n = pw a n.toNat := by simp [gpowF, ha, hn]
theorem gof_in {n : Int} (hn : fok n = true) : gofF n = pw 2 n.toNat := by simp [gofF, hn]
theorem ginv_in {a : Int} (ha : gok a = true) : ginvF a = pw a 22 := by simp [ginvF, ha]
theorem ginv_pow {a : Int} : ginvF a = gpowF a 22 := by
  cases ha : gok a with
  | true => rw [ginv_in ha, gpow_in ha rfl]; rfl
  | false => rw [ginv_out ha, gpow_out (.inl ha)]
theorem gof_pow {n : Int} : gofF n = gpowF 2 n := by
  cases hn : fok n with
  | true => rw [gof_in hn, gpow_in (by decide +kernel) hn]
  | false => rw [gof_out hn, gpow_out (.inr hn)]
theorem gmul_ok {a b : Int} (ha : gok a = true) (hb : gok b = true) : gok (gmulF a b) = true := by
  obtain ⟨x, hx, rfl⟩ := gof_lg ha; obtain ⟨y, hy, rfl⟩ := gof_lg hb
  rw [gmul_of hx hy]; exact gof_ok (sumF_ok _ _)
theorem gpow_ok {a n : Int} (ha : gok a = true) (hn : fok n = true) : gok (gpowF a n) = true := by
  obtain ⟨x, hx, rfl⟩ := gof_lg ha
  rw [gpow_of hx hn]; exact gof_ok (mulF_ok _ _)
theorem ginv_ok {a : Int} (ha : gok a = true) : gok (ginvF a) = true := by
  obtain ⟨x, hx, rfl⟩ := gof_lg ha
  rw [ginv_of hx]; exact gof_ok (difF_ok _ _)

/-! The laws, each through the exponents. -/
theorem gmul_comm {a b : Int} : gmulF b a = gmulF a b := by
  unfold gmulF; rw [Int.mul_comm b a]; congr 1; exact propext And.comm
theorem gmul_assoc {a b c : Int} (ha : gok a = true) (hb : gok b = true) (hc : gok c = true) : gmulF (gmulF a b) c = gmulF a (gmulF b c) := by
  obtain ⟨x, hx, rfl⟩ := gof_lg ha; obtain ⟨y, hy, rfl⟩ := gof_lg hb; obtain ⟨z, hz, rfl⟩ := gof_lg hc
  rw [gmul_of hx hy, gmul_of hy hz, gmul_of (sumF_ok _ _) hz, gmul_of hx (sumF_ok _ _), sum_assoc hx hy hz]
theorem gmul_one {a : Int} (ha : gok a = true) : gmulF a 1 = a := by
  obtain ⟨x, hx, rfl⟩ := gof_lg ha
  rw [← gof_zero, gmul_of hx rfl, sum_zero hx]
theorem gpow_sum {a n m : Int} (ha : gok a = true) (hn : fok n = true) (hm : fok m = true) : gpowF a (sumF n m) = gmulF (gpowF a n) (gpowF a m) := by
  obtain ⟨x, hx, rfl⟩ := gof_lg ha
  rw [gpow_of hx (sumF_ok _ _), gpow_of hx hn, gpow_of hx hm, gmul_of (mulF_ok _ _) (mulF_ok _ _), mul_sum hx hn hm]
theorem gpow_mul {a n m : Int} (ha : gok a = true) (hn : fok n = true) (hm : fok m = true) : gpowF a (mulF n m) = gpowF (gpowF a n) m := by
  obtain ⟨x, hx, rfl⟩ := gof_lg ha
  rw [gpow_of hx (mulF_ok _ _), gpow_of hx hn, gpow_of (mulF_ok _ _) hm, mul_assoc hx hn hm]
theorem gpow_zero {a : Int} (ha : gok a = true) : gpowF a 0 = 1 := by rw [gpow_in ha rfl]; rfl
theorem mul_zero {a : Int} (ha : fok a = true) : mulF a 0 = 0 := by rw [mulF_in ha rfl]; simp
theorem gpow_one {a : Int} (ha : gok a = true) : gpowF a 1 = a := by
  obtain ⟨x, hx, rfl⟩ := gof_lg ha
  rw [gpow_of hx rfl, mul_one hx]
theorem gpow_gmul {a b n : Int} (ha : gok a = true) (hb : gok b = true) (hn : fok n = true) : gpowF (gmulF a b) n = gmulF (gpowF a n) (gpowF b n) := by
  obtain ⟨x, hx, rfl⟩ := gof_lg ha; obtain ⟨y, hy, rfl⟩ := gof_lg hb
  rw [gmul_of hx hy, gpow_of (sumF_ok _ _) hn, gpow_of hx hn, gpow_of hy hn, gmul_of (mulF_ok _ _) (mulF_ok _ _)]
  congr 1
  rw [mul_comm, mul_sum hn hx hy, @mul_comm n x, @mul_comm n y]
theorem gpow_same {a n m : Int} (ha : gok a = true) (h1 : a ≠ 1) (hn : fok n = true) (hm : fok m = true) : gpowF a m = gpowF a n ↔ m = n := by
  obtain ⟨x, hx, rfl⟩ := gof_lg ha
  have hx0 : x ≠ 0 := by rintro rfl; exact h1 gof_zero
  rw [gpow_of hx hm, gpow_of hx hn, gof_same (mulF_ok _ _) (mulF_ok _ _), @mul_comm m x, @mul_comm n x]
  exact mul_cancel hn hx hm hx0
theorem ginv_mul {a : Int} (ha : gok a = true) : gmulF a (ginvF a) = 1 := by
  obtain ⟨x, hx, rfl⟩ := gof_lg ha
  rw [ginv_of hx, gmul_of hx (difF_ok _ _), @sum_comm, dif_sum rfl hx, gof_zero]
theorem ginv_ginv {a : Int} (ha : gok a = true) : ginvF (ginvF a) = a := by
  obtain ⟨x, hx, rfl⟩ := gof_lg ha
  rw [ginv_of hx, ginv_of (difF_ok _ _)]
  congr 1
  rw [difF_in rfl (difF_ok _ _), difF_in rfl hx]; have := fok_iff.1 hx; omega
theorem ginv_gmul {a b : Int} (ha : gok a = true) (hb : gok b = true) : ginvF (gmulF a b) = gmulF (ginvF a) (ginvF b) := by
  rw [ginv_pow, ginv_pow, ginv_pow]; exact gpow_gmul ha hb rfl
theorem gturn {a : Int} (ha : gok a = true) : gmulF (gpowF a 22) a = 1 := by
  rw [gmul_comm, ← ginv_pow]; exact ginv_mul ha
theorem gturn_back {a n : Int} (ha : gok a = true) (hn : fok n = true) : gmulF (gpowF a n) (gpowF a (difF 0 n)) = 1 := by
  rw [← gpow_sum ha hn (difF_ok _ _), @sum_comm, dif_sum rfl hn, gpow_zero ha]
theorem gmul_cancel {a b c : Int} (ha : gok a = true) (hb : gok b = true) (hc : gok c = true) : gmulF c b = gmulF a b ↔ c = a := by
  obtain ⟨x, hx, rfl⟩ := gof_lg ha; obtain ⟨y, hy, rfl⟩ := gof_lg hb; obtain ⟨z, hz, rfl⟩ := gof_lg hc
  rw [gmul_of hz hy, gmul_of hx hy, gof_same (sumF_ok _ _) (sumF_ok _ _), gof_same hz hx]
  refine ⟨fun h => ?_, fun h => by rw [h]⟩
  rw [← sum_dif hz hy, h, sum_dif hx hy]
theorem gof_sum {n m : Int} (hn : fok n = true) (hm : fok m = true) : gofF (sumF n m) = gmulF (gofF n) (gofF m) := (gmul_of hn hm).symm
theorem pw_range (a : Int) (k : Nat) : 0 ≤ pw a k ∧ pw a k ≤ 46 := by
  cases k with
  | zero => exact ⟨Int.zero_le_ofNat 1, (by decide : (1 : Int) ≤ 46)⟩
  | succ k => exact ⟨Int.emod_nonneg _ (by decide), by have := Int.emod_lt_of_pos (pw a k * a) (show (0 : Int) < 47 by decide); show pw a k * a % 47 ≤ 46; omega⟩
theorem gok_pw {n : Int} (h0 : 1 ≤ n) (h1 : n ≤ 46) : gok n = (pw n 23 == 1) :=
  one47 (P := fun n => 1 ≤ n → gok n = (pw n 23 == 1)) (by decide +kernel) (by omega) h1 h0
end Alg
end Go.Proofs.Ytchgjdbmianajaa
/-
  Plain arithmetic of polynomials over the field: values, sums, division by 'x less a place', roots, and the factors by which values at places are taken. It imports nothing of the program.
-/

namespace Go.Proofs.Ytchgjdbmianajaa
namespace Pol
open Alg
set_option linter.unusedVariables false

/-! The field, as Lean's own numbers below 23 (a ring): what the lists of the program stand for. -/
abbrev F := Fin 23
/-- A number as one of the field. -/
def cv (a : Int) : F := Fin.ofNat 23 (a % 23).toNat
/-- One of the field as a number. -/
def fi (a : F) : Int := (a.val : Int)
theorem fi_ok (a : F) : fok (fi a) = true := by
  have := a.isLt
  exact fok_iff.2 ⟨by unfold fi; omega, by unfold fi; omega⟩
theorem cv_fi (a : F) : cv (fi a) = a := by
  apply Fin.ext; have := a.isLt; simp only [cv, fi, Fin.ofNat]; omega
theorem fi_cv {a : Int} (h : fok a = true) : fi (cv a) = a := by
  have := fok_iff.1 h; simp only [cv, fi, Fin.ofNat]; omega
theorem fi_inj {a b : F} : fi a = fi b ↔ a = b := ⟨fun h => by rw [← cv_fi a, h, cv_fi], fun h => by rw [h]⟩
theorem cv_inj {a b : Int} (ha : fok a = true) (hb : fok b = true) : cv a = cv b ↔ a = b := ⟨fun h => by rw [← fi_cv ha, h, fi_cv hb], fun h => by rw [h]⟩
theorem fi_range (a : F) : 0 ≤ fi a ∧ fi a ≤ 22 := by have := fok_iff.1 (fi_ok a); omega
def inv (a : F) : F := cv (invF (fi a))
theorem fi_sum (a b : F) : sumF (fi a) (fi b) = fi (a + b) := by
  have := a.isLt; have := b.isLt
  unfold sumF; rw [if_pos ⟨fi_ok a, fi_ok b⟩]; simp only [fi, Fin.add_def]; omega
theorem fi_dif (a b : F) : difF (fi a) (fi b) = fi (a - b) := by
  have := a.isLt; have := b.isLt
  unfold difF; rw [if_pos ⟨fi_ok a, fi_ok b⟩]; simp only [fi, Fin.sub_def]; omega
theorem fi_mul (a b : F) : mulF (fi a) (fi b) = fi (a * b) := by
  unfold mulF; rw [if_pos ⟨fi_ok a, fi_ok b⟩]; simp only [fi, Fin.mul_def]; simp
theorem fi_inv (a : F) : invF (fi a) = fi (inv a) := by
  have h : ∀ a : F, invF (fi a) = fi (inv a) := by decide +kernel
  exact h a
theorem mul_inv {a : F} (h : a ≠ 0) : a * inv a = 1 := (by decide +kernel : ∀ a : F, a ≠ 0 → a * inv a = 1) a h
theorem inv_ne {a : F} (h : a ≠ 0) : inv a ≠ 0 := (by decide +kernel : ∀ a : F, a ≠ 0 → inv a ≠ 0) a h
theorem inv_mul (a b : F) : inv (a * b) = inv a * inv b := (by decide +kernel : ∀ a b : F, inv (a * b) = inv a * inv b) a b
theorem noz {a b : F} (h : a * b = 0) : a = 0 ∨ b = 0 := (by decide +kernel : ∀ a b : F, a * b = 0 → a = 0 ∨ b = 0) a b h
theorem sub_ne {a b : F} (h : a ≠ b) : a - b ≠ 0 := by intro e; apply h; grind
theorem fi_zero : fi 0 = 0 := rfl
theorem fi_one : fi 1 = 1 := rfl
theorem fi_eq_zero {a : F} : fi a = 0 ↔ a = 0 := by rw [← fi_zero]; exact fi_inj
theorem fi_eq_one {a : F} : fi a = 1 ↔ a = 1 := by rw [← fi_one]; exact fi_inj

/-- The value of a polynomial at a place. -/
def ev : List F → F → F
  | [], _ => 0
  | c :: r, x => ev r x * x + c
theorem ev_zero (p : List F) : ev p 0 = p.headD 0 := by cases p <;> simp only [ev, List.headD_nil, List.headD_cons] <;> grind
/-- Two polynomials together. -/
def padd : List F → List F → List F
  | [], b => b
  | a, [] => a
  | x :: a, y :: b => (x + y) :: padd a b
theorem padd_nil (a : List F) : padd a [] = a := by cases a <;> rfl
theorem padd_comm (a b : List F) : padd a b = padd b a := by
  induction a generalizing b with
  | nil => rw [padd_nil]; rfl
  | cons x a ih => cases b with
    | nil => rfl
    | cons y b => simp only [padd, ih b]; congr 1; grind
theorem padd_assoc (a b c : List F) : padd (padd a b) c = padd a (padd b c) := by
  induction a generalizing b c with
  | nil => rfl
  | cons x a ih => cases b with
    | nil => rfl
    | cons y b => cases c with
      | nil => rfl
      | cons z c => simp only [padd, ih b c]; congr 1; grind
theorem padd_length (a b : List F) : (padd a b).length = max a.length b.length := by
  induction a generalizing b with
  | nil => simp [padd]
  | cons x a ih => cases b with
    | nil => simp [padd]
    | cons y b => simp only [padd, List.length_cons, ih b]; omega
theorem ev_padd (a b : List F) (x : F) : ev (padd a b) x = ev a x + ev b x := by
  induction a generalizing b with
  | nil => simp [padd, ev]
  | cons u a ih => cases b with
    | nil => simp [padd, ev]
    | cons v b => simp only [padd, ev, ih b]; grind

/-- What is left of a polynomial, less its value at a, by 'x less a'. -/
def quo : List F → F → List F
  | [], _ => []
  | [_], _ => []
  | _ :: d :: r, a => ev (d :: r) a :: quo (d :: r) a
theorem quo_length (p : List F) (a : F) : (quo p a).length = p.length - 1 := by
  induction p with
  | nil => rfl
  | cons c p ih => cases p with
    | nil => rfl
    | cons d r => simp only [quo, List.length_cons, ih]; simp
theorem ev_quo (p : List F) (a x : F) : ev p x = ev p a + (x - a) * ev (quo p a) x := by
  induction p with
  | nil => simp only [ev, quo]; grind
  | cons c p ih => cases p with
    | nil => simp only [ev, quo]; grind
    | cons d r =>
      have h : ev (quo (c :: d :: r) a) x = ev (quo (d :: r) a) x * x + ev (d :: r) a := rfl
      have h1 : ev (c :: d :: r) x = ev (d :: r) x * x + c := rfl
      have h2 : ev (c :: d :: r) a = ev (d :: r) a * a + c := rfl
      rw [h, h1, h2]
      grind
theorem quo_zero (p : List F) (a : F) (h : ∀ c ∈ quo p a, c = 0) (h0 : ev p a = 0) : ∀ c ∈ p, c = 0 := by
  induction p with
  | nil => intro c hc; cases hc
  | cons c p ih => cases p with
    | nil =>
      intro d hd
      simp at hd; subst hd
      have h1 : ev [d] a = 0 * a + d := rfl
      rw [h1] at h0; grind
    | cons d r =>
      have h1 : ev (d :: r) a = 0 := h _ List.mem_cons_self
      have h2 := ih (fun c hc => h c (List.mem_cons_of_mem _ hc)) h1
      intro e he
      rcases List.mem_cons.1 he with rfl | he
      · have h3 : ev (e :: d :: r) a = ev (d :: r) a * a + e := rfl
        rw [h3, h1] at h0; grind
      · exact h2 _ he

/-! The roots. -/
/-- At how many of the first k places it is nothing. -/
def cnt (p : List F) : Nat → Nat
  | 0 => 0
  | k + 1 => cnt p k + if ev p (cv (k : Int)) = 0 then 1 else 0
theorem cnt_le (p q : List F) (a : F) (h : ∀ x, ev p x = 0 → x = a ∨ ev q x = 0) (k : Nat) (hk : k ≤ 23) :
    cnt p k ≤ cnt q k + if a.val < k then 1 else 0 := by
  induction k with
  | zero => simp [cnt]
  | succ k ih =>
    have ih := ih (by omega)
    have hx := h (cv (k : Int))
    have hc : (cv (k : Int)) = a ↔ a.val = k := by
      rw [← fi_inj, show fi (cv (k : Int)) = (k : Int) from fi_cv (fok_iff.2 ⟨by omega, by omega⟩)]; unfold fi; omega
    simp only [cnt]
    by_cases h1 : ev p (cv (k : Int)) = 0
    · rcases hx h1 with h2 | h2
      · have := hc.1 h2; rw [if_pos h1]; split at ih <;> split <;> split <;> omega
      · rw [if_pos h1, if_pos h2]; split at ih <;> split <;> omega
    · rw [if_neg h1]; split at ih <;> split <;> split <;> omega
theorem cnt_none (p : List F) (h : ∀ x, ev p x ≠ 0) (k : Nat) : cnt p k = 0 := by
  induction k with
  | zero => rfl
  | succ k ih => simp only [cnt, ih, if_neg (h _)]
theorem roots (p : List F) (h : ¬ ∀ c ∈ p, c = 0) : cnt p 23 < p.length := by
  generalize hn : p.length = n
  induction n generalizing p with
  | zero => have : p = [] := List.length_eq_zero_iff.1 hn; subst this; exact absurd (fun c hc => by cases hc) h
  | succ n ih =>
    by_cases hr : ∃ a, ev p a = 0
    · obtain ⟨a, ha⟩ := hr
      have hq : ¬ ∀ c ∈ quo p a, c = 0 := fun hq => h (quo_zero p a hq ha)
      have h1 := ih (quo p a) hq (by rw [quo_length, hn]; rfl)
      have h2 := cnt_le p (quo p a) a (fun x hx => by
        have := ev_quo p a x
        rw [ha, hx] at this
        have h3 : (x - a) * ev (quo p a) x = 0 := by grind
        rcases noz h3 with h4 | h4
        · exact .inl (by grind)
        · exact .inr h4) 23 (Nat.le_refl _)
      split at h2 <;> omega
    · rw [cnt_none p (fun x hx => hr ⟨x, hx⟩)]; omega
theorem ev_all_zero (p : List F) (h : ∀ c ∈ p, c = 0) (x : F) : ev p x = 0 := by
  induction p with
  | nil => rfl
  | cons c p ih =>
    simp only [ev, ih (fun d hd => h d (List.mem_cons_of_mem _ hd)), h c List.mem_cons_self]; grind
theorem cnt_all (p : List F) (h : ∀ c ∈ p, c = 0) (k : Nat) : cnt p k = k := by
  induction k with
  | zero => rfl
  | succ k ih => simp only [cnt, ih, if_pos (ev_all_zero p h _)]

/-! The line: how often each value is taken. -/
def prd : List F → F → F
  | [], _ => 1
  | k :: r, x => (x - k) * prd r x
theorem prd_append (a b : List F) (x : F) : prd (a ++ b) x = prd a x * prd b x := by
  induction a with
  | nil => simp only [List.nil_append, prd]; grind
  | cons k a ih => simp only [List.cons_append, prd, ih]; grind
theorem prd_reverse (a : List F) (x : F) : prd a.reverse x = prd a x := by
  induction a with
  | nil => rfl
  | cons k a ih => rw [List.reverse_cons, prd_append, ih]; simp only [prd]; grind
theorem prd_mem {l : List F} {x : F} (h : x ∈ l) : prd l x = 0 := by
  induction l with
  | nil => cases h
  | cons k l ih =>
    rcases List.mem_cons.1 h with rfl | h
    · simp only [prd]; grind
    · simp only [prd, ih h]; grind
theorem prd_ne {l : List F} {x : F} (h : x ∉ l) : prd l x ≠ 0 := by
  induction l with
  | nil => simp [prd]
  | cons k l ih =>
    simp only [List.mem_cons, not_or] at h
    intro e
    rcases noz e with e | e
    · exact sub_ne h.1 e
    · exact ih h.2 e
/-- The i-th factor, by the places but the i-th. -/
def lag (l : List F) (i : Nat) (x : F) : F := prd (l.eraseIdx i) x * inv (prd (l.eraseIdx i) (l.getD i 0))
def ws : List F → F → List F
  | [], _ => []
  | a :: r, x => (prd r x * inv (prd r a)) :: List.zipWith (fun w b => w * ((x - a) * inv (b - a))) (ws r x) r
theorem ws_length (l : List F) (x : F) : (ws l x).length = l.length := by
  induction l with
  | nil => rfl
  | cons a r ih => simp [ws, ih]
theorem ws_get (l : List F) (x : F) (i : Nat) (h : i < l.length) : (ws l x)[i]'(by rw [ws_length]; exact h) = lag l i x := by
  induction l generalizing i with
  | nil => simp at h
  | cons a r ih =>
    cases i with
    | zero => simp [ws, lag]
    | succ j =>
      have hj : j < r.length := by simpa using h
      have := ih j hj
      simp only [ws, List.getElem_cons_succ, List.getElem_zipWith, this, lag, List.eraseIdx_cons_succ, prd, List.getD_cons_succ]
      rw [inv_mul, show r.getD j 0 = r[j] from by simp [hj]]
      grind
/-- The factors, one behind the other. -/
def line (l : List F) (x : F) : List F := (List.range l.length).map fun i => lag l i x
theorem line_ws (l : List F) (x : F) : line l x = ws l x := by
  apply List.ext_getElem
  · simp [line, ws_length]
  · intro i h1 h2
    rw [ws_get l x i (by simpa [line] using h1)]; simp [line]
def total : List F → F
  | [] => 0
  | a :: r => a + total r
def dot : List F → List F → F
  | a :: r, b :: s => a * b + dot r s
  | _, _ => 0
/-- The factors' fixed parts. -/
def bar : List F → List F
  | [] => []
  | a :: r => inv (prd r a) :: List.zipWith (fun u b => u * inv (b - a)) (bar r) r
theorem bar_length (l : List F) : (bar l).length = l.length := by
  induction l with
  | nil => rfl
  | cons a r ih => simp [bar, ih]
/-- Sum over places b of a factor of b by a word of b. -/
def acc (g : F → F) : List F → List F → F
  | u :: us, b :: bs => u * g b + acc g us bs
  | _, _ => 0
theorem total_zip (g : F → F) (us bs : List F) : total (List.zipWith (fun u b => u * g b) us bs) = acc g us bs := by
  induction us generalizing bs with
  | nil => simp [acc, total]
  | cons u us ih => cases bs with
    | nil => simp [acc, total]
    | cons b bs => simp [acc, total, ih]
theorem acc_congr (g h : F → F) (us bs : List F) (e : ∀ b ∈ bs, g b = h b) : acc g us bs = acc h us bs := by
  induction us generalizing bs with
  | nil => rfl
  | cons u us ih => cases bs with
    | nil => rfl
    | cons b bs => simp only [acc, ih bs (fun b hb => e b (List.mem_cons_of_mem _ hb)), e b List.mem_cons_self]
theorem acc_add (g h : F → F) (us bs : List F) : acc (fun b => g b + h b) us bs = acc g us bs + acc h us bs := by
  induction us generalizing bs with
  | nil => simp [acc]
  | cons u us ih => cases bs with
    | nil => simp [acc]
    | cons b bs => simp only [acc, ih]; grind
theorem acc_mul (c : F) (g : F → F) (us bs : List F) : acc (fun b => c * g b) us bs = c * acc g us bs := by
  induction us generalizing bs with
  | nil => simp only [acc]; grind
  | cons u us ih => cases bs with
    | nil => simp only [acc]; grind
    | cons b bs => simp only [acc, ih]; grind
theorem acc_one (us bs : List F) (h : us.length = bs.length) : acc (fun _ => 1) us bs = total us := by
  induction us generalizing bs with
  | nil => rfl
  | cons u us ih => cases bs with
    | nil => simp at h
    | cons b bs => simp only [acc, total, ih bs (by simpa using h)]; grind
theorem acc_zip (f g : F → F) (us bs : List F) : acc g (List.zipWith (fun u b => u * f b) us bs) bs = acc (fun b => f b * g b) us bs := by
  induction us generalizing bs with
  | nil => simp [acc]
  | cons u us ih => cases bs with
    | nil => simp [acc]
    | cons b bs => simp only [List.zipWith_cons_cons, acc, ih]; grind
/-- A factor, by 'x less its place', is the product by its fixed part. -/
theorem ws_bar (g : F → F) (l : List F) (x : F) : acc (fun b => (x - b) * g b) (ws l x) l = prd l x * acc g (bar l) l := by
  induction l generalizing g with
  | nil => simp only [ws, bar, acc]; grind
  | cons a r ih =>
    simp only [ws, bar, acc, acc_zip, prd]
    have h := ih (fun b => (x - a) * (inv (b - a) * g b))
    rw [acc_mul] at h
    rw [acc_congr (fun b => (x - a) * inv (b - a) * ((x - b) * g b)) (fun b => (x - b) * ((x - a) * (inv (b - a) * g b))) (ws r x) r (fun b _ => by grind), h]
    grind
theorem total_ws (l : List F) (x : F) (hn : l.Nodup) (h0 : l ≠ []) : total (ws l x) = 1 := by
  induction l generalizing x with
  | nil => exact absurd rfl h0
  | cons a r ih =>
    obtain ⟨ha, hr⟩ := List.nodup_cons.1 hn
    cases hr0 : r with
    | nil => simp [ws, total, prd]; decide
    | cons b0 r0 =>
      rw [← hr0]
      have hne : r ≠ [] := by rw [hr0]; simp
      have hW := mul_inv (prd_ne ha)
      simp only [ws, total]
      rw [total_zip (fun b => (x - a) * inv (b - a))]
      -- each factor, turned
      have e1 : acc (fun b => (x - a) * inv (b - a)) (ws r x) r = acc (fun b => 1 + (x - b) * inv (b - a)) (ws r x) r :=
        acc_congr _ _ _ _ fun b hb => by
          have hd : b ≠ a := fun e => ha (e ▸ hb)
          have := mul_inv (sub_ne hd)
          grind
      have e2 := ws_bar (fun b => inv (b - a)) r x
      have e3 := ws_bar (fun b => inv (b - a)) r a
      have e4 : acc (fun b => (a - b) * inv (b - a)) (ws r a) r = acc (fun b => (-1) * 1) (ws r a) r :=
        acc_congr _ _ _ _ fun b hb => by
          have hd : b ≠ a := fun e => ha (e ▸ hb)
          have := mul_inv (sub_ne hd)
          grind
      rw [acc_mul, acc_one _ _ (ws_length r a), ih a hr hne] at e4
      rw [e1, acc_add, acc_one _ _ (ws_length r x), ih x hr hne, e2]
      grind
theorem dot_map (ss l : List F) (g : F → F) : dot ss (l.map g) = acc g ss l := by
  induction ss generalizing l with
  | nil => cases l <;> rfl
  | cons u us ih => cases l with
    | nil => rfl
    | cons b bs => simp only [List.map_cons, dot, acc, ih]
/-- As many values as numbers tell a polynomial everywhere. -/
theorem interp (l p : List F) (x : F) (hn : l.Nodup) (h0 : l ≠ []) (hp : p.length ≤ l.length) : acc (ev p) (ws l x) l = ev p x := by
  induction l generalizing p with
  | nil => exact absurd rfl h0
  | cons a r ih =>
    obtain ⟨ha, hr⟩ := List.nodup_cons.1 hn
    have ht := total_ws (a :: r) x hn h0
    have hs : acc (ev p) (ws (a :: r) x) (a :: r) = acc (fun b => ev p a * 1 + (b - a) * ev (quo p a) b) (ws (a :: r) x) (a :: r) :=
      acc_congr _ _ _ _ fun b _ => by rw [ev_quo p a b]; grind
    rw [hs, acc_add, acc_mul, acc_one _ _ (ws_length _ _), ht]
    have hq : acc (fun b => (b - a) * ev (quo p a) b) (ws (a :: r) x) (a :: r) = (x - a) * acc (ev (quo p a)) (ws r x) r := by
      simp only [ws, acc, acc_zip]
      rw [← acc_mul, acc_congr (fun b => (x - a) * inv (b - a) * ((b - a) * ev (quo p a) b)) (fun b => (x - a) * ev (quo p a) b) (ws r x) r (fun b hb => by
        have hd : b ≠ a := fun e => ha (e ▸ hb)
        have := mul_inv (sub_ne hd)
        grind)]
      grind
    rw [hq, ev_quo p a x]
    have h1 : acc (ev (quo p a)) (ws r x) r = ev (quo p a) x := by
      cases r with
      | nil =>
        have : quo p a = [] := List.length_eq_zero_iff.1 (by rw [quo_length]; simp at hp; omega)
        rw [this]; rfl
      | cons b r => exact ih _ hr (by simp) (by rw [quo_length]; simp at hp ⊢; omega)
    rw [h1]; grind
end Pol
end Go.Proofs.Ytchgjdbmianajaa
