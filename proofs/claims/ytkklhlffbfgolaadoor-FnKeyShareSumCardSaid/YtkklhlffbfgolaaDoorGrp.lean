/-
  Plain arithmetic of the group of the powers of 2 modulo 47, on Lean's integers: the functions that the contracts speak of, and their laws, by finite check over exponents. It imports nothing of the program.
-/
import Derived.Test.YtkklhlffbfgolaaDoorAlg
namespace Go.Proofs.YtkklhlffbfgolaaDoor
namespace Alg

/-- Is it of the group: is its power to 23 equal to 1? -/
def gok (n : Int) : Bool := decide (0 < n ∧ n < 47 ∧ n ^ 23 % 47 = 1)
/-- A number, so often, round by round. -/
def pw (a : Int) : Nat → Int
  | 0 => 1
  | k + 1 => pw a k * a % 47
def gmulF (a b : Int) : Int := if gok a = true ∧ gok b = true then a * b % 47 else 0
def gpowF (a n : Int) : Int := if gok a = true ∧ fok n = true then pw a n.toNat else 0
def gofF (n : Int) : Int := if fok n = true then pw 2 n.toNat else 0
def ginvF (a : Int) : Int := if gok a = true then pw a 22 else 0

theorem gok_range {n : Int} (h : gok n = true) : 1 ≤ n ∧ n ≤ 46 := by
  have h' := of_decide_eq_true h; omega
/-- What holds of all 46 numbers that are not 0 holds of each that is one. -/
theorem one47 {P : Int → Prop} (h : ∀ a : Fin 47, P (a.val : Int)) {a : Int} (h0 : 0 ≤ a) (h1 : a ≤ 46) : P a := by
  have := h ⟨a.toNat, by omega⟩
  simpa [Int.toNat_of_nonneg h0] using this
/-- The exponent of one of the group; of none 0. -/
def lg (a : Int) : Int := ((List.range 23).find? fun k => pw 2 k == a).getD 0
theorem lg_ok {a : Int} (h : gok a = true) : fok (lg a) = true ∧ gofF (lg a) = a := by
  obtain ⟨h0, h1⟩ := gok_range h
  exact one47 (P := fun a => gok a = true → fok (lg a) = true ∧ gofF (lg a) = a) (by decide +kernel) (by omega) h1 h
theorem gof_ok {n : Int} (h : fok n = true) : gok (gofF n) = true :=
  one (P := fun n => gok (gofF n) = true) (by decide +kernel) h
theorem gof_lg {a : Int} (h : gok a = true) : ∃ n, fok n = true ∧ gofF n = a := ⟨lg a, lg_ok h⟩
theorem gof_out {n : Int} (h : fok n = false) : gofF n = 0 := by simp [gofF, h]
theorem gof_same {a b : Int} (ha : fok a = true) (hb : fok b = true) : gofF a = gofF b ↔ a = b :=
  two (P := fun a b => gofF a = gofF b ↔ a = b) (by decide +kernel) ha hb
theorem gmul_of {a b : Int} (ha : fok a = true) (hb : fok b = true) : gmulF (gofF a) (gofF b) = gofF (sumF a b) :=
  two (P := fun a b => gmulF (gofF a) (gofF b) = gofF (sumF a b)) (by decide +kernel) ha hb
theorem gpow_of {a n : Int} (ha : fok a = true) (hn : fok n = true) : gpowF (gofF a) n = gofF (mulF a n) :=
  two (P := fun a n => gpowF (gofF a) n = gofF (mulF a n)) (by decide +kernel) ha hn
theorem ginv_of {a : Int} (ha : fok a = true) : ginvF (gofF a) = gofF (difF 0 a) :=
  one (P := fun a => ginvF (gofF a) = gofF (difF 0 a)) (by decide +kernel) ha
theorem gof_zero : gofF 0 = 1 := by decide +kernel
theorem gof_one : gofF 1 = 2 := by decide +kernel

theorem gmul_out {a b : Int} (h : gok a = false ∨ gok b = false) : gmulF a b = 0 := by rcases h with h | h <;> simp [gmulF, h]
theorem gpow_out {a n : Int} (h : gok a = false ∨ fok n = false) : gpowF a n = 0 := by rcases h with h | h <;> simp [gpowF, h]
theorem ginv_out {a : Int} (h : gok a = false) : ginvF a = 0 := by simp [ginvF, h]
theorem gmul_in {a b : Int} (ha : gok a = true) (hb : gok b = true) : gmulF a b = a * b % 47 := by simp [gmulF, ha, hb]
theorem gpow_in {a n : Int} (ha : gok a = true) (hn : fok n = true) : gpowF a n = pw a n.toNat := by simp [gpowF, ha, hn]
theorem gof_in {n : Int} (hn : fok n = true) : gofF n = pw 2 n.toNat := by simp [gofF, hn]
theorem ginv_in {a : Int} (ha : gok a = true) : ginvF a = pw a 22 := by simp [ginvF, ha]
theorem ginv_pow {a : Int} : ginvF a = gpowF a 22 := by
  cases ha : gok a with
  | true => rw [ginv_in ha, gpow_in ha rfl]; rfl
  | false => rw [ginv_out ha, gpow_out (.inl ha)]
theorem gof_pow {n : Int} : gofF n = gpowF 2 n := by
  cases hn : fok n with
  | true => rw [gof_in hn, gpow_in (by decide +kernel) hn]
  | false => rw [gof_out hn, gpow_out (.inr hn)]
theorem gmul_ok {a b : Int} (ha : gok a = true) (hb : gok b = true) : gok (gmulF a b) = true := by
  obtain ⟨x, hx, rfl⟩ := gof_lg ha; obtain ⟨y, hy, rfl⟩ := gof_lg hb
  rw [gmul_of hx hy]; exact gof_ok (sumF_ok _ _)
theorem gpow_ok {a n : Int} (ha : gok a = true) (hn : fok n = true) : gok (gpowF a n) = true := by
  obtain ⟨x, hx, rfl⟩ := gof_lg ha
  rw [gpow_of hx hn]; exact gof_ok (mulF_ok _ _)
theorem ginv_ok {a : Int} (ha : gok a = true) : gok (ginvF a) = true := by
  obtain ⟨x, hx, rfl⟩ := gof_lg ha
  rw [ginv_of hx]; exact gof_ok (difF_ok _ _)

/-! The laws, each through the exponents. -/
theorem gmul_comm {a b : Int} : gmulF b a = gmulF a b := by
  unfold gmulF; rw [Int.mul_comm b a]; congr 1; exact propext And.comm
theorem gmul_assoc {a b c : Int} (ha : gok a = true) (hb : gok b = true) (hc : gok c = true) : gmulF (gmulF a b) c = gmulF a (gmulF b c) := by
  obtain ⟨x, hx, rfl⟩ := gof_lg ha; obtain ⟨y, hy, rfl⟩ := gof_lg hb; obtain ⟨z, hz, rfl⟩ := gof_lg hc
  rw [gmul_of hx hy, gmul_of hy hz, gmul_of (sumF_ok _ _) hz, gmul_of hx (sumF_ok _ _), sum_assoc hx hy hz]
theorem gmul_one {a : Int} (ha : gok a = true) : gmulF a 1 = a := by
  obtain ⟨x, hx, rfl⟩ := gof_lg ha
  rw [← gof_zero, gmul_of hx rfl, sum_zero hx]
theorem gpow_sum {a n m : Int} (ha : gok a = true) (hn : fok n = true) (hm : fok m = true) : gpowF a (sumF n m) = gmulF (gpowF a n) (gpowF a m) := by
  obtain ⟨x, hx, rfl⟩ := gof_lg ha
  rw [gpow_of hx (sumF_ok _ _), gpow_of hx hn, gpow_of hx hm, gmul_of (mulF_ok _ _) (mulF_ok _ _), mul_sum hx hn hm]
theorem gpow_mul {a n m : Int} (ha : gok a = true) (hn : fok n = true) (hm : fok m = true) : gpowF a (mulF n m) = gpowF (gpowF a n) m := by
  obtain ⟨x, hx, rfl⟩ := gof_lg ha
  rw [gpow_of hx (mulF_ok _ _), gpow_of hx hn, gpow_of (mulF_ok _ _) hm, mul_assoc hx hn hm]
theorem gpow_zero {a : Int} (ha : gok a = true) : gpowF a 0 = 1 := by rw [gpow_in ha rfl]; rfl
theorem mul_zero {a : Int} (ha : fok a = true) : mulF a 0 = 0 := by rw [mulF_in ha rfl]; simp
theorem gpow_one {a : Int} (ha : gok a = true) : gpowF a 1 = a := by
  obtain ⟨x, hx, rfl⟩ := gof_lg ha
  rw [gpow_of hx rfl, mul_one hx]
theorem gpow_gmul {a b n : Int} (ha : gok a = true) (hb : gok b = true) (hn : fok n = true) : gpowF (gmulF a b) n = gmulF (gpowF a n) (gpowF b n) := by
  obtain ⟨x, hx, rfl⟩ := gof_lg ha; obtain ⟨y, hy, rfl⟩ := gof_lg hb
  rw [gmul_of hx hy, gpow_of (sumF_ok _ _) hn, gpow_of hx hn, gpow_of hy hn, gmul_of (mulF_ok _ _) (mulF_ok _ _)]
  congr 1
  rw [mul_comm, mul_sum hn hx hy, @mul_comm n x, @mul_comm n y]
theorem gpow_same {a n m : Int} (ha : gok a = true) (h1 : a ≠ 1) (hn : fok n = true) (hm : fok m = true) : gpowF a m = gpowF a n ↔ m = n := by
  obtain ⟨x, hx, rfl⟩ := gof_lg ha
  have hx0 : x ≠ 0 := by rintro rfl; exact h1 gof_zero
  rw [gpow_of hx hm, gpow_of hx hn, gof_same (mulF_ok _ _) (mulF_ok _ _), @mul_comm m x, @mul_comm n x]
  exact mul_cancel hn hx hm hx0
theorem ginv_mul {a : Int} (ha : gok a = true) : gmulF a (ginvF a) = 1 := by
  obtain ⟨x, hx, rfl⟩ := gof_lg ha
  rw [ginv_of hx, gmul_of hx (difF_ok _ _), @sum_comm, dif_sum rfl hx, gof_zero]
theorem ginv_ginv {a : Int} (ha : gok a = true) : ginvF (ginvF a) = a := by
  obtain ⟨x, hx, rfl⟩ := gof_lg ha
  rw [ginv_of hx, ginv_of (difF_ok _ _)]
  congr 1
  rw [difF_in rfl (difF_ok _ _), difF_in rfl hx]; have := fok_iff.1 hx; omega
theorem ginv_gmul {a b : Int} (ha : gok a = true) (hb : gok b = true) : ginvF (gmulF a b) = gmulF (ginvF a) (ginvF b) := by
  rw [ginv_pow, ginv_pow, ginv_pow]; exact gpow_gmul ha hb rfl
theorem gturn {a : Int} (ha : gok a = true) : gmulF (gpowF a 22) a = 1 := by
  rw [gmul_comm, ← ginv_pow]; exact ginv_mul ha
theorem gturn_back {a n : Int} (ha : gok a = true) (hn : fok n = true) : gmulF (gpowF a n) (gpowF a (difF 0 n)) = 1 := by
  rw [← gpow_sum ha hn (difF_ok _ _), @sum_comm, dif_sum rfl hn, gpow_zero ha]
theorem gmul_cancel {a b c : Int} (ha : gok a = true) (hb : gok b = true) (hc : gok c = true) : gmulF c b = gmulF a b ↔ c = a := by
  obtain ⟨x, hx, rfl⟩ := gof_lg ha; obtain ⟨y, hy, rfl⟩ := gof_lg hb; obtain ⟨z, hz, rfl⟩ := gof_lg hc
  rw [gmul_of hz hy, gmul_of hx hy, gof_same (sumF_ok _ _) (sumF_ok _ _), gof_same hz hx]
  refine ⟨fun h => ?_, fun h => by rw [h]⟩
  rw [← sum_dif hz hy, h, sum_dif hx hy]
theorem gof_sum {n m : Int} (hn : fok n = true) (hm : fok m = true) : gofF (sumF n m) = gmulF (gofF n) (gofF m) := (gmul_of hn hm).symm
theorem pw_range (a : Int) (k : Nat) : 0 ≤ pw a k ∧ pw a k ≤ 46 := by
  cases k with
  | zero => exact ⟨Int.zero_le_ofNat 1, (by decide : (1 : Int) ≤ 46)⟩
  | succ k => exact ⟨Int.emod_nonneg _ (by decide), by have := Int.emod_lt_of_pos (pw a k * a) (show (0 : Int) < 47 by decide); show pw a k * a % 47 ≤ 46; omega⟩
theorem gok_pw {n : Int} (h0 : 1 ≤ n) (h1 : n ≤ 46) : gok n = (pw n 23 == 1) :=
  one47 (P := fun n => 1 ≤ n → gok n = (pw n 23 == 1)) (by decide +kernel) (by omega) h1 h0
end Alg
end Go.Proofs.YtkklhlffbfgolaaDoor
