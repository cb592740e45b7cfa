/-
  Courts as numbers, and in memory.
-/
import Derived.Test.YtbfmigmhmjgdgaaDa
import Derived.Test.YtbfmigmhmjgdgaaWk
namespace Go.Proofs.Ytbfmigmhmjgdgaa
namespace Ct
open Go.RowKit Alg Mem Con Draw
set_option linter.unusedVariables false

/-- A court. -/
structure CV where
  many : Int
  need : Int
  on : Bool
  at_ : Int
  n : Nat
  f : Nat → Int
  veto : Bool
def zeroC : CV := ⟨0, 0, false, 0, 0, fun _ => 0, false⟩
/-- Is it a guardian? -/
def mgF (many m : Int) : Bool := decide (1 ≤ m ∧ m ≤ many)
theorem mgF_iff {many m : Int} : mgF many m = true ↔ 1 ≤ m ∧ m ≤ many := by unfold mgF; rw [decide_eq_true_eq]
theorem mgF_no {many m : Int} (h : ¬ (1 ≤ m ∧ m ≤ many)) : mgF many m = false := decide_eq_false h
def mgz (many : Int) (z : Nat → Int) : Nat → Bool
  | 0 => true
  | k + 1 => mgz many z k && mgF many (z k)
theorem mgz_iff {many : Int} {z : Nat → Int} {n : Nat} : mgz many z n = true ↔ ∀ j, j < n → mgF many (z j) = true := by
  induction n with
  | zero => simp [mgz]
  | succ n ih =>
    simp only [mgz, Bool.and_eq_true, ih]
    exact ⟨fun h j hj => by rcases Nat.lt_or_ge j n with h' | h'; exact h.1 j h'; obtain rfl : j = n := by omega
                            exact h.2, fun h => ⟨fun j hj => h j (by omega), h n (by omega)⟩⟩
theorem mgz_no {many : Int} {z : Nat → Int} {n k : Nat} (hk : k < n) (h : mgF many (z k) = false) : mgz many z n = false := by
  cases h' : mgz many z n with
  | false => rfl
  | true => rw [mgz_iff.1 h' k hk] at h; cases h
theorem mgz_next {many : Int} {z : Nat → Int} {k : Nat} (h : mgz many z k = true) (hf : mgF many (z k) = true) : mgz many z (k + 1) = true := by simp [mgz, h, hf]
/-- Are they different? -/
def dsz (z : Nat → Int) : Nat → Bool
  | 0 => true
  | k + 1 => dsz z k && !hasz z (z k) k
theorem dsz_iff {z : Nat → Int} {n : Nat} : dsz z n = true ↔ ∀ j, j < n → hasz z (z j) j = false := by
  induction n with
  | zero => simp [dsz]
  | succ n ih =>
    simp only [dsz, Bool.and_eq_true, ih, Bool.not_eq_true']
    exact ⟨fun h j hj => by rcases Nat.lt_or_ge j n with h' | h'; exact h.1 j h'; obtain rfl : j = n := by omega
                            exact h.2, fun h => ⟨fun j hj => h j (by omega), h n (by omega)⟩⟩
theorem dsz_no {z : Nat → Int} {n k : Nat} (hk : k < n) (h : hasz z (z k) k = true) : dsz z n = false := by
  cases h' : dsz z n with
  | false => rfl
  | true => rw [dsz_iff.1 h' k hk] at h; cases h
theorem dsz_next {z : Nat → Int} {k : Nat} (h : dsz z k = true) (hf : hasz z (z k) k = false) : dsz z (k + 1) = true := by simp [dsz, h, hf]
theorem dsz_ne {z : Nat → Int} {n : Nat} (h : dsz z n = true) {i j : Nat} (hi : i < j) (hj : j < n) : z i ≠ z j := hasz_no.1 (dsz_iff.1 h j hj) i hi
/-- Are they supporters? -/
def spF (many : Int) (z : Nat → Int) (n : Nat) : Bool := mgz many z n && dsz z n
theorem spF_iff {many : Int} {z : Nat → Int} {n : Nat} : spF many z n = true ↔ ∀ j, j < n → mgF many (z j) = true ∧ hasz z (z j) j = false := by
  unfold spF; rw [Bool.and_eq_true, mgz_iff, dsz_iff]
  exact ⟨fun h j hj => ⟨h.1 j hj, h.2 j hj⟩, fun h => ⟨fun j hj => (h j hj).1, fun j hj => (h j hj).2⟩⟩
theorem spF_no {many : Int} {z : Nat → Int} {n k : Nat} (hk : k < n) (h : mgF many (z k) = false ∨ hasz z (z k) k = true) : spF many z n = false := by
  cases h' : spF many z n with
  | false => rfl
  | true => have := spF_iff.1 h' k hk; rcases h with h | h <;> simp [h] at this
theorem spF_next {many : Int} {z : Nat → Int} {k : Nat} (h : spF many z k = true) (hf : mgF many (z k) = true) (hh : hasz z (z k) k = false) : spF many z (k + 1) = true :=
  spF_iff.2 fun j hj => by
    rcases Nat.lt_or_ge j k with h' | h'
    · exact spF_iff.1 h j h'
    · obtain rfl : j = k := by omega
      exact ⟨hf, hh⟩
/-- Is it a time? -/
def tmF (x : Int) : Bool := decide (0 ≤ x ∧ x ≤ 99)
theorem tmF_iff {x : Int} : tmF x = true ↔ 0 ≤ x ∧ x ≤ 99 := by unfold tmF; rw [decide_eq_true_eq]
theorem tmF_no {x : Int} (h : ¬ (0 ≤ x ∧ x ≤ 99)) : tmF x = false := decide_eq_false h
/-- Is there nothing of a claim? -/
def ncF (at_ : Int) (n : Nat) (veto : Bool) : Bool := at_ == 0 && (n == 0 && !veto)
theorem ncF_iff {at_ : Int} {n : Nat} {veto : Bool} : ncF at_ n veto = true ↔ at_ = 0 ∧ n = 0 ∧ veto = false := by unfold ncF; simp
/-- Is it a court? -/
def cokF (C : CV) : Bool := crewF C.need C.many && (tmF C.at_ && (spF C.many C.f C.n && (C.on || ncF C.at_ C.n C.veto)))
theorem cokF_iff {C : CV} : cokF C = true ↔ crewF C.need C.many = true ∧ tmF C.at_ = true ∧ spF C.many C.f C.n = true ∧ (C.on = true ∨ ncF C.at_ C.n C.veto = true) := by
  unfold cokF; simp only [Bool.and_eq_true, Bool.or_eq_true]
/-- Does a claim stand? -/
def stF (on veto : Bool) : Bool := on && !veto
def opO (C : CV) (now : Int) : Bool := cokF C && (tmF now && !stF C.on C.veto)
def opV (C : CV) (now : Int) : CV := if (cokF C && tmF now) = true then (if stF C.on C.veto = true then C else ⟨C.many, C.need, true, now, 0, C.f, false⟩) else zeroC
def addz (f : Nat → Int) (n : Nat) (x : Int) (j : Nat) : Int := if j < n then f j else x
theorem addz_lt {f : Nat → Int} {n : Nat} {x : Int} {j : Nat} (h : j < n) : addz f n x j = f j := if_pos h
theorem addz_at {f : Nat → Int} {n : Nat} {x : Int} : addz f n x n = x := if_neg (by omega)
def vtO (C : CV) (who : Int) : Bool := cokF C && (mgF C.many who && (stF C.on C.veto && !hasz C.f who C.n))
def vtV (C : CV) (who : Int) : CV := if (cokF C && mgF C.many who) = true then (if (stF C.on C.veto && !hasz C.f who C.n) = true then ⟨C.many, C.need, C.on, C.at_, C.n + 1, addz C.f C.n who, C.veto⟩ else C) else zeroC
def veO (C : CV) : Bool := cokF C && stF C.on C.veto
def veV (C : CV) : CV := if cokF C = true then (if stF C.on C.veto = true then ⟨C.many, C.need, C.on, C.at_, C.n, C.f, true⟩ else C) else zeroC
def cmF (C : CV) (now : Int) : Bool := cokF C && (tmF now && (stF C.on C.veto && (decide (C.need ≤ C.n) && decide (10 ≤ now - C.at_))))
theorem cmF_iff {C : CV} {now : Int} : cmF C now = true ↔ cokF C = true ∧ tmF now = true ∧ stF C.on C.veto = true ∧ C.need ≤ C.n ∧ 10 ≤ now - C.at_ := by
  unfold cmF; simp only [Bool.and_eq_true, decide_eq_true_eq]
/-! What laws want. -/
theorem opV_ok {C : CV} {now : Int} (h : opO C now = true) : cokF (opV C now) = true ∧ opV C now = ⟨C.many, C.need, true, now, 0, C.f, false⟩ := by
  unfold opO at h
  simp only [Bool.and_eq_true, Bool.not_eq_true'] at h
  obtain ⟨h1, h2, h3⟩ := h
  have e : opV C now = ⟨C.many, C.need, true, now, 0, C.f, false⟩ := by
    unfold opV; rw [h1, h2, h3]; simp
  refine ⟨?_, e⟩
  rw [e]
  exact cokF_iff.2 ⟨(cokF_iff.1 h1).1, h2, by simp [spF, mgz, dsz], .inl rfl⟩
theorem spF_addz {many : Int} {f : Nat → Int} {n : Nat} {x : Int} (h : spF many f n = true) (hx : mgF many x = true) (hn : hasz f x n = false) : spF many (addz f n x) (n + 1) = true := by
  refine spF_next (spF_iff.2 fun j hj => ?_) (by rw [addz_at]; exact hx) ?_
  · rw [addz_lt hj]
    refine ⟨(spF_iff.1 h j hj).1, hasz_no.2 fun i hi => ?_⟩
    rw [addz_lt (by omega)]
    exact hasz_no.1 (spF_iff.1 h j hj).2 i hi
  · rw [addz_at]
    exact hasz_no.2 fun i hi => by rw [addz_lt hi]; exact hasz_no.1 hn i hi
theorem hasz_addz {f : Nat → Int} {n : Nat} {x y : Int} : hasz (addz f n x) y (n + 1) = (hasz f y n || (x == y)) := by
  have h : hasz (addz f n x) y n = hasz f y n := by
    cases e : hasz f y n with
    | false => exact hasz_no.2 fun j hj => by rw [addz_lt hj]; exact hasz_no.1 e j hj
    | true =>
      obtain ⟨j, hj, hh⟩ := hasz_iff.1 e
      exact hasz_iff.2 ⟨j, hj, by rw [addz_lt hj]; exact hh⟩
  show (hasz (addz f n x) y n || (addz f n x n == y)) = _
  rw [h, addz_at]
theorem vtV_ok {C : CV} {who : Int} (h : vtO C who = true) : cokF (vtV C who) = true ∧ vtV C who = ⟨C.many, C.need, C.on, C.at_, C.n + 1, addz C.f C.n who, C.veto⟩ := by
  unfold vtO at h
  simp only [Bool.and_eq_true, Bool.not_eq_true'] at h
  obtain ⟨h1, h2, h3, h4⟩ := h
  have e : vtV C who = ⟨C.many, C.need, C.on, C.at_, C.n + 1, addz C.f C.n who, C.veto⟩ := by
    unfold vtV; rw [h1, h2, h3, h4]; simp
  refine ⟨?_, e⟩
  rw [e]
  have hk := cokF_iff.1 h1
  refine cokF_iff.2 ⟨hk.1, hk.2.1, spF_addz hk.2.2.1 h2 h4, .inl ?_⟩
  show C.on = true
  unfold stF at h3; simp at h3; exact h3.1
theorem veV_ok {C : CV} (h : veO C = true) : cokF (veV C) = true ∧ veV C = ⟨C.many, C.need, C.on, C.at_, C.n, C.f, true⟩ := by
  unfold veO at h
  simp only [Bool.and_eq_true] at h
  obtain ⟨h1, h3⟩ := h
  have e : veV C = ⟨C.many, C.need, C.on, C.at_, C.n, C.f, true⟩ := by
    unfold veV; rw [h1, h3]; simp
  refine ⟨?_, e⟩
  rw [e]
  have hk := cokF_iff.1 h1
  refine cokF_iff.2 ⟨hk.1, hk.2.1, hk.2.2.1, .inl ?_⟩
  show C.on = true
  unfold stF at h3; simp at h3; exact h3.1
theorem pig : ∀ (m n : Nat) (f : Nat → Int), (∀ j, j < n → 1 ≤ f j ∧ f j ≤ m) → (∀ i j, i < j → j < n → f i ≠ f j) → n ≤ m
  | 0, n, f, h, _ => by
    rcases Nat.eq_zero_or_pos n with h0 | h0
    · omega
    · have := h 0 h0; omega
  | m + 1, n, f, h, d => by
    by_cases hx : ∃ j, j < n ∧ f j = ((m + 1 : Nat) : Int)
    · obtain ⟨j, hj, hf⟩ := hx
      have := pig m (n - 1) (fun i => if i < j then f i else f (i + 1)) (fun i hi => by
        have h1 := h i (by omega)
        have h2 := h (i + 1) (by omega)
        by_cases hij : i < j
        · have := d i j hij hj
          simp only [if_pos hij]; omega
        · have := d j (i + 1) (by omega) (by omega)
          simp only [if_neg hij]; omega) (fun a b hab hb => by
        by_cases h1 : a < j <;> by_cases h2 : b < j
        · simp only [if_pos h1, if_pos h2]; exact d a b hab (by omega)
        · simp only [if_pos h1, if_neg h2]; exact d a (b + 1) (by omega) (by omega)
        · omega
        · simp only [if_neg h1, if_neg h2]; exact d (a + 1) (b + 1) (by omega) (by omega))
      omega
    · have := pig m n f (fun j hj => by
        have h1 := h j hj
        have h2 : f j ≠ ((m + 1 : Nat) : Int) := fun e => hx ⟨j, hj, e⟩
        omega) d
      omega
/-- There are at most as many supporters as guardians. -/
theorem sp_len {many : Nat} {z : Nat → Int} {n : Nat} (h : spF many z n = true) : n ≤ many :=
  pig many n z (fun j hj => mgF_iff.1 (spF_iff.1 h j hj).1) (fun i j hi hj => hasz_no.1 (spF_iff.1 h j hj).2 i hi)
end Ct
end Go.Proofs.Ytbfmigmhmjgdgaa
