/-
  What signers showed, in memory: slices of structs of four; one of the call's own; sessions as numbers.
-/
import Derived.Test.YthbigmcklacbnaaGreatDoorGn
import Derived.Test.YthbigmcklacbnaaGreatDoorWk
import Derived.Test.YthbigmcklacbnaaGreatDoorRunSh
namespace Go.Proofs.YthbigmcklacbnaaGreatDoor
namespace Con
open Go.RowKit Alg Mem Draw
set_option linter.unusedVariables false

/-- What a signer showed. -/
structure SV where
  m : Int
  R : Int
  on : Bool
  Z : Int
/-- Such in memory. -/
def ShIn (w : World) (a : Option Addr) (len : Nat) (S : Nat → SV) : Prop :=
  len = 0 ∨ ∃ b off, a = some ⟨b, off, none⟩ ∧ b < w.heap.size ∧ ∀ j, j < len → w.cell? ⟨b, off + j * 4, none⟩ = some (.int .i64 (S j).m) ∧ w.cell? ⟨b, off + j * 4 + 1, none⟩ = some (.int .i64 (S j).R) ∧ w.cell? ⟨b, off + j * 4 + 2, none⟩ = some (.bool (S j).on) ∧ w.cell? ⟨b, off + j * 4 + 3, none⟩ = some (.int .i64 (S j).Z)
theorem ShIn.keptR {w w' : World} {a : Option Addr} {len : Nat} {S : Nat → SV} {r : Option Nat} (h : ShIn w a len S) (hg : w.grownBy w' r) (hr : ∀ b off, a = some ⟨b, off, none⟩ → some b ≠ r) : ShIn w' a len S := by
  rcases h with h | ⟨b, off, ha, hl, hc⟩
  · exact .inl h
  · refine .inr ⟨b, off, ha, Nat.lt_of_lt_of_le hl hg.size, fun j hj => ?_⟩
    obtain ⟨h0, h1, h2, h3⟩ := hc j hj
    have e := hg.block b hl (hr b off ha)
    exact ⟨(World.cell?_of_block e).trans h0, (World.cell?_of_block e).trans h1, (World.cell?_of_block e).trans h2, (World.cell?_of_block e).trans h3⟩
theorem ShIn.kept {w w' : World} {a : Option Addr} {len : Nat} {S : Nat → SV} (h : ShIn w a len S) (hg : w.grownBy w' none) : ShIn w' a len S := h.keptR hg (fun _ _ _ => by simp)
theorem ShIn.less {w : World} {a : Option Addr} {len k : Nat} {S : Nat → SV} (h : ShIn w a len S) (hk : k ≤ len) : ShIn w a k S := by
  rcases h with h | ⟨b, off, ha, hl, hc⟩
  · exact .inl (by omega)
  · exact .inr ⟨b, off, ha, hl, fun j hj => hc j (by omega)⟩
theorem ShIn.congr {w : World} {a : Option Addr} {len : Nat} {S S' : Nat → SV} (h : ShIn w a len S) (e : ∀ j, j < len → S j = S' j) : ShIn w a len S' := by
  rcases h with h | ⟨b, off, ha, hl, hc⟩
  · exact .inl h
  · exact .inr ⟨b, off, ha, hl, fun j hj => by rw [← e j hj]; exact hc j hj⟩
theorem ShIn.ptr {w : World} {a : Option Addr} {len : Nat} {S : Nat → SV} (h : ShIn w a len S) (h1 : 1 ≤ len) : ∃ b off, a = some ⟨b, off, none⟩ ∧ b < w.heap.size ∧ ∀ j, j < len → w.cell? ⟨b, off + j * 4, none⟩ = some (.int .i64 (S j).m) ∧ w.cell? ⟨b, off + j * 4 + 1, none⟩ = some (.int .i64 (S j).R) ∧ w.cell? ⟨b, off + j * 4 + 2, none⟩ = some (.bool (S j).on) ∧ w.cell? ⟨b, off + j * 4 + 3, none⟩ = some (.int .i64 (S j).Z) := by
  rcases h with h | h
  · omega
  · exact h
/-! The cells of such a row. -/
def cell4 (s : SV) : List Value := [.int .i64 s.m, .int .i64 s.R, .bool s.on, .int .i64 s.Z]
def cellsS (S : Nat → SV) (k : Nat) : List Value := (List.range k).flatMap fun j => cell4 (S j)
theorem cellsS_succ (S : Nat → SV) (k : Nat) : cellsS S (k + 1) = cellsS S k ++ cell4 (S k) := by simp [cellsS, List.range_succ]
theorem cellsS_len (S : Nat → SV) (k : Nat) : (cellsS S k).length = k * 4 := by
  induction k with
  | zero => rfl
  | succ k ih => rw [cellsS_succ, List.length_append, ih]; simp [cell4]; omega
theorem cellsS_at (S : Nat → SV) {k j i : Nat} (hj : j < k) (hi : i < 4) : (cellsS S k)[j * 4 + i]? = (cell4 (S j))[i]? := by
  induction k with
  | zero => omega
  | succ k ih =>
    rw [cellsS_succ]
    rcases (by omega : j < k ∨ j = k) with h | rfl
    · rw [List.getElem?_append_left (by rw [cellsS_len]; omega)]; exact ih h
    · rw [List.getElem?_append_right (by rw [cellsS_len]; omega), cellsS_len, show j * 4 + i - j * 4 = i by omega]
theorem cellsS_one (S : Nat → SV) (k : Nat) : ∀ u ∈ cellsS S k, u.oneCell' = true := by
  intro u hu
  simp only [cellsS, List.mem_flatMap, List.mem_range, cell4] at hu
  obtain ⟨j, _, hj⟩ := hu
  simp at hj
  rcases hj with rfl | rfl | rfl | rfl <;> rfl
theorem cellsS_congr {S S' : Nat → SV} {k : Nat} (h : ∀ j, j < k → S j = S' j) : cellsS S k = cellsS S' k := by
  induction k with
  | zero => rfl
  | succ k ih => rw [cellsS_succ, cellsS_succ, ih (fun j hj => h j (by omega)), h k (by omega)]
/-- The cells of a row that lies in memory, for an append of it. -/
theorem cellsS_in {w : World} {b off n : Nat} {S : Nat → SV} (h : ∀ j, j < n → w.cell? ⟨b, off + j * 4, none⟩ = some (.int .i64 (S j).m) ∧ w.cell? ⟨b, off + j * 4 + 1, none⟩ = some (.int .i64 (S j).R) ∧ w.cell? ⟨b, off + j * 4 + 2, none⟩ = some (.bool (S j).on) ∧ w.cell? ⟨b, off + j * 4 + 3, none⟩ = some (.int .i64 (S j).Z)) :
    ∀ j u, (cellsS S n)[j]? = some u → w.cell? ((⟨b, off, none⟩ : Addr).add j) = some u := by
  intro j u hu
  have hj : j < n * 4 := by have := (List.getElem?_eq_some_iff.1 hu).1; rwa [cellsS_len] at this
  have e : (⟨b, off, none⟩ : Addr).add j = ⟨b, off + j, none⟩ := by
    by_cases h0 : j = 0
    · subst h0; simp [Addr.add]
    · simp [Addr.add, h0]
  rw [e]
  obtain ⟨q, i, hi, rfl⟩ : ∃ q i, i < 4 ∧ j = q * 4 + i := ⟨j / 4, j % 4, by omega, by omega⟩
  obtain ⟨h0, h1, h2, h3⟩ := h q (by omega)
  rw [cellsS_at S (by omega : q < n) hi] at hu
  rcases (by omega : i = 0 ∨ i = 1 ∨ i = 2 ∨ i = 3) with rfl | rfl | rfl | rfl <;> (simp [cell4] at hu; subst hu; rw [← Nat.add_assoc]; assumption)
/-- A row of the call's own. -/
def OwnSh (w : World) (lo : Nat) (v : Value) (n : Nat) (S : Nat → SV) : Prop := w.ownsRow lo 35 4 v n (cellsS S n)
theorem OwnSh.sh {w : World} {lo : Nat} {v : Value} {n : Nat} {S : Nat → SV} (h : OwnSh w lo v n S) : ∃ a c, v = .slice a n c ∧ ShIn w a n S ∧ n ≤ c ∧ c ≤ maxLen ∧ (∀ b off, a = some ⟨b, off, none⟩ → lo ≤ b ∧ b < w.heap.size) := by
  rcases h.2 with ⟨hv, h0⟩ | ⟨g, c, cur, hv, hb, _, hn, hm, _⟩
  · exact ⟨none, 0, by rw [hv, h0], .inl h0, by omega, by unfold maxLen; omega, fun b off e => by cases e⟩
  · have ho := h
    unfold OwnSh at ho
    rw [hv] at ho
    have hl := ho.lt g rfl
    refine ⟨_, c, hv, .inr ⟨g, 0, rfl, hl.2, fun j hj => ?_⟩, hn, hm, fun b off e => by injection e with e; injection e with e _; omega⟩
    have c0 := cellsS_at S hj (show 0 < 4 by omega); have c1 := cellsS_at S hj (show 1 < 4 by omega); have c2 := cellsS_at S hj (show 2 < 4 by omega); have c3 := cellsS_at S hj (show 3 < 4 by omega)
    rw [Nat.zero_add]
    exact ⟨(ho.cellAt _ (by omega)).trans c0, (ho.cellAt _ (by omega)).trans c1, (ho.cellAt _ (by omega)).trans c2, (ho.cellAt _ (by omega)).trans c3⟩
theorem sh_empty (w : World) (S : Nat → SV) : OwnSh (w.alloc (.cells #[] 35)) w.heap.size (.slice (some ⟨w.heap.size, 0, none⟩) 0 0) 0 S :=
  ⟨rfl, .inr ⟨_, 0, #[], rfl, Nat.le_refl _, Blk.new _ #[] _, Nat.le_refl _, by decide, rfl, rfl⟩⟩
theorem OwnSh.kept {w w' : World} {lo : Nat} {v : Value} {n : Nat} {S : Nat → SV} {r : Option Nat} (h : OwnSh w lo v n S) (hg : w.grownBy w' r) (hr : ∀ g, r = some g → g < lo) : OwnSh w' lo v n S := by
  refine World.ownsRow.kept h hg ?_
  cases hv : v.ownBlock with
  | none => exact .inl rfl
  | some b => right; intro e; have := hr b e.symm; have := (World.ownsRow.lt h b hv).1; omega
theorem OwnSh.lower {w : World} {lo lo' : Nat} {v : Value} {n : Nat} {S : Nat → SV} (h : OwnSh w lo v n S) (hl : lo' ≤ lo) : OwnSh w lo' v n S := owns_lower h hl
theorem OwnSh.congr {w : World} {lo : Nat} {v : Value} {n : Nat} {S S' : Nat → SV} (h : OwnSh w lo v n S) (e : ∀ j, j < n → S j = S' j) : OwnSh w lo v n S' := by
  unfold OwnSh at h ⊢; rw [← cellsS_congr e]; exact h
/-- One more at the end. -/
def catS (S : Nat → SV) (k : Nat) (s : SV) (j : Nat) : SV := if j = k then s else S j
theorem OwnSh.app {w : World} {lo : Nat} {v : Value} {n : Nat} {S : Nat → SV} {s : SV} (h : w.ownsRow lo 35 4 v (n + 1) (cellsS S n ++ cell4 s)) : OwnSh w lo v (n + 1) (catS S n s) := by
  unfold OwnSh
  rw [cellsS_succ, cellsS_congr (S' := S) (fun j hj => by unfold catS; rw [if_neg (by omega)]), show catS S n s n = s by simp [catS]]
  exact h

/-! Sessions as numbers. -/
def mS (S : Nat → SV) (j : Nat) : Int := (S j).m
/-- Is what a signer showed fine? -/
def soE (s : SV) : Bool := gok s.R && (fok s.Z && (s.on || s.Z == 0))
theorem soE_iff {s : SV} : soE s = true ↔ gok s.R = true ∧ fok s.Z = true ∧ (s.on = true ∨ s.Z = 0) := by simp [soE]
def soA (S : Nat → SV) : Nat → Bool
  | 0 => true
  | k + 1 => soA S k && soE (S k)
theorem soA_iff {S : Nat → SV} {n : Nat} : soA S n = true ↔ ∀ j, j < n → soE (S j) = true := by
  induction n with
  | zero => simp [soA]
  | succ n ih =>
    simp only [soA, Bool.and_eq_true, ih]
    exact ⟨fun h j hj => by rcases Nat.lt_or_ge j n with h' | h'; exact h.1 j h'; obtain rfl : j = n := by omega
                            exact h.2, fun h => ⟨fun j hj => h j (by omega), h n (by omega)⟩⟩
theorem soA_no {S : Nat → SV} {n k : Nat} (hk : k < n) (h : soE (S k) = false) : soA S n = false := by
  cases h' : soA S n with
  | false => rfl
  | true => rw [soA_iff.1 h' k hk] at h; cases h
theorem soA_next {S : Nat → SV} {k : Nat} (h : soA S k = true) (hf : soE (S k) = true) : soA S (k + 1) = true := by simp [soA, h, hf]
/-- Is it a session? -/
def tsF (need many : Int) (ng : Nat) (zg : Nat → Int) (nc : Nat) (zc : Nat → Int) (msg : Int) (n : Nat) (S : Nat → SV) : Bool :=
  soA S n && (kyF need many ng zg nc zc && (crw need many n (mS S) && mok msg))
theorem so_iff {need many : Int} {ng : Nat} {zg : Nat → Int} {nc : Nat} {zc : Nat → Int} {msg : Int} {n : Nat} {S : Nat → SV} :
    tsF need many ng zg nc zc msg n S = true ↔ soA S n = true ∧ kyF need many ng zg nc zc = true ∧ crw need many n (mS S) = true ∧ mok msg = true := by simp [tsF]
theorem so_not {need many : Int} {ng : Nat} {zg : Nat → Int} {nc : Nat} {zc : Nat → Int} {msg : Int} {n : Nat} {S : Nat → SV} (h : ¬ (soA S n = true ∧ kyF need many ng zg nc zc = true ∧ crw need many n (mS S) = true ∧ mok msg = true)) :
    tsF need many ng zg nc zc msg n S = false := by
  cases hh : tsF need many ng zg nc zc msg n S with
  | false => rfl
  | true => exact absurd (so_iff.1 hh) h
/-- All that was shown, together. -/
def rP (S : Nat → SV) : Nat → Int
  | 0 => 1
  | k + 1 => gmulF (rP S k) (S k).R
theorem gok_one : gok 1 = true := by decide +kernel
theorem rP_ok {S : Nat → SV} : ∀ {k : Nat}, (∀ j, j < k → gok (S j).R = true) → gok (rP S k) = true
  | 0, _ => gok_one
  | k + 1, h => gmul_ok (rP_ok (fun j hj => h j (by omega))) (h k (by omega))
/-- All parts, together. -/
def zP (S : Nat → SV) : Nat → Int
  | 0 => 0
  | k + 1 => sumF (zP S k) (S k).Z
theorem zP_ok {S : Nat → SV} : ∀ {k : Nat}, fok (zP S k) = true
  | 0 => rfl
  | k + 1 => sumF_ok _ _
/-- Is a part in that is not its member's? -/
def tbE (need many : Int) (ng : Nat) (zg : Nat → Int) (nc : Nat) (zc : Nat → Int) (msg : Int) (n : Nat) (S : Nat → SV) (j : Nat) : Bool :=
  (S j).on && !sfF need many ng zg nc zc n (mS S) (S j).m (S j).R (rP S n) msg (S j).Z
def tbL (need many : Int) (ng : Nat) (zg : Nat → Int) (nc : Nat) (zc : Nat → Int) (msg : Int) (n : Nat) (S : Nat → SV) : Nat → List Int
  | 0 => []
  | k + 1 => if tbE need many ng zg nc zc msg n S k then tbL need many ng zg nc zc msg n S k ++ [(S k).m] else tbL need many ng zg nc zc msg n S k
/-- Whose parts are wrong. -/
def tbF (need many : Int) (ng : Nat) (zg : Nat → Int) (nc : Nat) (zc : Nat → Int) (msg : Int) (n : Nat) (S : Nat → SV) : List Int :=
  if tsF need many ng zg nc zc msg n S then tbL need many ng zg nc zc msg n S n else []
end Con
end Go.Proofs.YthbigmcklacbnaaGreatDoor
