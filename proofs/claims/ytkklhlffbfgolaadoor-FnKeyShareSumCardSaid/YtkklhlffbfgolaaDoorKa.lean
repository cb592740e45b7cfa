/-
  Which keys are valid, what all know of one, and whether a share is a member's: the program's and the model's functions, at every key.
-/
import Derived.Test.YtkklhlffbfgolaaDoorDa
import Derived.Test.YtkklhlffbfgolaaDoorCd
import Derived.BigQuiet
namespace Go.Proofs.YtkklhlffbfgolaaDoor
namespace Con
open Go.RowKit Alg Mem
set_option linter.unusedVariables false

/-- May he be a dealer? -/
def dmk (f : Int) : Bool := decide (1 ≤ f ∧ f ≤ 5)
theorem dmk_iff {f : Int} : dmk f = true ↔ 1 ≤ f ∧ f ≤ 5 := by simp [dmk]
theorem dmk_no {f : Int} (h : ¬ (1 ≤ f ∧ f ≤ 5)) : dmk f = false := decide_eq_false h
def dmz (z : Nat → Int) : Nat → Bool
  | 0 => true
  | k + 1 => dmz z k && dmk (z k)
theorem dmz_iff {z : Nat → Int} {n : Nat} : dmz z n = true ↔ ∀ j, j < n → dmk (z j) = true := by
  induction n with
  | zero => simp [dmz]
  | succ n ih =>
    simp only [dmz, Bool.and_eq_true, ih]
    exact ⟨fun h j hj => by rcases Nat.lt_or_ge j n with h' | h'; exact h.1 j h'; obtain rfl : j = n := by omega
                            exact h.2, fun h => ⟨fun j hj => h j (by omega), h n (by omega)⟩⟩
theorem dmz_no {z : Nat → Int} {n k : Nat} (hk : k < n) (h : dmk (z k) = false) : dmz z n = false := by
  cases h' : dmz z n with
  | false => rfl
  | true => rw [dmz_iff.1 h' k hk] at h; cases h
theorem dmz_next {z : Nat → Int} {k : Nat} (h : dmz z k = true) (hf : dmk (z k) = true) : dmz z (k + 1) = true := by simp [dmz, h, hf]
/-- Do they rise? -/
def upz (z : Nat → Int) : Nat → Bool
  | 0 => true
  | k + 1 => upz z k && decide (k = 0 ∨ z (k - 1) < z k)
theorem upz_iff {z : Nat → Int} {n : Nat} : upz z n = true ↔ ∀ j, j < n → j = 0 ∨ z (j - 1) < z j := by
  induction n with
  | zero => simp [upz]
  | succ n ih =>
    simp only [upz, Bool.and_eq_true, ih, decide_eq_true_eq]
    exact ⟨fun h j hj => by rcases Nat.lt_or_ge j n with h' | h'; exact h.1 j h'; obtain rfl : j = n := by omega
                            exact h.2, fun h => ⟨fun j hj => h j (by omega), h n (by omega)⟩⟩
theorem upz_no {z : Nat → Int} {n k : Nat} (hk : k < n) (h0 : k ≠ 0) (h : z k ≤ z (k - 1)) : upz z n = false := by
  cases h' : upz z n with
  | false => rfl
  | true => rcases upz_iff.1 h' k hk with h'' | h'' <;> omega
theorem upz_next {z : Nat → Int} {k : Nat} (h : upz z k = true) (hf : k = 0 ∨ z (k - 1) < z k) : upz z (k + 1) = true := by simp [upz, h, hf]
/-- Is it a key? -/
def kyF (need many : Int) (n1 : Nat) (z1 : Nat → Int) (n2 : Nat) (z2 : Nat → Int) : Bool := crewF need many && decide ((n2 : Int) = need) && cokz n2 z2 && dmz z1 n1 && upz z1 n1
theorem ky_iff {need many : Int} {n1 : Nat} {z1 : Nat → Int} {n2 : Nat} {z2 : Nat → Int} : kyF need many n1 z1 n2 z2 = true ↔ (1 ≤ need ∧ need ≤ many ∧ many ≤ 5) ∧ (n2 : Int) = need ∧ cokz n2 z2 = true ∧ dmz z1 n1 = true ∧ upz z1 n1 = true := by
  unfold kyF; simp only [Bool.and_eq_true, decide_eq_true_eq, crew_iff, and_assoc]
theorem up_len {z : Nat → Int} {n : Nat} (hd : dmz z n = true) (hu : upz z n = true) : n ≤ 5 := by
  have hd := dmz_iff.1 hd
  have hu := upz_iff.1 hu
  have hge : ∀ j, j < n → (j : Int) + 1 ≤ z j := by
    intro j
    induction j with
    | zero => intro hj; have := dmk_iff.1 (hd 0 hj); omega
    | succ j ih => intro hj; have h1 := ih (by omega); have h2 := hu (j + 1) hj; simp at h2; omega
  rcases Nat.lt_or_ge 5 n with h | h
  · have h1 := hge 5 h; have h2 := dmk_iff.1 (hd 5 h); omega
  · exact h
theorem ky_crew {need many : Int} {n1 : Nat} {z1 : Nat → Int} {n2 : Nat} {z2 : Nat → Int} (h : crewF need many = false) : kyF need many n1 z1 n2 z2 = false := by simp [kyF, h]
theorem ky_len {need many : Int} {n1 : Nat} {z1 : Nat → Int} {n2 : Nat} {z2 : Nat → Int} (h : ¬ (n2 : Int) = need) : kyF need many n1 z1 n2 z2 = false := by simp [kyF, h]
theorem ky_com {need many : Int} {n1 : Nat} {z1 : Nat → Int} {n2 : Nat} {z2 : Nat → Int} (h : cokz n2 z2 = false) : kyF need many n1 z1 n2 z2 = false := by simp [kyF, h]
theorem ky_dm {need many : Int} {n1 : Nat} {z1 : Nat → Int} {n2 : Nat} {z2 : Nat → Int} (h : dmz z1 n1 = false) : kyF need many n1 z1 n2 z2 = false := by simp [kyF, h]
theorem ky_up {need many : Int} {n1 : Nat} {z1 : Nat → Int} {n2 : Nat} {z2 : Nat → Int} (h : upz z1 n1 = false) : kyF need many n1 z1 n2 z2 = false := by simp [kyF, h]
theorem ky_yes {need many : Int} {n1 : Nat} {z1 : Nat → Int} {n2 : Nat} {z2 : Nat → Int} (h1 : crewF need many = true) (h2 : (n2 : Int) = need) (h3 : cokz n2 z2 = true) (h4 : dmz z1 n1 = true) (h5 : upz z1 n1 = true) : kyF need many n1 z1 n2 z2 = true := by simp [kyF, h1, h2, h3, h4, h5]

/-- A key that lies in memory. -/
structure Ky (w : World) (b : Nat) (need many : Int) (s1 s2 : Value) : Prop where
  lt : b < w.heap.size
  c0 : w.cell? ⟨b, 0, none⟩ = some (.int .i64 need)
  c1 : w.cell? ⟨b, 1, none⟩ = some (.int .i64 many)
  c2 : w.cell? ⟨b, 2, none⟩ = some s1
  c3 : w.cell? ⟨b, 3, none⟩ = some s2
theorem Ky.new (w : World) (need many : Int) (s1 s2 : Value) (T : TypeId) : Ky (w.alloc (.cells #[.int .i64 need, .int .i64 many, s1, s2] T)) w.heap.size need many s1 s2 := by
  have hb : (w.alloc (.cells #[.int .i64 need, .int .i64 many, s1, s2] T)).heap[w.heap.size]? = some (.cells #[.int .i64 need, .int .i64 many, s1, s2] T) := by show (w.heap.push _)[w.heap.size]? = _; simp
  exact ⟨by show _ < (w.heap.push _).size; simp, by simp only [World.cell?, hb]; rfl, by simp only [World.cell?, hb]; rfl, by simp only [World.cell?, hb]; rfl, by simp only [World.cell?, hb]; rfl⟩
theorem Ky.keptB {w w' : World} {b : Nat} {need many : Int} {s1 s2 : Value} (h : Ky w b need many s1 s2) (hb : w'.heap[b]? = w.heap[b]?) (hs : w.heap.size ≤ w'.heap.size) : Ky w' b need many s1 s2 := by
  exact ⟨Nat.lt_of_lt_of_le h.lt hs, by rw [World.cell?_of_block (w := w) hb]; exact h.c0, by rw [World.cell?_of_block (w := w) hb]; exact h.c1, by rw [World.cell?_of_block (w := w) hb]; exact h.c2, by rw [World.cell?_of_block (w := w) hb]; exact h.c3⟩
theorem Ky.kept {w w' : World} {b : Nat} {need many : Int} {s1 s2 : Value} (h : Ky w b need many s1 s2) (hg : w.grownBy w' none) : Ky w' b need many s1 s2 := h.keptB (hg.block b h.lt (by simp)) hg.size

theorem kdealer (w : World) (f : Int) : Calls Tryd.prog 49 #[.int .i64 f] w fun e w' => e = .returned (.bool (dmk f)) ∧ w = w' := by
  by_cases h1 : 1 ≤ f
  · by_cases h2 : f ≤ 5
    · have HR := Lib.hid (show dmk f = true from decide_eq_true ⟨h1, h2⟩)
      go_enter Tryd.func49, Tryd.ntmps49
      go_wp2
      go_ret
      exact ⟨ret_b HR.out.symm, rfl⟩
    · have HR := Lib.hid (show dmk f = false from decide_eq_false (by omega))
      go_enter Tryd.func49, Tryd.ntmps49
      go_wp2
      go_ret
      exact ⟨ret_b HR.out.symm, rfl⟩
  · have HR := Lib.hid (show dmk f = false from decide_eq_false (by omega))
    go_enter Tryd.func49, Tryd.ntmps49
    go_wp2
    go_ret
    exact ⟨ret_b HR.out.symm, rfl⟩
theorem iall_d (w : World) (a : Option Addr) (len cap : Nat) (z : Nat → Int) (hI : Ints w a len z) (hl : len ≤ 2000000) :
    Calls Tryd.prog 48 #[.slice a len cap, .func (.func 49) #[] #[]] w fun e w' => e = .returned (.bool (dmz z len)) ∧ w = w' := by
  go_enter Tryd.func48, Tryd.ntmps48
  go_wp2
  go_loop [9] (fun i => ∃ k : Nat, k ≤ len ∧ i = .int .i64 k ∧ dmz z k = true) (fun i => len - (intOf i).toNat)
  case atStart => exact ⟨0, by omega, rfl, rfl⟩
  case round =>
    obtain ⟨k, hk, rfl, hz⟩ := hrel
    have HZ := Lib.hid hz; clear hz
    by_cases hlt : k < len
    · rcases hI with h | ⟨b, off, rfl, hb, hc⟩
      · omega
      have hcx := hc k hlt
      clear hc
      cases hf : dmk (z k) with
      | false =>
        have HR := Lib.hid (dmz_no hlt hf)
        have HF := Lib.hid hf; clear hf
        go_wp2_with (go_at_call 49; refine (kdealer _ _).mono ?_; rintro e w' ⟨rfl, rfl⟩; rw [HF.out])
        go_ret
        exact ⟨ret_b HR.out.symm, rfl⟩
      | true =>
        have HR := Lib.hid (dmz_next HZ.out hf)
        have HF := Lib.hid hf; clear hf
        go_wp2_with (go_at_call 49; refine (kdealer _ _).mono ?_; rintro e w' ⟨rfl, rfl⟩; rw [HF.out])
        go_round
        case rel => exact ⟨k + 1, by omega, by go_num, HR.out⟩
        case measure => simp [intOf]; omega
    · obtain rfl : k = len := by omega
      clear hI
      go_wp2
      go_ret
      exact ⟨ret_b HZ.out.symm, rfl⟩
theorem iasc (w : World) (a : Option Addr) (len cap : Nat) (z : Nat → Int) (hI : Ints w a len z) (hl : len ≤ 2000000) :
    Calls Tryd.prog 50 #[.slice a len cap] w fun e w' => e = .returned (.bool (upz z len)) ∧ w = w' := by
  go_enter Tryd.func50, Tryd.ntmps50
  go_wp2
  go_loop [7] (fun i => ∃ k : Nat, k ≤ len ∧ i = .int .i64 k ∧ upz z k = true) (fun i => len - (intOf i).toNat)
  case atStart => exact ⟨0, by omega, rfl, rfl⟩
  case round =>
    obtain ⟨k, hk, rfl, hz⟩ := hrel
    have HZ := Lib.hid hz; clear hz
    by_cases hlt : k < len
    · rcases hI with h | ⟨b, off, rfl, hb, hc⟩
      · omega
      have hcx := hc k hlt
      by_cases h0 : k = 0
      · subst h0
        clear hc
        rw [Nat.add_zero] at hcx
        have HR := Lib.hid (upz_next HZ.out (.inl rfl))
        go_wp2
        go_round
        case rel => exact ⟨0 + 1, by omega, by go_num, HR.out⟩
        case measure => simp [intOf]; omega
      · obtain ⟨j, rfl⟩ : ∃ j, k = j + 1 := ⟨k - 1, by omega⟩
        have hcy := hc j (by omega)
        clear hc
        have hpos : (0 : Int) < ((j + 1 : Nat) : Int) := by omega
        have hsub : (((j + 1 : Nat) : Int) - 1) = (j : Int) := by omega
        by_cases hle : z (j + 1) ≤ z j
        · have HR := Lib.hid (upz_no (z := z) hlt (by omega) (by simpa using hle))
          go_wp2
          go_ret
          exact ⟨ret_b HR.out.symm, rfl⟩
        · have HR := Lib.hid (upz_next HZ.out (.inr (by simp; omega)))
          go_wp2
          go_round
          case rel => exact ⟨j + 1 + 1, by omega, by go_num, HR.out⟩
          case measure => simp [intOf]; omega
    · obtain rfl : k = len := by omega
      clear hI
      go_wp2
      go_ret
      exact ⟨ret_b HZ.out.symm, rfl⟩
end Con
end Go.Proofs.YtkklhlffbfgolaaDoor
