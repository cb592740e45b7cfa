/-
  What the functions that test numbers and places answer, the program's and the model's: whether all are of the field, and each once.
-/
import Derived.Test.YtchgjdbmianajaaMem
import Derived.Outline
import Derived.Deep.QuietTactic
import Derived.BigQuiet
import Derived.Handy
import Derived.Test.YtchgjdbmianajaaAlg
import Derived.Maps.AppendAt
import Derived.Lib.SliceRun
namespace Go.Proofs.Ytchgjdbmianajaa
namespace Con
open Go.RowKit Alg Mem
set_option linter.unusedVariables false

def okz (z : Nat → Int) : Nat → Bool
  | 0 => true
  | k + 1 => okz z k && fok (z k)
/-- Is it a polynomial? -/
def pokz (len : Nat) (z : Nat → Int) : Bool := decide (1 ≤ len ∧ len ≤ 5) && okz z len
def hasz (z : Nat → Int) (n : Int) : Nat → Bool
  | 0 => false
  | k + 1 => hasz z n k || (z k == n)
def plz (z : Nat → Int) : Nat → Bool
  | 0 => true
  | k + 1 => plz z k && (fok (z k) && !hasz z (z k) k)
/-- Are they places? -/
def plok (len : Nat) (z : Nat → Int) : Bool := decide (len ≤ 5) && plz z len

theorem okz_iff {z : Nat → Int} {n : Nat} : okz z n = true ↔ ∀ j, j < n → fok (z j) = true := by
  induction n with
  | zero => simp [okz]
  | succ n ih =>
    simp only [okz, Bool.and_eq_true, ih]
    exact ⟨fun h j hj => by rcases Nat.lt_or_ge j n with h' | h'; exact h.1 j h'; obtain rfl : j = n := by omega
                            exact h.2, fun h => ⟨fun j hj => h j (by omega), h n (by omega)⟩⟩
theorem okz_no {z : Nat → Int} {n k : Nat} (hk : k < n) (h : fok (z k) = false) : okz z n = false := by
  cases h' : okz z n with
  | false => rfl
  | true => rw [okz_iff.1 h' k hk] at h; cases h
theorem okz_next {z : Nat → Int} {k : Nat} (h : okz z k = true) (hf : fok (z k) = true) : okz z (k + 1) = true := by simp [okz, h, hf]
theorem pokz_iff {len : Nat} {z : Nat → Int} : pokz len z = true ↔ 1 ≤ len ∧ len ≤ 5 ∧ ∀ j, j < len → fok (z j) = true := by
  unfold pokz; rw [Bool.and_eq_true, okz_iff, decide_eq_true_eq, and_assoc]
theorem pokz_out {len : Nat} {z : Nat → Int} (h : len < 1 ∨ 5 < len) : pokz len z = false := by
  unfold pokz; rw [decide_eq_false (by omega)]; rfl
theorem pokz_in {len : Nat} {z : Nat → Int} (h1 : 1 ≤ len) (h5 : len ≤ 5) : pokz len z = okz z len := by
  unfold pokz; rw [decide_eq_true ⟨h1, h5⟩]; rfl
theorem hasz_iff {z : Nat → Int} {n : Int} {k : Nat} : hasz z n k = true ↔ ∃ j, j < k ∧ z j = n := by
  induction k with
  | zero => simp [hasz]
  | succ k ih =>
    simp only [hasz, Bool.or_eq_true, ih, beq_iff_eq]
    constructor
    · rintro (⟨j, hj, e⟩ | e)
      · exact ⟨j, by omega, e⟩
      · exact ⟨k, by omega, e⟩
    · rintro ⟨j, hj, e⟩
      rcases Nat.lt_or_ge j k with h | h
      · exact .inl ⟨j, h, e⟩
      · obtain rfl : j = k := by omega
        exact .inr e
theorem hasz_no {z : Nat → Int} {n : Int} {k : Nat} : hasz z n k = false ↔ ∀ j, j < k → z j ≠ n := by
  rw [← Bool.not_eq_true, hasz_iff]; exact ⟨fun h j hj e => h ⟨j, hj, e⟩, fun h ⟨j, hj, e⟩ => h j hj e⟩
theorem plz_iff {z : Nat → Int} {n : Nat} : plz z n = true ↔ ∀ j, j < n → fok (z j) = true ∧ hasz z (z j) j = false := by
  induction n with
  | zero => simp [plz]
  | succ n ih =>
    simp only [plz, Bool.and_eq_true, ih, Bool.not_eq_true']
    exact ⟨fun h j hj => by rcases Nat.lt_or_ge j n with h' | h'; exact h.1 j h'; obtain rfl : j = n := by omega
                            exact h.2, fun h => ⟨fun j hj => h j (by omega), h n (by omega)⟩⟩
theorem plz_no {z : Nat → Int} {n k : Nat} (hk : k < n) (h : fok (z k) = false ∨ hasz z (z k) k = true) : plz z n = false := by
  cases h' : plz z n with
  | false => rfl
  | true => have := plz_iff.1 h' k hk; rcases h with h | h <;> simp [h] at this
theorem plz_next {z : Nat → Int} {k : Nat} (h : plz z k = true) (hf : fok (z k) = true) (hh : hasz z (z k) k = false) : plz z (k + 1) = true := by simp [plz, h, hf, hh]
theorem plok_iff {len : Nat} {z : Nat → Int} : plok len z = true ↔ len ≤ 5 ∧ ∀ j, j < len → fok (z j) = true ∧ hasz z (z j) j = false := by
  unfold plok; rw [Bool.and_eq_true, plz_iff, decide_eq_true_eq]
theorem plok_out {len : Nat} {z : Nat → Int} (h : 5 < len) : plok len z = false := by
  unfold plok; rw [decide_eq_false (by omega)]; rfl
theorem plok_in {len : Nat} {z : Nat → Int} (h5 : len ≤ 5) : plok len z = plz z len := by
  unfold plok; rw [decide_eq_true h5]; rfl

theorem iall_f (w : World) (a : Option Addr) (len cap : Nat) (z : Nat → Int) (hI : Ints w a len z) (hl : len ≤ 2000000) :
    Calls Try.prog 40 #[.slice a len cap, .func (.func 33) #[] #[]] w fun e w' => e = .returned (.bool (okz z len)) ∧ w = w' := by
  go_enter Try.func40, Try.ntmps40
  go_wp2
  go_loop [9] (fun i => ∃ k : Nat, k ≤ len ∧ i = .int .i64 k ∧ okz z k = true) (fun i => len - (intOf i).toNat)
  case atStart => exact ⟨0, by omega, rfl, rfl⟩
  case round =>
    obtain ⟨k, hk, rfl, hz⟩ := hrel
    have HZ := Lib.hid hz; clear hz
    by_cases hlt : k < len
    · rcases hI with h | ⟨b, off, rfl, hb, hc⟩
      · omega
      have hcx := hc k hlt
      clear hc
      cases hf : fok (z k) with
      | false =>
        have HR := Lib.hid (okz_no hlt hf)
        go_wp2_with (go_at_call 33; refine (iok_no _ _ (by assumption)).mono ?_; rintro e w' ⟨rfl, rfl⟩)
        go_ret
        exact ⟨ret_b HR.out.symm, rfl⟩
      | true =>
        have HR := Lib.hid (okz_next HZ.out hf)
        go_wp2_with (go_at_call 33; refine (iok_yes _ _ (by assumption)).mono ?_; rintro e w' ⟨rfl, rfl⟩)
        go_round
        case rel => exact ⟨k + 1, by omega, by go_num, HR.out⟩
        case measure => simp [intOf]; omega
    · obtain rfl : k = len := by omega
      clear hI
      go_wp2
      go_ret
      exact ⟨ret_b HZ.out.symm, rfl⟩
end Con
end Go.Proofs.Ytchgjdbmianajaa
/-
  What the functions that test places answer, the program's and the model's; whether a slice has a number; whether two slices hold the same.
-/

namespace Go.Proofs.Ytchgjdbmianajaa
namespace Con
open Go.RowKit Alg Mem
set_option linter.unusedVariables false

theorem hasz_yes {z : Nat → Int} {n : Int} {k m : Nat} (hk : k < m) (h : z k = n) : hasz z n m = true := hasz_iff.2 ⟨k, hk, h⟩
theorem hasz_next {z : Nat → Int} {n : Int} {k : Nat} (h : hasz z n k = false) (hz : ¬ z k = n) : hasz z n (k + 1) = false := by
  rw [hasz_no] at h ⊢
  intro j hj
  rcases Nat.lt_or_ge j k with h' | h'
  · exact h j h'
  · obtain rfl : j = k := by omega
    exact hz
/-- Where it stands, or -1. -/
def Idx (z : Nat → Int) (n : Int) (len : Nat) (w : World) (e : Ending) (w' : World) : Prop :=
  ∃ r : Int, e = .returned (.int .i64 r) ∧ w = w' ∧ (hasz z n len = true ∧ 0 ≤ r ∨ hasz z n len = false ∧ r = -1)
theorem index_any (w : World) (a : Option Addr) (len cap : Nat) (z : Nat → Int) (n : Int) (hI : Ints w a len z) (hl : len ≤ 2000000) :
    Calls Try.prog 61 #[.slice a len cap, .int .i64 n] w (Idx z n len w) := by
  go_enter Try.func61, Try.ntmps61
  go_wp2
  go_loop [8] (fun i => ∃ k : Nat, k ≤ len ∧ i = .int .i64 k ∧ hasz z n k = false) (fun i => len - (intOf i).toNat)
  case atStart => exact ⟨0, by omega, rfl, rfl⟩
  case round =>
    obtain ⟨k, hk, rfl, hz⟩ := hrel
    have HZ := Lib.hid hz; clear hz
    by_cases hlt : k < len
    · rcases hI with h | ⟨b, off, rfl, hb, hc⟩
      · omega
      have hcx := hc k hlt
      clear hc
      by_cases he : z k = n
      · have HR := Lib.hid (hasz_yes hlt he)
        have ht : (n == z k) = true := by simpa using he.symm
        clear he
        go_wp2
        go_ret
        exact ⟨_, rfl, rfl, .inl ⟨HR.out, by omega⟩⟩
      · have HR := Lib.hid (hasz_next HZ.out he)
        have ht : (n == z k) = false := by simpa using fun h => he h.symm
        clear he
        go_wp2
        go_round
        case rel => exact ⟨k + 1, by omega, by go_num, HR.out⟩
        case measure => simp [intOf]; omega
    · obtain rfl : k = len := by omega
      clear hI
      go_wp2
      go_ret
      exact ⟨_, rfl, rfl, .inr ⟨HZ.out, rfl⟩⟩
theorem contains_any (w : World) (a : Option Addr) (len cap : Nat) (z : Nat → Int) (n : Int) (hI : Ints w a len z) (hl : len ≤ 2000000) :
    Calls Try.prog 57 #[.slice a len cap, .int .i64 n] w fun e w' => e = .returned (.bool (hasz z n len)) ∧ w = w' := by
  go_enter Try.func57, Try.ntmps57
  go_wp2_with fail
  refine (index_any _ _ _ _ z n hI hl).mono ?_
  clear hI
  rintro e w' ⟨r, rfl, rfl, ⟨h, hr⟩ | ⟨h, rfl⟩⟩
  · have HR := Lib.hid h; clear h
    go_wp2
    go_ret
    exact ⟨ret_b HR.out.symm, rfl⟩
  · have HR := Lib.hid h; clear h
    go_wp2
    go_ret
    exact ⟨ret_b HR.out.symm, rfl⟩
/-- Are they different? -/
def dsz (z : Nat → Int) : Nat → Bool
  | 0 => true
  | k + 1 => dsz z k && !hasz z (z k) k
theorem dsz_iff {z : Nat → Int} {n : Nat} : dsz z n = true ↔ ∀ j, j < n → hasz z (z j) j = false := by
  induction n with
  | zero => simp [dsz]
  | succ n ih =>
    simp only [dsz, Bool.and_eq_true, ih, Bool.not_eq_true']
    exact ⟨fun h j hj => by rcases Nat.lt_or_ge j n with h' | h'; exact h.1 j h'; obtain rfl : j = n := by omega
                            exact h.2, fun h => ⟨fun j hj => h j (by omega), h n (by omega)⟩⟩
theorem dsz_no {z : Nat → Int} {n k : Nat} (hk : k < n) (h : hasz z (z k) k = true) : dsz z n = false := by
  cases h' : dsz z n with
  | false => rfl
  | true => rw [dsz_iff.1 h' k hk] at h; cases h
theorem dsz_next {z : Nat → Int} {k : Nat} (h : dsz z k = true) (hf : hasz z (z k) k = false) : dsz z (k + 1) = true := by simp [dsz, h, hf]
theorem dsz_ne {z : Nat → Int} {n : Nat} (h : dsz z n = true) {i j : Nat} (hi : i < j) (hj : j < n) : z i ≠ z j := hasz_no.1 (dsz_iff.1 h j hj) i hi
theorem plz_parts {z : Nat → Int} {n : Nat} : plz z n = (okz z n && dsz z n) := Bool.eq_iff_iff.2 (by
  rw [Bool.and_eq_true, plz_iff, okz_iff, dsz_iff]
  exact ⟨fun h => ⟨fun j hj => (h j hj).1, fun j hj => (h j hj).2⟩, fun h j hj => ⟨h.1 j hj, h.2 j hj⟩⟩)
set_option maxRecDepth 100000 in
set_option maxHeartbeats 1000000 in
theorem idist (w : World) (a : Option Addr) (len cap : Nat) (z : Nat → Int) (hI : Ints w a len z) (hl : len ≤ 2000000) (hc : len ≤ cap) (hm : cap ≤ maxLen) :
    Calls Try.prog 41 #[.slice a len cap] w fun e w' => e = .returned (.bool (dsz z len)) ∧ w = w' := by
  unfold maxLen at hm
  have HI := Lib.hid hI; clear hI
  go_enter Try.func41, Try.ntmps41
  go_wp2
  go_loop [7] (fun i => ∃ k : Nat, k ≤ len ∧ i = .int .i64 k ∧ dsz z k = true) (fun i => len - (intOf i).toNat)
  case atStart => exact ⟨0, by omega, rfl, rfl⟩
  case round =>
    obtain ⟨k, hk, rfl, hz⟩ := hrel
    have HZ := Lib.hid hz; clear hz
    by_cases hlt : k < len
    · have HJ := Lib.hid (HI.out.less (Nat.le_of_lt hlt))
      rcases HI.out with h | ⟨b, off, rfl, hb, hc'⟩
      · omega
      have hcx := hc' k hlt
      clear hc'
      cases hh : hasz z (z k) k with
      | true =>
        have HR := Lib.hid (dsz_no hlt hh)
        have HH := Lib.hid hh; clear hh
        go_wp2_with (go_at_call 57; refine (contains_any _ _ _ _ z (z k) HJ.out (by omega)).mono ?_; rintro e w' ⟨rfl, rfl⟩; rw [HH.out])
        go_ret
        exact ⟨ret_b HR.out.symm, rfl⟩
      | false =>
        have HR := Lib.hid (dsz_next HZ.out hh)
        have HH := Lib.hid hh; clear hh
        go_wp2_with (go_at_call 57; refine (contains_any _ _ _ _ z (z k) HJ.out (by omega)).mono ?_; rintro e w' ⟨rfl, rfl⟩; rw [HH.out])
        go_round
        case rel => exact ⟨k + 1, by omega, by go_num, HR.out⟩
        case measure => simp [intOf]; omega
    · obtain rfl : k = len := by omega
      go_wp2
      go_ret
      exact ⟨ret_b HZ.out.symm, rfl⟩
/-- The program's test of places. -/
theorem iplok (w : World) (a : Option Addr) (len cap : Nat) (z : Nat → Int) (hI : Ints w a len z) (hl : len ≤ 2000000) (hc : len ≤ cap) (hm : cap ≤ maxLen) :
    Calls Try.prog 16 #[.slice a len cap] w fun e w' => e = .returned (.bool (plok len z)) ∧ w = w' := by
  have HI := Lib.hid hI; clear hI
  by_cases h5 : len ≤ 5
  · have h5' : (len : Int) ≤ 5 := by omega
    rw [plok_in h5]
    go_enter Try.func16, Try.ntmps16
    go_wp2_with fail
    refine (iall_f _ a len cap z HI.out hl).mono ?_
    rintro e w' ⟨rfl, rfl⟩
    cases h1 : okz z len with
    | false =>
      have HP := Lib.hid (show plz z len = false by rw [plz_parts, h1]; rfl); clear h1
      go_wp2
      go_ret
      exact ⟨ret_b HP.out.symm, rfl⟩
    | true =>
      have HP := Lib.hid (show plz z len = dsz z len by rw [plz_parts, h1]; rfl); clear h1
      go_wp2_with fail
      refine (idist _ a len cap z HI.out hl hc hm).mono ?_
      rintro e w' ⟨rfl, rfl⟩
      go_wp2
      go_ret
      exact ⟨ret_b HP.out.symm, rfl⟩
  · have h5' : ¬ (len : Int) ≤ 5 := by omega
    rw [plok_out (by omega)]
    go_enter Try.func16, Try.ntmps16
    go_wp2
    go_ret
    exact ⟨rfl, rfl⟩
theorem shas (w : World) (a : Option Addr) (len cap : Nat) (z : Nat → Int) (n : Int) (hI : Ints w a len z) (hl : len ≤ 2000000) :
    Calls Try.prog 50 #[.slice a len cap, .int .i64 n] w fun e w' => e = .returned (.bool (hasz z n len)) ∧ w = w' := by
  go_enter Try.func50, Try.ntmps50
  go_wp2
  go_loop [5] (fun i => ∃ k : Nat, k ≤ len ∧ i = .int .i64 k ∧ hasz z n k = false) (fun i => len - (intOf i).toNat)
  case atStart => exact ⟨0, by omega, rfl, rfl⟩
  case round =>
    obtain ⟨k, hk, rfl, hz⟩ := hrel
    have HZ := Lib.hid hz; clear hz
    by_cases hlt : k < len
    · rcases hI with h | ⟨b, off, rfl, hb, hc⟩
      · omega
      have hcx := hc k hlt
      clear hc
      by_cases he : z k = n
      · have HR := Lib.hid (hasz_yes hlt he)
        have ht : (z k == n) = true := by simpa using he
        clear he
        go_wp2
        go_ret
        exact ⟨ret_b HR.out.symm, rfl⟩
      · have HR := Lib.hid (hasz_next HZ.out he)
        have ht : (z k == n) = false := by simpa using he
        clear he
        go_wp2
        go_round
        case rel => exact ⟨k + 1, by omega, by go_num, HR.out⟩
        case measure => simp [intOf]; omega
    · obtain rfl : k = len := by omega
      clear hI
      go_wp2
      go_ret
      exact ⟨ret_b HZ.out.symm, rfl⟩
/-- The model's test of places. -/
theorem splok (w : World) (a : Option Addr) (len cap : Nat) (z : Nat → Int) (hI : Ints w a len z) (hl : len ≤ 2000000) :
    Calls Try.prog 17 #[.slice a len cap] w fun e w' => e = .returned (.bool (plok len z)) ∧ w.grownBy w' none := by
  go_enter Try.func17, Try.ntmps17
  go_wp2
  go_loopw [3] (fun i wr => ∃ k : Nat, k ≤ len ∧ i = .int .i64 k ∧ plz z k = true ∧ w.grownBy wr none) (fun i _ => len - (intOf i).toNat)
  case atStart => exact ⟨0, by omega, rfl, rfl, Draw.grown_refl _ _⟩
  case round =>
    obtain ⟨k, hk, rfl, hz, hg⟩ := hrel
    have HZ := Lib.hid hz; clear hz
    have HG := Lib.hid hg; clear hg
    have hIr := hI.kept HG.out
    by_cases hlt : k < len
    · rcases hIr with h | ⟨b, off, rfl, hb, hc⟩
      · omega
      have hcx := hc k hlt
      have HC := Lib.hid hc; clear hc
      cases hf : fok (z k) with
      | false =>
        have HR := Lib.hid (show plok len z = false by unfold plok; rw [plz_no hlt (.inl hf), Bool.and_false])
        go_wp2_with (go_at_call 36; refine (sok_no _ _ (by assumption)).mono ?_; rintro e w' ⟨rfl, rfl⟩)
        go_ret
        exact ⟨ret_b HR.out.symm, HG.out⟩
      | true =>
        clear hI
        go_wp2_with (go_at_call 36; refine (sok_yes _ _ (by assumption)).mono ?_; rintro e w' ⟨rfl, rfl⟩)
        have HF := Lib.hid hf; clear hf
        go_loopw [4] (fun i wi => ∃ m : Nat, m ≤ k ∧ i = .int .i64 m ∧ hasz z (z k) m = false ∧ wr.grownBy wi none ∧ wi.heap = wr.heap) (fun i _ => k - (intOf i).toNat)
        case atStart => exact ⟨0, by omega, rfl, rfl, Draw.grown_refl _ _, rfl⟩
        case round =>
          obtain ⟨m, hm, rfl, hh, hgi, hheap⟩ := hrel
          have HH := Lib.hid hh; clear hh
          have HGi := Lib.hid hgi; clear hgi
          have hcm : m < k → wr.cell? ⟨b, off + m, none⟩ = some (.int .i64 (z m)) := fun h => by
            rw [World.cell?, hheap]; exact HC.out m (by omega)
          have hck : wr.cell? ⟨b, off + k, none⟩ = some (.int .i64 (z k)) := by rw [World.cell?, hheap]; exact hcx
          have HHe := Lib.hid hheap; clear hheap
          by_cases hmk : m < k
          · have hcm' := hcm hmk
            clear hcm
            by_cases he : z m = z k
            · have HR := Lib.hid (show plok len z = false by unfold plok; rw [plz_no hlt (.inr (hasz_yes hmk he)), Bool.and_false])
              have ht : (z m == z k) = true := by simpa using he
              clear he
              go_wp2
              go_quiet (fail)
              go_wp2
              go_ret
              exact ⟨ret_b HR.out.symm, grown_drew (gtr HG.out HGi.out) _⟩
            · have HR := Lib.hid (hasz_next HH.out he)
              have ht : (z m == z k) = false := by simpa using he
              clear he
              go_wp2
              go_quiet (fail)
              go_wp2
              go_roundw
              case rel => exact ⟨m + 1, by omega, by go_num, HR.out, grown_drew HGi.out _, HHe.out⟩
              case measure => simp [intOf]; omega
          · obtain rfl : m = k := by omega
            clear hcm
            have HR := Lib.hid (plz_next HZ.out HF.out HH.out)
            go_wp2
            go_roundw
            case rel => exact ⟨m + 1, by omega, by go_num, HR.out, gtr HG.out HGi.out⟩
            case measure => simp [intOf]; omega
    · obtain rfl : k = len := by omega
      clear hI hIr
      by_cases h5 : k ≤ 5
      · have HR := Lib.hid ((plok_in h5).trans HZ.out)
        have h5' : (k : Int) ≤ 5 := by omega
        go_wp2
        go_ret
        exact ⟨ret_b HR.out.symm, HG.out⟩
      · have HR := Lib.hid (plok_out (z := z) (by omega : 5 < k))
        have h5' : ¬ (k : Int) ≤ 5 := by omega
        go_wp2
        go_ret
        exact ⟨ret_b HR.out.symm, HG.out⟩
end Con
end Go.Proofs.Ytchgjdbmianajaa
/-
  Copies of slices, equal slices, marks in slices; the program's change of a slice's element type; the model's value of a polynomial.
-/

namespace Go.Proofs.Ytchgjdbmianajaa
namespace Con
open Go.RowKit Alg Mem
set_option linter.unusedVariables false

theorem info_int : (Try.prog.info? 3).map (fun i => (i.zero, i.size, i.bytes)) = some (some (.int .i64 0), 1, 8) := by kernel_rfl
theorem info_elt : (Try.prog.info? 56).map (fun i => (i.zero, i.size, i.bytes)) = some (some (.int .i64 0), 1, 8) := by kernel_rfl
theorem und_ints : Try.prog.underlying 23 = some (.slice 3) := by kernel_rfl
theorem und_elts : Try.prog.underlying 54 = some (.slice 56) := by kernel_rfl

/-- A new slice, whole: its row begins at a new block. -/
def NewRow (E : TypeId) (w : World) (len : Nat) (z : Nat → Int) (e : Ending) (w' : World) : Prop :=
  ∃ b, e = .returned (.slice (some ⟨b, 0, none⟩) len len) ∧ Row w' w.heap.size E b len len z ∧ w.grownBy w' none

theorem step_row {w : World} {lo : Nat} {E : TypeId} {b len cap k : Nat} {z : Nat → Int} (h : Row w lo E b len cap (fun j => if j < k then z j else 0)) :
    Row (w.setCell ⟨b, k, none⟩ (.int .i64 (z k))) lo E b len cap (fun j => if j < k + 1 then z j else 0) :=
  (h.set k (z k)).congr fun j hj => by
    by_cases e : j = k
    · subst e; simp
    · by_cases hk : j < k
      · simp [e, hk]; omega
      · have : ¬ j < k + 1 := by omega
        simp [e, hk, this]
theorem full_row {w : World} {lo : Nat} {E : TypeId} {b len cap : Nat} {z : Nat → Int} (h : Row w lo E b len cap (fun j => if j < len then z j else 0)) : Row w lo E b len cap z :=
  h.congr fun j hj => by simp [hj]
theorem zero_row {w : World} {lo : Nat} {E : TypeId} {b len cap k : Nat} {z : Nat → Int} (h : Row w lo E b len cap (fun j => if j < k then z j else 0)) (hk : k < len) : w.cell? ⟨b, k, none⟩ = some (.int .i64 0) := by
  have := h.cell hk; simpa using this
theorem first_row (w : World) (E : TypeId) (n : Nat) (hn : n ≤ maxLen) (z : Nat → Int) : Row (w.alloc (.cells (madeCells #[.int .i64 0] n) E)) w.heap.size E w.heap.size n n (fun j => if j < 0 then z j else 0) :=
  (Row.made w E n hn).congr fun j _ => by simp

theorem toInt (w : World) (a : Option Addr) (len cap : Nat) (z : Nat → Int) (hI : Ints w a len z) (hl : len ≤ 2000000) :
    Calls Try.prog 26 #[.slice a len cap] w (NewRow 3 w len z) := by
  have hmk := run_make_row' (P := Try.prog) 23 3 (.int .i64 0) 8 und_ints info_int rfl .i64 .i64 len (by omega) (by omega)
  go_enter Try.func26, Try.ntmps26
  go_wp2
  go_loopw [4] (fun i wr => ∃ k : Nat, k ≤ len ∧ i = .int .i64 k ∧ Row wr w.heap.size 3 w.heap.size len len (fun j => if j < k then z j else 0) ∧ w.grownBy wr none) (fun i _ => len - (intOf i).toNat)
  case atStart => exact ⟨0, by omega, rfl, first_row w _ _ (by unfold maxLen; omega) z, Draw.grown_alloc _ _ _⟩
  case round =>
    clear hmk
    obtain ⟨k, hk, rfl, hr, hg⟩ := hrel
    have HG := Lib.hid hg; clear hg
    by_cases hlt : k < len
    · rcases hI.kept HG.out with h | ⟨b, off, rfl, hb, hc⟩
      · omega
      have hcx := hc k hlt
      have c0 := zero_row hr hlt
      have f0 := hr.frozen k
      have HR := Lib.hid (step_row hr)
      clear hc hr hI
      go_wp2
      go_roundw
      case rel => exact ⟨k + 1, by omega, by go_num, HR.out, grown_new HG.out (Nat.le_refl _) (grown_set _ _ _ _)⟩
      case measure => simp [intOf]; omega
    · obtain rfl : k = len := by omega
      have HR := Lib.hid (full_row hr)
      clear hI hr
      go_wp2
      go_ret
      exact ⟨_, rfl, HR.out, HG.out⟩

theorem conv_ie (w : World) (a : Option Addr) (len cap : Nat) (z : Nat → Int) (hI : Ints w a len z) (hl : len ≤ 2000000) :
    Calls Try.prog 34 #[.slice a len cap] w (NewRow 56 w len z) := by
  have hmk := run_make_row' (P := Try.prog) 54 56 (.int .i64 0) 8 und_elts info_elt rfl .i64 .i64 len (by omega) (by omega)
  go_enter Try.func34, Try.ntmps34
  go_wp2
  go_loopw [11] (fun i wr => ∃ k : Nat, k ≤ len ∧ i = .int .i64 k ∧ Row wr w.heap.size 56 w.heap.size len len (fun j => if j < k then z j else 0) ∧ w.grownBy wr none) (fun i _ => len - (intOf i).toNat)
  case atStart => exact ⟨0, by omega, rfl, first_row w _ _ (by unfold maxLen; omega) z, Draw.grown_alloc _ _ _⟩
  case round =>
    clear hmk
    obtain ⟨k, hk, rfl, hr, hg⟩ := hrel
    have HG := Lib.hid hg; clear hg
    by_cases hlt : k < len
    · rcases hI.kept HG.out with h | ⟨b, off, rfl, hb, hc⟩
      · omega
      have hcx := hc k hlt
      have c0 := zero_row hr hlt
      have f0 := hr.frozen k
      have HR := Lib.hid (step_row hr)
      clear hc hr hI
      go_wp2
      go_roundw
      case rel => exact ⟨k + 1, by omega, by go_num, HR.out, grown_new HG.out (Nat.le_refl _) (grown_set _ _ _ _)⟩
      case measure => simp [intOf]; omega
    · obtain rfl : k = len := by omega
      have HR := Lib.hid (full_row hr)
      clear hI hr
      go_wp2
      go_ret
      exact ⟨_, rfl, HR.out, HG.out⟩
/-- Two slices that hold the same are so found. -/
theorem lpints (w : World) (a b : Option Addr) (len ca cb : Nat) (z : Nat → Int) (hA : Ints w a len z) (hB : Ints w b len z) (hl : len ≤ 2000000) :
    Calls Try.prog 12 #[.slice a len ca, .slice b len cb] w fun e w' => e = .returned (.bool true) ∧ w.grownBy w' none := by
  go_enter Try.func12, Try.ntmps12
  go_wp2
  go_loopw [5] (fun i wr => ∃ k : Nat, k ≤ len ∧ i = .int .i64 k ∧ w.grownBy wr none) (fun i _ => len - (intOf i).toNat)
  case atStart => exact ⟨0, by omega, rfl, Draw.grown_refl _ _⟩
  case round =>
    obtain ⟨k, hk, rfl, hg⟩ := hrel
    have HG := Lib.hid hg; clear hg
    by_cases hlt : k < len
    · rcases hA.kept HG.out with h | ⟨b1, off1, rfl, hb1, hc1⟩
      · omega
      rcases hB.kept HG.out with h | ⟨b2, off2, rfl, hb2, hc2⟩
      · omega
      have hcx := hc1 k hlt
      have hcy := hc2 k hlt
      clear hA hB hc1 hc2
      go_wp2
      go_quiet (fail)
      go_wp2
      go_roundw
      case rel => exact ⟨k + 1, by omega, by go_num, grown_drew HG.out _⟩
      case measure => simp [intOf]; omega
    · obtain rfl : k = len := by omega
      clear hA hB
      go_wp2
      go_ret
      exact ⟨rfl, HG.out⟩
theorem eqint (w : World) (a b : Option Addr) (len ca cb : Nat) (z : Nat → Int) (hA : Ints w a len z) (hB : Ints w b len z) (hl : len ≤ 2000000) :
    Calls Try.prog 27 #[.slice a len ca, .slice b len cb] w fun e w' => e = .returned (.bool true) ∧ w.grownBy w' none := by
  go_enter Try.func27, Try.ntmps27
  go_wp2
  go_loopw [5] (fun i wr => ∃ k : Nat, k ≤ len ∧ i = .int .i64 k ∧ w.grownBy wr none) (fun i _ => len - (intOf i).toNat)
  case atStart => exact ⟨0, by omega, rfl, Draw.grown_refl _ _⟩
  case round =>
    obtain ⟨k, hk, rfl, hg⟩ := hrel
    have HG := Lib.hid hg; clear hg
    by_cases hlt : k < len
    · rcases hA.kept HG.out with h | ⟨b1, off1, rfl, hb1, hc1⟩
      · omega
      rcases hB.kept HG.out with h | ⟨b2, off2, rfl, hb2, hc2⟩
      · omega
      have hcx := hc1 k hlt
      have hcy := hc2 k hlt
      clear hA hB hc1 hc2
      go_wp2
      go_quiet (fail)
      go_wp2
      go_roundw
      case rel => exact ⟨k + 1, by omega, by go_num, grown_drew HG.out _⟩
      case measure => simp [intOf]; omega
    · obtain rfl : k = len := by omega
      clear hA hB
      go_wp2
      go_ret
      exact ⟨rfl, HG.out⟩
theorem mark_zero (w : World) (a : Option Addr) (cap : Nat) (m : Int) : Calls Try.prog 28 #[.slice a 0 cap, .int .i64 m] w fun e w' => e = .returned (.int .i64 m) ∧ w = w' := by
  go_enter Try.func28, Try.ntmps28
  go_wp2
  refine wp_loop_rounds 1 ?_
  rw [rounds_succ]
  go_wp2
  go_ret
  exact ⟨rfl, rfl⟩
theorem mark_row (w : World) (lo b len cap : Nat) (z : Nat → Int) (m : Nat) (hR : Row w lo 3 b len cap z) (hl : len ≤ 2000000) (hm : m ≤ 9000000) :
    Calls Try.prog 28 #[.slice (some ⟨b, 0, none⟩) len cap, .int .i64 (m : Int)] w fun e w' => e = .returned (.int .i64 ((m + len : Nat) : Int)) ∧ w.grownBy w' (some b) ∧ Row w' lo 3 b len cap (fun j => ((m + j : Nat) : Int)) := by
  go_enter Try.func28, Try.ntmps28
  go_wp2
  go_loopw [1, 5] (fun q i wr => ∃ k : Nat, k ≤ len ∧ i = .int .i64 k ∧ q = .int .i64 ((m + k : Nat) : Int) ∧ Row wr lo 3 b len cap (fun j => if j < k then ((m + j : Nat) : Int) else z j) ∧ w.grownBy wr (some b)) (fun _ i _ => len - (intOf i).toNat)
  case atStart => exact ⟨0, by omega, rfl, rfl, hR.congr (fun j _ => by simp), Draw.grown_refl _ _⟩
  case round =>
    obtain ⟨k, hk, rfl, rfl, hr, hg⟩ := hrel
    have HG := Lib.hid hg; clear hg
    by_cases hlt : k < len
    · have c0 : wr.cell? ⟨b, k, none⟩ = some (.int .i64 (z k)) := by have := hr.cell hlt; simpa using this
      have f0 := hr.frozen k
      have HR := Lib.hid (show Row (wr.setCell ⟨b, k, none⟩ (.int .i64 ((m + k : Nat) : Int))) lo 3 b len cap (fun j => if j < k + 1 then ((m + j : Nat) : Int) else z j) from
        (hr.set k _).congr fun j hj => by
          by_cases e : j = k
          · subst e; simp
          · by_cases hk : j < k
            · simp [e, hk]; omega
            · have : ¬ j < k + 1 := by omega
              simp [e, hk, this])
      clear hr hR
      go_wp2
      go_roundw
      case rel => exact ⟨k + 1, by omega, by go_num, by go_num, HR.out, Draw.grown_trans HG.out (grown_set _ _ _ _)⟩
      case measure => simp [intOf]; omega
    · obtain rfl : k = len := by omega
      have HR := Lib.hid (show Row wr lo 3 b k cap (fun j => ((m + j : Nat) : Int)) from hr.congr fun j hj => by simp [hj])
      clear hr hR
      go_wp2
      go_ret
      exact ⟨rfl, HG.out, HR.out⟩
theorem held (w : World) (a : Option Addr) (len cap : Nat) (m : Nat) (hI : Ints w a len (fun j => ((m + j : Nat) : Int))) (hl : len ≤ 2000000) (hm : m ≤ 9000000) :
    Calls Try.prog 29 #[.slice a len cap, .int .i64 (m : Int)] w fun e w' => e = .returned (.int .i64 ((m + len : Nat) : Int)) ∧ w = w' := by
  go_enter Try.func29, Try.ntmps29
  go_wp2
  go_loop [1, 5] (fun q i => ∃ k : Nat, k ≤ len ∧ i = .int .i64 k ∧ q = .int .i64 ((m + k : Nat) : Int)) (fun _ i => len - (intOf i).toNat)
  case atStart => exact ⟨0, by omega, rfl, rfl⟩
  case round =>
    obtain ⟨k, hk, rfl, rfl⟩ := hrel
    by_cases hlt : k < len
    · rcases hI with h | ⟨b1, off1, rfl, hb1, hc1⟩
      · omega
      have hcx := hc1 k hlt
      clear hc1
      go_wp2
      go_round
      case rel => exact ⟨k + 1, by omega, by go_num, by go_num⟩
      case measure => simp [intOf]; omega
    · obtain rfl : k = len := by omega
      clear hI
      go_wp2
      go_ret
      exact ⟨rfl, rfl⟩
end Con
end Go.Proofs.Ytchgjdbmianajaa
/-
  The value of a polynomial at a place, as the model has it.
-/

namespace Go.Proofs.Ytchgjdbmianajaa
namespace Con
open Go.RowKit Alg Mem Pol
set_option linter.unusedVariables false

/-- What a slice's numbers are in the field. -/
def fl (z : Nat → Int) (len : Nat) : List F := (List.range len).map fun j => cv (z j)
theorem fl_length (z : Nat → Int) (len : Nat) : (fl z len).length = len := by simp [fl]
theorem fl_get (z : Nat → Int) {len k : Nat} (hk : k < len) : (fl z len)[k]'(by rw [fl_length]; exact hk) = cv (z k) := by simp [fl]
theorem fl_getD (z : Nat → Int) {len k : Nat} (hk : k < len) : (fl z len).getD k 0 = cv (z k) := by simp [fl, hk]
theorem fl_congr {z y : Nat → Int} {len : Nat} (h : ∀ j, j < len → z j = y j) : fl z len = fl y len := by
  apply List.ext_getElem
  · simp [fl]
  · intro i h1 h2
    have : i < len := by simpa [fl] using h1
    simp [fl, h i this]
theorem fl_fi (l : List F) : fl (fun j => fi (l.getD j 0)) l.length = l := by
  apply List.ext_getElem
  · simp [fl]
  · intro i h1 h2
    simp [fl, cv_fi, h2]
/-- The value from the k-th number on. -/
def pv (z : Nat → Int) (len : Nat) (x : F) (k : Nat) : F := ev ((fl z len).drop k) x
theorem pv_last (z : Nat → Int) (len : Nat) (x : F) : pv z len x len = 0 := by
  unfold pv; rw [List.drop_of_length_le (by simp [fl])]; rfl
theorem pv_step (z : Nat → Int) {len : Nat} (x : F) {k : Nat} (hk : k < len) : pv z len x k = pv z len x (k + 1) * x + cv (z k) := by
  unfold pv
  rw [List.drop_eq_getElem_cons (by simpa [fl] using hk)]
  simp only [ev, fl_get z hk]
theorem pv_all (z : Nat → Int) (len : Nat) (x : F) : pv z len x 0 = ev (fl z len) x := rfl
theorem horner {v : F} {x c : Int} (hx : fok x = true) (hc : fok c = true) : (fi v * x + c) % 23 = fi (v * cv x + cv c) := by
  rw [← fi_sum, ← fi_mul, fi_cv hx, fi_cv hc, sumF_in (mulF_ok _ _) hc, mulF_in (fi_ok v) hx]; omega
theorem ret_iz {x y : Int} (h : x = y) : Ending.returned (.int .i64 x) = .returned (.int .i64 y) := by rw [h]

/-- The model's value, of numbers and a place of the field. -/
theorem s3at (w : World) (a : Option Addr) (len cap : Nat) (z : Nat → Int) (x : Int) (hI : Ints w a len z) (hl : len ≤ 2000000) (hz : ∀ j, j < len → fok (z j) = true) (hx : fok x = true) :
    Calls Try.prog 80 #[.slice a len cap, .int .i64 x] w fun e w' => e = .returned (.int .i64 (fi (ev (fl z len) (cv x)))) ∧ w = w' := by
  have HX := Lib.hid hx
  have HZ := Lib.hid hz
  obtain ⟨x0, x1⟩ := fok_iff.1 hx
  clear hx hz
  go_enter Try.func80, Try.ntmps80
  go_wp2
  go_loop [5, 6] (fun o i => ∃ k : Nat, k ≤ len ∧ i = .int .i64 ((k : Int) - 1) ∧ o = .int .i64 (fi (pv z len (cv x) k))) (fun _ i => (intOf i + 1).toNat)
  case atStart => exact ⟨len, by omega, by first | rfl | go_num, by rw [pv_last]; rfl⟩
  case round =>
    obtain ⟨k, hk, rfl, rfl⟩ := hrel
    obtain ⟨v0, v1⟩ := fi_range (pv z len (cv x) k)
    by_cases hlt : 1 ≤ k
    · obtain ⟨m, rfl⟩ : ∃ m, k = m + 1 := ⟨k - 1, by omega⟩
      rcases hI with h | ⟨b1, off1, rfl, hb1, hc1⟩
      · omega
      have hcx := hc1 m (by omega)
      have hf := HZ.out m (by omega)
      obtain ⟨c0, c1⟩ := fok_iff.1 hf
      have u0 : 0 ≤ fi (pv z len (cv x) (m + 1)) * x := Int.mul_nonneg v0 x0
      have u1 : fi (pv z len (cv x) (m + 1)) * x ≤ 22 * 22 := Int.mul_le_mul v1 (by omega) x0 (by decide)
      have HR := Lib.hid ((horner (v := pv z len (cv x) (m + 1)) HX.out hf).trans (congrArg fi (pv_step z (cv x) (by omega : m < len)).symm))
      have t0 : 0 ≤ ((m + 1 : Nat) : Int) - 1 := by omega
      have t1 : (((m + 1 : Nat) : Int) - 1).toNat = m := by omega
      have t2 : ((m + 1 : Nat) : Int) - 1 < (len : Int) := by omega
      clear hc1 hf
      go_wp2
      go_round
      case rel => exact ⟨m, by omega, by go_num, by rw [← HR.out]⟩
      case measure => simp [intOf]
    · obtain rfl : k = 0 := by omega
      clear hI
      go_wp2
      go_ret
      exact ⟨rfl, rfl⟩
/-- What is asked of a polynomial and a place. -/
def patz (len : Nat) (z : Nat → Int) (x : Int) : Int := if pokz len z = true ∧ fok x = true then fi (ev (fl z len) (cv x)) else 0
theorem patz_in {len : Nat} {z : Nat → Int} {x : Int} (hp : pokz len z = true) (hx : fok x = true) : patz len z x = fi (ev (fl z len) (cv x)) := by unfold patz; rw [if_pos ⟨hp, hx⟩]
theorem patz_out {len : Nat} {z : Nat → Int} {x : Int} (h : pokz len z = false ∨ fok x = false) : patz len z x = 0 := by
  unfold patz; rcases h with h | h <;> simp [h]
theorem patz_ok (len : Nat) (z : Nat → Int) (x : Int) : fok (patz len z x) = true := by unfold patz; split; exact fi_ok _; rfl
end Con
end Go.Proofs.Ytchgjdbmianajaa
/-
  The program's sum of two polynomials: the longer one is cloned, and the other's numbers are put to it.
-/

namespace Go.Proofs.Ytchgjdbmianajaa
namespace Con
open Go.RowKit Alg Mem Pol
set_option linter.unusedVariables false

/-- A slice of the call's own, whatever its capacity. -/
def Own1 (E : TypeId) (w : World) (len : Nat) (z : Nat → Int) (e : Ending) (w' : World) : Prop :=
  ∃ b cap, e = .returned (.slice (some ⟨b, 0, none⟩) len cap) ∧ Row w' w.heap.size E b len cap z ∧ w.grownBy w' none
theorem one_cells (z : Nat → Int) (n : Nat) : ∀ u ∈ vals z n, u.oneCell' = true := by
  intro u hu; simp [vals] at hu; obtain ⟨j, _, rfl⟩ := hu; rfl
theorem cells_at {w : World} {b off len : Nat} {z : Nat → Int} (hc : ∀ j, j < len → w.cell? ⟨b, off + j, none⟩ = some (.int .i64 (z j))) :
    ∀ j u, (vals z len)[j]? = some u → w.cell? ((⟨b, off, none⟩ : Addr).add j) = some u := by
  intro j u hu
  have hj : j < len := by
    have := (List.getElem?_eq_some_iff.1 hu).1; rwa [vals_length] at this
  rw [vals_get z hj] at hu
  cases hu
  have h := hc j hj
  by_cases h0 : j = 0
  · subst h0; simpa [Addr.add] using h
  · simpa [Addr.add, h0] using h
theorem padd_getD (a b : List F) (j : Nat) : (padd a b).getD j 0 = a.getD j 0 + b.getD j 0 := by
  induction a generalizing b j with
  | nil => simp [padd]
  | cons x a ih => cases b with
    | nil => simp [padd]
    | cons y b => cases j with
      | zero => simp [padd]
      | succ j => simpa [padd] using ih b j
theorem fl_getD_out (z : Nat → Int) {len k : Nat} (hk : len ≤ k) : (fl z len).getD k 0 = 0 := by simp [fl, hk]
/-- The sum's numbers. -/
def zsum (la : Nat) (za : Nat → Int) (lb : Nat) (zb : Nat → Int) (j : Nat) : Int := fi ((padd (fl za la) (fl zb lb)).getD j 0)
theorem zsum_both {la lb : Nat} {za zb : Nat → Int} {j : Nat} (ha : j < la) (hb : j < lb) : zsum la za lb zb j = fi (cv (za j) + cv (zb j)) := by
  unfold zsum; rw [padd_getD, fl_getD za ha, fl_getD zb hb]
theorem zsum_left {la lb : Nat} {za zb : Nat → Int} {j : Nat} (ha : j < la) (hb : lb ≤ j) (hf : fok (za j) = true) : zsum la za lb zb j = za j := by
  unfold zsum; rw [padd_getD, fl_getD za ha, fl_getD_out zb hb]
  rw [show cv (za j) + 0 = cv (za j) from by grind, fi_cv hf]
theorem zsum_comm (la : Nat) (za : Nat → Int) (lb : Nat) (zb : Nat → Int) : zsum la za lb zb = zsum lb zb la za := by funext j; unfold zsum; rw [padd_comm]
end Con
end Go.Proofs.Ytchgjdbmianajaa
/-
  How the model draws polynomials and places: slices of its own of at most five numbers (six where it spoils one), and all that was there stays, but the reader's own place.
-/

namespace Go.Proofs.Ytchgjdbmianajaa
namespace Draw
open Go.RowKit Mem Con
set_option linter.unusedVariables false

theorem grown_newR {a b c : World} {r : Option Nat} {B : Nat} (h : a.grownBy b r) (hB : a.heap.size ≤ B) (k : b.grownBy c (some B)) : a.grownBy c r :=
  ⟨k.os.trans h.os, k.tape.trans h.tape, k.output.trans h.output, Nat.le_trans h.size k.size,
    fun i hi hne => (k.block i (Nat.lt_of_lt_of_le hi h.size) (by intro e; injection e with e; omega)).trans (h.block i hi hne)⟩
theorem Rd.grown {w w' : World} {base B b : Nat} {a : Option Addr} {len cap p : Nat} (h : Rd w base B a len cap p) (hg : w.grownBy w' (some b)) (hb : B < b) : Rd w' base B a len cap p :=
  h.kept (fun k hk => hg.block k (by have := h.lt; have := h.from_; omega) (by intro e; injection e with e; have := h.from_; omega)) (hg.block B h.lt (by intro e; injection e with e; omega))
theorem app_any {w1 : World} {lo : Nat} {E : TypeId} {v' : Value} {k : Nat} {z : Nat → Int} {n : Int} (h : w1.ownsRow lo E 1 v' (k + 1) (vals z k ++ [.int .i64 n])) :
    ∃ b cap z', v' = .slice (some ⟨b, 0, none⟩) (k + 1) cap ∧ Row w1 lo E b (k + 1) cap z' := by
  obtain ⟨b, cap, hv, hr⟩ := row_of_owns (z := fun j => if j = k then n else z j) h (by omega) fun j hj => by
    by_cases e : j < k
    · rw [List.getElem?_append_left (by rw [vals_length]; exact e), vals_get z e, if_neg (by omega)]
    · obtain rfl : j = k := by omega
      rw [List.getElem?_append_right (by rw [vals_length]; exact Nat.le_refl _), vals_length, Nat.sub_self, if_pos rfl]; rfl
  exact ⟨b, cap, _, hv, hr⟩

/-- What a draw of a slice leaves. -/
def DrawnS (w : World) (base B : Nat) (a : Option Addr) (len cap p k m : Nat) (e : Ending) (w' : World) : Prop :=
  ∃ (b n c : Nat) (z : Nat → Int), e = .returned (.slice (some ⟨b, 0, none⟩) n c) ∧ n ≤ m ∧ Row w' w.heap.size 3 b n c z ∧ w.grownBy w' (some B) ∧ ∃ p', p ≤ p' ∧ p' ≤ p + k ∧ Rd w' base B a len cap p'
/-- What a loop holds that draws and appends. -/
def Held (w : World) (base B : Nat) (a : Option Addr) (len cap lo hi k b c : Nat) (z : Nat → Int) (wr : World) : Prop :=
  Row wr w.heap.size 3 b k c z ∧ w.grownBy wr (some B) ∧ ∃ p', lo ≤ p' ∧ p' ≤ hi ∧ Rd wr base B a len cap p'
theorem Held.app {w : World} {base B : Nat} {a : Option Addr} {len cap lo hi k b c : Nat} {z : Nat → Int} {wr : World} {o : Obj} (h : Held w base B a len cap lo hi k b c z wr) (hB : B < w.heap.size) {v' : Value} {n : Int} {w1 : World}
    (hown : w1.ownsRow w.heap.size 3 1 v' (k + 1) (vals z k ++ [.int .i64 n])) (hg : (wr.alloc o).grownBy w1 (Value.slice (some ⟨b, 0, none⟩) k c).ownBlock) :
    ∃ b' c' z', v' = .slice (some ⟨b', 0, none⟩) (k + 1) c' ∧ Held w base B a len cap lo hi (k + 1) b' c' z' w1 := by
  obtain ⟨hr, hgr, p', h1, h2, hrd⟩ := h
  obtain ⟨b', c', z', hv, hrow⟩ := app_any hown
  have hg : (wr.alloc o).grownBy w1 (some b) := hg
  exact ⟨b', c', z', hv, hrow, grown_newR (grown_trans hgr (grown_alloc _ _ _)) hr.from_ hg, p', h1, h2, (hrd.alloc o).grown hg (by have := hr.from_; omega)⟩
theorem Held.pick {w : World} {base B : Nat} {a : Option Addr} {len cap lo hi k b c p' : Nat} {z : Nat → Int} {wr w' : World} (hr : Row wr w.heap.size 3 b k c z) (hg : w.grownBy wr (some B)) (hB : B < w.heap.size)
    (hg' : wr.grownBy w' (some B)) (h1 : lo ≤ p') (h2 : p' + 1 ≤ hi) (hrd : Rd w' base B a len cap (p' + 1)) : Held w base B a len cap lo hi k b c z w' :=
  ⟨hr.kept hg' (by intro e; injection e with e; have := hr.from_; omega), grown_trans hg hg', p' + 1, by omega, h2, hrd⟩

end Draw
end Go.Proofs.Ytchgjdbmianajaa
