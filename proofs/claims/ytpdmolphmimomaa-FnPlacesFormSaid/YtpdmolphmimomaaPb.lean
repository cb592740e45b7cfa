/-
  What the functions that test places answer, the program's and the model's; whether a slice has a number; whether two slices hold the same.
-/
import Derived.Test.YtpdmolphmimomaaPa
namespace Go.Proofs.Ytpdmolphmimomaa
namespace Con
open Go.RowKit Alg Mem
set_option linter.unusedVariables false

theorem hasz_yes {z : Nat → Int} {n : Int} {k m : Nat} (hk : k < m) (h : z k = n) : hasz z n m = true := hasz_iff.2 ⟨k, hk, h⟩
theorem hasz_next {z : Nat → Int} {n : Int} {k : Nat} (h : hasz z n k = false) (hz : ¬ z k = n) : hasz z n (k + 1) = false := by
  rw [hasz_no] at h ⊢
  intro j hj
  rcases Nat.lt_or_ge j k with h' | h'
  · exact h j h'
  · obtain rfl : j = k := by omega
    exact hz
/-- Where it stands, or -1. -/
def Idx (z : Nat → Int) (n : Int) (len : Nat) (w : World) (e : Ending) (w' : World) : Prop :=
  ∃ r : Int, e = .returned (.int .i64 r) ∧ w = w' ∧ (hasz z n len = true ∧ 0 ≤ r ∨ hasz z n len = false ∧ r = -1)
theorem index_any (w : World) (a : Option Addr) (len cap : Nat) (z : Nat → Int) (n : Int) (hI : Ints w a len z) (hl : len ≤ 2000000) :
    Calls Try.prog 98 #[.slice a len cap, .int .i64 n] w (Idx z n len w) := by
  go_enter Try.func98, Try.ntmps98
  go_wp2
  go_loop [8] (fun i => ∃ k : Nat, k ≤ len ∧ i = .int .i64 k ∧ hasz z n k = false) (fun i => len - (intOf i).toNat)
  case atStart => exact ⟨0, by omega, rfl, rfl⟩
  case round =>
    obtain ⟨k, hk, rfl, hz⟩ := hrel
    have HZ := Lib.hid hz; clear hz
    by_cases hlt : k < len
    · rcases hI with h | ⟨b, off, rfl, hb, hc⟩
      · omega
      have hcx := hc k hlt
      clear hc
      by_cases he : z k = n
      · have HR := Lib.hid (hasz_yes hlt he)
        have ht : (n == z k) = true := by simpa using he.symm
        clear he
        go_wp2
        go_ret
        exact ⟨_, rfl, rfl, .inl ⟨HR.out, by omega⟩⟩
      · have HR := Lib.hid (hasz_next HZ.out he)
        have ht : (n == z k) = false := by simpa using fun h => he h.symm
        clear he
        go_wp2
        go_round
        case rel => exact ⟨k + 1, by omega, by go_num, HR.out⟩
        case measure => simp [intOf]; omega
    · obtain rfl : k = len := by omega
      clear hI
      go_wp2
      go_ret
      exact ⟨_, rfl, rfl, .inr ⟨HZ.out, rfl⟩⟩
theorem contains_any (w : World) (a : Option Addr) (len cap : Nat) (z : Nat → Int) (n : Int) (hI : Ints w a len z) (hl : len ≤ 2000000) :
    Calls Try.prog 83 #[.slice a len cap, .int .i64 n] w fun e w' => e = .returned (.bool (hasz z n len)) ∧ w = w' := by
  go_enter Try.func83, Try.ntmps83
  go_wp2_with fail
  refine (index_any _ _ _ _ z n hI hl).mono ?_
  clear hI
  rintro e w' ⟨r, rfl, rfl, ⟨h, hr⟩ | ⟨h, rfl⟩⟩
  · have HR := Lib.hid h; clear h
    go_wp2
    go_ret
    exact ⟨ret_b HR.out.symm, rfl⟩
  · have HR := Lib.hid h; clear h
    go_wp2
    go_ret
    exact ⟨ret_b HR.out.symm, rfl⟩
/-- The program's test of places. -/
theorem iplok (w : World) (a : Option Addr) (len cap : Nat) (z : Nat → Int) (hI : Ints w a len z) (hl : len ≤ 2000000) (hc : len ≤ cap) (hm : cap ≤ maxLen) :
    Calls Try.prog 51 #[.slice a len cap] w fun e w' => e = .returned (.bool (plok len z)) ∧ w = w' := by
  unfold maxLen at hm
  by_cases h5 : 5 < len
  · rw [plok_out h5]
    have h5' : (5 : Int) < (len : Int) := by omega
    clear hI
    go_enter Try.func51, Try.ntmps51
    go_wp2
    go_ret
    exact ⟨rfl, rfl⟩
  rw [plok_in (by omega)]
  have h5' : ¬ (5 : Int) < (len : Int) := by omega
  go_enter Try.func51, Try.ntmps51
  go_wp2
  go_loop [10] (fun i => ∃ k : Nat, k ≤ len ∧ i = .int .i64 k ∧ plz z k = true) (fun i => len - (intOf i).toNat)
  case atStart => exact ⟨0, by omega, rfl, rfl⟩
  case round =>
    obtain ⟨k, hk, rfl, hz⟩ := hrel
    have HZ := Lib.hid hz; clear hz
    by_cases hlt : k < len
    · have hIk := hI.less (Nat.le_of_lt hlt)
      rcases hI with h | ⟨b, off, rfl, hb, hc⟩
      · omega
      have hcx := hc k hlt
      clear hc
      cases hf : fok (z k) with
      | false =>
        have HR := Lib.hid (plz_no hlt (.inl hf))
        clear hIk
        go_wp2_with (go_at_call 60; refine (iok_no _ _ (by assumption)).mono ?_; rintro e w' ⟨rfl, rfl⟩)
        go_ret
        exact ⟨ret_b HR.out.symm, rfl⟩
      | true =>
        have HI := Lib.hid hIk; clear hIk
        cases hh : hasz z (z k) k with
        | true =>
          have HR := Lib.hid (plz_no hlt (.inr hh))
          go_wp2_with (first
            | (go_at_call 60; refine (iok_yes _ _ (by assumption)).mono ?_; rintro e w' ⟨rfl, rfl⟩)
            | (go_at_call 83; refine (contains_any _ _ _ _ z (z k) HI.out (by omega)).mono ?_; rintro e w' ⟨rfl, rfl⟩))
          go_ret
          exact ⟨ret_b HR.out.symm, rfl⟩
        | false =>
          have HR := Lib.hid (plz_next HZ.out hf hh)
          go_wp2_with (first
            | (go_at_call 60; refine (iok_yes _ _ (by assumption)).mono ?_; rintro e w' ⟨rfl, rfl⟩)
            | (go_at_call 83; refine (contains_any _ _ _ _ z (z k) HI.out (by omega)).mono ?_; rintro e w' ⟨rfl, rfl⟩))
          go_round
          case rel => exact ⟨k + 1, by omega, by go_num, HR.out⟩
          case measure => simp [intOf]; omega
    · obtain rfl : k = len := by omega
      clear hI
      go_wp2
      go_ret
      exact ⟨ret_b HZ.out.symm, rfl⟩
theorem shas (w : World) (a : Option Addr) (len cap : Nat) (z : Nat → Int) (n : Int) (hI : Ints w a len z) (hl : len ≤ 2000000) :
    Calls Try.prog 97 #[.slice a len cap, .int .i64 n] w fun e w' => e = .returned (.bool (hasz z n len)) ∧ w = w' := by
  go_enter Try.func97, Try.ntmps97
  go_wp2
  go_loop [5] (fun i => ∃ k : Nat, k ≤ len ∧ i = .int .i64 k ∧ hasz z n k = false) (fun i => len - (intOf i).toNat)
  case atStart => exact ⟨0, by omega, rfl, rfl⟩
  case round =>
    obtain ⟨k, hk, rfl, hz⟩ := hrel
    have HZ := Lib.hid hz; clear hz
    by_cases hlt : k < len
    · rcases hI with h | ⟨b, off, rfl, hb, hc⟩
      · omega
      have hcx := hc k hlt
      clear hc
      by_cases he : z k = n
      · have HR := Lib.hid (hasz_yes hlt he)
        have ht : (z k == n) = true := by simpa using he
        clear he
        go_wp2
        go_ret
        exact ⟨ret_b HR.out.symm, rfl⟩
      · have HR := Lib.hid (hasz_next HZ.out he)
        have ht : (z k == n) = false := by simpa using he
        clear he
        go_wp2
        go_round
        case rel => exact ⟨k + 1, by omega, by go_num, HR.out⟩
        case measure => simp [intOf]; omega
    · obtain rfl : k = len := by omega
      clear hI
      go_wp2
      go_ret
      exact ⟨ret_b HZ.out.symm, rfl⟩
/-- The model's test of places. -/
theorem splok (w : World) (a : Option Addr) (len cap : Nat) (z : Nat → Int) (hI : Ints w a len z) (hl : len ≤ 2000000) :
    Calls Try.prog 52 #[.slice a len cap] w fun e w' => e = .returned (.bool (plok len z)) ∧ w.grownBy w' none := by
  go_enter Try.func52, Try.ntmps52
  go_wp2
  go_loopw [3] (fun i wr => ∃ k : Nat, k ≤ len ∧ i = .int .i64 k ∧ plz z k = true ∧ w.grownBy wr none) (fun i _ => len - (intOf i).toNat)
  case atStart => exact ⟨0, by omega, rfl, rfl, Draw.grown_refl _ _⟩
  case round =>
    obtain ⟨k, hk, rfl, hz, hg⟩ := hrel
    have HZ := Lib.hid hz; clear hz
    have HG := Lib.hid hg; clear hg
    have hIr := hI.kept HG.out
    by_cases hlt : k < len
    · rcases hIr with h | ⟨b, off, rfl, hb, hc⟩
      · omega
      have hcx := hc k hlt
      have HC := Lib.hid hc; clear hc
      cases hf : fok (z k) with
      | false =>
        have HR := Lib.hid (show plok len z = false by unfold plok; rw [plz_no hlt (.inl hf), Bool.and_false])
        go_wp2_with (go_at_call 32; refine (sok_no _ _ (by assumption)).mono ?_; rintro e w' ⟨rfl, rfl⟩)
        go_ret
        exact ⟨ret_b HR.out.symm, HG.out⟩
      | true =>
        clear hI
        go_wp2_with (go_at_call 32; refine (sok_yes _ _ (by assumption)).mono ?_; rintro e w' ⟨rfl, rfl⟩)
        have HF := Lib.hid hf; clear hf
        go_loopw [4] (fun i wi => ∃ m : Nat, m ≤ k ∧ i = .int .i64 m ∧ hasz z (z k) m = false ∧ wr.grownBy wi none ∧ wi.heap = wr.heap) (fun i _ => k - (intOf i).toNat)
        case atStart => exact ⟨0, by omega, rfl, rfl, Draw.grown_refl _ _, rfl⟩
        case round =>
          obtain ⟨m, hm, rfl, hh, hgi, hheap⟩ := hrel
          have HH := Lib.hid hh; clear hh
          have HGi := Lib.hid hgi; clear hgi
          have hcm : m < k → wr.cell? ⟨b, off + m, none⟩ = some (.int .i64 (z m)) := fun h => by
            rw [World.cell?, hheap]; exact HC.out m (by omega)
          have hck : wr.cell? ⟨b, off + k, none⟩ = some (.int .i64 (z k)) := by rw [World.cell?, hheap]; exact hcx
          have HHe := Lib.hid hheap; clear hheap
          by_cases hmk : m < k
          · have hcm' := hcm hmk
            clear hcm
            by_cases he : z m = z k
            · have HR := Lib.hid (show plok len z = false by unfold plok; rw [plz_no hlt (.inr (hasz_yes hmk he)), Bool.and_false])
              have ht : (z m == z k) = true := by simpa using he
              clear he
              go_wp2
              go_quiet (fail)
              go_wp2
              go_ret
              exact ⟨ret_b HR.out.symm, grown_drew (gtr HG.out HGi.out) _⟩
            · have HR := Lib.hid (hasz_next HH.out he)
              have ht : (z m == z k) = false := by simpa using he
              clear he
              go_wp2
              go_quiet (fail)
              go_wp2
              go_roundw
              case rel => exact ⟨m + 1, by omega, by go_num, HR.out, grown_drew HGi.out _, HHe.out⟩
              case measure => simp [intOf]; omega
          · obtain rfl : m = k := by omega
            clear hcm
            have HR := Lib.hid (plz_next HZ.out HF.out HH.out)
            go_wp2
            go_roundw
            case rel => exact ⟨m + 1, by omega, by go_num, HR.out, gtr HG.out HGi.out⟩
            case measure => simp [intOf]; omega
    · obtain rfl : k = len := by omega
      clear hI hIr
      by_cases h5 : k ≤ 5
      · have HR := Lib.hid ((plok_in h5).trans HZ.out)
        have h5' : (k : Int) ≤ 5 := by omega
        go_wp2
        go_ret
        exact ⟨ret_b HR.out.symm, HG.out⟩
      · have HR := Lib.hid (plok_out (z := z) (by omega : 5 < k))
        have h5' : ¬ (k : Int) ≤ 5 := by omega
        go_wp2
        go_ret
        exact ⟨ret_b HR.out.symm, HG.out⟩
end Con
end Go.Proofs.Ytpdmolphmimomaa
