/-
  Signatures: the program's functions on a group of signers, of whom one answers.
-/
import Derived.Test.YthbigmcklacbnaaGreatDoorGi
import Derived.Test.YthbigmcklacbnaaGreatDoorKc
import Derived.Test.YthbigmcklacbnaaGreatDoorPk
import Derived.Test.YthbigmcklacbnaaGreatDoorWk
import Derived.Handy
namespace Go.Proofs.YthbigmcklacbnaaGreatDoor
namespace Con
open Go.RowKit Alg Mem Draw
set_option linter.unusedVariables false

/-- Where it stands first. -/
def posz (z : Nat → Int) (n : Int) : Nat → Nat
  | 0 => 0
  | k + 1 => if hasz z n k then posz z n k else k
theorem pos_at {z : Nat → Int} {n : Int} {k : Nat} : ∀ {len : Nat}, k < len → hasz z n k = false → z k = n → posz z n len = k
  | 0, h, _, _ => by omega
  | l + 1, h, h1, h2 => by
    unfold posz
    rcases Nat.lt_or_ge k l with hl | hl
    · rw [if_pos (hasz_yes hl h2)]; exact pos_at hl h1 h2
    · obtain rfl : k = l := by omega
      rw [h1]; rfl
theorem pos_lt {z : Nat → Int} {n : Int} : ∀ {len : Nat}, hasz z n len = true → posz z n len < len ∧ z (posz z n len) = n
  | 0, h => by simp [hasz] at h
  | l + 1, h => by
    unfold posz
    cases hh : hasz z n l with
    | true => rw [if_pos rfl]; have := pos_lt hh; exact ⟨by omega, this.2⟩
    | false => rw [hasz, hh] at h; simp at h; rw [if_neg (by decide)]; exact ⟨by omega, h⟩
def idxI (z : Nat → Int) (n : Int) (len : Nat) : Int := if hasz z n len then (posz z n len : Int) else -1
theorem idx_yes {z : Nat → Int} {n : Int} {len : Nat} (h : hasz z n len = true) : idxI z n len = (posz z n len : Int) := if_pos h
theorem idx_no {z : Nat → Int} {n : Int} {len : Nat} (h : hasz z n len = false) : idxI z n len = -1 := by unfold idxI; rw [h]; rfl
/-- Where it stands, or -1: what the program's search answers. -/
theorem index_at (w : World) (a : Option Addr) (len cap : Nat) (z : Nat → Int) (n : Int) (hI : Ints w a len z) (hl : len ≤ 2000000) :
    Calls Tryz.prog 90 #[.slice a len cap, .int .i64 n] w fun e w' => e = .returned (.int .i64 (idxI z n len)) ∧ w = w' := by
  go_enter Tryz.func90, Tryz.ntmps90
  go_wp2
  go_loop [8] (fun i => ∃ k : Nat, k ≤ len ∧ i = .int .i64 k ∧ hasz z n k = false) (fun i => len - (intOf i).toNat)
  case atStart => exact ⟨0, by omega, rfl, rfl⟩
  case round =>
    obtain ⟨k, hk, rfl, hz⟩ := hrel
    have HZ := Lib.hid hz; clear hz
    by_cases hlt : k < len
    · rcases hI with h | ⟨b, off, rfl, hb, hc⟩
      · omega
      have hcx := hc k hlt
      clear hc
      by_cases he : z k = n
      · have HR := Lib.hid (show idxI z n len = (k : Int) by rw [idx_yes (hasz_yes hlt he), pos_at hlt HZ.out he])
        have ht : (n == z k) = true := by simpa using he.symm
        clear he
        go_wp2
        go_ret
        exact ⟨ret_i HR.out.symm, rfl⟩
      · have HR := Lib.hid (hasz_next HZ.out he)
        have ht : (n == z k) = false := by simpa using fun h => he h.symm
        clear he
        go_wp2
        go_round
        case rel => exact ⟨k + 1, by omega, by go_num, HR.out⟩
        case measure => simp [intOf]; omega
    · obtain rfl : k = len := by omega
      have HR := Lib.hid (idx_no HZ.out)
      clear hI
      go_wp2
      go_ret
      exact ⟨ret_i HR.out.symm, rfl⟩

/-- Are they all members? -/
def mbz (many : Int) (z : Nat → Int) : Nat → Bool
  | 0 => true
  | k + 1 => mbz many z k && mbF many (z k)
theorem mbz_iff {many : Int} {z : Nat → Int} {n : Nat} : mbz many z n = true ↔ ∀ j, j < n → mbF many (z j) = true := by
  induction n with
  | zero => simp [mbz]
  | succ n ih =>
    simp only [mbz, Bool.and_eq_true, ih]
    exact ⟨fun h j hj => by rcases Nat.lt_or_ge j n with h' | h'; exact h.1 j h'; obtain rfl : j = n := by omega
                            exact h.2, fun h => ⟨fun j hj => h j (by omega), h n (by omega)⟩⟩
theorem mbz_no {many : Int} {z : Nat → Int} {n k : Nat} (hk : k < n) (h : mbF many (z k) = false) : mbz many z n = false := by
  cases h' : mbz many z n with
  | false => rfl
  | true => rw [mbz_iff.1 h' k hk] at h; cases h
theorem mbz_next {many : Int} {z : Nat → Int} {k : Nat} (h : mbz many z k = true) (hf : mbF many (z k) = true) : mbz many z (k + 1) = true := by simp [mbz, h, hf]
/-- May they sign? -/
def crw (need many : Int) (n : Nat) (z : Nat → Int) : Bool := decide (need ≤ (n : Int)) && (upz z n && mbz many z n)
theorem crw_iff {need many : Int} {n : Nat} {z : Nat → Int} : crw need many n z = true ↔ need ≤ (n : Int) ∧ upz z n = true ∧ mbz many z n = true := by simp [crw]
theorem crw_not {need many : Int} {n : Nat} {z : Nat → Int} (h : ¬ (need ≤ (n : Int) ∧ upz z n = true ∧ mbz many z n = true)) : crw need many n z = false := by
  cases hh : crw need many n z with
  | false => rfl
  | true => exact absurd (crw_iff.1 hh) h
theorem up_lt {z : Nat → Int} {n : Nat} (hu : upz z n = true) : ∀ {i j : Nat}, i < j → j < n → z i < z j := by
  intro i j hij hj
  induction j with
  | zero => omega
  | succ j ih =>
    have h1 : z j < z (j + 1) := by
      have h := upz_iff.1 hu (j + 1) hj
      simp at h
      exact h
    rcases (by omega : i < j ∨ i = j) with h2 | rfl
    · have := ih h2 (by omega); omega
    · exact h1
theorem up_ne {z : Nat → Int} {n : Nat} (hu : upz z n = true) : ∀ i j, i < n → j < n → i ≠ j → z i ≠ z j := fun i j hi hj hne => by
  rcases (by omega : i < j ∨ j < i) with h | h
  · have := up_lt hu h hj; omega
  · have := up_lt hu h hi; omega
theorem cr_len {many : Int} {z : Nat → Int} {n : Nat} (hm : many ≤ 5) (hu : upz z n = true) (hb : mbz many z n = true) : n ≤ 5 :=
  up_len (dmz_iff.2 fun j hj => dmk_iff.2 (by have := mb_iff.1 (mbz_iff.1 hb j hj); omega)) hu
theorem cr_fok {many : Int} {z : Nat → Int} {n : Nat} (hm : many ≤ 5) (hb : mbz many z n = true) : ∀ j, j < n → fok (z j) = true := fun j hj => by
  have := mb_iff.1 (mbz_iff.1 hb j hj); exact fok_iff.2 (by omega)
theorem cr_plok {many : Int} {z : Nat → Int} {n : Nat} (hm : many ≤ 5) (hu : upz z n = true) (hb : mbz many z n = true) : plok n z = true :=
  plok_iff.2 ⟨cr_len hm hu hb, fun j hj => ⟨cr_fok hm hb j hj, hasz_no.2 fun i hi => up_ne hu i j (by omega) hj (by omega)⟩⟩

theorem iclos (w : World) (B : Nat) (need many : Int) (s1 s2 : Value) (m : Int) (hK : Ky w B need many s1 s2) :
    Calls Tryz.prog 50 #[.int .i64 m, .pointer (some ⟨B, 0, none⟩)] w fun e w' => e = .returned (.bool (mbF many m)) ∧ w.grownBy w' none := by
  obtain ⟨_, k0, k1, k2, k3⟩ := hK
  have G := Lib.hid (Draw.grown_refl w none)
  go_enter Tryz.func50, Tryz.ntmps50
  go_wp2_with fail
  refine (imem _ need many _ _ m).mono ?_
  rintro e w1 ⟨rfl, hg⟩
  replace G := Lib.hid (gtr G.out hg)
  clear hg
  go_wp2
  go_ret
  exact ⟨rfl, G.out⟩
theorem iall_m (w : World) (a : Option Addr) (len cap : Nat) (z : Nat → Int) (B : Nat) (need many : Int) (s1 s2 : Value) (hI : Ints w a len z) (hl : len ≤ 2000000) (hK : Ky w B need many s1 s2) :
    Calls Tryz.prog 47 #[.slice a len cap, .func (.func 50) #[] #[.pointer (some ⟨B, 0, none⟩)]] w fun e w' => e = .returned (.bool (mbz many z len)) ∧ w.grownBy w' none := by
  have HI := Lib.hid hI; have HK := Lib.hid hK; clear hI hK
  go_enter Tryz.func47, Tryz.ntmps47
  go_wp2
  go_loopw [9] (fun i wr => ∃ k : Nat, k ≤ len ∧ i = .int .i64 k ∧ mbz many z k = true ∧ w.grownBy wr none) (fun i _ => len - (intOf i).toNat)
  case atStart => exact ⟨0, by omega, rfl, rfl, Draw.grown_refl _ _⟩
  case round =>
    obtain ⟨k, hk, rfl, hz, hg⟩ := hrel
    have HZ := Lib.hid hz; have G := Lib.hid hg
    have hK := HK.out.kept hg
    by_cases hlt : k < len
    · rcases HI.out.kept hg with h | ⟨b, off, rfl, hb, hc⟩
      · omega
      have hcx := hc k hlt
      have HKy := Lib.hid hK
      clear hc hz hg hK
      cases hf : mbF many (z k) with
      | false =>
        have HR := Lib.hid (mbz_no hlt hf)
        have HF := Lib.hid hf; clear hf
        go_wp2_with (go_at_call 50; refine (iclos _ B need many s1 s2 _ HKy.out).mono ?_; rintro e w' ⟨rfl, hg⟩; rw [HF.out]; have G2 := Lib.hid (gtr G.out hg); clear hg)
        go_ret
        exact ⟨ret_b HR.out.symm, G2.out⟩
      | true =>
        have HR := Lib.hid (mbz_next HZ.out hf)
        have HF := Lib.hid hf; clear hf
        go_wp2_with (go_at_call 50; refine (iclos _ B need many s1 s2 _ HKy.out).mono ?_; rintro e w' ⟨rfl, hg⟩; rw [HF.out]; have G2 := Lib.hid (gtr G.out hg); clear hg)
        go_roundw
        case rel => exact ⟨k + 1, by omega, by go_num, HR.out, G2.out⟩
        case measure => simp [intOf]; omega
    · obtain rfl : k = len := by omega
      clear hz hg hK
      go_wp2
      go_ret
      exact ⟨ret_b HZ.out.symm, G.out⟩
theorem isigners (w : World) (need many : Int) (s1 s2 : Value) (a : Option Addr) (len cap : Nat) (z : Nat → Int) (hI : Ints w a len z) (hl : len ≤ 2000000) :
    Calls Tryz.prog 27 #[.agg #[.int .i64 need, .int .i64 many, s1, s2], .slice a len cap] w fun e w' => e = .returned (.bool (crw need many len z)) ∧ w.grownBy w' none := by
  have G := Lib.hid (Draw.grown_alloc w (.cells #[.int .i64 need, .int .i64 many, s1, s2] 25) none)
  have I := Lib.hid (hI.kept G.out)
  have K := Lib.hid (Ky.new w need many s1 s2 25)
  clear hI
  go_enter Tryz.func27, Tryz.ntmps27
  obtain ⟨_, k0, k1, k2, k3⟩ := K.out
  by_cases h1 : need ≤ (len : Int)
  case neg =>
    have HN := Lib.hid (crw_not (need := need) (many := many) (n := len) (z := z) (by omega))
    go_wp2
    go_ret
    exact ⟨ret_b HN.out.symm, G.out⟩
  go_wp2_with fail
  refine (iasc _ a len cap z I.out hl).mono ?_
  rintro e w' ⟨rfl, rfl⟩
  cases h2 : upz z len with
  | false =>
    have HN := Lib.hid (crw_not (need := need) (many := many) (n := len) (z := z) (by simp [h2]))
    go_wp2
    go_ret
    exact ⟨ret_b HN.out.symm, G.out⟩
  | true =>
    have HN := Lib.hid (show crw need many len z = mbz many z len by unfold crw; rw [decide_eq_true h1, h2]; rfl)
    go_wp2_with fail
    refine (iall_m _ a len cap z _ need many s1 s2 I.out hl K.out).mono ?_
    rintro e w1 ⟨rfl, hg⟩
    clear k0 k1 k2 k3
    replace G := Lib.hid (gtr G.out hg)
    replace I := Lib.hid (I.out.kept hg)
    replace K := Lib.hid (K.out.kept hg)
    clear hg
    obtain ⟨_, k0, k1, k2, k3⟩ := K.out
    go_wp2
    go_ret
    exact ⟨ret_b HN.out.symm, G.out⟩
end Con
end Go.Proofs.YthbigmcklacbnaaGreatDoor
