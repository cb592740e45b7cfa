/-
  Which keys are valid, what all know of one, and whether a share is a member's: the program's and the model's functions, at every key.
-/
import Derived.Test.YthbigmcklacbnaaDa
import Derived.Test.YthbigmcklacbnaaCe
import Derived.BigQuiet
import Derived.Test.YthbigmcklacbnaaDo
import Derived.Test.YthbigmcklacbnaaMem
namespace Go.Proofs.Ythbigmcklacbnaa
namespace Con
open Go.RowKit Alg Mem
set_option linter.unusedVariables false

/-- May he be a dealer? -/
def dmk (f : Int) : Bool := decide (1 ≤ f ∧ f ≤ 5)
theorem dmk_iff {f : Int} : dmk f = true ↔ 1 ≤ f ∧ f ≤ 5 := by simp [dmk]
theorem dmk_no {f : Int} (h : ¬ (1 ≤ f ∧ f ≤ 5)) : dmk f = false := decide_eq_false h
def dmz (z : Nat → Int) : Nat → Bool
  | 0 => true
  | k + 1 => dmz z k && dmk (z k)
theorem dmz_iff {z : Nat → Int} {n : Nat} : dmz z n = true ↔ ∀ j, j < n → dmk (z j) = true := by
  induction n with
  | zero => simp [dmz]
  | succ n ih =>
    simp only [dmz, Bool.and_eq_true, ih]
    exact ⟨fun h j hj => by rcases Nat.lt_or_ge j n with h' | h'; exact h.1 j h'; obtain rfl : j = n := by omega
                            exact h.2, fun h => ⟨fun j hj => h j (by omega), h n (by omega)⟩⟩
theorem dmz_no {z : Nat → Int} {n k : Nat} (hk : k < n) (h : dmk (z k) = false) : dmz z n = false := by
  cases h' : dmz z n with
  | false => rfl
  | true => rw [dmz_iff.1 h' k hk] at h; cases h
theorem dmz_next {z : Nat → Int} {k : Nat} (h : dmz z k = true) (hf : dmk (z k) = true) : dmz z (k + 1) = true := by simp [dmz, h, hf]
/-- Do they rise? -/
def upz (z : Nat → Int) : Nat → Bool
  | 0 => true
  | k + 1 => upz z k && decide (k = 0 ∨ z (k - 1) < z k)
theorem upz_iff {z : Nat → Int} {n : Nat} : upz z n = true ↔ ∀ j, j < n → j = 0 ∨ z (j - 1) < z j := by
  induction n with
  | zero => simp [upz]
  | succ n ih =>
    simp only [upz, Bool.and_eq_true, ih, decide_eq_true_eq]
    exact ⟨fun h j hj => by rcases Nat.lt_or_ge j n with h' | h'; exact h.1 j h'; obtain rfl : j = n := by omega
                            exact h.2, fun h => ⟨fun j hj => h j (by omega), h n (by omega)⟩⟩
theorem upz_no {z : Nat → Int} {n k : Nat} (hk : k < n) (h0 : k ≠ 0) (h : z k ≤ z (k - 1)) : upz z n = false := by
  cases h' : upz z n with
  | false => rfl
  | true => rcases upz_iff.1 h' k hk with h'' | h'' <;> omega
theorem upz_next {z : Nat → Int} {k : Nat} (h : upz z k = true) (hf : k = 0 ∨ z (k - 1) < z k) : upz z (k + 1) = true := by simp [upz, h, hf]
/-- Is it a key? -/
def kyF (need many : Int) (n1 : Nat) (z1 : Nat → Int) (n2 : Nat) (z2 : Nat → Int) : Bool := crewF need many && decide ((n2 : Int) = need) && cokz n2 z2 && dmz z1 n1 && upz z1 n1
theorem ky_iff {need many : Int} {n1 : Nat} {z1 : Nat → Int} {n2 : Nat} {z2 : Nat → Int} : kyF need many n1 z1 n2 z2 = true ↔ (1 ≤ need ∧ need ≤ many ∧ many ≤ 5) ∧ (n2 : Int) = need ∧ cokz n2 z2 = true ∧ dmz z1 n1 = true ∧ upz z1 n1 = true := by
  unfold kyF; simp only [Bool.and_eq_true, decide_eq_true_eq, crew_iff, and_assoc]
theorem up_len {z : Nat → Int} {n : Nat} (hd : dmz z n = true) (hu : upz z n = true) : n ≤ 5 := by
  have hd := dmz_iff.1 hd
  have hu := upz_iff.1 hu
  have hge : ∀ j, j < n → (j : Int) + 1 ≤ z j := by
    intro j
    induction j with
    | zero => intro hj; have := dmk_iff.1 (hd 0 hj); omega
    | succ j ih => intro hj; have h1 := ih (by omega); have h2 := hu (j + 1) hj; simp at h2; omega
  rcases Nat.lt_or_ge 5 n with h | h
  · have h1 := hge 5 h; have h2 := dmk_iff.1 (hd 5 h); omega
  · exact h
theorem ky_crew {need many : Int} {n1 : Nat} {z1 : Nat → Int} {n2 : Nat} {z2 : Nat → Int} (h : crewF need many = false) : kyF need many n1 z1 n2 z2 = false := by simp [kyF, h]
theorem ky_len {need many : Int} {n1 : Nat} {z1 : Nat → Int} {n2 : Nat} {z2 : Nat → Int} (h : ¬ (n2 : Int) = need) : kyF need many n1 z1 n2 z2 = false := by simp [kyF, h]
theorem ky_com {need many : Int} {n1 : Nat} {z1 : Nat → Int} {n2 : Nat} {z2 : Nat → Int} (h : cokz n2 z2 = false) : kyF need many n1 z1 n2 z2 = false := by simp [kyF, h]
theorem ky_dm {need many : Int} {n1 : Nat} {z1 : Nat → Int} {n2 : Nat} {z2 : Nat → Int} (h : dmz z1 n1 = false) : kyF need many n1 z1 n2 z2 = false := by simp [kyF, h]
theorem ky_up {need many : Int} {n1 : Nat} {z1 : Nat → Int} {n2 : Nat} {z2 : Nat → Int} (h : upz z1 n1 = false) : kyF need many n1 z1 n2 z2 = false := by simp [kyF, h]
theorem ky_yes {need many : Int} {n1 : Nat} {z1 : Nat → Int} {n2 : Nat} {z2 : Nat → Int} (h1 : crewF need many = true) (h2 : (n2 : Int) = need) (h3 : cokz n2 z2 = true) (h4 : dmz z1 n1 = true) (h5 : upz z1 n1 = true) : kyF need many n1 z1 n2 z2 = true := by simp [kyF, h1, h2, h3, h4, h5]

/-- A key that lies in memory. -/
structure Ky (w : World) (b : Nat) (need many : Int) (s1 s2 : Value) : Prop where
  lt : b < w.heap.size
  c0 : w.cell? ⟨b, 0, none⟩ = some (.int .i64 need)
  c1 : w.cell? ⟨b, 1, none⟩ = some (.int .i64 many)
  c2 : w.cell? ⟨b, 2, none⟩ = some s1
  c3 : w.cell? ⟨b, 3, none⟩ = some s2
theorem Ky.new (w : World) (need many : Int) (s1 s2 : Value) (T : TypeId) : Ky (w.alloc (.cells #[.int .i64 need, .int .i64 many, s1, s2] T)) w.heap.size need many s1 s2 := by
  have hb : (w.alloc (.cells #[.int .i64 need, .int .i64 many, s1, s2] T)).heap[w.heap.size]? = some (.cells #[.int .i64 need, .int .i64 many, s1, s2] T) := by show (w.heap.push _)[w.heap.size]? = _; simp
  exact ⟨by show _ < (w.heap.push _).size; simp, by simp only [World.cell?, hb]; rfl, by simp only [World.cell?, hb]; rfl, by simp only [World.cell?, hb]; rfl, by simp only [World.cell?, hb]; rfl⟩
theorem Ky.keptB {w w' : World} {b : Nat} {need many : Int} {s1 s2 : Value} (h : Ky w b need many s1 s2) (hb : w'.heap[b]? = w.heap[b]?) (hs : w.heap.size ≤ w'.heap.size) : Ky w' b need many s1 s2 := by
  exact ⟨Nat.lt_of_lt_of_le h.lt hs, by rw [World.cell?_of_block (w := w) hb]; exact h.c0, by rw [World.cell?_of_block (w := w) hb]; exact h.c1, by rw [World.cell?_of_block (w := w) hb]; exact h.c2, by rw [World.cell?_of_block (w := w) hb]; exact h.c3⟩
theorem Ky.kept {w w' : World} {b : Nat} {need many : Int} {s1 s2 : Value} (h : Ky w b need many s1 s2) (hg : w.grownBy w' none) : Ky w' b need many s1 s2 := h.keptB (hg.block b h.lt (by simp)) hg.size

theorem kdealer (w : World) (f : Int) : Calls Try.prog 117 #[.int .i64 f] w fun e w' => e = .returned (.bool (dmk f)) ∧ w = w' := by
  by_cases h1 : 1 ≤ f
  · by_cases h2 : f ≤ 5
    · have HR := Lib.hid (show dmk f = true from decide_eq_true ⟨h1, h2⟩)
      go_enter Try.func117, Try.ntmps117
      go_wp2
      go_ret
      exact ⟨ret_b HR.out.symm, rfl⟩
    · have HR := Lib.hid (show dmk f = false from decide_eq_false (by omega))
      go_enter Try.func117, Try.ntmps117
      go_wp2
      go_ret
      exact ⟨ret_b HR.out.symm, rfl⟩
  · have HR := Lib.hid (show dmk f = false from decide_eq_false (by omega))
    go_enter Try.func117, Try.ntmps117
    go_wp2
    go_ret
    exact ⟨ret_b HR.out.symm, rfl⟩
theorem iall_d (w : World) (a : Option Addr) (len cap : Nat) (z : Nat → Int) (hI : Ints w a len z) (hl : len ≤ 2000000) :
    Calls Try.prog 116 #[.slice a len cap, .func (.func 117) #[] #[]] w fun e w' => e = .returned (.bool (dmz z len)) ∧ w = w' := by
  go_enter Try.func116, Try.ntmps116
  go_wp2
  go_loop [9] (fun i => ∃ k : Nat, k ≤ len ∧ i = .int .i64 k ∧ dmz z k = true) (fun i => len - (intOf i).toNat)
  case atStart => exact ⟨0, by omega, rfl, rfl⟩
  case round =>
    obtain ⟨k, hk, rfl, hz⟩ := hrel
    have HZ := Lib.hid hz; clear hz
    by_cases hlt : k < len
    · rcases hI with h | ⟨b, off, rfl, hb, hc⟩
      · omega
      have hcx := hc k hlt
      clear hc
      cases hf : dmk (z k) with
      | false =>
        have HR := Lib.hid (dmz_no hlt hf)
        have HF := Lib.hid hf; clear hf
        go_wp2_with (go_at_call 117; refine (kdealer _ _).mono ?_; rintro e w' ⟨rfl, rfl⟩; rw [HF.out])
        go_ret
        exact ⟨ret_b HR.out.symm, rfl⟩
      | true =>
        have HR := Lib.hid (dmz_next HZ.out hf)
        have HF := Lib.hid hf; clear hf
        go_wp2_with (go_at_call 117; refine (kdealer _ _).mono ?_; rintro e w' ⟨rfl, rfl⟩; rw [HF.out])
        go_round
        case rel => exact ⟨k + 1, by omega, by go_num, HR.out⟩
        case measure => simp [intOf]; omega
    · obtain rfl : k = len := by omega
      clear hI
      go_wp2
      go_ret
      exact ⟨ret_b HZ.out.symm, rfl⟩
theorem iasc (w : World) (a : Option Addr) (len cap : Nat) (z : Nat → Int) (hI : Ints w a len z) (hl : len ≤ 2000000) :
    Calls Try.prog 118 #[.slice a len cap] w fun e w' => e = .returned (.bool (upz z len)) ∧ w = w' := by
  go_enter Try.func118, Try.ntmps118
  go_wp2
  go_loop [7] (fun i => ∃ k : Nat, k ≤ len ∧ i = .int .i64 k ∧ upz z k = true) (fun i => len - (intOf i).toNat)
  case atStart => exact ⟨0, by omega, rfl, rfl⟩
  case round =>
    obtain ⟨k, hk, rfl, hz⟩ := hrel
    have HZ := Lib.hid hz; clear hz
    by_cases hlt : k < len
    · rcases hI with h | ⟨b, off, rfl, hb, hc⟩
      · omega
      have hcx := hc k hlt
      by_cases h0 : k = 0
      · subst h0
        clear hc
        rw [Nat.add_zero] at hcx
        have HR := Lib.hid (upz_next HZ.out (.inl rfl))
        go_wp2
        go_round
        case rel => exact ⟨0 + 1, by omega, by go_num, HR.out⟩
        case measure => simp [intOf]; omega
      · obtain ⟨j, rfl⟩ : ∃ j, k = j + 1 := ⟨k - 1, by omega⟩
        have hcy := hc j (by omega)
        clear hc
        have hpos : (0 : Int) < ((j + 1 : Nat) : Int) := by omega
        have hsub : (((j + 1 : Nat) : Int) - 1) = (j : Int) := by omega
        by_cases hle : z (j + 1) ≤ z j
        · have HR := Lib.hid (upz_no (z := z) hlt (by omega) (by simpa using hle))
          go_wp2
          go_ret
          exact ⟨ret_b HR.out.symm, rfl⟩
        · have HR := Lib.hid (upz_next HZ.out (.inr (by simp; omega)))
          go_wp2
          go_round
          case rel => exact ⟨j + 1 + 1, by omega, by go_num, HR.out⟩
          case measure => simp [intOf]; omega
    · obtain rfl : k = len := by omega
      clear hI
      go_wp2
      go_ret
      exact ⟨ret_b HZ.out.symm, rfl⟩
end Con
end Go.Proofs.Ythbigmcklacbnaa
/-
  Which keys are valid, what all know of one, and whether a share is a member's: the functions whole.
-/

namespace Go.Proofs.Ythbigmcklacbnaa
namespace Con
open Go.RowKit Alg Mem
set_option linter.unusedVariables false

theorem ikeyok (w : World) (need many : Int) (a1 : Option Addr) (n1 c1 : Nat) (z1 : Nat → Int) (a2 : Option Addr) (n2 c2 : Nat) (z2 : Nat → Int) (hA : Ints w a1 n1 z1) (hB : Ints w a2 n2 z2) (hl1 : n1 ≤ 2000000) (hl2 : n2 ≤ 2000000) :
    Calls Try.prog 103 #[.agg #[.int .i64 need, .int .i64 many, .slice a1 n1 c1, .slice a2 n2 c2]] w fun e w' => e = .returned (.bool (kyF need many n1 z1 n2 z2)) ∧ w.grownBy w' none := by
  have HG0 := Lib.hid (Draw.grown_alloc w (.cells #[.int .i64 need, .int .i64 many, .slice a1 n1 c1, .slice a2 n2 c2] 63) none)
  have HA := Lib.hid (hA.kept HG0.out); have HB := Lib.hid (hB.kept HG0.out); clear hA hB
  have HD := Lib.hid (Ky.new w need many (.slice a1 n1 c1) (.slice a2 n2 c2) 63)
  cases hc : crewF need many with
  | false =>
    have HR := Lib.hid (ky_crew (n1 := n1) (z1 := z1) (n2 := n2) (z2 := z2) hc)
    go_enter Try.func103, Try.ntmps103
    go_wp2_with fail
    refine (icrew _ _ _).mono ?_
    rintro e w' ⟨rfl, rfl⟩
    rw [hc]
    go_wp2
    go_ret
    exact ⟨ret_b HR.out.symm, HG0.out⟩
  | true =>
    by_cases hn : (n2 : Int) = need
    · cases hk : cokz n2 z2 with
      | false =>
        have HR := Lib.hid (ky_com (need := need) (many := many) (n1 := n1) (z1 := z1) hk)
        have hn' : ((n2 : Int) == need) = true := by simpa using hn
        clear hn
        go_enter Try.func103, Try.ntmps103
        go_wp2_with fail
        refine (icrew _ _ _).mono ?_
        rintro e w' ⟨rfl, rfl⟩
        rw [hc]
        go_wp2_with fail
        refine (icok _ _ _ _ z2 HB.out (by omega)).mono ?_
        rintro e w1 ⟨rfl, hg⟩
        have HG := Lib.hid (gtr HG0.out hg); have HA1 := Lib.hid (HA.out.kept hg); have HD1 := Lib.hid (HD.out.kept hg); clear hg
        rw [hk]
        obtain ⟨_, k0, k1, k2, k3⟩ := HD1.out
        go_wp2
        go_ret
        exact ⟨ret_b HR.out.symm, HG.out⟩
      | true =>
        cases hd : dmz z1 n1 with
        | false =>
          have HR := Lib.hid (ky_dm (need := need) (many := many) (n2 := n2) (z2 := z2) hd)
          have hn' : ((n2 : Int) == need) = true := by simpa using hn
          clear hn
          go_enter Try.func103, Try.ntmps103
          go_wp2_with fail
          refine (icrew _ _ _).mono ?_
          rintro e w' ⟨rfl, rfl⟩
          rw [hc]
          go_wp2_with fail
          refine (icok _ _ _ _ z2 HB.out (by omega)).mono ?_
          rintro e w1 ⟨rfl, hg⟩
          have HG := Lib.hid (gtr HG0.out hg); have HA1 := Lib.hid (HA.out.kept hg); have HD1 := Lib.hid (HD.out.kept hg); clear hg
          rw [hk]
          obtain ⟨_, k0, k1, k2, k3⟩ := HD1.out
          go_wp2_with fail
          refine (iall_d _ _ _ _ z1 HA1.out (by omega)).mono ?_
          rintro e w' ⟨rfl, rfl⟩
          rw [hd]
          go_wp2
          go_ret
          exact ⟨ret_b HR.out.symm, HG.out⟩
        | true =>
          cases hu : upz z1 n1 with
          | false =>
            have HR := Lib.hid (ky_up (need := need) (many := many) (n2 := n2) (z2 := z2) hu)
            have hn' : ((n2 : Int) == need) = true := by simpa using hn
            clear hn
            go_enter Try.func103, Try.ntmps103
            go_wp2_with fail
            refine (icrew _ _ _).mono ?_
            rintro e w' ⟨rfl, rfl⟩
            rw [hc]
            go_wp2_with fail
            refine (icok _ _ _ _ z2 HB.out (by omega)).mono ?_
            rintro e w1 ⟨rfl, hg⟩
            have HG := Lib.hid (gtr HG0.out hg); have HA1 := Lib.hid (HA.out.kept hg); have HD1 := Lib.hid (HD.out.kept hg); clear hg
            rw [hk]
            obtain ⟨_, k0, k1, k2, k3⟩ := HD1.out
            go_wp2_with fail
            refine (iall_d _ _ _ _ z1 HA1.out (by omega)).mono ?_
            rintro e w' ⟨rfl, rfl⟩
            rw [hd]
            go_wp2_with fail
            refine (iasc _ _ _ _ z1 HA1.out (by omega)).mono ?_
            rintro e w' ⟨rfl, rfl⟩
            rw [hu]
            go_wp2
            go_ret
            exact ⟨ret_b HR.out.symm, HG.out⟩
          | true =>
            have HR := Lib.hid (ky_yes hc hn hk hd hu)
            have hn' : ((n2 : Int) == need) = true := by simpa using hn
            clear hn
            go_enter Try.func103, Try.ntmps103
            go_wp2_with fail
            refine (icrew _ _ _).mono ?_
            rintro e w' ⟨rfl, rfl⟩
            rw [hc]
            go_wp2_with fail
            refine (icok _ _ _ _ z2 HB.out (by omega)).mono ?_
            rintro e w1 ⟨rfl, hg⟩
            have HG := Lib.hid (gtr HG0.out hg); have HA1 := Lib.hid (HA.out.kept hg); have HD1 := Lib.hid (HD.out.kept hg); clear hg
            rw [hk]
            obtain ⟨_, k0, k1, k2, k3⟩ := HD1.out
            go_wp2_with fail
            refine (iall_d _ _ _ _ z1 HA1.out (by omega)).mono ?_
            rintro e w' ⟨rfl, rfl⟩
            rw [hd]
            go_wp2_with fail
            refine (iasc _ _ _ _ z1 HA1.out (by omega)).mono ?_
            rintro e w' ⟨rfl, rfl⟩
            rw [hu]
            go_wp2
            go_ret
            exact ⟨ret_b HR.out.symm, HG.out⟩
    · have HR := Lib.hid (ky_len (many := many) (n1 := n1) (z1 := z1) (z2 := z2) hn)
      have hn' : ((n2 : Int) == need) = false := by simpa using hn
      clear hn
      go_enter Try.func103, Try.ntmps103
      go_wp2_with fail
      refine (icrew _ _ _).mono ?_
      rintro e w' ⟨rfl, rfl⟩
      rw [hc]
      go_wp2
      go_ret
      exact ⟨ret_b HR.out.symm, HG0.out⟩

/-- What all know of a key. -/
def kpub (need many : Int) (n1 : Nat) (z1 : Nat → Int) (n2 : Nat) (z2 : Nat → Int) : Int := if kyF need many n1 z1 n2 z2 then z2 0 else 0
theorem kpub_no {need many : Int} {n1 : Nat} {z1 : Nat → Int} {n2 : Nat} {z2 : Nat → Int} (h : kyF need many n1 z1 n2 z2 = false) : kpub need many n1 z1 n2 z2 = 0 := by simp [kpub, h]
theorem kpub_yes {need many : Int} {n1 : Nat} {z1 : Nat → Int} {n2 : Nat} {z2 : Nat → Int} (h : kyF need many n1 z1 n2 z2 = true) : kpub need many n1 z1 n2 z2 = z2 0 := by simp [kpub, h]
/-- Is he a member? -/
def mbF (many m : Int) : Bool := decide (1 ≤ m ∧ m ≤ many)
theorem mb_iff {many m : Int} : mbF many m = true ↔ 1 ≤ m ∧ m ≤ many := by simp [mbF]
theorem imem (w : World) (need many : Int) (s1 s2 : Value) (m : Int) :
    Calls Try.prog 120 #[.agg #[.int .i64 need, .int .i64 many, s1, s2], .int .i64 m] w fun e w' => e = .returned (.bool (mbF many m)) ∧ w.grownBy w' none := by
  have HD := Lib.hid (Ky.new w need many s1 s2 63)
  obtain ⟨_, k0, k1, k2, k3⟩ := HD.out
  by_cases h1 : 1 ≤ m
  · by_cases h2 : m ≤ many
    · have HR := Lib.hid (show mbF many m = true from decide_eq_true ⟨h1, h2⟩)
      go_enter Try.func120, Try.ntmps120
      go_wp2
      go_ret
      exact ⟨ret_b HR.out.symm, Draw.grown_alloc _ _ _⟩
    · have HR := Lib.hid (show mbF many m = false from decide_eq_false (by omega))
      go_enter Try.func120, Try.ntmps120
      go_wp2
      go_ret
      exact ⟨ret_b HR.out.symm, Draw.grown_alloc _ _ _⟩
  · have HR := Lib.hid (show mbF many m = false from decide_eq_false (by omega))
    go_enter Try.func120, Try.ntmps120
    go_wp2
    go_ret
    exact ⟨ret_b HR.out.symm, Draw.grown_alloc _ _ _⟩
/-- Is the share the member's? -/
def kfit (need many : Int) (n1 : Nat) (z1 : Nat → Int) (n2 : Nat) (z2 : Nat → Int) (m s : Int) : Bool := kyF need many n1 z1 n2 z2 && mbF many m && cfz n2 z2 m s
theorem kfit_k {need many : Int} {n1 : Nat} {z1 : Nat → Int} {n2 : Nat} {z2 : Nat → Int} {m s : Int} (h : kyF need many n1 z1 n2 z2 = false) : kfit need many n1 z1 n2 z2 m s = false := by simp [kfit, h]
theorem kfit_m {need many : Int} {n1 : Nat} {z1 : Nat → Int} {n2 : Nat} {z2 : Nat → Int} {m s : Int} (h : mbF many m = false) : kfit need many n1 z1 n2 z2 m s = false := by simp [kfit, h]
theorem kfit_y {need many : Int} {n1 : Nat} {z1 : Nat → Int} {n2 : Nat} {z2 : Nat → Int} {m s : Int} (h : kyF need many n1 z1 n2 z2 = true) (h2 : mbF many m = true) : kfit need many n1 z1 n2 z2 m s = cfz n2 z2 m s := by simp [kfit, h, h2]
theorem cfz_nof {len : Nat} {z : Nat → Int} {x n : Int} (h : fok n = false) : cfz len z x n = false := by simp [cfz, h]
/-- The model's test of a key. -/
theorem skeyok (w : World) (need many : Int) (a1 : Option Addr) (n1 c1 : Nat) (z1 : Nat → Int) (a2 : Option Addr) (n2 c2 : Nat) (z2 : Nat → Int) (hA : Ints w a1 n1 z1) (hB : Ints w a2 n2 z2) (hl1 : n1 ≤ 2000000) (hl2 : n2 ≤ 2000000) :
    Calls Try.prog 99 #[.agg #[.int .i64 need, .int .i64 many, .slice a1 n1 c1, .slice a2 n2 c2]] w fun e w' => e = .returned (.bool (kyF need many n1 z1 n2 z2)) ∧ w.grownBy w' none := by
  have HG0 := Lib.hid (Draw.grown_alloc w (.cells #[.int .i64 need, .int .i64 many, .slice a1 n1 c1, .slice a2 n2 c2] 63) none)
  have HA := Lib.hid (hA.kept HG0.out); have HB := Lib.hid (hB.kept HG0.out); clear hA hB
  have HD := Lib.hid (Ky.new w need many (.slice a1 n1 c1) (.slice a2 n2 c2) 63)
  go_enter Try.func99, Try.ntmps99
  go_wp2
  go_loopw [3] (fun i wr => ∃ k : Nat, k ≤ n1 ∧ i = .int .i64 k ∧ dmz z1 k = true ∧ upz z1 k = true ∧ (w.alloc (.cells #[.int .i64 need, .int .i64 many, .slice a1 n1 c1, .slice a2 n2 c2] 63)).grownBy wr none) (fun i _ => n1 - (intOf i).toNat)
  case atStart => exact ⟨0, by omega, rfl, rfl, rfl, Draw.grown_refl _ _⟩
  case round =>
    obtain ⟨k, hk, rfl, hz, hu, hg⟩ := hrel
    have HZ := Lib.hid hz; have HU := Lib.hid hu; have HGr := Lib.hid hg; clear hz hu hg
    have HD1 := Lib.hid (HD.out.kept HGr.out)
    obtain ⟨_, k0, k1, k2, k3⟩ := HD1.out
    by_cases hlt : k < n1
    · obtain ⟨b, off, rfl, hb, hcc⟩ := (HA.out.kept HGr.out).ptr (by omega)
      have hcx := hcc k hlt
      cases hd : dmk (z1 k) with
      | false =>
        have HR := Lib.hid (ky_dm (need := need) (many := many) (n2 := n2) (z2 := z2) (dmz_no hlt hd))
        have HN := Lib.hid (show ¬ (1 ≤ z1 k ∧ z1 k ≤ 5) from fun h => by rw [dmk_iff.2 h] at hd; cases hd)
        clear hcc hd
        go_wp2_with fail
        go_quiet (first | (go_at_call 71; refine Calls.quiet_of_same ((s6in_no _ _ _ _ HN.out).mono fun _ _ h => ⟨h.1, h.2.symm⟩)))
        go_wp2
        go_ret
        exact ⟨ret_b HR.out.symm, gtr HG0.out ⟨HGr.out.os, HGr.out.tape, HGr.out.output, HGr.out.size, HGr.out.block⟩⟩
      | true =>
        have HZ1 := Lib.hid (dmz_next HZ.out hd)
        obtain ⟨q1, q2⟩ := dmk_iff.1 hd
        clear hd
        by_cases h0 : k = 0
        · subst h0
          clear hcc
          rw [Nat.add_zero] at hcx
          have HU1 := Lib.hid (upz_next HU.out (.inl rfl))
          have hz0 : ¬ (0 : Int) < ((0 : Nat) : Int) := by omega
          go_wp2_with fail
          go_quiet (first | (go_at_call 71; refine Calls.quiet_of_same ((s6in_yes _ _ _ _ q1 q2).mono fun _ _ h => ⟨h.1, h.2.symm⟩)))
          go_wp2
          go_roundw
          case rel => exact ⟨0 + 1, by omega, by go_num, HZ1.out, HU1.out, ⟨HGr.out.os, HGr.out.tape, HGr.out.output, HGr.out.size, HGr.out.block⟩⟩
          case measure => simp [intOf]; omega
        · obtain ⟨j, rfl⟩ : ∃ j, k = j + 1 := ⟨k - 1, by omega⟩
          have hcy := hcc j (by omega)
          clear hcc
          have hpos : (0 : Int) < ((j + 1 : Nat) : Int) := by omega
          have hsub : (((j + 1 : Nat) : Int) - 1) = (j : Int) := by omega
          by_cases hle : z1 (j + 1) ≤ z1 j
          · have HR := Lib.hid (ky_up (need := need) (many := many) (n2 := n2) (z2 := z2) (upz_no (z := z1) hlt (by omega) (by simpa using hle)))
            go_wp2_with fail
            go_quiet (first | (go_at_call 71; refine Calls.quiet_of_same ((s6in_yes _ _ _ _ q1 q2).mono fun _ _ h => ⟨h.1, h.2.symm⟩)))
            go_wp2
            go_ret
            exact ⟨ret_b HR.out.symm, gtr HG0.out ⟨HGr.out.os, HGr.out.tape, HGr.out.output, HGr.out.size, HGr.out.block⟩⟩
          · have HU1 := Lib.hid (upz_next HU.out (.inr (by simp; omega)))
            go_wp2_with fail
            go_quiet (first | (go_at_call 71; refine Calls.quiet_of_same ((s6in_yes _ _ _ _ q1 q2).mono fun _ _ h => ⟨h.1, h.2.symm⟩)))
            go_wp2
            go_roundw
            case rel => exact ⟨j + 1 + 1, by omega, by go_num, HZ1.out, HU1.out, ⟨HGr.out.os, HGr.out.tape, HGr.out.output, HGr.out.size, HGr.out.block⟩⟩
            case measure => simp [intOf]; omega
    · obtain rfl : k = n1 := by omega
      have HB1 := Lib.hid (HB.out.kept HGr.out)
      have HE := Lib.hid (gtr HG0.out HGr.out)
      cases hc : crewF need many with
      | false =>
        have HR := Lib.hid (ky_crew (n1 := k) (z1 := z1) (n2 := n2) (z2 := z2) hc)
        go_wp2_with fail
        refine (screw _ _ _).mono ?_
        rintro e w' ⟨rfl, rfl⟩
        rw [hc]
        go_wp2
        go_ret
        exact ⟨ret_b HR.out.symm, HE.out⟩
      | true =>
        cases hq : cokz n2 z2 with
        | false =>
          have HR := Lib.hid (ky_com (need := need) (many := many) (n1 := k) (z1 := z1) hq)
          go_wp2_with fail
          refine (screw _ _ _).mono ?_
          rintro e w' ⟨rfl, rfl⟩
          rw [hc]
          go_wp2_with fail
          refine (scok _ _ _ _ z2 HB1.out (by omega)).mono ?_
          rintro e w' ⟨rfl, rfl⟩
          rw [hq]
          go_wp2
          go_ret
          exact ⟨ret_b HR.out.symm, HE.out⟩
        | true =>
          by_cases hn : (n2 : Int) = need
          · have HR := Lib.hid (ky_yes hc hn hq HZ.out HU.out)
            have hn' : ((n2 : Int) == need) = true := by simpa using hn
            clear hn
            go_wp2_with fail
            refine (screw _ _ _).mono ?_
            rintro e w' ⟨rfl, rfl⟩
            rw [hc]
            go_wp2_with fail
            refine (scok _ _ _ _ z2 HB1.out (by omega)).mono ?_
            rintro e w' ⟨rfl, rfl⟩
            rw [hq]
            go_wp2
            go_ret
            exact ⟨ret_b HR.out.symm, HE.out⟩
          · have HR := Lib.hid (ky_len (many := many) (n1 := k) (z1 := z1) (z2 := z2) hn)
            have hn' : ((n2 : Int) == need) = false := by simpa using hn
            clear hn
            go_wp2_with fail
            refine (screw _ _ _).mono ?_
            rintro e w' ⟨rfl, rfl⟩
            rw [hc]
            go_wp2_with fail
            refine (scok _ _ _ _ z2 HB1.out (by omega)).mono ?_
            rintro e w' ⟨rfl, rfl⟩
            rw [hq]
            go_wp2
            go_ret
            exact ⟨ret_b HR.out.symm, HE.out⟩
end Con
end Go.Proofs.Ythbigmcklacbnaa
/-
  The words of the exact laws that take a key: its size, the key anew, whether two keys read alike.
-/

namespace Go.Proofs.Ythbigmcklacbnaa
namespace Con
open Go.RowKit Alg Mem
set_option linter.unusedVariables false

theorem szkey_yes (w : World) (need many : Int) (a1 : Option Addr) (n1 c1 : Nat) (a2 : Option Addr) (n2 c2 : Nat) (left : Int) (h1 : left ≤ 2000000) (hl : (n1 : Int) + (n2 : Int) ≤ left) :
    Calls Try.prog 44 #[.agg #[.int .i64 need, .int .i64 many, .slice a1 n1 c1, .slice a2 n2 c2], .int .i64 left] w fun e w' => e = .returned (.int .i64 (left - (n1 : Int) - (n2 : Int))) ∧ w.grownBy w' none := by
  have hx : ¬ left < (n1 : Int) := by omega
  have hx' : ¬ left - (n1 : Int) < 0 := by omega
  have hy : ¬ left - (n1 : Int) < (n2 : Int) := by omega
  have hy' : ¬ left - (n1 : Int) - (n2 : Int) < 0 := by omega
  go_enter Try.func44, Try.ntmps44
  go_wp2_with fail
  refine (szint_yes _ a1 n1 c1 left (by omega) (by omega)).mono ?_
  rintro e w' ⟨rfl, rfl⟩
  go_wp2_with fail
  refine (szint_yes _ a2 n2 c2 (left - (n1 : Int)) (by omega) (by omega)).mono ?_
  rintro e w' ⟨rfl, rfl⟩
  go_wp2
  go_ret
  exact ⟨rfl, Draw.grown_alloc _ _ _⟩
theorem szkey_no (w : World) (need many : Int) (a1 : Option Addr) (n1 c1 : Nat) (a2 : Option Addr) (n2 c2 : Nat) (left : Int) (h0 : 0 ≤ left) (h1 : left ≤ 2000000) (hn1 : n1 ≤ maxLen) (hn2 : n2 ≤ maxLen) (hl : left < (n1 : Int) + (n2 : Int)) :
    Calls Try.prog 44 #[.agg #[.int .i64 need, .int .i64 many, .slice a1 n1 c1, .slice a2 n2 c2], .int .i64 left] w fun e w' => e = .returned (.int .i64 (-1)) ∧ w.grownBy w' none := by
  by_cases hx : left < (n1 : Int)
  · go_enter Try.func44, Try.ntmps44
    go_wp2_with fail
    refine (szint_no _ a1 n1 c1 left (by omega) (by omega) hn1 hx).mono ?_
    rintro e w' ⟨rfl, rfl⟩
    go_wp2
    go_ret
    exact ⟨rfl, Draw.grown_alloc _ _ _⟩
  · have hx' : ¬ left - (n1 : Int) < 0 := by omega
    have hy : left - (n1 : Int) < (n2 : Int) := by omega
    go_enter Try.func44, Try.ntmps44
    go_wp2_with fail
    refine (szint_yes _ a1 n1 c1 left (by omega) (by omega)).mono ?_
    rintro e w' ⟨rfl, rfl⟩
    go_wp2_with fail
    refine (szint_no _ a2 n2 c2 (left - (n1 : Int)) (by omega) (by omega) hn2 (by omega)).mono ?_
    rintro e w' ⟨rfl, rfl⟩
    go_wp2
    go_ret
    exact ⟨rfl, Draw.grown_alloc _ _ _⟩
/-- What all four cells of a key in memory hold, and that they may be written. -/
structure Blk4 (w : World) (b : Nat) (v0 v1 v2 v3 : Value) : Prop where
  c0 : w.cell? ⟨b, 0, none⟩ = some v0
  c1 : w.cell? ⟨b, 1, none⟩ = some v1
  c2 : w.cell? ⟨b, 2, none⟩ = some v2
  c3 : w.cell? ⟨b, 3, none⟩ = some v3
  f0 : w.frozen? ⟨b, 0, none⟩ = false
  f1 : w.frozen? ⟨b, 1, none⟩ = false
  f2 : w.frozen? ⟨b, 2, none⟩ = false
  f3 : w.frozen? ⟨b, 3, none⟩ = false
theorem Blk.all4 {w : World} {b : Nat} {v0 v1 v2 v3 : Value} {T : TypeId} (h : Blk w b #[v0, v1, v2, v3] T) : Blk4 w b v0 v1 v2 v3 := ⟨h.cell 0, h.cell 1, h.cell 2, h.cell 3, h.free 0, h.free 1, h.free 2, h.free 3⟩
theorem Blk.ky {w : World} {b : Nat} {need many : Int} {s1 s2 : Value} {T : TypeId} (h : Blk w b #[.int .i64 need, .int .i64 many, s1, s2] T) : Ky w b need many s1 s2 := ⟨h.lt, h.cell 0, h.cell 1, h.cell 2, h.cell 3⟩
theorem size_key : (Try.prog.info? 63).map (·.size) = some 4 := by kernel_rfl
theorem ret_key {fn : Func} {p : Tmp} (h : fn.results = #[.cell p 63]) (tmps : Array Value) {w : World} {b : Nat} {v0 v1 v2 v3 : Value} {T : TypeId} (hp : tmps.getD p undef = .pointer (some ⟨b, 0, none⟩)) (hb : Blk w b #[v0, v1, v2, v3] T) :
    (results fn tmps).run Try.prog w = .ok (.agg #[v0, v1, v2, v3]) w :=
  results_cell_row h tmps w b T #[v0, v1, v2, v3] (0, 0) _ hp hb Try.underlying63 rfl size_key
/-- A key of the call's own: two rows, one ahead of the other. -/
def KeyO (w : World) (need many : Int) (n1 : Nat) (z1 : Nat → Int) (n2 : Nat) (z2 : Nat → Int) (e : Ending) (w' : World) : Prop :=
  ∃ b1 b2 : Nat, e = .returned (.agg #[.int .i64 need, .int .i64 many, .slice (some ⟨b1, 0, none⟩) n1 n1, .slice (some ⟨b2, 0, none⟩) n2 n2]) ∧ b1 < b2 ∧ Row w' w.heap.size 3 b1 n1 n1 z1 ∧ Row w' w.heap.size 3 b2 n2 n2 z2 ∧ w.grownBy w' none
set_option maxHeartbeats 2000000 in
theorem tokey (w : World) (need many : Int) (a1 : Option Addr) (n1 c1 : Nat) (z1 : Nat → Int) (a2 : Option Addr) (n2 c2 : Nat) (z2 : Nat → Int) (hA : Ints w a1 n1 z1) (hB : Ints w a2 n2 z2) (hl1 : n1 ≤ 2000000) (hl2 : n2 ≤ 2000000) :
    Calls Try.prog 46 #[.agg #[.int .i64 need, .int .i64 many, .slice a1 n1 c1, .slice a2 n2 c2]] w (KeyO w need many n1 z1 n2 z2) := by
  have HD := Lib.hid (((Ky.new w need many (.slice a1 n1 c1) (.slice a2 n2 c2) 61).kept (Draw.grown_alloc _ (.cells #[.int .i64 0, .int .i64 0, .slice none 0 0, .slice none 0 0] 63) none)).kept (Draw.grown_alloc _ (.cells #[.int .i64 need, .int .i64 many, .slice none 0 0, .slice none 0 0] 63) none))
  have HR0 := Lib.hid ((blk_new2 w (.cells #[.int .i64 need, .int .i64 many, .slice a1 n1 c1, .slice a2 n2 c2] 61) #[.int .i64 0, .int .i64 0, .slice none 0 0, .slice none 0 0] 63).keptN (Draw.grown_alloc _ (.cells #[.int .i64 need, .int .i64 many, .slice none 0 0, .slice none 0 0] 63) none))
  have HO := Lib.hid (blk_new3 w (.cells #[.int .i64 need, .int .i64 many, .slice a1 n1 c1, .slice a2 n2 c2] 61) (.cells #[.int .i64 0, .int .i64 0, .slice none 0 0, .slice none 0 0] 63) #[.int .i64 need, .int .i64 many, .slice none 0 0, .slice none 0 0] 63)
  have hs3 := size3 w (.cells #[.int .i64 need, .int .i64 many, .slice a1 n1 c1, .slice a2 n2 c2] 61) (.cells #[.int .i64 0, .int .i64 0, .slice none 0 0, .slice none 0 0] 63) (.cells #[.int .i64 need, .int .i64 many, .slice none 0 0, .slice none 0 0] 63)
  have HG := Lib.hid (gtr (gtr (Draw.grown_alloc w (.cells #[.int .i64 need, .int .i64 many, .slice a1 n1 c1, .slice a2 n2 c2] 61) none) (Draw.grown_alloc _ (.cells #[.int .i64 0, .int .i64 0, .slice none 0 0, .slice none 0 0] 63) none)) (Draw.grown_alloc _ (.cells #[.int .i64 need, .int .i64 many, .slice none 0 0, .slice none 0 0] 63) none))
  have HA := Lib.hid (hA.kept HG.out); have HB := Lib.hid hB; clear hA hB
  have HS3 := Lib.hid hs3; clear hs3
  go_enter Try.func46, Try.ntmps46
  go_wp2_with fail
  refine (toInt _ _ _ _ z1 HA.out (by omega)).mono ?_
  rintro e w1 ⟨b1, rfl, hr, hg⟩
  have hge1 := hr.from_
  rw [HS3.out] at hge1
  have HD1 := Lib.hid (HD.out.kept hg); have HR1 := Lib.hid (HR0.out.keptN hg); have HO1 := Lib.hid (HO.out.keptN hg); have HG1 := Lib.hid (gtr HG.out hg)
  have HQ1 := Lib.hid (hr.lower (show w.heap.size ≤ _ by rw [HS3.out]; omega))
  clear hr hg HD HR0 HO HA HG
  obtain ⟨_, k0, k1, k2, k3⟩ := HD1.out
  have h0l : w.heap.size + 1 + 1 < w1.heap.size := HO1.out.lt
  obtain ⟨q0, q1, q2, q3, g0, g1, g2, g3⟩ := HO1.out.all4
  have HW2 := Lib.hid (grown_set w1 (w.heap.size + 1 + 1) 2 (.slice (some ⟨b1, 0, none⟩) n1 n1))
  have HO2 := Lib.hid (HO1.out.set 2 (.slice (some ⟨b1, 0, none⟩) n1 n1))
  have HG2 := Lib.hid (grown_new HG1.out (by omega) HW2.out)
  go_wp2_with fail
  refine (toInt _ _ _ _ z2 (HB.out.kept HG2.out) (by omega)).mono ?_
  rintro e w3 ⟨b2, rfl, hr, hg⟩
  have hge2 := hr.from_
  rw [World.size_setCell] at hge2
  have HW3 := Lib.hid hg; have HQ2 := Lib.hid (hr.lower (show w.heap.size ≤ _ by rw [World.size_setCell]; omega))
  have HO3 := Lib.hid (HO2.out.keptN hg); have HG3 := Lib.hid (gtr HG2.out hg)
  have HR3 := Lib.hid ((HR1.out.other (b' := w.heap.size + 1 + 1) (i := 2) (v := .slice (some ⟨b1, 0, none⟩) n1 n1) (by omega)).keptN hg)
  have HQ3 := Lib.hid ((HQ1.out.kept HW2.out (by intro e; have e := Option.some.inj e; omega)).keptN hg)
  have hb1 := HQ1.out.lt
  clear hr hg q0 q1 q2 q3 g0 g1 g2 g3 k0 k1 k2 k3 HO1 HR1 HQ1 HG1 HD1
  have h0l' : w.heap.size + 1 + 1 < w3.heap.size := HO3.out.lt
  obtain ⟨q0, q1, q2, q3, g0, g1, g2, g3⟩ := (show Blk w3 (w.heap.size + 1 + 1) #[.int .i64 need, .int .i64 many, .slice (some ⟨b1, 0, none⟩) n1 n1, .slice none 0 0] 63 from HO3.out).all4
  obtain ⟨r0, r1, r2, r3, j0, j1, j2, j3⟩ := HR3.out.all4
  have HO4 := Lib.hid (HO3.out.set 3 (.slice (some ⟨b2, 0, none⟩) n2 n2))
  have HR4 := Lib.hid (((((HR3.out.other (b' := w.heap.size + 1 + 1) (i := 3) (v := .slice (some ⟨b2, 0, none⟩) n2 n2) (by omega)).set 0 (.int .i64 need)).set 1 (.int .i64 many)).set 2 (.slice (some ⟨b1, 0, none⟩) n1 n1)).set 3 (.slice (some ⟨b2, 0, none⟩) n2 n2))
  have g4 := grown_set w3 (w.heap.size + 1 + 1) 3 (.slice (some ⟨b2, 0, none⟩) n2 n2)
  have g5 := grown_set (w3.setCell ⟨w.heap.size + 1 + 1, 3, none⟩ (.slice (some ⟨b2, 0, none⟩) n2 n2)) (w.heap.size + 1) 0 (.int .i64 need)
  have g6 := gtr' g5 (grown_set _ (w.heap.size + 1) 1 (.int .i64 many))
  have g6 := gtr' g6 (grown_set _ (w.heap.size + 1) 2 (.slice (some ⟨b1, 0, none⟩) n1 n1))
  have g7 := gtr' g6 (grown_set _ (w.heap.size + 1) 3 (.slice (some ⟨b2, 0, none⟩) n2 n2))
  have HE := Lib.hid (grown_new (grown_new HG3.out (by omega) g4) (by omega) g7)
  have HQ4 := Lib.hid ((HQ3.out.kept g4 (by intro e; have e := Option.some.inj e; omega)).kept g7 (by intro e; have e := Option.some.inj e; omega))
  have HQ5 := Lib.hid ((HQ2.out.kept g4 (by intro e; have e := Option.some.inj e; omega)).kept g7 (by intro e; have e := Option.some.inj e; omega))
  clear g4 g5 g6 g7
  go_wp2
  (try simp only [Exit.inBlock, Exit.then])
  refine bodyPost_ret (ret_key rfl _ rfl HR4.out) rfl ?_
  exact ⟨b1, b2, rfl, by omega, HQ4.out, HQ5.out, HE.out⟩
set_option maxHeartbeats 1000000 in
theorem eqkey (w : World) (need many : Int) (a1 a2 a3 a4 : Option Addr) (n1 c1 c3 : Nat) (z1 : Nat → Int) (n2 c2 c4 : Nat) (z2 : Nat → Int) (h1 : Ints w a1 n1 z1) (h2 : Ints w a2 n2 z2) (h3 : Ints w a3 n1 z1) (h4 : Ints w a4 n2 z2) (hl1 : n1 ≤ 2000000) (hl2 : n2 ≤ 2000000) :
    Calls Try.prog 49 #[.agg #[.int .i64 need, .int .i64 many, .slice a1 n1 c1, .slice a2 n2 c2], .agg #[.int .i64 need, .int .i64 many, .slice a3 n1 c3, .slice a4 n2 c4]] w fun e w' => e = .returned (.bool true) ∧ w.grownBy w' none := by
  have H0 := Lib.hid (gtr (Draw.grown_alloc w (.cells #[.int .i64 need, .int .i64 many, .slice a1 n1 c1, .slice a2 n2 c2] 63) none) (Draw.grown_alloc _ (.cells #[.int .i64 need, .int .i64 many, .slice a3 n1 c3, .slice a4 n2 c4] 63) none))
  have HD1 := Lib.hid ((Ky.new w need many (.slice a1 n1 c1) (.slice a2 n2 c2) 63).kept (Draw.grown_alloc _ (.cells #[.int .i64 need, .int .i64 many, .slice a3 n1 c3, .slice a4 n2 c4] 63) none))
  have HD2 := Lib.hid (blk_new2 w (.cells #[.int .i64 need, .int .i64 many, .slice a1 n1 c1, .slice a2 n2 c2] 63) #[.int .i64 need, .int .i64 many, .slice a3 n1 c3, .slice a4 n2 c4] 63)
  have H1 := Lib.hid (h1.kept H0.out); have H2 := Lib.hid (h2.kept H0.out); have H3 := Lib.hid (h3.kept H0.out); have H4 := Lib.hid (h4.kept H0.out)
  clear h1 h2 h3 h4
  have hne : (need != need) = false := by simp
  have hne' : (many != many) = false := by simp
  go_enter Try.func49, Try.ntmps49
  go_wp2_with fail
  refine (eqint _ _ _ n1 _ _ z1 H1.out H3.out (by omega)).mono ?_
  rintro e w1 ⟨rfl, hg⟩
  have HG1 := Lib.hid hg; clear hg
  obtain ⟨_, k0, k1, k2, k3⟩ := HD1.out.kept HG1.out
  obtain ⟨_, j0, j1, j2, j3⟩ := (HD2.out.keptN HG1.out).ky
  go_wp2_with fail
  refine (eqint _ _ _ n2 _ _ z2 (H2.out.kept HG1.out) (H4.out.kept HG1.out) (by omega)).mono ?_
  rintro e w2 ⟨rfl, hg⟩
  have HG2 := Lib.hid (gtr (gtr H0.out HG1.out) hg); clear hg
  go_wp2
  go_ret
  exact ⟨rfl, HG2.out⟩
end Con
namespace Op
open Go.ChangeShapes Go.WideShapes Go.ChangeAt Go.RowKit Go.Joins Mem
theorem c_key : Try.prog.cellsOf 61 = 4 := by kernel_rfl
set_option maxRecDepth 100000 in
theorem op_key {H : Type} {enc : TypeId × Value → H} {W : World} {base : Nat} {v : Value} {d : DataW H} {p : List MemPlace} (hv : Value.okWide Try.prog W .any base 61 v) (h : DataW.Trod enc Try.prog W 0 (fun _ => true) true 61 v d p) :
    ∃ (need many : Int) (a1 : Option Addr) (n1 c1 : Nat) (z1 : Nat → Int) (a2 : Option Addr) (n2 c2 : Nat) (z2 : Nat → Int), v = .agg #[.int .i64 need, .int .i64 many, .slice a1 n1 c1, .slice a2 n2 c2] ∧ Ints W a1 n1 z1 ∧ Ints W a2 n2 z2 ∧ n1 ≤ maxLen ∧ n2 ≤ maxLen := by
  obtain ⟨c0, c1, c2, c3, y0, y1, y2, y3, m, rfl, _, _, h0, h1, h2, h3⟩ := open_agg4 Try.underlying61 (by kernel_rfl) c_key hv h
  obtain ⟨f, rfl⟩ := op_int h0
  obtain ⟨g, rfl⟩ := op_int h1
  obtain ⟨a1, n1, k1, z1, rfl, i1, l1, m1⟩ := op_ints h2
  obtain ⟨a2, n2, k2, z2, rfl, i2, l2, m2⟩ := op_ints h3
  exact ⟨f, g, a1, n1, k1, z1, a2, n2, k2, z2, rfl, i1, i2, by omega, by omega⟩
end Op
end Go.Proofs.Ythbigmcklacbnaa
