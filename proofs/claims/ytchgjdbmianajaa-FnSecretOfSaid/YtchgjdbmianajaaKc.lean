/-
  Which keys are valid, what all know of one, and whether a share is a member's: the program's and the model's functions, at every key.
-/
import Derived.Test.YtchgjdbmianajaaDa
import Derived.Test.YtchgjdbmianajaaCe
import Derived.BigQuiet
import Derived.Test.YtchgjdbmianajaaDo
import Derived.Test.YtchgjdbmianajaaMem
namespace Go.Proofs.Ytchgjdbmianajaa
namespace Con
open Go.RowKit Alg Mem
set_option linter.unusedVariables false

/-- May he be a dealer? -/
def dmk (f : Int) : Bool := decide (1 ≤ f ∧ f ≤ 5)
theorem dmk_iff {f : Int} : dmk f = true ↔ 1 ≤ f ∧ f ≤ 5 := by simp [dmk]
theorem dmk_no {f : Int} (h : ¬ (1 ≤ f ∧ f ≤ 5)) : dmk f = false := decide_eq_false h
def dmz (z : Nat → Int) : Nat → Bool
  | 0 => true
  | k + 1 => dmz z k && dmk (z k)
theorem dmz_iff {z : Nat → Int} {n : Nat} : dmz z n = true ↔ ∀ j, j < n → dmk (z j) = true := by
  induction n with
  | zero => simp [dmz]
  | succ n ih =>
    simp only [dmz, Bool.and_eq_true, ih]
    exact ⟨fun h j hj => by rcases Nat.lt_or_ge j n with h' | h'; exact h.1 j h'; obtain rfl : j = n := by omega
                            exact h.2, fun h => ⟨fun j hj => h j (by omega), h n (by omega)⟩⟩
theorem dmz_no {z : Nat → Int} {n k : Nat} (hk : k < n) (h : dmk (z k) = false) : dmz z n = false := by
  cases h' : dmz z n with
  | false => rfl
  | true => rw [dmz_iff.1 h' k hk] at h; cases h
theorem dmz_next {z : Nat → Int} {k : Nat} (h : dmz z k = true) (hf : dmk (z k) = true) : dmz z (k + 1) = true := by simp [dmz, h, hf]
/-- Do they rise? -/
def upz (z : Nat → Int) : Nat → Bool
  | 0 => true
  | k + 1 => upz z k && decide (k = 0 ∨ z (k - 1) < z k)
theorem upz_iff {z : Nat → Int} {n : Nat} : upz z n = true ↔ ∀ j, j < n → j = 0 ∨ z (j - 1) < z j := by
  induction n with
  | zero => simp [upz]
  | succ n ih =>
    simp only [upz, Bool.and_eq_true, ih, decide_eq_true_eq]
    exact ⟨fun h j hj => by rcases Nat.lt_or_ge j n with h' | h'; exact h.1 j h'; obtain rfl : j = n := by omega
                            exact h.2, fun h => ⟨fun j hj => h j (by omega), h n (by omega)⟩⟩
theorem upz_no {z : Nat → Int} {n k : Nat} (hk : k < n) (h0 : k ≠ 0) (h : z k ≤ z (k - 1)) : upz z n = false := by
  cases h' : upz z n with
  | false => rfl
  | true => rcases upz_iff.1 h' k hk with h'' | h'' <;> omega
theorem upz_next {z : Nat → Int} {k : Nat} (h : upz z k = true) (hf : k = 0 ∨ z (k - 1) < z k) : upz z (k + 1) = true := by simp [upz, h, hf]
/-- Is it a key? -/
def kyF (need many : Int) (n1 : Nat) (z1 : Nat → Int) (n2 : Nat) (z2 : Nat → Int) : Bool := crewF need many && decide ((n2 : Int) = need) && cokz n2 z2 && dmz z1 n1 && upz z1 n1
theorem ky_iff {need many : Int} {n1 : Nat} {z1 : Nat → Int} {n2 : Nat} {z2 : Nat → Int} : kyF need many n1 z1 n2 z2 = true ↔ (1 ≤ need ∧ need ≤ many ∧ many ≤ 5) ∧ (n2 : Int) = need ∧ cokz n2 z2 = true ∧ dmz z1 n1 = true ∧ upz z1 n1 = true := by
  unfold kyF; simp only [Bool.and_eq_true, decide_eq_true_eq, crew_iff, and_assoc]
theorem up_len {z : Nat → Int} {n : Nat} (hd : dmz z n = true) (hu : upz z n = true) : n ≤ 5 := by
  have hd := dmz_iff.1 hd
  have hu := upz_iff.1 hu
  have hge : ∀ j, j < n → (j : Int) + 1 ≤ z j := by
    intro j
    induction j with
    | zero => intro hj; have := dmk_iff.1 (hd 0 hj); omega
    | succ j ih => intro hj; have h1 := ih (by omega); have h2 := hu (j + 1) hj; simp at h2; omega
  rcases Nat.lt_or_ge 5 n with h | h
  · have h1 := hge 5 h; have h2 := dmk_iff.1 (hd 5 h); omega
  · exact h
theorem ky_crew {need many : Int} {n1 : Nat} {z1 : Nat → Int} {n2 : Nat} {z2 : Nat → Int} (h : crewF need many = false) : kyF need many n1 z1 n2 z2 = false := by simp [kyF, h]
theorem ky_len {need many : Int} {n1 : Nat} {z1 : Nat → Int} {n2 : Nat} {z2 : Nat → Int} (h : ¬ (n2 : Int) = need) : kyF need many n1 z1 n2 z2 = false := by simp [kyF, h]
theorem ky_com {need many : Int} {n1 : Nat} {z1 : Nat → Int} {n2 : Nat} {z2 : Nat → Int} (h : cokz n2 z2 = false) : kyF need many n1 z1 n2 z2 = false := by simp [kyF, h]
theorem ky_dm {need many : Int} {n1 : Nat} {z1 : Nat → Int} {n2 : Nat} {z2 : Nat → Int} (h : dmz z1 n1 = false) : kyF need many n1 z1 n2 z2 = false := by simp [kyF, h]
theorem ky_up {need many : Int} {n1 : Nat} {z1 : Nat → Int} {n2 : Nat} {z2 : Nat → Int} (h : upz z1 n1 = false) : kyF need many n1 z1 n2 z2 = false := by simp [kyF, h]
theorem ky_yes {need many : Int} {n1 : Nat} {z1 : Nat → Int} {n2 : Nat} {z2 : Nat → Int} (h1 : crewF need many = true) (h2 : (n2 : Int) = need) (h3 : cokz n2 z2 = true) (h4 : dmz z1 n1 = true) (h5 : upz z1 n1 = true) : kyF need many n1 z1 n2 z2 = true := by simp [kyF, h1, h2, h3, h4, h5]

/-- A key that lies in memory. -/
structure Ky (w : World) (b : Nat) (need many : Int) (s1 s2 : Value) : Prop where
  lt : b < w.heap.size
  c0 : w.cell? ⟨b, 0, none⟩ = some (.int .i64 need)
  c1 : w.cell? ⟨b, 1, none⟩ = some (.int .i64 many)
  c2 : w.cell? ⟨b, 2, none⟩ = some s1
  c3 : w.cell? ⟨b, 3, none⟩ = some s2
theorem Ky.new (w : World) (need many : Int) (s1 s2 : Value) (T : TypeId) : Ky (w.alloc (.cells #[.int .i64 need, .int .i64 many, s1, s2] T)) w.heap.size need many s1 s2 := by
  have hb : (w.alloc (.cells #[.int .i64 need, .int .i64 many, s1, s2] T)).heap[w.heap.size]? = some (.cells #[.int .i64 need, .int .i64 many, s1, s2] T) := by show (w.heap.push _)[w.heap.size]? = _; simp
  exact ⟨by show _ < (w.heap.push _).size; simp, by simp only [World.cell?, hb]; rfl, by simp only [World.cell?, hb]; rfl, by simp only [World.cell?, hb]; rfl, by simp only [World.cell?, hb]; rfl⟩
theorem Ky.keptB {w w' : World} {b : Nat} {need many : Int} {s1 s2 : Value} (h : Ky w b need many s1 s2) (hb : w'.heap[b]? = w.heap[b]?) (hs : w.heap.size ≤ w'.heap.size) : Ky w' b need many s1 s2 := by
  exact ⟨Nat.lt_of_lt_of_le h.lt hs, by rw [World.cell?_of_block (w := w) hb]; exact h.c0, by rw [World.cell?_of_block (w := w) hb]; exact h.c1, by rw [World.cell?_of_block (w := w) hb]; exact h.c2, by rw [World.cell?_of_block (w := w) hb]; exact h.c3⟩
theorem Ky.kept {w w' : World} {b : Nat} {need many : Int} {s1 s2 : Value} (h : Ky w b need many s1 s2) (hg : w.grownBy w' none) : Ky w' b need many s1 s2 := h.keptB (hg.block b h.lt (by simp)) hg.size

end Con
end Go.Proofs.Ytchgjdbmianajaa
/-
  Which keys are valid, what all know of one, and whether a share is a member's: the functions whole.
-/

namespace Go.Proofs.Ytchgjdbmianajaa
namespace Con
open Go.RowKit Alg Mem
set_option linter.unusedVariables false

/-- What all know of a key. -/
def kpub (need many : Int) (n1 : Nat) (z1 : Nat → Int) (n2 : Nat) (z2 : Nat → Int) : Int := if kyF need many n1 z1 n2 z2 then z2 0 else 0
theorem kpub_no {need many : Int} {n1 : Nat} {z1 : Nat → Int} {n2 : Nat} {z2 : Nat → Int} (h : kyF need many n1 z1 n2 z2 = false) : kpub need many n1 z1 n2 z2 = 0 := by simp [kpub, h]
theorem kpub_yes {need many : Int} {n1 : Nat} {z1 : Nat → Int} {n2 : Nat} {z2 : Nat → Int} (h : kyF need many n1 z1 n2 z2 = true) : kpub need many n1 z1 n2 z2 = z2 0 := by simp [kpub, h]
/-- Is he a member? -/
def mbF (many m : Int) : Bool := decide (1 ≤ m ∧ m ≤ many)
theorem mb_iff {many m : Int} : mbF many m = true ↔ 1 ≤ m ∧ m ≤ many := by simp [mbF]
/-- Is the share the member's? -/
def kfit (need many : Int) (n1 : Nat) (z1 : Nat → Int) (n2 : Nat) (z2 : Nat → Int) (m s : Int) : Bool := kyF need many n1 z1 n2 z2 && mbF many m && cfz n2 z2 m s
theorem kfit_k {need many : Int} {n1 : Nat} {z1 : Nat → Int} {n2 : Nat} {z2 : Nat → Int} {m s : Int} (h : kyF need many n1 z1 n2 z2 = false) : kfit need many n1 z1 n2 z2 m s = false := by simp [kfit, h]
theorem kfit_m {need many : Int} {n1 : Nat} {z1 : Nat → Int} {n2 : Nat} {z2 : Nat → Int} {m s : Int} (h : mbF many m = false) : kfit need many n1 z1 n2 z2 m s = false := by simp [kfit, h]
theorem kfit_y {need many : Int} {n1 : Nat} {z1 : Nat → Int} {n2 : Nat} {z2 : Nat → Int} {m s : Int} (h : kyF need many n1 z1 n2 z2 = true) (h2 : mbF many m = true) : kfit need many n1 z1 n2 z2 m s = cfz n2 z2 m s := by simp [kfit, h, h2]
theorem cfz_nof {len : Nat} {z : Nat → Int} {x n : Int} (h : fok n = false) : cfz len z x n = false := by simp [cfz, h]
/-- The model's test of a key. -/
theorem skeyok (w : World) (need many : Int) (a1 : Option Addr) (n1 c1 : Nat) (z1 : Nat → Int) (a2 : Option Addr) (n2 c2 : Nat) (z2 : Nat → Int) (hA : Ints w a1 n1 z1) (hB : Ints w a2 n2 z2) (hl1 : n1 ≤ 2000000) (hl2 : n2 ≤ 2000000) :
    Calls Try.prog 68 #[.agg #[.int .i64 need, .int .i64 many, .slice a1 n1 c1, .slice a2 n2 c2]] w fun e w' => e = .returned (.bool (kyF need many n1 z1 n2 z2)) ∧ w.grownBy w' none := by
  have HG0 := Lib.hid (Draw.grown_alloc w (.cells #[.int .i64 need, .int .i64 many, .slice a1 n1 c1, .slice a2 n2 c2] 62) none)
  have HA := Lib.hid (hA.kept HG0.out); have HB := Lib.hid (hB.kept HG0.out); clear hA hB
  have HD := Lib.hid (Ky.new w need many (.slice a1 n1 c1) (.slice a2 n2 c2) 62)
  go_enter Try.func68, Try.ntmps68
  go_wp2
  go_loopw [3] (fun i wr => ∃ k : Nat, k ≤ n1 ∧ i = .int .i64 k ∧ dmz z1 k = true ∧ upz z1 k = true ∧ (w.alloc (.cells #[.int .i64 need, .int .i64 many, .slice a1 n1 c1, .slice a2 n2 c2] 62)).grownBy wr none) (fun i _ => n1 - (intOf i).toNat)
  case atStart => exact ⟨0, by omega, rfl, rfl, rfl, Draw.grown_refl _ _⟩
  case round =>
    obtain ⟨k, hk, rfl, hz, hu, hg⟩ := hrel
    have HZ := Lib.hid hz; have HU := Lib.hid hu; have HGr := Lib.hid hg; clear hz hu hg
    have HD1 := Lib.hid (HD.out.kept HGr.out)
    obtain ⟨_, k0, k1, k2, k3⟩ := HD1.out
    by_cases hlt : k < n1
    · obtain ⟨b, off, rfl, hb, hcc⟩ := (HA.out.kept HGr.out).ptr (by omega)
      have hcx := hcc k hlt
      cases hd : dmk (z1 k) with
      | false =>
        have HR := Lib.hid (ky_dm (need := need) (many := many) (n2 := n2) (z2 := z2) (dmz_no hlt hd))
        have HN := Lib.hid (show ¬ (1 ≤ z1 k ∧ z1 k ≤ 5) from fun h => by rw [dmk_iff.2 h] at hd; cases hd)
        clear hcc hd
        go_wp2_with fail
        go_quiet (first | (go_at_call 45; refine Calls.quiet_of_same ((s6in_no _ _ _ _ HN.out).mono fun _ _ h => ⟨h.1, h.2.symm⟩)))
        go_wp2
        go_ret
        exact ⟨ret_b HR.out.symm, gtr HG0.out ⟨HGr.out.os, HGr.out.tape, HGr.out.output, HGr.out.size, HGr.out.block⟩⟩
      | true =>
        have HZ1 := Lib.hid (dmz_next HZ.out hd)
        obtain ⟨q1, q2⟩ := dmk_iff.1 hd
        clear hd
        by_cases h0 : k = 0
        · subst h0
          clear hcc
          rw [Nat.add_zero] at hcx
          have HU1 := Lib.hid (upz_next HU.out (.inl rfl))
          have hz0 : ¬ (0 : Int) < ((0 : Nat) : Int) := by omega
          go_wp2_with fail
          go_quiet (first | (go_at_call 45; refine Calls.quiet_of_same ((s6in_yes _ _ _ _ q1 q2).mono fun _ _ h => ⟨h.1, h.2.symm⟩)))
          go_wp2
          go_roundw
          case rel => exact ⟨0 + 1, by omega, by go_num, HZ1.out, HU1.out, ⟨HGr.out.os, HGr.out.tape, HGr.out.output, HGr.out.size, HGr.out.block⟩⟩
          case measure => simp [intOf]; omega
        · obtain ⟨j, rfl⟩ : ∃ j, k = j + 1 := ⟨k - 1, by omega⟩
          have hcy := hcc j (by omega)
          clear hcc
          have hpos : (0 : Int) < ((j + 1 : Nat) : Int) := by omega
          have hsub : (((j + 1 : Nat) : Int) - 1) = (j : Int) := by omega
          by_cases hle : z1 (j + 1) ≤ z1 j
          · have HR := Lib.hid (ky_up (need := need) (many := many) (n2 := n2) (z2 := z2) (upz_no (z := z1) hlt (by omega) (by simpa using hle)))
            go_wp2_with fail
            go_quiet (first | (go_at_call 45; refine Calls.quiet_of_same ((s6in_yes _ _ _ _ q1 q2).mono fun _ _ h => ⟨h.1, h.2.symm⟩)))
            go_wp2
            go_ret
            exact ⟨ret_b HR.out.symm, gtr HG0.out ⟨HGr.out.os, HGr.out.tape, HGr.out.output, HGr.out.size, HGr.out.block⟩⟩
          · have HU1 := Lib.hid (upz_next HU.out (.inr (by simp; omega)))
            go_wp2_with fail
            go_quiet (first | (go_at_call 45; refine Calls.quiet_of_same ((s6in_yes _ _ _ _ q1 q2).mono fun _ _ h => ⟨h.1, h.2.symm⟩)))
            go_wp2
            go_roundw
            case rel => exact ⟨j + 1 + 1, by omega, by go_num, HZ1.out, HU1.out, ⟨HGr.out.os, HGr.out.tape, HGr.out.output, HGr.out.size, HGr.out.block⟩⟩
            case measure => simp [intOf]; omega
    · obtain rfl : k = n1 := by omega
      have HB1 := Lib.hid (HB.out.kept HGr.out)
      have HE := Lib.hid (gtr HG0.out HGr.out)
      cases hc : crewF need many with
      | false =>
        have HR := Lib.hid (ky_crew (n1 := k) (z1 := z1) (n2 := n2) (z2 := z2) hc)
        go_wp2_with fail
        refine (screw _ _ _).mono ?_
        rintro e w' ⟨rfl, rfl⟩
        rw [hc]
        go_wp2
        go_ret
        exact ⟨ret_b HR.out.symm, HE.out⟩
      | true =>
        cases hq : cokz n2 z2 with
        | false =>
          have HR := Lib.hid (ky_com (need := need) (many := many) (n1 := k) (z1 := z1) hq)
          go_wp2_with fail
          refine (screw _ _ _).mono ?_
          rintro e w' ⟨rfl, rfl⟩
          rw [hc]
          go_wp2_with fail
          refine (scok _ _ _ _ z2 HB1.out (by omega)).mono ?_
          rintro e w' ⟨rfl, rfl⟩
          rw [hq]
          go_wp2
          go_ret
          exact ⟨ret_b HR.out.symm, HE.out⟩
        | true =>
          by_cases hn : (n2 : Int) = need
          · have HR := Lib.hid (ky_yes hc hn hq HZ.out HU.out)
            have hn' : ((n2 : Int) == need) = true := by simpa using hn
            clear hn
            go_wp2_with fail
            refine (screw _ _ _).mono ?_
            rintro e w' ⟨rfl, rfl⟩
            rw [hc]
            go_wp2_with fail
            refine (scok _ _ _ _ z2 HB1.out (by omega)).mono ?_
            rintro e w' ⟨rfl, rfl⟩
            rw [hq]
            go_wp2
            go_ret
            exact ⟨ret_b HR.out.symm, HE.out⟩
          · have HR := Lib.hid (ky_len (many := many) (n1 := k) (z1 := z1) (z2 := z2) hn)
            have hn' : ((n2 : Int) == need) = false := by simpa using hn
            clear hn
            go_wp2_with fail
            refine (screw _ _ _).mono ?_
            rintro e w' ⟨rfl, rfl⟩
            rw [hc]
            go_wp2_with fail
            refine (scok _ _ _ _ z2 HB1.out (by omega)).mono ?_
            rintro e w' ⟨rfl, rfl⟩
            rw [hq]
            go_wp2
            go_ret
            exact ⟨ret_b HR.out.symm, HE.out⟩
end Con
end Go.Proofs.Ytchgjdbmianajaa
/-
  The words of the exact laws that take a key: its size, the key anew, whether two keys read alike.
-/

namespace Go.Proofs.Ytchgjdbmianajaa
namespace Con
open Go.RowKit Alg Mem
set_option linter.unusedVariables false

/-- What all four cells of a key in memory hold, and that they may be written. -/
structure Blk4 (w : World) (b : Nat) (v0 v1 v2 v3 : Value) : Prop where
  c0 : w.cell? ⟨b, 0, none⟩ = some v0
  c1 : w.cell? ⟨b, 1, none⟩ = some v1
  c2 : w.cell? ⟨b, 2, none⟩ = some v2
  c3 : w.cell? ⟨b, 3, none⟩ = some v3
  f0 : w.frozen? ⟨b, 0, none⟩ = false
  f1 : w.frozen? ⟨b, 1, none⟩ = false
  f2 : w.frozen? ⟨b, 2, none⟩ = false
  f3 : w.frozen? ⟨b, 3, none⟩ = false
theorem Blk.all4 {w : World} {b : Nat} {v0 v1 v2 v3 : Value} {T : TypeId} (h : Blk w b #[v0, v1, v2, v3] T) : Blk4 w b v0 v1 v2 v3 := ⟨h.cell 0, h.cell 1, h.cell 2, h.cell 3, h.free 0, h.free 1, h.free 2, h.free 3⟩
theorem Blk.ky {w : World} {b : Nat} {need many : Int} {s1 s2 : Value} {T : TypeId} (h : Blk w b #[.int .i64 need, .int .i64 many, s1, s2] T) : Ky w b need many s1 s2 := ⟨h.lt, h.cell 0, h.cell 1, h.cell 2, h.cell 3⟩
theorem size_key : (Try.prog.info? 62).map (·.size) = some 4 := by kernel_rfl
theorem ret_key {fn : Func} {p : Tmp} (h : fn.results = #[.cell p 62]) (tmps : Array Value) {w : World} {b : Nat} {v0 v1 v2 v3 : Value} {T : TypeId} (hp : tmps.getD p undef = .pointer (some ⟨b, 0, none⟩)) (hb : Blk w b #[v0, v1, v2, v3] T) :
    (results fn tmps).run Try.prog w = .ok (.agg #[v0, v1, v2, v3]) w :=
  results_cell_row h tmps w b T #[v0, v1, v2, v3] (0, 0) _ hp hb Try.underlying62 rfl size_key
/-- A key of the call's own: two rows, one ahead of the other. -/
def KeyO (w : World) (need many : Int) (n1 : Nat) (z1 : Nat → Int) (n2 : Nat) (z2 : Nat → Int) (e : Ending) (w' : World) : Prop :=
  ∃ b1 b2 : Nat, e = .returned (.agg #[.int .i64 need, .int .i64 many, .slice (some ⟨b1, 0, none⟩) n1 n1, .slice (some ⟨b2, 0, none⟩) n2 n2]) ∧ b1 < b2 ∧ Row w' w.heap.size 3 b1 n1 n1 z1 ∧ Row w' w.heap.size 3 b2 n2 n2 z2 ∧ w.grownBy w' none
end Con
namespace Op
open Go.ChangeShapes Go.WideShapes Go.ChangeAt Go.RowKit Go.Joins Mem
end Op
end Go.Proofs.Ytchgjdbmianajaa
