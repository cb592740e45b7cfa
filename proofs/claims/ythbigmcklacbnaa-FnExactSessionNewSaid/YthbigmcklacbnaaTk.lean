/-
  What signers showed, marked.
-/
import Derived.Test.YthbigmcklacbnaaTg
import Derived.Test.YthbigmcklacbnaaMk
namespace Go.Proofs.Ythbigmcklacbnaa
namespace Con
open Go.RowKit Alg Mem Draw Hd
set_option linter.unusedVariables false

/-- What a mark writes. -/
def mkT (m j i : Nat) : Value := if i = 2 then .bool (((m + 4 * j + 2 : Nat) : Int) % 3 == 0) else .int .i64 ((m + 4 * j + i : Nat) : Int)
/-- Such marked: their row is written, and nothing else. -/
theorem markshns (w : World) (lo b n : Nat) (g : Nat → Nat → Value) (m : Nat) (h : Row4 w lo 105 b n g) (hl : n ≤ 2000000) (hm : m ≤ 6000000) :
    Calls Try.prog 86 #[.slice (some ⟨b, 0, none⟩) n n, .int .i64 m] w fun e w' => e = .returned (.int .i64 ((m + 4 * n : Nat) : Int)) ∧ Row4 w' lo 105 b n (mkT m) ∧ w.grownBy w' (some b) := by
  have H0 := Lib.hid h; clear h
  go_enter Try.func86, Try.ntmps86
  go_wp2
  go_loopw [1, 5] (fun q i W => ∃ k : Nat, k ≤ n ∧ i = .int .i64 k ∧ q = .int .i64 ((m + 4 * k : Nat) : Int) ∧ Row4 W lo 105 b n (fun j => if j < k then mkT m j else g j) ∧ w.grownBy W (some b)) (fun _ i _ => n - (intOf i).toNat)
  case atStart => exact ⟨0, by omega, rfl, rfl, H0.out.congr fun j i _ _ => by simp, Draw.grown_refl _ _⟩
  case round =>
    obtain ⟨k, hk, rfl, rfl, hr, hg⟩ := hrel
    have HR := Lib.hid hr; have HG := Lib.hid hg; clear hr hg
    by_cases hlt : k < n
    · have hlt' : (k : Int) < (n : Int) := by omega
      have d0 := HR.out.c hlt (by omega : 0 < 4)
      have d1 := HR.out.c hlt (by omega : 1 < 4)
      have d2 := HR.out.c hlt (by omega : 2 < 4)
      have d3 := HR.out.c hlt (by omega : 3 < 4)
      rw [Nat.add_zero] at d0
      have f0 := HR.out.free (k * 4)
      have f1 := HR.out.free (k * 4 + 1)
      have f2 := HR.out.free (k * 4 + 2)
      have f3 := HR.out.free (k * 4 + 3)
      have e0 : mkT m k 0 = .int .i64 ((m : Int) + 4 * (k : Int)) := by unfold mkT; rw [if_neg (by decide)]; congr 1 <;> omega
      have e1 : mkT m k 1 = .int .i64 ((m : Int) + 4 * (k : Int) + 1) := by unfold mkT; rw [if_neg (by decide)]; congr 1 <;> omega
      have e2 : mkT m k 2 = .bool (((m : Int) + 4 * (k : Int) + 1 + 1) % 3 == 0) := by unfold mkT; rw [if_pos rfl, show ((m + 4 * k + 2 : Nat) : Int) = (m : Int) + 4 * (k : Int) + 1 + 1 by omega]
      have e3 : mkT m k 3 = .int .i64 ((m : Int) + 4 * (k : Int) + 1 + 1 + 1) := by unfold mkT; rw [if_neg (by decide)]; congr 1 <;> omega
      have hs := (HR.out.set k (mkT m k)).congr (g' := fun j => if j < k + 1 then mkT m j else g j) fun j i hj hi => by
        show (if j = k then mkT m k else if j < k then mkT m j else g j) i = (if j < k + 1 then mkT m j else g j) i
        by_cases e : j = k
        · subst e; rw [if_pos rfl, if_pos (by omega)]
        · by_cases h : j < k
          · rw [if_neg e, if_pos h, if_pos (by omega)]
          · rw [if_neg e, if_neg h, if_neg (by omega)]
      have hg := gtr' HG.out (set4_grown wr b k (mkT m k))
      unfold set4 at hs hg
      rw [e0, e1, e2, e3] at hs hg
      have HR2 := Lib.hid hs; have HG2 := Lib.hid hg
      clear hs hg e0 e1 e2 e3
      go_wp2
      go_roundw
      case rel => exact ⟨k + 1, by omega, by go_num, by go_num, HR2.out, HG2.out⟩
      case measure => simp [intOf]; omega
    · obtain rfl : k = n := by omega
      have HR2 := Lib.hid (HR.out.congr (g' := mkT m) fun j i hj hi => by simp [hj])
      go_wp2
      go_ret
      exact ⟨rfl, HR2.out, HG.out⟩
/-- Is the mark there still? -/
theorem heldshns (w : World) (a : Option Addr) (n cap m : Nat) (S : Nat → SV) (h : ShIn w a n S) (hv : ∀ j, j < n → (S j).m = ((m + 4 * j : Nat) : Int) ∧ (S j).R = ((m + 4 * j + 1 : Nat) : Int) ∧ (S j).on = (((m + 4 * j + 2 : Nat) : Int) % 3 == 0) ∧ (S j).Z = ((m + 4 * j + 3 : Nat) : Int)) (hl : n ≤ 2000000) (hm : m ≤ 6000000) :
    Calls Try.prog 88 #[.slice a n cap, .int .i64 m] w fun e w' => e = .returned (.int .i64 ((m + 4 * n : Nat) : Int)) ∧ w = w' := by
  have H0 := Lib.hid h; have HV := Lib.hid hv; clear h hv
  go_enter Try.func88, Try.ntmps88
  go_wp2
  go_loop [1, 5] (fun q i => ∃ k : Nat, k ≤ n ∧ i = .int .i64 k ∧ q = .int .i64 ((m + 4 * k : Nat) : Int)) (fun _ i => n - (intOf i).toNat)
  case atStart => exact ⟨0, by omega, rfl, rfl⟩
  case round =>
    obtain ⟨k, hk, rfl, rfl⟩ := hrel
    by_cases hlt : k < n
    · have hlt' : (k : Int) < (n : Int) := by omega
      obtain ⟨b, off, rfl, hb, hcc⟩ := H0.out.ptr (by omega)
      obtain ⟨x0, x1, x2, x3⟩ := hcc k hlt
      obtain ⟨v0, v1, v2, v3⟩ := HV.out k hlt
      clear hcc
      rw [v0, show ((m + 4 * k : Nat) : Int) = (m : Int) + 4 * (k : Int) by omega] at x0
      rw [v1, show ((m + 4 * k + 1 : Nat) : Int) = (m : Int) + 4 * (k : Int) + 1 by omega] at x1
      rw [v2, show ((m + 4 * k + 2 : Nat) : Int) = (m : Int) + 4 * (k : Int) + 1 + 1 by omega] at x2
      rw [v3, show ((m + 4 * k + 3 : Nat) : Int) = (m : Int) + 4 * (k : Int) + 1 + 1 + 1 by omega] at x3
      clear v0 v1 v2 v3
      have n0 : ((m : Int) + 4 * (k : Int) != (m : Int) + 4 * (k : Int)) = false := by simp
      have n1 : ((m : Int) + 4 * (k : Int) + 1 != (m : Int) + 4 * (k : Int) + 1) = false := by simp
      have n2 : ((((m : Int) + 4 * (k : Int) + 1 + 1) % 3 == 0) != (((m : Int) + 4 * (k : Int) + 1 + 1) % 3 == 0)) = false := by simp
      have n3 : ((m : Int) + 4 * (k : Int) + 1 + 1 + 1 != (m : Int) + 4 * (k : Int) + 1 + 1 + 1) = false := by simp
      go_wp2
      go_round
      case rel => exact ⟨k + 1, by omega, by go_num, by go_num⟩
      case measure => simp [intOf]; omega
    · obtain rfl : k = n := by omega
      go_wp2
      go_ret
      exact ⟨rfl, rfl⟩
set_option maxHeartbeats 1000000 in
/-- A session made for a law, marked: its three rows are written, and nothing else that was there. -/
theorem markses (w : World) (need many : Int) (lo b1 b2 b3 n1 n2 n : Nat) (z1 z2 : Nat → Int) (msg : Int) (g : Nat → Nat → Value) (m : Nat) (hb : b1 < b2) (hb' : b2 < b3) (h1 : Row w lo 3 b1 n1 n1 z1) (h2 : Row w lo 3 b2 n2 n2 z2) (h3 : Row4 w lo 105 b3 n g) (hl1 : n1 ≤ 2000000) (hl2 : n2 ≤ 2000000) (hl : n ≤ 2000000) (hm : m ≤ 1000000) :
    Calls Try.prog 52 #[.agg #[.int .i64 need, .int .i64 many, .slice (some ⟨b1, 0, none⟩) n1 n1, .slice (some ⟨b2, 0, none⟩) n2 n2, .int .i64 msg, .slice (some ⟨b3, 0, none⟩) n n], .int .i64 m] w fun e w' => e = .returned (.int .i64 ((m + n1 + n2 + 4 * n : Nat) : Int)) ∧ ∃ wa wb, w.grownBy wa (some b1) ∧ wa.grownBy wb (some b2) ∧ wb.grownBy w' (some b3) := by
  have G := Lib.hid (Draw.grown_alloc w (.cells #[.int .i64 need, .int .i64 many, .slice (some ⟨b1, 0, none⟩) n1 n1, .slice (some ⟨b2, 0, none⟩) n2 n2, .int .i64 msg, .slice (some ⟨b3, 0, none⟩) n n] 66) none)
  have K := Lib.hid (Ss.of_blk (Blk.new w #[.int .i64 need, .int .i64 many, .slice (some ⟨b1, 0, none⟩) n1 n1, .slice (some ⟨b2, 0, none⟩) n2 n2, .int .i64 msg, .slice (some ⟨b3, 0, none⟩) n n] 66))
  have hb3 := h3.lt
  have H1 := Lib.hid (h1.keptN G.out); have H2 := Lib.hid (h2.keptN G.out); have H3 := Lib.hid (h3.keptN G.out)
  clear h1 h2 h3
  go_enter Try.func52, Try.ntmps52
  obtain ⟨_, k0, k1, k2, k3, k4, k5⟩ := K.out
  go_wp2_with fail
  refine (markkey _ need many lo b1 b2 n1 n2 z1 z2 m hb H1.out H2.out hl1 hl2 hm).mono ?_
  rintro e w2 ⟨rfl, wm, hg1, hg2⟩
  have HK := Lib.hid ((K.out.keptB (hg1.block _ K.out.lt (by intro e; have e := Option.some.inj e; omega)) hg1.size).keptB (hg2.block _ (Nat.lt_of_lt_of_le K.out.lt hg1.size) (by intro e; have e := Option.some.inj e; omega)) hg2.size)
  have HR := Lib.hid ((H3.out.kept hg1 (by intro e; have e := Option.some.inj e; omega)).kept hg2 (by intro e; have e := Option.some.inj e; omega))
  have HW := Lib.hid (And.intro hg1 hg2)
  clear hg1 hg2 k0 k1 k2 k3 k4 k5
  obtain ⟨_, k0, k1, k2, k3, k4, k5⟩ := HK.out
  go_wp2_with fail
  refine (markshns _ lo b3 n g (m + n1 + n2) HR.out hl (by omega)).mono ?_
  rintro e w3 ⟨rfl, _, hg3⟩
  have HW3 := Lib.hid hg3
  clear hg3
  go_wp2
  go_ret
  exact ⟨rfl, wm, w2, gtr' (Draw.grown_alloc w _ _) HW.out.1, HW.out.2, HW3.out⟩
end Con
end Go.Proofs.Ythbigmcklacbnaa
