/-
  A key, and numbers, in the same words as sessions: for the exact law on SessionNew.
-/
import Derived.Test.YthbigmcklacbnaaWa
namespace Go.Proofs.Ythbigmcklacbnaa
namespace Con
open Go.RowKit Alg Mem Draw Hd
set_option linter.unusedVariables false

def S0 (_ : Nat) : SV := ⟨0, 0, false, 0⟩
theorem s3_key {w : World} {a1 : Option Addr} {n1 : Nat} {z1 : Nat → Int} {a2 : Option Addr} {n2 : Nat} {z2 : Nat → Int} (h1 : Ints w a1 n1 z1) (h2 : Ints w a2 n2 z2) : S3 w 0 w.heap.size a1 n1 z1 a2 n2 z2 .none 0 S0 :=
  s3_args h1 h2 (.inl rfl)
/-- A key copied for a law. -/
theorem tokeyO (w : World) (need many : Int) (ag : Option Addr) (ng cg : Nat) (zg : Nat → Int) (ac : Option Addr) (nc cc : Nat) (zc : Nat → Int) (hG : Ints w ag ng zg) (hC : Ints w ac nc zc) (hl1 : ng ≤ 2000000) (hl2 : nc ≤ 2000000) (lo : Nat) (hlo : lo ≤ w.heap.size) :
    Calls Try.prog 46 #[.agg #[.int .i64 need, .int .i64 many, .slice ag ng cg, .slice ac nc cc]] w fun e w' => ∃ b1 b2 : Nat, e = .returned (.agg #[.int .i64 need, .int .i64 many, .slice (some ⟨b1, 0, .none⟩) ng ng, .slice (some ⟨b2, 0, .none⟩) nc nc]) ∧ O3 w' lo w'.heap.size (some ⟨b1, 0, .none⟩) ng ng zg (some ⟨b2, 0, .none⟩) nc nc zc .none 0 0 S0 ∧ w.grownBy w' .none := by
  refine (tokey w need many ag ng cg zg ac nc cc zc hG hC hl1 hl2).mono ?_
  rintro e w' ⟨b1, b2, rfl, h12, r1, r2, hg⟩
  refine ⟨b1, b2, rfl, (o3_of (c3 := 0) r1.owns r2.owns (own_none w' w.heap.size _ 4) (fun b off b' off' e e' => ?_)).lower hlo, hg⟩
  injection e with e; injection e with e _
  injection e' with e'; injection e' with e' _
  omega
/-- Numbers copied for a law. -/
theorem tointO (w : World) (a : Option Addr) (n c : Nat) (z : Nat → Int) (hI : Ints w a n z) (hl : n ≤ 2000000) (lo : Nat) (hlo : lo ≤ w.heap.size) :
    Calls Try.prog 42 #[.slice a n c] w fun e w' => ∃ b : Nat, e = .returned (.slice (some ⟨b, 0, .none⟩) n n) ∧ O3 w' lo w'.heap.size (some ⟨b, 0, .none⟩) n n z .none 0 0 z .none 0 0 S0 ∧ w.grownBy w' .none := by
  refine (toInt w a n c z hI hl).mono ?_
  rintro e w' ⟨b, rfl, r, hg⟩
  exact ⟨b, rfl, (o3_of (c3 := 0) r.owns (own_none w' w.heap.size _ 1) (own_none w' w.heap.size _ 4) (fun b off b' off' e e' => by cases e')).lower hlo, hg⟩
theorem markkeyQ (w : World) (need many : Int) (lo hi : Nat) (a1 a2 : Option Addr) (n1 n2 c1 c2 : Nat) (z1 z2 : Nat → Int) (m : Nat) (h : O3 w lo hi a1 n1 c1 z1 a2 n2 c2 z2 .none 0 0 S0) (hl1 : n1 ≤ 2000000) (hl2 : n2 ≤ 2000000) (hm : m ≤ 1000000) :
    Calls Try.prog 50 #[.agg #[.int .i64 need, .int .i64 many, .slice a1 n1 c1, .slice a2 n2 c2], .int .i64 (m : Int)] w fun e w' => e = .returned (.int .i64 ((m + n1 + n2 : Nat) : Int)) ∧ True ∧ GR w lo hi w' := by
  have B1 := own_blk h.o1; have B2 := own_blk h.o2
  refine (markkeyE w need many lo a1 a2 n1 n2 c1 c2 z1 z2 m h.o1 h.o2 h.apt hl1 hl2 hm).mono ?_
  rintro e w' ⟨rfl, _, _, wa, wm, hg0, hg1, hg2⟩
  exact ⟨rfl, trivial, (((GR.refl w lo hi).none hg0).step hg1 (fun g e => .inl ⟨(B1 g e).1, (h.t1 g 0 (B1 g e).2).2⟩)).step hg2 (fun g e => .inl ⟨(B2 g e).1, (h.t2 g 0 (B2 g e).2).2⟩)⟩
theorem markintQ (w : World) (lo hi : Nat) (a : Option Addr) (n c : Nat) (z : Nat → Int) (m : Nat) (h : O3 w lo hi a n c z .none 0 0 z .none 0 0 S0) (hl : n ≤ 2000000) (hm : m ≤ 9000000) :
    Calls Try.prog 51 #[.slice a n c, .int .i64 (m : Int)] w fun e w' => e = .returned (.int .i64 ((m + n : Nat) : Int)) ∧ True ∧ GR w lo hi w' := by
  have B1 := own_blk h.o1
  refine (markE w lo a n c z m h.o1 hl hm).mono ?_
  rintro e w' ⟨rfl, _, hg⟩
  exact ⟨rfl, trivial, (GR.refl w lo hi).step hg (fun g e => .inl ⟨(B1 g e).1, (h.t1 g 0 (B1 g e).2).2⟩)⟩
/-- What SessionNew answers, both ways: the same numbers. -/
theorem new_two (need many : Int) (ng : Nat) (zg : Nat → Int) (nc : Nat) (zc : Nat → Int) (msg : Int) (nm ns : Nat) (zm zs : Nat → Int) (h1 : ng ≤ 2000000) (h2 : nc ≤ 2000000) (h3 : nm ≤ 2000000) :
    ∃ (qn qm : Int) (qg : Nat) (qzg : Nat → Int) (qc : Nat) (qzc : Nat → Int) (qs : Int) (qk : Nat) (qS : Nat → SV) (qo : Bool), qg ≤ 2000000 ∧ qc ≤ 2000000 ∧ qk ≤ 2000000 ∧
      (∀ w e w', SesN w need many ng zg nc zc msg nm ns zm zs e w' → SesV w qn qm qg qzg qc qzc qs qk qS qo e w') ∧ (∀ w e w', SesNQ w need many ng zg nc zc msg nm ns zm zs e w' → SesU w qn qm qg qzg qc qzc qs qk qS qo e w') := by
  by_cases hc : nm = ns ∧ tsF need many ng zg nc zc msg nm (nwS zm zs) = true
  · refine ⟨need, many, ng, zg, nc, zc, msg, nm, nwS zm zs, true, h1, h2, h3, fun w e w' h => sesV_c ?_, fun w e w' h => sesU_q ?_⟩
    · unfold SesN at h; rwa [if_pos hc] at h
    · unfold SesNQ at h; rwa [if_pos hc] at h
  · refine ⟨0, 0, 0, zg, 0, zc, 0, 0, S0, false, by omega, by omega, by omega, fun w e w' h => sesV_z ?_, fun w e w' h => sesU_z ?_⟩
    · unfold SesN at h; rwa [if_neg hc] at h
    · unfold SesNQ at h; rwa [if_neg hc] at h
end Con
end Go.Proofs.Ythbigmcklacbnaa
