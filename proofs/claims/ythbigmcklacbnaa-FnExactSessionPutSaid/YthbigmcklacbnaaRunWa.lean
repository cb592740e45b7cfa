/-
  The walk of the exact law on SessionPut.
-/
import Derived.Test.YthbigmcklacbnaaWa
import Derived.Deep.RegionHeld3
namespace Go.Proofs.Ythbigmcklacbnaa
namespace Run
open Go.RowKit Alg Mem Con Mp Hd
set_option linter.unusedVariables false

set_option maxRecDepth 100000 in
set_option maxHeartbeats 8000000 in
theorem FnExactSessionPut (need many : Int) (ag : Option Addr) (ng cg : Nat) (zg : Nat → Int) (ac : Option Addr) (nc cc : Nat) (zc : Nat → Int) (msg : Int) (a : Option Addr) (n c : Nat) (S : Nat → SV) (m z : Int) (w : World) (hI1 : Ints w ag ng zg) (hI2 : Ints w ac nc zc) (hI3 : ShIn w a n S) (hm1 : ng ≤ maxLen) (hm2 : nc ≤ maxLen) (hm3 : n ≤ maxLen) :
    Calls Try.prog 19 #[.agg #[.int .i64 need, .int .i64 many, .slice ag ng cg, .slice ac nc cc, .int .i64 msg, .slice a n c], .int .i64 m, .int .i64 z] w (Yes w) := by
  have G := Lib.hid (Draw.grown_alloc w (.cells #[.int .i64 need, .int .i64 many, .slice ag ng cg, .slice ac nc cc, .int .i64 msg, .slice a n c] 78) none)
  have B := Lib.hid (Blk.new w #[.int .i64 need, .int .i64 many, .slice ag ng cg, .slice ac nc cc, .int .i64 msg, .slice a n c] 78)
  have hA : S3 w 0 w.heap.size ag ng zg ac nc zc a n S := s3_args hI1 hI2 hI3
  have A := Lib.hid (hA.keptN G.out)
  clear hA hI1 hI2 hI3
  go_enter Try.func19, Try.ntmps19
  have B_0 : World.cell? _ ⟨w.heap.size, 0, none⟩ = some (.int .i64 need) := B.out.cell 0
  have B_1 : World.cell? _ ⟨w.heap.size, 1, none⟩ = some (.int .i64 many) := B.out.cell 1
  have B_2 : World.cell? _ ⟨w.heap.size, 2, none⟩ = some (.slice ag ng cg) := B.out.cell 2
  have B_3 : World.cell? _ ⟨w.heap.size, 3, none⟩ = some (.slice ac nc cc) := B.out.cell 3
  have B_4 : World.cell? _ ⟨w.heap.size, 4, none⟩ = some (.int .i64 msg) := B.out.cell 4
  have B_5 : World.cell? _ ⟨w.heap.size, 5, none⟩ = some (.slice a n c) := B.out.cell 5
  have B_l := B.out.lt
  go_wp2_with fail
  refine (szses _ need many _ ng _ _ nc _ msg _ n _ 1048576 (by omega) (by omega) hm1 hm2 hm3).mono ?_
  rintro e v1 ⟨r, rfl, hg, hr⟩
  clear B_0 B_1 B_2 B_3 B_4 B_5 B_l
  have hz := hg.size; rw [World.size_alloc] at hz
  have HZ0 := Lib.hid hz; clear hz
  replace G := Lib.hid (gtr G.out hg)
  replace B := Lib.hid (B.out.keptN hg)
  replace A := Lib.hid (A.out.keptN hg)
  clear hg
  rcases hr with rfl | ⟨hr0, hr1, hl1, hl2, hl3⟩
  · go_wp2
    go_ret
    exact ⟨rfl, Draw.below_of G.out⟩
  have hnr : ¬ r < 0 := by omega
  obtain ⟨qn, qm, qg, qzg, qc, qzc, qs, qk, qS, qo, hq1, hq2, hq3, hV, hU⟩ := put_two need many ng zg nc zc msg n S m z hl1 hl2 hl3
  have HV := Lib.hid hV; have HU := Lib.hid hU; clear hV hU
  have B_0 : World.cell? _ ⟨w.heap.size, 0, none⟩ = some (.int .i64 need) := B.out.cell 0
  have B_1 : World.cell? _ ⟨w.heap.size, 1, none⟩ = some (.int .i64 many) := B.out.cell 1
  have B_2 : World.cell? _ ⟨w.heap.size, 2, none⟩ = some (.slice ag ng cg) := B.out.cell 2
  have B_3 : World.cell? _ ⟨w.heap.size, 3, none⟩ = some (.slice ac nc cc) := B.out.cell 3
  have B_4 : World.cell? _ ⟨w.heap.size, 4, none⟩ = some (.int .i64 msg) := B.out.cell 4
  have B_5 : World.cell? _ ⟨w.heap.size, 5, none⟩ = some (.slice a n c) := B.out.cell 5
  have B_l := B.out.lt
  go_wp2_with fail
  refine (tosesO _ need many _ ng _ zg _ nc _ zc msg _ n _ S A.out.i1 A.out.i2 A.out.i3 hl1 hl2 hl3 (0) (Nat.zero_le _)).mono ?_
  rintro e v2 ⟨sb1, sb2, sb3, rfl, ho, hg⟩
  clear B_0 B_1 B_2 B_3 B_4 B_5 B_l
  have hz := hg.size
  have HZ1 := Lib.hid hz; clear hz
  replace G := Lib.hid (gtr G.out hg)
  replace B := Lib.hid (B.out.keptN hg)
  replace A := Lib.hid (A.out.keptN hg)
  clear hg
  have SO := Lib.hid (ho)
  clear ho
  have B_0 : World.cell? _ ⟨w.heap.size, 0, none⟩ = some (.int .i64 need) := B.out.cell 0
  have B_1 : World.cell? _ ⟨w.heap.size, 1, none⟩ = some (.int .i64 many) := B.out.cell 1
  have B_2 : World.cell? _ ⟨w.heap.size, 2, none⟩ = some (.slice ag ng cg) := B.out.cell 2
  have B_3 : World.cell? _ ⟨w.heap.size, 3, none⟩ = some (.slice ac nc cc) := B.out.cell 3
  have B_4 : World.cell? _ ⟨w.heap.size, 4, none⟩ = some (.int .i64 msg) := B.out.cell 4
  have B_5 : World.cell? _ ⟨w.heap.size, 5, none⟩ = some (.slice a n c) := B.out.cell 5
  have B_l := B.out.lt
  go_wp2_with fail
  refine (s32put _ need many _ ng _ zg _ nc _ zc msg _ n _ S m z SO.out.s.i1 SO.out.s.i2 SO.out.s.i3 (.inl ⟨_, rfl⟩) (.inl ⟨_, rfl⟩) (.inl ⟨_, rfl⟩) hl1 hl2 hl3).mono ?_
  rintro e v3 h
  obtain ⟨wa1, wc1, wa2, wc2, wa3, wc3, rfl, hs, hg⟩ := HV.out _ _ _ h
  clear B_0 B_1 B_2 B_3 B_4 B_5 B_l
  have hz := hg.size
  have HZ2 := Lib.hid hz; clear hz
  replace G := Lib.hid (gtr G.out hg)
  replace B := Lib.hid (B.out.keptN hg)
  replace A := Lib.hid (A.out.keptN hg)
  clear hg
  clear h SO
  have W := Lib.hid (hs)
  clear hs
  have hg := Draw.grown_alloc v3 (.cells #[.int .i64 qn, .int .i64 qm, .slice wa1 qg wc1, .slice wa2 qc wc2, .int .i64 qs, .slice wa3 qk wc3] 66) none
  have Z := Lib.hid (Blk.new v3 #[.int .i64 qn, .int .i64 qm, .slice wa1 qg wc1, .slice wa2 qc wc2, .int .i64 qs, .slice wa3 qk wc3] 66)
  replace G := Lib.hid (gtr G.out hg)
  replace B := Lib.hid (B.out.keptN hg)
  replace A := Lib.hid (A.out.keptN hg)
  replace W := Lib.hid (W.out.keptN hg)
  clear hg
  have B_0 : World.cell? _ ⟨w.heap.size, 0, none⟩ = some (.int .i64 need) := B.out.cell 0
  have B_1 : World.cell? _ ⟨w.heap.size, 1, none⟩ = some (.int .i64 many) := B.out.cell 1
  have B_2 : World.cell? _ ⟨w.heap.size, 2, none⟩ = some (.slice ag ng cg) := B.out.cell 2
  have B_3 : World.cell? _ ⟨w.heap.size, 3, none⟩ = some (.slice ac nc cc) := B.out.cell 3
  have B_4 : World.cell? _ ⟨w.heap.size, 4, none⟩ = some (.int .i64 msg) := B.out.cell 4
  have B_5 : World.cell? _ ⟨w.heap.size, 5, none⟩ = some (.slice a n c) := B.out.cell 5
  have B_l := B.out.lt
  have Z_0 : World.cell? _ ⟨v3.heap.size, 0, none⟩ = some (.int .i64 qn) := Z.out.cell 0
  have Z_1 : World.cell? _ ⟨v3.heap.size, 1, none⟩ = some (.int .i64 qm) := Z.out.cell 1
  have Z_2 : World.cell? _ ⟨v3.heap.size, 2, none⟩ = some (.slice wa1 qg wc1) := Z.out.cell 2
  have Z_3 : World.cell? _ ⟨v3.heap.size, 3, none⟩ = some (.slice wa2 qc wc2) := Z.out.cell 3
  have Z_4 : World.cell? _ ⟨v3.heap.size, 4, none⟩ = some (.int .i64 qs) := Z.out.cell 4
  have Z_5 : World.cell? _ ⟨v3.heap.size, 5, none⟩ = some (.slice wa3 qk wc3) := Z.out.cell 5
  have Z_l := Z.out.lt
  go_wp2_with fail
  refine (tosesO _ need many _ ng _ zg _ nc _ zc msg _ n _ S A.out.i1 A.out.i2 A.out.i3 hl1 hl2 hl3 (v3.heap.size + 1) (by rw [World.size_alloc]; exact Nat.le_refl _)).mono ?_
  rintro e v4 ⟨xb1, xb2, xb3, rfl, ho, hg⟩
  clear B_0 B_1 B_2 B_3 B_4 B_5 Z_0 Z_1 Z_2 Z_3 Z_4 Z_5 B_l Z_l
  have hz := hg.size; rw [World.size_alloc] at hz
  have HZ3 := Lib.hid hz; clear hz
  replace G := Lib.hid (gtr G.out hg)
  replace B := Lib.hid (B.out.keptN hg)
  replace A := Lib.hid (A.out.keptN hg)
  replace W := Lib.hid (W.out.keptN hg)
  replace Z := Lib.hid (Z.out.keptN hg)
  clear hg
  have X := Lib.hid (ho)
  clear ho
  have hg := Draw.grown_alloc v4 (.cells #[.int .i64 need, .int .i64 many, .slice (some ⟨xb1, 0, none⟩) ng ng, .slice (some ⟨xb2, 0, none⟩) nc nc, .int .i64 msg, .slice (some ⟨xb3, 0, none⟩) n n] 66) none
  have XB := Lib.hid (Blk.new v4 #[.int .i64 need, .int .i64 many, .slice (some ⟨xb1, 0, none⟩) ng ng, .slice (some ⟨xb2, 0, none⟩) nc nc, .int .i64 msg, .slice (some ⟨xb3, 0, none⟩) n n] 66)
  replace G := Lib.hid (gtr G.out hg)
  replace B := Lib.hid (B.out.keptN hg)
  replace A := Lib.hid (A.out.keptN hg)
  replace W := Lib.hid (W.out.keptN hg)
  replace Z := Lib.hid (Z.out.keptN hg)
  replace X := Lib.hid (X.out.keptN hg)
  clear hg
  have B_0 : World.cell? _ ⟨w.heap.size, 0, none⟩ = some (.int .i64 need) := B.out.cell 0
  have B_1 : World.cell? _ ⟨w.heap.size, 1, none⟩ = some (.int .i64 many) := B.out.cell 1
  have B_2 : World.cell? _ ⟨w.heap.size, 2, none⟩ = some (.slice ag ng cg) := B.out.cell 2
  have B_3 : World.cell? _ ⟨w.heap.size, 3, none⟩ = some (.slice ac nc cc) := B.out.cell 3
  have B_4 : World.cell? _ ⟨w.heap.size, 4, none⟩ = some (.int .i64 msg) := B.out.cell 4
  have B_5 : World.cell? _ ⟨w.heap.size, 5, none⟩ = some (.slice a n c) := B.out.cell 5
  have B_l := B.out.lt
  have Z_0 : World.cell? _ ⟨v3.heap.size, 0, none⟩ = some (.int .i64 qn) := Z.out.cell 0
  have Z_1 : World.cell? _ ⟨v3.heap.size, 1, none⟩ = some (.int .i64 qm) := Z.out.cell 1
  have Z_2 : World.cell? _ ⟨v3.heap.size, 2, none⟩ = some (.slice wa1 qg wc1) := Z.out.cell 2
  have Z_3 : World.cell? _ ⟨v3.heap.size, 3, none⟩ = some (.slice wa2 qc wc2) := Z.out.cell 3
  have Z_4 : World.cell? _ ⟨v3.heap.size, 4, none⟩ = some (.int .i64 qs) := Z.out.cell 4
  have Z_5 : World.cell? _ ⟨v3.heap.size, 5, none⟩ = some (.slice wa3 qk wc3) := Z.out.cell 5
  have Z_l := Z.out.lt
  have XB_0 : World.cell? _ ⟨v4.heap.size, 0, none⟩ = some (.int .i64 need) := XB.out.cell 0
  have XB_1 : World.cell? _ ⟨v4.heap.size, 1, none⟩ = some (.int .i64 many) := XB.out.cell 1
  have XB_2 : World.cell? _ ⟨v4.heap.size, 2, none⟩ = some (.slice (some ⟨xb1, 0, none⟩) ng ng) := XB.out.cell 2
  have XB_3 : World.cell? _ ⟨v4.heap.size, 3, none⟩ = some (.slice (some ⟨xb2, 0, none⟩) nc nc) := XB.out.cell 3
  have XB_4 : World.cell? _ ⟨v4.heap.size, 4, none⟩ = some (.int .i64 msg) := XB.out.cell 4
  have XB_5 : World.cell? _ ⟨v4.heap.size, 5, none⟩ = some (.slice (some ⟨xb3, 0, none⟩) n n) := XB.out.cell 5
  have XB_l := XB.out.lt
  go_wp2_with fail
  refine (i32put _ need many _ ng _ zg _ nc _ zc msg _ n _ S m z X.out.s.i1 X.out.s.i2 X.out.s.i3 (.inl ⟨_, rfl⟩) (.inl ⟨_, rfl⟩) (.inl ⟨_, rfl⟩) hl1 hl2 hl3).mono ?_
  rintro e v5 h
  obtain ⟨ga1, gc1, ga2, gc2, ga3, gc3, rfl, ho, hg⟩ := HU.out _ _ _ h
  clear B_0 B_1 B_2 B_3 B_4 B_5 Z_0 Z_1 Z_2 Z_3 Z_4 Z_5 XB_0 XB_1 XB_2 XB_3 XB_4 XB_5 B_l Z_l XB_l
  rw [World.size_alloc] at ho
  have hz := hg.size; rw [World.size_alloc] at hz
  have HZ4 := Lib.hid hz; clear hz
  replace G := Lib.hid (gtr G.out hg)
  replace B := Lib.hid (B.out.keptN hg)
  replace A := Lib.hid (A.out.keptN hg)
  replace W := Lib.hid (W.out.keptN hg)
  replace Z := Lib.hid (Z.out.keptN hg)
  replace X := Lib.hid (X.out.keptN hg)
  replace XB := Lib.hid (XB.out.keptN hg)
  clear hg
  clear h
  have Q := Lib.hid (ho)
  clear ho
  have hg := Draw.grown_alloc v5 (.cells #[.int .i64 qn, .int .i64 qm, .slice ga1 qg gc1, .slice ga2 qc gc2, .int .i64 qs, .slice ga3 qk gc3] 66) none
  have Y := Lib.hid (Blk.new v5 #[.int .i64 qn, .int .i64 qm, .slice ga1 qg gc1, .slice ga2 qc gc2, .int .i64 qs, .slice ga3 qk gc3] 66)
  replace G := Lib.hid (gtr G.out hg)
  replace B := Lib.hid (B.out.keptN hg)
  replace A := Lib.hid (A.out.keptN hg)
  replace W := Lib.hid (W.out.keptN hg)
  replace Z := Lib.hid (Z.out.keptN hg)
  replace X := Lib.hid (X.out.keptN hg)
  replace XB := Lib.hid (XB.out.keptN hg)
  replace Q := Lib.hid (Q.out.keptN hg)
  clear hg
  have hok : (qo != qo) = false := by simp
  have B_0 : World.cell? _ ⟨w.heap.size, 0, none⟩ = some (.int .i64 need) := B.out.cell 0
  have B_1 : World.cell? _ ⟨w.heap.size, 1, none⟩ = some (.int .i64 many) := B.out.cell 1
  have B_2 : World.cell? _ ⟨w.heap.size, 2, none⟩ = some (.slice ag ng cg) := B.out.cell 2
  have B_3 : World.cell? _ ⟨w.heap.size, 3, none⟩ = some (.slice ac nc cc) := B.out.cell 3
  have B_4 : World.cell? _ ⟨w.heap.size, 4, none⟩ = some (.int .i64 msg) := B.out.cell 4
  have B_5 : World.cell? _ ⟨w.heap.size, 5, none⟩ = some (.slice a n c) := B.out.cell 5
  have B_l := B.out.lt
  have Z_0 : World.cell? _ ⟨v3.heap.size, 0, none⟩ = some (.int .i64 qn) := Z.out.cell 0
  have Z_1 : World.cell? _ ⟨v3.heap.size, 1, none⟩ = some (.int .i64 qm) := Z.out.cell 1
  have Z_2 : World.cell? _ ⟨v3.heap.size, 2, none⟩ = some (.slice wa1 qg wc1) := Z.out.cell 2
  have Z_3 : World.cell? _ ⟨v3.heap.size, 3, none⟩ = some (.slice wa2 qc wc2) := Z.out.cell 3
  have Z_4 : World.cell? _ ⟨v3.heap.size, 4, none⟩ = some (.int .i64 qs) := Z.out.cell 4
  have Z_5 : World.cell? _ ⟨v3.heap.size, 5, none⟩ = some (.slice wa3 qk wc3) := Z.out.cell 5
  have Z_l := Z.out.lt
  have XB_0 : World.cell? _ ⟨v4.heap.size, 0, none⟩ = some (.int .i64 need) := XB.out.cell 0
  have XB_1 : World.cell? _ ⟨v4.heap.size, 1, none⟩ = some (.int .i64 many) := XB.out.cell 1
  have XB_2 : World.cell? _ ⟨v4.heap.size, 2, none⟩ = some (.slice (some ⟨xb1, 0, none⟩) ng ng) := XB.out.cell 2
  have XB_3 : World.cell? _ ⟨v4.heap.size, 3, none⟩ = some (.slice (some ⟨xb2, 0, none⟩) nc nc) := XB.out.cell 3
  have XB_4 : World.cell? _ ⟨v4.heap.size, 4, none⟩ = some (.int .i64 msg) := XB.out.cell 4
  have XB_5 : World.cell? _ ⟨v4.heap.size, 5, none⟩ = some (.slice (some ⟨xb3, 0, none⟩) n n) := XB.out.cell 5
  have XB_l := XB.out.lt
  have Y_0 : World.cell? _ ⟨v5.heap.size, 0, none⟩ = some (.int .i64 qn) := Y.out.cell 0
  have Y_1 : World.cell? _ ⟨v5.heap.size, 1, none⟩ = some (.int .i64 qm) := Y.out.cell 1
  have Y_2 : World.cell? _ ⟨v5.heap.size, 2, none⟩ = some (.slice ga1 qg gc1) := Y.out.cell 2
  have Y_3 : World.cell? _ ⟨v5.heap.size, 3, none⟩ = some (.slice ga2 qc gc2) := Y.out.cell 3
  have Y_4 : World.cell? _ ⟨v5.heap.size, 4, none⟩ = some (.int .i64 qs) := Y.out.cell 4
  have Y_5 : World.cell? _ ⟨v5.heap.size, 5, none⟩ = some (.slice ga3 qk gc3) := Y.out.cell 5
  have Y_l := Y.out.lt
  go_wp2_with fail
  refine (eqses _ qn qm _ _ _ _ qg _ _ qzg qc _ _ qzc qs _ _ qk _ _ qS Q.out.s.i1 Q.out.s.i2 W.out.i1 W.out.i2 Q.out.s.i3 W.out.i3 hq1 hq2 hq3).mono ?_
  rintro e v6 ⟨rfl, hg⟩
  clear B_0 B_1 B_2 B_3 B_4 B_5 Z_0 Z_1 Z_2 Z_3 Z_4 Z_5 XB_0 XB_1 XB_2 XB_3 XB_4 XB_5 Y_0 Y_1 Y_2 Y_3 Y_4 Y_5 B_l Z_l XB_l Y_l
  have hz := hg.size; rw [World.size_alloc] at hz
  have HZ5 := Lib.hid hz; clear hz
  replace G := Lib.hid (gtr G.out hg)
  replace B := Lib.hid (B.out.keptN hg)
  replace A := Lib.hid (A.out.keptN hg)
  replace W := Lib.hid (W.out.keptN hg)
  replace Z := Lib.hid (Z.out.keptN hg)
  replace X := Lib.hid (X.out.keptN hg)
  replace XB := Lib.hid (XB.out.keptN hg)
  replace Q := Lib.hid (Q.out.keptN hg)
  replace Y := Lib.hid (Y.out.keptN hg)
  clear hg
  have B_0 : World.cell? _ ⟨w.heap.size, 0, none⟩ = some (.int .i64 need) := B.out.cell 0
  have B_1 : World.cell? _ ⟨w.heap.size, 1, none⟩ = some (.int .i64 many) := B.out.cell 1
  have B_2 : World.cell? _ ⟨w.heap.size, 2, none⟩ = some (.slice ag ng cg) := B.out.cell 2
  have B_3 : World.cell? _ ⟨w.heap.size, 3, none⟩ = some (.slice ac nc cc) := B.out.cell 3
  have B_4 : World.cell? _ ⟨w.heap.size, 4, none⟩ = some (.int .i64 msg) := B.out.cell 4
  have B_5 : World.cell? _ ⟨w.heap.size, 5, none⟩ = some (.slice a n c) := B.out.cell 5
  have B_l := B.out.lt
  have Z_0 : World.cell? _ ⟨v3.heap.size, 0, none⟩ = some (.int .i64 qn) := Z.out.cell 0
  have Z_1 : World.cell? _ ⟨v3.heap.size, 1, none⟩ = some (.int .i64 qm) := Z.out.cell 1
  have Z_2 : World.cell? _ ⟨v3.heap.size, 2, none⟩ = some (.slice wa1 qg wc1) := Z.out.cell 2
  have Z_3 : World.cell? _ ⟨v3.heap.size, 3, none⟩ = some (.slice wa2 qc wc2) := Z.out.cell 3
  have Z_4 : World.cell? _ ⟨v3.heap.size, 4, none⟩ = some (.int .i64 qs) := Z.out.cell 4
  have Z_5 : World.cell? _ ⟨v3.heap.size, 5, none⟩ = some (.slice wa3 qk wc3) := Z.out.cell 5
  have Z_l := Z.out.lt
  have XB_0 : World.cell? _ ⟨v4.heap.size, 0, none⟩ = some (.int .i64 need) := XB.out.cell 0
  have XB_1 : World.cell? _ ⟨v4.heap.size, 1, none⟩ = some (.int .i64 many) := XB.out.cell 1
  have XB_2 : World.cell? _ ⟨v4.heap.size, 2, none⟩ = some (.slice (some ⟨xb1, 0, none⟩) ng ng) := XB.out.cell 2
  have XB_3 : World.cell? _ ⟨v4.heap.size, 3, none⟩ = some (.slice (some ⟨xb2, 0, none⟩) nc nc) := XB.out.cell 3
  have XB_4 : World.cell? _ ⟨v4.heap.size, 4, none⟩ = some (.int .i64 msg) := XB.out.cell 4
  have XB_5 : World.cell? _ ⟨v4.heap.size, 5, none⟩ = some (.slice (some ⟨xb3, 0, none⟩) n n) := XB.out.cell 5
  have XB_l := XB.out.lt
  have Y_0 : World.cell? _ ⟨v5.heap.size, 0, none⟩ = some (.int .i64 qn) := Y.out.cell 0
  have Y_1 : World.cell? _ ⟨v5.heap.size, 1, none⟩ = some (.int .i64 qm) := Y.out.cell 1
  have Y_2 : World.cell? _ ⟨v5.heap.size, 2, none⟩ = some (.slice ga1 qg gc1) := Y.out.cell 2
  have Y_3 : World.cell? _ ⟨v5.heap.size, 3, none⟩ = some (.slice ga2 qc gc2) := Y.out.cell 3
  have Y_4 : World.cell? _ ⟨v5.heap.size, 4, none⟩ = some (.int .i64 qs) := Y.out.cell 4
  have Y_5 : World.cell? _ ⟨v5.heap.size, 5, none⟩ = some (.slice ga3 qk gc3) := Y.out.cell 5
  have Y_l := Y.out.lt
  go_wp2_with fail
  clear B_0 B_1 B_2 B_3 B_4 B_5 Z_0 Z_1 Z_2 Z_3 Z_4 Z_5 XB_0 XB_1 XB_2 XB_3 XB_4 XB_5 Y_0 Y_1 Y_2 Y_3 Y_4 Y_5 B_l Z_l XB_l Y_l
  refine wp_region_held_drew (S := (fun w' => w'.cell? ⟨w.heap.size, 0, none⟩ = some (.int .i64 need) ∧ w'.cell? ⟨w.heap.size, 1, none⟩ = some (.int .i64 many) ∧ w'.cell? ⟨w.heap.size, 2, none⟩ = some (.slice ag ng cg) ∧ w'.cell? ⟨w.heap.size, 3, none⟩ = some (.slice ac nc cc) ∧ w'.cell? ⟨w.heap.size, 4, none⟩ = some (.int .i64 msg) ∧ w'.cell? ⟨w.heap.size, 5, none⟩ = some (.slice a n c) ∧ w'.cell? ⟨v3.heap.size, 0, none⟩ = some (.int .i64 qn) ∧ w'.cell? ⟨v3.heap.size, 1, none⟩ = some (.int .i64 qm) ∧ w'.cell? ⟨v3.heap.size, 2, none⟩ = some (.slice wa1 qg wc1) ∧ w'.cell? ⟨v3.heap.size, 3, none⟩ = some (.slice wa2 qc wc2) ∧ w'.cell? ⟨v3.heap.size, 4, none⟩ = some (.int .i64 qs) ∧ w'.cell? ⟨v3.heap.size, 5, none⟩ = some (.slice wa3 qk wc3) ∧ w'.cell? ⟨v4.heap.size, 0, none⟩ = some (.int .i64 need) ∧ w'.cell? ⟨v4.heap.size, 1, none⟩ = some (.int .i64 many) ∧ w'.cell? ⟨v4.heap.size, 2, none⟩ = some (.slice (some ⟨xb1, 0, none⟩) ng ng) ∧ w'.cell? ⟨v4.heap.size, 3, none⟩ = some (.slice (some ⟨xb2, 0, none⟩) nc nc) ∧ w'.cell? ⟨v4.heap.size, 4, none⟩ = some (.int .i64 msg) ∧ w'.cell? ⟨v4.heap.size, 5, none⟩ = some (.slice (some ⟨xb3, 0, none⟩) n n) ∧ w'.cell? ⟨v5.heap.size, 0, none⟩ = some (.int .i64 qn) ∧ w'.cell? ⟨v5.heap.size, 1, none⟩ = some (.int .i64 qm) ∧ w'.cell? ⟨v5.heap.size, 2, none⟩ = some (.slice ga1 qg gc1) ∧ w'.cell? ⟨v5.heap.size, 3, none⟩ = some (.slice ga2 qc gc2) ∧ w'.cell? ⟨v5.heap.size, 4, none⟩ = some (.int .i64 qs) ∧ w'.cell? ⟨v5.heap.size, 5, none⟩ = some (.slice ga3 qk gc3))) (by kernel_rfl) (⟨B.out.cell 0, B.out.cell 1, B.out.cell 2, B.out.cell 3, B.out.cell 4, B.out.cell 5, Z.out.cell 0, Z.out.cell 1, Z.out.cell 2, Z.out.cell 3, Z.out.cell 4, Z.out.cell 5, XB.out.cell 0, XB.out.cell 1, XB.out.cell 2, XB.out.cell 3, XB.out.cell 4, XB.out.cell 5, Y.out.cell 0, Y.out.cell 1, Y.out.cell 2, Y.out.cell 3, Y.out.cell 4, Y.out.cell 5⟩) (fun hHeld => ?_)
  have hg := Draw.gdrew v6
  have hz := hg.size
  have HZ6 := Lib.hid hz; clear hz
  replace G := Lib.hid (gtr G.out hg)
  replace B := Lib.hid (B.out.keptN hg)
  replace A := Lib.hid (A.out.keptN hg)
  replace W := Lib.hid (W.out.keptN hg)
  replace Z := Lib.hid (Z.out.keptN hg)
  replace X := Lib.hid (X.out.keptN hg)
  replace XB := Lib.hid (XB.out.keptN hg)
  replace Q := Lib.hid (Q.out.keptN hg)
  replace Y := Lib.hid (Y.out.keptN hg)
  clear hg
  generalize (v6).drew = v7 at *
  refine wpAnyH_take (i := 0) (oi := ⟨some 49, _, _, _, _, _⟩) (v := ?_) rfl (by kernel_rfl) (by kernel_rfl) (by kernel_rfl) (fun _ _ _ h => h) (Or.inl ⟨by rfl, ?_⟩) (by assumption) ?_
  rotate_left
  · intro w hSw; (try dsimp only at hSw); go_simp; try with_reducible rfl
  simp only [Act.put, List.setIfInBounds_toArray, List.set_cons_zero, List.set_cons_succ]
  refine wpAnyH_take (i := 1) (oi := ⟨some 50, _, _, _, _, _⟩) (v := ?_) rfl (by kernel_rfl) (by kernel_rfl) (by kernel_rfl) (fun _ _ _ h => h) (Or.inl ⟨by rfl, ?_⟩) (by assumption) ?_
  rotate_left
  · intro w hSw; (try dsimp only at hSw); go_simp; try with_reducible rfl
  simp only [Act.put, List.setIfInBounds_toArray, List.set_cons_zero, List.set_cons_succ]
  refine wpAnyH_ready (rs := [2]) (by kernel_rfl) (by simp) ?_
  refine AllReadyH.cons (o := ⟨some 51, _, _, _, _, _⟩) rfl (fun Kq hKq => ?_) AllReadyH.nil
  go_simp
  go_at_call 56
  refine (tosesO _ need many _ ng _ zg _ nc _ zc msg _ n _ S A.out.i1 A.out.i2 A.out.i3 hl1 hl2 hl3 (0) (Nat.zero_le _)).mono ?_
  rintro e v8 ⟨yb1, yb2, yb3, rfl, ho, hg⟩
  have T := Lib.hid ho; clear ho
  have hz := hg.size
  have HZ7 := Lib.hid hz; clear hz
  replace G := Lib.hid (gtr G.out hg)
  replace B := Lib.hid (B.out.keptN hg)
  replace A := Lib.hid (A.out.keptN hg)
  replace W := Lib.hid (W.out.keptN hg)
  replace Z := Lib.hid (Z.out.keptN hg)
  replace X := Lib.hid (X.out.keptN hg)
  replace XB := Lib.hid (XB.out.keptN hg)
  replace Q := Lib.hid (Q.out.keptN hg)
  replace Y := Lib.hid (Y.out.keptN hg)
  clear hg
  refine hKq.out _ _ (⟨B.out.cell 0, B.out.cell 1, B.out.cell 2, B.out.cell 3, B.out.cell 4, B.out.cell 5, Z.out.cell 0, Z.out.cell 1, Z.out.cell 2, Z.out.cell 3, Z.out.cell 4, Z.out.cell 5, XB.out.cell 0, XB.out.cell 1, XB.out.cell 2, XB.out.cell 3, XB.out.cell 4, XB.out.cell 5, Y.out.cell 0, Y.out.cell 1, Y.out.cell 2, Y.out.cell 3, Y.out.cell 4, Y.out.cell 5⟩) (fun hHeld => ?_)
  clear hKq Kq
  refine wpAnyH_ready (rs := [3]) (by kernel_rfl) (by simp) ?_
  refine AllReadyH.cons (o := ⟨some 52, _, _, _, _, _⟩) rfl (fun Kq hKq => ?_) AllReadyH.nil
  go_simp
  go_at_call 48
  refine (eqses _ need many _ _ _ _ ng _ _ zg nc _ _ zc msg _ _ n _ _ S X.out.s.i1 X.out.s.i2 T.out.s.i1 T.out.s.i2 X.out.s.i3 T.out.s.i3 hl1 hl2 hl3).mono ?_
  rintro e v9 ⟨rfl, hg⟩
  clear T
  have hz := hg.size
  have HZ8 := Lib.hid hz; clear hz
  replace G := Lib.hid (gtr G.out hg)
  replace B := Lib.hid (B.out.keptN hg)
  replace A := Lib.hid (A.out.keptN hg)
  replace W := Lib.hid (W.out.keptN hg)
  replace Z := Lib.hid (Z.out.keptN hg)
  replace X := Lib.hid (X.out.keptN hg)
  replace XB := Lib.hid (XB.out.keptN hg)
  replace Q := Lib.hid (Q.out.keptN hg)
  replace Y := Lib.hid (Y.out.keptN hg)
  clear hg
  refine hKq.out _ _ (⟨B.out.cell 0, B.out.cell 1, B.out.cell 2, B.out.cell 3, B.out.cell 4, B.out.cell 5, Z.out.cell 0, Z.out.cell 1, Z.out.cell 2, Z.out.cell 3, Z.out.cell 4, Z.out.cell 5, XB.out.cell 0, XB.out.cell 1, XB.out.cell 2, XB.out.cell 3, XB.out.cell 4, XB.out.cell 5, Y.out.cell 0, Y.out.cell 1, Y.out.cell 2, Y.out.cell 3, Y.out.cell 4, Y.out.cell 5⟩) (fun hHeld => ?_)
  clear hKq Kq
  refine wpAnyH_take (i := 4) (oi := ⟨some 53, _, _, _, _, _⟩) (v := ?_) rfl (by kernel_rfl) (by kernel_rfl) (by kernel_rfl) (fun _ _ _ h => h) (Or.inl ⟨by rfl, ?_⟩) (by assumption) ?_
  rotate_left
  · intro w hSw; (try dsimp only at hSw); go_simp; try with_reducible rfl
  simp only [Act.put, List.setIfInBounds_toArray, List.set_cons_zero, List.set_cons_succ]
  refine wpAnyH_done (by kernel_rfl) ?_ _
  have X0 := X
  clear X
  have B_0 : World.cell? _ ⟨w.heap.size, 0, none⟩ = some (.int .i64 need) := B.out.cell 0
  have B_1 : World.cell? _ ⟨w.heap.size, 1, none⟩ = some (.int .i64 many) := B.out.cell 1
  have B_2 : World.cell? _ ⟨w.heap.size, 2, none⟩ = some (.slice ag ng cg) := B.out.cell 2
  have B_3 : World.cell? _ ⟨w.heap.size, 3, none⟩ = some (.slice ac nc cc) := B.out.cell 3
  have B_4 : World.cell? _ ⟨w.heap.size, 4, none⟩ = some (.int .i64 msg) := B.out.cell 4
  have B_5 : World.cell? _ ⟨w.heap.size, 5, none⟩ = some (.slice a n c) := B.out.cell 5
  have B_l := B.out.lt
  have Z_0 : World.cell? _ ⟨v3.heap.size, 0, none⟩ = some (.int .i64 qn) := Z.out.cell 0
  have Z_1 : World.cell? _ ⟨v3.heap.size, 1, none⟩ = some (.int .i64 qm) := Z.out.cell 1
  have Z_2 : World.cell? _ ⟨v3.heap.size, 2, none⟩ = some (.slice wa1 qg wc1) := Z.out.cell 2
  have Z_3 : World.cell? _ ⟨v3.heap.size, 3, none⟩ = some (.slice wa2 qc wc2) := Z.out.cell 3
  have Z_4 : World.cell? _ ⟨v3.heap.size, 4, none⟩ = some (.int .i64 qs) := Z.out.cell 4
  have Z_5 : World.cell? _ ⟨v3.heap.size, 5, none⟩ = some (.slice wa3 qk wc3) := Z.out.cell 5
  have Z_l := Z.out.lt
  have XB_0 : World.cell? _ ⟨v4.heap.size, 0, none⟩ = some (.int .i64 need) := XB.out.cell 0
  have XB_1 : World.cell? _ ⟨v4.heap.size, 1, none⟩ = some (.int .i64 many) := XB.out.cell 1
  have XB_2 : World.cell? _ ⟨v4.heap.size, 2, none⟩ = some (.slice (some ⟨xb1, 0, none⟩) ng ng) := XB.out.cell 2
  have XB_3 : World.cell? _ ⟨v4.heap.size, 3, none⟩ = some (.slice (some ⟨xb2, 0, none⟩) nc nc) := XB.out.cell 3
  have XB_4 : World.cell? _ ⟨v4.heap.size, 4, none⟩ = some (.int .i64 msg) := XB.out.cell 4
  have XB_5 : World.cell? _ ⟨v4.heap.size, 5, none⟩ = some (.slice (some ⟨xb3, 0, none⟩) n n) := XB.out.cell 5
  have XB_l := XB.out.lt
  have Y_0 : World.cell? _ ⟨v5.heap.size, 0, none⟩ = some (.int .i64 qn) := Y.out.cell 0
  have Y_1 : World.cell? _ ⟨v5.heap.size, 1, none⟩ = some (.int .i64 qm) := Y.out.cell 1
  have Y_2 : World.cell? _ ⟨v5.heap.size, 2, none⟩ = some (.slice ga1 qg gc1) := Y.out.cell 2
  have Y_3 : World.cell? _ ⟨v5.heap.size, 3, none⟩ = some (.slice ga2 qc gc2) := Y.out.cell 3
  have Y_4 : World.cell? _ ⟨v5.heap.size, 4, none⟩ = some (.int .i64 qs) := Y.out.cell 4
  have Y_5 : World.cell? _ ⟨v5.heap.size, 5, none⟩ = some (.slice ga3 qk gc3) := Y.out.cell 5
  have Y_l := Y.out.lt
  go_wp2_with fail
  refine (marksesE _ need many _ _ _ _ _ ng nc n _ _ _ zg zc S msg 1 X0.out hl1 hl2 hl3 (by omega)).mono ?_
  rintro e v10 ⟨rfl, hs, hq⟩
  clear B_0 B_1 B_2 B_3 B_4 B_5 Z_0 Z_1 Z_2 Z_3 Z_4 Z_5 XB_0 XB_1 XB_2 XB_3 XB_4 XB_5 Y_0 Y_1 Y_2 Y_3 Y_4 Y_5 B_l Z_l XB_l Y_l
  clear hs
  have q0 := HZ0.out
  have q1 := HZ1.out
  have q2 := HZ2.out
  have q3 := HZ3.out
  have q4 := HZ4.out
  have q5 := HZ5.out
  have q6 := HZ6.out
  have q7 := HZ7.out
  have q8 := HZ8.out
  have hz := hq.size
  have hGq := Lib.hid hq
  replace G := Lib.hid (chQ G.out hq (by omega))
  replace B := Lib.hid (blk_Q B.out hq (by omega))
  replace A := Lib.hid (A.out.keptQ hq (by omega))
  replace W := Lib.hid (W.out.keptQ hq (by omega))
  replace Z := Lib.hid (blk_Q Z.out hq (by omega))
  replace XB := Lib.hid (blk_Q XB.out hq (by omega))
  replace Q := Lib.hid (Q.out.keptQ hq (by omega))
  replace Y := Lib.hid (blk_Q Y.out hq (by omega))
  clear hq
  clear q0 q1 q2 q3 q4 q5 q6 q7 q8
  have HZ9 := Lib.hid hz; clear hz hGq
  clear X0
  have hk1 : ¬ ((1 + ng + nc + 4 * n : Nat) : Int) < 0 := by omega
  have B_0 : World.cell? _ ⟨w.heap.size, 0, none⟩ = some (.int .i64 need) := B.out.cell 0
  have B_1 : World.cell? _ ⟨w.heap.size, 1, none⟩ = some (.int .i64 many) := B.out.cell 1
  have B_2 : World.cell? _ ⟨w.heap.size, 2, none⟩ = some (.slice ag ng cg) := B.out.cell 2
  have B_3 : World.cell? _ ⟨w.heap.size, 3, none⟩ = some (.slice ac nc cc) := B.out.cell 3
  have B_4 : World.cell? _ ⟨w.heap.size, 4, none⟩ = some (.int .i64 msg) := B.out.cell 4
  have B_5 : World.cell? _ ⟨w.heap.size, 5, none⟩ = some (.slice a n c) := B.out.cell 5
  have B_l := B.out.lt
  have Z_0 : World.cell? _ ⟨v3.heap.size, 0, none⟩ = some (.int .i64 qn) := Z.out.cell 0
  have Z_1 : World.cell? _ ⟨v3.heap.size, 1, none⟩ = some (.int .i64 qm) := Z.out.cell 1
  have Z_2 : World.cell? _ ⟨v3.heap.size, 2, none⟩ = some (.slice wa1 qg wc1) := Z.out.cell 2
  have Z_3 : World.cell? _ ⟨v3.heap.size, 3, none⟩ = some (.slice wa2 qc wc2) := Z.out.cell 3
  have Z_4 : World.cell? _ ⟨v3.heap.size, 4, none⟩ = some (.int .i64 qs) := Z.out.cell 4
  have Z_5 : World.cell? _ ⟨v3.heap.size, 5, none⟩ = some (.slice wa3 qk wc3) := Z.out.cell 5
  have Z_l := Z.out.lt
  have XB_0 : World.cell? _ ⟨v4.heap.size, 0, none⟩ = some (.int .i64 need) := XB.out.cell 0
  have XB_1 : World.cell? _ ⟨v4.heap.size, 1, none⟩ = some (.int .i64 many) := XB.out.cell 1
  have XB_2 : World.cell? _ ⟨v4.heap.size, 2, none⟩ = some (.slice (some ⟨xb1, 0, none⟩) ng ng) := XB.out.cell 2
  have XB_3 : World.cell? _ ⟨v4.heap.size, 3, none⟩ = some (.slice (some ⟨xb2, 0, none⟩) nc nc) := XB.out.cell 3
  have XB_4 : World.cell? _ ⟨v4.heap.size, 4, none⟩ = some (.int .i64 msg) := XB.out.cell 4
  have XB_5 : World.cell? _ ⟨v4.heap.size, 5, none⟩ = some (.slice (some ⟨xb3, 0, none⟩) n n) := XB.out.cell 5
  have XB_l := XB.out.lt
  have Y_0 : World.cell? _ ⟨v5.heap.size, 0, none⟩ = some (.int .i64 qn) := Y.out.cell 0
  have Y_1 : World.cell? _ ⟨v5.heap.size, 1, none⟩ = some (.int .i64 qm) := Y.out.cell 1
  have Y_2 : World.cell? _ ⟨v5.heap.size, 2, none⟩ = some (.slice ga1 qg gc1) := Y.out.cell 2
  have Y_3 : World.cell? _ ⟨v5.heap.size, 3, none⟩ = some (.slice ga2 qc gc2) := Y.out.cell 3
  have Y_4 : World.cell? _ ⟨v5.heap.size, 4, none⟩ = some (.int .i64 qs) := Y.out.cell 4
  have Y_5 : World.cell? _ ⟨v5.heap.size, 5, none⟩ = some (.slice ga3 qk gc3) := Y.out.cell 5
  have Y_l := Y.out.lt
  go_wp2_with fail
  refine (eqses _ qn qm _ _ _ _ qg _ _ qzg qc _ _ qzc qs _ _ qk _ _ qS Q.out.s.i1 Q.out.s.i2 W.out.i1 W.out.i2 Q.out.s.i3 W.out.i3 hq1 hq2 hq3).mono ?_
  rintro e v11 ⟨rfl, hg⟩
  clear B_0 B_1 B_2 B_3 B_4 B_5 Z_0 Z_1 Z_2 Z_3 Z_4 Z_5 XB_0 XB_1 XB_2 XB_3 XB_4 XB_5 Y_0 Y_1 Y_2 Y_3 Y_4 Y_5 B_l Z_l XB_l Y_l
  have hz := hg.size
  have HZ10 := Lib.hid hz; clear hz
  replace G := Lib.hid (gtr G.out hg)
  replace B := Lib.hid (B.out.keptN hg)
  replace A := Lib.hid (A.out.keptN hg)
  replace W := Lib.hid (W.out.keptN hg)
  replace Z := Lib.hid (Z.out.keptN hg)
  replace XB := Lib.hid (XB.out.keptN hg)
  replace Q := Lib.hid (Q.out.keptN hg)
  replace Y := Lib.hid (Y.out.keptN hg)
  clear hg
  have Q0 := Q
  clear Q
  have B_0 : World.cell? _ ⟨w.heap.size, 0, none⟩ = some (.int .i64 need) := B.out.cell 0
  have B_1 : World.cell? _ ⟨w.heap.size, 1, none⟩ = some (.int .i64 many) := B.out.cell 1
  have B_2 : World.cell? _ ⟨w.heap.size, 2, none⟩ = some (.slice ag ng cg) := B.out.cell 2
  have B_3 : World.cell? _ ⟨w.heap.size, 3, none⟩ = some (.slice ac nc cc) := B.out.cell 3
  have B_4 : World.cell? _ ⟨w.heap.size, 4, none⟩ = some (.int .i64 msg) := B.out.cell 4
  have B_5 : World.cell? _ ⟨w.heap.size, 5, none⟩ = some (.slice a n c) := B.out.cell 5
  have B_l := B.out.lt
  have Z_0 : World.cell? _ ⟨v3.heap.size, 0, none⟩ = some (.int .i64 qn) := Z.out.cell 0
  have Z_1 : World.cell? _ ⟨v3.heap.size, 1, none⟩ = some (.int .i64 qm) := Z.out.cell 1
  have Z_2 : World.cell? _ ⟨v3.heap.size, 2, none⟩ = some (.slice wa1 qg wc1) := Z.out.cell 2
  have Z_3 : World.cell? _ ⟨v3.heap.size, 3, none⟩ = some (.slice wa2 qc wc2) := Z.out.cell 3
  have Z_4 : World.cell? _ ⟨v3.heap.size, 4, none⟩ = some (.int .i64 qs) := Z.out.cell 4
  have Z_5 : World.cell? _ ⟨v3.heap.size, 5, none⟩ = some (.slice wa3 qk wc3) := Z.out.cell 5
  have Z_l := Z.out.lt
  have XB_0 : World.cell? _ ⟨v4.heap.size, 0, none⟩ = some (.int .i64 need) := XB.out.cell 0
  have XB_1 : World.cell? _ ⟨v4.heap.size, 1, none⟩ = some (.int .i64 many) := XB.out.cell 1
  have XB_2 : World.cell? _ ⟨v4.heap.size, 2, none⟩ = some (.slice (some ⟨xb1, 0, none⟩) ng ng) := XB.out.cell 2
  have XB_3 : World.cell? _ ⟨v4.heap.size, 3, none⟩ = some (.slice (some ⟨xb2, 0, none⟩) nc nc) := XB.out.cell 3
  have XB_4 : World.cell? _ ⟨v4.heap.size, 4, none⟩ = some (.int .i64 msg) := XB.out.cell 4
  have XB_5 : World.cell? _ ⟨v4.heap.size, 5, none⟩ = some (.slice (some ⟨xb3, 0, none⟩) n n) := XB.out.cell 5
  have XB_l := XB.out.lt
  have Y_0 : World.cell? _ ⟨v5.heap.size, 0, none⟩ = some (.int .i64 qn) := Y.out.cell 0
  have Y_1 : World.cell? _ ⟨v5.heap.size, 1, none⟩ = some (.int .i64 qm) := Y.out.cell 1
  have Y_2 : World.cell? _ ⟨v5.heap.size, 2, none⟩ = some (.slice ga1 qg gc1) := Y.out.cell 2
  have Y_3 : World.cell? _ ⟨v5.heap.size, 3, none⟩ = some (.slice ga2 qc gc2) := Y.out.cell 3
  have Y_4 : World.cell? _ ⟨v5.heap.size, 4, none⟩ = some (.int .i64 qs) := Y.out.cell 4
  have Y_5 : World.cell? _ ⟨v5.heap.size, 5, none⟩ = some (.slice ga3 qk gc3) := Y.out.cell 5
  have Y_l := Y.out.lt
  go_wp2_with fail
  refine (marksesE _ qn qm _ _ _ _ _ qg qc qk _ _ _ qzg qzc qS qs 1 Q0.out hq1 hq2 hq3 (by omega)).mono ?_
  rintro e v12 ⟨rfl, hs, hq⟩
  clear B_0 B_1 B_2 B_3 B_4 B_5 Z_0 Z_1 Z_2 Z_3 Z_4 Z_5 XB_0 XB_1 XB_2 XB_3 XB_4 XB_5 Y_0 Y_1 Y_2 Y_3 Y_4 Y_5 B_l Z_l XB_l Y_l
  have M := Lib.hid (hs)
  clear hs
  have q0 := HZ0.out
  have q1 := HZ1.out
  have q2 := HZ2.out
  have q3 := HZ3.out
  have q4 := HZ4.out
  have q5 := HZ5.out
  have q6 := HZ6.out
  have q7 := HZ7.out
  have q8 := HZ8.out
  have q9 := HZ9.out
  have q10 := HZ10.out
  have hz := hq.size
  have hGq := Lib.hid hq
  replace G := Lib.hid (chQ G.out hq (by omega))
  replace B := Lib.hid (blk_Q B.out hq (by omega))
  replace A := Lib.hid (A.out.keptQ hq (by omega))
  replace W := Lib.hid (W.out.keptQ hq (by omega))
  replace Z := Lib.hid (blk_Q Z.out hq (by omega))
  replace XB := Lib.hid (blk_Q XB.out hq (by omega))
  replace Y := Lib.hid (blk_Q Y.out hq (by omega))
  clear hq
  clear q0 q1 q2 q3 q4 q5 q6 q7 q8 q9 q10
  have HZ11 := Lib.hid hz; clear hz hGq
  clear Q0
  have hk2 : ¬ ((1 + qg + qc + 4 * qk : Nat) : Int) < 0 := by omega
  have hk3 : (((1 + qg + qc + 4 * qk : Nat) : Int) != ((1 + qg + qc + 4 * qk : Nat) : Int)) = false := by simp
  have B_0 : World.cell? _ ⟨w.heap.size, 0, none⟩ = some (.int .i64 need) := B.out.cell 0
  have B_1 : World.cell? _ ⟨w.heap.size, 1, none⟩ = some (.int .i64 many) := B.out.cell 1
  have B_2 : World.cell? _ ⟨w.heap.size, 2, none⟩ = some (.slice ag ng cg) := B.out.cell 2
  have B_3 : World.cell? _ ⟨w.heap.size, 3, none⟩ = some (.slice ac nc cc) := B.out.cell 3
  have B_4 : World.cell? _ ⟨w.heap.size, 4, none⟩ = some (.int .i64 msg) := B.out.cell 4
  have B_5 : World.cell? _ ⟨w.heap.size, 5, none⟩ = some (.slice a n c) := B.out.cell 5
  have B_l := B.out.lt
  have Z_0 : World.cell? _ ⟨v3.heap.size, 0, none⟩ = some (.int .i64 qn) := Z.out.cell 0
  have Z_1 : World.cell? _ ⟨v3.heap.size, 1, none⟩ = some (.int .i64 qm) := Z.out.cell 1
  have Z_2 : World.cell? _ ⟨v3.heap.size, 2, none⟩ = some (.slice wa1 qg wc1) := Z.out.cell 2
  have Z_3 : World.cell? _ ⟨v3.heap.size, 3, none⟩ = some (.slice wa2 qc wc2) := Z.out.cell 3
  have Z_4 : World.cell? _ ⟨v3.heap.size, 4, none⟩ = some (.int .i64 qs) := Z.out.cell 4
  have Z_5 : World.cell? _ ⟨v3.heap.size, 5, none⟩ = some (.slice wa3 qk wc3) := Z.out.cell 5
  have Z_l := Z.out.lt
  have XB_0 : World.cell? _ ⟨v4.heap.size, 0, none⟩ = some (.int .i64 need) := XB.out.cell 0
  have XB_1 : World.cell? _ ⟨v4.heap.size, 1, none⟩ = some (.int .i64 many) := XB.out.cell 1
  have XB_2 : World.cell? _ ⟨v4.heap.size, 2, none⟩ = some (.slice (some ⟨xb1, 0, none⟩) ng ng) := XB.out.cell 2
  have XB_3 : World.cell? _ ⟨v4.heap.size, 3, none⟩ = some (.slice (some ⟨xb2, 0, none⟩) nc nc) := XB.out.cell 3
  have XB_4 : World.cell? _ ⟨v4.heap.size, 4, none⟩ = some (.int .i64 msg) := XB.out.cell 4
  have XB_5 : World.cell? _ ⟨v4.heap.size, 5, none⟩ = some (.slice (some ⟨xb3, 0, none⟩) n n) := XB.out.cell 5
  have XB_l := XB.out.lt
  have Y_0 : World.cell? _ ⟨v5.heap.size, 0, none⟩ = some (.int .i64 qn) := Y.out.cell 0
  have Y_1 : World.cell? _ ⟨v5.heap.size, 1, none⟩ = some (.int .i64 qm) := Y.out.cell 1
  have Y_2 : World.cell? _ ⟨v5.heap.size, 2, none⟩ = some (.slice ga1 qg gc1) := Y.out.cell 2
  have Y_3 : World.cell? _ ⟨v5.heap.size, 3, none⟩ = some (.slice ga2 qc gc2) := Y.out.cell 3
  have Y_4 : World.cell? _ ⟨v5.heap.size, 4, none⟩ = some (.int .i64 qs) := Y.out.cell 4
  have Y_5 : World.cell? _ ⟨v5.heap.size, 5, none⟩ = some (.slice ga3 qk gc3) := Y.out.cell 5
  have Y_l := Y.out.lt
  go_wp2_with fail
  refine (heldses _ qn qm _ _ _ qg qc qk _ _ _ qs 1 M.out.i1 M.out.i2 M.out.i3 hq1 hq2 hq3 (by omega)).mono ?_
  rintro e v13 ⟨rfl, hg⟩
  clear B_0 B_1 B_2 B_3 B_4 B_5 Z_0 Z_1 Z_2 Z_3 Z_4 Z_5 XB_0 XB_1 XB_2 XB_3 XB_4 XB_5 Y_0 Y_1 Y_2 Y_3 Y_4 Y_5 B_l Z_l XB_l Y_l
  have hz := hg.size
  have HZ12 := Lib.hid hz; clear hz
  replace G := Lib.hid (gtr G.out hg)
  replace B := Lib.hid (B.out.keptN hg)
  replace A := Lib.hid (A.out.keptN hg)
  replace W := Lib.hid (W.out.keptN hg)
  replace Z := Lib.hid (Z.out.keptN hg)
  replace XB := Lib.hid (XB.out.keptN hg)
  replace Y := Lib.hid (Y.out.keptN hg)
  replace M := Lib.hid (M.out.keptN hg)
  clear hg
  have B_0 : World.cell? _ ⟨w.heap.size, 0, none⟩ = some (.int .i64 need) := B.out.cell 0
  have B_1 : World.cell? _ ⟨w.heap.size, 1, none⟩ = some (.int .i64 many) := B.out.cell 1
  have B_2 : World.cell? _ ⟨w.heap.size, 2, none⟩ = some (.slice ag ng cg) := B.out.cell 2
  have B_3 : World.cell? _ ⟨w.heap.size, 3, none⟩ = some (.slice ac nc cc) := B.out.cell 3
  have B_4 : World.cell? _ ⟨w.heap.size, 4, none⟩ = some (.int .i64 msg) := B.out.cell 4
  have B_5 : World.cell? _ ⟨w.heap.size, 5, none⟩ = some (.slice a n c) := B.out.cell 5
  have B_l := B.out.lt
  have Z_0 : World.cell? _ ⟨v3.heap.size, 0, none⟩ = some (.int .i64 qn) := Z.out.cell 0
  have Z_1 : World.cell? _ ⟨v3.heap.size, 1, none⟩ = some (.int .i64 qm) := Z.out.cell 1
  have Z_2 : World.cell? _ ⟨v3.heap.size, 2, none⟩ = some (.slice wa1 qg wc1) := Z.out.cell 2
  have Z_3 : World.cell? _ ⟨v3.heap.size, 3, none⟩ = some (.slice wa2 qc wc2) := Z.out.cell 3
  have Z_4 : World.cell? _ ⟨v3.heap.size, 4, none⟩ = some (.int .i64 qs) := Z.out.cell 4
  have Z_5 : World.cell? _ ⟨v3.heap.size, 5, none⟩ = some (.slice wa3 qk wc3) := Z.out.cell 5
  have Z_l := Z.out.lt
  have XB_0 : World.cell? _ ⟨v4.heap.size, 0, none⟩ = some (.int .i64 need) := XB.out.cell 0
  have XB_1 : World.cell? _ ⟨v4.heap.size, 1, none⟩ = some (.int .i64 many) := XB.out.cell 1
  have XB_2 : World.cell? _ ⟨v4.heap.size, 2, none⟩ = some (.slice (some ⟨xb1, 0, none⟩) ng ng) := XB.out.cell 2
  have XB_3 : World.cell? _ ⟨v4.heap.size, 3, none⟩ = some (.slice (some ⟨xb2, 0, none⟩) nc nc) := XB.out.cell 3
  have XB_4 : World.cell? _ ⟨v4.heap.size, 4, none⟩ = some (.int .i64 msg) := XB.out.cell 4
  have XB_5 : World.cell? _ ⟨v4.heap.size, 5, none⟩ = some (.slice (some ⟨xb3, 0, none⟩) n n) := XB.out.cell 5
  have XB_l := XB.out.lt
  have Y_0 : World.cell? _ ⟨v5.heap.size, 0, none⟩ = some (.int .i64 qn) := Y.out.cell 0
  have Y_1 : World.cell? _ ⟨v5.heap.size, 1, none⟩ = some (.int .i64 qm) := Y.out.cell 1
  have Y_2 : World.cell? _ ⟨v5.heap.size, 2, none⟩ = some (.slice ga1 qg gc1) := Y.out.cell 2
  have Y_3 : World.cell? _ ⟨v5.heap.size, 3, none⟩ = some (.slice ga2 qc gc2) := Y.out.cell 3
  have Y_4 : World.cell? _ ⟨v5.heap.size, 4, none⟩ = some (.int .i64 qs) := Y.out.cell 4
  have Y_5 : World.cell? _ ⟨v5.heap.size, 5, none⟩ = some (.slice ga3 qk gc3) := Y.out.cell 5
  have Y_l := Y.out.lt
  go_wp2_with fail
  refine (tosesO _ need many _ ng _ zg _ nc _ zc msg _ n _ S A.out.i1 A.out.i2 A.out.i3 hl1 hl2 hl3 (0) (Nat.zero_le _)).mono ?_
  rintro e v14 ⟨ub1, ub2, ub3, rfl, ho, hg⟩
  clear B_0 B_1 B_2 B_3 B_4 B_5 Z_0 Z_1 Z_2 Z_3 Z_4 Z_5 XB_0 XB_1 XB_2 XB_3 XB_4 XB_5 Y_0 Y_1 Y_2 Y_3 Y_4 Y_5 B_l Z_l XB_l Y_l
  have hz := hg.size
  have HZ13 := Lib.hid hz; clear hz
  replace G := Lib.hid (gtr G.out hg)
  replace B := Lib.hid (B.out.keptN hg)
  replace A := Lib.hid (A.out.keptN hg)
  replace W := Lib.hid (W.out.keptN hg)
  replace Z := Lib.hid (Z.out.keptN hg)
  replace XB := Lib.hid (XB.out.keptN hg)
  replace Y := Lib.hid (Y.out.keptN hg)
  replace M := Lib.hid (M.out.keptN hg)
  clear hg
  have SO := Lib.hid (ho)
  clear ho
  have B_0 : World.cell? _ ⟨w.heap.size, 0, none⟩ = some (.int .i64 need) := B.out.cell 0
  have B_1 : World.cell? _ ⟨w.heap.size, 1, none⟩ = some (.int .i64 many) := B.out.cell 1
  have B_2 : World.cell? _ ⟨w.heap.size, 2, none⟩ = some (.slice ag ng cg) := B.out.cell 2
  have B_3 : World.cell? _ ⟨w.heap.size, 3, none⟩ = some (.slice ac nc cc) := B.out.cell 3
  have B_4 : World.cell? _ ⟨w.heap.size, 4, none⟩ = some (.int .i64 msg) := B.out.cell 4
  have B_5 : World.cell? _ ⟨w.heap.size, 5, none⟩ = some (.slice a n c) := B.out.cell 5
  have B_l := B.out.lt
  have Z_0 : World.cell? _ ⟨v3.heap.size, 0, none⟩ = some (.int .i64 qn) := Z.out.cell 0
  have Z_1 : World.cell? _ ⟨v3.heap.size, 1, none⟩ = some (.int .i64 qm) := Z.out.cell 1
  have Z_2 : World.cell? _ ⟨v3.heap.size, 2, none⟩ = some (.slice wa1 qg wc1) := Z.out.cell 2
  have Z_3 : World.cell? _ ⟨v3.heap.size, 3, none⟩ = some (.slice wa2 qc wc2) := Z.out.cell 3
  have Z_4 : World.cell? _ ⟨v3.heap.size, 4, none⟩ = some (.int .i64 qs) := Z.out.cell 4
  have Z_5 : World.cell? _ ⟨v3.heap.size, 5, none⟩ = some (.slice wa3 qk wc3) := Z.out.cell 5
  have Z_l := Z.out.lt
  have XB_0 : World.cell? _ ⟨v4.heap.size, 0, none⟩ = some (.int .i64 need) := XB.out.cell 0
  have XB_1 : World.cell? _ ⟨v4.heap.size, 1, none⟩ = some (.int .i64 many) := XB.out.cell 1
  have XB_2 : World.cell? _ ⟨v4.heap.size, 2, none⟩ = some (.slice (some ⟨xb1, 0, none⟩) ng ng) := XB.out.cell 2
  have XB_3 : World.cell? _ ⟨v4.heap.size, 3, none⟩ = some (.slice (some ⟨xb2, 0, none⟩) nc nc) := XB.out.cell 3
  have XB_4 : World.cell? _ ⟨v4.heap.size, 4, none⟩ = some (.int .i64 msg) := XB.out.cell 4
  have XB_5 : World.cell? _ ⟨v4.heap.size, 5, none⟩ = some (.slice (some ⟨xb3, 0, none⟩) n n) := XB.out.cell 5
  have XB_l := XB.out.lt
  have Y_0 : World.cell? _ ⟨v5.heap.size, 0, none⟩ = some (.int .i64 qn) := Y.out.cell 0
  have Y_1 : World.cell? _ ⟨v5.heap.size, 1, none⟩ = some (.int .i64 qm) := Y.out.cell 1
  have Y_2 : World.cell? _ ⟨v5.heap.size, 2, none⟩ = some (.slice ga1 qg gc1) := Y.out.cell 2
  have Y_3 : World.cell? _ ⟨v5.heap.size, 3, none⟩ = some (.slice ga2 qc gc2) := Y.out.cell 3
  have Y_4 : World.cell? _ ⟨v5.heap.size, 4, none⟩ = some (.int .i64 qs) := Y.out.cell 4
  have Y_5 : World.cell? _ ⟨v5.heap.size, 5, none⟩ = some (.slice ga3 qk gc3) := Y.out.cell 5
  have Y_l := Y.out.lt
  go_wp2_with fail
  refine (i32put _ need many _ ng _ zg _ nc _ zc msg _ n _ S m z SO.out.s.i1 SO.out.s.i2 SO.out.s.i3 (.inl ⟨_, rfl⟩) (.inl ⟨_, rfl⟩) (.inl ⟨_, rfl⟩) hl1 hl2 hl3).mono ?_
  rintro e v15 h
  obtain ⟨ha1, hc1, ha2, hc2, ha3, hc3, rfl, ho, hg⟩ := HU.out _ _ _ h
  clear B_0 B_1 B_2 B_3 B_4 B_5 Z_0 Z_1 Z_2 Z_3 Z_4 Z_5 XB_0 XB_1 XB_2 XB_3 XB_4 XB_5 Y_0 Y_1 Y_2 Y_3 Y_4 Y_5 B_l Z_l XB_l Y_l
  have hz := hg.size
  have HZ14 := Lib.hid hz; clear hz
  replace G := Lib.hid (gtr G.out hg)
  replace B := Lib.hid (B.out.keptN hg)
  replace A := Lib.hid (A.out.keptN hg)
  replace W := Lib.hid (W.out.keptN hg)
  replace Z := Lib.hid (Z.out.keptN hg)
  replace XB := Lib.hid (XB.out.keptN hg)
  replace Y := Lib.hid (Y.out.keptN hg)
  replace M := Lib.hid (M.out.keptN hg)
  clear hg
  clear h SO
  have K := Lib.hid (ho.s)
  clear ho
  have hg := Draw.grown_alloc v15 (.cells #[.int .i64 qn, .int .i64 qm, .slice ha1 qg hc1, .slice ha2 qc hc2, .int .i64 qs, .slice ha3 qk hc3] 66) none
  have HB := Lib.hid (Blk.new v15 #[.int .i64 qn, .int .i64 qm, .slice ha1 qg hc1, .slice ha2 qc hc2, .int .i64 qs, .slice ha3 qk hc3] 66)
  replace G := Lib.hid (gtr G.out hg)
  replace B := Lib.hid (B.out.keptN hg)
  replace A := Lib.hid (A.out.keptN hg)
  replace W := Lib.hid (W.out.keptN hg)
  replace Z := Lib.hid (Z.out.keptN hg)
  replace XB := Lib.hid (XB.out.keptN hg)
  replace Y := Lib.hid (Y.out.keptN hg)
  replace M := Lib.hid (M.out.keptN hg)
  replace K := Lib.hid (K.out.keptN hg)
  clear hg
  have B_0 : World.cell? _ ⟨w.heap.size, 0, none⟩ = some (.int .i64 need) := B.out.cell 0
  have B_1 : World.cell? _ ⟨w.heap.size, 1, none⟩ = some (.int .i64 many) := B.out.cell 1
  have B_2 : World.cell? _ ⟨w.heap.size, 2, none⟩ = some (.slice ag ng cg) := B.out.cell 2
  have B_3 : World.cell? _ ⟨w.heap.size, 3, none⟩ = some (.slice ac nc cc) := B.out.cell 3
  have B_4 : World.cell? _ ⟨w.heap.size, 4, none⟩ = some (.int .i64 msg) := B.out.cell 4
  have B_5 : World.cell? _ ⟨w.heap.size, 5, none⟩ = some (.slice a n c) := B.out.cell 5
  have B_l := B.out.lt
  have Z_0 : World.cell? _ ⟨v3.heap.size, 0, none⟩ = some (.int .i64 qn) := Z.out.cell 0
  have Z_1 : World.cell? _ ⟨v3.heap.size, 1, none⟩ = some (.int .i64 qm) := Z.out.cell 1
  have Z_2 : World.cell? _ ⟨v3.heap.size, 2, none⟩ = some (.slice wa1 qg wc1) := Z.out.cell 2
  have Z_3 : World.cell? _ ⟨v3.heap.size, 3, none⟩ = some (.slice wa2 qc wc2) := Z.out.cell 3
  have Z_4 : World.cell? _ ⟨v3.heap.size, 4, none⟩ = some (.int .i64 qs) := Z.out.cell 4
  have Z_5 : World.cell? _ ⟨v3.heap.size, 5, none⟩ = some (.slice wa3 qk wc3) := Z.out.cell 5
  have Z_l := Z.out.lt
  have XB_0 : World.cell? _ ⟨v4.heap.size, 0, none⟩ = some (.int .i64 need) := XB.out.cell 0
  have XB_1 : World.cell? _ ⟨v4.heap.size, 1, none⟩ = some (.int .i64 many) := XB.out.cell 1
  have XB_2 : World.cell? _ ⟨v4.heap.size, 2, none⟩ = some (.slice (some ⟨xb1, 0, none⟩) ng ng) := XB.out.cell 2
  have XB_3 : World.cell? _ ⟨v4.heap.size, 3, none⟩ = some (.slice (some ⟨xb2, 0, none⟩) nc nc) := XB.out.cell 3
  have XB_4 : World.cell? _ ⟨v4.heap.size, 4, none⟩ = some (.int .i64 msg) := XB.out.cell 4
  have XB_5 : World.cell? _ ⟨v4.heap.size, 5, none⟩ = some (.slice (some ⟨xb3, 0, none⟩) n n) := XB.out.cell 5
  have XB_l := XB.out.lt
  have Y_0 : World.cell? _ ⟨v5.heap.size, 0, none⟩ = some (.int .i64 qn) := Y.out.cell 0
  have Y_1 : World.cell? _ ⟨v5.heap.size, 1, none⟩ = some (.int .i64 qm) := Y.out.cell 1
  have Y_2 : World.cell? _ ⟨v5.heap.size, 2, none⟩ = some (.slice ga1 qg gc1) := Y.out.cell 2
  have Y_3 : World.cell? _ ⟨v5.heap.size, 3, none⟩ = some (.slice ga2 qc gc2) := Y.out.cell 3
  have Y_4 : World.cell? _ ⟨v5.heap.size, 4, none⟩ = some (.int .i64 qs) := Y.out.cell 4
  have Y_5 : World.cell? _ ⟨v5.heap.size, 5, none⟩ = some (.slice ga3 qk gc3) := Y.out.cell 5
  have Y_l := Y.out.lt
  have HB_0 : World.cell? _ ⟨v15.heap.size, 0, none⟩ = some (.int .i64 qn) := HB.out.cell 0
  have HB_1 : World.cell? _ ⟨v15.heap.size, 1, none⟩ = some (.int .i64 qm) := HB.out.cell 1
  have HB_2 : World.cell? _ ⟨v15.heap.size, 2, none⟩ = some (.slice ha1 qg hc1) := HB.out.cell 2
  have HB_3 : World.cell? _ ⟨v15.heap.size, 3, none⟩ = some (.slice ha2 qc hc2) := HB.out.cell 3
  have HB_4 : World.cell? _ ⟨v15.heap.size, 4, none⟩ = some (.int .i64 qs) := HB.out.cell 4
  have HB_5 : World.cell? _ ⟨v15.heap.size, 5, none⟩ = some (.slice ha3 qk hc3) := HB.out.cell 5
  have HB_l := HB.out.lt
  go_wp2_with fail
  refine (eqses _ qn qm _ _ _ _ qg _ _ qzg qc _ _ qzc qs _ _ qk _ _ qS K.out.i1 K.out.i2 W.out.i1 W.out.i2 K.out.i3 W.out.i3 hq1 hq2 hq3).mono ?_
  rintro e v16 ⟨rfl, hg⟩
  clear B_0 B_1 B_2 B_3 B_4 B_5 Z_0 Z_1 Z_2 Z_3 Z_4 Z_5 XB_0 XB_1 XB_2 XB_3 XB_4 XB_5 Y_0 Y_1 Y_2 Y_3 Y_4 Y_5 HB_0 HB_1 HB_2 HB_3 HB_4 HB_5 B_l Z_l XB_l Y_l HB_l
  have hz := hg.size; rw [World.size_alloc] at hz
  have HZ15 := Lib.hid hz; clear hz
  replace G := Lib.hid (gtr G.out hg)
  replace B := Lib.hid (B.out.keptN hg)
  replace A := Lib.hid (A.out.keptN hg)
  replace W := Lib.hid (W.out.keptN hg)
  replace Z := Lib.hid (Z.out.keptN hg)
  replace XB := Lib.hid (XB.out.keptN hg)
  replace Y := Lib.hid (Y.out.keptN hg)
  replace M := Lib.hid (M.out.keptN hg)
  replace K := Lib.hid (K.out.keptN hg)
  replace HB := Lib.hid (HB.out.keptN hg)
  clear hg
  have B_0 : World.cell? _ ⟨w.heap.size, 0, none⟩ = some (.int .i64 need) := B.out.cell 0
  have B_1 : World.cell? _ ⟨w.heap.size, 1, none⟩ = some (.int .i64 many) := B.out.cell 1
  have B_2 : World.cell? _ ⟨w.heap.size, 2, none⟩ = some (.slice ag ng cg) := B.out.cell 2
  have B_3 : World.cell? _ ⟨w.heap.size, 3, none⟩ = some (.slice ac nc cc) := B.out.cell 3
  have B_4 : World.cell? _ ⟨w.heap.size, 4, none⟩ = some (.int .i64 msg) := B.out.cell 4
  have B_5 : World.cell? _ ⟨w.heap.size, 5, none⟩ = some (.slice a n c) := B.out.cell 5
  have B_l := B.out.lt
  have Z_0 : World.cell? _ ⟨v3.heap.size, 0, none⟩ = some (.int .i64 qn) := Z.out.cell 0
  have Z_1 : World.cell? _ ⟨v3.heap.size, 1, none⟩ = some (.int .i64 qm) := Z.out.cell 1
  have Z_2 : World.cell? _ ⟨v3.heap.size, 2, none⟩ = some (.slice wa1 qg wc1) := Z.out.cell 2
  have Z_3 : World.cell? _ ⟨v3.heap.size, 3, none⟩ = some (.slice wa2 qc wc2) := Z.out.cell 3
  have Z_4 : World.cell? _ ⟨v3.heap.size, 4, none⟩ = some (.int .i64 qs) := Z.out.cell 4
  have Z_5 : World.cell? _ ⟨v3.heap.size, 5, none⟩ = some (.slice wa3 qk wc3) := Z.out.cell 5
  have Z_l := Z.out.lt
  have XB_0 : World.cell? _ ⟨v4.heap.size, 0, none⟩ = some (.int .i64 need) := XB.out.cell 0
  have XB_1 : World.cell? _ ⟨v4.heap.size, 1, none⟩ = some (.int .i64 many) := XB.out.cell 1
  have XB_2 : World.cell? _ ⟨v4.heap.size, 2, none⟩ = some (.slice (some ⟨xb1, 0, none⟩) ng ng) := XB.out.cell 2
  have XB_3 : World.cell? _ ⟨v4.heap.size, 3, none⟩ = some (.slice (some ⟨xb2, 0, none⟩) nc nc) := XB.out.cell 3
  have XB_4 : World.cell? _ ⟨v4.heap.size, 4, none⟩ = some (.int .i64 msg) := XB.out.cell 4
  have XB_5 : World.cell? _ ⟨v4.heap.size, 5, none⟩ = some (.slice (some ⟨xb3, 0, none⟩) n n) := XB.out.cell 5
  have XB_l := XB.out.lt
  have Y_0 : World.cell? _ ⟨v5.heap.size, 0, none⟩ = some (.int .i64 qn) := Y.out.cell 0
  have Y_1 : World.cell? _ ⟨v5.heap.size, 1, none⟩ = some (.int .i64 qm) := Y.out.cell 1
  have Y_2 : World.cell? _ ⟨v5.heap.size, 2, none⟩ = some (.slice ga1 qg gc1) := Y.out.cell 2
  have Y_3 : World.cell? _ ⟨v5.heap.size, 3, none⟩ = some (.slice ga2 qc gc2) := Y.out.cell 3
  have Y_4 : World.cell? _ ⟨v5.heap.size, 4, none⟩ = some (.int .i64 qs) := Y.out.cell 4
  have Y_5 : World.cell? _ ⟨v5.heap.size, 5, none⟩ = some (.slice ga3 qk gc3) := Y.out.cell 5
  have Y_l := Y.out.lt
  have HB_0 : World.cell? _ ⟨v15.heap.size, 0, none⟩ = some (.int .i64 qn) := HB.out.cell 0
  have HB_1 : World.cell? _ ⟨v15.heap.size, 1, none⟩ = some (.int .i64 qm) := HB.out.cell 1
  have HB_2 : World.cell? _ ⟨v15.heap.size, 2, none⟩ = some (.slice ha1 qg hc1) := HB.out.cell 2
  have HB_3 : World.cell? _ ⟨v15.heap.size, 3, none⟩ = some (.slice ha2 qc hc2) := HB.out.cell 3
  have HB_4 : World.cell? _ ⟨v15.heap.size, 4, none⟩ = some (.int .i64 qs) := HB.out.cell 4
  have HB_5 : World.cell? _ ⟨v15.heap.size, 5, none⟩ = some (.slice ha3 qk hc3) := HB.out.cell 5
  have HB_l := HB.out.lt
  go_wp2_with fail
  refine (heldses _ qn qm _ _ _ qg qc qk _ _ _ qs 1 M.out.i1 M.out.i2 M.out.i3 hq1 hq2 hq3 (by omega)).mono ?_
  rintro e v17 ⟨rfl, hg⟩
  clear B_0 B_1 B_2 B_3 B_4 B_5 Z_0 Z_1 Z_2 Z_3 Z_4 Z_5 XB_0 XB_1 XB_2 XB_3 XB_4 XB_5 Y_0 Y_1 Y_2 Y_3 Y_4 Y_5 HB_0 HB_1 HB_2 HB_3 HB_4 HB_5 B_l Z_l XB_l Y_l HB_l
  have hz := hg.size
  have HZ16 := Lib.hid hz; clear hz
  replace G := Lib.hid (gtr G.out hg)
  replace B := Lib.hid (B.out.keptN hg)
  replace A := Lib.hid (A.out.keptN hg)
  replace W := Lib.hid (W.out.keptN hg)
  replace Z := Lib.hid (Z.out.keptN hg)
  replace XB := Lib.hid (XB.out.keptN hg)
  replace Y := Lib.hid (Y.out.keptN hg)
  replace M := Lib.hid (M.out.keptN hg)
  replace K := Lib.hid (K.out.keptN hg)
  replace HB := Lib.hid (HB.out.keptN hg)
  clear hg
  have B_0 : World.cell? _ ⟨w.heap.size, 0, none⟩ = some (.int .i64 need) := B.out.cell 0
  have B_1 : World.cell? _ ⟨w.heap.size, 1, none⟩ = some (.int .i64 many) := B.out.cell 1
  have B_2 : World.cell? _ ⟨w.heap.size, 2, none⟩ = some (.slice ag ng cg) := B.out.cell 2
  have B_3 : World.cell? _ ⟨w.heap.size, 3, none⟩ = some (.slice ac nc cc) := B.out.cell 3
  have B_4 : World.cell? _ ⟨w.heap.size, 4, none⟩ = some (.int .i64 msg) := B.out.cell 4
  have B_5 : World.cell? _ ⟨w.heap.size, 5, none⟩ = some (.slice a n c) := B.out.cell 5
  have B_l := B.out.lt
  have Z_0 : World.cell? _ ⟨v3.heap.size, 0, none⟩ = some (.int .i64 qn) := Z.out.cell 0
  have Z_1 : World.cell? _ ⟨v3.heap.size, 1, none⟩ = some (.int .i64 qm) := Z.out.cell 1
  have Z_2 : World.cell? _ ⟨v3.heap.size, 2, none⟩ = some (.slice wa1 qg wc1) := Z.out.cell 2
  have Z_3 : World.cell? _ ⟨v3.heap.size, 3, none⟩ = some (.slice wa2 qc wc2) := Z.out.cell 3
  have Z_4 : World.cell? _ ⟨v3.heap.size, 4, none⟩ = some (.int .i64 qs) := Z.out.cell 4
  have Z_5 : World.cell? _ ⟨v3.heap.size, 5, none⟩ = some (.slice wa3 qk wc3) := Z.out.cell 5
  have Z_l := Z.out.lt
  have XB_0 : World.cell? _ ⟨v4.heap.size, 0, none⟩ = some (.int .i64 need) := XB.out.cell 0
  have XB_1 : World.cell? _ ⟨v4.heap.size, 1, none⟩ = some (.int .i64 many) := XB.out.cell 1
  have XB_2 : World.cell? _ ⟨v4.heap.size, 2, none⟩ = some (.slice (some ⟨xb1, 0, none⟩) ng ng) := XB.out.cell 2
  have XB_3 : World.cell? _ ⟨v4.heap.size, 3, none⟩ = some (.slice (some ⟨xb2, 0, none⟩) nc nc) := XB.out.cell 3
  have XB_4 : World.cell? _ ⟨v4.heap.size, 4, none⟩ = some (.int .i64 msg) := XB.out.cell 4
  have XB_5 : World.cell? _ ⟨v4.heap.size, 5, none⟩ = some (.slice (some ⟨xb3, 0, none⟩) n n) := XB.out.cell 5
  have XB_l := XB.out.lt
  have Y_0 : World.cell? _ ⟨v5.heap.size, 0, none⟩ = some (.int .i64 qn) := Y.out.cell 0
  have Y_1 : World.cell? _ ⟨v5.heap.size, 1, none⟩ = some (.int .i64 qm) := Y.out.cell 1
  have Y_2 : World.cell? _ ⟨v5.heap.size, 2, none⟩ = some (.slice ga1 qg gc1) := Y.out.cell 2
  have Y_3 : World.cell? _ ⟨v5.heap.size, 3, none⟩ = some (.slice ga2 qc gc2) := Y.out.cell 3
  have Y_4 : World.cell? _ ⟨v5.heap.size, 4, none⟩ = some (.int .i64 qs) := Y.out.cell 4
  have Y_5 : World.cell? _ ⟨v5.heap.size, 5, none⟩ = some (.slice ga3 qk gc3) := Y.out.cell 5
  have Y_l := Y.out.lt
  have HB_0 : World.cell? _ ⟨v15.heap.size, 0, none⟩ = some (.int .i64 qn) := HB.out.cell 0
  have HB_1 : World.cell? _ ⟨v15.heap.size, 1, none⟩ = some (.int .i64 qm) := HB.out.cell 1
  have HB_2 : World.cell? _ ⟨v15.heap.size, 2, none⟩ = some (.slice ha1 qg hc1) := HB.out.cell 2
  have HB_3 : World.cell? _ ⟨v15.heap.size, 3, none⟩ = some (.slice ha2 qc hc2) := HB.out.cell 3
  have HB_4 : World.cell? _ ⟨v15.heap.size, 4, none⟩ = some (.int .i64 qs) := HB.out.cell 4
  have HB_5 : World.cell? _ ⟨v15.heap.size, 5, none⟩ = some (.slice ha3 qk hc3) := HB.out.cell 5
  have HB_l := HB.out.lt
  go_wp2
  go_ret
  exact ⟨rfl, Draw.below_of G.out⟩
end Run
end Go.Proofs.Ythbigmcklacbnaa
