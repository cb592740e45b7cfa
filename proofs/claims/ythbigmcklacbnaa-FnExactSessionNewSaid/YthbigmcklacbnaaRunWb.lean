/-
  The walk of the exact law on SessionNew.
-/
import Derived.Test.YthbigmcklacbnaaWb
import Derived.Deep.RegionHeld3
namespace Go.Proofs.Ythbigmcklacbnaa
namespace Run
open Go.RowKit Alg Mem Con Mp Hd
set_option linter.unusedVariables false

set_option maxRecDepth 100000 in
set_option maxHeartbeats 8000000 in
theorem FnExactSessionNew (need many : Int) (ag : Option Addr) (ng cg : Nat) (zg : Nat → Int) (ac : Option Addr) (nc cc : Nat) (zc : Nat → Int) (msg : Int) (am : Option Addr) (nm cm : Nat) (zm : Nat → Int) (ae : Option Addr) (ns cs : Nat) (zs : Nat → Int) (w : World) (hI1 : Ints w ag ng zg) (hI2 : Ints w ac nc zc) (hI3 : Ints w am nm zm) (hI4 : Ints w ae ns zs) (hm1 : ng ≤ maxLen) (hm2 : nc ≤ maxLen) :
    Calls Try.prog 18 #[.agg #[.int .i64 need, .int .i64 many, .slice ag ng cg, .slice ac nc cc], .int .i64 msg, .slice am nm cm, .slice ae ns cs] w (Yes w) := by
  have G := Lib.hid (Draw.grown_alloc w (.cells #[.int .i64 need, .int .i64 many, .slice ag ng cg, .slice ac nc cc] 61) none)
  have B := Lib.hid (Blk.new w #[.int .i64 need, .int .i64 many, .slice ag ng cg, .slice ac nc cc] 61)
  have hA := s3_key hI1 hI2
  have hD := s3_key hI3 hI4
  have A := Lib.hid (hA.keptN G.out); have D := Lib.hid (hD.keptN G.out)
  clear hA hD hI1 hI2 hI3 hI4
  go_enter Try.func18, Try.ntmps18
  by_cases hbnm : (1048576 : Int) < (nm : Int)
  · go_wp2
    go_ret
    exact ⟨rfl, Draw.below_of G.out⟩
  by_cases hbns : (1048576 : Int) < (ns : Int)
  · go_wp2
    go_ret
    exact ⟨rfl, Draw.below_of G.out⟩
  have B_0 : World.cell? _ ⟨w.heap.size, 0, none⟩ = some (.int .i64 need) := B.out.cell 0
  have B_1 : World.cell? _ ⟨w.heap.size, 1, none⟩ = some (.int .i64 many) := B.out.cell 1
  have B_2 : World.cell? _ ⟨w.heap.size, 2, none⟩ = some (.slice ag ng cg) := B.out.cell 2
  have B_3 : World.cell? _ ⟨w.heap.size, 3, none⟩ = some (.slice ac nc cc) := B.out.cell 3
  have B_l := B.out.lt
  go_wp2_with fail
  refine (szkey' _ need many _ ng _ _ nc _ 1048576 (by omega) (by omega) hm1 hm2).mono ?_
  rintro e v1 ⟨r, rfl, hg, hr⟩
  clear B_0 B_1 B_2 B_3 B_l
  have hz := hg.size; rw [World.size_alloc] at hz
  have HZ0 := Lib.hid hz; clear hz
  replace G := Lib.hid (gtr G.out hg)
  replace B := Lib.hid (B.out.keptN hg)
  replace A := Lib.hid (A.out.keptN hg)
  replace D := Lib.hid (D.out.keptN hg)
  clear hg
  rcases hr with rfl | ⟨hr0, hr1, hl1, hl2⟩
  · go_wp2
    go_ret
    exact ⟨rfl, Draw.below_of G.out⟩
  have hnr : ¬ r < 0 := by omega
  have hl3 : nm ≤ 2000000 := by omega
  have hl4 : ns ≤ 2000000 := by omega
  obtain ⟨qn, qm, qg, qzg, qc, qzc, qs, qk, qS, qo, hq1, hq2, hq3, hV, hU⟩ := new_two need many ng zg nc zc msg nm ns zm zs hl1 hl2 hl3
  have HV := Lib.hid hV; have HU := Lib.hid hU; clear hV hU
  have B_0 : World.cell? _ ⟨w.heap.size, 0, none⟩ = some (.int .i64 need) := B.out.cell 0
  have B_1 : World.cell? _ ⟨w.heap.size, 1, none⟩ = some (.int .i64 many) := B.out.cell 1
  have B_2 : World.cell? _ ⟨w.heap.size, 2, none⟩ = some (.slice ag ng cg) := B.out.cell 2
  have B_3 : World.cell? _ ⟨w.heap.size, 3, none⟩ = some (.slice ac nc cc) := B.out.cell 3
  have B_l := B.out.lt
  go_wp2_with fail
  refine (tokeyO _ need many _ ng _ zg _ nc _ zc A.out.i1 A.out.i2 hl1 hl2 (0) (Nat.zero_le _)).mono ?_
  rintro e v2 ⟨sb1, sb2, rfl, ho, hg⟩
  clear B_0 B_1 B_2 B_3 B_l
  have hz := hg.size
  have HZ1 := Lib.hid hz; clear hz
  replace G := Lib.hid (gtr G.out hg)
  replace B := Lib.hid (B.out.keptN hg)
  replace A := Lib.hid (A.out.keptN hg)
  replace D := Lib.hid (D.out.keptN hg)
  clear hg
  have KO := Lib.hid (ho)
  clear ho
  have B_0 : World.cell? _ ⟨w.heap.size, 0, none⟩ = some (.int .i64 need) := B.out.cell 0
  have B_1 : World.cell? _ ⟨w.heap.size, 1, none⟩ = some (.int .i64 many) := B.out.cell 1
  have B_2 : World.cell? _ ⟨w.heap.size, 2, none⟩ = some (.slice ag ng cg) := B.out.cell 2
  have B_3 : World.cell? _ ⟨w.heap.size, 3, none⟩ = some (.slice ac nc cc) := B.out.cell 3
  have B_l := B.out.lt
  go_wp2_with fail
  refine (tointO _ _ nm _ zm D.out.i1 hl3 (0) (Nat.zero_le _)).mono ?_
  rintro e v3 ⟨sb3, rfl, ho, hg⟩
  clear B_0 B_1 B_2 B_3 B_l
  have hz := hg.size
  have HZ2 := Lib.hid hz; clear hz
  replace G := Lib.hid (gtr G.out hg)
  replace B := Lib.hid (B.out.keptN hg)
  replace A := Lib.hid (A.out.keptN hg)
  replace D := Lib.hid (D.out.keptN hg)
  replace KO := Lib.hid (KO.out.keptN hg)
  clear hg
  have MO := Lib.hid (ho)
  clear ho
  have B_0 : World.cell? _ ⟨w.heap.size, 0, none⟩ = some (.int .i64 need) := B.out.cell 0
  have B_1 : World.cell? _ ⟨w.heap.size, 1, none⟩ = some (.int .i64 many) := B.out.cell 1
  have B_2 : World.cell? _ ⟨w.heap.size, 2, none⟩ = some (.slice ag ng cg) := B.out.cell 2
  have B_3 : World.cell? _ ⟨w.heap.size, 3, none⟩ = some (.slice ac nc cc) := B.out.cell 3
  have B_l := B.out.lt
  go_wp2_with fail
  refine (tointO _ _ ns _ zs D.out.i2 hl4 (0) (Nat.zero_le _)).mono ?_
  rintro e v4 ⟨sb4, rfl, ho, hg⟩
  clear B_0 B_1 B_2 B_3 B_l
  have hz := hg.size
  have HZ3 := Lib.hid hz; clear hz
  replace G := Lib.hid (gtr G.out hg)
  replace B := Lib.hid (B.out.keptN hg)
  replace A := Lib.hid (A.out.keptN hg)
  replace D := Lib.hid (D.out.keptN hg)
  replace KO := Lib.hid (KO.out.keptN hg)
  replace MO := Lib.hid (MO.out.keptN hg)
  clear hg
  have SO := Lib.hid (ho)
  clear ho
  have B_0 : World.cell? _ ⟨w.heap.size, 0, none⟩ = some (.int .i64 need) := B.out.cell 0
  have B_1 : World.cell? _ ⟨w.heap.size, 1, none⟩ = some (.int .i64 many) := B.out.cell 1
  have B_2 : World.cell? _ ⟨w.heap.size, 2, none⟩ = some (.slice ag ng cg) := B.out.cell 2
  have B_3 : World.cell? _ ⟨w.heap.size, 3, none⟩ = some (.slice ac nc cc) := B.out.cell 3
  have B_l := B.out.lt
  go_wp2_with fail
  refine (s32new _ need many _ ng _ zg _ nc _ zc msg _ nm _ zm _ ns _ zs KO.out.s.i1 KO.out.s.i2 (.inl ⟨_, rfl⟩) (.inl ⟨_, rfl⟩) MO.out.s.i1 SO.out.s.i1 hl1 hl2 hl3).mono ?_
  rintro e v5 h
  obtain ⟨wa1, wc1, wa2, wc2, wa3, wc3, rfl, hs, hg⟩ := HV.out _ _ _ h
  clear B_0 B_1 B_2 B_3 B_l
  clear h
  have hz := hg.size
  have HZ4 := Lib.hid hz; clear hz
  clear KO MO SO
  replace G := Lib.hid (gtr G.out hg)
  replace B := Lib.hid (B.out.keptN hg)
  replace A := Lib.hid (A.out.keptN hg)
  replace D := Lib.hid (D.out.keptN hg)
  clear hg
  have W := Lib.hid (hs)
  clear hs
  have hg := Draw.grown_alloc v5 (.cells #[.int .i64 qn, .int .i64 qm, .slice wa1 qg wc1, .slice wa2 qc wc2, .int .i64 qs, .slice wa3 qk wc3] 66) none
  have Z := Lib.hid (Blk.new v5 #[.int .i64 qn, .int .i64 qm, .slice wa1 qg wc1, .slice wa2 qc wc2, .int .i64 qs, .slice wa3 qk wc3] 66)
  replace G := Lib.hid (gtr G.out hg)
  replace B := Lib.hid (B.out.keptN hg)
  replace A := Lib.hid (A.out.keptN hg)
  replace D := Lib.hid (D.out.keptN hg)
  replace W := Lib.hid (W.out.keptN hg)
  clear hg
  have B_0 : World.cell? _ ⟨w.heap.size, 0, none⟩ = some (.int .i64 need) := B.out.cell 0
  have B_1 : World.cell? _ ⟨w.heap.size, 1, none⟩ = some (.int .i64 many) := B.out.cell 1
  have B_2 : World.cell? _ ⟨w.heap.size, 2, none⟩ = some (.slice ag ng cg) := B.out.cell 2
  have B_3 : World.cell? _ ⟨w.heap.size, 3, none⟩ = some (.slice ac nc cc) := B.out.cell 3
  have B_l := B.out.lt
  have Z_0 : World.cell? _ ⟨v5.heap.size, 0, none⟩ = some (.int .i64 qn) := Z.out.cell 0
  have Z_1 : World.cell? _ ⟨v5.heap.size, 1, none⟩ = some (.int .i64 qm) := Z.out.cell 1
  have Z_2 : World.cell? _ ⟨v5.heap.size, 2, none⟩ = some (.slice wa1 qg wc1) := Z.out.cell 2
  have Z_3 : World.cell? _ ⟨v5.heap.size, 3, none⟩ = some (.slice wa2 qc wc2) := Z.out.cell 3
  have Z_4 : World.cell? _ ⟨v5.heap.size, 4, none⟩ = some (.int .i64 qs) := Z.out.cell 4
  have Z_5 : World.cell? _ ⟨v5.heap.size, 5, none⟩ = some (.slice wa3 qk wc3) := Z.out.cell 5
  have Z_l := Z.out.lt
  go_wp2_with fail
  refine (tokeyO _ need many _ ng _ zg _ nc _ zc A.out.i1 A.out.i2 hl1 hl2 (v5.heap.size + 1) (by rw [World.size_alloc]; exact Nat.le_refl _)).mono ?_
  rintro e v6 ⟨xb1, xb2, rfl, ho, hg⟩
  clear B_0 B_1 B_2 B_3 Z_0 Z_1 Z_2 Z_3 Z_4 Z_5 B_l Z_l
  have hz := hg.size; rw [World.size_alloc] at hz
  have HZ5 := Lib.hid hz; clear hz
  replace G := Lib.hid (gtr G.out hg)
  replace B := Lib.hid (B.out.keptN hg)
  replace A := Lib.hid (A.out.keptN hg)
  replace D := Lib.hid (D.out.keptN hg)
  replace W := Lib.hid (W.out.keptN hg)
  replace Z := Lib.hid (Z.out.keptN hg)
  clear hg
  have X := Lib.hid (ho)
  clear ho
  have hg := Draw.grown_alloc v6 (.cells #[.int .i64 need, .int .i64 many, .slice (some ⟨xb1, 0, none⟩) ng ng, .slice (some ⟨xb2, 0, none⟩) nc nc] 63) none
  have XB := Lib.hid (Blk.new v6 #[.int .i64 need, .int .i64 many, .slice (some ⟨xb1, 0, none⟩) ng ng, .slice (some ⟨xb2, 0, none⟩) nc nc] 63)
  replace G := Lib.hid (gtr G.out hg)
  replace B := Lib.hid (B.out.keptN hg)
  replace A := Lib.hid (A.out.keptN hg)
  replace D := Lib.hid (D.out.keptN hg)
  replace W := Lib.hid (W.out.keptN hg)
  replace Z := Lib.hid (Z.out.keptN hg)
  replace X := Lib.hid (X.out.keptN hg)
  clear hg
  have B_0 : World.cell? _ ⟨w.heap.size, 0, none⟩ = some (.int .i64 need) := B.out.cell 0
  have B_1 : World.cell? _ ⟨w.heap.size, 1, none⟩ = some (.int .i64 many) := B.out.cell 1
  have B_2 : World.cell? _ ⟨w.heap.size, 2, none⟩ = some (.slice ag ng cg) := B.out.cell 2
  have B_3 : World.cell? _ ⟨w.heap.size, 3, none⟩ = some (.slice ac nc cc) := B.out.cell 3
  have B_l := B.out.lt
  have Z_0 : World.cell? _ ⟨v5.heap.size, 0, none⟩ = some (.int .i64 qn) := Z.out.cell 0
  have Z_1 : World.cell? _ ⟨v5.heap.size, 1, none⟩ = some (.int .i64 qm) := Z.out.cell 1
  have Z_2 : World.cell? _ ⟨v5.heap.size, 2, none⟩ = some (.slice wa1 qg wc1) := Z.out.cell 2
  have Z_3 : World.cell? _ ⟨v5.heap.size, 3, none⟩ = some (.slice wa2 qc wc2) := Z.out.cell 3
  have Z_4 : World.cell? _ ⟨v5.heap.size, 4, none⟩ = some (.int .i64 qs) := Z.out.cell 4
  have Z_5 : World.cell? _ ⟨v5.heap.size, 5, none⟩ = some (.slice wa3 qk wc3) := Z.out.cell 5
  have Z_l := Z.out.lt
  have XB_0 : World.cell? _ ⟨v6.heap.size, 0, none⟩ = some (.int .i64 need) := XB.out.cell 0
  have XB_1 : World.cell? _ ⟨v6.heap.size, 1, none⟩ = some (.int .i64 many) := XB.out.cell 1
  have XB_2 : World.cell? _ ⟨v6.heap.size, 2, none⟩ = some (.slice (some ⟨xb1, 0, none⟩) ng ng) := XB.out.cell 2
  have XB_3 : World.cell? _ ⟨v6.heap.size, 3, none⟩ = some (.slice (some ⟨xb2, 0, none⟩) nc nc) := XB.out.cell 3
  have XB_l := XB.out.lt
  go_wp2_with fail
  refine (tointO _ _ nm _ zm D.out.i1 hl3 (v6.heap.size + 1) (by rw [World.size_alloc]; exact Nat.le_refl _)).mono ?_
  rintro e v7 ⟨xb3, rfl, ho, hg⟩
  clear B_0 B_1 B_2 B_3 Z_0 Z_1 Z_2 Z_3 Z_4 Z_5 XB_0 XB_1 XB_2 XB_3 B_l Z_l XB_l
  have hz := hg.size; rw [World.size_alloc] at hz
  have HZ6 := Lib.hid hz; clear hz
  replace G := Lib.hid (gtr G.out hg)
  replace B := Lib.hid (B.out.keptN hg)
  replace A := Lib.hid (A.out.keptN hg)
  replace D := Lib.hid (D.out.keptN hg)
  replace W := Lib.hid (W.out.keptN hg)
  replace Z := Lib.hid (Z.out.keptN hg)
  replace X := Lib.hid (X.out.keptN hg)
  replace XB := Lib.hid (XB.out.keptN hg)
  clear hg
  have XM := Lib.hid (ho)
  clear ho
  have B_0 : World.cell? _ ⟨w.heap.size, 0, none⟩ = some (.int .i64 need) := B.out.cell 0
  have B_1 : World.cell? _ ⟨w.heap.size, 1, none⟩ = some (.int .i64 many) := B.out.cell 1
  have B_2 : World.cell? _ ⟨w.heap.size, 2, none⟩ = some (.slice ag ng cg) := B.out.cell 2
  have B_3 : World.cell? _ ⟨w.heap.size, 3, none⟩ = some (.slice ac nc cc) := B.out.cell 3
  have B_l := B.out.lt
  have Z_0 : World.cell? _ ⟨v5.heap.size, 0, none⟩ = some (.int .i64 qn) := Z.out.cell 0
  have Z_1 : World.cell? _ ⟨v5.heap.size, 1, none⟩ = some (.int .i64 qm) := Z.out.cell 1
  have Z_2 : World.cell? _ ⟨v5.heap.size, 2, none⟩ = some (.slice wa1 qg wc1) := Z.out.cell 2
  have Z_3 : World.cell? _ ⟨v5.heap.size, 3, none⟩ = some (.slice wa2 qc wc2) := Z.out.cell 3
  have Z_4 : World.cell? _ ⟨v5.heap.size, 4, none⟩ = some (.int .i64 qs) := Z.out.cell 4
  have Z_5 : World.cell? _ ⟨v5.heap.size, 5, none⟩ = some (.slice wa3 qk wc3) := Z.out.cell 5
  have Z_l := Z.out.lt
  have XB_0 : World.cell? _ ⟨v6.heap.size, 0, none⟩ = some (.int .i64 need) := XB.out.cell 0
  have XB_1 : World.cell? _ ⟨v6.heap.size, 1, none⟩ = some (.int .i64 many) := XB.out.cell 1
  have XB_2 : World.cell? _ ⟨v6.heap.size, 2, none⟩ = some (.slice (some ⟨xb1, 0, none⟩) ng ng) := XB.out.cell 2
  have XB_3 : World.cell? _ ⟨v6.heap.size, 3, none⟩ = some (.slice (some ⟨xb2, 0, none⟩) nc nc) := XB.out.cell 3
  have XB_l := XB.out.lt
  go_wp2_with fail
  refine (tointO _ _ ns _ zs D.out.i2 hl4 (v7.heap.size) (Nat.le_refl _)).mono ?_
  rintro e v8 ⟨xb4, rfl, ho, hg⟩
  clear B_0 B_1 B_2 B_3 Z_0 Z_1 Z_2 Z_3 Z_4 Z_5 XB_0 XB_1 XB_2 XB_3 B_l Z_l XB_l
  have hz := hg.size
  have HZ7 := Lib.hid hz; clear hz
  replace G := Lib.hid (gtr G.out hg)
  replace B := Lib.hid (B.out.keptN hg)
  replace A := Lib.hid (A.out.keptN hg)
  replace D := Lib.hid (D.out.keptN hg)
  replace W := Lib.hid (W.out.keptN hg)
  replace Z := Lib.hid (Z.out.keptN hg)
  replace X := Lib.hid (X.out.keptN hg)
  replace XB := Lib.hid (XB.out.keptN hg)
  replace XM := Lib.hid (XM.out.keptN hg)
  clear hg
  have XS := Lib.hid (ho)
  clear ho
  have B_0 : World.cell? _ ⟨w.heap.size, 0, none⟩ = some (.int .i64 need) := B.out.cell 0
  have B_1 : World.cell? _ ⟨w.heap.size, 1, none⟩ = some (.int .i64 many) := B.out.cell 1
  have B_2 : World.cell? _ ⟨w.heap.size, 2, none⟩ = some (.slice ag ng cg) := B.out.cell 2
  have B_3 : World.cell? _ ⟨w.heap.size, 3, none⟩ = some (.slice ac nc cc) := B.out.cell 3
  have B_l := B.out.lt
  have Z_0 : World.cell? _ ⟨v5.heap.size, 0, none⟩ = some (.int .i64 qn) := Z.out.cell 0
  have Z_1 : World.cell? _ ⟨v5.heap.size, 1, none⟩ = some (.int .i64 qm) := Z.out.cell 1
  have Z_2 : World.cell? _ ⟨v5.heap.size, 2, none⟩ = some (.slice wa1 qg wc1) := Z.out.cell 2
  have Z_3 : World.cell? _ ⟨v5.heap.size, 3, none⟩ = some (.slice wa2 qc wc2) := Z.out.cell 3
  have Z_4 : World.cell? _ ⟨v5.heap.size, 4, none⟩ = some (.int .i64 qs) := Z.out.cell 4
  have Z_5 : World.cell? _ ⟨v5.heap.size, 5, none⟩ = some (.slice wa3 qk wc3) := Z.out.cell 5
  have Z_l := Z.out.lt
  have XB_0 : World.cell? _ ⟨v6.heap.size, 0, none⟩ = some (.int .i64 need) := XB.out.cell 0
  have XB_1 : World.cell? _ ⟨v6.heap.size, 1, none⟩ = some (.int .i64 many) := XB.out.cell 1
  have XB_2 : World.cell? _ ⟨v6.heap.size, 2, none⟩ = some (.slice (some ⟨xb1, 0, none⟩) ng ng) := XB.out.cell 2
  have XB_3 : World.cell? _ ⟨v6.heap.size, 3, none⟩ = some (.slice (some ⟨xb2, 0, none⟩) nc nc) := XB.out.cell 3
  have XB_l := XB.out.lt
  go_wp2_with fail
  refine (i32new _ need many _ ng _ zg _ nc _ zc msg _ nm _ zm _ ns _ zs X.out.s.i1 X.out.s.i2 (.inl ⟨_, rfl⟩) (.inl ⟨_, rfl⟩) XM.out.s.i1 XS.out.s.i1 hl1 hl2 hl3).mono ?_
  rintro e v9 h
  obtain ⟨ga1, gc1, ga2, gc2, ga3, gc3, rfl, ho, hg⟩ := HU.out _ _ _ h
  clear B_0 B_1 B_2 B_3 Z_0 Z_1 Z_2 Z_3 Z_4 Z_5 XB_0 XB_1 XB_2 XB_3 B_l Z_l XB_l
  clear h
  have hz := hg.size
  have HZ8 := Lib.hid hz; clear hz
  replace G := Lib.hid (gtr G.out hg)
  replace B := Lib.hid (B.out.keptN hg)
  replace A := Lib.hid (A.out.keptN hg)
  replace D := Lib.hid (D.out.keptN hg)
  replace W := Lib.hid (W.out.keptN hg)
  replace Z := Lib.hid (Z.out.keptN hg)
  replace X := Lib.hid (X.out.keptN hg)
  replace XB := Lib.hid (XB.out.keptN hg)
  replace XM := Lib.hid (XM.out.keptN hg)
  replace XS := Lib.hid (XS.out.keptN hg)
  clear hg
  have Q := Lib.hid (ho)
  clear ho
  have hg := Draw.grown_alloc v9 (.cells #[.int .i64 qn, .int .i64 qm, .slice ga1 qg gc1, .slice ga2 qc gc2, .int .i64 qs, .slice ga3 qk gc3] 66) none
  have Y := Lib.hid (Blk.new v9 #[.int .i64 qn, .int .i64 qm, .slice ga1 qg gc1, .slice ga2 qc gc2, .int .i64 qs, .slice ga3 qk gc3] 66)
  replace G := Lib.hid (gtr G.out hg)
  replace B := Lib.hid (B.out.keptN hg)
  replace A := Lib.hid (A.out.keptN hg)
  replace D := Lib.hid (D.out.keptN hg)
  replace W := Lib.hid (W.out.keptN hg)
  replace Z := Lib.hid (Z.out.keptN hg)
  replace X := Lib.hid (X.out.keptN hg)
  replace XB := Lib.hid (XB.out.keptN hg)
  replace XM := Lib.hid (XM.out.keptN hg)
  replace XS := Lib.hid (XS.out.keptN hg)
  replace Q := Lib.hid (Q.out.keptN hg)
  clear hg
  have hok : (qo != qo) = false := by simp
  have B_0 : World.cell? _ ⟨w.heap.size, 0, none⟩ = some (.int .i64 need) := B.out.cell 0
  have B_1 : World.cell? _ ⟨w.heap.size, 1, none⟩ = some (.int .i64 many) := B.out.cell 1
  have B_2 : World.cell? _ ⟨w.heap.size, 2, none⟩ = some (.slice ag ng cg) := B.out.cell 2
  have B_3 : World.cell? _ ⟨w.heap.size, 3, none⟩ = some (.slice ac nc cc) := B.out.cell 3
  have B_l := B.out.lt
  have Z_0 : World.cell? _ ⟨v5.heap.size, 0, none⟩ = some (.int .i64 qn) := Z.out.cell 0
  have Z_1 : World.cell? _ ⟨v5.heap.size, 1, none⟩ = some (.int .i64 qm) := Z.out.cell 1
  have Z_2 : World.cell? _ ⟨v5.heap.size, 2, none⟩ = some (.slice wa1 qg wc1) := Z.out.cell 2
  have Z_3 : World.cell? _ ⟨v5.heap.size, 3, none⟩ = some (.slice wa2 qc wc2) := Z.out.cell 3
  have Z_4 : World.cell? _ ⟨v5.heap.size, 4, none⟩ = some (.int .i64 qs) := Z.out.cell 4
  have Z_5 : World.cell? _ ⟨v5.heap.size, 5, none⟩ = some (.slice wa3 qk wc3) := Z.out.cell 5
  have Z_l := Z.out.lt
  have XB_0 : World.cell? _ ⟨v6.heap.size, 0, none⟩ = some (.int .i64 need) := XB.out.cell 0
  have XB_1 : World.cell? _ ⟨v6.heap.size, 1, none⟩ = some (.int .i64 many) := XB.out.cell 1
  have XB_2 : World.cell? _ ⟨v6.heap.size, 2, none⟩ = some (.slice (some ⟨xb1, 0, none⟩) ng ng) := XB.out.cell 2
  have XB_3 : World.cell? _ ⟨v6.heap.size, 3, none⟩ = some (.slice (some ⟨xb2, 0, none⟩) nc nc) := XB.out.cell 3
  have XB_l := XB.out.lt
  have Y_0 : World.cell? _ ⟨v9.heap.size, 0, none⟩ = some (.int .i64 qn) := Y.out.cell 0
  have Y_1 : World.cell? _ ⟨v9.heap.size, 1, none⟩ = some (.int .i64 qm) := Y.out.cell 1
  have Y_2 : World.cell? _ ⟨v9.heap.size, 2, none⟩ = some (.slice ga1 qg gc1) := Y.out.cell 2
  have Y_3 : World.cell? _ ⟨v9.heap.size, 3, none⟩ = some (.slice ga2 qc gc2) := Y.out.cell 3
  have Y_4 : World.cell? _ ⟨v9.heap.size, 4, none⟩ = some (.int .i64 qs) := Y.out.cell 4
  have Y_5 : World.cell? _ ⟨v9.heap.size, 5, none⟩ = some (.slice ga3 qk gc3) := Y.out.cell 5
  have Y_l := Y.out.lt
  go_wp2_with fail
  refine (eqses _ qn qm _ _ _ _ qg _ _ qzg qc _ _ qzc qs _ _ qk _ _ qS Q.out.s.i1 Q.out.s.i2 W.out.i1 W.out.i2 Q.out.s.i3 W.out.i3 hq1 hq2 hq3).mono ?_
  rintro e v10 ⟨rfl, hg⟩
  clear B_0 B_1 B_2 B_3 Z_0 Z_1 Z_2 Z_3 Z_4 Z_5 XB_0 XB_1 XB_2 XB_3 Y_0 Y_1 Y_2 Y_3 Y_4 Y_5 B_l Z_l XB_l Y_l
  have hz := hg.size; rw [World.size_alloc] at hz
  have HZ9 := Lib.hid hz; clear hz
  replace G := Lib.hid (gtr G.out hg)
  replace B := Lib.hid (B.out.keptN hg)
  replace A := Lib.hid (A.out.keptN hg)
  replace D := Lib.hid (D.out.keptN hg)
  replace W := Lib.hid (W.out.keptN hg)
  replace Z := Lib.hid (Z.out.keptN hg)
  replace X := Lib.hid (X.out.keptN hg)
  replace XB := Lib.hid (XB.out.keptN hg)
  replace XM := Lib.hid (XM.out.keptN hg)
  replace XS := Lib.hid (XS.out.keptN hg)
  replace Q := Lib.hid (Q.out.keptN hg)
  replace Y := Lib.hid (Y.out.keptN hg)
  clear hg
  have B_0 : World.cell? _ ⟨w.heap.size, 0, none⟩ = some (.int .i64 need) := B.out.cell 0
  have B_1 : World.cell? _ ⟨w.heap.size, 1, none⟩ = some (.int .i64 many) := B.out.cell 1
  have B_2 : World.cell? _ ⟨w.heap.size, 2, none⟩ = some (.slice ag ng cg) := B.out.cell 2
  have B_3 : World.cell? _ ⟨w.heap.size, 3, none⟩ = some (.slice ac nc cc) := B.out.cell 3
  have B_l := B.out.lt
  have Z_0 : World.cell? _ ⟨v5.heap.size, 0, none⟩ = some (.int .i64 qn) := Z.out.cell 0
  have Z_1 : World.cell? _ ⟨v5.heap.size, 1, none⟩ = some (.int .i64 qm) := Z.out.cell 1
  have Z_2 : World.cell? _ ⟨v5.heap.size, 2, none⟩ = some (.slice wa1 qg wc1) := Z.out.cell 2
  have Z_3 : World.cell? _ ⟨v5.heap.size, 3, none⟩ = some (.slice wa2 qc wc2) := Z.out.cell 3
  have Z_4 : World.cell? _ ⟨v5.heap.size, 4, none⟩ = some (.int .i64 qs) := Z.out.cell 4
  have Z_5 : World.cell? _ ⟨v5.heap.size, 5, none⟩ = some (.slice wa3 qk wc3) := Z.out.cell 5
  have Z_l := Z.out.lt
  have XB_0 : World.cell? _ ⟨v6.heap.size, 0, none⟩ = some (.int .i64 need) := XB.out.cell 0
  have XB_1 : World.cell? _ ⟨v6.heap.size, 1, none⟩ = some (.int .i64 many) := XB.out.cell 1
  have XB_2 : World.cell? _ ⟨v6.heap.size, 2, none⟩ = some (.slice (some ⟨xb1, 0, none⟩) ng ng) := XB.out.cell 2
  have XB_3 : World.cell? _ ⟨v6.heap.size, 3, none⟩ = some (.slice (some ⟨xb2, 0, none⟩) nc nc) := XB.out.cell 3
  have XB_l := XB.out.lt
  have Y_0 : World.cell? _ ⟨v9.heap.size, 0, none⟩ = some (.int .i64 qn) := Y.out.cell 0
  have Y_1 : World.cell? _ ⟨v9.heap.size, 1, none⟩ = some (.int .i64 qm) := Y.out.cell 1
  have Y_2 : World.cell? _ ⟨v9.heap.size, 2, none⟩ = some (.slice ga1 qg gc1) := Y.out.cell 2
  have Y_3 : World.cell? _ ⟨v9.heap.size, 3, none⟩ = some (.slice ga2 qc gc2) := Y.out.cell 3
  have Y_4 : World.cell? _ ⟨v9.heap.size, 4, none⟩ = some (.int .i64 qs) := Y.out.cell 4
  have Y_5 : World.cell? _ ⟨v9.heap.size, 5, none⟩ = some (.slice ga3 qk gc3) := Y.out.cell 5
  have Y_l := Y.out.lt
  go_wp2_with fail
  clear B_0 B_1 B_2 B_3 Z_0 Z_1 Z_2 Z_3 Z_4 Z_5 XB_0 XB_1 XB_2 XB_3 Y_0 Y_1 Y_2 Y_3 Y_4 Y_5 B_l Z_l XB_l Y_l
  refine wp_region_held_drew (S := (fun w' => w'.cell? ⟨w.heap.size, 0, none⟩ = some (.int .i64 need) ∧ w'.cell? ⟨w.heap.size, 1, none⟩ = some (.int .i64 many) ∧ w'.cell? ⟨w.heap.size, 2, none⟩ = some (.slice ag ng cg) ∧ w'.cell? ⟨w.heap.size, 3, none⟩ = some (.slice ac nc cc) ∧ w'.cell? ⟨v5.heap.size, 0, none⟩ = some (.int .i64 qn) ∧ w'.cell? ⟨v5.heap.size, 1, none⟩ = some (.int .i64 qm) ∧ w'.cell? ⟨v5.heap.size, 2, none⟩ = some (.slice wa1 qg wc1) ∧ w'.cell? ⟨v5.heap.size, 3, none⟩ = some (.slice wa2 qc wc2) ∧ w'.cell? ⟨v5.heap.size, 4, none⟩ = some (.int .i64 qs) ∧ w'.cell? ⟨v5.heap.size, 5, none⟩ = some (.slice wa3 qk wc3) ∧ w'.cell? ⟨v6.heap.size, 0, none⟩ = some (.int .i64 need) ∧ w'.cell? ⟨v6.heap.size, 1, none⟩ = some (.int .i64 many) ∧ w'.cell? ⟨v6.heap.size, 2, none⟩ = some (.slice (some ⟨xb1, 0, none⟩) ng ng) ∧ w'.cell? ⟨v6.heap.size, 3, none⟩ = some (.slice (some ⟨xb2, 0, none⟩) nc nc) ∧ w'.cell? ⟨v9.heap.size, 0, none⟩ = some (.int .i64 qn) ∧ w'.cell? ⟨v9.heap.size, 1, none⟩ = some (.int .i64 qm) ∧ w'.cell? ⟨v9.heap.size, 2, none⟩ = some (.slice ga1 qg gc1) ∧ w'.cell? ⟨v9.heap.size, 3, none⟩ = some (.slice ga2 qc gc2) ∧ w'.cell? ⟨v9.heap.size, 4, none⟩ = some (.int .i64 qs) ∧ w'.cell? ⟨v9.heap.size, 5, none⟩ = some (.slice ga3 qk gc3))) (by kernel_rfl) (⟨B.out.cell 0, B.out.cell 1, B.out.cell 2, B.out.cell 3, Z.out.cell 0, Z.out.cell 1, Z.out.cell 2, Z.out.cell 3, Z.out.cell 4, Z.out.cell 5, XB.out.cell 0, XB.out.cell 1, XB.out.cell 2, XB.out.cell 3, Y.out.cell 0, Y.out.cell 1, Y.out.cell 2, Y.out.cell 3, Y.out.cell 4, Y.out.cell 5⟩) (fun hHeld => ?_)
  have hg := Draw.gdrew v10
  have hz := hg.size
  have HZ10 := Lib.hid hz; clear hz
  replace G := Lib.hid (gtr G.out hg)
  replace B := Lib.hid (B.out.keptN hg)
  replace A := Lib.hid (A.out.keptN hg)
  replace D := Lib.hid (D.out.keptN hg)
  replace W := Lib.hid (W.out.keptN hg)
  replace Z := Lib.hid (Z.out.keptN hg)
  replace X := Lib.hid (X.out.keptN hg)
  replace XB := Lib.hid (XB.out.keptN hg)
  replace XM := Lib.hid (XM.out.keptN hg)
  replace XS := Lib.hid (XS.out.keptN hg)
  replace Q := Lib.hid (Q.out.keptN hg)
  replace Y := Lib.hid (Y.out.keptN hg)
  clear hg
  generalize (v10).drew = v11 at *
  refine wpAnyH_take (i := 0) (oi := ⟨some 67, _, _, _, _, _⟩) (v := ?_) rfl (by kernel_rfl) (by kernel_rfl) (by kernel_rfl) (fun _ _ _ h => h) (Or.inl ⟨by rfl, ?_⟩) (by assumption) ?_
  rotate_left
  · intro w hSw; (try dsimp only at hSw); go_simp; try with_reducible rfl
  simp only [Act.put, List.setIfInBounds_toArray, List.set_cons_zero, List.set_cons_succ]
  refine wpAnyH_take (i := 1) (oi := ⟨some 68, _, _, _, _, _⟩) (v := ?_) rfl (by kernel_rfl) (by kernel_rfl) (by kernel_rfl) (fun _ _ _ h => h) (Or.inl ⟨by rfl, ?_⟩) (by assumption) ?_
  rotate_left
  · intro w hSw; (try dsimp only at hSw); go_simp; try with_reducible rfl
  simp only [Act.put, List.setIfInBounds_toArray, List.set_cons_zero, List.set_cons_succ]
  refine wpAnyH_ready (rs := [2]) (by kernel_rfl) (by simp) ?_
  refine AllReadyH.cons (o := ⟨some 69, _, _, _, _, _⟩) rfl (fun Kq hKq => ?_) AllReadyH.nil
  go_simp
  go_at_call 46
  refine (tokeyO _ need many _ ng _ zg _ nc _ zc A.out.i1 A.out.i2 hl1 hl2 (0) (Nat.zero_le _)).mono ?_
  rintro e v12 ⟨yb1, yb2, rfl, ho, hg⟩
  have T := Lib.hid ho; clear ho
  have hz := hg.size
  have HZ11 := Lib.hid hz; clear hz
  replace G := Lib.hid (gtr G.out hg)
  replace B := Lib.hid (B.out.keptN hg)
  replace A := Lib.hid (A.out.keptN hg)
  replace D := Lib.hid (D.out.keptN hg)
  replace W := Lib.hid (W.out.keptN hg)
  replace Z := Lib.hid (Z.out.keptN hg)
  replace X := Lib.hid (X.out.keptN hg)
  replace XB := Lib.hid (XB.out.keptN hg)
  replace XM := Lib.hid (XM.out.keptN hg)
  replace XS := Lib.hid (XS.out.keptN hg)
  replace Q := Lib.hid (Q.out.keptN hg)
  replace Y := Lib.hid (Y.out.keptN hg)
  clear hg
  refine hKq.out _ _ (⟨B.out.cell 0, B.out.cell 1, B.out.cell 2, B.out.cell 3, Z.out.cell 0, Z.out.cell 1, Z.out.cell 2, Z.out.cell 3, Z.out.cell 4, Z.out.cell 5, XB.out.cell 0, XB.out.cell 1, XB.out.cell 2, XB.out.cell 3, Y.out.cell 0, Y.out.cell 1, Y.out.cell 2, Y.out.cell 3, Y.out.cell 4, Y.out.cell 5⟩) (fun hHeld => ?_)
  clear hKq Kq
  refine wpAnyH_ready (rs := [3]) (by kernel_rfl) (by simp) ?_
  refine AllReadyH.cons (o := ⟨some 70, _, _, _, _, _⟩) rfl (fun Kq hKq => ?_) AllReadyH.nil
  go_simp
  go_at_call 49
  refine (eqkey _ need many _ _ _ _ ng _ _ zg nc _ _ zc X.out.s.i1 X.out.s.i2 T.out.s.i1 T.out.s.i2 hl1 hl2).mono ?_
  rintro e v13 ⟨rfl, hg⟩
  clear T
  have hz := hg.size
  have HZ12 := Lib.hid hz; clear hz
  replace G := Lib.hid (gtr G.out hg)
  replace B := Lib.hid (B.out.keptN hg)
  replace A := Lib.hid (A.out.keptN hg)
  replace D := Lib.hid (D.out.keptN hg)
  replace W := Lib.hid (W.out.keptN hg)
  replace Z := Lib.hid (Z.out.keptN hg)
  replace X := Lib.hid (X.out.keptN hg)
  replace XB := Lib.hid (XB.out.keptN hg)
  replace XM := Lib.hid (XM.out.keptN hg)
  replace XS := Lib.hid (XS.out.keptN hg)
  replace Q := Lib.hid (Q.out.keptN hg)
  replace Y := Lib.hid (Y.out.keptN hg)
  clear hg
  refine hKq.out _ _ (⟨B.out.cell 0, B.out.cell 1, B.out.cell 2, B.out.cell 3, Z.out.cell 0, Z.out.cell 1, Z.out.cell 2, Z.out.cell 3, Z.out.cell 4, Z.out.cell 5, XB.out.cell 0, XB.out.cell 1, XB.out.cell 2, XB.out.cell 3, Y.out.cell 0, Y.out.cell 1, Y.out.cell 2, Y.out.cell 3, Y.out.cell 4, Y.out.cell 5⟩) (fun hHeld => ?_)
  clear hKq Kq
  refine wpAnyH_take (i := 4) (oi := ⟨some 71, _, _, _, _, _⟩) (v := ?_) rfl (by kernel_rfl) (by kernel_rfl) (by kernel_rfl) (fun _ _ _ h => h) (Or.inl ⟨by rfl, ?_⟩) (by assumption) ?_
  rotate_left
  · intro w hSw; (try dsimp only at hSw); go_simp; try with_reducible rfl
  simp only [Act.put, List.setIfInBounds_toArray, List.set_cons_zero, List.set_cons_succ]
  refine wpAnyH_done (by kernel_rfl) ?_ _
  have B_0 : World.cell? _ ⟨w.heap.size, 0, none⟩ = some (.int .i64 need) := B.out.cell 0
  have B_1 : World.cell? _ ⟨w.heap.size, 1, none⟩ = some (.int .i64 many) := B.out.cell 1
  have B_2 : World.cell? _ ⟨w.heap.size, 2, none⟩ = some (.slice ag ng cg) := B.out.cell 2
  have B_3 : World.cell? _ ⟨w.heap.size, 3, none⟩ = some (.slice ac nc cc) := B.out.cell 3
  have B_l := B.out.lt
  have Z_0 : World.cell? _ ⟨v5.heap.size, 0, none⟩ = some (.int .i64 qn) := Z.out.cell 0
  have Z_1 : World.cell? _ ⟨v5.heap.size, 1, none⟩ = some (.int .i64 qm) := Z.out.cell 1
  have Z_2 : World.cell? _ ⟨v5.heap.size, 2, none⟩ = some (.slice wa1 qg wc1) := Z.out.cell 2
  have Z_3 : World.cell? _ ⟨v5.heap.size, 3, none⟩ = some (.slice wa2 qc wc2) := Z.out.cell 3
  have Z_4 : World.cell? _ ⟨v5.heap.size, 4, none⟩ = some (.int .i64 qs) := Z.out.cell 4
  have Z_5 : World.cell? _ ⟨v5.heap.size, 5, none⟩ = some (.slice wa3 qk wc3) := Z.out.cell 5
  have Z_l := Z.out.lt
  have XB_0 : World.cell? _ ⟨v6.heap.size, 0, none⟩ = some (.int .i64 need) := XB.out.cell 0
  have XB_1 : World.cell? _ ⟨v6.heap.size, 1, none⟩ = some (.int .i64 many) := XB.out.cell 1
  have XB_2 : World.cell? _ ⟨v6.heap.size, 2, none⟩ = some (.slice (some ⟨xb1, 0, none⟩) ng ng) := XB.out.cell 2
  have XB_3 : World.cell? _ ⟨v6.heap.size, 3, none⟩ = some (.slice (some ⟨xb2, 0, none⟩) nc nc) := XB.out.cell 3
  have XB_l := XB.out.lt
  have Y_0 : World.cell? _ ⟨v9.heap.size, 0, none⟩ = some (.int .i64 qn) := Y.out.cell 0
  have Y_1 : World.cell? _ ⟨v9.heap.size, 1, none⟩ = some (.int .i64 qm) := Y.out.cell 1
  have Y_2 : World.cell? _ ⟨v9.heap.size, 2, none⟩ = some (.slice ga1 qg gc1) := Y.out.cell 2
  have Y_3 : World.cell? _ ⟨v9.heap.size, 3, none⟩ = some (.slice ga2 qc gc2) := Y.out.cell 3
  have Y_4 : World.cell? _ ⟨v9.heap.size, 4, none⟩ = some (.int .i64 qs) := Y.out.cell 4
  have Y_5 : World.cell? _ ⟨v9.heap.size, 5, none⟩ = some (.slice ga3 qk gc3) := Y.out.cell 5
  have Y_l := Y.out.lt
  go_wp2_with fail
  refine (tointO _ _ nm _ zm D.out.i1 hl3 (0) (Nat.zero_le _)).mono ?_
  rintro e v14 ⟨zb3, rfl, ho, hg⟩
  clear B_0 B_1 B_2 B_3 Z_0 Z_1 Z_2 Z_3 Z_4 Z_5 XB_0 XB_1 XB_2 XB_3 Y_0 Y_1 Y_2 Y_3 Y_4 Y_5 B_l Z_l XB_l Y_l
  have hz := hg.size
  have HZ13 := Lib.hid hz; clear hz
  replace G := Lib.hid (gtr G.out hg)
  replace B := Lib.hid (B.out.keptN hg)
  replace A := Lib.hid (A.out.keptN hg)
  replace D := Lib.hid (D.out.keptN hg)
  replace W := Lib.hid (W.out.keptN hg)
  replace Z := Lib.hid (Z.out.keptN hg)
  replace X := Lib.hid (X.out.keptN hg)
  replace XB := Lib.hid (XB.out.keptN hg)
  replace XM := Lib.hid (XM.out.keptN hg)
  replace XS := Lib.hid (XS.out.keptN hg)
  replace Q := Lib.hid (Q.out.keptN hg)
  replace Y := Lib.hid (Y.out.keptN hg)
  clear hg
  have T := Lib.hid (ho)
  clear ho
  have B_0 : World.cell? _ ⟨w.heap.size, 0, none⟩ = some (.int .i64 need) := B.out.cell 0
  have B_1 : World.cell? _ ⟨w.heap.size, 1, none⟩ = some (.int .i64 many) := B.out.cell 1
  have B_2 : World.cell? _ ⟨w.heap.size, 2, none⟩ = some (.slice ag ng cg) := B.out.cell 2
  have B_3 : World.cell? _ ⟨w.heap.size, 3, none⟩ = some (.slice ac nc cc) := B.out.cell 3
  have B_l := B.out.lt
  have Z_0 : World.cell? _ ⟨v5.heap.size, 0, none⟩ = some (.int .i64 qn) := Z.out.cell 0
  have Z_1 : World.cell? _ ⟨v5.heap.size, 1, none⟩ = some (.int .i64 qm) := Z.out.cell 1
  have Z_2 : World.cell? _ ⟨v5.heap.size, 2, none⟩ = some (.slice wa1 qg wc1) := Z.out.cell 2
  have Z_3 : World.cell? _ ⟨v5.heap.size, 3, none⟩ = some (.slice wa2 qc wc2) := Z.out.cell 3
  have Z_4 : World.cell? _ ⟨v5.heap.size, 4, none⟩ = some (.int .i64 qs) := Z.out.cell 4
  have Z_5 : World.cell? _ ⟨v5.heap.size, 5, none⟩ = some (.slice wa3 qk wc3) := Z.out.cell 5
  have Z_l := Z.out.lt
  have XB_0 : World.cell? _ ⟨v6.heap.size, 0, none⟩ = some (.int .i64 need) := XB.out.cell 0
  have XB_1 : World.cell? _ ⟨v6.heap.size, 1, none⟩ = some (.int .i64 many) := XB.out.cell 1
  have XB_2 : World.cell? _ ⟨v6.heap.size, 2, none⟩ = some (.slice (some ⟨xb1, 0, none⟩) ng ng) := XB.out.cell 2
  have XB_3 : World.cell? _ ⟨v6.heap.size, 3, none⟩ = some (.slice (some ⟨xb2, 0, none⟩) nc nc) := XB.out.cell 3
  have XB_l := XB.out.lt
  have Y_0 : World.cell? _ ⟨v9.heap.size, 0, none⟩ = some (.int .i64 qn) := Y.out.cell 0
  have Y_1 : World.cell? _ ⟨v9.heap.size, 1, none⟩ = some (.int .i64 qm) := Y.out.cell 1
  have Y_2 : World.cell? _ ⟨v9.heap.size, 2, none⟩ = some (.slice ga1 qg gc1) := Y.out.cell 2
  have Y_3 : World.cell? _ ⟨v9.heap.size, 3, none⟩ = some (.slice ga2 qc gc2) := Y.out.cell 3
  have Y_4 : World.cell? _ ⟨v9.heap.size, 4, none⟩ = some (.int .i64 qs) := Y.out.cell 4
  have Y_5 : World.cell? _ ⟨v9.heap.size, 5, none⟩ = some (.slice ga3 qk gc3) := Y.out.cell 5
  have Y_l := Y.out.lt
  go_wp2_with fail
  refine (eqint _ _ _ nm _ _ zm XM.out.s.i1 T.out.s.i1 hl3).mono ?_
  rintro e v15 ⟨rfl, hg⟩
  clear B_0 B_1 B_2 B_3 Z_0 Z_1 Z_2 Z_3 Z_4 Z_5 XB_0 XB_1 XB_2 XB_3 Y_0 Y_1 Y_2 Y_3 Y_4 Y_5 B_l Z_l XB_l Y_l
  have hz := hg.size
  have HZ14 := Lib.hid hz; clear hz
  replace G := Lib.hid (gtr G.out hg)
  replace B := Lib.hid (B.out.keptN hg)
  replace A := Lib.hid (A.out.keptN hg)
  replace D := Lib.hid (D.out.keptN hg)
  replace W := Lib.hid (W.out.keptN hg)
  replace Z := Lib.hid (Z.out.keptN hg)
  replace X := Lib.hid (X.out.keptN hg)
  replace XB := Lib.hid (XB.out.keptN hg)
  replace XM := Lib.hid (XM.out.keptN hg)
  replace XS := Lib.hid (XS.out.keptN hg)
  replace Q := Lib.hid (Q.out.keptN hg)
  replace Y := Lib.hid (Y.out.keptN hg)
  clear hg
  clear T
  have B_0 : World.cell? _ ⟨w.heap.size, 0, none⟩ = some (.int .i64 need) := B.out.cell 0
  have B_1 : World.cell? _ ⟨w.heap.size, 1, none⟩ = some (.int .i64 many) := B.out.cell 1
  have B_2 : World.cell? _ ⟨w.heap.size, 2, none⟩ = some (.slice ag ng cg) := B.out.cell 2
  have B_3 : World.cell? _ ⟨w.heap.size, 3, none⟩ = some (.slice ac nc cc) := B.out.cell 3
  have B_l := B.out.lt
  have Z_0 : World.cell? _ ⟨v5.heap.size, 0, none⟩ = some (.int .i64 qn) := Z.out.cell 0
  have Z_1 : World.cell? _ ⟨v5.heap.size, 1, none⟩ = some (.int .i64 qm) := Z.out.cell 1
  have Z_2 : World.cell? _ ⟨v5.heap.size, 2, none⟩ = some (.slice wa1 qg wc1) := Z.out.cell 2
  have Z_3 : World.cell? _ ⟨v5.heap.size, 3, none⟩ = some (.slice wa2 qc wc2) := Z.out.cell 3
  have Z_4 : World.cell? _ ⟨v5.heap.size, 4, none⟩ = some (.int .i64 qs) := Z.out.cell 4
  have Z_5 : World.cell? _ ⟨v5.heap.size, 5, none⟩ = some (.slice wa3 qk wc3) := Z.out.cell 5
  have Z_l := Z.out.lt
  have XB_0 : World.cell? _ ⟨v6.heap.size, 0, none⟩ = some (.int .i64 need) := XB.out.cell 0
  have XB_1 : World.cell? _ ⟨v6.heap.size, 1, none⟩ = some (.int .i64 many) := XB.out.cell 1
  have XB_2 : World.cell? _ ⟨v6.heap.size, 2, none⟩ = some (.slice (some ⟨xb1, 0, none⟩) ng ng) := XB.out.cell 2
  have XB_3 : World.cell? _ ⟨v6.heap.size, 3, none⟩ = some (.slice (some ⟨xb2, 0, none⟩) nc nc) := XB.out.cell 3
  have XB_l := XB.out.lt
  have Y_0 : World.cell? _ ⟨v9.heap.size, 0, none⟩ = some (.int .i64 qn) := Y.out.cell 0
  have Y_1 : World.cell? _ ⟨v9.heap.size, 1, none⟩ = some (.int .i64 qm) := Y.out.cell 1
  have Y_2 : World.cell? _ ⟨v9.heap.size, 2, none⟩ = some (.slice ga1 qg gc1) := Y.out.cell 2
  have Y_3 : World.cell? _ ⟨v9.heap.size, 3, none⟩ = some (.slice ga2 qc gc2) := Y.out.cell 3
  have Y_4 : World.cell? _ ⟨v9.heap.size, 4, none⟩ = some (.int .i64 qs) := Y.out.cell 4
  have Y_5 : World.cell? _ ⟨v9.heap.size, 5, none⟩ = some (.slice ga3 qk gc3) := Y.out.cell 5
  have Y_l := Y.out.lt
  go_wp2_with fail
  refine (tointO _ _ ns _ zs D.out.i2 hl4 (0) (Nat.zero_le _)).mono ?_
  rintro e v16 ⟨zb4, rfl, ho, hg⟩
  clear B_0 B_1 B_2 B_3 Z_0 Z_1 Z_2 Z_3 Z_4 Z_5 XB_0 XB_1 XB_2 XB_3 Y_0 Y_1 Y_2 Y_3 Y_4 Y_5 B_l Z_l XB_l Y_l
  have hz := hg.size
  have HZ15 := Lib.hid hz; clear hz
  replace G := Lib.hid (gtr G.out hg)
  replace B := Lib.hid (B.out.keptN hg)
  replace A := Lib.hid (A.out.keptN hg)
  replace D := Lib.hid (D.out.keptN hg)
  replace W := Lib.hid (W.out.keptN hg)
  replace Z := Lib.hid (Z.out.keptN hg)
  replace X := Lib.hid (X.out.keptN hg)
  replace XB := Lib.hid (XB.out.keptN hg)
  replace XM := Lib.hid (XM.out.keptN hg)
  replace XS := Lib.hid (XS.out.keptN hg)
  replace Q := Lib.hid (Q.out.keptN hg)
  replace Y := Lib.hid (Y.out.keptN hg)
  clear hg
  have T := Lib.hid (ho)
  clear ho
  have B_0 : World.cell? _ ⟨w.heap.size, 0, none⟩ = some (.int .i64 need) := B.out.cell 0
  have B_1 : World.cell? _ ⟨w.heap.size, 1, none⟩ = some (.int .i64 many) := B.out.cell 1
  have B_2 : World.cell? _ ⟨w.heap.size, 2, none⟩ = some (.slice ag ng cg) := B.out.cell 2
  have B_3 : World.cell? _ ⟨w.heap.size, 3, none⟩ = some (.slice ac nc cc) := B.out.cell 3
  have B_l := B.out.lt
  have Z_0 : World.cell? _ ⟨v5.heap.size, 0, none⟩ = some (.int .i64 qn) := Z.out.cell 0
  have Z_1 : World.cell? _ ⟨v5.heap.size, 1, none⟩ = some (.int .i64 qm) := Z.out.cell 1
  have Z_2 : World.cell? _ ⟨v5.heap.size, 2, none⟩ = some (.slice wa1 qg wc1) := Z.out.cell 2
  have Z_3 : World.cell? _ ⟨v5.heap.size, 3, none⟩ = some (.slice wa2 qc wc2) := Z.out.cell 3
  have Z_4 : World.cell? _ ⟨v5.heap.size, 4, none⟩ = some (.int .i64 qs) := Z.out.cell 4
  have Z_5 : World.cell? _ ⟨v5.heap.size, 5, none⟩ = some (.slice wa3 qk wc3) := Z.out.cell 5
  have Z_l := Z.out.lt
  have XB_0 : World.cell? _ ⟨v6.heap.size, 0, none⟩ = some (.int .i64 need) := XB.out.cell 0
  have XB_1 : World.cell? _ ⟨v6.heap.size, 1, none⟩ = some (.int .i64 many) := XB.out.cell 1
  have XB_2 : World.cell? _ ⟨v6.heap.size, 2, none⟩ = some (.slice (some ⟨xb1, 0, none⟩) ng ng) := XB.out.cell 2
  have XB_3 : World.cell? _ ⟨v6.heap.size, 3, none⟩ = some (.slice (some ⟨xb2, 0, none⟩) nc nc) := XB.out.cell 3
  have XB_l := XB.out.lt
  have Y_0 : World.cell? _ ⟨v9.heap.size, 0, none⟩ = some (.int .i64 qn) := Y.out.cell 0
  have Y_1 : World.cell? _ ⟨v9.heap.size, 1, none⟩ = some (.int .i64 qm) := Y.out.cell 1
  have Y_2 : World.cell? _ ⟨v9.heap.size, 2, none⟩ = some (.slice ga1 qg gc1) := Y.out.cell 2
  have Y_3 : World.cell? _ ⟨v9.heap.size, 3, none⟩ = some (.slice ga2 qc gc2) := Y.out.cell 3
  have Y_4 : World.cell? _ ⟨v9.heap.size, 4, none⟩ = some (.int .i64 qs) := Y.out.cell 4
  have Y_5 : World.cell? _ ⟨v9.heap.size, 5, none⟩ = some (.slice ga3 qk gc3) := Y.out.cell 5
  have Y_l := Y.out.lt
  go_wp2_with fail
  refine (eqint _ _ _ ns _ _ zs XS.out.s.i1 T.out.s.i1 hl4).mono ?_
  rintro e v17 ⟨rfl, hg⟩
  clear B_0 B_1 B_2 B_3 Z_0 Z_1 Z_2 Z_3 Z_4 Z_5 XB_0 XB_1 XB_2 XB_3 Y_0 Y_1 Y_2 Y_3 Y_4 Y_5 B_l Z_l XB_l Y_l
  have hz := hg.size
  have HZ16 := Lib.hid hz; clear hz
  replace G := Lib.hid (gtr G.out hg)
  replace B := Lib.hid (B.out.keptN hg)
  replace A := Lib.hid (A.out.keptN hg)
  replace D := Lib.hid (D.out.keptN hg)
  replace W := Lib.hid (W.out.keptN hg)
  replace Z := Lib.hid (Z.out.keptN hg)
  replace X := Lib.hid (X.out.keptN hg)
  replace XB := Lib.hid (XB.out.keptN hg)
  replace XM := Lib.hid (XM.out.keptN hg)
  replace XS := Lib.hid (XS.out.keptN hg)
  replace Q := Lib.hid (Q.out.keptN hg)
  replace Y := Lib.hid (Y.out.keptN hg)
  clear hg
  clear T
  have M0 := X
  clear X
  have B_0 : World.cell? _ ⟨w.heap.size, 0, none⟩ = some (.int .i64 need) := B.out.cell 0
  have B_1 : World.cell? _ ⟨w.heap.size, 1, none⟩ = some (.int .i64 many) := B.out.cell 1
  have B_2 : World.cell? _ ⟨w.heap.size, 2, none⟩ = some (.slice ag ng cg) := B.out.cell 2
  have B_3 : World.cell? _ ⟨w.heap.size, 3, none⟩ = some (.slice ac nc cc) := B.out.cell 3
  have B_l := B.out.lt
  have Z_0 : World.cell? _ ⟨v5.heap.size, 0, none⟩ = some (.int .i64 qn) := Z.out.cell 0
  have Z_1 : World.cell? _ ⟨v5.heap.size, 1, none⟩ = some (.int .i64 qm) := Z.out.cell 1
  have Z_2 : World.cell? _ ⟨v5.heap.size, 2, none⟩ = some (.slice wa1 qg wc1) := Z.out.cell 2
  have Z_3 : World.cell? _ ⟨v5.heap.size, 3, none⟩ = some (.slice wa2 qc wc2) := Z.out.cell 3
  have Z_4 : World.cell? _ ⟨v5.heap.size, 4, none⟩ = some (.int .i64 qs) := Z.out.cell 4
  have Z_5 : World.cell? _ ⟨v5.heap.size, 5, none⟩ = some (.slice wa3 qk wc3) := Z.out.cell 5
  have Z_l := Z.out.lt
  have XB_0 : World.cell? _ ⟨v6.heap.size, 0, none⟩ = some (.int .i64 need) := XB.out.cell 0
  have XB_1 : World.cell? _ ⟨v6.heap.size, 1, none⟩ = some (.int .i64 many) := XB.out.cell 1
  have XB_2 : World.cell? _ ⟨v6.heap.size, 2, none⟩ = some (.slice (some ⟨xb1, 0, none⟩) ng ng) := XB.out.cell 2
  have XB_3 : World.cell? _ ⟨v6.heap.size, 3, none⟩ = some (.slice (some ⟨xb2, 0, none⟩) nc nc) := XB.out.cell 3
  have XB_l := XB.out.lt
  have Y_0 : World.cell? _ ⟨v9.heap.size, 0, none⟩ = some (.int .i64 qn) := Y.out.cell 0
  have Y_1 : World.cell? _ ⟨v9.heap.size, 1, none⟩ = some (.int .i64 qm) := Y.out.cell 1
  have Y_2 : World.cell? _ ⟨v9.heap.size, 2, none⟩ = some (.slice ga1 qg gc1) := Y.out.cell 2
  have Y_3 : World.cell? _ ⟨v9.heap.size, 3, none⟩ = some (.slice ga2 qc gc2) := Y.out.cell 3
  have Y_4 : World.cell? _ ⟨v9.heap.size, 4, none⟩ = some (.int .i64 qs) := Y.out.cell 4
  have Y_5 : World.cell? _ ⟨v9.heap.size, 5, none⟩ = some (.slice ga3 qk gc3) := Y.out.cell 5
  have Y_l := Y.out.lt
  go_wp2_with fail
  refine (markkeyQ _ need many _ _ _ _ ng nc _ _ zg zc 1 M0.out hl1 hl2 (by omega)).mono ?_
  rintro e v18 ⟨rfl, hs, hq⟩
  clear B_0 B_1 B_2 B_3 Z_0 Z_1 Z_2 Z_3 Z_4 Z_5 XB_0 XB_1 XB_2 XB_3 Y_0 Y_1 Y_2 Y_3 Y_4 Y_5 B_l Z_l XB_l Y_l
  clear hs
  have q0 := HZ0.out
  have q1 := HZ1.out
  have q2 := HZ2.out
  have q3 := HZ3.out
  have q4 := HZ4.out
  have q5 := HZ5.out
  have q6 := HZ6.out
  have q7 := HZ7.out
  have q8 := HZ8.out
  have q9 := HZ9.out
  have q10 := HZ10.out
  have q11 := HZ11.out
  have q12 := HZ12.out
  have q13 := HZ13.out
  have q14 := HZ14.out
  have q15 := HZ15.out
  have q16 := HZ16.out
  have hz := hq.size
  have hGq := Lib.hid hq
  replace G := Lib.hid (chQ G.out hq (by omega))
  replace B := Lib.hid (blk_Q B.out hq (by omega))
  replace A := Lib.hid (A.out.keptQ hq (by omega))
  replace D := Lib.hid (D.out.keptQ hq (by omega))
  replace W := Lib.hid (W.out.keptQ hq (by omega))
  replace Z := Lib.hid (blk_Q Z.out hq (by omega))
  replace XB := Lib.hid (blk_Q XB.out hq (by omega))
  replace XM := Lib.hid (XM.out.keptQ hq (by omega))
  replace XS := Lib.hid (XS.out.keptQ hq (by omega))
  replace Q := Lib.hid (Q.out.keptQ hq (by omega))
  replace Y := Lib.hid (blk_Q Y.out hq (by omega))
  clear hq
  clear q0 q1 q2 q3 q4 q5 q6 q7 q8 q9 q10 q11 q12 q13 q14 q15 q16
  have HZ17 := Lib.hid hz; clear hz hGq
  clear M0
  have M0 := XM
  clear XM
  have B_0 : World.cell? _ ⟨w.heap.size, 0, none⟩ = some (.int .i64 need) := B.out.cell 0
  have B_1 : World.cell? _ ⟨w.heap.size, 1, none⟩ = some (.int .i64 many) := B.out.cell 1
  have B_2 : World.cell? _ ⟨w.heap.size, 2, none⟩ = some (.slice ag ng cg) := B.out.cell 2
  have B_3 : World.cell? _ ⟨w.heap.size, 3, none⟩ = some (.slice ac nc cc) := B.out.cell 3
  have B_l := B.out.lt
  have Z_0 : World.cell? _ ⟨v5.heap.size, 0, none⟩ = some (.int .i64 qn) := Z.out.cell 0
  have Z_1 : World.cell? _ ⟨v5.heap.size, 1, none⟩ = some (.int .i64 qm) := Z.out.cell 1
  have Z_2 : World.cell? _ ⟨v5.heap.size, 2, none⟩ = some (.slice wa1 qg wc1) := Z.out.cell 2
  have Z_3 : World.cell? _ ⟨v5.heap.size, 3, none⟩ = some (.slice wa2 qc wc2) := Z.out.cell 3
  have Z_4 : World.cell? _ ⟨v5.heap.size, 4, none⟩ = some (.int .i64 qs) := Z.out.cell 4
  have Z_5 : World.cell? _ ⟨v5.heap.size, 5, none⟩ = some (.slice wa3 qk wc3) := Z.out.cell 5
  have Z_l := Z.out.lt
  have XB_0 : World.cell? _ ⟨v6.heap.size, 0, none⟩ = some (.int .i64 need) := XB.out.cell 0
  have XB_1 : World.cell? _ ⟨v6.heap.size, 1, none⟩ = some (.int .i64 many) := XB.out.cell 1
  have XB_2 : World.cell? _ ⟨v6.heap.size, 2, none⟩ = some (.slice (some ⟨xb1, 0, none⟩) ng ng) := XB.out.cell 2
  have XB_3 : World.cell? _ ⟨v6.heap.size, 3, none⟩ = some (.slice (some ⟨xb2, 0, none⟩) nc nc) := XB.out.cell 3
  have XB_l := XB.out.lt
  have Y_0 : World.cell? _ ⟨v9.heap.size, 0, none⟩ = some (.int .i64 qn) := Y.out.cell 0
  have Y_1 : World.cell? _ ⟨v9.heap.size, 1, none⟩ = some (.int .i64 qm) := Y.out.cell 1
  have Y_2 : World.cell? _ ⟨v9.heap.size, 2, none⟩ = some (.slice ga1 qg gc1) := Y.out.cell 2
  have Y_3 : World.cell? _ ⟨v9.heap.size, 3, none⟩ = some (.slice ga2 qc gc2) := Y.out.cell 3
  have Y_4 : World.cell? _ ⟨v9.heap.size, 4, none⟩ = some (.int .i64 qs) := Y.out.cell 4
  have Y_5 : World.cell? _ ⟨v9.heap.size, 5, none⟩ = some (.slice ga3 qk gc3) := Y.out.cell 5
  have Y_l := Y.out.lt
  go_wp2_with fail
  refine (markintQ _ _ _ _ nm _ zm (1 + ng + nc) M0.out hl3 (by omega)).mono ?_
  rintro e v19 ⟨rfl, hs, hq⟩
  clear B_0 B_1 B_2 B_3 Z_0 Z_1 Z_2 Z_3 Z_4 Z_5 XB_0 XB_1 XB_2 XB_3 Y_0 Y_1 Y_2 Y_3 Y_4 Y_5 B_l Z_l XB_l Y_l
  clear hs
  have q0 := HZ0.out
  have q1 := HZ1.out
  have q2 := HZ2.out
  have q3 := HZ3.out
  have q4 := HZ4.out
  have q5 := HZ5.out
  have q6 := HZ6.out
  have q7 := HZ7.out
  have q8 := HZ8.out
  have q9 := HZ9.out
  have q10 := HZ10.out
  have q11 := HZ11.out
  have q12 := HZ12.out
  have q13 := HZ13.out
  have q14 := HZ14.out
  have q15 := HZ15.out
  have q16 := HZ16.out
  have q17 := HZ17.out
  have hz := hq.size
  have hGq := Lib.hid hq
  replace G := Lib.hid (chQ G.out hq (by omega))
  replace B := Lib.hid (blk_Q B.out hq (by omega))
  replace A := Lib.hid (A.out.keptQ hq (by omega))
  replace D := Lib.hid (D.out.keptQ hq (by omega))
  replace W := Lib.hid (W.out.keptQ hq (by omega))
  replace Z := Lib.hid (blk_Q Z.out hq (by omega))
  replace XB := Lib.hid (blk_Q XB.out hq (by omega))
  replace XS := Lib.hid (XS.out.keptQ hq (by omega))
  replace Q := Lib.hid (Q.out.keptQ hq (by omega))
  replace Y := Lib.hid (blk_Q Y.out hq (by omega))
  clear hq
  clear q0 q1 q2 q3 q4 q5 q6 q7 q8 q9 q10 q11 q12 q13 q14 q15 q16 q17
  have HZ18 := Lib.hid hz; clear hz hGq
  clear M0
  have M0 := XS
  clear XS
  have B_0 : World.cell? _ ⟨w.heap.size, 0, none⟩ = some (.int .i64 need) := B.out.cell 0
  have B_1 : World.cell? _ ⟨w.heap.size, 1, none⟩ = some (.int .i64 many) := B.out.cell 1
  have B_2 : World.cell? _ ⟨w.heap.size, 2, none⟩ = some (.slice ag ng cg) := B.out.cell 2
  have B_3 : World.cell? _ ⟨w.heap.size, 3, none⟩ = some (.slice ac nc cc) := B.out.cell 3
  have B_l := B.out.lt
  have Z_0 : World.cell? _ ⟨v5.heap.size, 0, none⟩ = some (.int .i64 qn) := Z.out.cell 0
  have Z_1 : World.cell? _ ⟨v5.heap.size, 1, none⟩ = some (.int .i64 qm) := Z.out.cell 1
  have Z_2 : World.cell? _ ⟨v5.heap.size, 2, none⟩ = some (.slice wa1 qg wc1) := Z.out.cell 2
  have Z_3 : World.cell? _ ⟨v5.heap.size, 3, none⟩ = some (.slice wa2 qc wc2) := Z.out.cell 3
  have Z_4 : World.cell? _ ⟨v5.heap.size, 4, none⟩ = some (.int .i64 qs) := Z.out.cell 4
  have Z_5 : World.cell? _ ⟨v5.heap.size, 5, none⟩ = some (.slice wa3 qk wc3) := Z.out.cell 5
  have Z_l := Z.out.lt
  have XB_0 : World.cell? _ ⟨v6.heap.size, 0, none⟩ = some (.int .i64 need) := XB.out.cell 0
  have XB_1 : World.cell? _ ⟨v6.heap.size, 1, none⟩ = some (.int .i64 many) := XB.out.cell 1
  have XB_2 : World.cell? _ ⟨v6.heap.size, 2, none⟩ = some (.slice (some ⟨xb1, 0, none⟩) ng ng) := XB.out.cell 2
  have XB_3 : World.cell? _ ⟨v6.heap.size, 3, none⟩ = some (.slice (some ⟨xb2, 0, none⟩) nc nc) := XB.out.cell 3
  have XB_l := XB.out.lt
  have Y_0 : World.cell? _ ⟨v9.heap.size, 0, none⟩ = some (.int .i64 qn) := Y.out.cell 0
  have Y_1 : World.cell? _ ⟨v9.heap.size, 1, none⟩ = some (.int .i64 qm) := Y.out.cell 1
  have Y_2 : World.cell? _ ⟨v9.heap.size, 2, none⟩ = some (.slice ga1 qg gc1) := Y.out.cell 2
  have Y_3 : World.cell? _ ⟨v9.heap.size, 3, none⟩ = some (.slice ga2 qc gc2) := Y.out.cell 3
  have Y_4 : World.cell? _ ⟨v9.heap.size, 4, none⟩ = some (.int .i64 qs) := Y.out.cell 4
  have Y_5 : World.cell? _ ⟨v9.heap.size, 5, none⟩ = some (.slice ga3 qk gc3) := Y.out.cell 5
  have Y_l := Y.out.lt
  go_wp2_with fail
  refine (markintQ _ _ _ _ ns _ zs (1 + ng + nc + nm) M0.out hl4 (by omega)).mono ?_
  rintro e v20 ⟨rfl, hs, hq⟩
  clear B_0 B_1 B_2 B_3 Z_0 Z_1 Z_2 Z_3 Z_4 Z_5 XB_0 XB_1 XB_2 XB_3 Y_0 Y_1 Y_2 Y_3 Y_4 Y_5 B_l Z_l XB_l Y_l
  clear hs
  have q0 := HZ0.out
  have q1 := HZ1.out
  have q2 := HZ2.out
  have q3 := HZ3.out
  have q4 := HZ4.out
  have q5 := HZ5.out
  have q6 := HZ6.out
  have q7 := HZ7.out
  have q8 := HZ8.out
  have q9 := HZ9.out
  have q10 := HZ10.out
  have q11 := HZ11.out
  have q12 := HZ12.out
  have q13 := HZ13.out
  have q14 := HZ14.out
  have q15 := HZ15.out
  have q16 := HZ16.out
  have q17 := HZ17.out
  have q18 := HZ18.out
  have hz := hq.size
  have hGq := Lib.hid hq
  replace G := Lib.hid (chQ G.out hq (by omega))
  replace B := Lib.hid (blk_Q B.out hq (by omega))
  replace A := Lib.hid (A.out.keptQ hq (by omega))
  replace D := Lib.hid (D.out.keptQ hq (by omega))
  replace W := Lib.hid (W.out.keptQ hq (by omega))
  replace Z := Lib.hid (blk_Q Z.out hq (by omega))
  replace XB := Lib.hid (blk_Q XB.out hq (by omega))
  replace Q := Lib.hid (Q.out.keptQ hq (by omega))
  replace Y := Lib.hid (blk_Q Y.out hq (by omega))
  clear hq
  clear q0 q1 q2 q3 q4 q5 q6 q7 q8 q9 q10 q11 q12 q13 q14 q15 q16 q17 q18
  have HZ19 := Lib.hid hz; clear hz hGq
  clear M0
  have hk1 : ¬ ((1 + ng + nc + nm + ns : Nat) : Int) < 0 := by omega
  have B_0 : World.cell? _ ⟨w.heap.size, 0, none⟩ = some (.int .i64 need) := B.out.cell 0
  have B_1 : World.cell? _ ⟨w.heap.size, 1, none⟩ = some (.int .i64 many) := B.out.cell 1
  have B_2 : World.cell? _ ⟨w.heap.size, 2, none⟩ = some (.slice ag ng cg) := B.out.cell 2
  have B_3 : World.cell? _ ⟨w.heap.size, 3, none⟩ = some (.slice ac nc cc) := B.out.cell 3
  have B_l := B.out.lt
  have Z_0 : World.cell? _ ⟨v5.heap.size, 0, none⟩ = some (.int .i64 qn) := Z.out.cell 0
  have Z_1 : World.cell? _ ⟨v5.heap.size, 1, none⟩ = some (.int .i64 qm) := Z.out.cell 1
  have Z_2 : World.cell? _ ⟨v5.heap.size, 2, none⟩ = some (.slice wa1 qg wc1) := Z.out.cell 2
  have Z_3 : World.cell? _ ⟨v5.heap.size, 3, none⟩ = some (.slice wa2 qc wc2) := Z.out.cell 3
  have Z_4 : World.cell? _ ⟨v5.heap.size, 4, none⟩ = some (.int .i64 qs) := Z.out.cell 4
  have Z_5 : World.cell? _ ⟨v5.heap.size, 5, none⟩ = some (.slice wa3 qk wc3) := Z.out.cell 5
  have Z_l := Z.out.lt
  have XB_0 : World.cell? _ ⟨v6.heap.size, 0, none⟩ = some (.int .i64 need) := XB.out.cell 0
  have XB_1 : World.cell? _ ⟨v6.heap.size, 1, none⟩ = some (.int .i64 many) := XB.out.cell 1
  have XB_2 : World.cell? _ ⟨v6.heap.size, 2, none⟩ = some (.slice (some ⟨xb1, 0, none⟩) ng ng) := XB.out.cell 2
  have XB_3 : World.cell? _ ⟨v6.heap.size, 3, none⟩ = some (.slice (some ⟨xb2, 0, none⟩) nc nc) := XB.out.cell 3
  have XB_l := XB.out.lt
  have Y_0 : World.cell? _ ⟨v9.heap.size, 0, none⟩ = some (.int .i64 qn) := Y.out.cell 0
  have Y_1 : World.cell? _ ⟨v9.heap.size, 1, none⟩ = some (.int .i64 qm) := Y.out.cell 1
  have Y_2 : World.cell? _ ⟨v9.heap.size, 2, none⟩ = some (.slice ga1 qg gc1) := Y.out.cell 2
  have Y_3 : World.cell? _ ⟨v9.heap.size, 3, none⟩ = some (.slice ga2 qc gc2) := Y.out.cell 3
  have Y_4 : World.cell? _ ⟨v9.heap.size, 4, none⟩ = some (.int .i64 qs) := Y.out.cell 4
  have Y_5 : World.cell? _ ⟨v9.heap.size, 5, none⟩ = some (.slice ga3 qk gc3) := Y.out.cell 5
  have Y_l := Y.out.lt
  go_wp2_with fail
  refine (eqses _ qn qm _ _ _ _ qg _ _ qzg qc _ _ qzc qs _ _ qk _ _ qS Q.out.s.i1 Q.out.s.i2 W.out.i1 W.out.i2 Q.out.s.i3 W.out.i3 hq1 hq2 hq3).mono ?_
  rintro e v21 ⟨rfl, hg⟩
  clear B_0 B_1 B_2 B_3 Z_0 Z_1 Z_2 Z_3 Z_4 Z_5 XB_0 XB_1 XB_2 XB_3 Y_0 Y_1 Y_2 Y_3 Y_4 Y_5 B_l Z_l XB_l Y_l
  have hz := hg.size
  have HZ20 := Lib.hid hz; clear hz
  replace G := Lib.hid (gtr G.out hg)
  replace B := Lib.hid (B.out.keptN hg)
  replace A := Lib.hid (A.out.keptN hg)
  replace D := Lib.hid (D.out.keptN hg)
  replace W := Lib.hid (W.out.keptN hg)
  replace Z := Lib.hid (Z.out.keptN hg)
  replace XB := Lib.hid (XB.out.keptN hg)
  replace Q := Lib.hid (Q.out.keptN hg)
  replace Y := Lib.hid (Y.out.keptN hg)
  clear hg
  have M0 := Q
  clear Q
  have B_0 : World.cell? _ ⟨w.heap.size, 0, none⟩ = some (.int .i64 need) := B.out.cell 0
  have B_1 : World.cell? _ ⟨w.heap.size, 1, none⟩ = some (.int .i64 many) := B.out.cell 1
  have B_2 : World.cell? _ ⟨w.heap.size, 2, none⟩ = some (.slice ag ng cg) := B.out.cell 2
  have B_3 : World.cell? _ ⟨w.heap.size, 3, none⟩ = some (.slice ac nc cc) := B.out.cell 3
  have B_l := B.out.lt
  have Z_0 : World.cell? _ ⟨v5.heap.size, 0, none⟩ = some (.int .i64 qn) := Z.out.cell 0
  have Z_1 : World.cell? _ ⟨v5.heap.size, 1, none⟩ = some (.int .i64 qm) := Z.out.cell 1
  have Z_2 : World.cell? _ ⟨v5.heap.size, 2, none⟩ = some (.slice wa1 qg wc1) := Z.out.cell 2
  have Z_3 : World.cell? _ ⟨v5.heap.size, 3, none⟩ = some (.slice wa2 qc wc2) := Z.out.cell 3
  have Z_4 : World.cell? _ ⟨v5.heap.size, 4, none⟩ = some (.int .i64 qs) := Z.out.cell 4
  have Z_5 : World.cell? _ ⟨v5.heap.size, 5, none⟩ = some (.slice wa3 qk wc3) := Z.out.cell 5
  have Z_l := Z.out.lt
  have XB_0 : World.cell? _ ⟨v6.heap.size, 0, none⟩ = some (.int .i64 need) := XB.out.cell 0
  have XB_1 : World.cell? _ ⟨v6.heap.size, 1, none⟩ = some (.int .i64 many) := XB.out.cell 1
  have XB_2 : World.cell? _ ⟨v6.heap.size, 2, none⟩ = some (.slice (some ⟨xb1, 0, none⟩) ng ng) := XB.out.cell 2
  have XB_3 : World.cell? _ ⟨v6.heap.size, 3, none⟩ = some (.slice (some ⟨xb2, 0, none⟩) nc nc) := XB.out.cell 3
  have XB_l := XB.out.lt
  have Y_0 : World.cell? _ ⟨v9.heap.size, 0, none⟩ = some (.int .i64 qn) := Y.out.cell 0
  have Y_1 : World.cell? _ ⟨v9.heap.size, 1, none⟩ = some (.int .i64 qm) := Y.out.cell 1
  have Y_2 : World.cell? _ ⟨v9.heap.size, 2, none⟩ = some (.slice ga1 qg gc1) := Y.out.cell 2
  have Y_3 : World.cell? _ ⟨v9.heap.size, 3, none⟩ = some (.slice ga2 qc gc2) := Y.out.cell 3
  have Y_4 : World.cell? _ ⟨v9.heap.size, 4, none⟩ = some (.int .i64 qs) := Y.out.cell 4
  have Y_5 : World.cell? _ ⟨v9.heap.size, 5, none⟩ = some (.slice ga3 qk gc3) := Y.out.cell 5
  have Y_l := Y.out.lt
  go_wp2_with fail
  refine (marksesE _ qn qm _ _ _ _ _ qg qc qk _ _ _ qzg qzc qS qs 1 M0.out hq1 hq2 hq3 (by omega)).mono ?_
  rintro e v22 ⟨rfl, hs, hq⟩
  clear B_0 B_1 B_2 B_3 Z_0 Z_1 Z_2 Z_3 Z_4 Z_5 XB_0 XB_1 XB_2 XB_3 Y_0 Y_1 Y_2 Y_3 Y_4 Y_5 B_l Z_l XB_l Y_l
  have M := Lib.hid (hs)
  clear hs
  have q0 := HZ0.out
  have q1 := HZ1.out
  have q2 := HZ2.out
  have q3 := HZ3.out
  have q4 := HZ4.out
  have q5 := HZ5.out
  have q6 := HZ6.out
  have q7 := HZ7.out
  have q8 := HZ8.out
  have q9 := HZ9.out
  have q10 := HZ10.out
  have q11 := HZ11.out
  have q12 := HZ12.out
  have q13 := HZ13.out
  have q14 := HZ14.out
  have q15 := HZ15.out
  have q16 := HZ16.out
  have q17 := HZ17.out
  have q18 := HZ18.out
  have q19 := HZ19.out
  have q20 := HZ20.out
  have hz := hq.size
  have hGq := Lib.hid hq
  replace G := Lib.hid (chQ G.out hq (by omega))
  replace B := Lib.hid (blk_Q B.out hq (by omega))
  replace A := Lib.hid (A.out.keptQ hq (by omega))
  replace D := Lib.hid (D.out.keptQ hq (by omega))
  replace W := Lib.hid (W.out.keptQ hq (by omega))
  replace Z := Lib.hid (blk_Q Z.out hq (by omega))
  replace XB := Lib.hid (blk_Q XB.out hq (by omega))
  replace Y := Lib.hid (blk_Q Y.out hq (by omega))
  clear hq
  clear q0 q1 q2 q3 q4 q5 q6 q7 q8 q9 q10 q11 q12 q13 q14 q15 q16 q17 q18 q19 q20
  have HZ21 := Lib.hid hz; clear hz hGq
  clear M0
  have hk2 : ¬ ((1 + qg + qc + 4 * qk : Nat) : Int) < 0 := by omega
  have hk3 : (((1 + qg + qc + 4 * qk : Nat) : Int) != ((1 + qg + qc + 4 * qk : Nat) : Int)) = false := by simp
  have B_0 : World.cell? _ ⟨w.heap.size, 0, none⟩ = some (.int .i64 need) := B.out.cell 0
  have B_1 : World.cell? _ ⟨w.heap.size, 1, none⟩ = some (.int .i64 many) := B.out.cell 1
  have B_2 : World.cell? _ ⟨w.heap.size, 2, none⟩ = some (.slice ag ng cg) := B.out.cell 2
  have B_3 : World.cell? _ ⟨w.heap.size, 3, none⟩ = some (.slice ac nc cc) := B.out.cell 3
  have B_l := B.out.lt
  have Z_0 : World.cell? _ ⟨v5.heap.size, 0, none⟩ = some (.int .i64 qn) := Z.out.cell 0
  have Z_1 : World.cell? _ ⟨v5.heap.size, 1, none⟩ = some (.int .i64 qm) := Z.out.cell 1
  have Z_2 : World.cell? _ ⟨v5.heap.size, 2, none⟩ = some (.slice wa1 qg wc1) := Z.out.cell 2
  have Z_3 : World.cell? _ ⟨v5.heap.size, 3, none⟩ = some (.slice wa2 qc wc2) := Z.out.cell 3
  have Z_4 : World.cell? _ ⟨v5.heap.size, 4, none⟩ = some (.int .i64 qs) := Z.out.cell 4
  have Z_5 : World.cell? _ ⟨v5.heap.size, 5, none⟩ = some (.slice wa3 qk wc3) := Z.out.cell 5
  have Z_l := Z.out.lt
  have XB_0 : World.cell? _ ⟨v6.heap.size, 0, none⟩ = some (.int .i64 need) := XB.out.cell 0
  have XB_1 : World.cell? _ ⟨v6.heap.size, 1, none⟩ = some (.int .i64 many) := XB.out.cell 1
  have XB_2 : World.cell? _ ⟨v6.heap.size, 2, none⟩ = some (.slice (some ⟨xb1, 0, none⟩) ng ng) := XB.out.cell 2
  have XB_3 : World.cell? _ ⟨v6.heap.size, 3, none⟩ = some (.slice (some ⟨xb2, 0, none⟩) nc nc) := XB.out.cell 3
  have XB_l := XB.out.lt
  have Y_0 : World.cell? _ ⟨v9.heap.size, 0, none⟩ = some (.int .i64 qn) := Y.out.cell 0
  have Y_1 : World.cell? _ ⟨v9.heap.size, 1, none⟩ = some (.int .i64 qm) := Y.out.cell 1
  have Y_2 : World.cell? _ ⟨v9.heap.size, 2, none⟩ = some (.slice ga1 qg gc1) := Y.out.cell 2
  have Y_3 : World.cell? _ ⟨v9.heap.size, 3, none⟩ = some (.slice ga2 qc gc2) := Y.out.cell 3
  have Y_4 : World.cell? _ ⟨v9.heap.size, 4, none⟩ = some (.int .i64 qs) := Y.out.cell 4
  have Y_5 : World.cell? _ ⟨v9.heap.size, 5, none⟩ = some (.slice ga3 qk gc3) := Y.out.cell 5
  have Y_l := Y.out.lt
  go_wp2_with fail
  refine (heldses _ qn qm _ _ _ qg qc qk _ _ _ qs 1 M.out.i1 M.out.i2 M.out.i3 hq1 hq2 hq3 (by omega)).mono ?_
  rintro e v23 ⟨rfl, hg⟩
  clear B_0 B_1 B_2 B_3 Z_0 Z_1 Z_2 Z_3 Z_4 Z_5 XB_0 XB_1 XB_2 XB_3 Y_0 Y_1 Y_2 Y_3 Y_4 Y_5 B_l Z_l XB_l Y_l
  have hz := hg.size
  have HZ22 := Lib.hid hz; clear hz
  replace G := Lib.hid (gtr G.out hg)
  replace B := Lib.hid (B.out.keptN hg)
  replace A := Lib.hid (A.out.keptN hg)
  replace D := Lib.hid (D.out.keptN hg)
  replace W := Lib.hid (W.out.keptN hg)
  replace Z := Lib.hid (Z.out.keptN hg)
  replace XB := Lib.hid (XB.out.keptN hg)
  replace Y := Lib.hid (Y.out.keptN hg)
  replace M := Lib.hid (M.out.keptN hg)
  clear hg
  have B_0 : World.cell? _ ⟨w.heap.size, 0, none⟩ = some (.int .i64 need) := B.out.cell 0
  have B_1 : World.cell? _ ⟨w.heap.size, 1, none⟩ = some (.int .i64 many) := B.out.cell 1
  have B_2 : World.cell? _ ⟨w.heap.size, 2, none⟩ = some (.slice ag ng cg) := B.out.cell 2
  have B_3 : World.cell? _ ⟨w.heap.size, 3, none⟩ = some (.slice ac nc cc) := B.out.cell 3
  have B_l := B.out.lt
  have Z_0 : World.cell? _ ⟨v5.heap.size, 0, none⟩ = some (.int .i64 qn) := Z.out.cell 0
  have Z_1 : World.cell? _ ⟨v5.heap.size, 1, none⟩ = some (.int .i64 qm) := Z.out.cell 1
  have Z_2 : World.cell? _ ⟨v5.heap.size, 2, none⟩ = some (.slice wa1 qg wc1) := Z.out.cell 2
  have Z_3 : World.cell? _ ⟨v5.heap.size, 3, none⟩ = some (.slice wa2 qc wc2) := Z.out.cell 3
  have Z_4 : World.cell? _ ⟨v5.heap.size, 4, none⟩ = some (.int .i64 qs) := Z.out.cell 4
  have Z_5 : World.cell? _ ⟨v5.heap.size, 5, none⟩ = some (.slice wa3 qk wc3) := Z.out.cell 5
  have Z_l := Z.out.lt
  have XB_0 : World.cell? _ ⟨v6.heap.size, 0, none⟩ = some (.int .i64 need) := XB.out.cell 0
  have XB_1 : World.cell? _ ⟨v6.heap.size, 1, none⟩ = some (.int .i64 many) := XB.out.cell 1
  have XB_2 : World.cell? _ ⟨v6.heap.size, 2, none⟩ = some (.slice (some ⟨xb1, 0, none⟩) ng ng) := XB.out.cell 2
  have XB_3 : World.cell? _ ⟨v6.heap.size, 3, none⟩ = some (.slice (some ⟨xb2, 0, none⟩) nc nc) := XB.out.cell 3
  have XB_l := XB.out.lt
  have Y_0 : World.cell? _ ⟨v9.heap.size, 0, none⟩ = some (.int .i64 qn) := Y.out.cell 0
  have Y_1 : World.cell? _ ⟨v9.heap.size, 1, none⟩ = some (.int .i64 qm) := Y.out.cell 1
  have Y_2 : World.cell? _ ⟨v9.heap.size, 2, none⟩ = some (.slice ga1 qg gc1) := Y.out.cell 2
  have Y_3 : World.cell? _ ⟨v9.heap.size, 3, none⟩ = some (.slice ga2 qc gc2) := Y.out.cell 3
  have Y_4 : World.cell? _ ⟨v9.heap.size, 4, none⟩ = some (.int .i64 qs) := Y.out.cell 4
  have Y_5 : World.cell? _ ⟨v9.heap.size, 5, none⟩ = some (.slice ga3 qk gc3) := Y.out.cell 5
  have Y_l := Y.out.lt
  go_wp2_with fail
  refine (tokeyO _ need many _ ng _ zg _ nc _ zc A.out.i1 A.out.i2 hl1 hl2 (0) (Nat.zero_le _)).mono ?_
  rintro e v24 ⟨ub1, ub2, rfl, ho, hg⟩
  clear B_0 B_1 B_2 B_3 Z_0 Z_1 Z_2 Z_3 Z_4 Z_5 XB_0 XB_1 XB_2 XB_3 Y_0 Y_1 Y_2 Y_3 Y_4 Y_5 B_l Z_l XB_l Y_l
  have hz := hg.size
  have HZ23 := Lib.hid hz; clear hz
  replace G := Lib.hid (gtr G.out hg)
  replace B := Lib.hid (B.out.keptN hg)
  replace A := Lib.hid (A.out.keptN hg)
  replace D := Lib.hid (D.out.keptN hg)
  replace W := Lib.hid (W.out.keptN hg)
  replace Z := Lib.hid (Z.out.keptN hg)
  replace XB := Lib.hid (XB.out.keptN hg)
  replace Y := Lib.hid (Y.out.keptN hg)
  replace M := Lib.hid (M.out.keptN hg)
  clear hg
  have KO := Lib.hid (ho)
  clear ho
  have B_0 : World.cell? _ ⟨w.heap.size, 0, none⟩ = some (.int .i64 need) := B.out.cell 0
  have B_1 : World.cell? _ ⟨w.heap.size, 1, none⟩ = some (.int .i64 many) := B.out.cell 1
  have B_2 : World.cell? _ ⟨w.heap.size, 2, none⟩ = some (.slice ag ng cg) := B.out.cell 2
  have B_3 : World.cell? _ ⟨w.heap.size, 3, none⟩ = some (.slice ac nc cc) := B.out.cell 3
  have B_l := B.out.lt
  have Z_0 : World.cell? _ ⟨v5.heap.size, 0, none⟩ = some (.int .i64 qn) := Z.out.cell 0
  have Z_1 : World.cell? _ ⟨v5.heap.size, 1, none⟩ = some (.int .i64 qm) := Z.out.cell 1
  have Z_2 : World.cell? _ ⟨v5.heap.size, 2, none⟩ = some (.slice wa1 qg wc1) := Z.out.cell 2
  have Z_3 : World.cell? _ ⟨v5.heap.size, 3, none⟩ = some (.slice wa2 qc wc2) := Z.out.cell 3
  have Z_4 : World.cell? _ ⟨v5.heap.size, 4, none⟩ = some (.int .i64 qs) := Z.out.cell 4
  have Z_5 : World.cell? _ ⟨v5.heap.size, 5, none⟩ = some (.slice wa3 qk wc3) := Z.out.cell 5
  have Z_l := Z.out.lt
  have XB_0 : World.cell? _ ⟨v6.heap.size, 0, none⟩ = some (.int .i64 need) := XB.out.cell 0
  have XB_1 : World.cell? _ ⟨v6.heap.size, 1, none⟩ = some (.int .i64 many) := XB.out.cell 1
  have XB_2 : World.cell? _ ⟨v6.heap.size, 2, none⟩ = some (.slice (some ⟨xb1, 0, none⟩) ng ng) := XB.out.cell 2
  have XB_3 : World.cell? _ ⟨v6.heap.size, 3, none⟩ = some (.slice (some ⟨xb2, 0, none⟩) nc nc) := XB.out.cell 3
  have XB_l := XB.out.lt
  have Y_0 : World.cell? _ ⟨v9.heap.size, 0, none⟩ = some (.int .i64 qn) := Y.out.cell 0
  have Y_1 : World.cell? _ ⟨v9.heap.size, 1, none⟩ = some (.int .i64 qm) := Y.out.cell 1
  have Y_2 : World.cell? _ ⟨v9.heap.size, 2, none⟩ = some (.slice ga1 qg gc1) := Y.out.cell 2
  have Y_3 : World.cell? _ ⟨v9.heap.size, 3, none⟩ = some (.slice ga2 qc gc2) := Y.out.cell 3
  have Y_4 : World.cell? _ ⟨v9.heap.size, 4, none⟩ = some (.int .i64 qs) := Y.out.cell 4
  have Y_5 : World.cell? _ ⟨v9.heap.size, 5, none⟩ = some (.slice ga3 qk gc3) := Y.out.cell 5
  have Y_l := Y.out.lt
  go_wp2_with fail
  refine (tointO _ _ nm _ zm D.out.i1 hl3 (0) (Nat.zero_le _)).mono ?_
  rintro e v25 ⟨ub3, rfl, ho, hg⟩
  clear B_0 B_1 B_2 B_3 Z_0 Z_1 Z_2 Z_3 Z_4 Z_5 XB_0 XB_1 XB_2 XB_3 Y_0 Y_1 Y_2 Y_3 Y_4 Y_5 B_l Z_l XB_l Y_l
  have hz := hg.size
  have HZ24 := Lib.hid hz; clear hz
  replace G := Lib.hid (gtr G.out hg)
  replace B := Lib.hid (B.out.keptN hg)
  replace A := Lib.hid (A.out.keptN hg)
  replace D := Lib.hid (D.out.keptN hg)
  replace W := Lib.hid (W.out.keptN hg)
  replace Z := Lib.hid (Z.out.keptN hg)
  replace XB := Lib.hid (XB.out.keptN hg)
  replace Y := Lib.hid (Y.out.keptN hg)
  replace M := Lib.hid (M.out.keptN hg)
  replace KO := Lib.hid (KO.out.keptN hg)
  clear hg
  have MO := Lib.hid (ho)
  clear ho
  have B_0 : World.cell? _ ⟨w.heap.size, 0, none⟩ = some (.int .i64 need) := B.out.cell 0
  have B_1 : World.cell? _ ⟨w.heap.size, 1, none⟩ = some (.int .i64 many) := B.out.cell 1
  have B_2 : World.cell? _ ⟨w.heap.size, 2, none⟩ = some (.slice ag ng cg) := B.out.cell 2
  have B_3 : World.cell? _ ⟨w.heap.size, 3, none⟩ = some (.slice ac nc cc) := B.out.cell 3
  have B_l := B.out.lt
  have Z_0 : World.cell? _ ⟨v5.heap.size, 0, none⟩ = some (.int .i64 qn) := Z.out.cell 0
  have Z_1 : World.cell? _ ⟨v5.heap.size, 1, none⟩ = some (.int .i64 qm) := Z.out.cell 1
  have Z_2 : World.cell? _ ⟨v5.heap.size, 2, none⟩ = some (.slice wa1 qg wc1) := Z.out.cell 2
  have Z_3 : World.cell? _ ⟨v5.heap.size, 3, none⟩ = some (.slice wa2 qc wc2) := Z.out.cell 3
  have Z_4 : World.cell? _ ⟨v5.heap.size, 4, none⟩ = some (.int .i64 qs) := Z.out.cell 4
  have Z_5 : World.cell? _ ⟨v5.heap.size, 5, none⟩ = some (.slice wa3 qk wc3) := Z.out.cell 5
  have Z_l := Z.out.lt
  have XB_0 : World.cell? _ ⟨v6.heap.size, 0, none⟩ = some (.int .i64 need) := XB.out.cell 0
  have XB_1 : World.cell? _ ⟨v6.heap.size, 1, none⟩ = some (.int .i64 many) := XB.out.cell 1
  have XB_2 : World.cell? _ ⟨v6.heap.size, 2, none⟩ = some (.slice (some ⟨xb1, 0, none⟩) ng ng) := XB.out.cell 2
  have XB_3 : World.cell? _ ⟨v6.heap.size, 3, none⟩ = some (.slice (some ⟨xb2, 0, none⟩) nc nc) := XB.out.cell 3
  have XB_l := XB.out.lt
  have Y_0 : World.cell? _ ⟨v9.heap.size, 0, none⟩ = some (.int .i64 qn) := Y.out.cell 0
  have Y_1 : World.cell? _ ⟨v9.heap.size, 1, none⟩ = some (.int .i64 qm) := Y.out.cell 1
  have Y_2 : World.cell? _ ⟨v9.heap.size, 2, none⟩ = some (.slice ga1 qg gc1) := Y.out.cell 2
  have Y_3 : World.cell? _ ⟨v9.heap.size, 3, none⟩ = some (.slice ga2 qc gc2) := Y.out.cell 3
  have Y_4 : World.cell? _ ⟨v9.heap.size, 4, none⟩ = some (.int .i64 qs) := Y.out.cell 4
  have Y_5 : World.cell? _ ⟨v9.heap.size, 5, none⟩ = some (.slice ga3 qk gc3) := Y.out.cell 5
  have Y_l := Y.out.lt
  go_wp2_with fail
  refine (tointO _ _ ns _ zs D.out.i2 hl4 (0) (Nat.zero_le _)).mono ?_
  rintro e v26 ⟨ub4, rfl, ho, hg⟩
  clear B_0 B_1 B_2 B_3 Z_0 Z_1 Z_2 Z_3 Z_4 Z_5 XB_0 XB_1 XB_2 XB_3 Y_0 Y_1 Y_2 Y_3 Y_4 Y_5 B_l Z_l XB_l Y_l
  have hz := hg.size
  have HZ25 := Lib.hid hz; clear hz
  replace G := Lib.hid (gtr G.out hg)
  replace B := Lib.hid (B.out.keptN hg)
  replace A := Lib.hid (A.out.keptN hg)
  replace D := Lib.hid (D.out.keptN hg)
  replace W := Lib.hid (W.out.keptN hg)
  replace Z := Lib.hid (Z.out.keptN hg)
  replace XB := Lib.hid (XB.out.keptN hg)
  replace Y := Lib.hid (Y.out.keptN hg)
  replace M := Lib.hid (M.out.keptN hg)
  replace KO := Lib.hid (KO.out.keptN hg)
  replace MO := Lib.hid (MO.out.keptN hg)
  clear hg
  have SO := Lib.hid (ho)
  clear ho
  have B_0 : World.cell? _ ⟨w.heap.size, 0, none⟩ = some (.int .i64 need) := B.out.cell 0
  have B_1 : World.cell? _ ⟨w.heap.size, 1, none⟩ = some (.int .i64 many) := B.out.cell 1
  have B_2 : World.cell? _ ⟨w.heap.size, 2, none⟩ = some (.slice ag ng cg) := B.out.cell 2
  have B_3 : World.cell? _ ⟨w.heap.size, 3, none⟩ = some (.slice ac nc cc) := B.out.cell 3
  have B_l := B.out.lt
  have Z_0 : World.cell? _ ⟨v5.heap.size, 0, none⟩ = some (.int .i64 qn) := Z.out.cell 0
  have Z_1 : World.cell? _ ⟨v5.heap.size, 1, none⟩ = some (.int .i64 qm) := Z.out.cell 1
  have Z_2 : World.cell? _ ⟨v5.heap.size, 2, none⟩ = some (.slice wa1 qg wc1) := Z.out.cell 2
  have Z_3 : World.cell? _ ⟨v5.heap.size, 3, none⟩ = some (.slice wa2 qc wc2) := Z.out.cell 3
  have Z_4 : World.cell? _ ⟨v5.heap.size, 4, none⟩ = some (.int .i64 qs) := Z.out.cell 4
  have Z_5 : World.cell? _ ⟨v5.heap.size, 5, none⟩ = some (.slice wa3 qk wc3) := Z.out.cell 5
  have Z_l := Z.out.lt
  have XB_0 : World.cell? _ ⟨v6.heap.size, 0, none⟩ = some (.int .i64 need) := XB.out.cell 0
  have XB_1 : World.cell? _ ⟨v6.heap.size, 1, none⟩ = some (.int .i64 many) := XB.out.cell 1
  have XB_2 : World.cell? _ ⟨v6.heap.size, 2, none⟩ = some (.slice (some ⟨xb1, 0, none⟩) ng ng) := XB.out.cell 2
  have XB_3 : World.cell? _ ⟨v6.heap.size, 3, none⟩ = some (.slice (some ⟨xb2, 0, none⟩) nc nc) := XB.out.cell 3
  have XB_l := XB.out.lt
  have Y_0 : World.cell? _ ⟨v9.heap.size, 0, none⟩ = some (.int .i64 qn) := Y.out.cell 0
  have Y_1 : World.cell? _ ⟨v9.heap.size, 1, none⟩ = some (.int .i64 qm) := Y.out.cell 1
  have Y_2 : World.cell? _ ⟨v9.heap.size, 2, none⟩ = some (.slice ga1 qg gc1) := Y.out.cell 2
  have Y_3 : World.cell? _ ⟨v9.heap.size, 3, none⟩ = some (.slice ga2 qc gc2) := Y.out.cell 3
  have Y_4 : World.cell? _ ⟨v9.heap.size, 4, none⟩ = some (.int .i64 qs) := Y.out.cell 4
  have Y_5 : World.cell? _ ⟨v9.heap.size, 5, none⟩ = some (.slice ga3 qk gc3) := Y.out.cell 5
  have Y_l := Y.out.lt
  go_wp2_with fail
  refine (i32new _ need many _ ng _ zg _ nc _ zc msg _ nm _ zm _ ns _ zs KO.out.s.i1 KO.out.s.i2 (.inl ⟨_, rfl⟩) (.inl ⟨_, rfl⟩) MO.out.s.i1 SO.out.s.i1 hl1 hl2 hl3).mono ?_
  rintro e v27 h
  obtain ⟨ha1, hc1, ha2, hc2, ha3, hc3, rfl, ho, hg⟩ := HU.out _ _ _ h
  clear B_0 B_1 B_2 B_3 Z_0 Z_1 Z_2 Z_3 Z_4 Z_5 XB_0 XB_1 XB_2 XB_3 Y_0 Y_1 Y_2 Y_3 Y_4 Y_5 B_l Z_l XB_l Y_l
  clear h
  have hz := hg.size
  have HZ26 := Lib.hid hz; clear hz
  clear KO MO SO
  replace G := Lib.hid (gtr G.out hg)
  replace B := Lib.hid (B.out.keptN hg)
  replace A := Lib.hid (A.out.keptN hg)
  replace D := Lib.hid (D.out.keptN hg)
  replace W := Lib.hid (W.out.keptN hg)
  replace Z := Lib.hid (Z.out.keptN hg)
  replace XB := Lib.hid (XB.out.keptN hg)
  replace Y := Lib.hid (Y.out.keptN hg)
  replace M := Lib.hid (M.out.keptN hg)
  clear hg
  have K := Lib.hid (ho.s)
  clear ho
  have hg := Draw.grown_alloc v27 (.cells #[.int .i64 qn, .int .i64 qm, .slice ha1 qg hc1, .slice ha2 qc hc2, .int .i64 qs, .slice ha3 qk hc3] 66) none
  have HB := Lib.hid (Blk.new v27 #[.int .i64 qn, .int .i64 qm, .slice ha1 qg hc1, .slice ha2 qc hc2, .int .i64 qs, .slice ha3 qk hc3] 66)
  replace G := Lib.hid (gtr G.out hg)
  replace B := Lib.hid (B.out.keptN hg)
  replace A := Lib.hid (A.out.keptN hg)
  replace D := Lib.hid (D.out.keptN hg)
  replace W := Lib.hid (W.out.keptN hg)
  replace Z := Lib.hid (Z.out.keptN hg)
  replace XB := Lib.hid (XB.out.keptN hg)
  replace Y := Lib.hid (Y.out.keptN hg)
  replace M := Lib.hid (M.out.keptN hg)
  replace K := Lib.hid (K.out.keptN hg)
  clear hg
  have B_0 : World.cell? _ ⟨w.heap.size, 0, none⟩ = some (.int .i64 need) := B.out.cell 0
  have B_1 : World.cell? _ ⟨w.heap.size, 1, none⟩ = some (.int .i64 many) := B.out.cell 1
  have B_2 : World.cell? _ ⟨w.heap.size, 2, none⟩ = some (.slice ag ng cg) := B.out.cell 2
  have B_3 : World.cell? _ ⟨w.heap.size, 3, none⟩ = some (.slice ac nc cc) := B.out.cell 3
  have B_l := B.out.lt
  have Z_0 : World.cell? _ ⟨v5.heap.size, 0, none⟩ = some (.int .i64 qn) := Z.out.cell 0
  have Z_1 : World.cell? _ ⟨v5.heap.size, 1, none⟩ = some (.int .i64 qm) := Z.out.cell 1
  have Z_2 : World.cell? _ ⟨v5.heap.size, 2, none⟩ = some (.slice wa1 qg wc1) := Z.out.cell 2
  have Z_3 : World.cell? _ ⟨v5.heap.size, 3, none⟩ = some (.slice wa2 qc wc2) := Z.out.cell 3
  have Z_4 : World.cell? _ ⟨v5.heap.size, 4, none⟩ = some (.int .i64 qs) := Z.out.cell 4
  have Z_5 : World.cell? _ ⟨v5.heap.size, 5, none⟩ = some (.slice wa3 qk wc3) := Z.out.cell 5
  have Z_l := Z.out.lt
  have XB_0 : World.cell? _ ⟨v6.heap.size, 0, none⟩ = some (.int .i64 need) := XB.out.cell 0
  have XB_1 : World.cell? _ ⟨v6.heap.size, 1, none⟩ = some (.int .i64 many) := XB.out.cell 1
  have XB_2 : World.cell? _ ⟨v6.heap.size, 2, none⟩ = some (.slice (some ⟨xb1, 0, none⟩) ng ng) := XB.out.cell 2
  have XB_3 : World.cell? _ ⟨v6.heap.size, 3, none⟩ = some (.slice (some ⟨xb2, 0, none⟩) nc nc) := XB.out.cell 3
  have XB_l := XB.out.lt
  have Y_0 : World.cell? _ ⟨v9.heap.size, 0, none⟩ = some (.int .i64 qn) := Y.out.cell 0
  have Y_1 : World.cell? _ ⟨v9.heap.size, 1, none⟩ = some (.int .i64 qm) := Y.out.cell 1
  have Y_2 : World.cell? _ ⟨v9.heap.size, 2, none⟩ = some (.slice ga1 qg gc1) := Y.out.cell 2
  have Y_3 : World.cell? _ ⟨v9.heap.size, 3, none⟩ = some (.slice ga2 qc gc2) := Y.out.cell 3
  have Y_4 : World.cell? _ ⟨v9.heap.size, 4, none⟩ = some (.int .i64 qs) := Y.out.cell 4
  have Y_5 : World.cell? _ ⟨v9.heap.size, 5, none⟩ = some (.slice ga3 qk gc3) := Y.out.cell 5
  have Y_l := Y.out.lt
  have HB_0 : World.cell? _ ⟨v27.heap.size, 0, none⟩ = some (.int .i64 qn) := HB.out.cell 0
  have HB_1 : World.cell? _ ⟨v27.heap.size, 1, none⟩ = some (.int .i64 qm) := HB.out.cell 1
  have HB_2 : World.cell? _ ⟨v27.heap.size, 2, none⟩ = some (.slice ha1 qg hc1) := HB.out.cell 2
  have HB_3 : World.cell? _ ⟨v27.heap.size, 3, none⟩ = some (.slice ha2 qc hc2) := HB.out.cell 3
  have HB_4 : World.cell? _ ⟨v27.heap.size, 4, none⟩ = some (.int .i64 qs) := HB.out.cell 4
  have HB_5 : World.cell? _ ⟨v27.heap.size, 5, none⟩ = some (.slice ha3 qk hc3) := HB.out.cell 5
  have HB_l := HB.out.lt
  go_wp2_with fail
  refine (eqses _ qn qm _ _ _ _ qg _ _ qzg qc _ _ qzc qs _ _ qk _ _ qS K.out.i1 K.out.i2 W.out.i1 W.out.i2 K.out.i3 W.out.i3 hq1 hq2 hq3).mono ?_
  rintro e v28 ⟨rfl, hg⟩
  clear B_0 B_1 B_2 B_3 Z_0 Z_1 Z_2 Z_3 Z_4 Z_5 XB_0 XB_1 XB_2 XB_3 Y_0 Y_1 Y_2 Y_3 Y_4 Y_5 HB_0 HB_1 HB_2 HB_3 HB_4 HB_5 B_l Z_l XB_l Y_l HB_l
  have hz := hg.size; rw [World.size_alloc] at hz
  have HZ27 := Lib.hid hz; clear hz
  replace G := Lib.hid (gtr G.out hg)
  replace B := Lib.hid (B.out.keptN hg)
  replace A := Lib.hid (A.out.keptN hg)
  replace D := Lib.hid (D.out.keptN hg)
  replace W := Lib.hid (W.out.keptN hg)
  replace Z := Lib.hid (Z.out.keptN hg)
  replace XB := Lib.hid (XB.out.keptN hg)
  replace Y := Lib.hid (Y.out.keptN hg)
  replace M := Lib.hid (M.out.keptN hg)
  replace K := Lib.hid (K.out.keptN hg)
  replace HB := Lib.hid (HB.out.keptN hg)
  clear hg
  have B_0 : World.cell? _ ⟨w.heap.size, 0, none⟩ = some (.int .i64 need) := B.out.cell 0
  have B_1 : World.cell? _ ⟨w.heap.size, 1, none⟩ = some (.int .i64 many) := B.out.cell 1
  have B_2 : World.cell? _ ⟨w.heap.size, 2, none⟩ = some (.slice ag ng cg) := B.out.cell 2
  have B_3 : World.cell? _ ⟨w.heap.size, 3, none⟩ = some (.slice ac nc cc) := B.out.cell 3
  have B_l := B.out.lt
  have Z_0 : World.cell? _ ⟨v5.heap.size, 0, none⟩ = some (.int .i64 qn) := Z.out.cell 0
  have Z_1 : World.cell? _ ⟨v5.heap.size, 1, none⟩ = some (.int .i64 qm) := Z.out.cell 1
  have Z_2 : World.cell? _ ⟨v5.heap.size, 2, none⟩ = some (.slice wa1 qg wc1) := Z.out.cell 2
  have Z_3 : World.cell? _ ⟨v5.heap.size, 3, none⟩ = some (.slice wa2 qc wc2) := Z.out.cell 3
  have Z_4 : World.cell? _ ⟨v5.heap.size, 4, none⟩ = some (.int .i64 qs) := Z.out.cell 4
  have Z_5 : World.cell? _ ⟨v5.heap.size, 5, none⟩ = some (.slice wa3 qk wc3) := Z.out.cell 5
  have Z_l := Z.out.lt
  have XB_0 : World.cell? _ ⟨v6.heap.size, 0, none⟩ = some (.int .i64 need) := XB.out.cell 0
  have XB_1 : World.cell? _ ⟨v6.heap.size, 1, none⟩ = some (.int .i64 many) := XB.out.cell 1
  have XB_2 : World.cell? _ ⟨v6.heap.size, 2, none⟩ = some (.slice (some ⟨xb1, 0, none⟩) ng ng) := XB.out.cell 2
  have XB_3 : World.cell? _ ⟨v6.heap.size, 3, none⟩ = some (.slice (some ⟨xb2, 0, none⟩) nc nc) := XB.out.cell 3
  have XB_l := XB.out.lt
  have Y_0 : World.cell? _ ⟨v9.heap.size, 0, none⟩ = some (.int .i64 qn) := Y.out.cell 0
  have Y_1 : World.cell? _ ⟨v9.heap.size, 1, none⟩ = some (.int .i64 qm) := Y.out.cell 1
  have Y_2 : World.cell? _ ⟨v9.heap.size, 2, none⟩ = some (.slice ga1 qg gc1) := Y.out.cell 2
  have Y_3 : World.cell? _ ⟨v9.heap.size, 3, none⟩ = some (.slice ga2 qc gc2) := Y.out.cell 3
  have Y_4 : World.cell? _ ⟨v9.heap.size, 4, none⟩ = some (.int .i64 qs) := Y.out.cell 4
  have Y_5 : World.cell? _ ⟨v9.heap.size, 5, none⟩ = some (.slice ga3 qk gc3) := Y.out.cell 5
  have Y_l := Y.out.lt
  have HB_0 : World.cell? _ ⟨v27.heap.size, 0, none⟩ = some (.int .i64 qn) := HB.out.cell 0
  have HB_1 : World.cell? _ ⟨v27.heap.size, 1, none⟩ = some (.int .i64 qm) := HB.out.cell 1
  have HB_2 : World.cell? _ ⟨v27.heap.size, 2, none⟩ = some (.slice ha1 qg hc1) := HB.out.cell 2
  have HB_3 : World.cell? _ ⟨v27.heap.size, 3, none⟩ = some (.slice ha2 qc hc2) := HB.out.cell 3
  have HB_4 : World.cell? _ ⟨v27.heap.size, 4, none⟩ = some (.int .i64 qs) := HB.out.cell 4
  have HB_5 : World.cell? _ ⟨v27.heap.size, 5, none⟩ = some (.slice ha3 qk hc3) := HB.out.cell 5
  have HB_l := HB.out.lt
  go_wp2_with fail
  refine (heldses _ qn qm _ _ _ qg qc qk _ _ _ qs 1 M.out.i1 M.out.i2 M.out.i3 hq1 hq2 hq3 (by omega)).mono ?_
  rintro e v29 ⟨rfl, hg⟩
  clear B_0 B_1 B_2 B_3 Z_0 Z_1 Z_2 Z_3 Z_4 Z_5 XB_0 XB_1 XB_2 XB_3 Y_0 Y_1 Y_2 Y_3 Y_4 Y_5 HB_0 HB_1 HB_2 HB_3 HB_4 HB_5 B_l Z_l XB_l Y_l HB_l
  have hz := hg.size
  have HZ28 := Lib.hid hz; clear hz
  replace G := Lib.hid (gtr G.out hg)
  replace B := Lib.hid (B.out.keptN hg)
  replace A := Lib.hid (A.out.keptN hg)
  replace D := Lib.hid (D.out.keptN hg)
  replace W := Lib.hid (W.out.keptN hg)
  replace Z := Lib.hid (Z.out.keptN hg)
  replace XB := Lib.hid (XB.out.keptN hg)
  replace Y := Lib.hid (Y.out.keptN hg)
  replace M := Lib.hid (M.out.keptN hg)
  replace K := Lib.hid (K.out.keptN hg)
  replace HB := Lib.hid (HB.out.keptN hg)
  clear hg
  have B_0 : World.cell? _ ⟨w.heap.size, 0, none⟩ = some (.int .i64 need) := B.out.cell 0
  have B_1 : World.cell? _ ⟨w.heap.size, 1, none⟩ = some (.int .i64 many) := B.out.cell 1
  have B_2 : World.cell? _ ⟨w.heap.size, 2, none⟩ = some (.slice ag ng cg) := B.out.cell 2
  have B_3 : World.cell? _ ⟨w.heap.size, 3, none⟩ = some (.slice ac nc cc) := B.out.cell 3
  have B_l := B.out.lt
  have Z_0 : World.cell? _ ⟨v5.heap.size, 0, none⟩ = some (.int .i64 qn) := Z.out.cell 0
  have Z_1 : World.cell? _ ⟨v5.heap.size, 1, none⟩ = some (.int .i64 qm) := Z.out.cell 1
  have Z_2 : World.cell? _ ⟨v5.heap.size, 2, none⟩ = some (.slice wa1 qg wc1) := Z.out.cell 2
  have Z_3 : World.cell? _ ⟨v5.heap.size, 3, none⟩ = some (.slice wa2 qc wc2) := Z.out.cell 3
  have Z_4 : World.cell? _ ⟨v5.heap.size, 4, none⟩ = some (.int .i64 qs) := Z.out.cell 4
  have Z_5 : World.cell? _ ⟨v5.heap.size, 5, none⟩ = some (.slice wa3 qk wc3) := Z.out.cell 5
  have Z_l := Z.out.lt
  have XB_0 : World.cell? _ ⟨v6.heap.size, 0, none⟩ = some (.int .i64 need) := XB.out.cell 0
  have XB_1 : World.cell? _ ⟨v6.heap.size, 1, none⟩ = some (.int .i64 many) := XB.out.cell 1
  have XB_2 : World.cell? _ ⟨v6.heap.size, 2, none⟩ = some (.slice (some ⟨xb1, 0, none⟩) ng ng) := XB.out.cell 2
  have XB_3 : World.cell? _ ⟨v6.heap.size, 3, none⟩ = some (.slice (some ⟨xb2, 0, none⟩) nc nc) := XB.out.cell 3
  have XB_l := XB.out.lt
  have Y_0 : World.cell? _ ⟨v9.heap.size, 0, none⟩ = some (.int .i64 qn) := Y.out.cell 0
  have Y_1 : World.cell? _ ⟨v9.heap.size, 1, none⟩ = some (.int .i64 qm) := Y.out.cell 1
  have Y_2 : World.cell? _ ⟨v9.heap.size, 2, none⟩ = some (.slice ga1 qg gc1) := Y.out.cell 2
  have Y_3 : World.cell? _ ⟨v9.heap.size, 3, none⟩ = some (.slice ga2 qc gc2) := Y.out.cell 3
  have Y_4 : World.cell? _ ⟨v9.heap.size, 4, none⟩ = some (.int .i64 qs) := Y.out.cell 4
  have Y_5 : World.cell? _ ⟨v9.heap.size, 5, none⟩ = some (.slice ga3 qk gc3) := Y.out.cell 5
  have Y_l := Y.out.lt
  have HB_0 : World.cell? _ ⟨v27.heap.size, 0, none⟩ = some (.int .i64 qn) := HB.out.cell 0
  have HB_1 : World.cell? _ ⟨v27.heap.size, 1, none⟩ = some (.int .i64 qm) := HB.out.cell 1
  have HB_2 : World.cell? _ ⟨v27.heap.size, 2, none⟩ = some (.slice ha1 qg hc1) := HB.out.cell 2
  have HB_3 : World.cell? _ ⟨v27.heap.size, 3, none⟩ = some (.slice ha2 qc hc2) := HB.out.cell 3
  have HB_4 : World.cell? _ ⟨v27.heap.size, 4, none⟩ = some (.int .i64 qs) := HB.out.cell 4
  have HB_5 : World.cell? _ ⟨v27.heap.size, 5, none⟩ = some (.slice ha3 qk hc3) := HB.out.cell 5
  have HB_l := HB.out.lt
  go_wp2
  go_ret
  exact ⟨rfl, Draw.below_of G.out⟩
end Run
end Go.Proofs.Ythbigmcklacbnaa
