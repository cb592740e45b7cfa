/-
  The walks of the exact laws on books.
-/
import Derived.Test.YteibklnonlapoaaBx
import Derived.Test.YteibklnonlapoaaWk
import Derived.Deep.RegionHeld3
namespace Go.Proofs.Yteibklnonlapoaa
namespace Run
open Go.RowKit Alg Mem Con Mp Hd Bk
set_option linter.unusedVariables false

set_option maxRecDepth 100000 in
set_option maxHeartbeats 8000000 in
theorem FnExactBookOk (bn bs : Int) (w : World)   :
    Calls Try.prog 12 #[.agg #[.int .i64 bn, .int .i64 bs]] w (Yes w) := by
  have G := Lib.hid (Draw.grown_alloc w (.cells #[.int .i64 bn, .int .i64 bs] 38) none)
  have B0 := Lib.hid (Blk.new w #[.int .i64 bn, .int .i64 bs] 38)
  go_enter Try.func12, Try.ntmps12
  have B0_0 : World.cell? _ ⟨w.heap.size, 0, none⟩ = some (.int .i64 bn) := B0.out.cell 0
  have B0_1 : World.cell? _ ⟨w.heap.size, 1, none⟩ = some (.int .i64 bs) := B0.out.cell 1
  have B0_l := B0.out.lt
  go_wp2_with fail
  refine (tobook _ bn bs).mono ?_
  rintro e v1 ⟨rfl, hg⟩
  clear B0_0 B0_1 B0_l
  replace G := Lib.hid (gtr G.out hg)
  replace B0 := Lib.hid (B0.out.keptN hg)
  clear hg
  have B0_0 : World.cell? _ ⟨w.heap.size, 0, none⟩ = some (.int .i64 bn) := B0.out.cell 0
  have B0_1 : World.cell? _ ⟨w.heap.size, 1, none⟩ = some (.int .i64 bs) := B0.out.cell 1
  have B0_l := B0.out.lt
  go_wp2_with fail
  refine (smok _ bn bs).mono ?_
  rintro e v2 ⟨rfl, hg⟩
  clear B0_0 B0_1 B0_l
  replace G := Lib.hid (gtr G.out hg)
  replace B0 := Lib.hid (B0.out.keptN hg)
  clear hg
  have B0_0 : World.cell? _ ⟨w.heap.size, 0, none⟩ = some (.int .i64 bn) := B0.out.cell 0
  have B0_1 : World.cell? _ ⟨w.heap.size, 1, none⟩ = some (.int .i64 bs) := B0.out.cell 1
  have B0_l := B0.out.lt
  go_wp2_with fail
  refine (tobook _ bn bs).mono ?_
  rintro e v3 ⟨rfl, hg⟩
  clear B0_0 B0_1 B0_l
  replace G := Lib.hid (gtr G.out hg)
  replace B0 := Lib.hid (B0.out.keptN hg)
  clear hg
  have B0_0 : World.cell? _ ⟨w.heap.size, 0, none⟩ = some (.int .i64 bn) := B0.out.cell 0
  have B0_1 : World.cell? _ ⟨w.heap.size, 1, none⟩ = some (.int .i64 bs) := B0.out.cell 1
  have B0_l := B0.out.lt
  go_wp2_with fail
  refine (ibok _ bn bs).mono ?_
  rintro e v4 ⟨rfl, hg⟩
  clear B0_0 B0_1 B0_l
  replace G := Lib.hid (gtr G.out hg)
  replace B0 := Lib.hid (B0.out.keptN hg)
  clear hg
  have hne0 : (bkB bn bs != bkB bn bs) = false := by simp
  have B0_0 : World.cell? _ ⟨w.heap.size, 0, none⟩ = some (.int .i64 bn) := B0.out.cell 0
  have B0_1 : World.cell? _ ⟨w.heap.size, 1, none⟩ = some (.int .i64 bs) := B0.out.cell 1
  have B0_l := B0.out.lt
  go_wp2
  go_ret
  exact ⟨rfl, Draw.below_of G.out⟩
set_option maxRecDepth 100000 in
set_option maxHeartbeats 8000000 in
theorem FnExactBookKeep (bn bs : Int) (w : World)   :
    Calls Try.prog 13 #[.agg #[.int .i64 bn, .int .i64 bs]] w (Yes w) := by
  have G := Lib.hid (Draw.grown_alloc w (.cells #[.int .i64 bn, .int .i64 bs] 38) none)
  have B0 := Lib.hid (Blk.new w #[.int .i64 bn, .int .i64 bs] 38)
  go_enter Try.func13, Try.ntmps13
  have B0_0 : World.cell? _ ⟨w.heap.size, 0, none⟩ = some (.int .i64 bn) := B0.out.cell 0
  have B0_1 : World.cell? _ ⟨w.heap.size, 1, none⟩ = some (.int .i64 bs) := B0.out.cell 1
  have B0_l := B0.out.lt
  go_wp2_with fail
  refine (tobook _ bn bs).mono ?_
  rintro e v1 ⟨rfl, hg⟩
  clear B0_0 B0_1 B0_l
  replace G := Lib.hid (gtr G.out hg)
  replace B0 := Lib.hid (B0.out.keptN hg)
  clear hg
  have B0_0 : World.cell? _ ⟨w.heap.size, 0, none⟩ = some (.int .i64 bn) := B0.out.cell 0
  have B0_1 : World.cell? _ ⟨w.heap.size, 1, none⟩ = some (.int .i64 bs) := B0.out.cell 1
  have B0_l := B0.out.lt
  go_wp2_with fail
  refine (sbkeepV _ bn bs).mono ?_
  rintro e v2 ⟨rfl, hg⟩
  clear B0_0 B0_1 B0_l
  replace G := Lib.hid (gtr G.out hg)
  replace B0 := Lib.hid (B0.out.keptN hg)
  clear hg
  have hg := Draw.grown_alloc v2 (.cells #[.int .i64 (vkN bn bs), .int .i64 (vkS bn bs)] 24) none
  have Z := Lib.hid (Blk.new v2 #[.int .i64 (vkN bn bs), .int .i64 (vkS bn bs)] 24)
  replace G := Lib.hid (gtr G.out hg)
  replace B0 := Lib.hid (B0.out.keptN hg)
  clear hg
  have B0_0 : World.cell? _ ⟨w.heap.size, 0, none⟩ = some (.int .i64 bn) := B0.out.cell 0
  have B0_1 : World.cell? _ ⟨w.heap.size, 1, none⟩ = some (.int .i64 bs) := B0.out.cell 1
  have B0_l := B0.out.lt
  have Z_0 : World.cell? _ ⟨v2.heap.size, 0, none⟩ = some (.int .i64 (vkN bn bs)) := Z.out.cell 0
  have Z_1 : World.cell? _ ⟨v2.heap.size, 1, none⟩ = some (.int .i64 (vkS bn bs)) := Z.out.cell 1
  have Z_l := Z.out.lt
  go_wp2_with fail
  refine (tobook _ bn bs).mono ?_
  rintro e v3 ⟨rfl, hg⟩
  clear B0_0 B0_1 Z_0 Z_1 B0_l Z_l
  replace G := Lib.hid (gtr G.out hg)
  replace B0 := Lib.hid (B0.out.keptN hg)
  replace Z := Lib.hid (Z.out.keptN hg)
  clear hg
  have B0_0 : World.cell? _ ⟨w.heap.size, 0, none⟩ = some (.int .i64 bn) := B0.out.cell 0
  have B0_1 : World.cell? _ ⟨w.heap.size, 1, none⟩ = some (.int .i64 bs) := B0.out.cell 1
  have B0_l := B0.out.lt
  have Z_0 : World.cell? _ ⟨v2.heap.size, 0, none⟩ = some (.int .i64 (vkN bn bs)) := Z.out.cell 0
  have Z_1 : World.cell? _ ⟨v2.heap.size, 1, none⟩ = some (.int .i64 (vkS bn bs)) := Z.out.cell 1
  have Z_l := Z.out.lt
  go_wp2_with fail
  refine (ibkeepV _ bn bs).mono ?_
  rintro e v4 ⟨rfl, hg⟩
  clear B0_0 B0_1 Z_0 Z_1 B0_l Z_l
  replace G := Lib.hid (gtr G.out hg)
  replace B0 := Lib.hid (B0.out.keptN hg)
  replace Z := Lib.hid (Z.out.keptN hg)
  clear hg
  have hg := Draw.grown_alloc v4 (.cells #[.int .i64 (vkN bn bs), .int .i64 (vkS bn bs)] 24) none
  have Q := Lib.hid (Blk.new v4 #[.int .i64 (vkN bn bs), .int .i64 (vkS bn bs)] 24)
  replace G := Lib.hid (gtr G.out hg)
  replace B0 := Lib.hid (B0.out.keptN hg)
  replace Z := Lib.hid (Z.out.keptN hg)
  clear hg
  have hne0 : (vkB bn bs != vkB bn bs) = false := by simp
  have B0_0 : World.cell? _ ⟨w.heap.size, 0, none⟩ = some (.int .i64 bn) := B0.out.cell 0
  have B0_1 : World.cell? _ ⟨w.heap.size, 1, none⟩ = some (.int .i64 bs) := B0.out.cell 1
  have B0_l := B0.out.lt
  have Z_0 : World.cell? _ ⟨v2.heap.size, 0, none⟩ = some (.int .i64 (vkN bn bs)) := Z.out.cell 0
  have Z_1 : World.cell? _ ⟨v2.heap.size, 1, none⟩ = some (.int .i64 (vkS bn bs)) := Z.out.cell 1
  have Z_l := Z.out.lt
  have Q_0 : World.cell? _ ⟨v4.heap.size, 0, none⟩ = some (.int .i64 (vkN bn bs)) := Q.out.cell 0
  have Q_1 : World.cell? _ ⟨v4.heap.size, 1, none⟩ = some (.int .i64 (vkS bn bs)) := Q.out.cell 1
  have Q_l := Q.out.lt
  go_wp2_with fail
  refine (eqbook _ (vkN bn bs) (vkS bn bs)).mono ?_
  rintro e v5 ⟨rfl, hg⟩
  clear B0_0 B0_1 Z_0 Z_1 Q_0 Q_1 B0_l Z_l Q_l
  replace G := Lib.hid (gtr G.out hg)
  replace B0 := Lib.hid (B0.out.keptN hg)
  replace Z := Lib.hid (Z.out.keptN hg)
  replace Q := Lib.hid (Q.out.keptN hg)
  clear hg
  have B0_0 : World.cell? _ ⟨w.heap.size, 0, none⟩ = some (.int .i64 bn) := B0.out.cell 0
  have B0_1 : World.cell? _ ⟨w.heap.size, 1, none⟩ = some (.int .i64 bs) := B0.out.cell 1
  have B0_l := B0.out.lt
  have Z_0 : World.cell? _ ⟨v2.heap.size, 0, none⟩ = some (.int .i64 (vkN bn bs)) := Z.out.cell 0
  have Z_1 : World.cell? _ ⟨v2.heap.size, 1, none⟩ = some (.int .i64 (vkS bn bs)) := Z.out.cell 1
  have Z_l := Z.out.lt
  have Q_0 : World.cell? _ ⟨v4.heap.size, 0, none⟩ = some (.int .i64 (vkN bn bs)) := Q.out.cell 0
  have Q_1 : World.cell? _ ⟨v4.heap.size, 1, none⟩ = some (.int .i64 (vkS bn bs)) := Q.out.cell 1
  have Q_l := Q.out.lt
  go_wp2
  go_ret
  exact ⟨rfl, Draw.below_of G.out⟩
set_option maxRecDepth 100000 in
set_option maxHeartbeats 8000000 in
theorem FnExactBookTake (bn bs : Int) (w : World)   :
    Calls Try.prog 14 #[.agg #[.int .i64 bn, .int .i64 bs]] w (Yes w) := by
  have G := Lib.hid (Draw.grown_alloc w (.cells #[.int .i64 bn, .int .i64 bs] 38) none)
  have B0 := Lib.hid (Blk.new w #[.int .i64 bn, .int .i64 bs] 38)
  go_enter Try.func14, Try.ntmps14
  have B0_0 : World.cell? _ ⟨w.heap.size, 0, none⟩ = some (.int .i64 bn) := B0.out.cell 0
  have B0_1 : World.cell? _ ⟨w.heap.size, 1, none⟩ = some (.int .i64 bs) := B0.out.cell 1
  have B0_l := B0.out.lt
  go_wp2_with fail
  refine (tobook _ bn bs).mono ?_
  rintro e v1 ⟨rfl, hg⟩
  clear B0_0 B0_1 B0_l
  replace G := Lib.hid (gtr G.out hg)
  replace B0 := Lib.hid (B0.out.keptN hg)
  clear hg
  have B0_0 : World.cell? _ ⟨w.heap.size, 0, none⟩ = some (.int .i64 bn) := B0.out.cell 0
  have B0_1 : World.cell? _ ⟨w.heap.size, 1, none⟩ = some (.int .i64 bs) := B0.out.cell 1
  have B0_l := B0.out.lt
  go_wp2_with fail
  refine (sbtakeV _ bn bs).mono ?_
  rintro e v2 ⟨rfl, hg⟩
  clear B0_0 B0_1 B0_l
  replace G := Lib.hid (gtr G.out hg)
  replace B0 := Lib.hid (B0.out.keptN hg)
  clear hg
  have hg := Draw.grown_alloc v2 (.cells #[.int .i64 (vtN bn bs), .int .i64 (vtS bn bs)] 24) none
  have Z := Lib.hid (Blk.new v2 #[.int .i64 (vtN bn bs), .int .i64 (vtS bn bs)] 24)
  replace G := Lib.hid (gtr G.out hg)
  replace B0 := Lib.hid (B0.out.keptN hg)
  clear hg
  have B0_0 : World.cell? _ ⟨w.heap.size, 0, none⟩ = some (.int .i64 bn) := B0.out.cell 0
  have B0_1 : World.cell? _ ⟨w.heap.size, 1, none⟩ = some (.int .i64 bs) := B0.out.cell 1
  have B0_l := B0.out.lt
  have Z_0 : World.cell? _ ⟨v2.heap.size, 0, none⟩ = some (.int .i64 (vtN bn bs)) := Z.out.cell 0
  have Z_1 : World.cell? _ ⟨v2.heap.size, 1, none⟩ = some (.int .i64 (vtS bn bs)) := Z.out.cell 1
  have Z_l := Z.out.lt
  go_wp2_with fail
  refine (tobook _ bn bs).mono ?_
  rintro e v3 ⟨rfl, hg⟩
  clear B0_0 B0_1 Z_0 Z_1 B0_l Z_l
  replace G := Lib.hid (gtr G.out hg)
  replace B0 := Lib.hid (B0.out.keptN hg)
  replace Z := Lib.hid (Z.out.keptN hg)
  clear hg
  have B0_0 : World.cell? _ ⟨w.heap.size, 0, none⟩ = some (.int .i64 bn) := B0.out.cell 0
  have B0_1 : World.cell? _ ⟨w.heap.size, 1, none⟩ = some (.int .i64 bs) := B0.out.cell 1
  have B0_l := B0.out.lt
  have Z_0 : World.cell? _ ⟨v2.heap.size, 0, none⟩ = some (.int .i64 (vtN bn bs)) := Z.out.cell 0
  have Z_1 : World.cell? _ ⟨v2.heap.size, 1, none⟩ = some (.int .i64 (vtS bn bs)) := Z.out.cell 1
  have Z_l := Z.out.lt
  go_wp2_with fail
  refine (ibtakeV _ bn bs).mono ?_
  rintro e v4 ⟨rfl, hg⟩
  clear B0_0 B0_1 Z_0 Z_1 B0_l Z_l
  replace G := Lib.hid (gtr G.out hg)
  replace B0 := Lib.hid (B0.out.keptN hg)
  replace Z := Lib.hid (Z.out.keptN hg)
  clear hg
  have hg := Draw.grown_alloc v4 (.cells #[.int .i64 (vtN bn bs), .int .i64 (vtS bn bs)] 24) none
  have Q := Lib.hid (Blk.new v4 #[.int .i64 (vtN bn bs), .int .i64 (vtS bn bs)] 24)
  replace G := Lib.hid (gtr G.out hg)
  replace B0 := Lib.hid (B0.out.keptN hg)
  replace Z := Lib.hid (Z.out.keptN hg)
  clear hg
  have hne0 : (vtI bn bs != vtI bn bs) = false := by simp
  have hne1 : (vtB bn bs != vtB bn bs) = false := by simp
  have B0_0 : World.cell? _ ⟨w.heap.size, 0, none⟩ = some (.int .i64 bn) := B0.out.cell 0
  have B0_1 : World.cell? _ ⟨w.heap.size, 1, none⟩ = some (.int .i64 bs) := B0.out.cell 1
  have B0_l := B0.out.lt
  have Z_0 : World.cell? _ ⟨v2.heap.size, 0, none⟩ = some (.int .i64 (vtN bn bs)) := Z.out.cell 0
  have Z_1 : World.cell? _ ⟨v2.heap.size, 1, none⟩ = some (.int .i64 (vtS bn bs)) := Z.out.cell 1
  have Z_l := Z.out.lt
  have Q_0 : World.cell? _ ⟨v4.heap.size, 0, none⟩ = some (.int .i64 (vtN bn bs)) := Q.out.cell 0
  have Q_1 : World.cell? _ ⟨v4.heap.size, 1, none⟩ = some (.int .i64 (vtS bn bs)) := Q.out.cell 1
  have Q_l := Q.out.lt
  go_wp2_with fail
  refine (eqbook _ (vtN bn bs) (vtS bn bs)).mono ?_
  rintro e v5 ⟨rfl, hg⟩
  clear B0_0 B0_1 Z_0 Z_1 Q_0 Q_1 B0_l Z_l Q_l
  replace G := Lib.hid (gtr G.out hg)
  replace B0 := Lib.hid (B0.out.keptN hg)
  replace Z := Lib.hid (Z.out.keptN hg)
  replace Q := Lib.hid (Q.out.keptN hg)
  clear hg
  have B0_0 : World.cell? _ ⟨w.heap.size, 0, none⟩ = some (.int .i64 bn) := B0.out.cell 0
  have B0_1 : World.cell? _ ⟨w.heap.size, 1, none⟩ = some (.int .i64 bs) := B0.out.cell 1
  have B0_l := B0.out.lt
  have Z_0 : World.cell? _ ⟨v2.heap.size, 0, none⟩ = some (.int .i64 (vtN bn bs)) := Z.out.cell 0
  have Z_1 : World.cell? _ ⟨v2.heap.size, 1, none⟩ = some (.int .i64 (vtS bn bs)) := Z.out.cell 1
  have Z_l := Z.out.lt
  have Q_0 : World.cell? _ ⟨v4.heap.size, 0, none⟩ = some (.int .i64 (vtN bn bs)) := Q.out.cell 0
  have Q_1 : World.cell? _ ⟨v4.heap.size, 1, none⟩ = some (.int .i64 (vtS bn bs)) := Q.out.cell 1
  have Q_l := Q.out.lt
  go_wp2
  go_ret
  exact ⟨rfl, Draw.below_of G.out⟩
set_option maxRecDepth 100000 in
set_option maxHeartbeats 8000000 in
theorem FnExactBookFall (bn bs : Int) (w : World)   :
    Calls Try.prog 15 #[.agg #[.int .i64 bn, .int .i64 bs]] w (Yes w) := by
  have G := Lib.hid (Draw.grown_alloc w (.cells #[.int .i64 bn, .int .i64 bs] 38) none)
  have B0 := Lib.hid (Blk.new w #[.int .i64 bn, .int .i64 bs] 38)
  go_enter Try.func15, Try.ntmps15
  have B0_0 : World.cell? _ ⟨w.heap.size, 0, none⟩ = some (.int .i64 bn) := B0.out.cell 0
  have B0_1 : World.cell? _ ⟨w.heap.size, 1, none⟩ = some (.int .i64 bs) := B0.out.cell 1
  have B0_l := B0.out.lt
  go_wp2_with fail
  refine (tobook _ bn bs).mono ?_
  rintro e v1 ⟨rfl, hg⟩
  clear B0_0 B0_1 B0_l
  replace G := Lib.hid (gtr G.out hg)
  replace B0 := Lib.hid (B0.out.keptN hg)
  clear hg
  have B0_0 : World.cell? _ ⟨w.heap.size, 0, none⟩ = some (.int .i64 bn) := B0.out.cell 0
  have B0_1 : World.cell? _ ⟨w.heap.size, 1, none⟩ = some (.int .i64 bs) := B0.out.cell 1
  have B0_l := B0.out.lt
  go_wp2_with fail
  refine (sbfallV _ bn bs).mono ?_
  rintro e v2 ⟨rfl, hg⟩
  clear B0_0 B0_1 B0_l
  replace G := Lib.hid (gtr G.out hg)
  replace B0 := Lib.hid (B0.out.keptN hg)
  clear hg
  have hg := Draw.grown_alloc v2 (.cells #[.int .i64 (vfS bn bs), .int .i64 (vfS bn bs)] 24) none
  have Z := Lib.hid (Blk.new v2 #[.int .i64 (vfS bn bs), .int .i64 (vfS bn bs)] 24)
  replace G := Lib.hid (gtr G.out hg)
  replace B0 := Lib.hid (B0.out.keptN hg)
  clear hg
  have B0_0 : World.cell? _ ⟨w.heap.size, 0, none⟩ = some (.int .i64 bn) := B0.out.cell 0
  have B0_1 : World.cell? _ ⟨w.heap.size, 1, none⟩ = some (.int .i64 bs) := B0.out.cell 1
  have B0_l := B0.out.lt
  have Z_0 : World.cell? _ ⟨v2.heap.size, 0, none⟩ = some (.int .i64 (vfS bn bs)) := Z.out.cell 0
  have Z_1 : World.cell? _ ⟨v2.heap.size, 1, none⟩ = some (.int .i64 (vfS bn bs)) := Z.out.cell 1
  have Z_l := Z.out.lt
  go_wp2_with fail
  refine (tobook _ bn bs).mono ?_
  rintro e v3 ⟨rfl, hg⟩
  clear B0_0 B0_1 Z_0 Z_1 B0_l Z_l
  replace G := Lib.hid (gtr G.out hg)
  replace B0 := Lib.hid (B0.out.keptN hg)
  replace Z := Lib.hid (Z.out.keptN hg)
  clear hg
  have B0_0 : World.cell? _ ⟨w.heap.size, 0, none⟩ = some (.int .i64 bn) := B0.out.cell 0
  have B0_1 : World.cell? _ ⟨w.heap.size, 1, none⟩ = some (.int .i64 bs) := B0.out.cell 1
  have B0_l := B0.out.lt
  have Z_0 : World.cell? _ ⟨v2.heap.size, 0, none⟩ = some (.int .i64 (vfS bn bs)) := Z.out.cell 0
  have Z_1 : World.cell? _ ⟨v2.heap.size, 1, none⟩ = some (.int .i64 (vfS bn bs)) := Z.out.cell 1
  have Z_l := Z.out.lt
  go_wp2_with fail
  refine (ibfallV _ bn bs).mono ?_
  rintro e v4 ⟨rfl, hg⟩
  clear B0_0 B0_1 Z_0 Z_1 B0_l Z_l
  replace G := Lib.hid (gtr G.out hg)
  replace B0 := Lib.hid (B0.out.keptN hg)
  replace Z := Lib.hid (Z.out.keptN hg)
  clear hg
  have hg := Draw.grown_alloc v4 (.cells #[.int .i64 (vfS bn bs), .int .i64 (vfS bn bs)] 24) none
  have Q := Lib.hid (Blk.new v4 #[.int .i64 (vfS bn bs), .int .i64 (vfS bn bs)] 24)
  replace G := Lib.hid (gtr G.out hg)
  replace B0 := Lib.hid (B0.out.keptN hg)
  replace Z := Lib.hid (Z.out.keptN hg)
  clear hg
  have B0_0 : World.cell? _ ⟨w.heap.size, 0, none⟩ = some (.int .i64 bn) := B0.out.cell 0
  have B0_1 : World.cell? _ ⟨w.heap.size, 1, none⟩ = some (.int .i64 bs) := B0.out.cell 1
  have B0_l := B0.out.lt
  have Z_0 : World.cell? _ ⟨v2.heap.size, 0, none⟩ = some (.int .i64 (vfS bn bs)) := Z.out.cell 0
  have Z_1 : World.cell? _ ⟨v2.heap.size, 1, none⟩ = some (.int .i64 (vfS bn bs)) := Z.out.cell 1
  have Z_l := Z.out.lt
  have Q_0 : World.cell? _ ⟨v4.heap.size, 0, none⟩ = some (.int .i64 (vfS bn bs)) := Q.out.cell 0
  have Q_1 : World.cell? _ ⟨v4.heap.size, 1, none⟩ = some (.int .i64 (vfS bn bs)) := Q.out.cell 1
  have Q_l := Q.out.lt
  go_wp2_with fail
  refine (eqbook _ (vfS bn bs) (vfS bn bs)).mono ?_
  rintro e v5 ⟨rfl, hg⟩
  clear B0_0 B0_1 Z_0 Z_1 Q_0 Q_1 B0_l Z_l Q_l
  replace G := Lib.hid (gtr G.out hg)
  replace B0 := Lib.hid (B0.out.keptN hg)
  replace Z := Lib.hid (Z.out.keptN hg)
  replace Q := Lib.hid (Q.out.keptN hg)
  clear hg
  have B0_0 : World.cell? _ ⟨w.heap.size, 0, none⟩ = some (.int .i64 bn) := B0.out.cell 0
  have B0_1 : World.cell? _ ⟨w.heap.size, 1, none⟩ = some (.int .i64 bs) := B0.out.cell 1
  have B0_l := B0.out.lt
  have Z_0 : World.cell? _ ⟨v2.heap.size, 0, none⟩ = some (.int .i64 (vfS bn bs)) := Z.out.cell 0
  have Z_1 : World.cell? _ ⟨v2.heap.size, 1, none⟩ = some (.int .i64 (vfS bn bs)) := Z.out.cell 1
  have Z_l := Z.out.lt
  have Q_0 : World.cell? _ ⟨v4.heap.size, 0, none⟩ = some (.int .i64 (vfS bn bs)) := Q.out.cell 0
  have Q_1 : World.cell? _ ⟨v4.heap.size, 1, none⟩ = some (.int .i64 (vfS bn bs)) := Q.out.cell 1
  have Q_l := Q.out.lt
  go_wp2
  go_ret
  exact ⟨rfl, Draw.below_of G.out⟩
end Run
end Go.Proofs.Yteibklnonlapoaa
