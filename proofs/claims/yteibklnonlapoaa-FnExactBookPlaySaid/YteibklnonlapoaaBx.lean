/-
  Books in the exact laws: copied, compared, and as they come in; the functions by their values.
-/
import Derived.Test.YteibklnonlapoaaBe
import Derived.Test.YteibklnonlapoaaXo
namespace Go.Proofs.Yteibklnonlapoaa
namespace Con
open Go.RowKit Alg Mem Draw Bk
set_option linter.unusedVariables false
set_option maxHeartbeats 2000000 in
theorem tobook (w : World) (m s : Int) :
    Calls Try.prog 36 #[.agg #[.int .i64 m, .int .i64 s]] w fun e w' => e = .returned (.agg #[.int .i64 m, .int .i64 s]) ∧ w.grownBy w' none := by
  have HR := Lib.hid ((blk_new2 w (.cells #[.int .i64 m, .int .i64 s] 38) #[.int .i64 m, .int .i64 s] 24).keptN (Draw.grown_alloc _ (.cells #[.int .i64 m, .int .i64 s] 24) none))
  have HG := Lib.hid (gtr (gtr (Draw.grown_alloc w (.cells #[.int .i64 m, .int .i64 s] 38) none) (Draw.grown_alloc _ (.cells #[.int .i64 m, .int .i64 s] 24) none)) (Draw.grown_alloc _ (.cells #[.int .i64 m, .int .i64 s] 24) none))
  go_enter Try.func36, Try.ntmps36
  go_wp2
  (try simp only [Exit.inBlock, Exit.then])
  refine bodyPost_ret (ret_bk rfl _ rfl HR.out) rfl ?_
  exact ⟨rfl, HG.out⟩
theorem eqbook (w : World) (m s : Int) :
    Calls Try.prog 37 #[.agg #[.int .i64 m, .int .i64 s], .agg #[.int .i64 m, .int .i64 s]] w fun e w' => e = .returned (.bool true) ∧ w.grownBy w' none := by
  have h0 : (m != m) = false := by simp
  have h2 : (s != s) = false := by simp
  go_enter Try.func37, Try.ntmps37
  go_wp2
  go_ret
  exact ⟨rfl, gtr (Draw.grown_alloc _ _ _) (Draw.grown_alloc _ _ _)⟩
def vkN (n s : Int) : Int := if Ok n s then n else 0
def vkS (n s : Int) : Int := if Ok n s then kS n s else 0
def vkB (n s : Int) : Bool := decide (Ok n s ∧ ¬ Full n s)
def vtN (n s : Int) : Int := if Ok n s then (if n = s then n else n + 1) else 0
def vtS (n s : Int) : Int := if Ok n s then s else 0
def vtI (n s : Int) : Int := if Ok n s then (if n = s then 0 else n) else 0
def vtB (n s : Int) : Bool := decide (Ok n s ∧ ¬ n = s)
def vfS (n s : Int) : Int := if Ok n s then s else 0
theorem ibkeepV (w : World) (n s : Int) : Calls Try.prog 27 #[.agg #[.int .i64 n, .int .i64 s]] w fun e w' => e = .returned (.tuple #[.agg #[.int .i64 (vkN n s), .int .i64 (vkS n s)], .bool (vkB n s)]) ∧ w.grownBy w' none := by
  by_cases ho : Ok n s
  · by_cases hf : Full n s
    · have h := ibkeep_full w n s ho hf
      rw [show vkN n s = n from if_pos ho, show vkS n s = s from (if_pos ho).trans (kS_full hf), show vkB n s = false from decide_eq_false fun h => h.2 hf]
      exact h
    · have h := ibkeep_yes w n s ho hf
      rw [show vkN n s = n from if_pos ho, show vkS n s = kS n s from if_pos ho, show vkB n s = true from decide_eq_true ⟨ho, hf⟩]
      exact h
  · have h := ibkeep_bad w n s ho
    rw [show vkN n s = 0 from if_neg ho, show vkS n s = 0 from if_neg ho, show vkB n s = false from decide_eq_false fun h => ho h.1]
    exact h
theorem sbkeepV (w : World) (n s : Int) : Calls Try.prog 26 #[.agg #[.int .i64 n, .int .i64 s]] w fun e w' => e = .returned (.tuple #[.agg #[.int .i64 (vkN n s), .int .i64 (vkS n s)], .bool (vkB n s)]) ∧ w.grownBy w' none := by
  by_cases ho : Ok n s
  · by_cases hf : Full n s
    · have h := sbkeep_full w n s ho hf
      rw [show vkN n s = n from if_pos ho, show vkS n s = s from (if_pos ho).trans (kS_full hf), show vkB n s = false from decide_eq_false fun h => h.2 hf]
      exact h
    · have h := sbkeep_yes w n s ho hf
      rw [show vkN n s = n from if_pos ho, show vkS n s = kS n s from if_pos ho, show vkB n s = true from decide_eq_true ⟨ho, hf⟩]
      exact h
  · have h := sbkeep_bad w n s ho
    rw [show vkN n s = 0 from if_neg ho, show vkS n s = 0 from if_neg ho, show vkB n s = false from decide_eq_false fun h => ho h.1]
    exact h
theorem ibtakeV (w : World) (n s : Int) : Calls Try.prog 22 #[.agg #[.int .i64 n, .int .i64 s]] w fun e w' => e = .returned (.tuple #[.int .i64 (vtI n s), .agg #[.int .i64 (vtN n s), .int .i64 (vtS n s)], .bool (vtB n s)]) ∧ w.grownBy w' none := by
  by_cases ho : Ok n s
  · by_cases hf : n = s
    · have h := ibtake_no w n s ho hf
      rw [show vtI n s = 0 from (if_pos ho).trans (if_pos hf), show vtN n s = n from (if_pos ho).trans (if_pos hf), show vtS n s = s from if_pos ho, show vtB n s = false from decide_eq_false fun h => h.2 hf]
      exact h
    · have h := ibtake_yes w n s ho hf
      rw [show vtI n s = n from (if_pos ho).trans (if_neg hf), show vtN n s = n + 1 from (if_pos ho).trans (if_neg hf), show vtS n s = s from if_pos ho, show vtB n s = true from decide_eq_true ⟨ho, hf⟩]
      exact h
  · have h := ibtake_bad w n s ho
    rw [show vtI n s = 0 from if_neg ho, show vtN n s = 0 from if_neg ho, show vtS n s = 0 from if_neg ho, show vtB n s = false from decide_eq_false fun h => ho h.1]
    exact h
theorem sbtakeV (w : World) (n s : Int) : Calls Try.prog 21 #[.agg #[.int .i64 n, .int .i64 s]] w fun e w' => e = .returned (.tuple #[.int .i64 (vtI n s), .agg #[.int .i64 (vtN n s), .int .i64 (vtS n s)], .bool (vtB n s)]) ∧ w.grownBy w' none := by
  by_cases ho : Ok n s
  · by_cases hf : n = s
    · have h := sbtake_no w n s ho hf
      rw [show vtI n s = 0 from (if_pos ho).trans (if_pos hf), show vtN n s = n from (if_pos ho).trans (if_pos hf), show vtS n s = s from if_pos ho, show vtB n s = false from decide_eq_false fun h => h.2 hf]
      exact h
    · have h := sbtake_yes w n s ho hf
      rw [show vtI n s = n from (if_pos ho).trans (if_neg hf), show vtN n s = n + 1 from (if_pos ho).trans (if_neg hf), show vtS n s = s from if_pos ho, show vtB n s = true from decide_eq_true ⟨ho, hf⟩]
      exact h
  · have h := sbtake_bad w n s ho
    rw [show vtI n s = 0 from if_neg ho, show vtN n s = 0 from if_neg ho, show vtS n s = 0 from if_neg ho, show vtB n s = false from decide_eq_false fun h => ho h.1]
    exact h
theorem ibfallV (w : World) (n s : Int) : Calls Try.prog 29 #[.agg #[.int .i64 n, .int .i64 s]] w fun e w' => e = .returned (.agg #[.int .i64 (vfS n s), .int .i64 (vfS n s)]) ∧ w.grownBy w' none := by
  by_cases ho : Ok n s
  · have h := ibfall_yes w n s ho
    rw [show vfS n s = s from if_pos ho]
    exact h
  · have h := ibfall_no w n s ho
    rw [show vfS n s = 0 from if_neg ho]
    exact h
theorem sbfallV (w : World) (n s : Int) : Calls Try.prog 30 #[.agg #[.int .i64 n, .int .i64 s]] w fun e w' => e = .returned (.agg #[.int .i64 (vfS n s), .int .i64 (vfS n s)]) ∧ w.grownBy w' none := by
  by_cases ho : Ok n s
  · have h := sbfall_yes w n s ho
    rw [show vfS n s = s from if_pos ho]
    exact h
  · have h := sbfall_no w n s ho
    rw [show vfS n s = 0 from if_neg ho]
    exact h
end Con
namespace Op
open Go.ChangeShapes Go.WideShapes Go.ChangeAt Go.RowKit Go.Joins Mem
theorem c_book : Try.prog.cellsOf 38 = 2 := by kernel_rfl
set_option maxRecDepth 100000 in
theorem op_book {H : Type} {enc : TypeId × Value → H} {W : World} {base : Nat} {v : Value} {d : DataW H} {p : List MemPlace} (hv : Value.okWide Try.prog W .any base 38 v) (h : DataW.Trod enc Try.prog W 0 (fun _ => true) true 38 v d p) :
    ∃ (m s : Int), v = .agg #[.int .i64 m, .int .i64 s] := by
  obtain ⟨c0, c1, y0, y1, k, rfl, _, _, h0, h1⟩ := open_agg2 Try.underlying38 (by kernel_rfl) c_book hv h
  obtain ⟨m, rfl⟩ := op_int h0
  obtain ⟨s, rfl⟩ := op_int h1
  exact ⟨m, s, rfl⟩
end Op
end Go.Proofs.Yteibklnonlapoaa
