/-
  Signatures in the exact laws: copied, compared, and as they come in.
-/
import Derived.Test.YtpeofoabhjebbaaGj
import Derived.Test.YtpeofoabhjebbaaXo
import Derived.Test.YtpeofoabhjebbaaSm
namespace Go.Proofs.Ytpeofoabhjebbaa
namespace Con
open Go.RowKit Alg Mem Draw
set_option linter.unusedVariables false
theorem ret_sig {fn : Func} {p : Tmp} (h : fn.results = #[.cell p 29]) (tmps : Array Value) {w : World} {b : Nat} {v0 v1 : Value} {T : TypeId} (hp : tmps.getD p undef = .pointer (some ⟨b, 0, none⟩)) (hb : Blk w b #[v0, v1] T) :
    (results fn tmps).run Try.prog w = .ok (.agg #[v0, v1]) w :=
  results_cell_row h tmps w b T #[v0, v1] (0, 0) _ hp hb Try.underlying29 rfl size_sig
set_option maxHeartbeats 2000000 in
theorem tosig (w : World) (m s : Int) :
    Calls Try.prog 45 #[.agg #[.int .i64 m, .int .i64 s]] w fun e w' => e = .returned (.agg #[.int .i64 m, .int .i64 s]) ∧ w.grownBy w' none := by
  have HR := Lib.hid ((blk_new2 w (.cells #[.int .i64 m, .int .i64 s] 55) #[.int .i64 m, .int .i64 s] 29).keptN (Draw.grown_alloc _ (.cells #[.int .i64 m, .int .i64 s] 29) none))
  have HG := Lib.hid (gtr (gtr (Draw.grown_alloc w (.cells #[.int .i64 m, .int .i64 s] 55) none) (Draw.grown_alloc _ (.cells #[.int .i64 m, .int .i64 s] 29) none)) (Draw.grown_alloc _ (.cells #[.int .i64 m, .int .i64 s] 29) none))
  go_enter Try.func45, Try.ntmps45
  go_wp2
  (try simp only [Exit.inBlock, Exit.then])
  refine bodyPost_ret (ret_sig rfl _ rfl HR.out) rfl ?_
  exact ⟨rfl, HG.out⟩
theorem eqsig (w : World) (m s : Int) :
    Calls Try.prog 46 #[.agg #[.int .i64 m, .int .i64 s], .agg #[.int .i64 m, .int .i64 s]] w fun e w' => e = .returned (.bool true) ∧ w.grownBy w' none := by
  have h0 : (m != m) = false := by simp
  have h2 : (s != s) = false := by simp
  go_enter Try.func46, Try.ntmps46
  go_wp2
  go_ret
  exact ⟨rfl, gtr (Draw.grown_alloc _ _ _) (Draw.grown_alloc _ _ _)⟩
theorem shashG (w : World) (r pub msg : Int) :
    Calls Try.prog 19 #[.int .i64 r, .int .i64 pub, .int .i64 msg] w fun e w' => e = .returned (.int .i64 (hF r pub msg)) ∧ w.grownBy w' none :=
  (shash w r pub msg).mono fun _ _ h => ⟨h.1, h.2 ▸ Draw.grown_refl w none⟩
end Con
namespace Op
open Go.ChangeShapes Go.WideShapes Go.ChangeAt Go.RowKit Go.Joins Mem
theorem c_sig : Try.prog.cellsOf 55 = 2 := by kernel_rfl
set_option maxRecDepth 100000 in
theorem op_sig {H : Type} {enc : TypeId × Value → H} {W : World} {base : Nat} {v : Value} {d : DataW H} {p : List MemPlace} (hv : Value.okWide Try.prog W .any base 55 v) (h : DataW.Trod enc Try.prog W 0 (fun _ => true) true 55 v d p) :
    ∃ (m s : Int), v = .agg #[.int .i64 m, .int .i64 s] := by
  obtain ⟨c0, c1, y0, y1, k, rfl, _, _, h0, h1⟩ := open_agg2 Try.underlying55 (by kernel_rfl) c_sig hv h
  obtain ⟨m, rfl⟩ := op_int h0
  obtain ⟨s, rfl⟩ := op_int h1
  exact ⟨m, s, rfl⟩
end Op
end Go.Proofs.Ytpeofoabhjebbaa
