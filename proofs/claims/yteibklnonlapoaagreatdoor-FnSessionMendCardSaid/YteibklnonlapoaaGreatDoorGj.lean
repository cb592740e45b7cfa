/-
  Signatures: whether one is right, and signing alone: the program's and the model's functions.
-/
import Derived.Test.YteibklnonlapoaaGreatDoorGi
import Derived.Test.YteibklnonlapoaaGreatDoorWk
namespace Go.Proofs.YteibklnonlapoaaGreatDoor
namespace Con
open Go.RowKit Alg Mem Draw
set_option linter.unusedVariables false

/-- A struct of two that lies in memory. -/
structure Du (w : World) (b : Nat) (x y : Value) : Prop where
  lt : b < w.heap.size
  c0 : w.cell? ⟨b, 0, none⟩ = some x
  c1 : w.cell? ⟨b, 1, none⟩ = some y
theorem Du.of_blk {w : World} {b : Nat} {x y : Value} {T : TypeId} (h : Blk w b #[x, y] T) : Du w b x y := ⟨h.lt, h.cell 0, h.cell 1⟩
theorem Du.keptB {w w' : World} {b : Nat} {x y : Value} (h : Du w b x y) (hb : w'.heap[b]? = w.heap[b]?) (hs : w.heap.size ≤ w'.heap.size) : Du w' b x y :=
  ⟨Nat.lt_of_lt_of_le h.lt hs, by rw [World.cell?_of_block (w := w) hb]; exact h.c0, by rw [World.cell?_of_block (w := w) hb]; exact h.c1⟩
theorem Du.kept {w w' : World} {b : Nat} {x y : Value} (h : Du w b x y) (hg : w.grownBy w' none) : Du w' b x y := h.keptB (hg.block b h.lt (by simp)) hg.size

set_option maxHeartbeats 2000000 in
theorem isigok (w : World) (pub msg R Z : Int) :
    Calls Tryz.prog 26 #[.int .i64 pub, .int .i64 msg, .agg #[.int .i64 R, .int .i64 Z]] w fun e w' => e = .returned (.bool (sgF pub msg R Z)) ∧ w.grownBy w' none := by
  have G := Lib.hid (Draw.grown_alloc w (.cells #[.int .i64 R, .int .i64 Z] 37) none)
  have D := Lib.hid (Du.of_blk (Blk.new w #[.int .i64 R, .int .i64 Z] 37))
  go_enter Tryz.func26, Tryz.ntmps26
  obtain ⟨_, d0, d1⟩ := D.out
  rcases gokc pub with h1 | h1
  case inr =>
    have HR := Lib.hid (sgF_out (msg := msg) (R := R) (Z := Z) (Or.inl h1))
    go_wp2_with fail
    refine (igok_no _ _ h1).mono ?_
    rintro e w1 ⟨rfl, hg⟩
    clear d0 d1
    replace G := Lib.hid (gtr G.out hg)
    replace D := Lib.hid (D.out.kept hg)
    clear hg
    obtain ⟨_, d0, d1⟩ := D.out
    go_wp2
    go_ret
    exact ⟨ret_b HR.out.symm, G.out⟩
  go_wp2_with fail
  refine (igok_yes _ _ h1).mono ?_
  rintro e w1 ⟨rfl, hg⟩
  clear d0 d1
  replace G := Lib.hid (gtr G.out hg)
  replace D := Lib.hid (D.out.kept hg)
  clear hg
  obtain ⟨_, d0, d1⟩ := D.out
  rcases gokc R with h2 | h2
  case inr =>
    have HR := Lib.hid (sgF_out (pub := pub) (msg := msg) (Z := Z) (Or.inr (Or.inr (Or.inl h2))))
    go_wp2_with fail
    refine (igok_no _ _ h2).mono ?_
    rintro e w2 ⟨rfl, hg⟩
    clear d0 d1
    replace G := Lib.hid (gtr G.out hg)
    replace D := Lib.hid (D.out.kept hg)
    clear hg
    obtain ⟨_, d0, d1⟩ := D.out
    go_wp2
    go_ret
    exact ⟨ret_b HR.out.symm, G.out⟩
  go_wp2_with fail
  refine (igok_yes _ _ h2).mono ?_
  rintro e w2 ⟨rfl, hg⟩
  clear d0 d1
  replace G := Lib.hid (gtr G.out hg)
  replace D := Lib.hid (D.out.kept hg)
  clear hg
  obtain ⟨_, d0, d1⟩ := D.out
  rcases fokc Z with h3 | h3
  case inr =>
    have HR := Lib.hid (sgF_out (pub := pub) (msg := msg) (R := R) (Or.inr (Or.inr (Or.inr h3))))
    go_wp2_with fail
    refine (iok_no _ _ h3).mono ?_
    rintro e w' ⟨rfl, rfl⟩
    go_wp2
    go_ret
    exact ⟨ret_b HR.out.symm, G.out⟩
  go_wp2_with fail
  refine (iok_yes _ _ h3).mono ?_
  rintro e w' ⟨rfl, rfl⟩
  rcases mok_cases msg with h4 | h4
  case inr =>
    have HR := Lib.hid (sgF_out (pub := pub) (R := R) (Z := Z) (Or.inr (Or.inl h4)))
    go_wp2_with fail
    refine (imsg_no _ _ h4).mono ?_
    rintro e w' ⟨rfl, rfl⟩
    go_wp2
    go_ret
    exact ⟨ret_b HR.out.symm, G.out⟩
  have HR := Lib.hid (sgF_in h1 h4 h2 h3)
  have HH := Lib.hid (hF_in h2 h1 h4)
  go_wp2_with fail
  refine (imsg_yes _ _ h4).mono ?_
  rintro e w' ⟨rfl, rfl⟩
  go_wp2_with fail
  refine (sifits _ pub R R msg Z).mono ?_
  rintro e w3 ⟨rfl, hg⟩
  clear d0 d1
  replace G := Lib.hid (gtr G.out hg)
  replace D := Lib.hid (D.out.kept hg)
  clear hg
  obtain ⟨_, d0, d1⟩ := D.out
  rw [HH.out]
  go_wp2
  go_ret
  exact ⟨ret_b HR.out.symm, G.out⟩

/-- What is answered to who signs alone. -/
def saV (secret msg drawn : Int) : Value := .tuple #[.agg #[.int .i64 (saR' secret msg drawn), .int .i64 (saZ' secret msg drawn)], .bool (saOk secret msg drawn)]
theorem saV_no {secret msg drawn : Int} (h : saOk secret msg drawn = false) : saV secret msg drawn = .tuple #[.agg #[.int .i64 0, .int .i64 0], .bool false] := by unfold saV; rw [saR_no h, saZ_no h, h]
theorem saV_yes {secret msg drawn : Int} (h : saOk secret msg drawn = true) : saV secret msg drawn = .tuple #[.agg #[.int .i64 (gofF drawn), .int .i64 (saZ secret msg drawn)], .bool true] := by unfold saV; rw [saR_yes h, saZ_yes h, h]
theorem size_sig : (Tryz.prog.info? 37).map (·.size) = some 2 := by kernel_rfl
theorem ret_sb {fn : Func} {p u : Tmp} (h : fn.results = #[.cell p 37, .tmp u]) (tmps : Array Value) {w : World} {b : Nat} {v0 v1 : Value} {T : TypeId} (hp : tmps.getD p undef = .pointer (some ⟨b, 0, none⟩)) (hb : Blk w b #[v0, v1] T) :
    (results fn tmps).run Tryz.prog w = .ok (.tuple #[.agg #[v0, v1], tmps.getD u undef]) w := by
  have hp' : tmps[p]?.getD undef = .pointer (some ⟨b, 0, none⟩) := by simpa using hp
  simp [results, h, hp', asAddr, run_loadVar_row w b T 37 #[v0, v1] (0, 0) _ hb Tryz.underlying37 rfl size_sig, Result.andThen]
/-! The model's. -/
theorem s31hash (w : World) (r pub msg : Int) (r0 : 0 ≤ r) (r1 : r ≤ 46) (p0 : 0 ≤ pub) (p1 : pub ≤ 46) (m0 : 0 ≤ msg) (m1 : msg ≤ 99) :
    Calls Tryz.prog 122 #[.int .i64 r, .int .i64 pub, .int .i64 msg] w fun e w' => e = .returned (.int .i64 (hz r pub msg)) ∧ w = w' := by
  have hnn : 0 ≤ 5 * r + 7 * pub + 11 * msg + 3 := by omega
  go_enter Tryz.func122, Tryz.ntmps122
  go_wp2
  go_ret
  exact ⟨ret_i (by first | rfl | exact Int.tmod_eq_emod_of_nonneg hnn), rfl⟩
theorem smsg_yes (w : World) (m : Int) (h : mok m = true) : Calls Tryz.prog 54 #[.int .i64 m, .int .i64 0, .int .i64 99] w fun e w' => e = .returned (.bool true) ∧ w = w' :=
  s6in_yes w m 0 99 (mok_iff.1 h).1 (mok_iff.1 h).2
theorem smsg_no (w : World) (m : Int) (h : mok m = false) : Calls Tryz.prog 54 #[.int .i64 m, .int .i64 0, .int .i64 99] w fun e w' => e = .returned (.bool false) ∧ w = w' :=
  s6in_no w m 0 99 (mok_not.1 h)
end Con
end Go.Proofs.YteibklnonlapoaaGreatDoor
