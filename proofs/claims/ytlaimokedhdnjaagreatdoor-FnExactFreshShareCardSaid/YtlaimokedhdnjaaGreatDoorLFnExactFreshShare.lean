/-
  The law FnExactFreshShare of the document's chapter 21, for every key, every slice of deals and every share: the program's FreshShare answers what the model's FreshShare answers, in both results, and writes into no argument. Condition: the program's error value is what its text lays (tied by the card).
-/
import Derived.Test.YtlaimokedhdnjaaGreatDoorRows
import Derived.Test.YtlaimokedhdnjaaGreatDoorCl
import Derived.Test.YtlaimokedhdnjaaGreatDoorLv
import Derived.Test.YtlaimokedhdnjaaGreatDoorTie
import Derived.Test.YtlaimokedhdnjaaGreatDoorCards
import Derived.Test.YtlaimokedhdnjaaGreatDoorDv
import Derived.SevenTiedAt
import Derived.Test.YtlaimokedhdnjaaGreatDoorRunFz
import Derived.WalkKit
import Derived.ProofKit
import Derived.OpenShut
import Derived.ShutString
import Derived.ChangeOld
import Derived.Below
namespace Go.Proofs.YtlaimokedhdnjaaGreatDoor.fnExactFreshShare
open Go.ChangeShapes Go.WideShapes Go.ChangeAt Go.RowKit
open Go.ChangeMaps (open_string shut_string)
set_option linter.unusedVariables false

theorem own : ownKnob Tryz.prog.godebug = none := by kernel_rfl
theorem laidOut : laidOutB Tryz.prog = true := by kernel_rfl

set_option maxRecDepth 100000 in
theorem lifted (os : Os) (started : os.Started) (H : Type) (enc : TypeId × Value → H) :
    ReturnsInHanded {} Tryz.checked os 3 .any (fun w args => (Rows.fnExactFreshShareSpec.pre enc Tryz.prog Tryz.f3 Rows.fnExactFreshShareRow.domain false w args ∧ laidMetH Tryz.prog Dv.lst w) ∧ sizedMet enc Tryz.prog Tryz.f3 (OpenSpec.ofChange Rows.fnExactFreshShareSpec) false w args) (Rows.fnExactFreshShareSpec.post enc Tryz.prog Tryz.f3 false true false false) := by
  refine returnsInHanded_of_change_and (C := Tryz.checked) (X := fun w _ => laidMetH Tryz.prog Dv.lst w) (fun _ _ _ hh h => h.of_heap hh) own started (by kernel_rfl) Tryz.func3
    (ChangeSpec.witness_shaped (enc := enc) (C := Tryz.checked) (os := os) (X := fun w _ => laidMetH Tryz.prog Dv.lst w) false (World.doorLaid Tryz.prog 28 os) #[.agg #[.int .i64 0, .int .i64 0, .slice none 0 0, .slice none 0 0], .slice none 0 0, .agg #[.int .i64 0, .int .i64 0]] 8 rfl (World.shaped_of_RefB (by kernel_rfl) (by kernel_rfl)) (by kernel_rfl) (by kernel_rfl) (by kernel_rfl) (Dv.door_met os _)) ?_
  intro W base args ds gs before hval0 hW hcnd _ hL _
  have hval : ∀ (j : Nat) t v, Tryz.f3.params[j]? = some t → args[j]? = some v → Value.okWide Tryz.prog W .any base t v := hval0
  have hW' := hW
  obtain ⟨p, q, hA0, hV, rfl, hfz, hnd⟩ := hW
  have hA : DataW.TrodAll enc Tryz.prog W 0 (fun _ => true) true Tryz.f3.params.toList args.toList ds p := hA0
  rw [Tryz.params3] at hA hval
  obtain ⟨v0, vs0, d0, ds0, p0, q0, hargs, rfl, rfl, h0, r0⟩ := trodAll_cons hA
  obtain ⟨v1, vs1, d1, ds1, p1, q1, rfl, rfl, rfl, h1, r1⟩ := trodAll_cons r0
  obtain ⟨v2, vs2, d2, ds2, p2, q2, rfl, rfl, rfl, h2, r2⟩ := trodAll_cons r1
  obtain ⟨rfl, rfl, rfl⟩ := trodAll_nil r2
  obtain rfl : args = #[v0, v1, v2] := by cases args; simp_all
  obtain ⟨ad, hvar, hsent⟩ := Dv.of_laid hL
  have k0 := h0
  have lt0 : ∀ x ∈ p0, x.block < W.heap.size := by obtain ⟨m, hm⟩ := k0; exact DataW.trod_lt m _ _ _ hm
  obtain ⟨need, many, ag, ng, cg, zg, ac, nc, cc, zc, rfl, hI1, hI2, hm1, hm2⟩ := Op.op_key (hval 0 24 v0 rfl rfl) h0
  have k1 := h1
  have lt1 : ∀ x ∈ p1, x.block < W.heap.size := by obtain ⟨m, hm⟩ := k1; exact DataW.trod_lt m _ _ _ hm
  obtain ⟨ad0, nd, cd, D, rfl, hD, hDm, hm3⟩ := Op.op_deals (hval 1 25 v1 rfl rfl) h1
  have k2 := h2
  have lt2 : ∀ x ∈ p2, x.block < W.heap.size := by obtain ⟨m, hm⟩ := k2; exact DataW.trod_lt m _ _ _ hm
  obtain ⟨m, s, rfl⟩ := Op.op_held (hval 2 27 v2 rfl rfl) h2
  clear hA0 hval0
  refine (Run.FnExactFreshShare _ _ _ _ _ zg _ _ _ zc _ _ _ D m s W hI1 hI2 hD hm1 hm2 hm3 hDm ad hsent).mono fun e W' ⟨he, bel⟩ => ?_
  subst he
  obtain ⟨gg, rfl, hag⟩ := Dv.again hvar hV bel
  exact ⟨_, rfl, _, _, _, [], _, _, hW', trodAll_mk1 (shut_bool Tryz.underlying4 _), (trodAll_cons_mk (Below.trod laidOut (by kernel_rfl) (of_decide_eq_true (by kernel_rfl)) k0 bel lt0) (trodAll_cons_mk (Below.trod laidOut (by kernel_rfl) (of_decide_eq_true (by kernel_rfl)) k1 bel lt1) (trodAll_cons_mk (Below.trod laidOut (by kernel_rfl) (of_decide_eq_true (by kernel_rfl)) k2 bel lt2) trodAll_mk0))), hag _, bel.frame _, fun h => by cases h⟩

theorem over : Rows.fnExactFreshShareRow.holds Tryz.pinned (OpenSpec.ofChange Rows.fnExactFreshShareSpec) :=
  OpenClaim.holds_of_wide_leaving 3 Tryz.f3 rfl rfl rfl rfl rfl rfl rfl ⟨rfl, rfl, rfl, rfl, rfl⟩ rfl rfl rfl rfl rfl (by kernel_rfl) Tryz.func3 ((Cl.facts Cl.enter Cl.lifts Cl.make).2.trans (by kernel_rfl))
    (of_decide_eq_true (by kernel_rfl)) (by unfold Func.isWrapper; first | (rw [if_pos (by decide +kernel)]; kernel_rfl) | (rw [if_neg (by decide +kernel)]; exact ⟨rfl, rfl⟩))
    (fun os started H enc _ => Lv.leaving_of_handed (lifted os started H enc))

theorem looksAt (f : FuncId) (fn : Func) (hf : Tryz.prog.funcNamed "loop.example/wardstaff/laws.FnExactFreshShare" = some f) (hfn : Tryz.prog.funcs[f]? = some fn) : true = Tryz.prog.looks [] ∧ ∀ (j : Nat) t, fn.params[j]? = some t → Tryz.prog.wantsStandIn t = false := by
  obtain rfl : f = 3 := Option.some.inj ((show Tryz.prog.funcNamed "loop.example/wardstaff/laws.FnExactFreshShare" = some 3 by kernel_rfl).symm.trans hf) |>.symm
  obtain rfl : fn = Tryz.f3 := (Option.some.inj (Tryz.func3.symm.trans hfn)).symm
  exact ⟨by kernel_rfl, fun j t ht => by
    rw [Tryz.params3] at ht
    have hm : t ∈ [24, 25, 27] := by simpa using Array.mem_of_getElem? ht
    have hall : ([24, 25, 27].all fun u => !Tryz.prog.wantsStandIn u) = true := by kernel_rfl
    exact (show Tryz.prog.wantsStandIn t = false by simpa using List.all_eq_true.1 hall t hm)⟩
/-- THE CARD: the row, its listed variable tied to the program's text; the call can come to a go statement. -/
theorem proved : Rows.FnExactFreshShareCardSaid :=
  ⟨Claim7.tied_new_at .later [.sentinel] true (Claim7.new_of_sixth over (true, "740e39dc67ad3f66a2731815cfe07ce6dca1ed63bbdcb12b0654161c7b127dad") true rfl ⟨rfl, rfl⟩ (by kernel_rfl) (by simp [Claim7.isSixth]) looksAt) (by kernel_rfl), (fun D hD => by cases hD), fnExactFreshShare_row_tie, (fun h => by cases h), by kernel_rfl⟩
#print axioms proved
end Go.Proofs.YtlaimokedhdnjaaGreatDoor.fnExactFreshShare
