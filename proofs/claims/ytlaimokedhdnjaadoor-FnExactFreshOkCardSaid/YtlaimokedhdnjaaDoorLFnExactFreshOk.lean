/-
  The law FnExactFreshOk of the document's chapter 21, for every key and every deal: the program's FreshOk answers what the model's FreshOk answers, and writes into no argument. Condition: the program's error value is what its text lays (tied by the card).
-/
import Derived.Test.YtlaimokedhdnjaaDoorRows
import Derived.Test.YtlaimokedhdnjaaDoorCl
import Derived.Test.YtlaimokedhdnjaaDoorTie
import Derived.Test.YtlaimokedhdnjaaDoorCards
import Derived.Test.YtlaimokedhdnjaaDoorDv
import Derived.SevenTiedAt
import Derived.Test.YtlaimokedhdnjaaDoorRunFe
import Derived.WalkKit
import Derived.ProofKit
import Derived.OpenShut
import Derived.ShutString
import Derived.ChangeOld
import Derived.Below
namespace Go.Proofs.YtlaimokedhdnjaaDoor.fnExactFreshOk
open Go.ChangeShapes Go.WideShapes Go.ChangeAt Go.RowKit
open Go.ChangeMaps (open_string shut_string)
set_option linter.unusedVariables false

theorem own : ownKnob Tryd.prog.godebug = none := by kernel_rfl
theorem laidOut : laidOutB Tryd.prog = true := by kernel_rfl

set_option maxRecDepth 100000 in
theorem lifted (os : Os) (started : os.Started) (H : Type) (enc : TypeId × Value → H) :
    ReturnsInHanded {} Tryd.checked os 4 .any (fun w args => (Rows.fnExactFreshOkSpec.pre enc Tryd.prog Tryd.f4 Rows.fnExactFreshOkRow.domain false w args ∧ laidMetH Tryd.prog Dv.lst w) ∧ sizedMet enc Tryd.prog Tryd.f4 (OpenSpec.ofChange Rows.fnExactFreshOkSpec) false w args) (Rows.fnExactFreshOkSpec.post enc Tryd.prog Tryd.f4 false true false false) := by
  refine returnsInHanded_of_change_and (C := Tryd.checked) (X := fun w _ => laidMetH Tryd.prog Dv.lst w) (fun _ _ _ hh h => h.of_heap hh) own started (by kernel_rfl) Tryd.func4
    (ChangeSpec.witness_shaped (enc := enc) (C := Tryd.checked) (os := os) (X := fun w _ => laidMetH Tryd.prog Dv.lst w) false (World.doorLaid Tryd.prog 28 os) #[.agg #[.int .i64 0, .int .i64 0, .slice none 0 0, .slice none 0 0], .agg #[.int .i64 0, .slice none 0 0, .slice none 0 0]] 8 rfl (World.shaped_of_RefB (by kernel_rfl) (by kernel_rfl)) (by kernel_rfl) (by kernel_rfl) (by kernel_rfl) (Dv.door_met os _)) ?_
  intro W base args ds gs before hval0 hW hcnd _ hL _
  have hval : ∀ (j : Nat) t v, Tryd.f4.params[j]? = some t → args[j]? = some v → Value.okWide Tryd.prog W .any base t v := hval0
  have hW' := hW
  obtain ⟨p, q, hA0, hV, rfl, hfz, hnd⟩ := hW
  have hA : DataW.TrodAll enc Tryd.prog W 0 (fun _ => true) true Tryd.f4.params.toList args.toList ds p := hA0
  rw [Tryd.params4] at hA hval
  obtain ⟨v0, vs0, d0, ds0, p0, q0, hargs, rfl, rfl, h0, r0⟩ := trodAll_cons hA
  obtain ⟨v1, vs1, d1, ds1, p1, q1, rfl, rfl, rfl, h1, r1⟩ := trodAll_cons r0
  obtain ⟨rfl, rfl, rfl⟩ := trodAll_nil r1
  obtain rfl : args = #[v0, v1] := by cases args; simp_all
  obtain ⟨ad, hvar, hsent⟩ := Dv.of_laid hL
  have k0 := h0
  have lt0 : ∀ x ∈ p0, x.block < W.heap.size := by obtain ⟨m, hm⟩ := k0; exact DataW.trod_lt m _ _ _ hm
  obtain ⟨need, many, ag, ng, cg, zg, ac, nc, cc, zc, rfl, hI1, hI2, hm1, hm2⟩ := Op.op_key (hval 0 35 v0 rfl rfl) h0
  have k1 := h1
  have lt1 : ∀ x ∈ p1, x.block < W.heap.size := by obtain ⟨m, hm⟩ := k1; exact DataW.trod_lt m _ _ _ hm
  obtain ⟨f, a1, n1, c1, z1, a2, n2, c2, z2, rfl, hI3, hI4, hm3, hm4⟩ := Op.op_deal (hval 1 36 v1 rfl rfl) h1
  clear hA0 hval0
  refine (Run.FnExactFreshOk _ _ _ _ _ zg _ _ _ zc f _ _ _ z1 _ _ _ z2 W hI1 hI2 hI3 hI4 hm1 hm2 hm3 hm4 ad hsent).mono fun e W' ⟨he, bel⟩ => ?_
  subst he
  obtain ⟨gg, rfl, hag⟩ := Dv.again hvar hV bel
  exact ⟨_, rfl, _, _, _, [], _, _, hW', trodAll_mk1 (shut_bool Tryd.underlying4 _), (trodAll_cons_mk (Below.trod laidOut (by kernel_rfl) (of_decide_eq_true (by kernel_rfl)) k0 bel lt0) (trodAll_cons_mk (Below.trod laidOut (by kernel_rfl) (of_decide_eq_true (by kernel_rfl)) k1 bel lt1) trodAll_mk0)), hag _, bel.frame _, fun h => by cases h⟩

theorem over : Rows.fnExactFreshOkRow.holds Tryd.pinned (OpenSpec.ofChange Rows.fnExactFreshOkSpec) :=
  OpenClaim.holds_of_wide 4 Tryd.f4 rfl rfl rfl rfl rfl rfl rfl ⟨rfl, rfl, rfl, rfl, rfl⟩ rfl rfl rfl rfl rfl (by kernel_rfl) Tryd.func4 ((Cl.facts Cl.enter Cl.lifts Cl.make).2.trans (by kernel_rfl))
    (of_decide_eq_true (by kernel_rfl)) (by unfold Func.isWrapper; first | (rw [if_pos (by decide +kernel)]; kernel_rfl) | (rw [if_neg (by decide +kernel)]; exact ⟨rfl, rfl⟩))
    (fun os started H enc _ => lifted os started H enc)

/-- THE CARD: the row, its listed variable tied to the program's text. -/
theorem proved : Rows.FnExactFreshOkCardSaid :=
  Claim7.holds_tied_plain_at .later [] [.sentinel] true (true, "c67b07a3b3a65f677d9ee72fe2ca574e584ba248b830e9bda55a7f527526b0ae") true
    over (fun _ h => by cases h) (by kernel_rfl) (fun _ h => by cases h) fnExactFreshOk_row_tie rfl ⟨rfl, rfl⟩ (by kernel_rfl) rfl
    (fun f fn hf hfn => by
      obtain rfl : f = 4 := Option.some.inj ((show Tryd.prog.funcNamed "loop.example/wardstaff/laws.FnExactFreshOk" = some 4 by kernel_rfl).symm.trans hf) |>.symm
      obtain rfl : fn = Tryd.f4 := (Option.some.inj (Tryd.func4.symm.trans hfn)).symm
      exact ⟨by kernel_rfl, fun j t ht => by
        rw [Tryd.params4] at ht
        have hm : t ∈ [35, 36] := by simpa using Array.mem_of_getElem? ht
        have hall : ([35, 36].all fun u => !Tryd.prog.wantsStandIn u) = true := by kernel_rfl
        exact (show Tryd.prog.wantsStandIn t = false by simpa using List.all_eq_true.1 hall t hm)⟩)
    (by kernel_rfl)
#print axioms proved
end Go.Proofs.YtlaimokedhdnjaaDoor.fnExactFreshOk
