/-
  The law FnExactSessionBad of the document's chapter 32, for every session: the program's SessionBad answers what the model's SessionBad answers, writes into no argument, and its answer owns its memory. Condition: the program's error value and package errors' own handle are what their texts lay (tied by the card).
-/
import Derived.Test.YtgahfifojagghaaGreatDoorRows
import Derived.Test.YtgahfifojagghaaGreatDoorCl
import Derived.Test.YtgahfifojagghaaGreatDoorTie
import Derived.Test.YtgahfifojagghaaGreatDoorCards
import Derived.Test.YtgahfifojagghaaGreatDoorDz
import Derived.SevenTiedAt
import Derived.Test.YtgahfifojagghaaGreatDoorRunTz
import Derived.Test.YtgahfifojagghaaGreatDoorTh
import Derived.WalkKit
import Derived.ProofKit
import Derived.OpenShut
import Derived.ShutString
import Derived.ChangeOld
import Derived.Below
namespace Go.Proofs.YtgahfifojagghaaGreatDoor.fnExactSessionBad
open Go.ChangeShapes Go.WideShapes Go.ChangeAt Go.RowKit
open Go.ChangeMaps (open_string shut_string)
set_option linter.unusedVariables false

theorem own : ownKnob Tryz.prog.godebug = none := by kernel_rfl
theorem laidOut : laidOutB Tryz.prog = true := by kernel_rfl

set_option maxRecDepth 100000 in
theorem lifted (os : Os) (started : os.Started) (H : Type) (enc : TypeId × Value → H) :
    ReturnsInHanded {} Tryz.checked os 8 .any (fun w args => (Rows.fnExactSessionBadSpec.pre enc Tryz.prog Tryz.f8 Rows.fnExactSessionBadRow.domain false w args ∧ laidMetH Tryz.prog Dz.lstZ w) ∧ sizedMet enc Tryz.prog Tryz.f8 (OpenSpec.ofChange Rows.fnExactSessionBadSpec) false w args) (Rows.fnExactSessionBadSpec.post enc Tryz.prog Tryz.f8 false true false false) := by
  refine returnsInHanded_of_change_and (C := Tryz.checked) (X := fun w _ => laidMetH Tryz.prog Dz.lstZ w) (fun _ _ _ hh h => h.of_heap hh) own started (by kernel_rfl) Tryz.func8
    (ChangeSpec.witness_shaped (enc := enc) (C := Tryz.checked) (os := os) (X := fun w _ => laidMetH Tryz.prog Dz.lstZ w) false (World.doorLaid Tryz.prog 35 os) #[.agg #[.int .i64 0, .int .i64 0, .slice none 0 0, .slice none 0 0, .int .i64 0, .slice none 0 0]] 8 rfl (World.shaped_of_RefB (by kernel_rfl) (by kernel_rfl)) (by kernel_rfl) (by kernel_rfl) (by kernel_rfl) (Dz.door_metZ os _)) ?_
  intro W base args ds gs before hval0 hW hcnd _ hL _
  have hval : ∀ (j : Nat) t v, Tryz.f8.params[j]? = some t → args[j]? = some v → Value.okWide Tryz.prog W .any base t v := hval0
  have hW' := hW
  obtain ⟨p, q, hA0, hV, rfl, hfz, hnd⟩ := hW
  have hA : DataW.TrodAll enc Tryz.prog W 0 (fun _ => true) true Tryz.f8.params.toList args.toList ds p := hA0
  rw [Tryz.params8] at hA hval
  obtain ⟨v0, vs0, d0, ds0, p0, q0, hargs, rfl, rfl, h0, r0⟩ := trodAll_cons hA
  obtain ⟨rfl, rfl, rfl⟩ := trodAll_nil r0
  obtain rfl : args = #[v0] := by cases args; simp_all
  obtain ⟨ad, hvar, hsent⟩ := Dz.of_laidZ hL
  have k0 := h0
  have lt0 : ∀ x ∈ p0, x.block < W.heap.size := by obtain ⟨m, hm⟩ := k0; exact DataW.trod_lt m _ _ _ hm
  obtain ⟨need, many, ag, ng, cg, zg, ac, nc, cc, zc, msg, a3, n3, c3, S, rfl, hI1, hI2, hI3, hm1, hm2, hm3⟩ := Op.op_sess (hval 0 56 v0 rfl rfl) h0
  clear hA0 hval0
  refine (Run.FnExactSessionBad _ _ _ _ _ zg _ _ _ zc _ _ _ _ S W hI1 hI2 hI3 hm1 hm2 hm3 ad hsent.1 hsent.2).mono fun e W' ⟨he, bel⟩ => ?_
  subst he
  obtain ⟨gg, rfl, hag⟩ := Dz.againZ hvar hV bel
  exact ⟨_, rfl, _, _, _, [], _, _, hW', trodAll_mk1 (shut_bool Tryz.underlying4 _), (trodAll_cons_mk (Below.trod laidOut (by kernel_rfl) (of_decide_eq_true (by kernel_rfl)) k0 bel lt0) trodAll_mk0), hag _, bel.frame _, fun h => by cases h⟩

theorem over : Rows.fnExactSessionBadRow.holds Tryz.pinned (OpenSpec.ofChange Rows.fnExactSessionBadSpec) :=
  OpenClaim.holds_of_wide 8 Tryz.f8 rfl rfl rfl rfl rfl rfl rfl ⟨rfl, rfl, rfl, rfl, rfl⟩ rfl rfl rfl rfl rfl (by kernel_rfl) Tryz.func8 ((Cl.facts Cl.enter Cl.lifts Cl.make).2.trans (by kernel_rfl))
    (of_decide_eq_true (by kernel_rfl)) (by unfold Func.isWrapper; first | (rw [if_pos (by decide +kernel)]; kernel_rfl) | (rw [if_neg (by decide +kernel)]; exact ⟨rfl, rfl⟩))
    (fun os started H enc _ => lifted os started H enc)

/-- THE CARD: the row, its listed variable tied to the program's text. -/
theorem proved : Rows.FnExactSessionBadCardSaid :=
  Claim7.holds_tied_plain_at .later [] [.handle, .sentinel] true (true, "0a8723e3b62d730ee1e5f0dd4732075403beb0999c8fc08c6244cf3701296d20") true
    over (fun _ h => by cases h) (by kernel_rfl) (fun _ h => by cases h) fnExactSessionBad_row_tie rfl ⟨rfl, rfl⟩ (by kernel_rfl) rfl
    (fun f fn hf hfn => by
      obtain rfl : f = 8 := Option.some.inj ((show Tryz.prog.funcNamed "loop.example/wardstaff/laws.FnExactSessionBad" = some 8 by kernel_rfl).symm.trans hf) |>.symm
      obtain rfl : fn = Tryz.f8 := (Option.some.inj (Tryz.func8.symm.trans hfn)).symm
      exact ⟨by kernel_rfl, fun j t ht => by
        rw [Tryz.params8] at ht
        have hm : t ∈ [56] := by simpa using Array.mem_of_getElem? ht
        have hall : ([56].all fun u => !Tryz.prog.wantsStandIn u) = true := by kernel_rfl
        exact (show Tryz.prog.wantsStandIn t = false by simpa using List.all_eq_true.1 hall t hm)⟩)
    (by kernel_rfl)
#print axioms proved
end Go.Proofs.YtgahfifojagghaaGreatDoor.fnExactSessionBad
