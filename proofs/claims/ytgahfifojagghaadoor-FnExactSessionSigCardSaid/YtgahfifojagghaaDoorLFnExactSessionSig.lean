/-
  The law FnExactSessionSig of the document's chapter 32, for every session: the program's SessionSig answers what the model's SessionSig answers, and writes into no argument. Condition: the program's error value is what its text lays (tied by the card).
-/
import Derived.Test.YtgahfifojagghaaDoorRows
import Derived.Test.YtgahfifojagghaaDoorCl
import Derived.Test.YtgahfifojagghaaDoorTie
import Derived.Test.YtgahfifojagghaaDoorCards
import Derived.Test.YtgahfifojagghaaDoorDw
import Derived.SevenTiedAt
import Derived.Test.YtgahfifojagghaaDoorRunTy
import Derived.Test.YtgahfifojagghaaDoorTh
import Derived.WalkKit
import Derived.ProofKit
import Derived.OpenShut
import Derived.ShutString
import Derived.ChangeOld
import Derived.Below
namespace Go.Proofs.YtgahfifojagghaaDoor.fnExactSessionSig
open Go.ChangeShapes Go.WideShapes Go.ChangeAt Go.RowKit
open Go.ChangeMaps (open_string shut_string)
set_option linter.unusedVariables false

theorem own : ownKnob Tryd.prog.godebug = none := by kernel_rfl
theorem laidOut : laidOutB Tryd.prog = true := by kernel_rfl

set_option maxRecDepth 100000 in
theorem lifted (os : Os) (started : os.Started) (H : Type) (enc : TypeId × Value → H) :
    ReturnsInHanded {} Tryd.checked os 3 .any (fun w args => (Rows.fnExactSessionSigSpec.pre enc Tryd.prog Tryd.f3 Rows.fnExactSessionSigRow.domain false w args ∧ laidMetH Tryd.prog Dw.lstN w) ∧ sizedMet enc Tryd.prog Tryd.f3 (OpenSpec.ofChange Rows.fnExactSessionSigSpec) false w args) (Rows.fnExactSessionSigSpec.post enc Tryd.prog Tryd.f3 false true false false) := by
  refine returnsInHanded_of_change_and (C := Tryd.checked) (X := fun w _ => laidMetH Tryd.prog Dw.lstN w) (fun _ _ _ hh h => h.of_heap hh) own started (by kernel_rfl) Tryd.func3
    (ChangeSpec.witness_shaped (enc := enc) (C := Tryd.checked) (os := os) (X := fun w _ => laidMetH Tryd.prog Dw.lstN w) false (World.doorLaid Tryd.prog 28 os) #[.agg #[.int .i64 0, .int .i64 0, .slice none 0 0, .slice none 0 0, .int .i64 0, .slice none 0 0]] 8 rfl (World.shaped_of_RefB (by kernel_rfl) (by kernel_rfl)) (by kernel_rfl) (by kernel_rfl) (by kernel_rfl) (Dw.door_metN os _)) ?_
  intro W base args ds gs before hval0 hW hcnd _ hL _
  have hval : ∀ (j : Nat) t v, Tryd.f3.params[j]? = some t → args[j]? = some v → Value.okWide Tryd.prog W .any base t v := hval0
  have hW' := hW
  obtain ⟨p, q, hA0, hV, rfl, hfz, hnd⟩ := hW
  have hA : DataW.TrodAll enc Tryd.prog W 0 (fun _ => true) true Tryd.f3.params.toList args.toList ds p := hA0
  rw [Tryd.params3] at hA hval
  obtain ⟨v0, vs0, d0, ds0, p0, q0, hargs, rfl, rfl, h0, r0⟩ := trodAll_cons hA
  obtain ⟨rfl, rfl, rfl⟩ := trodAll_nil r0
  obtain rfl : args = #[v0] := by cases args; simp_all
  obtain ⟨ad, hvar, hsent⟩ := Dw.of_laidN hL
  have k0 := h0
  have lt0 : ∀ x ∈ p0, x.block < W.heap.size := by obtain ⟨m, hm⟩ := k0; exact DataW.trod_lt m _ _ _ hm
  obtain ⟨need, many, ag, ng, cg, zg, ac, nc, cc, zc, msg, a3, n3, c3, S, rfl, hI1, hI2, hI3, hm1, hm2, hm3⟩ := Op.op_sess (hval 0 27 v0 rfl rfl) h0
  clear hA0 hval0
  refine (Run.FnExactSessionSig _ _ _ _ _ zg _ _ _ zc _ _ _ _ S W hI1 hI2 hI3 hm1 hm2 hm3 ad hsent).mono fun e W' ⟨he, bel⟩ => ?_
  subst he
  obtain ⟨gg, rfl, hag⟩ := Dw.againN hvar hV bel
  exact ⟨_, rfl, _, _, _, [], _, _, hW', trodAll_mk1 (shut_bool Tryd.underlying4 _), (trodAll_cons_mk (Below.trod laidOut (by kernel_rfl) (of_decide_eq_true (by kernel_rfl)) k0 bel lt0) trodAll_mk0), hag _, bel.frame _, fun h => by cases h⟩

theorem over : Rows.fnExactSessionSigRow.holds Tryd.pinned (OpenSpec.ofChange Rows.fnExactSessionSigSpec) :=
  OpenClaim.holds_of_wide 3 Tryd.f3 rfl rfl rfl rfl rfl rfl rfl ⟨rfl, rfl, rfl, rfl, rfl⟩ rfl rfl rfl rfl rfl (by kernel_rfl) Tryd.func3 ((Cl.facts Cl.enter Cl.lifts Cl.make).2.trans (by kernel_rfl))
    (of_decide_eq_true (by kernel_rfl)) (by unfold Func.isWrapper; first | (rw [if_pos (by decide +kernel)]; kernel_rfl) | (rw [if_neg (by decide +kernel)]; exact ⟨rfl, rfl⟩))
    (fun os started H enc _ => lifted os started H enc)

/-- THE CARD: the row, its listed variable tied to the program's text. -/
theorem proved : Rows.FnExactSessionSigCardSaid :=
  Claim7.holds_tied_plain_at .later [] [.sentinel] true (true, "820ef34a5f145f926cb8e4c48feb738fc689d7777579e17aad3572b40e2edac9") true
    over (fun _ h => by cases h) (by kernel_rfl) (fun _ h => by cases h) fnExactSessionSig_row_tie rfl ⟨rfl, rfl⟩ (by kernel_rfl) rfl
    (fun f fn hf hfn => by
      obtain rfl : f = 3 := Option.some.inj ((show Tryd.prog.funcNamed "loop.example/wardstaff/laws.FnExactSessionSig" = some 3 by kernel_rfl).symm.trans hf) |>.symm
      obtain rfl : fn = Tryd.f3 := (Option.some.inj (Tryd.func3.symm.trans hfn)).symm
      exact ⟨by kernel_rfl, fun j t ht => by
        rw [Tryd.params3] at ht
        have hm : t ∈ [27] := by simpa using Array.mem_of_getElem? ht
        have hall : ([27].all fun u => !Tryd.prog.wantsStandIn u) = true := by kernel_rfl
        exact (show Tryd.prog.wantsStandIn t = false by simpa using List.all_eq_true.1 hall t hm)⟩)
    (by kernel_rfl)
#print axioms proved
end Go.Proofs.YtgahfifojagghaaDoor.fnExactSessionSig
