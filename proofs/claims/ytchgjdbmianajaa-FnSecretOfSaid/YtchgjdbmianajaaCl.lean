/-
  Facts about the program's first word that every row of the seat asks for, read once: reading that long word costs a minute and much memory.
-/
import Derived.Test.YtchgjdbmianajaaRows
import Derived.Conc.Holds
import Derived.ProofKit
namespace Go.Proofs.Ytchgjdbmianajaa
open Go
namespace Cl
theorem strip (rest : List (List Char)) : stripLifts liftWords ("cut".toList :: rest) = ([], "cut".toList :: rest) := by kernel_rfl
theorem enter_of {P : Program} {rest : List (List Char)} (h : behindMainWord (wordsSigns P.initOrder.toList) = "cut".toList :: rest) (h1 : P.laysLater = false) (h2 : P.bearsReflect = false)
    (h3 : P.doorFits [] = true) : P.mayEnter = true := by
  unfold Program.mayEnter
  rw [h]
  simp only [strip, h1, h2, h3]
  simp
theorem make_of {P : Program} {rest : List (List Char)} (h : behindMainWord (wordsSigns P.initOrder.toList) = "cut".toList :: rest) : P.make = some .cut := by
  unfold Program.make
  rw [h]
  kernel_rfl
theorem lifts_of {P : Program} {rest : List (List Char)} (h : behindMainWord (wordsSigns P.initOrder.toList) = "cut".toList :: rest) : P.liftsFinal = false := by
  have e : P.headLifts = [] := by
    unfold Program.headLifts
    rw [h]
    simp only [strip]
    kernel_rfl
  unfold Program.liftsFinal
  rw [h, e]
  show (_ || _) = false
  exact (by kernel_rfl : (("cut".toList :: rest).head? == some "carried".toList && List.take 3 ("cut".toList :: rest) != ["carried".toList, "gc".toList, "cut".toList] || [].contains "finals") = false)
theorem first : (behindMainWord (wordsSigns Try.prog.initOrder.toList)).head? = some "cut".toList := by kernel_rfl
theorem word : ∃ rest, behindMainWord (wordsSigns Try.prog.initOrder.toList) = "cut".toList :: rest := by
  obtain ⟨l, hl⟩ := List.head?_eq_some_iff.1 first
  exact ⟨l, hl⟩
theorem enter : Try.prog.mayEnter = true := word.elim fun _ h => enter_of h (by kernel_rfl) (by kernel_rfl) (by kernel_rfl)
theorem lifts : Try.prog.liftsFinal = false := word.elim fun _ h => lifts_of h
theorem make : Try.prog.make = some .cut := word.elim fun _ h => make_of h
def facts {P : Program} {f : FuncId} {fn : Func} {s : ChangeSpec} {c : OpenClaim} (h1 : P.mayEnter = true) (h2 : P.liftsFinal = false) (h3 : P.make = some .cut) :
    { b : Bool // joinedFacts P f fn s c = b } := ⟨_, by unfold joinedFacts; rw [h1, h2, h3]⟩
end Cl
end Go.Proofs.Ytchgjdbmianajaa
