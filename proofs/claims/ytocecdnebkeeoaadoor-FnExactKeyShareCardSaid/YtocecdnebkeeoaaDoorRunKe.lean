/-
  The walks of the exact laws on keys: which are valid, what all know, whether a share is a member's.
-/
import Derived.Test.YtocecdnebkeeoaaDoorKc
import Derived.Test.YtocecdnebkeeoaaDoorRunKit
import Derived.Deep.RegionHeld3
namespace Go.Proofs.YtocecdnebkeeoaaDoor
namespace Run
open Go.RowKit Alg Mem Con
set_option linter.unusedVariables false

/-- The eight cells of two keys in memory. -/
def Eight (w' : World) (B : Nat) (need many : Int) (s1 s2 : Value) (X : Nat) (t1 t2 : Value) : Prop :=
  w'.cell? ⟨B, 0, none⟩ = some (.int .i64 need) ∧ w'.cell? ⟨B, 1, none⟩ = some (.int .i64 many) ∧ w'.cell? ⟨B, 2, none⟩ = some s1 ∧ w'.cell? ⟨B, 3, none⟩ = some s2 ∧ w'.cell? ⟨X, 0, none⟩ = some (.int .i64 need) ∧ w'.cell? ⟨X, 1, none⟩ = some (.int .i64 many) ∧ w'.cell? ⟨X, 2, none⟩ = some t1 ∧ w'.cell? ⟨X, 3, none⟩ = some t2
theorem eight_of {w' : World} {B : Nat} {need many : Int} {s1 s2 : Value} {X : Nat} {t1 t2 : Value} (h : Ky w' B need many s1 s2) (k : Ky w' X need many t1 t2) : Eight w' B need many s1 s2 X t1 t2 := ⟨h.c0, h.c1, h.c2, h.c3, k.c0, k.c1, k.c2, k.c3⟩

end Run
end Go.Proofs.YtocecdnebkeeoaaDoor