/-
  Draws of sessions for the laws.
-/
import Derived.Test.YteibklnonlapoaaUd
namespace Go.Proofs.Yteibklnonlapoaa
namespace Draw
open Go.RowKit Alg Mem Con Mp Hd
set_option linter.unusedVariables false

/-- A session, drawn for a law. -/
def GotSn (w : World) (e : Ending) (w' : World) : Prop := ∃ (need many : Int) (ag : Option Addr) (ng cg : Nat) (zg : Nat → Int) (ac : Option Addr) (nc cc : Nat) (zc : Nat → Int) (msg : Int) (a3 : Option Addr) (n c3 : Nat) (S : Nat → SV), e = .returned (.agg #[.int .i64 need, .int .i64 many, .slice ag ng cg, .slice ac nc cc, .int .i64 msg, .slice a3 n c3]) ∧ OE w' w.heap.size ag ng cg zg ∧ OE w' w.heap.size ac nc cc zc ∧ OwnSh w' w.heap.size (.slice a3 n c3) n S ∧ (ng ≤ 6 ∧ nc ≤ 6 ∧ n ≤ 6) ∧ w.grownBy w' none
/-- .. with a member and a part. -/
def GotSP' (w : World) (e : Ending) (w' : World) : Prop := ∃ (need many : Int) (ag : Option Addr) (ng cg : Nat) (zg : Nat → Int) (ac : Option Addr) (nc cc : Nat) (zc : Nat → Int) (msg : Int) (a3 : Option Addr) (n c3 : Nat) (S : Nat → SV) (m z : Int), e = .returned (.tuple #[.agg #[.int .i64 need, .int .i64 many, .slice ag ng cg, .slice ac nc cc, .int .i64 msg, .slice a3 n c3], .int .i64 m, .int .i64 z]) ∧ OE w' w.heap.size ag ng cg zg ∧ OE w' w.heap.size ac nc cc zc ∧ OwnSh w' w.heap.size (.slice a3 n c3) n S ∧ (ng ≤ 6 ∧ nc ≤ 6 ∧ n ≤ 6) ∧ w.grownBy w' none
theorem sesPQ_get {w : World} {need many : Int} {ng : Nat} {zg : Nat → Int} {nc : Nat} {zc : Nat → Int} {msg : Int} {n : Nat} {S : Nat → SV} {m z : Int} {e : Ending} {w' : World} (h1 : tsF need many ng zg nc zc msg n S = true) (h2 : fok z = true) (h : SesPQ w need many ng zg nc zc msg n S m z e w') : SesQ w need many ng zg nc zc msg n (ptS S m n z) (hasz (mS S) m n) e w' := by
  unfold SesPQ at h; rw [if_pos ⟨h1, h2⟩] at h; exact h
theorem sesP_none {w : World} {need many : Int} {ng : Nat} {zg : Nat → Int} {nc : Nat} {zc : Nat → Int} {msg : Int} {n : Nat} {S : Nat → SV} {m z : Int} {e : Ending} {w' : World} (h1 : ¬ (tsF need many ng zg nc zc msg n S = true ∧ fok z = true)) (h : SesP w need many ng zg nc zc msg n S m z e w') : SesZ w e w' := by
  unfold SesP at h; rw [if_neg h1] at h; exact h
theorem sesPQ_none {w : World} {need many : Int} {ng : Nat} {zg : Nat → Int} {nc : Nat} {zc : Nat → Int} {msg : Int} {n : Nat} {S : Nat → SV} {m z : Int} {e : Ending} {w' : World} (h1 : ¬ (tsF need many ng zg nc zc msg n S = true ∧ fok z = true)) (h : SesPQ w need many ng zg nc zc msg n S m z e w') : SesZ w e w' := by
  unfold SesPQ at h; rw [if_neg h1] at h; exact h
theorem ret_s3 {fn : Func} {p q u : Tmp} (h : fn.results = #[.cell p 48, .tmp q, .tmp u]) (tmps : Array Value) {w : World} {b : Nat} {v0 v1 v2 v3 v4 v5 : Value} {T : TypeId} (hp : tmps.getD p undef = .pointer (some ⟨b, 0, none⟩)) (hb : Blk w b #[v0, v1, v2, v3, v4, v5] T) :
    (results fn tmps).run Try.prog w = .ok (.tuple #[.agg #[v0, v1, v2, v3, v4, v5], tmps.getD q undef, tmps.getD u undef]) w := by
  have hp' : tmps[p]?.getD undef = .pointer (some ⟨b, 0, none⟩) := by simpa using hp
  simp [results, h, hp', asAddr, run_loadVar_row w b T 48 #[v0, v1, v2, v3, v4, v5] (0, 0) _ hb Try.underlying48 rfl size_ses, Result.andThen]
end Draw
end Go.Proofs.Yteibklnonlapoaa
