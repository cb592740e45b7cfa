/-
  Sessions: the model's SessionNew.
-/
import Derived.Test.YtgahfifojagghaaDoorTe
import Derived.Test.YtgahfifojagghaaDoorTg
namespace Go.Proofs.YtgahfifojagghaaDoor
namespace Con
open Go.RowKit Alg Mem Draw Hd
set_option linter.unusedVariables false

theorem own_ne_b {W : World} {lo k : Nat} {T U : TypeId} {v : Value} {n b : Nat} {xs : List Value} {vs : Array Value} (h : W.ownsRow lo T k v n xs) (hb : Blk W b vs U) (hne : T ≠ U) : some b ≠ v.ownBlock := by
  rcases h with ⟨_, ⟨rfl, _⟩ | ⟨g, cap, cur, rfl, _, hg, _⟩⟩
  · intro e; cases e
  · intro e
    have e : b = g := Option.some.inj e
    subst e
    unfold Blk at hb
    rw [hg] at hb
    injection hb with hb
    injection hb with _ k2 _
    exact hne k2
theorem OwnSh.keptBlk {w w' : World} {lo : Nat} {v : Value} {n b : Nat} {S : Nat → SV} {vs : Array Value} (h : OwnSh w lo v n S) (hb : Blk w b vs 36) (hg : w.grownBy w' (some b)) : OwnSh w' lo v n S :=
  World.ownsRow.kept h hg (.inr fun e => own_ne_b h hb (by decide) e.symm)
theorem own_grownW {w0 wr w1 : World} {lo k n : Nat} {T : TypeId} {v : Value} {xs : List Value} (hg : w0.grownBy wr none) (ho : wr.ownsRow lo T k v n xs) (hlo : w0.heap.size ≤ lo) (h : wr.grownBy w1 v.ownBlock) : w0.grownBy w1 none := by
  cases hv : v.ownBlock with
  | none => rw [hv] at h; exact gtr hg h
  | some g => rw [hv] at h; exact grown_new hg (Nat.le_trans hlo (ho.lt g hv).1) h
theorem ints_cell {w : World} {b off n : Nat} {z : Nat → Int} (h : Ints w (some ⟨b, off, none⟩) n z) {j : Nat} (hj : j < n) : w.cell? ⟨b, off + j, none⟩ = some (.int .i64 (z j)) := by
  obtain ⟨b', off', e, _, hc⟩ := h.ptr (by omega)
  injection e with e; injection e with e1 e2; subst e1; subst e2
  exact hc j hj
theorem blk_news {w : World} {b : Nat} {vs : List Value} {T : TypeId} (h : Blk w b vs.toArray T) : ∀ j u, vs[j]? = some u → w.cell? ((⟨b, 0, none⟩ : Addr).add j) = some u := by
  intro j u hu
  have e : (⟨b, 0, none⟩ : Addr).add j = ⟨b, j, none⟩ := by
    by_cases h0 : j = 0
    · subst h0; simp [Addr.add]
    · simp [Addr.add, h0]
  rw [e, h.cell]
  simpa using hu
theorem ret_ses2 {fn : Func} {p u : Tmp} (h : fn.results = #[.cell p 36, .tmp u]) (tmps : Array Value) {w : World} {b : Nat} {v0 v1 v2 v3 v4 v5 : Value} {T : TypeId} (hp : tmps.getD p undef = .pointer (some ⟨b, 0, none⟩)) (hb : Blk w b #[v0, v1, v2, v3, v4, v5] T) :
    (results fn tmps).run Tryd.prog w = .ok (.tuple #[.agg #[v0, v1, v2, v3, v4, v5], tmps.getD u undef]) w := by
  have hp' : tmps[p]?.getD undef = .pointer (some ⟨b, 0, none⟩) := by simpa using hp
  simp [results, h, hp', asAddr, run_loadVar_row w b T 36 #[v0, v1, v2, v3, v4, v5] (0, 0) _ hb Tryd.underlying36 rfl size_ses, Result.andThen]
/-- What new members showed. -/
def nwS (zm zs : Nat → Int) (j : Nat) : SV := ⟨zm j, zs j, false, 0⟩
/-- A session of the call's own, and whether there is one. -/
def SesC (w : World) (need many : Int) (ng : Nat) (zg : Nat → Int) (nc : Nat) (zc : Nat → Int) (msg : Int) (n : Nat) (S : Nat → SV) (ok : Bool) (e : Ending) (w' : World) : Prop :=
  ∃ b1 c1 b2 c2 a3 c3, e = .returned (.tuple #[.agg #[.int .i64 need, .int .i64 many, .slice (some ⟨b1, 0, none⟩) ng c1, .slice (some ⟨b2, 0, none⟩) nc c2, .int .i64 msg, .slice a3 n c3], .bool ok]) ∧ OI w' w.heap.size b1 ng c1 zg ∧ OI w' w.heap.size b2 nc c2 zc ∧ OwnSh w' w.heap.size (.slice a3 n c3) n S ∧ w.grownBy w' none
def SesZ (w : World) (e : Ending) (w' : World) : Prop := e = .returned (.tuple #[.agg #[.int .i64 0, .int .i64 0, .slice none 0 0, .slice none 0 0, .int .i64 0, .slice none 0 0], .bool false]) ∧ w.grownBy w' none
/-- What SessionNew answers. -/
def SesN (w : World) (need many : Int) (ng : Nat) (zg : Nat → Int) (nc : Nat) (zc : Nat → Int) (msg : Int) (nm ns : Nat) (zm zs : Nat → Int) (e : Ending) (w' : World) : Prop :=
  if nm = ns ∧ tsF need many ng zg nc zc msg nm (nwS zm zs) = true then SesC w need many ng zg nc zc msg nm (nwS zm zs) true e w' else SesZ w e w'
theorem sesN_yes {w : World} {need many : Int} {ng : Nat} {zg : Nat → Int} {nc : Nat} {zc : Nat → Int} {msg : Int} {nm ns : Nat} {zm zs : Nat → Int} {e : Ending} {w' : World} (h1 : nm = ns) (h2 : tsF need many ng zg nc zc msg nm (nwS zm zs) = true) (h : SesC w need many ng zg nc zc msg nm (nwS zm zs) true e w') : SesN w need many ng zg nc zc msg nm ns zm zs e w' := by unfold SesN; rw [if_pos ⟨h1, h2⟩]; exact h
theorem sesN_no {w : World} {need many : Int} {ng : Nat} {zg : Nat → Int} {nc : Nat} {zc : Nat → Int} {msg : Int} {nm ns : Nat} {zm zs : Nat → Int} {e : Ending} {w' : World} (h1 : ¬ (nm = ns ∧ tsF need many ng zg nc zc msg nm (nwS zm zs) = true)) (h : SesZ w e w') : SesN w need many ng zg nc zc msg nm ns zm zs e w' := by unfold SesN; rw [if_neg h1]; exact h
end Con
end Go.Proofs.YtgahfifojagghaaDoor
