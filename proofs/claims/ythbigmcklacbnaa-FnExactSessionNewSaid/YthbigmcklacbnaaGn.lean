/-
  Signatures: what a part is, and the program's SignPart and SignFits.
-/
import Derived.Test.YthbigmcklacbnaaGm
namespace Go.Proofs.Ythbigmcklacbnaa
namespace Con
open Go.RowKit Alg Mem Draw
set_option linter.unusedVariables false


/-- How often a signer's share is taken. -/
def gW (zc : Nat → Int) (nm : Nat) (zm : Nat → Int) (m r msg : Int) : Int := mulF (zline nm zm 0 (posz zm m nm)) (hz r (zc 0) msg)
theorem gW_ok (zc : Nat → Int) (nm : Nat) (zm : Nat → Int) (m r msg : Int) : fok (gW zc nm zm m r msg) = true := mulF_ok _ _
theorem ga_facts {need many : Int} {ng : Nat} {zg : Nat → Int} {nc : Nat} {zc : Nat → Int} {nm : Nat} {zm : Nat → Int} {m : Int} (h : gaF need many ng zg nc zc nm zm m = true) : need ≤ many ∧ 1 ≤ need ∧ many ≤ 5 ∧ cokz nc zc = true ∧ nm ≤ 5 ∧ need ≤ (nm : Int) ∧ plok nm zm = true ∧ posz zm m nm < nm ∧ zm (posz zm m nm) = m ∧ mbF many m = true ∧ gok (zc 0) = true ∧ 1 ≤ nc := by
  obtain ⟨h1, h2, h3⟩ := ga_iff.1 h
  obtain ⟨⟨k1, k2, k3⟩, k4, k5, k6, k7⟩ := ky_iff.1 h1
  obtain ⟨c1, c2, c3⟩ := crw_iff.1 h2
  obtain ⟨p1, p2⟩ := pos_lt h3
  have hck := cokz_iff.1 k5
  exact ⟨k2, k1, k3, k5, cr_len k3 c2 c3, c1, cr_plok k3 c2 c3, p1, p2, by rw [← p2]; exact mbz_iff.1 c3 _ p1, hck.2.2 0 (by omega), by omega⟩
theorem ga_pub {need many : Int} {ng : Nat} {zg : Nat → Int} {nc : Nat} {zc : Nat → Int} {nm : Nat} {zm : Nat → Int} {m : Int} (h : gaF need many ng zg nc zc nm zm m = true) : kpub need many ng zg nc zc = zc 0 := kpub_yes (ga_iff.1 h).1
theorem ga_w {need many : Int} {ng : Nat} {zg : Nat → Int} {nc : Nat} {zc : Nat → Int} {nm : Nat} {zm : Nat → Int} {m : Int} {r msg : Int} (h : gaF need many ng zg nc zc nm zm m = true) (h1 : gok r = true) (h2 : mok msg = true) : mulF (zline nm zm 0 (posz zm m nm)) (hF r (kpub need many ng zg nc zc) msg) = gW zc nm zm m r msg := by
  rw [ga_pub h, hF_in h1 (ga_facts h).2.2.2.2.2.2.2.2.2.2.1 h2]; rfl
/-- May one sign its part? -/
def spOk (need many : Int) (ng : Nat) (zg : Nat → Int) (nc : Nat) (zc : Nat → Int) (nm : Nat) (zm : Nat → Int) (m s r msg d : Int) : Bool := gaF need many ng zg nc zc nm zm m && (fok s && (fok d && (gok r && mok msg)))
theorem sp_iff {need many : Int} {ng : Nat} {zg : Nat → Int} {nc : Nat} {zc : Nat → Int} {nm : Nat} {zm : Nat → Int} {m s r msg d : Int} : spOk need many ng zg nc zc nm zm m s r msg d = true ↔ gaF need many ng zg nc zc nm zm m = true ∧ fok s = true ∧ fok d = true ∧ gok r = true ∧ mok msg = true := by simp [spOk]
theorem sp_not {need many : Int} {ng : Nat} {zg : Nat → Int} {nc : Nat} {zc : Nat → Int} {nm : Nat} {zm : Nat → Int} {m s r msg d : Int} (h : ¬ (gaF need many ng zg nc zc nm zm m = true ∧ fok s = true ∧ fok d = true ∧ gok r = true ∧ mok msg = true)) : spOk need many ng zg nc zc nm zm m s r msg d = false := by
  cases hh : spOk need many ng zg nc zc nm zm m s r msg d with
  | false => rfl
  | true => exact absurd (sp_iff.1 hh) h
def spZ (need many : Int) (ng : Nat) (zg : Nat → Int) (nc : Nat) (zc : Nat → Int) (nm : Nat) (zm : Nat → Int) (m s r msg d : Int) : Int := if spOk need many ng zg nc zc nm zm m s r msg d then sumF d (mulF (gW zc nm zm m r msg) s) else 0
def spV (need many : Int) (ng : Nat) (zg : Nat → Int) (nc : Nat) (zc : Nat → Int) (nm : Nat) (zm : Nat → Int) (m s r msg d : Int) : Value := .tuple #[.int .i64 (spZ need many ng zg nc zc nm zm m s r msg d), .bool (spOk need many ng zg nc zc nm zm m s r msg d)]
theorem spV_no {need many : Int} {ng : Nat} {zg : Nat → Int} {nc : Nat} {zc : Nat → Int} {nm : Nat} {zm : Nat → Int} {m s r msg d : Int} (h : spOk need many ng zg nc zc nm zm m s r msg d = false) : spV need many ng zg nc zc nm zm m s r msg d = .tuple #[.int .i64 0, .bool false] := by unfold spV spZ; rw [h]; rfl
theorem spV_yes {need many : Int} {ng : Nat} {zg : Nat → Int} {nc : Nat} {zc : Nat → Int} {nm : Nat} {zm : Nat → Int} {m s r msg d : Int} (h : spOk need many ng zg nc zc nm zm m s r msg d = true) : spV need many ng zg nc zc nm zm m s r msg d = .tuple #[.int .i64 (sumF d (mulF (gW zc nm zm m r msg) s)), .bool true] := by unfold spV spZ; rw [h]; rfl
/-- Is it the member's part? -/
def sfOk (need many : Int) (ng : Nat) (zg : Nat → Int) (nc : Nat) (zc : Nat → Int) (nm : Nat) (zm : Nat → Int) (m sh r msg z : Int) : Bool := gaF need many ng zg nc zc nm zm m && (gok sh && (gok r && (mok msg && fok z)))
theorem sf_iff {need many : Int} {ng : Nat} {zg : Nat → Int} {nc : Nat} {zc : Nat → Int} {nm : Nat} {zm : Nat → Int} {m sh r msg z : Int} : sfOk need many ng zg nc zc nm zm m sh r msg z = true ↔ gaF need many ng zg nc zc nm zm m = true ∧ gok sh = true ∧ gok r = true ∧ mok msg = true ∧ fok z = true := by simp [sfOk]
def sfF (need many : Int) (ng : Nat) (zg : Nat → Int) (nc : Nat) (zc : Nat → Int) (nm : Nat) (zm : Nat → Int) (m sh r msg z : Int) : Bool := sfOk need many ng zg nc zc nm zm m sh r msg z && (gofF z == gmulF sh (gpowF (catz nc zc m) (gW zc nm zm m r msg)))
theorem sfF_no {need many : Int} {ng : Nat} {zg : Nat → Int} {nc : Nat} {zc : Nat → Int} {nm : Nat} {zm : Nat → Int} {m sh r msg z : Int} (h : ¬ (gaF need many ng zg nc zc nm zm m = true ∧ gok sh = true ∧ gok r = true ∧ mok msg = true ∧ fok z = true)) : sfF need many ng zg nc zc nm zm m sh r msg z = false := by
  cases hh : sfOk need many ng zg nc zc nm zm m sh r msg z with
  | false => simp [sfF, hh]
  | true => exact absurd (sf_iff.1 hh) h
theorem sfF_yes {need many : Int} {ng : Nat} {zg : Nat → Int} {nc : Nat} {zc : Nat → Int} {nm : Nat} {zm : Nat → Int} {m sh r msg z : Int} (h : gaF need many ng zg nc zc nm zm m = true ∧ gok sh = true ∧ gok r = true ∧ mok msg = true ∧ fok z = true) : sfF need many ng zg nc zc nm zm m sh r msg z = (gofF z == gmulF sh (gpowF (catz nc zc m) (gW zc nm zm m r msg))) := by
  unfold sfF; rw [sf_iff.2 h]; rfl
end Con
end Go.Proofs.Ythbigmcklacbnaa
