/-
  Signatures: what a part is, and the program's SignPart and SignFits.
-/
import Derived.Test.YthbigmcklacbnaaGreatDoorGm
namespace Go.Proofs.YthbigmcklacbnaaGreatDoor
namespace Con
open Go.RowKit Alg Mem Draw
set_option linter.unusedVariables false


/-- How often a signer's share is taken. -/
def gW (zc : Nat → Int) (nm : Nat) (zm : Nat → Int) (m r msg : Int) : Int := mulF (zline nm zm 0 (posz zm m nm)) (hz r (zc 0) msg)
theorem gW_ok (zc : Nat → Int) (nm : Nat) (zm : Nat → Int) (m r msg : Int) : fok (gW zc nm zm m r msg) = true := mulF_ok _ _
theorem ga_facts {need many : Int} {ng : Nat} {zg : Nat → Int} {nc : Nat} {zc : Nat → Int} {nm : Nat} {zm : Nat → Int} {m : Int} (h : gaF need many ng zg nc zc nm zm m = true) : need ≤ many ∧ 1 ≤ need ∧ many ≤ 5 ∧ cokz nc zc = true ∧ nm ≤ 5 ∧ need ≤ (nm : Int) ∧ plok nm zm = true ∧ posz zm m nm < nm ∧ zm (posz zm m nm) = m ∧ mbF many m = true ∧ gok (zc 0) = true ∧ 1 ≤ nc := by
  obtain ⟨h1, h2, h3⟩ := ga_iff.1 h
  obtain ⟨⟨k1, k2, k3⟩, k4, k5, k6, k7⟩ := ky_iff.1 h1
  obtain ⟨c1, c2, c3⟩ := crw_iff.1 h2
  obtain ⟨p1, p2⟩ := pos_lt h3
  have hck := cokz_iff.1 k5
  exact ⟨k2, k1, k3, k5, cr_len k3 c2 c3, c1, cr_plok k3 c2 c3, p1, p2, by rw [← p2]; exact mbz_iff.1 c3 _ p1, hck.2.2 0 (by omega), by omega⟩
theorem ga_pub {need many : Int} {ng : Nat} {zg : Nat → Int} {nc : Nat} {zc : Nat → Int} {nm : Nat} {zm : Nat → Int} {m : Int} (h : gaF need many ng zg nc zc nm zm m = true) : kpub need many ng zg nc zc = zc 0 := kpub_yes (ga_iff.1 h).1
theorem ga_w {need many : Int} {ng : Nat} {zg : Nat → Int} {nc : Nat} {zc : Nat → Int} {nm : Nat} {zm : Nat → Int} {m : Int} {r msg : Int} (h : gaF need many ng zg nc zc nm zm m = true) (h1 : gok r = true) (h2 : mok msg = true) : mulF (zline nm zm 0 (posz zm m nm)) (hF r (kpub need many ng zg nc zc) msg) = gW zc nm zm m r msg := by
  rw [ga_pub h, hF_in h1 (ga_facts h).2.2.2.2.2.2.2.2.2.2.1 h2]; rfl
/-- May one sign its part? -/
def spOk (need many : Int) (ng : Nat) (zg : Nat → Int) (nc : Nat) (zc : Nat → Int) (nm : Nat) (zm : Nat → Int) (m s r msg d : Int) : Bool := gaF need many ng zg nc zc nm zm m && (fok s && (fok d && (gok r && mok msg)))
theorem sp_iff {need many : Int} {ng : Nat} {zg : Nat → Int} {nc : Nat} {zc : Nat → Int} {nm : Nat} {zm : Nat → Int} {m s r msg d : Int} : spOk need many ng zg nc zc nm zm m s r msg d = true ↔ gaF need many ng zg nc zc nm zm m = true ∧ fok s = true ∧ fok d = true ∧ gok r = true ∧ mok msg = true := by simp [spOk]
theorem sp_not {need many : Int} {ng : Nat} {zg : Nat → Int} {nc : Nat} {zc : Nat → Int} {nm : Nat} {zm : Nat → Int} {m s r msg d : Int} (h : ¬ (gaF need many ng zg nc zc nm zm m = true ∧ fok s = true ∧ fok d = true ∧ gok r = true ∧ mok msg = true)) : spOk need many ng zg nc zc nm zm m s r msg d = false := by
  cases hh : spOk need many ng zg nc zc nm zm m s r msg d with
  | false => rfl
  | true => exact absurd (sp_iff.1 hh) h
def spZ (need many : Int) (ng : Nat) (zg : Nat → Int) (nc : Nat) (zc : Nat → Int) (nm : Nat) (zm : Nat → Int) (m s r msg d : Int) : Int := if spOk need many ng zg nc zc nm zm m s r msg d then sumF d (mulF (gW zc nm zm m r msg) s) else 0
def spV (need many : Int) (ng : Nat) (zg : Nat → Int) (nc : Nat) (zc : Nat → Int) (nm : Nat) (zm : Nat → Int) (m s r msg d : Int) : Value := .tuple #[.int .i64 (spZ need many ng zg nc zc nm zm m s r msg d), .bool (spOk need many ng zg nc zc nm zm m s r msg d)]
theorem spV_no {need many : Int} {ng : Nat} {zg : Nat → Int} {nc : Nat} {zc : Nat → Int} {nm : Nat} {zm : Nat → Int} {m s r msg d : Int} (h : spOk need many ng zg nc zc nm zm m s r msg d = false) : spV need many ng zg nc zc nm zm m s r msg d = .tuple #[.int .i64 0, .bool false] := by unfold spV spZ; rw [h]; rfl
theorem spV_yes {need many : Int} {ng : Nat} {zg : Nat → Int} {nc : Nat} {zc : Nat → Int} {nm : Nat} {zm : Nat → Int} {m s r msg d : Int} (h : spOk need many ng zg nc zc nm zm m s r msg d = true) : spV need many ng zg nc zc nm zm m s r msg d = .tuple #[.int .i64 (sumF d (mulF (gW zc nm zm m r msg) s)), .bool true] := by unfold spV spZ; rw [h]; rfl
/-- Is it the member's part? -/
def sfOk (need many : Int) (ng : Nat) (zg : Nat → Int) (nc : Nat) (zc : Nat → Int) (nm : Nat) (zm : Nat → Int) (m sh r msg z : Int) : Bool := gaF need many ng zg nc zc nm zm m && (gok sh && (gok r && (mok msg && fok z)))
theorem sf_iff {need many : Int} {ng : Nat} {zg : Nat → Int} {nc : Nat} {zc : Nat → Int} {nm : Nat} {zm : Nat → Int} {m sh r msg z : Int} : sfOk need many ng zg nc zc nm zm m sh r msg z = true ↔ gaF need many ng zg nc zc nm zm m = true ∧ gok sh = true ∧ gok r = true ∧ mok msg = true ∧ fok z = true := by simp [sfOk]
def sfF (need many : Int) (ng : Nat) (zg : Nat → Int) (nc : Nat) (zc : Nat → Int) (nm : Nat) (zm : Nat → Int) (m sh r msg z : Int) : Bool := sfOk need many ng zg nc zc nm zm m sh r msg z && (gofF z == gmulF sh (gpowF (catz nc zc m) (gW zc nm zm m r msg)))
theorem sfF_no {need many : Int} {ng : Nat} {zg : Nat → Int} {nc : Nat} {zc : Nat → Int} {nm : Nat} {zm : Nat → Int} {m sh r msg z : Int} (h : ¬ (gaF need many ng zg nc zc nm zm m = true ∧ gok sh = true ∧ gok r = true ∧ mok msg = true ∧ fok z = true)) : sfF need many ng zg nc zc nm zm m sh r msg z = false := by
  cases hh : sfOk need many ng zg nc zc nm zm m sh r msg z with
  | false => simp [sfF, hh]
  | true => exact absurd (sf_iff.1 hh) h
theorem sfF_yes {need many : Int} {ng : Nat} {zg : Nat → Int} {nc : Nat} {zc : Nat → Int} {nm : Nat} {zm : Nat → Int} {m sh r msg z : Int} (h : gaF need many ng zg nc zc nm zm m = true ∧ gok sh = true ∧ gok r = true ∧ mok msg = true ∧ fok z = true) : sfF need many ng zg nc zc nm zm m sh r msg z = (gofF z == gmulF sh (gpowF (catz nc zc m) (gW zc nm zm m r msg))) := by
  unfold sfF; rw [sf_iff.2 h]; rfl
set_option maxRecDepth 100000 in
set_option maxHeartbeats 4000000 in
theorem ifits (w : World) (need many : Int) (ag : Option Addr) (ng cg : Nat) (zg : Nat → Int) (ac : Option Addr) (nc cc : Nat) (zc : Nat → Int) (am : Option Addr) (nm cm : Nat) (zm : Nat → Int) (m sh r msg z : Int) (hG : Ints w ag ng zg) (hC : Ints w ac nc zc) (hM : Ints w am nm zm) (hl1 : ng ≤ 2000000) (hl2 : nc ≤ 2000000) (hl3 : nm ≤ 2000000) (hc : nm ≤ cm) (hm : cm ≤ maxLen) :
    Calls Tryz.prog 42 #[.agg #[.int .i64 need, .int .i64 many, .slice ag ng cg, .slice ac nc cc], .slice am nm cm, .int .i64 m, .int .i64 sh, .int .i64 r, .int .i64 msg, .int .i64 z] w fun e w' => e = .returned (.bool (sfF need many ng zg nc zc nm zm m sh r msg z)) ∧ w.grownBy w' none := by
  have G := Lib.hid (Draw.grown_alloc w (.cells #[.int .i64 need, .int .i64 many, .slice ag ng cg, .slice ac nc cc] 25) none)
  have K := Lib.hid (Ky.new w need many (.slice ag ng cg) (.slice ac nc cc) 25)
  have HG := Lib.hid (hG.kept G.out); have HC := Lib.hid (hC.kept G.out); have HM := Lib.hid (hM.kept G.out)
  clear hG hC hM
  go_enter Tryz.func42, Tryz.ntmps42
  obtain ⟨_, k0, k1, k2, k3⟩ := K.out
  go_wp2_with fail
  refine (igaround _ need many _ ng _ zg _ nc _ zc _ nm _ zm m HG.out HC.out HM.out hl1 hl2 hl3).mono ?_
  rintro e w1 ⟨rfl, hg⟩
  clear k0 k1 k2 k3
  replace G := Lib.hid (gtr G.out hg)
  replace K := Lib.hid (K.out.kept hg)
  replace HG := Lib.hid (HG.out.kept hg)
  replace HC := Lib.hid (HC.out.kept hg)
  replace HM := Lib.hid (HM.out.kept hg)
  clear hg
  obtain ⟨_, k0, k1, k2, k3⟩ := K.out
  cases h1 : gaF need many ng zg nc zc nm zm m with
  | false =>
    have HN := Lib.hid (sfF_no (sh := sh) (r := r) (msg := msg) (z := z) (need := need) (many := many) (ng := ng) (zg := zg) (nc := nc) (zc := zc) (nm := nm) (zm := zm) (m := m) (by simp [h1]))
    rw [gaV_no h1]
    go_wp2_with (refine stop_store rfl ?_)
    refine ⟨trivial, ?_⟩
    refine wpList_store_blk rfl 118 (.tmp 15) (.tmp 22) _ #[.int .i64 0, .int .i64 0, .slice none 0 0, .slice none 0 0, .slice none 0 0, .int .i64 0] _ 118 (Blk.new w1 #[.int .i64 0, .int .i64 0, .slice none 0 0, .slice none 0 0, .slice none 0 0, .int .i64 0] 118) rfl rfl rfl rfl (by kernel_rfl) (by simp [Value.oneCell']) rfl ?_
    intro V hgV hTV
    have hg : w1.grownBy V none := grown_new (grown_alloc w1 (.cells #[.int .i64 0, .int .i64 0, .slice none 0 0, .slice none 0 0, .slice none 0 0, .int .i64 0] 118) none) (Nat.le_refl _) hgV
    have T := Lib.hid hTV
    clear hgV hTV
    clear k0 k1 k2 k3
    replace G := Lib.hid (gtr G.out hg)
    replace K := Lib.hid (K.out.kept hg)
    replace HG := Lib.hid (HG.out.kept hg)
    replace HC := Lib.hid (HC.out.kept hg)
    replace HM := Lib.hid (HM.out.kept hg)
    clear hg
    obtain ⟨_, k0, k1, k2, k3⟩ := K.out
    go_wp2
    go_ret
    exact ⟨ret_b HN.out.symm, G.out⟩
  | true =>
    rw [gaV_yes h1]
    unfold gpV
    go_wp2_with (refine stop_store rfl ?_)
    refine ⟨trivial, ?_⟩
    refine wpList_store_blk rfl 118 (.tmp 15) (.tmp 22) _ #[.int .i64 need, .int .i64 many, .slice ag ng cg, .slice ac nc cc, .slice am nm cm, .int .i64 ((posz zm m nm : Nat) : Int)] _ 118 (Blk.new w1 #[.int .i64 0, .int .i64 0, .slice none 0 0, .slice none 0 0, .slice none 0 0, .int .i64 0] 118) rfl rfl rfl rfl (by kernel_rfl) (by simp [Value.oneCell']) rfl ?_
    intro V hgV hTV
    have hg : w1.grownBy V none := grown_new (grown_alloc w1 (.cells #[.int .i64 0, .int .i64 0, .slice none 0 0, .slice none 0 0, .slice none 0 0, .int .i64 0] 118) none) (Nat.le_refl _) hgV
    have T := Lib.hid hTV
    clear hgV hTV
    clear k0 k1 k2 k3
    replace G := Lib.hid (gtr G.out hg)
    replace K := Lib.hid (K.out.kept hg)
    replace HG := Lib.hid (HG.out.kept hg)
    replace HC := Lib.hid (HC.out.kept hg)
    replace HM := Lib.hid (HM.out.kept hg)
    clear hg
    obtain ⟨_, k0, k1, k2, k3⟩ := K.out
    obtain ⟨_, _, _, hcc, hn5, _, hpl, hpi, hpm, _, hgz, _⟩ := ga_facts h1
    have HGA := Lib.hid h1; have HPL := Lib.hid hpl; have HPI := Lib.hid hpi; have HPM := Lib.hid hpm
    clear hcc hpl hpi hpm hgz
    rcases gokc sh with h2 | h2
    case inr =>
      have HN := Lib.hid (sfF_no (sh := sh) (r := r) (msg := msg) (z := z) (need := need) (many := many) (ng := ng) (zg := zg) (nc := nc) (zc := zc) (nm := nm) (zm := zm) (m := m) (by simp [h2]))
      go_wp2_with fail
      refine (igok_no _ _ h2).mono ?_
      rintro e w2 ⟨rfl, hg⟩
      clear k0 k1 k2 k3
      replace G := Lib.hid (gtr G.out hg)
      replace K := Lib.hid (K.out.kept hg)
      replace HG := Lib.hid (HG.out.kept hg)
      replace HC := Lib.hid (HC.out.kept hg)
      replace HM := Lib.hid (HM.out.kept hg)
      replace T := Lib.hid (T.out.keptN hg)
      clear hg
      obtain ⟨_, k0, k1, k2, k3⟩ := K.out
      go_wp2
      go_ret
      exact ⟨ret_b HN.out.symm, G.out⟩
    go_wp2_with fail
    refine (igok_yes _ _ h2).mono ?_
    rintro e w2 ⟨rfl, hg⟩
    clear k0 k1 k2 k3
    replace G := Lib.hid (gtr G.out hg)
    replace K := Lib.hid (K.out.kept hg)
    replace HG := Lib.hid (HG.out.kept hg)
    replace HC := Lib.hid (HC.out.kept hg)
    replace HM := Lib.hid (HM.out.kept hg)
    replace T := Lib.hid (T.out.keptN hg)
    clear hg
    obtain ⟨_, k0, k1, k2, k3⟩ := K.out
    rcases gokc r with h4 | h4
    case inr =>
      have HN := Lib.hid (sfF_no (sh := sh) (r := r) (msg := msg) (z := z) (need := need) (many := many) (ng := ng) (zg := zg) (nc := nc) (zc := zc) (nm := nm) (zm := zm) (m := m) (by simp [h4]))
      go_wp2_with fail
      refine (igok_no _ _ h4).mono ?_
      rintro e w3 ⟨rfl, hg⟩
      clear k0 k1 k2 k3
      replace G := Lib.hid (gtr G.out hg)
      replace K := Lib.hid (K.out.kept hg)
      replace HG := Lib.hid (HG.out.kept hg)
      replace HC := Lib.hid (HC.out.kept hg)
      replace HM := Lib.hid (HM.out.kept hg)
      replace T := Lib.hid (T.out.keptN hg)
      clear hg
      obtain ⟨_, k0, k1, k2, k3⟩ := K.out
      go_wp2
      go_ret
      exact ⟨ret_b HN.out.symm, G.out⟩
    go_wp2_with fail
    refine (igok_yes _ _ h4).mono ?_
    rintro e w3 ⟨rfl, hg⟩
    clear k0 k1 k2 k3
    replace G := Lib.hid (gtr G.out hg)
    replace K := Lib.hid (K.out.kept hg)
    replace HG := Lib.hid (HG.out.kept hg)
    replace HC := Lib.hid (HC.out.kept hg)
    replace HM := Lib.hid (HM.out.kept hg)
    replace T := Lib.hid (T.out.keptN hg)
    clear hg
    obtain ⟨_, k0, k1, k2, k3⟩ := K.out
    rcases mok_cases msg with h5 | h5
    case inr =>
      have HN := Lib.hid (sfF_no (sh := sh) (r := r) (msg := msg) (z := z) (need := need) (many := many) (ng := ng) (zg := zg) (nc := nc) (zc := zc) (nm := nm) (zm := zm) (m := m) (by simp [h5]))
      go_wp2_with fail
      refine (imsg_no _ _ h5).mono ?_
      rintro e w' ⟨rfl, rfl⟩
      go_wp2
      go_ret
      exact ⟨ret_b HN.out.symm, G.out⟩
    go_wp2_with fail
    refine (imsg_yes _ _ h5).mono ?_
    rintro e w' ⟨rfl, rfl⟩
    rcases fokc z with h6 | h6
    case inr =>
      have HN := Lib.hid (sfF_no (sh := sh) (r := r) (msg := msg) (z := z) (need := need) (many := many) (ng := ng) (zg := zg) (nc := nc) (zc := zc) (nm := nm) (zm := zm) (m := m) (by simp [h6]))
      go_wp2_with fail
      refine (iok_no _ _ h6).mono ?_
      rintro e w' ⟨rfl, rfl⟩
      go_wp2
      go_ret
      exact ⟨ret_b HN.out.symm, G.out⟩
    go_wp2_with fail
    refine (iok_yes _ _ h6).mono ?_
    rintro e w' ⟨rfl, rfl⟩
    have HN := Lib.hid (sfF_yes ⟨h1, h2, h4, h5, h6⟩)
    have HW := Lib.hid (ga_w h1 h4 h5)
    have t0 : World.cell? _ ⟨w1.heap.size, 0, none⟩ = some (.int .i64 need) := T.out.cell 0
    have t1 : World.cell? _ ⟨w1.heap.size, 1, none⟩ = some (.int .i64 many) := T.out.cell 1
    have t2 : World.cell? _ ⟨w1.heap.size, 2, none⟩ = some (.slice ag ng cg) := T.out.cell 2
    have t3 : World.cell? _ ⟨w1.heap.size, 3, none⟩ = some (.slice ac nc cc) := T.out.cell 3
    have t4 : World.cell? _ ⟨w1.heap.size, 4, none⟩ = some (.slice am nm cm) := T.out.cell 4
    have t5 : World.cell? _ ⟨w1.heap.size, 5, none⟩ = some (.int .i64 ((posz zm m nm : Nat) : Int)) := T.out.cell 5
    go_wp2_with fail
    refine (gifits _ need many _ ng _ zg _ nc _ zc _ nm _ zm (posz zm m nm) HG.out HC.out HM.out hl1 hl2 HPI.out HPL.out hc hm sh r msg z).mono ?_
    rintro e w4 ⟨rfl, hg⟩
    clear k0 k1 k2 k3
    replace G := Lib.hid (gtr G.out hg)
    replace K := Lib.hid (K.out.kept hg)
    replace HG := Lib.hid (HG.out.kept hg)
    replace HC := Lib.hid (HC.out.kept hg)
    replace HM := Lib.hid (HM.out.kept hg)
    replace T := Lib.hid (T.out.keptN hg)
    clear hg
    obtain ⟨_, k0, k1, k2, k3⟩ := K.out
    rw [HW.out, HPM.out]
    go_wp2
    go_ret
    exact ⟨ret_b HN.out.symm, G.out⟩
end Con
end Go.Proofs.YthbigmcklacbnaaGreatDoor
