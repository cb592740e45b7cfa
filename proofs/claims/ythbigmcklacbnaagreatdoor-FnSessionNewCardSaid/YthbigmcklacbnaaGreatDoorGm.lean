/-
  Signatures: what a part is, and the program's SignPart and SignFits.
-/
import Derived.Test.YthbigmcklacbnaaGreatDoorGl
namespace Go.Proofs.YthbigmcklacbnaaGreatDoor
namespace Con
open Go.RowKit Alg Mem Draw
set_option linter.unusedVariables false

theorem giweight (w : World) (need many : Int) (ag : Option Addr) (ng cg : Nat) (zg : Nat → Int) (ac : Option Addr) (nc cc : Nat) (zc : Nat → Int) (am : Option Addr) (nm cm : Nat) (zm : Nat → Int) (i : Nat) (hG : Ints w ag ng zg) (hC : Ints w ac nc zc) (hM : Ints w am nm zm) (hl1 : ng ≤ 2000000) (hl2 : nc ≤ 2000000) (hi : i < nm) (hp : plok nm zm = true) (hc : nm ≤ cm) (hm : cm ≤ maxLen) (r msg : Int) :
    Calls Tryz.prog 91 #[gp1 need many ag ng cg ac nc cc am nm cm i, .int .i64 r, .int .i64 msg] w fun e w' => e = .returned (.int .i64 (mulF (zline nm zm 0 i) (hF r (kpub need many ng zg nc zc) msg))) ∧ w.grownBy w' none := by
  have G := Lib.hid (Draw.grown_refl w none)
  have HG := Lib.hid hG; have HC := Lib.hid hC; have HM := Lib.hid hM
  clear hG hC hM
  go_enter Tryz.func91, Tryz.ntmps91
  go_wp2_with fail
  refine (gpcoef _ need many _ ng _ zg _ nc _ zc _ nm _ zm i HM.out hi hp hc hm).mono ?_
  rintro e w1 ⟨rfl, hg⟩
  replace G := Lib.hid (gtr G.out hg)
  replace HG := Lib.hid (HG.out.kept hg)
  replace HC := Lib.hid (HC.out.kept hg)
  replace HM := Lib.hid (HM.out.kept hg)
  clear hg
  unfold gp1 gpV
  go_wp2_with fail
  refine (gppub _ need many _ ng _ zg _ nc _ zc _ nm _ zm i HG.out HC.out HM.out hl1 hl2).mono ?_
  rintro e w2 ⟨rfl, hg⟩
  replace G := Lib.hid (gtr G.out hg)
  replace HG := Lib.hid (HG.out.kept hg)
  replace HC := Lib.hid (HC.out.kept hg)
  replace HM := Lib.hid (HM.out.kept hg)
  clear hg
  go_wp2_with fail
  refine (ihash _ r _ msg).mono ?_
  rintro e w3 ⟨rfl, hg⟩
  replace G := Lib.hid (gtr G.out hg)
  replace HG := Lib.hid (HG.out.kept hg)
  replace HC := Lib.hid (HC.out.kept hg)
  replace HM := Lib.hid (HM.out.kept hg)
  clear hg
  go_wp2_with fail
  refine (imul _ _ _).mono ?_
  rintro e w' ⟨rfl, rfl⟩
  go_wp2
  go_ret
  exact ⟨rfl, G.out⟩
theorem gifits (w : World) (need many : Int) (ag : Option Addr) (ng cg : Nat) (zg : Nat → Int) (ac : Option Addr) (nc cc : Nat) (zc : Nat → Int) (am : Option Addr) (nm cm : Nat) (zm : Nat → Int) (i : Nat) (hG : Ints w ag ng zg) (hC : Ints w ac nc zc) (hM : Ints w am nm zm) (hl1 : ng ≤ 2000000) (hl2 : nc ≤ 2000000) (hi : i < nm) (hp : plok nm zm = true) (hc : nm ≤ cm) (hm : cm ≤ maxLen) (sh r msg z : Int) :
    Calls Tryz.prog 73 #[gp1 need many ag ng cg ac nc cc am nm cm i, .int .i64 sh, .int .i64 r, .int .i64 msg, .int .i64 z] w fun e w' => e = .returned (.bool (gofF z == gmulF sh (gpowF (catz nc zc (zm i)) (mulF (zline nm zm 0 i) (hF r (kpub need many ng zg nc zc) msg))))) ∧ w.grownBy w' none := by
  have G := Lib.hid (Draw.grown_refl w none)
  have HG := Lib.hid hG; have HC := Lib.hid hC; have HM := Lib.hid hM
  clear hG hC hM
  go_enter Tryz.func73, Tryz.ntmps73
  go_wp2_with fail
  refine (igof z _).mono ?_
  rintro e w1 ⟨rfl, hg⟩
  replace G := Lib.hid (gtr G.out hg)
  replace HG := Lib.hid (HG.out.kept hg)
  replace HC := Lib.hid (HC.out.kept hg)
  replace HM := Lib.hid (HM.out.kept hg)
  clear hg
  unfold gp1 gpV
  go_wp2_with fail
  refine (gpcom _ need many _ ng _ zg _ nc _ zc _ nm _ zm i HG.out HC.out HM.out hl1 hl2 hi).mono ?_
  rintro e w2 ⟨rfl, hg⟩
  replace G := Lib.hid (gtr G.out hg)
  replace HG := Lib.hid (HG.out.kept hg)
  replace HC := Lib.hid (HC.out.kept hg)
  replace HM := Lib.hid (HM.out.kept hg)
  clear hg
  go_wp2_with fail
  refine (giweight _ need many _ ng _ zg _ nc _ zc _ nm _ zm i HG.out HC.out HM.out hl1 hl2 hi hp hc hm r msg).mono ?_
  rintro e w3 ⟨rfl, hg⟩
  replace G := Lib.hid (gtr G.out hg)
  replace HG := Lib.hid (HG.out.kept hg)
  replace HC := Lib.hid (HC.out.kept hg)
  replace HM := Lib.hid (HM.out.kept hg)
  clear hg
  go_wp2_with fail
  refine (igpow _ _ _).mono ?_
  rintro e w4 ⟨rfl, hg⟩
  replace G := Lib.hid (gtr G.out hg)
  replace HG := Lib.hid (HG.out.kept hg)
  replace HC := Lib.hid (HC.out.kept hg)
  replace HM := Lib.hid (HM.out.kept hg)
  clear hg
  go_wp2_with fail
  refine (igmul sh _ _).mono ?_
  rintro e w5 ⟨rfl, hg⟩
  replace G := Lib.hid (gtr G.out hg)
  replace HG := Lib.hid (HG.out.kept hg)
  replace HC := Lib.hid (HC.out.kept hg)
  replace HM := Lib.hid (HM.out.kept hg)
  clear hg
  go_wp2
  go_ret
  exact ⟨rfl, G.out⟩

/-- Do they sign with the key, the member among them? -/
def gaF (need many : Int) (ng : Nat) (zg : Nat → Int) (nc : Nat) (zc : Nat → Int) (nm : Nat) (zm : Nat → Int) (m : Int) : Bool := kyF need many ng zg nc zc && (crw need many nm zm && hasz zm m nm)
theorem ga_iff {need many : Int} {ng : Nat} {zg : Nat → Int} {nc : Nat} {zc : Nat → Int} {nm : Nat} {zm : Nat → Int} {m : Int} : gaF need many ng zg nc zc nm zm m = true ↔ kyF need many ng zg nc zc = true ∧ crw need many nm zm = true ∧ hasz zm m nm = true := by simp [gaF]
theorem ga_not {need many : Int} {ng : Nat} {zg : Nat → Int} {nc : Nat} {zc : Nat → Int} {nm : Nat} {zm : Nat → Int} {m : Int} (h : ¬ (kyF need many ng zg nc zc = true ∧ crw need many nm zm = true ∧ hasz zm m nm = true)) : gaF need many ng zg nc zc nm zm m = false := by
  cases hh : gaF need many ng zg nc zc nm zm m with
  | false => rfl
  | true => exact absurd (ga_iff.1 hh) h
def gaV (need many : Int) (ag : Option Addr) (ng cg : Nat) (zg : Nat → Int) (ac : Option Addr) (nc cc : Nat) (zc : Nat → Int) (am : Option Addr) (nm cm : Nat) (zm : Nat → Int) (m : Int) : Value :=
  .tuple #[if gaF need many ng zg nc zc nm zm m then gpV need many ag ng cg ac nc cc am nm cm (posz zm m nm) else .agg #[.int .i64 0, .int .i64 0, .slice none 0 0, .slice none 0 0, .slice none 0 0, .int .i64 0], .bool (gaF need many ng zg nc zc nm zm m)]
theorem gaV_no {need many : Int} {ag : Option Addr} {ng cg : Nat} {zg : Nat → Int} {ac : Option Addr} {nc cc : Nat} {zc : Nat → Int} {am : Option Addr} {nm cm : Nat} {zm : Nat → Int} {m : Int} (h : gaF need many ng zg nc zc nm zm m = false) : gaV need many ag ng cg zg ac nc cc zc am nm cm zm m = .tuple #[.agg #[.int .i64 0, .int .i64 0, .slice none 0 0, .slice none 0 0, .slice none 0 0, .int .i64 0], .bool false] := by unfold gaV; rw [h]; rfl
theorem gaV_yes {need many : Int} {ag : Option Addr} {ng cg : Nat} {zg : Nat → Int} {ac : Option Addr} {nc cc : Nat} {zc : Nat → Int} {am : Option Addr} {nm cm : Nat} {zm : Nat → Int} {m : Int} (h : gaF need many ng zg nc zc nm zm m = true) : gaV need many ag ng cg zg ac nc cc zc am nm cm zm m = .tuple #[gpV need many ag ng cg ac nc cc am nm cm (posz zm m nm), .bool true] := by unfold gaV; rw [h]; rfl
theorem size_group : (Tryz.prog.info? 118).map (·.size) = some 6 := by kernel_rfl
theorem ret_gb {fn : Func} {p u : Tmp} (h : fn.results = #[.cell p 118, .tmp u]) (tmps : Array Value) {w : World} {b : Nat} {v0 v1 v2 v3 v4 v5 : Value} {T : TypeId} (hp : tmps.getD p undef = .pointer (some ⟨b, 0, none⟩)) (hb : Blk w b #[v0, v1, v2, v3, v4, v5] T) :
    (results fn tmps).run Tryz.prog w = .ok (.tuple #[.agg #[v0, v1, v2, v3, v4, v5], tmps.getD u undef]) w := by
  have hp' : tmps[p]?.getD undef = .pointer (some ⟨b, 0, none⟩) := by simpa using hp
  simp [results, h, hp', asAddr, run_loadVar_row w b T 118 #[v0, v1, v2, v3, v4, v5] (0, 0) _ hb Tryz.underlying118 rfl size_group, Result.andThen]
set_option maxRecDepth 100000 in
set_option maxHeartbeats 2000000 in
theorem igaround (w : World) (need many : Int) (ag : Option Addr) (ng cg : Nat) (zg : Nat → Int) (ac : Option Addr) (nc cc : Nat) (zc : Nat → Int) (am : Option Addr) (nm cm : Nat) (zm : Nat → Int) (m : Int) (hG : Ints w ag ng zg) (hC : Ints w ac nc zc) (hM : Ints w am nm zm) (hl1 : ng ≤ 2000000) (hl2 : nc ≤ 2000000) (hl3 : nm ≤ 2000000) :
    Calls Tryz.prog 72 #[.agg #[.int .i64 need, .int .i64 many, .slice ag ng cg, .slice ac nc cc], .slice am nm cm, .int .i64 m] w fun e w' => e = .returned (gaV need many ag ng cg zg ac nc cc zc am nm cm zm m) ∧ w.grownBy w' none := by
  have G := Lib.hid (gtr (Draw.grown_alloc w (.cells #[.int .i64 need, .int .i64 many, .slice ag ng cg, .slice ac nc cc] 25) none) (Draw.grown_alloc _ (.cells #[.int .i64 0, .int .i64 0, .slice none 0 0, .slice none 0 0, .slice none 0 0, .int .i64 0] 118) none))
  have K := Lib.hid ((Ky.new w need many (.slice ag ng cg) (.slice ac nc cc) 25).kept (Draw.grown_alloc _ (.cells #[.int .i64 0, .int .i64 0, .slice none 0 0, .slice none 0 0, .slice none 0 0, .int .i64 0] 118) none))
  have R := Lib.hid (blk_new2 w (.cells #[.int .i64 need, .int .i64 many, .slice ag ng cg, .slice ac nc cc] 25) #[.int .i64 0, .int .i64 0, .slice none 0 0, .slice none 0 0, .slice none 0 0, .int .i64 0] 118)
  have HG := Lib.hid (hG.kept G.out); have HC := Lib.hid (hC.kept G.out); have HM := Lib.hid (hM.kept G.out)
  clear hG hC hM
  go_enter Tryz.func72, Tryz.ntmps72
  obtain ⟨_, k0, k1, k2, k3⟩ := K.out
  go_wp2_with fail
  refine (index_at _ am nm cm zm m HM.out hl3).mono ?_
  rintro e w' ⟨rfl, rfl⟩
  go_wp2_with fail
  refine (ikeyok _ need many _ ng _ zg _ nc _ zc HG.out HC.out hl1 hl2).mono ?_
  rintro e w1 ⟨rfl, hg⟩
  clear k0 k1 k2 k3
  replace G := Lib.hid (gtr G.out hg)
  replace K := Lib.hid (K.out.kept hg)
  replace R := Lib.hid (R.out.keptN hg)
  replace HG := Lib.hid (HG.out.kept hg)
  replace HC := Lib.hid (HC.out.kept hg)
  replace HM := Lib.hid (HM.out.kept hg)
  clear hg
  obtain ⟨_, k0, k1, k2, k3⟩ := K.out
  cases h1 : kyF need many ng zg nc zc with
  | false =>
    have HN := Lib.hid (ga_not (need := need) (many := many) (ng := ng) (zg := zg) (nc := nc) (zc := zc) (nm := nm) (zm := zm) (m := m) (by simp [h1]))
    have hlt := K.out.lt
    clear hlt
    go_wp2_with (first
      | (refine wpList_store_blk rfl 118 (.tmp 6) (.tmp 25) _ _ _ 118 R.out rfl rfl rfl rfl (by kernel_rfl) (by simp [Value.oneCell']) rfl ?_; intro V hgV hRV; have HGV := Lib.hid hgV; have HRV := Lib.hid hRV; clear hgV hRV))
    (try simp only [Exit.inBlock, Exit.then])
    refine bodyPost_ret (ret_gb rfl _ rfl HRV.out) rfl ?_
    exact ⟨by rw [gaV_no HN.out]; rfl, grown_new G.out (by omega) HGV.out⟩
  | true =>
    go_wp2_with fail
    refine (isigners _ need many _ _ am nm cm zm HM.out hl3).mono ?_
    rintro e w2 ⟨rfl, hg⟩
    clear k0 k1 k2 k3
    replace G := Lib.hid (gtr G.out hg)
    replace K := Lib.hid (K.out.kept hg)
    replace R := Lib.hid (R.out.keptN hg)
    replace HG := Lib.hid (HG.out.kept hg)
    replace HC := Lib.hid (HC.out.kept hg)
    replace HM := Lib.hid (HM.out.kept hg)
    clear hg
    obtain ⟨_, k0, k1, k2, k3⟩ := K.out
    cases h2 : crw need many nm zm with
    | false =>
      have HN := Lib.hid (ga_not (need := need) (many := many) (ng := ng) (zg := zg) (nc := nc) (zc := zc) (nm := nm) (zm := zm) (m := m) (by simp [h2]))
      have hlt := K.out.lt
      clear hlt
      go_wp2_with (first
        | (refine wpList_store_blk rfl 118 (.tmp 6) (.tmp 25) _ _ _ 118 R.out rfl rfl rfl rfl (by kernel_rfl) (by simp [Value.oneCell']) rfl ?_; intro V hgV hRV; have HGV := Lib.hid hgV; have HRV := Lib.hid hRV; clear hgV hRV))
      (try simp only [Exit.inBlock, Exit.then])
      refine bodyPost_ret (ret_gb rfl _ rfl HRV.out) rfl ?_
      exact ⟨by rw [gaV_no HN.out]; rfl, grown_new G.out (by omega) HGV.out⟩
    | true =>
      cases h3 : hasz zm m nm with
      | false =>
        have HN := Lib.hid (ga_not (need := need) (many := many) (ng := ng) (zg := zg) (nc := nc) (zc := zc) (nm := nm) (zm := zm) (m := m) (by simp [h3]))
        rw [idx_no h3]
        have hlt := K.out.lt
        clear hlt
        go_wp2_with (first
          | (refine wpList_store_blk rfl 118 (.tmp 6) (.tmp 25) _ _ _ 118 R.out rfl rfl rfl rfl (by kernel_rfl) (by simp [Value.oneCell']) rfl ?_; intro V hgV hRV; have HGV := Lib.hid hgV; have HRV := Lib.hid hRV; clear hgV hRV))
        (try simp only [Exit.inBlock, Exit.then])
        refine bodyPost_ret (ret_gb rfl _ rfl HRV.out) rfl ?_
        exact ⟨by rw [gaV_no HN.out]; rfl, grown_new G.out (by omega) HGV.out⟩
      | true =>
        have HN := Lib.hid (ga_iff.2 ⟨h1, h2, h3⟩)
        rw [idx_yes h3]
        have hnn : ¬ ((posz zm m nm : Nat) : Int) < 0 := by omega
        have hlt := K.out.lt
        clear hlt
        go_wp2_with (first
          | (refine wpList_store_blk rfl 118 (.tmp 6) (.tmp 29) _ _ _ 118 R.out rfl rfl rfl rfl (by kernel_rfl) (by simp [Value.oneCell']) rfl ?_; intro V hgV hRV; have HGV := Lib.hid hgV; have HRV := Lib.hid hRV; clear hgV hRV))
        (try simp only [Exit.inBlock, Exit.then])
        refine bodyPost_ret (ret_gb rfl _ rfl HRV.out) rfl ?_
        exact ⟨by rw [gaV_yes HN.out]; rfl, grown_new G.out (by omega) HGV.out⟩
end Con
end Go.Proofs.YthbigmcklacbnaaGreatDoor
