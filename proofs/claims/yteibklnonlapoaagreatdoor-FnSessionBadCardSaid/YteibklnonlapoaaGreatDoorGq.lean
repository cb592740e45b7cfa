/-
  Signatures: the model's SignPart and SignFits.
-/
import Derived.Test.YteibklnonlapoaaGreatDoorGn
import Derived.Test.YteibklnonlapoaaGreatDoorMp
namespace Go.Proofs.YteibklnonlapoaaGreatDoor
namespace Con
open Go.RowKit Alg Mem Draw
set_option linter.unusedVariables false

set_option maxHeartbeats 2000000 in
theorem s31crew (w : World) (need many : Int) (s1 s2 : Value) (a : Option Addr) (len cap : Nat) (z : Nat → Int) (hI : Ints w a len z) (hl : len ≤ 2000000) :
    Calls Tryz.prog 52 #[.agg #[.int .i64 need, .int .i64 many, s1, s2], .slice a len cap] w fun e w' => e = .returned (.bool (crw need many len z)) ∧ w.grownBy w' none := by
  have HG0 := Lib.hid (Draw.grown_alloc w (.cells #[.int .i64 need, .int .i64 many, s1, s2] 25) none)
  have HA := Lib.hid (hI.kept HG0.out); clear hI
  have HD := Lib.hid (Ky.new w need many s1 s2 25)
  go_enter Tryz.func52, Tryz.ntmps52
  go_wp2
  go_loopw [5] (fun i wr => ∃ k : Nat, k ≤ len ∧ i = .int .i64 k ∧ mbz many z k = true ∧ upz z k = true ∧ (w.alloc (.cells #[.int .i64 need, .int .i64 many, s1, s2] 25)).grownBy wr none) (fun i _ => len - (intOf i).toNat)
  case atStart => exact ⟨0, by omega, rfl, rfl, rfl, Draw.grown_refl _ _⟩
  case round =>
    obtain ⟨k, hk, rfl, hz, hu, hg⟩ := hrel
    have HZ := Lib.hid hz; have HU := Lib.hid hu; have HGr := Lib.hid hg; clear hz hu hg
    have HD1 := Lib.hid (HD.out.kept HGr.out)
    obtain ⟨_, k0, k1, k2, k3⟩ := HD1.out
    by_cases hlt : k < len
    · obtain ⟨b, off, rfl, hb, hcc⟩ := (HA.out.kept HGr.out).ptr (by omega)
      have hcx := hcc k hlt
      cases hd : mbF many (z k) with
      | false =>
        have HR := Lib.hid (crw_not (need := need) (many := many) (n := len) (z := z) (by rw [mbz_no hlt hd]; simp))
        have HN := Lib.hid (show ¬ (1 ≤ z k ∧ z k ≤ many) from fun h => by rw [mb_iff.2 h] at hd; cases hd)
        clear hcc hd
        go_wp2_with fail
        go_quiet (first | (go_at_call 54; refine Calls.quiet_of_same ((s6in_no _ _ _ _ HN.out).mono fun _ _ h => ⟨h.1, h.2.symm⟩)))
        go_wp2
        go_ret
        exact ⟨ret_b HR.out.symm, gtr HG0.out ⟨HGr.out.os, HGr.out.tape, HGr.out.output, HGr.out.size, HGr.out.block⟩⟩
      | true =>
        have HZ1 := Lib.hid (mbz_next HZ.out hd)
        obtain ⟨q1, q2⟩ := mb_iff.1 hd
        clear hd
        by_cases h0 : k = 0
        · subst h0
          clear hcc
          rw [Nat.add_zero] at hcx
          have HU1 := Lib.hid (upz_next HU.out (.inl rfl))
          have hz0 : ¬ (0 : Int) < ((0 : Nat) : Int) := by omega
          go_wp2_with fail
          go_quiet (first | (go_at_call 54; refine Calls.quiet_of_same ((s6in_yes _ _ _ _ q1 q2).mono fun _ _ h => ⟨h.1, h.2.symm⟩)))
          go_wp2
          go_roundw
          case rel => exact ⟨0 + 1, by omega, by go_num, HZ1.out, HU1.out, ⟨HGr.out.os, HGr.out.tape, HGr.out.output, HGr.out.size, HGr.out.block⟩⟩
          case measure => simp [intOf]; omega
        · obtain ⟨j, rfl⟩ : ∃ j, k = j + 1 := ⟨k - 1, by omega⟩
          have hcy := hcc j (by omega)
          clear hcc
          have hpos : (0 : Int) < ((j + 1 : Nat) : Int) := by omega
          have hsub : (((j + 1 : Nat) : Int) - 1) = (j : Int) := by omega
          by_cases hle : z (j + 1) ≤ z j
          · have HR := Lib.hid (crw_not (need := need) (many := many) (n := len) (z := z) (by rw [upz_no (z := z) hlt (by omega) (by simpa using hle)]; simp))
            go_wp2_with fail
            go_quiet (first | (go_at_call 54; refine Calls.quiet_of_same ((s6in_yes _ _ _ _ q1 q2).mono fun _ _ h => ⟨h.1, h.2.symm⟩)))
            go_wp2
            go_ret
            exact ⟨ret_b HR.out.symm, gtr HG0.out ⟨HGr.out.os, HGr.out.tape, HGr.out.output, HGr.out.size, HGr.out.block⟩⟩
          · have HU1 := Lib.hid (upz_next HU.out (.inr (by simp; omega)))
            go_wp2_with fail
            go_quiet (first | (go_at_call 54; refine Calls.quiet_of_same ((s6in_yes _ _ _ _ q1 q2).mono fun _ _ h => ⟨h.1, h.2.symm⟩)))
            go_wp2
            go_roundw
            case rel => exact ⟨j + 1 + 1, by omega, by go_num, HZ1.out, HU1.out, ⟨HGr.out.os, HGr.out.tape, HGr.out.output, HGr.out.size, HGr.out.block⟩⟩
            case measure => simp [intOf]; omega
    · obtain rfl : k = len := by omega
      have HE := Lib.hid (gtr HG0.out HGr.out)
      by_cases hn : need ≤ (k : Int)
      · have HR := Lib.hid (crw_iff.2 ⟨hn, HU.out, HZ.out⟩)
        go_wp2
        go_ret
        exact ⟨ret_b HR.out.symm, HE.out⟩
      · have HR := Lib.hid (crw_not (need := need) (many := many) (n := k) (z := z) (by omega))
        go_wp2
        go_ret
        exact ⟨ret_b HR.out.symm, HE.out⟩
set_option maxHeartbeats 2000000 in
theorem s31often (w : World) (need many : Int) (ag : Option Addr) (ng cg : Nat) (zg : Nat → Int) (ac : Option Addr) (nc cc : Nat) (zc : Nat → Int) (am : Option Addr) (nm cm : Nat) (zm : Nat → Int) (m r msg : Int) (hG : Ints w ag ng zg) (hC : Ints w ac nc zc) (hM : Ints w am nm zm) (hl1 : ng ≤ 2000000) (hl2 : nc ≤ 2000000) (hl3 : nm ≤ 2000000) (hga : gaF need many ng zg nc zc nm zm m = true) (hr : gok r = true) (hmsg : mok msg = true) :
    Calls Tryz.prog 106 #[.agg #[.int .i64 need, .int .i64 many, .slice ag ng cg, .slice ac nc cc], .slice am nm cm, .int .i64 m, .int .i64 r, .int .i64 msg] w fun e w' => e = .returned (.int .i64 (gW zc nm zm m r msg)) ∧ w.grownBy w' none := by
  have G := Lib.hid (Draw.grown_alloc w (.cells #[.int .i64 need, .int .i64 many, .slice ag ng cg, .slice ac nc cc] 25) none)
  have K := Lib.hid (Ky.new w need many (.slice ag ng cg) (.slice ac nc cc) 25)
  have HC := Lib.hid (hC.kept G.out); have HM := Lib.hid (hM.kept G.out)
  have HGA := Lib.hid hga
  have hf := ga_facts hga
  obtain ⟨r0, r1⟩ := gok_range hr
  obtain ⟨p0, p1⟩ := gok_range hf.2.2.2.2.2.2.2.2.2.2.1
  obtain ⟨m0, m1⟩ := mok_iff.1 hmsg
  have hn5 := hf.2.2.2.2.1
  have hnc := hf.2.2.2.2.2.2.2.2.2.2.2
  have HPL := Lib.hid (plok_iff.1 hf.2.2.2.2.2.2.1)
  have HAP := Lib.hid (plok_apart hf.2.2.2.2.2.2.1)
  have HF0 := Lib.hid (show fok 0 = true from rfl)
  clear hG hC hM hga hf hr hmsg
  go_enter Tryz.func106, Tryz.ntmps106
  go_wp2_with fail
  refine (s3line _ _ nm _ zm 0 HM.out hn5 (fun j hj => (HPL.out.2 j hj).1) HAP.out HF0.out).mono ?_
  rintro e w1 ⟨bl, cl, rfl, hrow, hg⟩
  replace G := Lib.hid (gtr G.out hg)
  replace K := Lib.hid (K.out.kept hg)
  replace HC := Lib.hid (HC.out.kept hg)
  replace HM := Lib.hid (HM.out.kept hg)
  clear hg
  have L := Lib.hid hrow.ints
  clear hrow
  go_wp2
  have hk0 := K.out
  obtain ⟨_, k0, k1, k2, k3⟩ := hk0
  obtain ⟨bc, oc, rfl, hbc, hcc⟩ := HC.out.ptr hnc
  have hc0 := hcc 0 (by omega)
  rw [Nat.add_zero] at hc0
  clear hcc
  go_loop [12] (fun i => ∃ k : Nat, k ≤ nm ∧ i = .int .i64 k ∧ hasz zm m k = false) (fun i => nm - (intOf i).toNat)
  case atStart => exact ⟨0, by omega, rfl, rfl⟩
  case round =>
    obtain ⟨k, hk, rfl, hz⟩ := hrel
    have HZ := Lib.hid hz; clear hz
    by_cases hlt : k < nm
    · obtain ⟨b, off, rfl, hb, hcc⟩ := HM.out.ptr (by omega)
      have hcx := hcc k hlt
      clear hcc
      by_cases he : zm k = m
      · have HR := Lib.hid (show gW zc nm zm m r msg = mulF (zline nm zm 0 k) (hz r (zc 0) msg) by unfold gW; rw [pos_at hlt HZ.out he])
        have ht : (zm k == m) = true := by simpa using he
        clear he
        obtain ⟨b2, off2, h2, hb2, hcl⟩ := L.out.ptr (by omega)
        injection h2 with h2; injection h2 with e1 e2; subst e1; subst e2
        have hcy := hcl k hlt
        rw [Nat.zero_add] at hcy
        clear hcl
        go_wp2_with fail
        go_quiet (first
          | (go_at_call 122; refine Calls.quiet_of_same ((s31hash _ _ _ _ (by omega) (by omega) (by omega) (by omega) (by omega) (by omega)).mono fun _ _ h => ⟨h.1, h.2.symm⟩))
          | (go_at_call 105; refine q_smul))
        go_wp2
        go_ret
        exact ⟨ret_i HR.out.symm, Mem.grown_drew G.out _⟩
      · have HR := Lib.hid (hasz_next HZ.out he)
        have ht : (zm k == m) = false := by simpa using he
        clear he
        go_wp2
        go_round
        case rel => exact ⟨k + 1, by omega, by go_num, HR.out⟩
        case measure => simp [intOf]; omega
    · obtain rfl : k = nm := by omega
      have := (ga_iff.1 HGA.out).2.2
      rw [HZ.out] at this
      cases this
def goF (need many : Int) (ng : Nat) (zg : Nat → Int) (nc : Nat) (zc : Nat → Int) (nm : Nat) (zm : Nat → Int) (m r msg : Int) : Bool := gaF need many ng zg nc zc nm zm m && (gok r && mok msg)
theorem go_iff {need many : Int} {ng : Nat} {zg : Nat → Int} {nc : Nat} {zc : Nat → Int} {nm : Nat} {zm : Nat → Int} {m r msg : Int} : goF need many ng zg nc zc nm zm m r msg = true ↔ gaF need many ng zg nc zc nm zm m = true ∧ gok r = true ∧ mok msg = true := by simp [goF]
theorem go_not {need many : Int} {ng : Nat} {zg : Nat → Int} {nc : Nat} {zc : Nat → Int} {nm : Nat} {zm : Nat → Int} {m r msg : Int} (h : ¬ (gaF need many ng zg nc zc nm zm m = true ∧ gok r = true ∧ mok msg = true)) : goF need many ng zg nc zc nm zm m r msg = false := by
  cases hh : goF need many ng zg nc zc nm zm m r msg with
  | false => rfl
  | true => exact absurd (go_iff.1 hh) h
theorem s31ok (w : World) (need many : Int) (ag : Option Addr) (ng cg : Nat) (zg : Nat → Int) (ac : Option Addr) (nc cc : Nat) (zc : Nat → Int) (am : Option Addr) (nm cm : Nat) (zm : Nat → Int) (m r msg : Int) (hG : Ints w ag ng zg) (hC : Ints w ac nc zc) (hM : Ints w am nm zm) (hl1 : ng ≤ 2000000) (hl2 : nc ≤ 2000000) (hl3 : nm ≤ 2000000) :
    Calls Tryz.prog 104 #[.agg #[.int .i64 need, .int .i64 many, .slice ag ng cg, .slice ac nc cc], .slice am nm cm, .int .i64 m, .int .i64 r, .int .i64 msg] w fun e w' => e = .returned (.bool (goF need many ng zg nc zc nm zm m r msg)) ∧ w.grownBy w' none := by
  have G := Lib.hid (Draw.grown_alloc w (.cells #[.int .i64 need, .int .i64 many, .slice ag ng cg, .slice ac nc cc] 25) none)
  have K := Lib.hid (Ky.new w need many (.slice ag ng cg) (.slice ac nc cc) 25)
  have HG := Lib.hid (hG.kept G.out); have HC := Lib.hid (hC.kept G.out); have HM := Lib.hid (hM.kept G.out)
  clear hG hC hM
  go_enter Tryz.func104, Tryz.ntmps104
  obtain ⟨_, k0, k1, k2, k3⟩ := K.out
  go_wp2_with fail
  refine (skeyok _ need many _ ng _ zg _ nc _ zc HG.out HC.out hl1 hl2).mono ?_
  rintro e w1 ⟨rfl, hg⟩
  clear k0 k1 k2 k3
  replace G := Lib.hid (gtr G.out hg)
  replace K := Lib.hid (K.out.kept hg)
  replace HG := Lib.hid (HG.out.kept hg)
  replace HC := Lib.hid (HC.out.kept hg)
  replace HM := Lib.hid (HM.out.kept hg)
  clear hg
  obtain ⟨_, k0, k1, k2, k3⟩ := K.out
  cases h1 : kyF need many ng zg nc zc with
  | false =>
    have HN := Lib.hid (go_not (need := need) (many := many) (ng := ng) (zg := zg) (nc := nc) (zc := zc) (nm := nm) (zm := zm) (m := m) (r := r) (msg := msg) (by simp [gaF, h1]))
    go_wp2
    go_ret
    exact ⟨ret_b HN.out.symm, G.out⟩
  | true =>
    go_wp2_with fail
    refine (s31crew _ need many _ _ am nm cm zm HM.out hl3).mono ?_
    rintro e w2 ⟨rfl, hg⟩
    clear k0 k1 k2 k3
    replace G := Lib.hid (gtr G.out hg)
    replace K := Lib.hid (K.out.kept hg)
    replace HG := Lib.hid (HG.out.kept hg)
    replace HC := Lib.hid (HC.out.kept hg)
    replace HM := Lib.hid (HM.out.kept hg)
    clear hg
    obtain ⟨_, k0, k1, k2, k3⟩ := K.out
    cases h2 : crw need many nm zm with
    | false =>
      have HN := Lib.hid (go_not (need := need) (many := many) (ng := ng) (zg := zg) (nc := nc) (zc := zc) (nm := nm) (zm := zm) (m := m) (r := r) (msg := msg) (by simp [gaF, h2]))
      go_wp2
      go_ret
      exact ⟨ret_b HN.out.symm, G.out⟩
    | true =>
      go_wp2_with fail
      refine (shas _ am nm cm zm m HM.out hl3).mono ?_
      rintro e w' ⟨rfl, rfl⟩
      cases h3 : hasz zm m nm with
      | false =>
        have HN := Lib.hid (go_not (need := need) (many := many) (ng := ng) (zg := zg) (nc := nc) (zc := zc) (nm := nm) (zm := zm) (m := m) (r := r) (msg := msg) (by simp [gaF, h3]))
        go_wp2
        go_ret
        exact ⟨ret_b HN.out.symm, G.out⟩
      | true =>
        have HA := Lib.hid (ga_iff.2 ⟨h1, h2, h3⟩)
        go_wp2_with fail
        refine (sgok r _).mono ?_
        rintro e w' ⟨rfl, rfl⟩
        cases h4 : gok r with
        | false =>
          have HN := Lib.hid (go_not (need := need) (many := many) (ng := ng) (zg := zg) (nc := nc) (zc := zc) (nm := nm) (zm := zm) (m := m) (r := r) (msg := msg) (by simp [h4]))
          go_wp2
          go_ret
          exact ⟨ret_b HN.out.symm, G.out⟩
        | true =>
          cases h5 : mok msg with
          | false =>
            have HN := Lib.hid (go_not (need := need) (many := many) (ng := ng) (zg := zg) (nc := nc) (zc := zc) (nm := nm) (zm := zm) (m := m) (r := r) (msg := msg) (by simp [h5]))
            go_wp2_with fail
            refine (smsg_no _ msg h5).mono ?_
            rintro e w' ⟨rfl, rfl⟩
            go_wp2
            go_ret
            exact ⟨ret_b HN.out.symm, G.out⟩
          | true =>
            have HN := Lib.hid (go_iff.2 ⟨HA.out, h4, h5⟩)
            go_wp2_with fail
            refine (smsg_yes _ msg h5).mono ?_
            rintro e w' ⟨rfl, rfl⟩
            go_wp2
            go_ret
            exact ⟨ret_b HN.out.symm, G.out⟩

/-! What the model answers. -/
set_option maxRecDepth 100000 in
set_option maxHeartbeats 4000000 in
theorem spart (w : World) (need many : Int) (ag : Option Addr) (ng cg : Nat) (zg : Nat → Int) (ac : Option Addr) (nc cc : Nat) (zc : Nat → Int) (am : Option Addr) (nm cm : Nat) (zm : Nat → Int) (m s r msg d : Int) (hG : Ints w ag ng zg) (hC : Ints w ac nc zc) (hM : Ints w am nm zm) (hl1 : ng ≤ 2000000) (hl2 : nc ≤ 2000000) (hl3 : nm ≤ 2000000) :
    Calls Tryz.prog 80 #[.agg #[.int .i64 need, .int .i64 many, .slice ag ng cg, .slice ac nc cc], .slice am nm cm, .agg #[.int .i64 m, .int .i64 s], .int .i64 r, .int .i64 msg, .int .i64 d] w fun e w' => e = .returned (spV need many ng zg nc zc nm zm m s r msg d) ∧ w.grownBy w' none := by
  have G := Lib.hid (gtr (Draw.grown_alloc w (.cells #[.int .i64 need, .int .i64 many, .slice ag ng cg, .slice ac nc cc] 25) none) (Draw.grown_alloc _ (.cells #[.int .i64 m, .int .i64 s] 100) none))
  have K := Lib.hid ((Ky.new w need many (.slice ag ng cg) (.slice ac nc cc) 25).kept (Draw.grown_alloc _ (.cells #[.int .i64 m, .int .i64 s] 100) none))
  have H := Lib.hid (Du.of_blk (blk_new2 w (.cells #[.int .i64 need, .int .i64 many, .slice ag ng cg, .slice ac nc cc] 25) #[.int .i64 m, .int .i64 s] 100))
  have HG := Lib.hid (hG.kept G.out); have HC := Lib.hid (hC.kept G.out); have HM := Lib.hid (hM.kept G.out)
  clear hG hC hM
  go_enter Tryz.func80, Tryz.ntmps80
  obtain ⟨_, k0, k1, k2, k3⟩ := K.out
  obtain ⟨_, x0, x1⟩ := H.out
  go_wp2_with fail
  refine (s31ok _ need many _ ng _ zg _ nc _ zc _ nm _ zm m r msg HG.out HC.out HM.out hl1 hl2 hl3).mono ?_
  rintro e w1 ⟨rfl, hg⟩
  clear k0 k1 k2 k3
  clear x0 x1
  replace G := Lib.hid (gtr G.out hg)
  replace K := Lib.hid (K.out.kept hg)
  replace H := Lib.hid (H.out.kept hg)
  replace HG := Lib.hid (HG.out.kept hg)
  replace HC := Lib.hid (HC.out.kept hg)
  replace HM := Lib.hid (HM.out.kept hg)
  clear hg
  obtain ⟨_, k0, k1, k2, k3⟩ := K.out
  obtain ⟨_, x0, x1⟩ := H.out
  cases h1 : goF need many ng zg nc zc nm zm m r msg with
  | false =>
    have HN := Lib.hid (sp_not (s := s) (r := r) (msg := msg) (d := d) (need := need) (many := many) (ng := ng) (zg := zg) (nc := nc) (zc := zc) (nm := nm) (zm := zm) (m := m) (fun h => by rw [go_iff.2 ⟨h.1, h.2.2.2⟩] at h1; cases h1))
    go_wp2
    go_ret2
    exact ⟨by rw [spV_no HN.out]; rfl, G.out⟩
  | true =>
    obtain ⟨g1, g2, g3⟩ := go_iff.1 h1
    rcases fokc s with h2 | h2
    case inr =>
      have HN := Lib.hid (sp_not (s := s) (r := r) (msg := msg) (d := d) (need := need) (many := many) (ng := ng) (zg := zg) (nc := nc) (zc := zc) (nm := nm) (zm := zm) (m := m) (by simp [h2]))
      go_wp2_with fail
      refine (sok_no _ _ h2).mono ?_
      rintro e w' ⟨rfl, rfl⟩
      go_wp2
      go_ret2
      exact ⟨by rw [spV_no HN.out]; rfl, G.out⟩
    go_wp2_with fail
    refine (sok_yes _ _ h2).mono ?_
    rintro e w' ⟨rfl, rfl⟩
    rcases fokc d with h3 | h3
    case inr =>
      have HN := Lib.hid (sp_not (s := s) (r := r) (msg := msg) (d := d) (need := need) (many := many) (ng := ng) (zg := zg) (nc := nc) (zc := zc) (nm := nm) (zm := zm) (m := m) (by simp [h3]))
      go_wp2_with fail
      refine (sok_no _ _ h3).mono ?_
      rintro e w' ⟨rfl, rfl⟩
      go_wp2
      go_ret2
      exact ⟨by rw [spV_no HN.out]; rfl, G.out⟩
    go_wp2_with fail
    refine (sok_yes _ _ h3).mono ?_
    rintro e w' ⟨rfl, rfl⟩
    have HN := Lib.hid (sp_iff.2 ⟨g1, h2, h3, g2, g3⟩)
    have H1 := Lib.hid g1; have H2 := Lib.hid g2; have H3 := Lib.hid g3
    clear h1 g1 g2 g3
    go_wp2_with fail
    refine wp_region_held_drew (S := (fun w' => w'.cell? ⟨w.heap.size, 0, none⟩ = some (.int .i64 need) ∧ w'.cell? ⟨w.heap.size, 1, none⟩ = some (.int .i64 many) ∧ w'.cell? ⟨w.heap.size, 2, none⟩ = some (.slice ag ng cg) ∧ w'.cell? ⟨w.heap.size, 3, none⟩ = some (.slice ac nc cc) ∧ w'.cell? ⟨w.heap.size + 1, 0, none⟩ = some (.int .i64 m) ∧ w'.cell? ⟨w.heap.size + 1, 1, none⟩ = some (.int .i64 s))) (by kernel_rfl) (⟨K.out.c0, K.out.c1, K.out.c2, K.out.c3, H.out.c0, H.out.c1⟩) (fun hHeld => ?_)
    have hg := Draw.gdrew w1
    clear k0 k1 k2 k3
    clear x0 x1
    replace G := Lib.hid (gtr G.out hg)
    replace K := Lib.hid (K.out.kept hg)
    replace H := Lib.hid (H.out.kept hg)
    replace HG := Lib.hid (HG.out.kept hg)
    replace HC := Lib.hid (HC.out.kept hg)
    replace HM := Lib.hid (HM.out.kept hg)
    clear hg
    obtain ⟨_, k0, k1, k2, k3⟩ := K.out
    obtain ⟨_, x0, x1⟩ := H.out
    generalize (w1).drew = W at *
    refine wpAnyH_take (i := 0) (oi := ⟨some 33, _, _, _, _, _⟩) (v := ?_) rfl (by kernel_rfl) (by kernel_rfl) (by kernel_rfl) (fun _ _ _ h => h) (Or.inl ⟨by rfl, ?_⟩) (by assumption) ?_
    rotate_left
    · intro w hSw; (try dsimp only at hSw); go_simp; try with_reducible rfl
    simp only [Act.put, List.setIfInBounds_toArray, List.set_cons_zero, List.set_cons_succ]
    refine wpAnyH_take (i := 1) (oi := ⟨some 34, _, _, _, _, _⟩) (v := ?_) rfl (by kernel_rfl) (by kernel_rfl) (by kernel_rfl) (fun _ _ _ h => h) (Or.inl ⟨by rfl, ?_⟩) (by assumption) ?_
    rotate_left
    · intro w hSw; (try dsimp only at hSw); go_simp; try with_reducible rfl
    simp only [Act.put, List.setIfInBounds_toArray, List.set_cons_zero, List.set_cons_succ]
    refine wpAnyH_take (i := 2) (oi := ⟨some 35, _, _, _, _, _⟩) (v := ?_) rfl (by kernel_rfl) (by kernel_rfl) (by kernel_rfl) (fun _ _ _ h => h) (Or.inl ⟨by rfl, ?_⟩) (by assumption) ?_
    rotate_left
    · intro w hSw; (try dsimp only at hSw); go_simp; try with_reducible rfl
    simp only [Act.put, List.setIfInBounds_toArray, List.set_cons_zero, List.set_cons_succ]
    refine wpAnyH_take (i := 3) (oi := ⟨some 36, _, _, _, _, _⟩) (v := ?_) rfl (by kernel_rfl) (by kernel_rfl) (by kernel_rfl) (fun _ _ _ h => h) (Or.inl ⟨by rfl, ?_⟩) (by assumption) ?_
    rotate_left
    · intro w hSw; (try dsimp only at hSw); go_simp; try with_reducible rfl
    simp only [Act.put, List.setIfInBounds_toArray, List.set_cons_zero, List.set_cons_succ]
    refine wpAnyH_take (i := 4) (oi := ⟨some 37, _, _, _, _, _⟩) (v := ?_) rfl (by kernel_rfl) (by kernel_rfl) (by kernel_rfl) (fun _ _ _ h => h) (Or.inl ⟨by rfl, ?_⟩) (by assumption) ?_
    rotate_left
    · intro w hSw; (try dsimp only at hSw); go_simp; try with_reducible rfl
    simp only [Act.put, List.setIfInBounds_toArray, List.set_cons_zero, List.set_cons_succ]
    refine wpAnyH_take (i := 5) (oi := ⟨some 38, _, _, _, _, _⟩) (v := ?_) rfl (by kernel_rfl) (by kernel_rfl) (by kernel_rfl) (fun _ _ _ h => h) (Or.inl ⟨by rfl, ?_⟩) (by assumption) ?_
    rotate_left
    · intro w hSw; (try dsimp only at hSw); go_simp; try with_reducible rfl
    simp only [Act.put, List.setIfInBounds_toArray, List.set_cons_zero, List.set_cons_succ]
    refine wpAnyH_take (i := 6) (oi := ⟨some 39, _, _, _, _, _⟩) (v := ?_) rfl (by kernel_rfl) (by kernel_rfl) (by kernel_rfl) (fun _ _ _ h => h) (Or.inl ⟨by rfl, ?_⟩) (by assumption) ?_
    rotate_left
    · intro w hSw; (try dsimp only at hSw); go_simp; try with_reducible rfl
    simp only [Act.put, List.setIfInBounds_toArray, List.set_cons_zero, List.set_cons_succ]
    refine wpAnyH_take (i := 8) (oi := ⟨some 41, _, _, _, _, _⟩) (v := ?_) rfl (by kernel_rfl) (by kernel_rfl) (by kernel_rfl) (fun _ _ _ h => h) (Or.inl ⟨by rfl, ?_⟩) (by assumption) ?_
    rotate_left
    · intro w hSw; (try dsimp only at hSw); go_simp; try with_reducible rfl
    simp only [Act.put, List.setIfInBounds_toArray, List.set_cons_zero, List.set_cons_succ]
    refine wpAnyH_take (i := 9) (oi := ⟨some 42, _, _, _, _, _⟩) (v := ?_) rfl (by kernel_rfl) (by kernel_rfl) (by kernel_rfl) (fun _ _ _ h => h) (Or.inl ⟨by rfl, ?_⟩) (by assumption) ?_
    rotate_left
    · intro w hSw; (try dsimp only at hSw); go_simp; try with_reducible rfl
    simp only [Act.put, List.setIfInBounds_toArray, List.set_cons_zero, List.set_cons_succ]
    refine wpAnyH_ready (rs := [7]) (by kernel_rfl) (by simp) ?_
    refine AllReadyH.cons (o := ⟨some 40, _, _, _, _, _⟩) rfl (fun Kq hKq => ?_) AllReadyH.nil
    go_simp
    go_at_call 106
    refine (s31often _ need many _ ng _ zg _ nc _ zc _ nm _ zm m r msg HG.out HC.out HM.out hl1 hl2 hl3 H1.out H2.out H3.out).mono ?_
    rintro e w2 ⟨rfl, hg⟩
    clear k0 k1 k2 k3
    clear x0 x1
    replace G := Lib.hid (gtr G.out hg)
    replace K := Lib.hid (K.out.kept hg)
    replace H := Lib.hid (H.out.kept hg)
    replace HG := Lib.hid (HG.out.kept hg)
    replace HC := Lib.hid (HC.out.kept hg)
    replace HM := Lib.hid (HM.out.kept hg)
    clear hg
    obtain ⟨_, k0, k1, k2, k3⟩ := K.out
    obtain ⟨_, x0, x1⟩ := H.out
    refine hKq.out _ _ (⟨K.out.c0, K.out.c1, K.out.c2, K.out.c3, H.out.c0, H.out.c1⟩) (fun hHeld => ?_)
    clear hKq Kq
    refine wpAnyH_ready (rs := [10]) (by kernel_rfl) (by simp) ?_
    refine AllReadyH.cons (o := ⟨some 43, _, _, _, _, _⟩) rfl (fun Kq hKq => ?_) AllReadyH.nil
    go_simp
    go_at_call 105
    refine (smul _ s _).mono ?_
    rintro e w3 ⟨rfl, rfl⟩
    refine hKq.out _ _ (⟨K.out.c0, K.out.c1, K.out.c2, K.out.c3, H.out.c0, H.out.c1⟩) (fun hHeld => ?_)
    clear hKq Kq
    refine wpAnyH_ready (rs := [11]) (by kernel_rfl) (by simp) ?_
    refine AllReadyH.cons (o := ⟨some 44, _, _, _, _, _⟩) rfl (fun Kq hKq => ?_) AllReadyH.nil
    go_simp
    go_at_call 61
    refine (ssum d _ _).mono ?_
    rintro e w4 ⟨rfl, rfl⟩
    refine hKq.out _ _ (⟨K.out.c0, K.out.c1, K.out.c2, K.out.c3, H.out.c0, H.out.c1⟩) (fun hHeld => ?_)
    clear hKq Kq
    refine wpAnyH_take (i := 12) (oi := ⟨some 12, _, _, _, _, _⟩) (v := ?_) rfl (by kernel_rfl) (by kernel_rfl) (by kernel_rfl) (fun _ _ _ h => h) (Or.inl ⟨by rfl, ?_⟩) (by assumption) ?_
    rotate_left
    · intro w hSw; (try dsimp only at hSw); go_simp; try with_reducible rfl
    simp only [Act.put, List.setIfInBounds_toArray, List.set_cons_zero, List.set_cons_succ]
    refine wpAnyH_take (i := 13) (oi := ⟨some 13, _, _, _, _, _⟩) (v := ?_) rfl (by kernel_rfl) (by kernel_rfl) (by kernel_rfl) (fun _ _ _ h => h) (Or.inl ⟨by rfl, ?_⟩) (by assumption) ?_
    rotate_left
    · intro w hSw; (try dsimp only at hSw); go_simp; try with_reducible rfl
    simp only [Act.put, List.setIfInBounds_toArray, List.set_cons_zero, List.set_cons_succ]
    refine wpAnyH_done (by kernel_rfl) ?_ _
    go_wp2
    go_ret2
    exact ⟨by rw [spV_yes HN.out]; rfl, G.out⟩
set_option maxRecDepth 100000 in
set_option maxHeartbeats 4000000 in
theorem sfits (w : World) (need many : Int) (ag : Option Addr) (ng cg : Nat) (zg : Nat → Int) (ac : Option Addr) (nc cc : Nat) (zc : Nat → Int) (am : Option Addr) (nm cm : Nat) (zm : Nat → Int) (m sh r msg z : Int) (hG : Ints w ag ng zg) (hC : Ints w ac nc zc) (hM : Ints w am nm zm) (hl1 : ng ≤ 2000000) (hl2 : nc ≤ 2000000) (hl3 : nm ≤ 2000000) :
    Calls Tryz.prog 82 #[.agg #[.int .i64 need, .int .i64 many, .slice ag ng cg, .slice ac nc cc], .slice am nm cm, .int .i64 m, .int .i64 sh, .int .i64 r, .int .i64 msg, .int .i64 z] w fun e w' => e = .returned (.bool (sfF need many ng zg nc zc nm zm m sh r msg z)) ∧ w.grownBy w' none := by
  have G := Lib.hid (Draw.grown_alloc w (.cells #[.int .i64 need, .int .i64 many, .slice ag ng cg, .slice ac nc cc] 25) none)
  have K := Lib.hid (Ky.new w need many (.slice ag ng cg) (.slice ac nc cc) 25)
  have HG := Lib.hid (hG.kept G.out); have HC := Lib.hid (hC.kept G.out); have HM := Lib.hid (hM.kept G.out)
  clear hG hC hM
  go_enter Tryz.func82, Tryz.ntmps82
  obtain ⟨_, k0, k1, k2, k3⟩ := K.out
  go_wp2_with fail
  refine (s31ok _ need many _ ng _ zg _ nc _ zc _ nm _ zm m r msg HG.out HC.out HM.out hl1 hl2 hl3).mono ?_
  rintro e w1 ⟨rfl, hg⟩
  clear k0 k1 k2 k3
  replace G := Lib.hid (gtr G.out hg)
  replace K := Lib.hid (K.out.kept hg)
  replace HG := Lib.hid (HG.out.kept hg)
  replace HC := Lib.hid (HC.out.kept hg)
  replace HM := Lib.hid (HM.out.kept hg)
  clear hg
  obtain ⟨_, k0, k1, k2, k3⟩ := K.out
  cases h1 : goF need many ng zg nc zc nm zm m r msg with
  | false =>
    have HN := Lib.hid (sfF_no (sh := sh) (r := r) (msg := msg) (z := z) (need := need) (many := many) (ng := ng) (zg := zg) (nc := nc) (zc := zc) (nm := nm) (zm := zm) (m := m) (fun h => by rw [go_iff.2 ⟨h.1, h.2.2.1, h.2.2.2.1⟩] at h1; cases h1))
    go_wp2
    go_ret
    exact ⟨ret_b HN.out.symm, G.out⟩
  | true =>
    obtain ⟨g1, g2, g3⟩ := go_iff.1 h1
    rcases gokc sh with h2 | h2
    case inr =>
      have HN := Lib.hid (sfF_no (sh := sh) (r := r) (msg := msg) (z := z) (need := need) (many := many) (ng := ng) (zg := zg) (nc := nc) (zc := zc) (nm := nm) (zm := zm) (m := m) (by simp [h2]))
      go_wp2_with fail
      refine (sgok_no _ _ h2).mono ?_
      rintro e w' ⟨rfl, rfl⟩
      go_wp2
      go_ret
      exact ⟨ret_b HN.out.symm, G.out⟩
    go_wp2_with fail
    refine (sgok_yes _ _ h2).mono ?_
    rintro e w' ⟨rfl, rfl⟩
    rcases fokc z with h3 | h3
    case inr =>
      have HN := Lib.hid (sfF_no (sh := sh) (r := r) (msg := msg) (z := z) (need := need) (many := many) (ng := ng) (zg := zg) (nc := nc) (zc := zc) (nm := nm) (zm := zm) (m := m) (by simp [h3]))
      go_wp2_with fail
      refine (sok_no _ _ h3).mono ?_
      rintro e w' ⟨rfl, rfl⟩
      go_wp2
      go_ret
      exact ⟨ret_b HN.out.symm, G.out⟩
    go_wp2_with fail
    refine (sok_yes _ _ h3).mono ?_
    rintro e w' ⟨rfl, rfl⟩
    have hf := ga_facts g1
    have hmk : fok m = true := by have := mb_iff.1 hf.2.2.2.2.2.2.2.2.2.1; have := hf.2.2.1; exact fok_iff.2 (by omega)
    have hck := hf.2.2.2.1
    have hat := catz_in hck hmk
    have hgk : gok (catz nc zc m) = true := by rw [hat]; exact gof_ok (Pol.fi_ok _)
    have hw := gW_ok zc nm zm m r msg
    have HN := Lib.hid (show sfF need many ng zg nc zc nm zm m sh r msg z = (pw 2 z.toNat == sh * pw (catz nc zc m) (gW zc nm zm m r msg).toNat % 47) by rw [sfF_yes ⟨g1, h2, g2, g3, h3⟩, gof_in h3, gpow_in hgk hw, gmul_in h2 (by rw [← gpow_in hgk hw]; exact gpow_ok hgk hw)])
    obtain ⟨q0, q1⟩ := gok_range hgk
    obtain ⟨sh0, sh1⟩ := gok_range h2
    obtain ⟨z0, z1⟩ := fok_iff.1 h3
    obtain ⟨y0, y1⟩ := fok_iff.1 hw
    have hP := pw_range (catz nc zc m) (gW zc nm zm m r msg).toNat
    have u0 : 0 ≤ sh * pw (catz nc zc m) (gW zc nm zm m r msg).toNat := Int.mul_nonneg (by omega) hP.1
    have u1 : sh * pw (catz nc zc m) (gW zc nm zm m r msg).toNat ≤ 46 * 46 := Int.mul_le_mul sh1 hP.2 hP.1 (by decide)
    have HWR := Lib.hid (show (IntKind.i64.wrap (sh * pw (catz nc zc m) (gW zc nm zm m r msg).toNat)).tmod 47 = sh * pw (catz nc zc m) (gW zc nm zm m r msg).toNat % 47 by rw [show IntKind.i64.wrap (sh * pw (catz nc zc m) (gW zc nm zm m r msg).toNat) = sh * pw (catz nc zc m) (gW zc nm zm m r msg).toNat by rw [IntKind.wrap_i64]; omega, Int.tmod_eq_emod_of_nonneg u0])
    have H1 := Lib.hid g1; have H2 := Lib.hid g2; have H3 := Lib.hid g3; have HCK := Lib.hid (cokz_iff.1 hck).2.2; have HMK := Lib.hid hmk; have HAT := Lib.hid hat
    clear h1 g1 g2 g3 hf hmk hck hat hgk hw h2 h3
    go_wp2_with fail
    refine wp_region_held_drew (S := (fun w' => w'.cell? ⟨w.heap.size, 0, none⟩ = some (.int .i64 need) ∧ w'.cell? ⟨w.heap.size, 1, none⟩ = some (.int .i64 many) ∧ w'.cell? ⟨w.heap.size, 2, none⟩ = some (.slice ag ng cg) ∧ w'.cell? ⟨w.heap.size, 3, none⟩ = some (.slice ac nc cc))) (by kernel_rfl) (⟨K.out.c0, K.out.c1, K.out.c2, K.out.c3⟩) (fun hHeld => ?_)
    have hg := Draw.gdrew w1
    clear k0 k1 k2 k3
    replace G := Lib.hid (gtr G.out hg)
    replace K := Lib.hid (K.out.kept hg)
    replace HG := Lib.hid (HG.out.kept hg)
    replace HC := Lib.hid (HC.out.kept hg)
    replace HM := Lib.hid (HM.out.kept hg)
    clear hg
    obtain ⟨_, k0, k1, k2, k3⟩ := K.out
    generalize (w1).drew = W at *
    refine wpAnyH_take (i := 0) (oi := ⟨some 32, _, _, _, _, _⟩) (v := ?_) rfl (by kernel_rfl) (by kernel_rfl) (by kernel_rfl) (fun _ _ _ h => h) (Or.inl ⟨by rfl, ?_⟩) (by assumption) ?_
    rotate_left
    · intro w hSw; (try dsimp only at hSw); go_simp; try with_reducible rfl
    simp only [Act.put, List.setIfInBounds_toArray, List.set_cons_zero, List.set_cons_succ]
    refine wpAnyH_take (i := 2) (oi := ⟨some 34, _, _, _, _, _⟩) (v := ?_) rfl (by kernel_rfl) (by kernel_rfl) (by kernel_rfl) (fun _ _ _ h => h) (Or.inl ⟨by rfl, ?_⟩) (by assumption) ?_
    rotate_left
    · intro w hSw; (try dsimp only at hSw); go_simp; try with_reducible rfl
    simp only [Act.put, List.setIfInBounds_toArray, List.set_cons_zero, List.set_cons_succ]
    refine wpAnyH_take (i := 3) (oi := ⟨some 35, _, _, _, _, _⟩) (v := ?_) rfl (by kernel_rfl) (by kernel_rfl) (by kernel_rfl) (fun _ _ _ h => h) (Or.inl ⟨by rfl, ?_⟩) (by assumption) ?_
    rotate_left
    · intro w hSw; (try dsimp only at hSw); go_simp; try with_reducible rfl
    simp only [Act.put, List.setIfInBounds_toArray, List.set_cons_zero, List.set_cons_succ]
    refine wpAnyH_take (i := 4) (oi := ⟨some 36, _, _, _, _, _⟩) (v := ?_) rfl (by kernel_rfl) (by kernel_rfl) (by kernel_rfl) (fun _ _ _ h => h) (Or.inl ⟨by rfl, ?_⟩) (by assumption) ?_
    rotate_left
    · intro w hSw; (try dsimp only at hSw); go_simp; try with_reducible rfl
    simp only [Act.put, List.setIfInBounds_toArray, List.set_cons_zero, List.set_cons_succ]
    refine wpAnyH_take (i := 5) (oi := ⟨some 37, _, _, _, _, _⟩) (v := ?_) rfl (by kernel_rfl) (by kernel_rfl) (by kernel_rfl) (fun _ _ _ h => h) (Or.inl ⟨by rfl, ?_⟩) (by assumption) ?_
    rotate_left
    · intro w hSw; (try dsimp only at hSw); go_simp; try with_reducible rfl
    simp only [Act.put, List.setIfInBounds_toArray, List.set_cons_zero, List.set_cons_succ]
    refine wpAnyH_take (i := 7) (oi := ⟨some 39, _, _, _, _, _⟩) (v := ?_) rfl (by kernel_rfl) (by kernel_rfl) (by kernel_rfl) (fun _ _ _ h => h) (Or.inl ⟨by rfl, ?_⟩) (by assumption) ?_
    rotate_left
    · intro w hSw; (try dsimp only at hSw); go_simp; try with_reducible rfl
    simp only [Act.put, List.setIfInBounds_toArray, List.set_cons_zero, List.set_cons_succ]
    refine wpAnyH_take (i := 8) (oi := ⟨some 40, _, _, _, _, _⟩) (v := ?_) rfl (by kernel_rfl) (by kernel_rfl) (by kernel_rfl) (fun _ _ _ h => h) (Or.inl ⟨by rfl, ?_⟩) (by assumption) ?_
    rotate_left
    · intro w hSw; (try dsimp only at hSw); go_simp; try with_reducible rfl
    simp only [Act.put, List.setIfInBounds_toArray, List.set_cons_zero, List.set_cons_succ]
    refine wpAnyH_take (i := 9) (oi := ⟨some 41, _, _, _, _, _⟩) (v := ?_) rfl (by kernel_rfl) (by kernel_rfl) (by kernel_rfl) (fun _ _ _ h => h) (Or.inl ⟨by rfl, ?_⟩) (by assumption) ?_
    rotate_left
    · intro w hSw; (try dsimp only at hSw); go_simp; try with_reducible rfl
    simp only [Act.put, List.setIfInBounds_toArray, List.set_cons_zero, List.set_cons_succ]
    refine wpAnyH_take (i := 10) (oi := ⟨some 42, _, _, _, _, _⟩) (v := ?_) rfl (by kernel_rfl) (by kernel_rfl) (by kernel_rfl) (fun _ _ _ h => h) (Or.inl ⟨by rfl, ?_⟩) (by assumption) ?_
    rotate_left
    · intro w hSw; (try dsimp only at hSw); go_simp; try with_reducible rfl
    simp only [Act.put, List.setIfInBounds_toArray, List.set_cons_zero, List.set_cons_succ]
    refine wpAnyH_take (i := 11) (oi := ⟨some 43, _, _, _, _, _⟩) (v := ?_) rfl (by kernel_rfl) (by kernel_rfl) (by kernel_rfl) (fun _ _ _ h => h) (Or.inl ⟨by rfl, ?_⟩) (by assumption) ?_
    rotate_left
    · intro w hSw; (try dsimp only at hSw); go_simp; try with_reducible rfl
    simp only [Act.put, List.setIfInBounds_toArray, List.set_cons_zero, List.set_cons_succ]
    refine wpAnyH_ready (rs := [1]) (by kernel_rfl) (by simp) ?_
    refine AllReadyH.cons (o := ⟨some 33, _, _, _, _, _⟩) rfl (fun Kq hKq => ?_) AllReadyH.nil
    go_simp
    go_at_call 32
    refine (spow 2 z _ (by omega) (by omega) (by omega) (by omega)).mono ?_
    rintro e w2 ⟨rfl, rfl⟩
    refine hKq.out _ _ (⟨K.out.c0, K.out.c1, K.out.c2, K.out.c3⟩) (fun hHeld => ?_)
    clear hKq Kq
    refine wpAnyH_ready (rs := [6]) (by kernel_rfl) (by simp) ?_
    refine AllReadyH.cons (o := ⟨some 38, _, _, _, _, _⟩) rfl (fun Kq hKq => ?_) AllReadyH.nil
    go_simp
    go_at_call 107
    refine (s4at _ _ nc _ zc m HC.out hl2 HCK.out HMK.out).mono ?_
    rintro e w3 ⟨rfl, hg⟩
    rw [← HAT.out]
    clear k0 k1 k2 k3
    replace G := Lib.hid (gtr G.out hg)
    replace K := Lib.hid (K.out.kept hg)
    replace HG := Lib.hid (HG.out.kept hg)
    replace HC := Lib.hid (HC.out.kept hg)
    replace HM := Lib.hid (HM.out.kept hg)
    clear hg
    obtain ⟨_, k0, k1, k2, k3⟩ := K.out
    refine hKq.out _ _ (⟨K.out.c0, K.out.c1, K.out.c2, K.out.c3⟩) (fun hHeld => ?_)
    clear hKq Kq
    refine wpAnyH_ready (rs := [12]) (by kernel_rfl) (by simp) ?_
    refine AllReadyH.cons (o := ⟨some 44, _, _, _, _, _⟩) rfl (fun Kq hKq => ?_) AllReadyH.nil
    go_simp
    go_at_call 106
    refine (s31often _ need many _ ng _ zg _ nc _ zc _ nm _ zm m r msg HG.out HC.out HM.out hl1 hl2 hl3 H1.out H2.out H3.out).mono ?_
    rintro e w4 ⟨rfl, hg⟩
    clear k0 k1 k2 k3
    replace G := Lib.hid (gtr G.out hg)
    replace K := Lib.hid (K.out.kept hg)
    replace HG := Lib.hid (HG.out.kept hg)
    replace HC := Lib.hid (HC.out.kept hg)
    replace HM := Lib.hid (HM.out.kept hg)
    clear hg
    obtain ⟨_, k0, k1, k2, k3⟩ := K.out
    refine hKq.out _ _ (⟨K.out.c0, K.out.c1, K.out.c2, K.out.c3⟩) (fun hHeld => ?_)
    clear hKq Kq
    refine wpAnyH_ready (rs := [13]) (by kernel_rfl) (by simp) ?_
    refine AllReadyH.cons (o := ⟨some 45, _, _, _, _, _⟩) rfl (fun Kq hKq => ?_) AllReadyH.nil
    go_simp
    go_at_call 32
    refine (spow _ _ _ (by omega) (by omega) (by omega) (by omega)).mono ?_
    rintro e w5 ⟨rfl, rfl⟩
    refine hKq.out _ _ (⟨K.out.c0, K.out.c1, K.out.c2, K.out.c3⟩) (fun hHeld => ?_)
    clear hKq Kq
    refine wpAnyH_take (i := 14) (oi := ⟨some 46, _, _, _, _, _⟩) (v := ?_) rfl (by kernel_rfl) (by kernel_rfl) (by kernel_rfl) (fun _ _ _ h => h) (Or.inl ⟨by rfl, ?_⟩) (by assumption) ?_
    rotate_left
    · intro w hSw; (try dsimp only at hSw); go_simp; try with_reducible rfl
    simp only [Act.put, List.setIfInBounds_toArray, List.set_cons_zero, List.set_cons_succ]
    refine wpAnyH_take (i := 15) (oi := ⟨some 47, _, _, _, _, _⟩) (v := ?_) rfl (by kernel_rfl) (by kernel_rfl) (by kernel_rfl) (fun _ _ _ h => h) (Or.inl ⟨by rfl, ?_⟩) (by assumption) ?_
    rotate_left
    · intro w hSw; (try dsimp only at hSw); go_simp; try with_reducible rfl
    simp only [Act.put, List.setIfInBounds_toArray, List.set_cons_zero, List.set_cons_succ]
    refine wpAnyH_take (i := 16) (oi := ⟨some 48, _, _, _, _, _⟩) (v := ?_) rfl (by kernel_rfl) (by kernel_rfl) (by kernel_rfl) (fun _ _ _ h => h) (Or.inl ⟨by rfl, ?_⟩) (by assumption) ?_
    rotate_left
    · intro w hSw; (try dsimp only at hSw); go_simp; try with_reducible rfl
    simp only [Act.put, List.setIfInBounds_toArray, List.set_cons_zero, List.set_cons_succ]
    refine wpAnyH_take (i := 17) (oi := ⟨some 14, _, _, _, _, _⟩) (v := ?_) rfl (by kernel_rfl) (by kernel_rfl) (by kernel_rfl) (fun _ _ _ h => h) (Or.inl ⟨by rfl, ?_⟩) (by assumption) ?_
    rotate_left
    · intro w hSw; (try dsimp only at hSw); go_simp; try with_reducible rfl
    simp only [Act.put, List.setIfInBounds_toArray, List.set_cons_zero, List.set_cons_succ]
    refine wpAnyH_done (by kernel_rfl) ?_ _
    go_wp2
    go_ret
    exact ⟨ret_b (by rw [HN.out, HWR.out]), G.out⟩
end Con
end Go.Proofs.YteibklnonlapoaaGreatDoor
