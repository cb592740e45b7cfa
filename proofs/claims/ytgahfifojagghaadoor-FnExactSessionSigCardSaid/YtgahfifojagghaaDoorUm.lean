/-
  Sessions: the program's SessionSig.
-/
import Derived.Test.YtgahfifojagghaaDoorUf
namespace Go.Proofs.YtgahfifojagghaaDoor
namespace Con
open Go.RowKit Alg Mem Draw Hd
set_option linter.unusedVariables false

set_option maxRecDepth 100000 in
set_option maxHeartbeats 4000000 in
theorem isesSig (w : World) (need many : Int) (ag : Option Addr) (ng cg : Nat) (zg : Nat → Int) (ac : Option Addr) (nc cc : Nat) (zc : Nat → Int) (msg : Int) (a : Option Addr) (len cap : Nat) (S : Nat → SV) (a0 : Addr) (hG : Ints w ag ng zg) (hC : Ints w ac nc zc) (hS : ShIn w a len S) (hl1 : ng ≤ 2000000) (hl2 : nc ≤ 2000000) (hl : len ≤ 2000000) (hN : Np w a0) :
    Calls Tryd.prog 7 #[.agg #[.int .i64 need, .int .i64 many, .slice ag ng cg, .slice ac nc cc, .int .i64 msg, .slice a len cap]] w fun e w' => e = .returned (ssV need many ng zg nc zc msg len S) ∧ w.grownBy w' none := by
  have G := Lib.hid (gtr (Draw.grown_alloc w (.cells #[.int .i64 need, .int .i64 many, .slice ag ng cg, .slice ac nc cc, .int .i64 msg, .slice a len cap] 36) none) (Draw.grown_alloc _ (.cells #[.int .i64 0, .int .i64 0] 30) none))
  have K := Lib.hid ((Ss.of_blk (Blk.new w #[.int .i64 need, .int .i64 many, .slice ag ng cg, .slice ac nc cc, .int .i64 msg, .slice a len cap] 36)).kept (Draw.grown_alloc _ (.cells #[.int .i64 0, .int .i64 0] 30) none))
  have R := Lib.hid (blk_new2 w (.cells #[.int .i64 need, .int .i64 many, .slice ag ng cg, .slice ac nc cc, .int .i64 msg, .slice a len cap] 36) #[.int .i64 0, .int .i64 0] 30)
  have HG := Lib.hid (hG.kept G.out); have HC := Lib.hid (hC.kept G.out); have HA := Lib.hid (hS.kept G.out); have HN := Lib.hid (hN.kept G.out)
  clear hG hC hS hN
  go_enter Tryd.func7, Tryd.ntmps7
  obtain ⟨_, k0, k1, k2, k3, k4, k5⟩ := K.out
  go_wp2_with fail
  clear k0 k1 k2 k3 k4 k5
  refine (isit _ need many _ ng _ zg _ nc _ zc msg _ len _ S HG.out HC.out HA.out hl1 hl2 hl).mono ?_
  rintro e w1 hs
  unfold Sit at hs
  cases h1 : tsF need many ng zg nc zc msg len S with
  | false =>
    rw [if_neg (by rw [h1]; decide)] at hs
    obtain ⟨rfl, hg⟩ := hs
    have HNO := Lib.hid (show ¬ (tsF need many ng zg nc zc msg len S = true ∧ (tbL need many ng zg nc zc msg len S len).length = 0 ∧ onA S len = true) by rw [h1]; simp)
    replace G := Lib.hid (gtr G.out hg)
    replace K := Lib.hid (K.out.kept hg)
    replace R := Lib.hid (R.out.keptN hg)
    replace HG := Lib.hid (HG.out.kept hg)
    replace HC := Lib.hid (HC.out.kept hg)
    replace HA := Lib.hid (HA.out.kept hg)
    replace HN := Lib.hid (HN.out.kept hg)
    clear hg
    have hg := Draw.grown_alloc w1 (.cells #[.int .i64 0, .int .i64 0, .slice none 0 0, .slice none 0 0, .int .i64 0, .slice none 0 0, .int .i64 0] 52) none
    replace G := Lib.hid (gtr G.out hg)
    replace K := Lib.hid (K.out.kept hg)
    replace R := Lib.hid (R.out.keptN hg)
    replace HG := Lib.hid (HG.out.kept hg)
    replace HC := Lib.hid (HC.out.kept hg)
    replace HA := Lib.hid (HA.out.kept hg)
    replace HN := Lib.hid (HN.out.kept hg)
    clear hg
    go_wp2_with (first
      | (refine wpList_store_blk rfl 30 (.tmp 2) (.tmp 16) _ _ _ 30 R.out rfl rfl rfl rfl (by kernel_rfl) (by simp [Value.oneCell']) rfl ?_; intro V hgV hRV; have HGV := Lib.hid hgV; have HRV := Lib.hid hRV; clear hgV hRV))
    (try simp only [Exit.inBlock, Exit.then])
    refine bodyPost_ret (ret_sb rfl _ rfl HRV.out) rfl ?_
    exact ⟨by rw [ssV_no HNO.out]; rfl, grown_new G.out (by omega) HGV.out⟩
  | true =>
    rw [if_pos h1] at hs
    obtain ⟨bm, rfl, hM, hg⟩ := hs
    have H1 := Lib.hid h1; clear h1
    replace G := Lib.hid (gtr G.out hg)
    replace K := Lib.hid (K.out.kept hg)
    replace R := Lib.hid (R.out.keptN hg)
    replace HG := Lib.hid (HG.out.kept hg)
    replace HC := Lib.hid (HC.out.kept hg)
    replace HA := Lib.hid (HA.out.kept hg)
    replace HN := Lib.hid (HN.out.kept hg)
    clear hg
    have M := Lib.hid hM; clear hM
    have hg := Draw.grown_alloc w1 (.cells #[.int .i64 need, .int .i64 many, .slice ag ng cg, .slice ac nc cc, .int .i64 msg, .slice (some ⟨bm, 0, none⟩) len len, .int .i64 (rP S len)] 52) none
    have T := Lib.hid (Blk.new w1 #[.int .i64 need, .int .i64 many, .slice ag ng cg, .slice ac nc cc, .int .i64 msg, .slice (some ⟨bm, 0, none⟩) len len, .int .i64 (rP S len)] 52)
    replace G := Lib.hid (gtr G.out hg)
    replace K := Lib.hid (K.out.kept hg)
    replace R := Lib.hid (R.out.keptN hg)
    replace HG := Lib.hid (HG.out.kept hg)
    replace HC := Lib.hid (HC.out.kept hg)
    replace HA := Lib.hid (HA.out.kept hg)
    replace HN := Lib.hid (HN.out.kept hg)
    replace M := Lib.hid (M.out.kept hg)
    clear hg
    obtain ⟨_, k0, k1, k2, k3, k4, k5⟩ := K.out
    have C0 := Lib.hid (Draw.grown_refl (w1.alloc (.cells #[.int .i64 need, .int .i64 many, .slice ag ng cg, .slice ac nc cc, .int .i64 msg, .slice (some ⟨bm, 0, none⟩) len len, .int .i64 (rP S len)] 52)) none)
    go_wp2
    go_loopw [6, 20] (fun v i W => ∃ k : Nat, k ≤ len ∧ v = .int .i64 (zP S k) ∧ i = .int .i64 k ∧ (∀ j, j < k → (S j).on = true ∧ tbE need many ng zg nc zc msg len S j = false) ∧ (w1.alloc (.cells #[.int .i64 need, .int .i64 many, .slice ag ng cg, .slice ac nc cc, .int .i64 msg, .slice (some ⟨bm, 0, none⟩) len len, .int .i64 (rP S len)] 52)).grownBy W none) (fun _ i _ => len - (intOf i).toNat)
    case atStart => exact ⟨0, by omega, rfl, rfl, fun j hj => by omega, C0.out⟩
    case round =>
      clear k0 k1 k2 k3 k4 k5 C0
      obtain ⟨k, hk, rfl, rfl, hall, hg⟩ := hrel
      obtain ⟨W1, hW⟩ : ∃ W, W = wr := ⟨_, rfl⟩; subst hW
      have HALL := Lib.hid hall
      have C := Lib.hid hg
      clear hall
      replace G := Lib.hid (gtr G.out hg)
      replace K := Lib.hid (K.out.kept hg)
      replace R := Lib.hid (R.out.keptN hg)
      replace HG := Lib.hid (HG.out.kept hg)
      replace HC := Lib.hid (HC.out.kept hg)
      replace HA := Lib.hid (HA.out.kept hg)
      replace HN := Lib.hid (HN.out.kept hg)
      replace M := Lib.hid (M.out.kept hg)
      replace T := Lib.hid (T.out.keptN hg)
      clear hg
      by_cases hlt : k < len
      · obtain ⟨b, off, rfl, hb, hcc⟩ := HA.out.ptr (by omega)
        obtain ⟨x0, x1, x2, x3⟩ := hcc k hlt
        clear hcc
        go_wp2_with (refine stop_store rfl ?_)
        refine ⟨trivial, ?_⟩
        refine wpList_store_blk rfl 46 (.tmp 8) (.tmp 23) _ #[.int .i64 (S k).m, .int .i64 (S k).R, .bool (S k).on, .int .i64 (S k).Z] _ 46 (Blk.new W1 #[.int .i64 0, .int .i64 0, .bool false, .int .i64 0] 46) rfl rfl rfl rfl (by kernel_rfl) (by simp [Value.oneCell']) rfl ?_
        intro W2 hgV hTV
        have hg : W1.grownBy W2 none := grown_new (grown_alloc W1 (.cells #[.int .i64 0, .int .i64 0, .bool false, .int .i64 0] 46) none) (Nat.le_refl _) hgV
        have B := Lib.hid hTV
        clear hgV hTV x0 x1 x2 x3
        replace G := Lib.hid (gtr G.out hg)
        replace K := Lib.hid (K.out.kept hg)
        replace R := Lib.hid (R.out.keptN hg)
        replace HG := Lib.hid (HG.out.kept hg)
        replace HC := Lib.hid (HC.out.kept hg)
        replace HA := Lib.hid (HA.out.kept hg)
        replace HN := Lib.hid (HN.out.kept hg)
        replace M := Lib.hid (M.out.kept hg)
        replace T := Lib.hid (T.out.keptN hg)
        replace C := Lib.hid (gtr C.out hg)
        clear hg
        generalize W1.heap.size = sb at *
        have t0 : W2.cell? ⟨w1.heap.size, 0, none⟩ = some (.int .i64 need) := T.out.cell 0
        have t1 : W2.cell? ⟨w1.heap.size, 1, none⟩ = some (.int .i64 many) := T.out.cell 1
        have t2 : W2.cell? ⟨w1.heap.size, 2, none⟩ = some (.slice ag ng cg) := T.out.cell 2
        have t3 : W2.cell? ⟨w1.heap.size, 3, none⟩ = some (.slice ac nc cc) := T.out.cell 3
        have t4 : W2.cell? ⟨w1.heap.size, 4, none⟩ = some (.int .i64 msg) := T.out.cell 4
        have t5 : W2.cell? ⟨w1.heap.size, 5, none⟩ = some (.slice (some ⟨bm, 0, none⟩) len len) := T.out.cell 5
        have t6 : W2.cell? ⟨w1.heap.size, 6, none⟩ = some (.int .i64 (rP S len)) := T.out.cell 6
        have b0 : W2.cell? ⟨sb, 0, none⟩ = some (.int .i64 (S k).m) := B.out.cell 0
        have b1 : W2.cell? ⟨sb, 1, none⟩ = some (.int .i64 (S k).R) := B.out.cell 1
        have b2 : W2.cell? ⟨sb, 2, none⟩ = some (.bool (S k).on) := B.out.cell 2
        have b3 : W2.cell? ⟨sb, 3, none⟩ = some (.int .i64 (S k).Z) := B.out.cell 3
        go_wp2_with fail
        clear t0 t1 t2 t3 t4 t5 t6 b0 b1 b2 b3
        refine (iperr _ need many _ ng _ zg _ nc _ zc _ len _ (mS S) msg (rP S len) (S k) a0 HG.out HC.out M.out hl1 hl2 hl (Nat.le_refl _) (by unfold maxLen; omega) HN.out).mono ?_
        rintro e W3 ⟨rfl, hg⟩
        unfold peV
        replace G := Lib.hid (gtr G.out hg)
        replace K := Lib.hid (K.out.kept hg)
        replace R := Lib.hid (R.out.keptN hg)
        replace HG := Lib.hid (HG.out.kept hg)
        replace HC := Lib.hid (HC.out.kept hg)
        replace HA := Lib.hid (HA.out.kept hg)
        replace HN := Lib.hid (HN.out.kept hg)
        replace M := Lib.hid (M.out.kept hg)
        replace T := Lib.hid (T.out.keptN hg)
        replace C := Lib.hid (gtr C.out hg)
        replace B := Lib.hid (B.out.keptN hg)
        clear hg
        have hR3 := R.out.lt
        cases ho : (S k).on with
        | false =>
          have HNO := Lib.hid (show ¬ (tsF need many ng zg nc zc msg len S = true ∧ (tbL need many ng zg nc zc msg len S len).length = 0 ∧ onA S len = true) by rw [onA_no hlt ho]; simp)
          simp only [Bool.false_eq_true, if_false]
          go_wp2_with (first
            | (refine wpList_store_blk rfl 30 (.tmp 2) (.tmp 28) _ _ _ 30 R.out rfl rfl rfl rfl (by kernel_rfl) (by simp [Value.oneCell']) rfl ?_; intro V hgV hRV; have HGV := Lib.hid hgV; have HRV := Lib.hid hRV; clear hgV hRV))
          (try simp only [Exit.inBlock, Exit.then])
          refine bodyPost_ret (ret_sb rfl _ rfl HRV.out) rfl ?_
          exact ⟨by rw [ssV_no HNO.out]; rfl, grown_new G.out (by omega) HGV.out⟩
        | true =>
          cases hf : sfF need many ng zg nc zc len (mS S) (S k).m (S k).R (rP S len) msg (S k).Z with
          | false =>
            have HE : tbE need many ng zg nc zc msg len S k = true := by unfold tbE; rw [ho, hf]; rfl
            have HNO := Lib.hid (show ¬ (tsF need many ng zg nc zc msg len S = true ∧ (tbL need many ng zg nc zc msg len S len).length = 0 ∧ onA S len = true) from fun h => by have := tbL_none.1 h.2.1 k hlt; rw [HE] at this; cases this)
            clear HE
            simp only [Bool.false_eq_true, if_false, if_true]
            go_wp2_with (first
              | (refine wpList_store_blk rfl 30 (.tmp 2) (.tmp 28) _ _ _ 30 R.out rfl rfl rfl rfl (by kernel_rfl) (by simp [Value.oneCell']) rfl ?_; intro V hgV hRV; have HGV := Lib.hid hgV; have HRV := Lib.hid hRV; clear hgV hRV))
            (try simp only [Exit.inBlock, Exit.then])
            refine bodyPost_ret (ret_sb rfl _ rfl HRV.out) rfl ?_
            exact ⟨by rw [ssV_no HNO.out]; rfl, grown_new G.out (by omega) HGV.out⟩
          | true =>
            have HE := Lib.hid (show ∀ j, j < k + 1 → (S j).on = true ∧ tbE need many ng zg nc zc msg len S j = false from fun j hj => by
              rcases (by omega : j < k ∨ j = k) with h | h
              · exact HALL.out j h
              · subst h; exact ⟨ho, by unfold tbE; rw [ho, hf]; rfl⟩)
            clear ho hf
            simp only [if_true]
            have b3 : W3.cell? ⟨sb, 3, none⟩ = some (.int .i64 (S k).Z) := B.out.cell 3
            go_wp2_with fail
            refine (isum (zP S k) (S k).Z _).mono ?_
            rintro e w' ⟨rfl, rfl⟩
            clear b3
            go_wp2
            go_roundw
            case rel => exact ⟨k + 1, by omega, rfl, by go_num, HE.out, C.out⟩
            case measure => simp [intOf]; omega
      · obtain rfl : k = len := by omega
        have HNO := Lib.hid (show tsF need many ng zg nc zc msg k S = true ∧ (tbL need many ng zg nc zc msg k S k).length = 0 ∧ onA S k = true from ⟨H1.out, tbL_none.2 fun j hj => (HALL.out j hj).2, onA_iff.2 fun j hj => (HALL.out j hj).1⟩)
        have t6 : W1.cell? ⟨w1.heap.size, 6, none⟩ = some (.int .i64 (rP S k)) := T.out.cell 6
        have hR3 := R.out.lt
        go_wp2_with (first
          | (refine wpList_store_blk rfl 30 (.tmp 2) (.tmp 37) _ _ _ 30 R.out rfl rfl rfl rfl (by kernel_rfl) (by simp [Value.oneCell']) rfl ?_; intro V hgV hRV; have HGV := Lib.hid hgV; have HRV := Lib.hid hRV; clear hgV hRV))
        (try simp only [Exit.inBlock, Exit.then])
        refine bodyPost_ret (ret_sb rfl _ rfl HRV.out) rfl ?_
        exact ⟨by rw [ssV_yes HNO.out]; rfl, grown_new G.out (by omega) HGV.out⟩
end Con
end Go.Proofs.YtgahfifojagghaaDoor
