/-
  Sessions: the model's SessionSig.
-/
import Derived.Test.YteibklnonlapoaaGreatDoorTc
namespace Go.Proofs.YteibklnonlapoaaGreatDoor
namespace Con
open Go.RowKit Alg Mem Draw Hd
set_option linter.unusedVariables false

/-- Have all put their parts in? -/
def onA (S : Nat → SV) : Nat → Bool
  | 0 => true
  | k + 1 => onA S k && (S k).on
theorem onA_iff {S : Nat → SV} {n : Nat} : onA S n = true ↔ ∀ j, j < n → (S j).on = true := by
  induction n with
  | zero => simp [onA]
  | succ n ih =>
    simp only [onA, Bool.and_eq_true, ih]
    exact ⟨fun h j hj => by rcases Nat.lt_or_ge j n with h' | h'; exact h.1 j h'; obtain rfl : j = n := by omega
                            exact h.2, fun h => ⟨fun j hj => h j (by omega), h n (by omega)⟩⟩
theorem onA_no {S : Nat → SV} {n k : Nat} (hk : k < n) (h : (S k).on = false) : onA S n = false := by
  cases h' : onA S n with
  | false => rfl
  | true => rw [onA_iff.1 h' k hk] at h; cases h
/-- Is there a signature? -/
def sgO (need many : Int) (ng : Nat) (zg : Nat → Int) (nc : Nat) (zc : Nat → Int) (msg : Int) (n : Nat) (S : Nat → SV) : Bool := tsF need many ng zg nc zc msg n S && ((tbL need many ng zg nc zc msg n S n).length == 0 && onA S n)
def ssV (need many : Int) (ng : Nat) (zg : Nat → Int) (nc : Nat) (zc : Nat → Int) (msg : Int) (n : Nat) (S : Nat → SV) : Value :=
  if sgO need many ng zg nc zc msg n S then .tuple #[.agg #[.int .i64 (rP S n), .int .i64 (zP S n)], .bool true] else .tuple #[.agg #[.int .i64 0, .int .i64 0], .bool false]
theorem ssV_yes {need many : Int} {ng : Nat} {zg : Nat → Int} {nc : Nat} {zc : Nat → Int} {msg : Int} {n : Nat} {S : Nat → SV} (h : tsF need many ng zg nc zc msg n S = true ∧ (tbL need many ng zg nc zc msg n S n).length = 0 ∧ onA S n = true) : ssV need many ng zg nc zc msg n S = .tuple #[.agg #[.int .i64 (rP S n), .int .i64 (zP S n)], .bool true] := by
  unfold ssV; rw [if_pos (by unfold sgO; simp only [h.1, h.2.1, h.2.2]; rfl)]
theorem ssV_no {need many : Int} {ng : Nat} {zg : Nat → Int} {nc : Nat} {zc : Nat → Int} {msg : Int} {n : Nat} {S : Nat → SV} (h : ¬ (tsF need many ng zg nc zc msg n S = true ∧ (tbL need many ng zg nc zc msg n S n).length = 0 ∧ onA S n = true)) : ssV need many ng zg nc zc msg n S = .tuple #[.agg #[.int .i64 0, .int .i64 0], .bool false] := by
  unfold ssV; rw [if_neg (fun e => h (by unfold sgO at e; simpa using e))]
def ssR (need many : Int) (ng : Nat) (zg : Nat → Int) (nc : Nat) (zc : Nat → Int) (msg : Int) (n : Nat) (S : Nat → SV) : Int := if sgO need many ng zg nc zc msg n S then rP S n else 0
def ssZ (need many : Int) (ng : Nat) (zg : Nat → Int) (nc : Nat) (zc : Nat → Int) (msg : Int) (n : Nat) (S : Nat → SV) : Int := if sgO need many ng zg nc zc msg n S then zP S n else 0
theorem ssV_eq {need many : Int} {ng : Nat} {zg : Nat → Int} {nc : Nat} {zc : Nat → Int} {msg : Int} {n : Nat} {S : Nat → SV} : ssV need many ng zg nc zc msg n S = .tuple #[.agg #[.int .i64 (ssR need many ng zg nc zc msg n S), .int .i64 (ssZ need many ng zg nc zc msg n S)], .bool (sgO need many ng zg nc zc msg n S)] := by
  unfold ssV ssR ssZ
  cases sgO need many ng zg nc zc msg n S <;> rfl
set_option maxRecDepth 100000 in
set_option maxHeartbeats 4000000 in
theorem ssesSig (w : World) (need many : Int) (ag : Option Addr) (ng cg : Nat) (zg : Nat → Int) (ac : Option Addr) (nc cc : Nat) (zc : Nat → Int) (msg : Int) (a : Option Addr) (len cap : Nat) (S : Nat → SV) (hG : Ints w ag ng zg) (hC : Ints w ac nc zc) (hS : ShIn w a len S) (hl1 : ng ≤ 2000000) (hl2 : nc ≤ 2000000) (hl : len ≤ 2000000) :
    Calls Tryz.prog 24 #[.agg #[.int .i64 need, .int .i64 many, .slice ag ng cg, .slice ac nc cc, .int .i64 msg, .slice a len cap]] w fun e w' => e = .returned (ssV need many ng zg nc zc msg len S) ∧ w.grownBy w' none := by
  have G := Lib.hid (gtr (Draw.grown_alloc w (.cells #[.int .i64 need, .int .i64 many, .slice ag ng cg, .slice ac nc cc, .int .i64 msg, .slice a len cap] 30) none) (Draw.grown_alloc _ (.cells #[.int .i64 0, .int .i64 0] 37) none))
  have K := Lib.hid ((Ss.of_blk (Blk.new w #[.int .i64 need, .int .i64 many, .slice ag ng cg, .slice ac nc cc, .int .i64 msg, .slice a len cap] 30)).kept (Draw.grown_alloc _ (.cells #[.int .i64 0, .int .i64 0] 37) none))
  have R := Lib.hid (blk_new2 w (.cells #[.int .i64 need, .int .i64 many, .slice ag ng cg, .slice ac nc cc, .int .i64 msg, .slice a len cap] 30) #[.int .i64 0, .int .i64 0] 37)
  have HG := Lib.hid (hG.kept G.out); have HC := Lib.hid (hC.kept G.out); have HA := Lib.hid (hS.kept G.out)
  clear hG hC hS
  go_enter Tryz.func24, Tryz.ntmps24
  obtain ⟨_, k0, k1, k2, k3, k4, k5⟩ := K.out
  go_wp2_with fail
  refine (s32ok _ need many _ ng _ zg _ nc _ zc msg _ len _ S HG.out HC.out HA.out hl1 hl2 hl).mono ?_
  rintro e w1 ⟨rfl, hg⟩
  clear k0 k1 k2 k3 k4 k5
  replace G := Lib.hid (gtr G.out hg)
  replace K := Lib.hid (K.out.kept hg)
  replace R := Lib.hid (R.out.keptN hg)
  replace HG := Lib.hid (HG.out.kept hg)
  replace HC := Lib.hid (HC.out.kept hg)
  replace HA := Lib.hid (HA.out.kept hg)
  clear hg
  obtain ⟨_, k0, k1, k2, k3, k4, k5⟩ := K.out
  cases h1 : tsF need many ng zg nc zc msg len S with
  | false =>
    have HN := Lib.hid (show ¬ (tsF need many ng zg nc zc msg len S = true ∧ (tbL need many ng zg nc zc msg len S len).length = 0 ∧ onA S len = true) by rw [h1]; simp)
    go_wp2_with (first
      | (refine wpList_store_blk rfl 37 (.tmp 2) (.tmp 15) _ _ _ 37 R.out rfl rfl rfl rfl (by kernel_rfl) (by simp [Value.oneCell']) rfl ?_; intro V hgV hRV; have HGV := Lib.hid hgV; have HRV := Lib.hid hRV; clear hgV hRV))
    (try simp only [Exit.inBlock, Exit.then])
    refine bodyPost_ret (ret_sb rfl _ rfl HRV.out) rfl ?_
    exact ⟨by rw [ssV_no HN.out]; rfl, grown_new G.out (by omega) HGV.out⟩
  | true =>
    go_wp2_with fail
    refine (s32bad _ need many _ ng _ zg _ nc _ zc msg _ len _ S HG.out HC.out HA.out hl1 hl2 hl h1).mono ?_
    rintro e w2 ⟨v, rfl, hL, hg⟩
    clear k0 k1 k2 k3 k4 k5
    replace G := Lib.hid (gtr G.out hg)
    replace K := Lib.hid (K.out.kept hg)
    replace R := Lib.hid (R.out.keptN hg)
    replace HG := Lib.hid (HG.out.kept hg)
    replace HC := Lib.hid (HC.out.kept hg)
    replace HA := Lib.hid (HA.out.kept hg)
    clear hg
    obtain ⟨_, k0, k1, k2, k3, k4, k5⟩ := K.out
    obtain ⟨av, cv, rfl, _, _, _⟩ := hL.slice
    clear hL
    generalize hq : (tbL need many ng zg nc zc msg len S len).length = q
    by_cases h2 : q = 0
    case neg =>
      have HN := Lib.hid (show ¬ (tsF need many ng zg nc zc msg len S = true ∧ (tbL need many ng zg nc zc msg len S len).length = 0 ∧ onA S len = true) by rw [hq]; exact fun h => h2 h.2.1)
      have hpos : (0 : Int) < (q : Int) := by omega
      go_wp2_with (first
        | (refine wpList_store_blk rfl 37 (.tmp 2) (.tmp 15) _ _ _ 37 R.out rfl rfl rfl rfl (by kernel_rfl) (by simp [Value.oneCell']) rfl ?_; intro V hgV hRV; have HGV := Lib.hid hgV; have HRV := Lib.hid hRV; clear hgV hRV))
      (try simp only [Exit.inBlock, Exit.then])
      refine bodyPost_ret (ret_sb rfl _ rfl HRV.out) rfl ?_
      exact ⟨by rw [ssV_no HN.out]; rfl, grown_new G.out (by omega) HGV.out⟩
    subst h2
    have hpos : ¬ (0 : Int) < ((0 : Nat) : Int) := by omega
    go_wp2
    go_loop [4, 5] (fun v i => ∃ k : Nat, k ≤ len ∧ v = .int .i64 (zP S k) ∧ i = .int .i64 k ∧ onA S k = true) (fun _ i => len - (intOf i).toNat)
    case atStart => exact ⟨0, by omega, rfl, rfl, rfl⟩
    case round =>
      obtain ⟨k, hk, rfl, rfl, hz⟩ := hrel
      have HZ := Lib.hid hz; clear hz
      by_cases hlt : k < len
      · obtain ⟨b, off, rfl, hb, hcc⟩ := HA.out.ptr (by omega)
        obtain ⟨x0, x1, x2, x3⟩ := hcc k hlt
        clear hcc
        cases ho : (S k).on with
        | false =>
          rw [ho] at x2
          have HN := Lib.hid (show ¬ (tsF need many ng zg nc zc msg len S = true ∧ (tbL need many ng zg nc zc msg len S len).length = 0 ∧ onA S len = true) by rw [onA_no hlt ho]; simp)
          go_wp2_with (first
            | (refine wpList_store_blk rfl 37 (.tmp 2) (.tmp 30) _ _ _ 37 R.out rfl rfl rfl rfl (by kernel_rfl) (by simp [Value.oneCell']) rfl ?_; intro V hgV hRV; have HGV := Lib.hid hgV; have HRV := Lib.hid hRV; clear hgV hRV))
          (try simp only [Exit.inBlock, Exit.then])
          refine bodyPost_ret (ret_sb rfl _ rfl HRV.out) rfl ?_
          exact ⟨by rw [ssV_no HN.out]; rfl, grown_new G.out (by omega) HGV.out⟩
        | true =>
          rw [ho] at x2
          have HN := Lib.hid (show onA S (k + 1) = true by simp [onA, HZ.out, ho])
          go_wp2_with fail
          refine (ssum (zP S k) (S k).Z _).mono ?_
          rintro e w' ⟨rfl, rfl⟩
          go_wp2
          go_round
          case rel => exact ⟨k + 1, by omega, rfl, by go_num, HN.out⟩
          case measure => simp [intOf]; omega
      · obtain rfl : k = len := by omega
        have HN := Lib.hid (show tsF need many ng zg nc zc msg k S = true ∧ (tbL need many ng zg nc zc msg k S k).length = 0 ∧ onA S k = true from ⟨h1, hq, HZ.out⟩)
        go_wp2_with fail
        refine (s32R _ need many _ ng _ zg _ nc _ zc msg _ k _ S HA.out hl (so_R h1)).mono ?_
        rintro e w3 ⟨rfl, hg⟩
        clear k0 k1 k2 k3 k4 k5
        replace G := Lib.hid (gtr G.out hg)
        replace K := Lib.hid (K.out.kept hg)
        replace R := Lib.hid (R.out.keptN hg)
        replace HG := Lib.hid (HG.out.kept hg)
        replace HC := Lib.hid (HC.out.kept hg)
        replace HA := Lib.hid (HA.out.kept hg)
        clear hg
        obtain ⟨_, k0, k1, k2, k3, k4, k5⟩ := K.out
        go_wp2_with (first
          | (refine wpList_store_blk rfl 37 (.tmp 2) (.tmp 42) _ _ _ 37 R.out rfl rfl rfl rfl (by kernel_rfl) (by simp [Value.oneCell']) rfl ?_; intro V hgV hRV; have HGV := Lib.hid hgV; have HRV := Lib.hid hRV; clear hgV hRV))
        (try simp only [Exit.inBlock, Exit.then])
        refine bodyPost_ret (ret_sb rfl _ rfl HRV.out) rfl ?_
        exact ⟨by rw [ssV_yes HN.out]; rfl, grown_new G.out (by omega) HGV.out⟩
end Con
end Go.Proofs.YteibklnonlapoaaGreatDoor
