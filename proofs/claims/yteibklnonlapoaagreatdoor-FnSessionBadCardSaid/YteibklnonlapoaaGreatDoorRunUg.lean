/-
  The walk of the law on whose parts are wrong.
-/
import Derived.Test.YteibklnonlapoaaGreatDoorUd
import Derived.Test.YteibklnonlapoaaGreatDoorUz
import Derived.Test.YteibklnonlapoaaGreatDoorUc
import Derived.Test.YteibklnonlapoaaGreatDoorTd
import Derived.Deep.RegionHeld3
namespace Go.Proofs.YteibklnonlapoaaGreatDoor
namespace Run
open Go.RowKit Alg Mem Con Mp Hd Draw
set_option linter.unusedVariables false
theorem lpinG (w : World) (a : Option Addr) (len cap : Nat) (z : Nat → Int) (n : Int) (hI : Ints w a len z) (hl : len ≤ 2000000) :
    Calls Tryz.prog 22 #[.slice a len cap, .int .i64 n] w fun e w' => e = .returned (.bool (hasz z n len)) ∧ w = w' := by
  go_enter Tryz.func22, Tryz.ntmps22
  go_wp2
  go_loop [5] (fun i => ∃ k : Nat, k ≤ len ∧ i = .int .i64 k ∧ hasz z n k = false) (fun i => len - (intOf i).toNat)
  case atStart => exact ⟨0, by omega, rfl, rfl⟩
  case round =>
    obtain ⟨k, hk, rfl, hz⟩ := hrel
    have HZ := Lib.hid hz; clear hz
    by_cases hlt : k < len
    · rcases hI with h | ⟨b, off, rfl, hb, hc⟩
      · omega
      have hcx := hc k hlt
      clear hc
      by_cases he : z k = n
      · have HR := Lib.hid (hasz_yes hlt he)
        have ht : (z k == n) = true := by simpa using he
        clear he
        go_wp2
        go_ret
        exact ⟨Mem.ret_b HR.out.symm, rfl⟩
      · have HR := Lib.hid (hasz_next HZ.out he)
        have ht : (z k == n) = false := by simpa using he
        clear he
        go_wp2
        go_round
        case rel => exact ⟨k + 1, by omega, by go_num, HR.out⟩
        case measure => simp [intOf]; omega
    · obtain rfl : k = len := by omega
      clear hI
      go_wp2
      go_ret
      exact ⟨Mem.ret_b HZ.out.symm, rfl⟩
theorem hasz_liG (l : List Int) (x : Int) : hasz (li l) x l.length = decide (x ∈ l) := by
  apply Bool.eq_iff_iff.2
  rw [hasz_iff, decide_eq_true_eq]
  constructor
  · rintro ⟨j, hj, e⟩
    have h : li l j = l[j] := by unfold li; simp [hj]
    rw [← e, h]; exact List.getElem_mem hj
  · intro h
    obtain ⟨j, hj, e⟩ := List.getElem_of_mem h
    exact ⟨j, hj, by unfold li; simp [hj, e]⟩

set_option maxRecDepth 100000 in
set_option maxHeartbeats 1000000 in
theorem lpofB (w : World) (need many : Int) (s1 s2 : Value) (msg : Int) (a : Option Addr) (len cap : Nat) (S : Nat → SV) (hS : ShIn w a len S) (hl : len ≤ 2000000) :
    Calls Tryz.prog 20 #[.agg #[.int .i64 need, .int .i64 many, s1, s2, .int .i64 msg, .slice a len cap]] w (Own1 3 w len (mS S)) := by
  have G0 := Lib.hid (Draw.grown_alloc w (.cells #[.int .i64 need, .int .i64 many, s1, s2, .int .i64 msg, .slice a len cap] 30) none)
  have K := Lib.hid (Ss.of_blk (Blk.new w #[.int .i64 need, .int .i64 many, s1, s2, .int .i64 msg, .slice a len cap] 30))
  have HA := Lib.hid (hS.kept G0.out); clear hS
  have hs0 : (w.alloc (.cells #[.int .i64 need, .int .i64 many, s1, s2, .int .i64 msg, .slice a len cap] 30)).heap.size = w.heap.size + 1 := by show (w.heap.push _).size = _; simp
  have he := row_empty (w.alloc (.cells #[.int .i64 need, .int .i64 many, s1, s2, .int .i64 msg, .slice a len cap] 30)) 3 (mS S)
  rw [hs0] at he
  have HE := Lib.hid he; have HS0 := Lib.hid hs0; clear he hs0
  obtain ⟨i0, hi, hz0, hz1, hz2⟩ := info_parts info_int
  go_enter Tryz.func20, Tryz.ntmps20
  go_wp2
  go_loopw [3, 4] (fun v i wr => ∃ k b c : Nat, k ≤ len ∧ v = .slice (some ⟨b, 0, none⟩) k c ∧ i = .int .i64 k ∧ Row wr (w.heap.size + 1) 3 b k c (mS S) ∧ (w.alloc (.cells #[.int .i64 need, .int .i64 many, s1, s2, .int .i64 msg, .slice a len cap] 30)).grownBy wr none) (fun _ i _ => len - (intOf i).toNat)
  case atStart => exact ⟨0, w.heap.size + 1, 0, by omega, rfl, rfl, HE.out, Draw.grown_alloc _ _ _⟩
  case round =>
    obtain ⟨k, bo, co, hk, rfl, rfl, hr, hg⟩ := hrel
    have HG := Lib.hid hg; have hge := hr.from_; have HW := Lib.hid hr; clear hg hr
    have HK := Lib.hid (K.out.kept HG.out)
    obtain ⟨_, k0, k1, k2, k3, k4, k5⟩ := HK.out
    have hsz := HG.out.size
    rw [HS0.out] at hsz
    by_cases hka : k < len
    · have hlt : (k : Int) < (len : Int) := by omega
      obtain ⟨b1, o1, rfl, hb1, hc1⟩ := (HA.out.kept HG.out).ptr (by omega)
      obtain ⟨x0, x1, x2, x3⟩ := hc1 k hka
      clear hc1 x1 x2 x3
      go_wp2_with (at_builtin; refine wpList_append_own _ rfl _ _ 23 rfl (w.heap.size + 1) 3 i0 (.int .i64 0) 1 8 und_ints hi hz0 hz1 hz2 rfl (by decide) _ k (vals (mS S) k) rfl (HW.out.alloc _).owns ⟨wr.heap.size, 0, none⟩ 1 1 [.int .i64 (S k).m] rfl rfl (cell_one_new _ _ _) (by simp [Value.oneCell']) (by unfold maxLen; omega) (by omega) (by simp; omega) ?_; intro v' w1 hown' hgrow _)
      obtain ⟨b', cap', rfl, hrow⟩ := app_row hown' (show (S k).m = mS S k from rfl)
      have HR := Lib.hid hrow; have HGr := Lib.hid (app_grown HG.out (by rw [HS0.out]; exact hge) hgrow)
      clear hown' hgrow hrow
      go_wp2
      go_roundw
      case rel => exact ⟨k + 1, b', cap', by omega, rfl, by go_num, HR.out, HGr.out⟩
      case measure => simp [intOf]; omega
    · obtain rfl : k = len := by omega
      go_wp2
      go_ret
      exact ⟨_, _, rfl, HW.out.lower (by omega), gtr G0.out HG.out⟩
theorem has_own {need many : Int} {ng : Nat} {zg : Nat → Int} {nc : Nat} {zc : Nat → Int} {msg : Int} {n : Nat} {S : Nat → SV} (h : tsF need many ng zg nc zc msg n S = true) {k : Nat} (hk : k < n) :
    hasz (li (tbL need many ng zg nc zc msg n S n)) (S k).m (tbL need many ng zg nc zc msg n S n).length = tbE need many ng zg nc zc msg n S k := by
  rw [hasz_liG]
  apply Bool.eq_iff_iff.2
  rw [decide_eq_true_eq]
  exact tb_in h hk
set_option maxRecDepth 100000 in
set_option maxHeartbeats 8000000 in
theorem FnSessionBad (a : Option Addr) (len cap : Nat) (w : World) (hB : Draw.Bytes w w.heap.size a len) (hc : len ≤ cap) (hm : cap ≤ maxLen) (ad : Addr) (hv : Np w ad) (he : Et w) :
    Calls Tryz.prog 4 #[.slice a len cap] w (Yes w) := by
  by_cases hbig : 1048576 < len
  · have hbig' : (1048576 : Int) < (len : Int) := by omega
    clear hB
    go_enter Tryz.func4, Tryz.ntmps4
    go_wp2
    go_ret
    exact ⟨rfl, Below.refl _ _⟩
  have hbig' : ¬ (1048576 : Int) < (len : Int) := by omega
  have HN := Lib.hid hv; have HT := Lib.hid he; clear hv he
  go_enter Tryz.func4, Tryz.ntmps4
  go_wp2_with fail
  refine (Draw.drawSesBad _ a len cap hB hc hm).mono ?_
  rintro e w1 ⟨need, many, ag, ng, cg, zg, ac, nc, cc, zc, msg, a3, n, c3, S, rfl, hq1, hq2, hq3, ⟨hb1, hb2, hb3⟩, hg⟩
  have G := Lib.hid hg; have I1 := Lib.hid hq1.ints; have I2 := Lib.hid hq2.ints; have A3 := Lib.hid (sh_own hq3)
  have HN0 := HN; have HT0 := HT
  clear HN HT
  have HN := Lib.hid (HN0.out.kept G.out); have HT := Lib.hid (HT0.out.kept G.out)
  clear hg hq1 hq2 hq3 hB
  have hg := Draw.grown_alloc w1 (.cells #[.int .i64 need, .int .i64 many, .slice ag ng cg, .slice ac nc cc, .int .i64 msg, .slice a3 n c3] 30) none
  have B := Lib.hid (Ss.of_blk (Blk.new w1 #[.int .i64 need, .int .i64 many, .slice ag ng cg, .slice ac nc cc, .int .i64 msg, .slice a3 n c3] 30))
  replace G := Lib.hid (gtr G.out hg)
  replace I1 := Lib.hid (I1.out.kept hg)
  replace I2 := Lib.hid (I2.out.kept hg)
  replace A3 := Lib.hid (A3.out.kept hg)
  replace HN := Lib.hid (HN0.out.kept G.out)
  replace HT := Lib.hid (HT0.out.kept G.out)
  clear hg
  have hl1 : ng ≤ 2000000 := by omega
  have hl2 : nc ≤ 2000000 := by omega
  have hl3 : n ≤ 2000000 := by omega
  cases h1 : tsF need many ng zg nc zc msg n S with
  | false =>
    have H1 := Lib.hid h1; clear h1
    obtain ⟨_, k0, k1, k2, k3, k4, k5⟩ := B.out
    go_wp2_with fail
    clear k0 k1 k2 k3 k4 k5
    refine (isesBad _ need many _ ng _ zg _ nc _ zc msg _ n _ S ad I1.out I2.out A3.out hl1 hl2 hl3 HN.out HT.out).mono ?_
    rintro e w2 ⟨v, rfl, hL, hg⟩
    rw [tbF_no H1.out] at hL
    obtain ⟨av, cv, rfl, hI, _, _⟩ := hL.slice
    have J := Lib.hid hI
    clear hI hL
    replace G := Lib.hid (gtr G.out hg)
    replace I1 := Lib.hid (I1.out.kept hg)
    replace I2 := Lib.hid (I2.out.kept hg)
    replace A3 := Lib.hid (A3.out.kept hg)
    replace HN := Lib.hid (HN0.out.kept G.out)
    replace HT := Lib.hid (HT0.out.kept G.out)
    replace B := Lib.hid (B.out.kept hg)
    clear hg
    obtain ⟨_, k0, k1, k2, k3, k4, k5⟩ := B.out
    go_wp2_with fail
    clear k0 k1 k2 k3 k4 k5
    refine (ssesBad _ need many _ ng _ zg _ nc _ zc msg _ n _ S I1.out I2.out A3.out hl1 hl2 hl3).mono ?_
    rintro e w3 ⟨v2, rfl, hL, hg⟩
    rw [tbF_no H1.out] at hL
    obtain ⟨aw, cw, rfl, hI, _, _⟩ := hL.slice
    have K := Lib.hid hI
    clear hI hL
    replace G := Lib.hid (gtr G.out hg)
    replace I1 := Lib.hid (I1.out.kept hg)
    replace I2 := Lib.hid (I2.out.kept hg)
    replace A3 := Lib.hid (A3.out.kept hg)
    replace HN := Lib.hid (HN0.out.kept G.out)
    replace HT := Lib.hid (HT0.out.kept G.out)
    replace B := Lib.hid (B.out.kept hg)
    replace J := Lib.hid (J.out.kept hg)
    clear hg
    go_wp2_with fail
    refine (lpints _ av aw _ cv cw (li []) J.out K.out (by first | omega | simp)).mono ?_
    rintro e w4 ⟨rfl, hg⟩
    clear K
    replace G := Lib.hid (gtr G.out hg)
    replace I1 := Lib.hid (I1.out.kept hg)
    replace I2 := Lib.hid (I2.out.kept hg)
    replace A3 := Lib.hid (A3.out.kept hg)
    replace HN := Lib.hid (HN0.out.kept G.out)
    replace HT := Lib.hid (HT0.out.kept G.out)
    replace B := Lib.hid (B.out.kept hg)
    replace J := Lib.hid (J.out.kept hg)
    clear hg
    obtain ⟨_, k0, k1, k2, k3, k4, k5⟩ := B.out
    go_wp2_with fail
    clear k0 k1 k2 k3 k4 k5
    refine (s32ok _ need many _ ng _ zg _ nc _ zc msg _ n _ S I1.out I2.out A3.out hl1 hl2 hl3).mono ?_
    rintro e w5 ⟨rfl, hg⟩
    rw [H1.out]
    replace G := Lib.hid (gtr G.out hg)
    replace I1 := Lib.hid (I1.out.kept hg)
    replace I2 := Lib.hid (I2.out.kept hg)
    replace A3 := Lib.hid (A3.out.kept hg)
    replace HN := Lib.hid (HN0.out.kept G.out)
    replace HT := Lib.hid (HT0.out.kept G.out)
    replace B := Lib.hid (B.out.kept hg)
    replace J := Lib.hid (J.out.kept hg)
    clear hg
    obtain ⟨_, k0, k1, k2, k3, k4, k5⟩ := B.out
    go_wp2_with fail
    clear k0 k1 k2 k3 k4 k5
    refine (ssesBad _ need many _ ng _ zg _ nc _ zc msg _ n _ S I1.out I2.out A3.out hl1 hl2 hl3).mono ?_
    rintro e w6 ⟨v2, rfl, hL, hg⟩
    rw [tbF_no H1.out] at hL
    obtain ⟨aw, cw, rfl, hI, _, _⟩ := hL.slice
    have K := Lib.hid hI
    clear hI hL
    replace G := Lib.hid (gtr G.out hg)
    replace I1 := Lib.hid (I1.out.kept hg)
    replace I2 := Lib.hid (I2.out.kept hg)
    replace A3 := Lib.hid (A3.out.kept hg)
    replace HN := Lib.hid (HN0.out.kept G.out)
    replace HT := Lib.hid (HT0.out.kept G.out)
    replace B := Lib.hid (B.out.kept hg)
    replace J := Lib.hid (J.out.kept hg)
    clear hg
    go_wp2_with fail
    refine (lpints _ av aw _ cv cw (li []) J.out K.out (by first | omega | simp)).mono ?_
    rintro e w7 ⟨rfl, hg⟩
    clear K
    replace G := Lib.hid (gtr G.out hg)
    replace I1 := Lib.hid (I1.out.kept hg)
    replace I2 := Lib.hid (I2.out.kept hg)
    replace A3 := Lib.hid (A3.out.kept hg)
    replace HN := Lib.hid (HN0.out.kept G.out)
    replace HT := Lib.hid (HT0.out.kept G.out)
    replace B := Lib.hid (B.out.kept hg)
    replace J := Lib.hid (J.out.kept hg)
    clear hg
    go_wp2
    go_ret
    exact ⟨rfl, Draw.below_of G.out⟩
  | true =>
    have H1 := Lib.hid h1; clear h1
    have htl : (tbL need many ng zg nc zc msg n S n).length ≤ n := tbL_len
    obtain ⟨_, k0, k1, k2, k3, k4, k5⟩ := B.out
    go_wp2_with fail
    clear k0 k1 k2 k3 k4 k5
    refine (isesBad _ need many _ ng _ zg _ nc _ zc msg _ n _ S ad I1.out I2.out A3.out hl1 hl2 hl3 HN.out HT.out).mono ?_
    rintro e w2 ⟨v, rfl, hL, hg⟩
    rw [tbF_yes H1.out] at hL
    obtain ⟨av, cv, rfl, hI, _, _⟩ := hL.slice
    have J := Lib.hid hI
    clear hI hL
    replace G := Lib.hid (gtr G.out hg)
    replace I1 := Lib.hid (I1.out.kept hg)
    replace I2 := Lib.hid (I2.out.kept hg)
    replace A3 := Lib.hid (A3.out.kept hg)
    replace HN := Lib.hid (HN0.out.kept G.out)
    replace HT := Lib.hid (HT0.out.kept G.out)
    replace B := Lib.hid (B.out.kept hg)
    clear hg
    obtain ⟨_, k0, k1, k2, k3, k4, k5⟩ := B.out
    go_wp2_with fail
    clear k0 k1 k2 k3 k4 k5
    refine (ssesBad _ need many _ ng _ zg _ nc _ zc msg _ n _ S I1.out I2.out A3.out hl1 hl2 hl3).mono ?_
    rintro e w3 ⟨v2, rfl, hL, hg⟩
    rw [tbF_yes H1.out] at hL
    obtain ⟨aw, cw, rfl, hI, _, _⟩ := hL.slice
    have K := Lib.hid hI
    clear hI hL
    replace G := Lib.hid (gtr G.out hg)
    replace I1 := Lib.hid (I1.out.kept hg)
    replace I2 := Lib.hid (I2.out.kept hg)
    replace A3 := Lib.hid (A3.out.kept hg)
    replace HN := Lib.hid (HN0.out.kept G.out)
    replace HT := Lib.hid (HT0.out.kept G.out)
    replace B := Lib.hid (B.out.kept hg)
    replace J := Lib.hid (J.out.kept hg)
    clear hg
    go_wp2_with fail
    refine (lpints _ av aw _ cv cw (li (tbL need many ng zg nc zc msg n S n)) J.out K.out (by first | omega | simp)).mono ?_
    rintro e w4 ⟨rfl, hg⟩
    clear K
    replace G := Lib.hid (gtr G.out hg)
    replace I1 := Lib.hid (I1.out.kept hg)
    replace I2 := Lib.hid (I2.out.kept hg)
    replace A3 := Lib.hid (A3.out.kept hg)
    replace HN := Lib.hid (HN0.out.kept G.out)
    replace HT := Lib.hid (HT0.out.kept G.out)
    replace B := Lib.hid (B.out.kept hg)
    replace J := Lib.hid (J.out.kept hg)
    clear hg
    obtain ⟨_, k0, k1, k2, k3, k4, k5⟩ := B.out
    go_wp2_with fail
    clear k0 k1 k2 k3 k4 k5
    refine (s32ok _ need many _ ng _ zg _ nc _ zc msg _ n _ S I1.out I2.out A3.out hl1 hl2 hl3).mono ?_
    rintro e w5 ⟨rfl, hg⟩
    rw [H1.out]
    replace G := Lib.hid (gtr G.out hg)
    replace I1 := Lib.hid (I1.out.kept hg)
    replace I2 := Lib.hid (I2.out.kept hg)
    replace A3 := Lib.hid (A3.out.kept hg)
    replace HN := Lib.hid (HN0.out.kept G.out)
    replace HT := Lib.hid (HT0.out.kept G.out)
    replace B := Lib.hid (B.out.kept hg)
    replace J := Lib.hid (J.out.kept hg)
    clear hg
    have HTS := H1
    generalize w1.heap.size = bb at *
    obtain ⟨_, k0, k1, k2, k3, k4, k5⟩ := B.out
    go_wp2
    clear k0 k1 k2 k3 k4 k5
    go_loopw [5, 6] (fun c i W => ∃ k : Nat, k ≤ n ∧ i = .int .i64 k ∧ c = .int .i64 ((tbL need many ng zg nc zc msg n S k).length : Nat) ∧ w5.grownBy W none) (fun _ i _ => n - (intOf i).toNat)
    case atStart => exact ⟨0, by omega, rfl, rfl, Draw.grown_refl _ _⟩
    case round =>
      obtain ⟨k, hk, rfl, rfl, hg⟩ := hrel
      obtain ⟨W1, hW⟩ : ∃ W, W = wr := ⟨_, rfl⟩; subst hW
      have C := Lib.hid hg
      replace G := Lib.hid (gtr G.out hg)
      replace I1 := Lib.hid (I1.out.kept hg)
      replace I2 := Lib.hid (I2.out.kept hg)
      replace A3 := Lib.hid (A3.out.kept hg)
      replace HN := Lib.hid (HN0.out.kept G.out)
      replace HT := Lib.hid (HT0.out.kept G.out)
      replace B := Lib.hid (B.out.kept hg)
      replace J := Lib.hid (J.out.kept hg)
      clear hg
      obtain ⟨_, k0, k1, k2, k3, k4, k5⟩ := B.out
      by_cases hlt : k < n
      · skip
        have htk : (tbL need many ng zg nc zc msg n S k).length ≤ k := tbL_len
        have HAS := Lib.hid (has_own HTS.out hlt)
        have hkI : (k : Int) < (n : Int) := by omega
        obtain ⟨b3, o3, rfl, hb3, hcc⟩ := A3.out.ptr (by omega)
        obtain ⟨y0, y1, y2, y3⟩ := hcc k hlt
        clear hcc hb3
        go_wp2_with (refine stop_store rfl ?_)
        refine ⟨trivial, ?_⟩
        refine wpList_store_blk rfl 35 (.tmp 7) (.tmp 41) _ #[.int .i64 (S k).m, .int .i64 (S k).R, .bool (S k).on, .int .i64 (S k).Z] _ 35 (Blk.new W1 #[.int .i64 0, .int .i64 0, .bool false, .int .i64 0] 35) rfl rfl rfl rfl (by kernel_rfl) (by simp [Value.oneCell']) rfl ?_
        intro W2 hgV hTV
        have hg : W1.grownBy W2 none := grown_new (Draw.grown_alloc W1 (.cells #[.int .i64 0, .int .i64 0, .bool false, .int .i64 0] 35) none) (Nat.le_refl _) hgV
        have X := Lib.hid hTV
        clear hgV hTV y0 y1 y2 y3
        clear k0 k1 k2 k3 k4 k5
        replace G := Lib.hid (gtr G.out hg)
        replace I1 := Lib.hid (I1.out.kept hg)
        replace I2 := Lib.hid (I2.out.kept hg)
        replace A3 := Lib.hid (A3.out.kept hg)
        replace HN := Lib.hid (HN0.out.kept G.out)
        replace HT := Lib.hid (HT0.out.kept G.out)
        replace B := Lib.hid (B.out.kept hg)
        replace J := Lib.hid (J.out.kept hg)
        replace C := Lib.hid (gtr C.out hg)
        clear hg
        generalize W1.heap.size = xb at *
        have hrel2 : True := trivial
        cases ho : (S k).on with
        | false =>
          have hte : tbE need many ng zg nc zc msg n S k = false := by unfold tbE; rw [ho]; rfl
          have HTE := Lib.hid hte
          have HLN := Lib.hid (tbL_no hte)
          clear hte
          rw [ho] at X
          clear ho
          go_wp2_with fail
          refine wp_region_held_drew (S := (fun w' => w'.cell? ⟨xb, 2, none⟩ = some (.bool false))) (by kernel_rfl) ((X.out.cell 2)) (fun hHeld => ?_)
          have hg := Draw.gdrew W2
          replace G := Lib.hid (gtr G.out hg)
          replace I1 := Lib.hid (I1.out.kept hg)
          replace I2 := Lib.hid (I2.out.kept hg)
          replace A3 := Lib.hid (A3.out.kept hg)
          replace HN := Lib.hid (HN0.out.kept G.out)
          replace HT := Lib.hid (HT0.out.kept G.out)
          replace B := Lib.hid (B.out.kept hg)
          replace J := Lib.hid (J.out.kept hg)
          replace C := Lib.hid (gtr C.out hg)
          replace X := Lib.hid (X.out.keptN hg)
          clear hg
          generalize (W2).drew = V7 at *
          refine wpAnyH_take (i := 0) (oi := ⟨some 42, _, _, _, _, _⟩) (v := ?_) rfl (by kernel_rfl) (by kernel_rfl) (by kernel_rfl) (fun _ _ _ h => h) (Or.inl ⟨by rfl, ?_⟩) (by assumption) ?_
          rotate_left
          · intro w hSw; (try dsimp only at hSw); go_simp; try with_reducible rfl
          simp only [Act.put, List.setIfInBounds_toArray, List.set_cons_zero, List.set_cons_succ]
          refine wpAnyH_take (i := 1) (oi := ⟨some 43, _, _, _, _, _⟩) (v := ?_) rfl (by kernel_rfl) (by kernel_rfl) (by kernel_rfl) (fun _ _ _ h => h) (Or.inl ⟨by rfl, ?_⟩) (by assumption) ?_
          rotate_left
          · intro w hSw; (try dsimp only at hSw); go_simp; try with_reducible rfl
          simp only [Act.put, List.setIfInBounds_toArray, List.set_cons_zero, List.set_cons_succ]
          refine wpAnyH_take (i := 2) (oi := ⟨some 44, _, _, _, _, _⟩) (v := ?_) rfl (by kernel_rfl) (by kernel_rfl) (by kernel_rfl) (fun _ _ _ h => h) (Or.inl ⟨by rfl, ?_⟩) (by assumption) ?_
          rotate_left
          · intro w hSw; (try dsimp only at hSw); go_simp; try with_reducible rfl
          simp only [Act.put, List.setIfInBounds_toArray, List.set_cons_zero, List.set_cons_succ]
          refine wpAnyH_take (i := 3) (oi := ⟨some 45, _, _, _, _, _⟩) (v := undef) rfl (by kernel_rfl) (by kernel_rfl) (by kernel_rfl) (fun _ _ _ h => h) (Or.inr ⟨by rfl, rfl⟩) (by assumption) ?_
          simp only [Act.put, List.setIfInBounds_toArray, List.set_cons_zero, List.set_cons_succ]
          refine wpAnyH_take (i := 4) (oi := ⟨some 46, _, _, _, _, _⟩) (v := undef) rfl (by kernel_rfl) (by kernel_rfl) (by kernel_rfl) (fun _ _ _ h => h) (Or.inr ⟨by rfl, rfl⟩) (by assumption) ?_
          simp only [Act.put, List.setIfInBounds_toArray, List.set_cons_zero, List.set_cons_succ]
          refine wpAnyH_take (i := 5) (oi := ⟨some 47, _, _, _, _, _⟩) (v := undef) rfl (by kernel_rfl) (by kernel_rfl) (by kernel_rfl) (fun _ _ _ h => h) (Or.inr ⟨by rfl, rfl⟩) (by assumption) ?_
          simp only [Act.put, List.setIfInBounds_toArray, List.set_cons_zero, List.set_cons_succ]
          refine wpAnyH_take (i := 6) (oi := ⟨some 48, _, _, _, _, _⟩) (v := undef) rfl (by kernel_rfl) (by kernel_rfl) (by kernel_rfl) (fun _ _ _ h => h) (Or.inr ⟨by rfl, rfl⟩) (by assumption) ?_
          simp only [Act.put, List.setIfInBounds_toArray, List.set_cons_zero, List.set_cons_succ]
          refine wpAnyH_take (i := 7) (oi := ⟨some 49, _, _, _, _, _⟩) (v := undef) rfl (by kernel_rfl) (by kernel_rfl) (by kernel_rfl) (fun _ _ _ h => h) (Or.inr ⟨by rfl, rfl⟩) (by assumption) ?_
          simp only [Act.put, List.setIfInBounds_toArray, List.set_cons_zero, List.set_cons_succ]
          refine wpAnyH_take (i := 8) (oi := ⟨some 50, _, _, _, _, _⟩) (v := undef) rfl (by kernel_rfl) (by kernel_rfl) (by kernel_rfl) (fun _ _ _ h => h) (Or.inr ⟨by rfl, rfl⟩) (by assumption) ?_
          simp only [Act.put, List.setIfInBounds_toArray, List.set_cons_zero, List.set_cons_succ]
          refine wpAnyH_take (i := 9) (oi := ⟨some 51, _, _, _, _, _⟩) (v := undef) rfl (by kernel_rfl) (by kernel_rfl) (by kernel_rfl) (fun _ _ _ h => h) (Or.inr ⟨by rfl, rfl⟩) (by assumption) ?_
          simp only [Act.put, List.setIfInBounds_toArray, List.set_cons_zero, List.set_cons_succ]
          refine wpAnyH_take (i := 10) (oi := ⟨some 52, _, _, _, _, _⟩) (v := undef) rfl (by kernel_rfl) (by kernel_rfl) (by kernel_rfl) (fun _ _ _ h => h) (Or.inr ⟨by rfl, rfl⟩) (by assumption) ?_
          simp only [Act.put, List.setIfInBounds_toArray, List.set_cons_zero, List.set_cons_succ]
          refine wpAnyH_take (i := 11) (oi := ⟨some 53, _, _, _, _, _⟩) (v := undef) rfl (by kernel_rfl) (by kernel_rfl) (by kernel_rfl) (fun _ _ _ h => h) (Or.inr ⟨by rfl, rfl⟩) (by assumption) ?_
          simp only [Act.put, List.setIfInBounds_toArray, List.set_cons_zero, List.set_cons_succ]
          refine wpAnyH_take (i := 12) (oi := ⟨some 54, _, _, _, _, _⟩) (v := undef) rfl (by kernel_rfl) (by kernel_rfl) (by kernel_rfl) (fun _ _ _ h => h) (Or.inr ⟨by rfl, rfl⟩) (by assumption) ?_
          simp only [Act.put, List.setIfInBounds_toArray, List.set_cons_zero, List.set_cons_succ]
          refine wpAnyH_take (i := 13) (oi := ⟨some 55, _, _, _, _, _⟩) (v := undef) rfl (by kernel_rfl) (by kernel_rfl) (by kernel_rfl) (fun _ _ _ h => h) (Or.inr ⟨by rfl, rfl⟩) (by assumption) ?_
          simp only [Act.put, List.setIfInBounds_toArray, List.set_cons_zero, List.set_cons_succ]
          refine wpAnyH_take (i := 14) (oi := ⟨some 56, _, _, _, _, _⟩) (v := undef) rfl (by kernel_rfl) (by kernel_rfl) (by kernel_rfl) (fun _ _ _ h => h) (Or.inr ⟨by rfl, rfl⟩) (by assumption) ?_
          simp only [Act.put, List.setIfInBounds_toArray, List.set_cons_zero, List.set_cons_succ]
          refine wpAnyH_take (i := 15) (oi := ⟨some 57, _, _, _, _, _⟩) (v := undef) rfl (by kernel_rfl) (by kernel_rfl) (by kernel_rfl) (fun _ _ _ h => h) (Or.inr ⟨by rfl, rfl⟩) (by assumption) ?_
          simp only [Act.put, List.setIfInBounds_toArray, List.set_cons_zero, List.set_cons_succ]
          refine wpAnyH_take (i := 16) (oi := ⟨some 58, _, _, _, _, _⟩) (v := undef) rfl (by kernel_rfl) (by kernel_rfl) (by kernel_rfl) (fun _ _ _ h => h) (Or.inr ⟨by rfl, rfl⟩) (by assumption) ?_
          simp only [Act.put, List.setIfInBounds_toArray, List.set_cons_zero, List.set_cons_succ]
          refine wpAnyH_take (i := 17) (oi := ⟨some 59, _, _, _, _, _⟩) (v := undef) rfl (by kernel_rfl) (by kernel_rfl) (by kernel_rfl) (fun _ _ _ h => h) (Or.inr ⟨by rfl, rfl⟩) (by assumption) ?_
          simp only [Act.put, List.setIfInBounds_toArray, List.set_cons_zero, List.set_cons_succ]
          refine wpAnyH_take (i := 18) (oi := ⟨some 60, _, _, _, _, _⟩) (v := undef) rfl (by kernel_rfl) (by kernel_rfl) (by kernel_rfl) (fun _ _ _ h => h) (Or.inr ⟨by rfl, rfl⟩) (by assumption) ?_
          simp only [Act.put, List.setIfInBounds_toArray, List.set_cons_zero, List.set_cons_succ]
          refine wpAnyH_take (i := 19) (oi := ⟨some 61, _, _, _, _, _⟩) (v := ?_) rfl (by kernel_rfl) (by kernel_rfl) (by kernel_rfl) (fun _ _ _ h => h) (Or.inl ⟨by rfl, ?_⟩) (by assumption) ?_
          rotate_left
          · intro w hSw; (try dsimp only at hSw); go_simp; try with_reducible rfl
          simp only [Act.put, List.setIfInBounds_toArray, List.set_cons_zero, List.set_cons_succ]
          refine wpAnyH_take (i := 20) (oi := ⟨some 8, _, _, _, _, _⟩) (v := ?_) rfl (by kernel_rfl) (by kernel_rfl) (by kernel_rfl) (fun _ _ _ h => h) (Or.inl ⟨by rfl, ?_⟩) (by assumption) ?_
          rotate_left
          · intro w hSw; (try dsimp only at hSw); go_simp; try with_reducible rfl
          simp only [Act.put, List.setIfInBounds_toArray, List.set_cons_zero, List.set_cons_succ]
          refine wpAnyH_done (by kernel_rfl) ?_ _
          have x0 : V7.cell? ⟨xb, 0, none⟩ = some (.int .i64 (S k).m) := X.out.cell 0
          go_wp2_with fail
          refine (lpinG _ av _ cv _ (S k).m J.out (by omega)).mono ?_
          rintro e w' ⟨rfl, rfl⟩
          rw [HAS.out, HTE.out]
          go_wp2
          go_roundw
          case rel => exact ⟨k + 1, by omega, by go_num, by rw [HLN.out], C.out⟩
          case measure => simp [intOf]; omega
        | true =>
          rw [ho] at X
          go_wp2_with fail
          refine wp_region_held_drew (S := (fun w' => (w'.cell? ⟨bb, 0, none⟩ = some (.int .i64 need) ∧ w'.cell? ⟨bb, 1, none⟩ = some (.int .i64 many) ∧ w'.cell? ⟨bb, 2, none⟩ = some (.slice ag ng cg) ∧ w'.cell? ⟨bb, 3, none⟩ = some (.slice ac nc cc) ∧ w'.cell? ⟨bb, 4, none⟩ = some (.int .i64 msg) ∧ w'.cell? ⟨bb, 5, none⟩ = some (.slice (some ⟨b3, o3, none⟩) n c3)) ∧ w'.cell? ⟨xb, 0, none⟩ = some (.int .i64 (S k).m) ∧ w'.cell? ⟨xb, 1, none⟩ = some (.int .i64 (S k).R) ∧ w'.cell? ⟨xb, 2, none⟩ = some (.bool true) ∧ w'.cell? ⟨xb, 3, none⟩ = some (.int .i64 (S k).Z))) (by kernel_rfl) (⟨⟨B.out.c0, B.out.c1, B.out.c2, B.out.c3, B.out.c4, B.out.c5⟩, X.out.cell 0, X.out.cell 1, X.out.cell 2, X.out.cell 3⟩) (fun hHeld => ?_)
          have hg := Draw.gdrew W2
          replace G := Lib.hid (gtr G.out hg)
          replace I1 := Lib.hid (I1.out.kept hg)
          replace I2 := Lib.hid (I2.out.kept hg)
          replace A3 := Lib.hid (A3.out.kept hg)
          replace HN := Lib.hid (HN0.out.kept G.out)
          replace HT := Lib.hid (HT0.out.kept G.out)
          replace B := Lib.hid (B.out.kept hg)
          replace J := Lib.hid (J.out.kept hg)
          replace C := Lib.hid (gtr C.out hg)
          replace X := Lib.hid (X.out.keptN hg)
          clear hg
          generalize (W2).drew = V7 at *
          refine wpAnyH_take (i := 0) (oi := ⟨some 42, _, _, _, _, _⟩) (v := ?_) rfl (by kernel_rfl) (by kernel_rfl) (by kernel_rfl) (fun _ _ _ h => h) (Or.inl ⟨by rfl, ?_⟩) (by assumption) ?_
          rotate_left
          · intro w hSw; (try dsimp only at hSw); go_simp; try with_reducible rfl
          simp only [Act.put, List.setIfInBounds_toArray, List.set_cons_zero, List.set_cons_succ]
          refine wpAnyH_take (i := 1) (oi := ⟨some 43, _, _, _, _, _⟩) (v := ?_) rfl (by kernel_rfl) (by kernel_rfl) (by kernel_rfl) (fun _ _ _ h => h) (Or.inl ⟨by rfl, ?_⟩) (by assumption) ?_
          rotate_left
          · intro w hSw; (try dsimp only at hSw); go_simp; try with_reducible rfl
          simp only [Act.put, List.setIfInBounds_toArray, List.set_cons_zero, List.set_cons_succ]
          refine wpAnyH_take (i := 2) (oi := ⟨some 44, _, _, _, _, _⟩) (v := ?_) rfl (by kernel_rfl) (by kernel_rfl) (by kernel_rfl) (fun _ _ _ h => h) (Or.inl ⟨by rfl, ?_⟩) (by assumption) ?_
          rotate_left
          · intro w hSw; (try dsimp only at hSw); go_simp; try with_reducible rfl
          simp only [Act.put, List.setIfInBounds_toArray, List.set_cons_zero, List.set_cons_succ]
          refine wpAnyH_take (i := 3) (oi := ⟨some 45, _, _, _, _, _⟩) (v := ?_) rfl (by kernel_rfl) (by kernel_rfl) (by kernel_rfl) (fun _ _ _ h => h) (Or.inl ⟨by rfl, ?_⟩) (by assumption) ?_
          rotate_left
          · intro w hSw; (try dsimp only at hSw); go_simp; try with_reducible rfl
          simp only [Act.put, List.setIfInBounds_toArray, List.set_cons_zero, List.set_cons_succ]
          refine wpAnyH_take (i := 4) (oi := ⟨some 46, _, _, _, _, _⟩) (v := ?_) rfl (by kernel_rfl) (by kernel_rfl) (by kernel_rfl) (fun _ _ _ h => h) (Or.inl ⟨by rfl, ?_⟩) (by assumption) ?_
          rotate_left
          · intro w hSw; (try dsimp only at hSw); go_simp; try with_reducible rfl
          simp only [Act.put, List.setIfInBounds_toArray, List.set_cons_zero, List.set_cons_succ]
          refine wpAnyH_take (i := 5) (oi := ⟨some 47, _, _, _, _, _⟩) (v := ?_) rfl (by kernel_rfl) (by kernel_rfl) (by kernel_rfl) (fun _ _ _ h => h) (Or.inl ⟨by rfl, ?_⟩) (by assumption) ?_
          rotate_left
          · intro w hSw; (try dsimp only at hSw); go_simp; try with_reducible rfl
          simp only [Act.put, List.setIfInBounds_toArray, List.set_cons_zero, List.set_cons_succ]
          refine wpAnyH_take (i := 7) (oi := ⟨some 49, _, _, _, _, _⟩) (v := ?_) rfl (by kernel_rfl) (by kernel_rfl) (by kernel_rfl) (fun _ _ _ h => h) (Or.inl ⟨by rfl, ?_⟩) (by assumption) ?_
          rotate_left
          · intro w hSw; (try dsimp only at hSw); go_simp; try with_reducible rfl
          simp only [Act.put, List.setIfInBounds_toArray, List.set_cons_zero, List.set_cons_succ]
          refine wpAnyH_take (i := 8) (oi := ⟨some 50, _, _, _, _, _⟩) (v := ?_) rfl (by kernel_rfl) (by kernel_rfl) (by kernel_rfl) (fun _ _ _ h => h) (Or.inl ⟨by rfl, ?_⟩) (by assumption) ?_
          rotate_left
          · intro w hSw; (try dsimp only at hSw); go_simp; try with_reducible rfl
          simp only [Act.put, List.setIfInBounds_toArray, List.set_cons_zero, List.set_cons_succ]
          refine wpAnyH_take (i := 9) (oi := ⟨some 51, _, _, _, _, _⟩) (v := ?_) rfl (by kernel_rfl) (by kernel_rfl) (by kernel_rfl) (fun _ _ _ h => h) (Or.inl ⟨by rfl, ?_⟩) (by assumption) ?_
          rotate_left
          · intro w hSw; (try dsimp only at hSw); go_simp; try with_reducible rfl
          simp only [Act.put, List.setIfInBounds_toArray, List.set_cons_zero, List.set_cons_succ]
          refine wpAnyH_take (i := 10) (oi := ⟨some 52, _, _, _, _, _⟩) (v := ?_) rfl (by kernel_rfl) (by kernel_rfl) (by kernel_rfl) (fun _ _ _ h => h) (Or.inl ⟨by rfl, ?_⟩) (by assumption) ?_
          rotate_left
          · intro w hSw; (try dsimp only at hSw); go_simp; try with_reducible rfl
          simp only [Act.put, List.setIfInBounds_toArray, List.set_cons_zero, List.set_cons_succ]
          refine wpAnyH_take (i := 11) (oi := ⟨some 53, _, _, _, _, _⟩) (v := ?_) rfl (by kernel_rfl) (by kernel_rfl) (by kernel_rfl) (fun _ _ _ h => h) (Or.inl ⟨by rfl, ?_⟩) (by assumption) ?_
          rotate_left
          · intro w hSw; (try dsimp only at hSw); go_simp; try with_reducible rfl
          simp only [Act.put, List.setIfInBounds_toArray, List.set_cons_zero, List.set_cons_succ]
          refine wpAnyH_take (i := 13) (oi := ⟨some 55, _, _, _, _, _⟩) (v := ?_) rfl (by kernel_rfl) (by kernel_rfl) (by kernel_rfl) (fun _ _ _ h => h) (Or.inl ⟨by rfl, ?_⟩) (by assumption) ?_
          rotate_left
          · intro w hSw; (try dsimp only at hSw); go_simp; try with_reducible rfl
          simp only [Act.put, List.setIfInBounds_toArray, List.set_cons_zero, List.set_cons_succ]
          refine wpAnyH_take (i := 14) (oi := ⟨some 56, _, _, _, _, _⟩) (v := ?_) rfl (by kernel_rfl) (by kernel_rfl) (by kernel_rfl) (fun _ _ _ h => h) (Or.inl ⟨by rfl, ?_⟩) (by assumption) ?_
          rotate_left
          · intro w hSw; (try dsimp only at hSw); go_simp; try with_reducible rfl
          simp only [Act.put, List.setIfInBounds_toArray, List.set_cons_zero, List.set_cons_succ]
          refine wpAnyH_take (i := 15) (oi := ⟨some 57, _, _, _, _, _⟩) (v := ?_) rfl (by kernel_rfl) (by kernel_rfl) (by kernel_rfl) (fun _ _ _ h => h) (Or.inl ⟨by rfl, ?_⟩) (by assumption) ?_
          rotate_left
          · intro w hSw; (try dsimp only at hSw); go_simp; try with_reducible rfl
          simp only [Act.put, List.setIfInBounds_toArray, List.set_cons_zero, List.set_cons_succ]
          refine wpAnyH_take (i := 16) (oi := ⟨some 58, _, _, _, _, _⟩) (v := ?_) rfl (by kernel_rfl) (by kernel_rfl) (by kernel_rfl) (fun _ _ _ h => h) (Or.inl ⟨by rfl, ?_⟩) (by assumption) ?_
          rotate_left
          · intro w hSw; (try dsimp only at hSw); go_simp; try with_reducible rfl
          simp only [Act.put, List.setIfInBounds_toArray, List.set_cons_zero, List.set_cons_succ]
          refine wpAnyH_ready (rs := [6]) (by kernel_rfl) (by simp) ?_
          refine AllReadyH.cons (o := ⟨some 48, _, _, _, _, _⟩) rfl (fun Kq hKq => ?_) AllReadyH.nil
          go_simp
          go_at_call 20
          refine (lpofB _ need many _ _ msg _ n _ S A3.out hl3).mono ?_
          rintro e V8 ⟨bl, cl, rfl, hr, hg⟩
          have L := Lib.hid hr.ints
          have hlc := hr.le
          have hlm := hr.most
          clear hr
          replace G := Lib.hid (gtr G.out hg)
          replace I1 := Lib.hid (I1.out.kept hg)
          replace I2 := Lib.hid (I2.out.kept hg)
          replace A3 := Lib.hid (A3.out.kept hg)
          replace HN := Lib.hid (HN0.out.kept G.out)
          replace HT := Lib.hid (HT0.out.kept G.out)
          replace B := Lib.hid (B.out.kept hg)
          replace J := Lib.hid (J.out.kept hg)
          replace C := Lib.hid (gtr C.out hg)
          replace X := Lib.hid (X.out.keptN hg)
          clear hg
          refine hKq.out _ _ (⟨⟨B.out.c0, B.out.c1, B.out.c2, B.out.c3, B.out.c4, B.out.c5⟩, X.out.cell 0, X.out.cell 1, X.out.cell 2, X.out.cell 3⟩) (fun hHeld => ?_)
          clear hKq Kq
          refine wpAnyH_ready (rs := [12]) (by kernel_rfl) (by simp) ?_
          refine AllReadyH.cons (o := ⟨some 54, _, _, _, _, _⟩) rfl (fun Kq hKq => ?_) AllReadyH.nil
          go_simp
          go_at_call 21
          refine (isesR _ need many _ ng _ zg _ nc _ zc msg _ n _ S I1.out I2.out A3.out hl1 hl2 hl3).mono ?_
          rintro e V9 ⟨rfl, hg⟩
          rw [sr_yes HTS.out]
          replace G := Lib.hid (gtr G.out hg)
          replace I1 := Lib.hid (I1.out.kept hg)
          replace I2 := Lib.hid (I2.out.kept hg)
          replace A3 := Lib.hid (A3.out.kept hg)
          replace HN := Lib.hid (HN0.out.kept G.out)
          replace HT := Lib.hid (HT0.out.kept G.out)
          replace B := Lib.hid (B.out.kept hg)
          replace J := Lib.hid (J.out.kept hg)
          replace C := Lib.hid (gtr C.out hg)
          replace X := Lib.hid (X.out.keptN hg)
          replace L := Lib.hid (L.out.kept hg)
          clear hg
          refine hKq.out _ _ (⟨⟨B.out.c0, B.out.c1, B.out.c2, B.out.c3, B.out.c4, B.out.c5⟩, X.out.cell 0, X.out.cell 1, X.out.cell 2, X.out.cell 3⟩) (fun hHeld => ?_)
          clear hKq Kq
          refine wpAnyH_ready (rs := [17]) (by kernel_rfl) (by simp) ?_
          refine AllReadyH.cons (o := ⟨some 59, _, _, _, _, _⟩) rfl (fun Kq hKq => ?_) AllReadyH.nil
          go_simp
          go_at_call 19
          refine (ifits _ need many _ ng _ zg _ nc _ zc _ n _ (mS S) (S k).m (S k).R (rP S n) msg (S k).Z I1.out I2.out L.out hl1 hl2 hl3 hlc hlm).mono ?_
          rintro e Va ⟨rfl, hg⟩
          replace G := Lib.hid (gtr G.out hg)
          replace I1 := Lib.hid (I1.out.kept hg)
          replace I2 := Lib.hid (I2.out.kept hg)
          replace A3 := Lib.hid (A3.out.kept hg)
          replace HN := Lib.hid (HN0.out.kept G.out)
          replace HT := Lib.hid (HT0.out.kept G.out)
          replace B := Lib.hid (B.out.kept hg)
          replace J := Lib.hid (J.out.kept hg)
          replace C := Lib.hid (gtr C.out hg)
          replace X := Lib.hid (X.out.keptN hg)
          replace L := Lib.hid (L.out.kept hg)
          clear hg
          refine hKq.out _ _ (⟨⟨B.out.c0, B.out.c1, B.out.c2, B.out.c3, B.out.c4, B.out.c5⟩, X.out.cell 0, X.out.cell 1, X.out.cell 2, X.out.cell 3⟩) (fun hHeld => ?_)
          clear hKq Kq
          cases hsf : sfF need many ng zg nc zc n (mS S) (S k).m (S k).R (rP S n) msg (S k).Z with
          | true =>
            have hte : tbE need many ng zg nc zc msg n S k = false := by unfold tbE; rw [ho, hsf]; rfl
            have HTE := Lib.hid hte
            have HLN := Lib.hid (tbL_no hte)
            clear hte hsf ho
            refine wpAnyH_take (i := 18) (oi := ⟨some 60, _, _, _, _, _⟩) (v := ?_) rfl (by kernel_rfl) (by kernel_rfl) (by kernel_rfl) (fun _ _ _ h => h) (Or.inl ⟨by rfl, ?_⟩) (by assumption) ?_
            rotate_left
            · intro w hSw; (try dsimp only at hSw); go_simp; try with_reducible rfl
            simp only [Act.put, List.setIfInBounds_toArray, List.set_cons_zero, List.set_cons_succ]
            refine wpAnyH_take (i := 19) (oi := ⟨some 61, _, _, _, _, _⟩) (v := ?_) rfl (by kernel_rfl) (by kernel_rfl) (by kernel_rfl) (fun _ _ _ h => h) (Or.inl ⟨by rfl, ?_⟩) (by assumption) ?_
            rotate_left
            · intro w hSw; (try dsimp only at hSw); go_simp; try with_reducible rfl
            simp only [Act.put, List.setIfInBounds_toArray, List.set_cons_zero, List.set_cons_succ]
            refine wpAnyH_take (i := 20) (oi := ⟨some 8, _, _, _, _, _⟩) (v := ?_) rfl (by kernel_rfl) (by kernel_rfl) (by kernel_rfl) (fun _ _ _ h => h) (Or.inl ⟨by rfl, ?_⟩) (by assumption) ?_
            rotate_left
            · intro w hSw; (try dsimp only at hSw); go_simp; try with_reducible rfl
            simp only [Act.put, List.setIfInBounds_toArray, List.set_cons_zero, List.set_cons_succ]
            refine wpAnyH_done (by kernel_rfl) ?_ _
            have x0 : Va.cell? ⟨xb, 0, none⟩ = some (.int .i64 (S k).m) := X.out.cell 0
            go_wp2_with fail
            refine (lpinG _ av _ cv _ (S k).m J.out (by omega)).mono ?_
            rintro e w' ⟨rfl, rfl⟩
            rw [HAS.out, HTE.out]
            go_wp2
            go_roundw
            case rel => exact ⟨k + 1, by omega, by go_num, by rw [HLN.out], C.out⟩
            case measure => simp [intOf]; omega
          | false =>
            have hte : tbE need many ng zg nc zc msg n S k = true := by unfold tbE; rw [ho, hsf]; rfl
            have HTE := Lib.hid hte
            have HLN := Lib.hid (show (tbL need many ng zg nc zc msg n S (k + 1)).length = (tbL need many ng zg nc zc msg n S k).length + 1 by rw [tbL_yes hte]; simp)
            clear hte hsf ho
            refine wpAnyH_take (i := 18) (oi := ⟨some 60, _, _, _, _, _⟩) (v := ?_) rfl (by kernel_rfl) (by kernel_rfl) (by kernel_rfl) (fun _ _ _ h => h) (Or.inl ⟨by rfl, ?_⟩) (by assumption) ?_
            rotate_left
            · intro w hSw; (try dsimp only at hSw); go_simp; try with_reducible rfl
            simp only [Act.put, List.setIfInBounds_toArray, List.set_cons_zero, List.set_cons_succ]
            refine wpAnyH_take (i := 19) (oi := ⟨some 61, _, _, _, _, _⟩) (v := ?_) rfl (by kernel_rfl) (by kernel_rfl) (by kernel_rfl) (fun _ _ _ h => h) (Or.inl ⟨by rfl, ?_⟩) (by assumption) ?_
            rotate_left
            · intro w hSw; (try dsimp only at hSw); go_simp; try with_reducible rfl
            simp only [Act.put, List.setIfInBounds_toArray, List.set_cons_zero, List.set_cons_succ]
            refine wpAnyH_take (i := 20) (oi := ⟨some 8, _, _, _, _, _⟩) (v := ?_) rfl (by kernel_rfl) (by kernel_rfl) (by kernel_rfl) (fun _ _ _ h => h) (Or.inl ⟨by rfl, ?_⟩) (by assumption) ?_
            rotate_left
            · intro w hSw; (try dsimp only at hSw); go_simp; try with_reducible rfl
            simp only [Act.put, List.setIfInBounds_toArray, List.set_cons_zero, List.set_cons_succ]
            refine wpAnyH_done (by kernel_rfl) ?_ _
            have x0 : Va.cell? ⟨xb, 0, none⟩ = some (.int .i64 (S k).m) := X.out.cell 0
            go_wp2_with fail
            refine (lpinG _ av _ cv _ (S k).m J.out (by omega)).mono ?_
            rintro e w' ⟨rfl, rfl⟩
            rw [HAS.out, HTE.out]
            go_wp2
            go_roundw
            case rel => exact ⟨k + 1, by omega, by go_num, by rw [HLN.out]; go_num, C.out⟩
            case measure => simp [intOf]; omega
      · obtain rfl : k = n := by omega
        have hself : (((tbL need many ng zg nc zc msg k S k).length : Int) == ((tbL need many ng zg nc zc msg k S k).length : Int)) = true := by simp
        go_wp2
        go_ret
        exact ⟨Mem.ret_b (by simp), Draw.below_of G.out⟩
end Run
end Go.Proofs.YteibklnonlapoaaGreatDoor
