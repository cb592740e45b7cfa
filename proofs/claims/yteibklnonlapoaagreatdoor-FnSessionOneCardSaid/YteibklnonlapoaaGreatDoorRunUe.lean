/-
  The walk of the law on one other part.
-/
import Derived.Test.YteibklnonlapoaaGreatDoorUd
import Derived.Test.YteibklnonlapoaaGreatDoorUz
import Derived.Test.YteibklnonlapoaaGreatDoorUc
import Derived.Test.YteibklnonlapoaaGreatDoorTd
import Derived.Deep.RegionHeld3
namespace Go.Proofs.YteibklnonlapoaaGreatDoor
namespace Run
open Go.RowKit Alg Mem Con Mp Hd Draw
set_option linter.unusedVariables false
/-- A signature's two cells in memory. -/
structure SvO (w : World) (b : Nat) (v0 v1 : Int) : Prop where
  lt : b < w.heap.size
  c0 : w.cell? ⟨b, 0, none⟩ = some (.int .i64 v0)
  c1 : w.cell? ⟨b, 1, none⟩ = some (.int .i64 v1)
theorem SvO.of {w : World} {b : Nat} {v0 v1 : Int} {T : TypeId} (h : Blk w b #[.int .i64 v0, .int .i64 v1] T) : SvO w b v0 v1 := ⟨h.lt, h.cell 0, h.cell 1⟩
theorem SvO.keptB {w w' : World} {b : Nat} {v0 v1 : Int} (h : SvO w b v0 v1) (hb : w'.heap[b]? = w.heap[b]?) (hs : w.heap.size ≤ w'.heap.size) : SvO w' b v0 v1 :=
  ⟨Nat.lt_of_lt_of_le h.lt hs, by rw [World.cell?_of_block (w := w) hb]; exact h.c0, by rw [World.cell?_of_block (w := w) hb]; exact h.c1⟩
theorem SvO.kept {w w' : World} {b : Nat} {v0 v1 : Int} (h : SvO w b v0 v1) (hg : w.grownBy w' none) : SvO w' b v0 v1 := h.keptB (hg.block _ h.lt (by simp)) hg.size
theorem sg_caseO (need many : Int) (ng : Nat) (zg : Nat → Int) (nc : Nat) (zc : Nat → Int) (msg : Int) (n : Nat) (S : Nat → SV) :
    (tsF need many ng zg nc zc msg n S = true ∧ (tbL need many ng zg nc zc msg n S n).length = 0 ∧ onA S n = true) ∨ ¬ (tsF need many ng zg nc zc msg n S = true ∧ (tbL need many ng zg nc zc msg n S n).length = 0 ∧ onA S n = true) := Classical.em _

theorem isumG (a b : Int) (w : World) : Calls Tryz.prog 25 #[.int .i64 a, .int .i64 b] w fun e w' => e = .returned (.int .i64 (sumF a b)) ∧ w.grownBy w' none :=
  (isum a b w).mono fun _ _ h => ⟨h.1, h.2 ▸ Draw.grown_refl w none⟩
theorem sum_ne {a d : Int} (ha : fok a = true) (h1 : 1 ≤ d) (h2 : d ≤ 22) : sumF a d ≠ a := by
  have ha' := fok_iff.1 ha
  rw [sumF_in ha (fok_iff.2 (by omega))]
  omega
theorem lst_one {w : World} {lo : Nat} {v : Value} {x : Int} (h : Lst w lo v [x]) : ∃ a c, v = .slice a 1 c ∧ Ints w a 1 (fun _ => x) := by
  obtain ⟨a, c, hv, hI, _, _⟩ := h.slice
  exact ⟨a, c, hv, hI.congr fun j hj => by
    have hj' : j < 1 := hj
    obtain rfl : j = 0 := by omega
    rfl⟩
theorem pt_at {need many : Int} {ng : Nat} {zg : Nat → Int} {nc : Nat} {zc : Nat → Int} {msg : Int} {n : Nat} {S : Nat → SV} (h : tsF need many ng zg nc zc msg n S = true) {q : Nat} (hq : q < n) (z : Int) : ptS S (S q).m n z = putS S q z := by
  rw [ptS_yes (ts_has h hq), ts_pos h hq]
theorem one_bad {need many : Int} {ng : Nat} {zg : Nat → Int} {nc : Nat} {zc : Nat → Int} {msg : Int} {n : Nat} {S : Nat → SV} (h : tsF need many ng zg nc zc msg n S = true) (hb : (tbL need many ng zg nc zc msg n S n).length = 0) (ho : onA S n = true) {q : Nat} (hq : q < n) {z : Int} (hz : fok z = true) (hne : z ≠ (S q).Z) :
    tbL need many ng zg nc zc msg n (putS S q z) n = [(S q).m] := by
  have h0 := tbL_none.1 hb
  have h1 := tb_one h hq
  rw [h0 q hq, onA_iff.1 ho q hq] at h1
  have hzq : (S q).Z = onePart nc zc msg n S q := by simpa using h1.symm
  have h2 := tbL_one (S := putS S q z) hq (by rw [tb_put_at h hq hz]; simp; rw [← hzq]; exact hne) (fun j hj hjq => by rw [tb_put_ne h hj hjq hz]; exact h0 j hj)
  rw [h2, put_m]
set_option maxRecDepth 100000 in
set_option maxHeartbeats 8000000 in
theorem FnSessionOne (a : Option Addr) (len cap : Nat) (a1 : Option Addr) (len1 cap1 : Nat) (w : World) (hB : Draw.Bytes w w.heap.size a len) (hc : len ≤ cap) (hm : cap ≤ maxLen) (hc1 : len1 ≤ cap1) (hm1 : cap1 ≤ maxLen) (ad : Addr) (hv : Np w ad) (he : Et w) :
    Calls Tryz.prog 6 #[.slice a len cap, .slice a1 len1 cap1] w (Yes w) := by
  have HN := Lib.hid hv; have HT := Lib.hid he; clear hv he
  have HM := hm; unfold maxLen at HM
  have HM1 := hm1; unfold maxLen at HM1
  by_cases hL : (1048576 : Int) < (len : Int)
  · have HB := Lib.hid hB; clear hB
    go_enter Tryz.func6, Tryz.ntmps6
    go_wp2
    go_ret
    exact ⟨rfl, Below.refl _ _⟩
  by_cases hL1 : (1048576 : Int) < (len1 : Int)
  · have HB := Lib.hid hB; clear hB
    have hL0 : ¬ (1048576 : Int) < (len : Int) := hL
    go_enter Tryz.func6, Tryz.ntmps6
    go_wp2
    go_ret
    exact ⟨rfl, Below.refl _ _⟩
  have hL0 : ¬ (1048576 : Int) < (len : Int) := hL
  have hL2 : ¬ (1048576 : Int) < (len1 : Int) := hL1
  go_enter Tryz.func6, Tryz.ntmps6
  go_wp2_with fail
  refine (Draw.drawSesSig _ a len cap hB hc hm).mono ?_
  rintro e w1 ⟨need, many, ag, ng, cg, zg, ac, nc, cc, zc, msg, a3, n, c3, S, rfl, hq1, hq2, hq3, ⟨hb1, hb2, hb3⟩, hg⟩
  have G := Lib.hid hg; have I1 := Lib.hid hq1.ints; have I2 := Lib.hid hq2.ints; have A3 := Lib.hid (sh_own hq3)
  have HN0 := HN; have HT0 := HT
  clear HN HT
  have HN := Lib.hid (HN0.out.kept G.out); have HT := Lib.hid (HT0.out.kept G.out)
  clear hg hq1 hq2 hq3 hB
  have hg := Draw.grown_alloc w1 (.cells #[.int .i64 need, .int .i64 many, .slice ag ng cg, .slice ac nc cc, .int .i64 msg, .slice a3 n c3] 30) none
  have B := Lib.hid (Ss.of_blk (Blk.new w1 #[.int .i64 need, .int .i64 many, .slice ag ng cg, .slice ac nc cc, .int .i64 msg, .slice a3 n c3] 30))
  replace G := Lib.hid (gtr G.out hg)
  replace I1 := Lib.hid (I1.out.kept hg)
  replace I2 := Lib.hid (I2.out.kept hg)
  replace A3 := Lib.hid (A3.out.kept hg)
  replace HN := Lib.hid (HN0.out.kept G.out)
  replace HT := Lib.hid (HT0.out.kept G.out)
  clear hg
  have hl1 : ng ≤ 2000000 := by omega
  have hl2 : nc ≤ 2000000 := by omega
  have hl3 : n ≤ 2000000 := by omega
  rcases sg_caseO need many ng zg nc zc msg n S with hyes | hno
  case inr =>
    have HNO := Lib.hid hno; clear hno
    obtain ⟨_, k0, k1, k2, k3, k4, k5⟩ := B.out
    go_wp2_with fail
    refine (ssesSig _ need many _ ng _ zg _ nc _ zc msg _ n _ S I1.out I2.out A3.out hl1 hl2 hl3).mono ?_
    rintro e w2 ⟨rfl, hg⟩
    clear k0 k1 k2 k3 k4 k5
    replace G := Lib.hid (gtr G.out hg)
    replace I1 := Lib.hid (I1.out.kept hg)
    replace I2 := Lib.hid (I2.out.kept hg)
    replace A3 := Lib.hid (A3.out.kept hg)
    replace HN := Lib.hid (HN0.out.kept G.out)
    replace HT := Lib.hid (HT0.out.kept G.out)
    replace B := Lib.hid (B.out.kept hg)
    clear hg
    obtain ⟨_, k0, k1, k2, k3, k4, k5⟩ := B.out
    clear k0 k1 k2 k3 k4 k5
    rw [ssV_no HNO.out]
    have hg := Draw.grown_alloc w2 (.cells #[.int .i64 (0 : Int), .int .i64 (0 : Int)] 37) none
    have M := Lib.hid (SvO.of (Blk.new w2 #[.int .i64 (0 : Int), .int .i64 (0 : Int)] 37))
    replace G := Lib.hid (gtr G.out hg)
    replace I1 := Lib.hid (I1.out.kept hg)
    replace I2 := Lib.hid (I2.out.kept hg)
    replace A3 := Lib.hid (A3.out.kept hg)
    replace HN := Lib.hid (HN0.out.kept G.out)
    replace HT := Lib.hid (HT0.out.kept G.out)
    replace B := Lib.hid (B.out.kept hg)
    clear hg
    obtain ⟨_, k0, k1, k2, k3, k4, k5⟩ := B.out
    go_wp2_with fail
    refine (isesSig _ need many _ ng _ zg _ nc _ zc msg _ n _ S ad I1.out I2.out A3.out hl1 hl2 hl3 HN.out).mono ?_
    rintro e w3 ⟨rfl, hg⟩
    clear k0 k1 k2 k3 k4 k5
    replace G := Lib.hid (gtr G.out hg)
    replace I1 := Lib.hid (I1.out.kept hg)
    replace I2 := Lib.hid (I2.out.kept hg)
    replace A3 := Lib.hid (A3.out.kept hg)
    replace HN := Lib.hid (HN0.out.kept G.out)
    replace HT := Lib.hid (HT0.out.kept G.out)
    replace B := Lib.hid (B.out.kept hg)
    replace M := Lib.hid (M.out.kept hg)
    clear hg
    obtain ⟨_, k0, k1, k2, k3, k4, k5⟩ := B.out
    clear k0 k1 k2 k3 k4 k5
    rw [ssV_no HNO.out]
    have hg := Draw.grown_alloc w3 (.cells #[.int .i64 (0 : Int), .int .i64 (0 : Int)] 37) none
    have X := Lib.hid (SvO.of (Blk.new w3 #[.int .i64 (0 : Int), .int .i64 (0 : Int)] 37))
    replace G := Lib.hid (gtr G.out hg)
    replace I1 := Lib.hid (I1.out.kept hg)
    replace I2 := Lib.hid (I2.out.kept hg)
    replace A3 := Lib.hid (A3.out.kept hg)
    replace HN := Lib.hid (HN0.out.kept G.out)
    replace HT := Lib.hid (HT0.out.kept G.out)
    replace B := Lib.hid (B.out.kept hg)
    replace M := Lib.hid (M.out.kept hg)
    clear hg
    have hrr : ((0 : Int) == (0 : Int)) = true := by simp
    have hzz : ((0 : Int) == (0 : Int)) = true := by simp
    obtain ⟨_, k0, k1, k2, k3, k4, k5⟩ := B.out
    obtain ⟨_, m0, m1⟩ := M.out
    obtain ⟨_, x0, x1⟩ := X.out
    go_wp2
    go_ret
    exact ⟨rfl, Draw.below_of G.out⟩
  have HYES := Lib.hid hyes
  have HTS := Lib.hid hyes.1
  have hfa := ts_facts hyes.1
  have hn1 : 1 ≤ n := by omega
  have hn5 : n ≤ 5 := hfa.2.2.2.2.1
  clear hfa hyes
  obtain ⟨q, hq⟩ : ∃ q : Nat, q = len1 % n := ⟨_, rfl⟩
  have hqn : q < n := by rw [hq]; exact Nat.mod_lt _ hn1
  have hmod : (len1 : Int).tmod (n : Int) = (q : Int) := by rw [hq, Int.tmod_eq_emod_of_nonneg (by omega)]; exact (Int.natCast_emod len1 n).symm
  have hnz : ¬ (n : Int) = 0 := by omega
  have hnz' : ¬ n = 0 := by omega
  obtain ⟨d, hd9⟩ : ∃ d : Int, d = 1 + (len1 : Int) % 22 := ⟨_, rfl⟩
  have HDD := Lib.hid (show IntKind.i64.wrap (1 + (len1 : Int).tmod 22) = d by rw [Int.tmod_eq_emod_of_nonneg (by omega), IntWalk.i64_in _ (by omega), hd9])
  obtain ⟨y, hy⟩ : ∃ y : Int, y = sumF (S q).Z d := ⟨_, rfl⟩
  have HZq := (ts_so HTS.out hqn).2.1
  have HFY := Lib.hid (show fok y = true by rw [hy]; exact sumF_ok _ _)
  have hyne : y ≠ (S q).Z := by rw [hy]; exact sum_ne HZq (by omega) (by omega)
  have HBL := Lib.hid (one_bad HTS.out HYES.out.2.1 HYES.out.2.2 hqn HFY.out hyne)
  have HTP := Lib.hid (ts_put (q := q) HTS.out HFY.out)
  have HPS := Lib.hid (pt_at HTS.out hqn y)
  have HOK := Lib.hid (ts_has HTS.out hqn)
  have HY9 := Lib.hid hy.symm
  have hq5 : q < 5 := by omega
  clear hq hd9 hy HZq hyne
  obtain ⟨_, k0, k1, k2, k3, k4, k5⟩ := B.out
  go_wp2_with fail
  refine (ssesSig _ need many _ ng _ zg _ nc _ zc msg _ n _ S I1.out I2.out A3.out hl1 hl2 hl3).mono ?_
  rintro e w2 ⟨rfl, hg⟩
  clear k0 k1 k2 k3 k4 k5
  replace G := Lib.hid (gtr G.out hg)
  replace I1 := Lib.hid (I1.out.kept hg)
  replace I2 := Lib.hid (I2.out.kept hg)
  replace A3 := Lib.hid (A3.out.kept hg)
  replace HN := Lib.hid (HN0.out.kept G.out)
  replace HT := Lib.hid (HT0.out.kept G.out)
  replace B := Lib.hid (B.out.kept hg)
  clear hg
  obtain ⟨_, k0, k1, k2, k3, k4, k5⟩ := B.out
  clear k0 k1 k2 k3 k4 k5
  rw [ssV_yes HYES.out]
  have hg := Draw.grown_alloc w2 (.cells #[.int .i64 (rP S n), .int .i64 (zP S n)] 37) none
  have M := Lib.hid (SvO.of (Blk.new w2 #[.int .i64 (rP S n), .int .i64 (zP S n)] 37))
  replace G := Lib.hid (gtr G.out hg)
  replace I1 := Lib.hid (I1.out.kept hg)
  replace I2 := Lib.hid (I2.out.kept hg)
  replace A3 := Lib.hid (A3.out.kept hg)
  replace HN := Lib.hid (HN0.out.kept G.out)
  replace HT := Lib.hid (HT0.out.kept G.out)
  replace B := Lib.hid (B.out.kept hg)
  clear hg
  obtain ⟨_, k0, k1, k2, k3, k4, k5⟩ := B.out
  go_wp2_with fail
  refine (isesSig _ need many _ ng _ zg _ nc _ zc msg _ n _ S ad I1.out I2.out A3.out hl1 hl2 hl3 HN.out).mono ?_
  rintro e w3 ⟨rfl, hg⟩
  clear k0 k1 k2 k3 k4 k5
  replace G := Lib.hid (gtr G.out hg)
  replace I1 := Lib.hid (I1.out.kept hg)
  replace I2 := Lib.hid (I2.out.kept hg)
  replace A3 := Lib.hid (A3.out.kept hg)
  replace HN := Lib.hid (HN0.out.kept G.out)
  replace HT := Lib.hid (HT0.out.kept G.out)
  replace B := Lib.hid (B.out.kept hg)
  replace M := Lib.hid (M.out.kept hg)
  clear hg
  obtain ⟨_, k0, k1, k2, k3, k4, k5⟩ := B.out
  clear k0 k1 k2 k3 k4 k5
  rw [ssV_yes HYES.out]
  have hg := Draw.grown_alloc w3 (.cells #[.int .i64 (rP S n), .int .i64 (zP S n)] 37) none
  have X := Lib.hid (SvO.of (Blk.new w3 #[.int .i64 (rP S n), .int .i64 (zP S n)] 37))
  replace G := Lib.hid (gtr G.out hg)
  replace I1 := Lib.hid (I1.out.kept hg)
  replace I2 := Lib.hid (I2.out.kept hg)
  replace A3 := Lib.hid (A3.out.kept hg)
  replace HN := Lib.hid (HN0.out.kept G.out)
  replace HT := Lib.hid (HT0.out.kept G.out)
  replace B := Lib.hid (B.out.kept hg)
  replace M := Lib.hid (M.out.kept hg)
  clear hg
  have hrr : ((rP S n) == (rP S n)) = true := by simp
  have hzz : ((zP S n) == (zP S n)) = true := by simp
  obtain ⟨_, k0, k1, k2, k3, k4, k5⟩ := B.out
  obtain ⟨_, m0, m1⟩ := M.out
  obtain ⟨_, x0, x1⟩ := X.out
  clear k0 k1 k2 k3 k4 k5
  clear m0 m1
  clear x0 x1
  obtain ⟨b3, o3, rfl, hb3, hcc⟩ := A3.out.ptr hn1
  obtain ⟨hcm, _, _, hcz⟩ := hcc q hqn
  clear hcc
  have HO := Lib.hid (show ∀ V, World.grownBy (w3.alloc (.cells #[.int .i64 (rP S n), .int .i64 (zP S n)] 37)) V none → V.cell? ⟨b3, o3 + q * 4, none⟩ = some (.int .i64 (S q).m) ∧ V.cell? ⟨b3, o3 + q * 4 + 3, none⟩ = some (.int .i64 (S q).Z) from fun V hg => ⟨(World.cell?_of_block (hg.block b3 hb3 (by simp))).trans hcm, (World.cell?_of_block (hg.block b3 hb3 (by simp))).trans hcz⟩)
  clear hcm hcz hb3
  have C := Lib.hid (Draw.grown_refl (w3.alloc (.cells #[.int .i64 (rP S n), .int .i64 (zP S n)] 37)) none)
  generalize w1.heap.size = bb at *
  obtain ⟨_, k0, k1, k2, k3, k4, k5⟩ := B.out
  obtain ⟨_, m0, m1⟩ := M.out
  obtain ⟨_, x0, x1⟩ := X.out
  go_wp2_with fail
  clear k0 k1 k2 k3 k4 k5
  clear m0 m1
  clear x0 x1
  clear M X
  clear hrr hzz
  generalize (w3.alloc (.cells #[.int .i64 (rP S n), .int .i64 (zP S n)] 37)) = U at *
  have HDW := HDD.out
  refine wp_region_held_drew (S := (fun w' => (w'.cell? ⟨bb, 0, none⟩ = some (.int .i64 need) ∧ w'.cell? ⟨bb, 1, none⟩ = some (.int .i64 many) ∧ w'.cell? ⟨bb, 2, none⟩ = some (.slice ag ng cg) ∧ w'.cell? ⟨bb, 3, none⟩ = some (.slice ac nc cc) ∧ w'.cell? ⟨bb, 4, none⟩ = some (.int .i64 msg) ∧ w'.cell? ⟨bb, 5, none⟩ = some (.slice (some ⟨b3, o3, none⟩) n c3)) ∧ w'.cell? ⟨b3, o3 + q * 4, none⟩ = some (.int .i64 (S q).m) ∧ w'.cell? ⟨b3, o3 + q * 4 + 3, none⟩ = some (.int .i64 (S q).Z))) (by kernel_rfl) (⟨⟨B.out.c0, B.out.c1, B.out.c2, B.out.c3, B.out.c4, B.out.c5⟩, (HO.out _ (Draw.gdrew _)).1, (HO.out _ (Draw.gdrew _)).2⟩) (fun hHeld => ?_)
  have hg := Draw.gdrew U
  replace G := Lib.hid (gtr G.out hg)
  replace I1 := Lib.hid (I1.out.kept hg)
  replace I2 := Lib.hid (I2.out.kept hg)
  replace A3 := Lib.hid (A3.out.kept hg)
  replace HN := Lib.hid (HN0.out.kept G.out)
  replace HT := Lib.hid (HT0.out.kept G.out)
  replace B := Lib.hid (B.out.kept hg)
  replace C := Lib.hid (gtr C.out hg)
  clear hg
  generalize (U).drew = V7 at *
  refine wpAnyH_take (i := 0) (oi := ⟨some 62, _, _, _, _, _⟩) (v := ?_) rfl (by kernel_rfl) (by kernel_rfl) (by kernel_rfl) (fun _ _ _ h => h) (Or.inl ⟨by rfl, ?_⟩) (by assumption) ?_
  rotate_left
  · intro w hSw; (try dsimp only at hSw); go_simp; try with_reducible rfl
  simp only [Act.put, List.setIfInBounds_toArray, List.set_cons_zero, List.set_cons_succ]
  refine wpAnyH_take (i := 1) (oi := ⟨some 63, _, _, _, _, _⟩) (v := ?_) rfl (by kernel_rfl) (by kernel_rfl) (by kernel_rfl) (fun _ _ _ h => h) (Or.inl ⟨by rfl, ?_⟩) (by assumption) ?_
  rotate_left
  · intro w hSw; (try dsimp only at hSw); go_simp; try with_reducible rfl
  simp only [Act.put, List.setIfInBounds_toArray, List.set_cons_zero, List.set_cons_succ]
  refine wpAnyH_take (i := 2) (oi := ⟨some 64, _, _, _, _, _⟩) (v := ?_) rfl (by kernel_rfl) (by kernel_rfl) (by kernel_rfl) (fun _ _ _ h => h) (Or.inl ⟨by rfl, ?_⟩) (by assumption) ?_
  rotate_left
  · intro w hSw; (try dsimp only at hSw); go_simp; try with_reducible rfl
  simp only [Act.put, List.setIfInBounds_toArray, List.set_cons_zero, List.set_cons_succ]
  refine wpAnyH_take (i := 3) (oi := ⟨some 65, _, _, _, _, _⟩) (v := ?_) rfl (by kernel_rfl) (by kernel_rfl) (by kernel_rfl) (fun _ _ _ h => h) (Or.inl ⟨by rfl, ?_⟩) (by assumption) ?_
  rotate_left
  · intro w hSw; (try dsimp only at hSw); go_simp; try with_reducible rfl
  simp only [Act.put, List.setIfInBounds_toArray, List.set_cons_zero, List.set_cons_succ]
  refine wpAnyH_take (i := 4) (oi := ⟨some 66, _, _, _, _, _⟩) (v := ?_) rfl (by kernel_rfl) (by kernel_rfl) (by kernel_rfl) (fun _ _ _ h => h) (Or.inl ⟨by rfl, ?_⟩) (by assumption) ?_
  rotate_left
  · intro w hSw; (try dsimp only at hSw); go_simp; try with_reducible rfl
  simp only [Act.put, List.setIfInBounds_toArray, List.set_cons_zero, List.set_cons_succ]
  refine wpAnyH_take (i := 5) (oi := ⟨some 67, _, _, _, _, _⟩) (v := ?_) rfl (by kernel_rfl) (by kernel_rfl) (by kernel_rfl) (fun _ _ _ h => h) (Or.inl ⟨by rfl, ?_⟩) (by assumption) ?_
  rotate_left
  · intro w hSw; (try dsimp only at hSw); go_simp; try with_reducible rfl
  simp only [Act.put, List.setIfInBounds_toArray, List.set_cons_zero, List.set_cons_succ]
  refine wpAnyH_take (i := 6) (oi := ⟨some 68, _, _, _, _, _⟩) (v := ?_) rfl (by kernel_rfl) (by kernel_rfl) (by kernel_rfl) (fun _ _ _ h => h) (Or.inl ⟨by rfl, ?_⟩) (by assumption) ?_
  rotate_left
  · intro w hSw; (try dsimp only at hSw); go_simp; try with_reducible rfl
  simp only [Act.put, List.setIfInBounds_toArray, List.set_cons_zero, List.set_cons_succ]
  refine wpAnyH_take (i := 7) (oi := ⟨some 69, _, _, _, _, _⟩) (v := ?_) rfl (by kernel_rfl) (by kernel_rfl) (by kernel_rfl) (fun _ _ _ h => h) (Or.inl ⟨by rfl, ?_⟩) (by assumption) ?_
  rotate_left
  · intro w hSw; (try dsimp only at hSw); go_simp; try with_reducible rfl
  simp only [Act.put, List.setIfInBounds_toArray, List.set_cons_zero, List.set_cons_succ]
  refine wpAnyH_take (i := 8) (oi := ⟨some 70, _, _, _, _, _⟩) (v := ?_) rfl (by kernel_rfl) (by kernel_rfl) (by kernel_rfl) (fun _ _ _ h => h) (Or.inl ⟨by rfl, ?_⟩) (by assumption) ?_
  rotate_left
  · intro w hSw; (try dsimp only at hSw); go_simp; try with_reducible rfl
  simp only [Act.put, List.setIfInBounds_toArray, List.set_cons_zero, List.set_cons_succ]
  refine wpAnyH_take (i := 9) (oi := ⟨some 71, _, _, _, _, _⟩) (v := ?_) rfl (by kernel_rfl) (by kernel_rfl) (by kernel_rfl) (fun _ _ _ h => h) (Or.inl ⟨by rfl, ?_⟩) (by assumption) ?_
  rotate_left
  · intro w hSw; (try dsimp only at hSw); go_simp; try with_reducible rfl
  simp only [Act.put, List.setIfInBounds_toArray, List.set_cons_zero, List.set_cons_succ]
  refine wpAnyH_take (i := 10) (oi := ⟨some 72, _, _, _, _, _⟩) (v := ?_) rfl (by kernel_rfl) (by kernel_rfl) (by kernel_rfl) (fun _ _ _ h => h) (Or.inl ⟨by rfl, ?_⟩) (by assumption) ?_
  rotate_left
  · intro w hSw; (try dsimp only at hSw); go_simp; try with_reducible rfl
  simp only [Act.put, List.setIfInBounds_toArray, List.set_cons_zero, List.set_cons_succ]
  refine wpAnyH_take (i := 11) (oi := ⟨some 73, _, _, _, _, _⟩) (v := ?_) rfl (by kernel_rfl) (by kernel_rfl) (by kernel_rfl) (fun _ _ _ h => h) (Or.inl ⟨by rfl, ?_⟩) (by assumption) ?_
  rotate_left
  · intro w hSw; (try dsimp only at hSw); go_simp; try with_reducible rfl
  simp only [Act.put, List.setIfInBounds_toArray, List.set_cons_zero, List.set_cons_succ]
  refine wpAnyH_take (i := 12) (oi := ⟨some 74, _, _, _, _, _⟩) (v := ?_) rfl (by kernel_rfl) (by kernel_rfl) (by kernel_rfl) (fun _ _ _ h => h) (Or.inl ⟨by rfl, ?_⟩) (by assumption) ?_
  rotate_left
  · intro w hSw; (try dsimp only at hSw); go_simp; try with_reducible rfl
  simp only [Act.put, List.setIfInBounds_toArray, List.set_cons_zero, List.set_cons_succ]
  refine wpAnyH_take (i := 13) (oi := ⟨some 75, _, _, _, _, _⟩) (v := ?_) rfl (by kernel_rfl) (by kernel_rfl) (by kernel_rfl) (fun _ _ _ h => h) (Or.inl ⟨by rfl, ?_⟩) (by assumption) ?_
  rotate_left
  · intro w hSw; (try dsimp only at hSw); go_simp; try with_reducible rfl
  simp only [Act.put, List.setIfInBounds_toArray, List.set_cons_zero, List.set_cons_succ]
  refine wpAnyH_take (i := 14) (oi := ⟨some 76, _, _, _, _, _⟩) (v := ?_) rfl (by kernel_rfl) (by kernel_rfl) (by kernel_rfl) (fun _ _ _ h => h) (Or.inl ⟨by rfl, ?_⟩) (by assumption) ?_
  rotate_left
  · intro w hSw; (try dsimp only at hSw); go_simp; try with_reducible rfl
  simp only [Act.put, List.setIfInBounds_toArray, List.set_cons_zero, List.set_cons_succ]
  refine wpAnyH_take (i := 15) (oi := ⟨some 77, _, _, _, _, _⟩) (v := ?_) rfl (by kernel_rfl) (by kernel_rfl) (by kernel_rfl) (fun _ _ _ h => h) (Or.inl ⟨by rfl, ?_⟩) (by assumption) ?_
  rotate_left
  · intro w hSw; (try dsimp only at hSw); go_simp; try with_reducible rfl
  simp only [Act.put, List.setIfInBounds_toArray, List.set_cons_zero, List.set_cons_succ]
  refine wpAnyH_take (i := 16) (oi := ⟨some 78, _, _, _, _, _⟩) (v := ?_) rfl (by kernel_rfl) (by kernel_rfl) (by kernel_rfl) (fun _ _ _ h => h) (Or.inl ⟨by rfl, ?_⟩) (by assumption) ?_
  rotate_left
  · intro w hSw; (try dsimp only at hSw); go_simp; try with_reducible rfl
  simp only [Act.put, List.setIfInBounds_toArray, List.set_cons_zero, List.set_cons_succ]
  refine wpAnyH_ready (rs := [17, 22]) (by kernel_rfl) (by simp) ?_
  refine AllReadyH.cons (o := ⟨some 79, _, _, _, _, _⟩) rfl (fun Kq hKq => ?_) (AllReadyH.cons (o := ⟨some 11, _, _, _, _, _⟩) rfl (fun Kq hKq => ?_) AllReadyH.nil)
  · go_simp
    go_at_call 25
    refine (isumG (S q).Z d _).mono ?_
    rintro e V8 ⟨rfl, hg⟩
    rw [HY9.out]
    replace G := Lib.hid (gtr G.out hg)
    replace I1 := Lib.hid (I1.out.kept hg)
    replace I2 := Lib.hid (I2.out.kept hg)
    replace A3 := Lib.hid (A3.out.kept hg)
    replace HN := Lib.hid (HN0.out.kept G.out)
    replace HT := Lib.hid (HT0.out.kept G.out)
    replace B := Lib.hid (B.out.kept hg)
    replace C := Lib.hid (gtr C.out hg)
    clear hg
    refine hKq.out _ _ (⟨⟨B.out.c0, B.out.c1, B.out.c2, B.out.c3, B.out.c4, B.out.c5⟩, (HO.out _ C.out).1, (HO.out _ C.out).2⟩) (fun hHeld => ?_)
    clear hKq Kq
    refine wpAnyH_ready (rs := [18, 22]) (by kernel_rfl) (by simp) ?_
    refine AllReadyH.cons (o := ⟨some 80, _, _, _, _, _⟩) rfl (fun Kq hKq => ?_) (AllReadyH.cons (o := ⟨some 11, _, _, _, _, _⟩) rfl (fun Kq hKq => ?_) AllReadyH.nil)
    · go_simp
      go_at_call 28
      refine (i32put _ need many _ ng _ zg _ nc _ zc msg _ n _ S (S q).m y I1.out I2.out A3.out (ints_sl I1.out) (ints_sl I2.out) (sh_sl A3.out) hl1 hl2 hl3).mono ?_
      rintro e V9 hsp
      obtain ⟨a1', c1', a2', c2', a3', c3', rfl, hi1, hi2, hO3, hap, hg⟩ := sesPQ_get HTS.out HFY.out hsp
      clear hsp hap
      rw [HPS.out] at hO3
      rw [HOK.out]
      have N1 := Lib.hid (hi1.lower (Nat.zero_le _)); have N2 := Lib.hid (hi2.lower (Nat.zero_le _)); have N3 := Lib.hid (hO3.lower (Nat.zero_le _))
      clear hi1 hi2 hO3
      clear I1 I2 A3
      replace G := Lib.hid (gtr G.out hg)
      replace HN := Lib.hid (HN0.out.kept G.out)
      replace HT := Lib.hid (HT0.out.kept G.out)
      replace B := Lib.hid (B.out.kept hg)
      replace C := Lib.hid (gtr C.out hg)
      clear hg
      refine hKq.out _ _ (⟨⟨B.out.c0, B.out.c1, B.out.c2, B.out.c3, B.out.c4, B.out.c5⟩, (HO.out _ C.out).1, (HO.out _ C.out).2⟩) (fun hHeld => ?_)
      clear hKq Kq
      refine wpAnyH_take (i := 19) (oi := ⟨some 61, _, _, _, _, _⟩) (v := ?_) rfl (by kernel_rfl) (by kernel_rfl) (by kernel_rfl) (fun _ _ _ h => h) (Or.inl ⟨by rfl, ?_⟩) (by assumption) ?_
      rotate_left
      · intro w hSw; (try dsimp only at hSw); go_simp; try with_reducible rfl
      simp only [Act.put, List.setIfInBounds_toArray, List.set_cons_zero, List.set_cons_succ]
      refine wpAnyH_take (i := 20) (oi := ⟨some 81, _, _, _, _, _⟩) (v := ?_) rfl (by kernel_rfl) (by kernel_rfl) (by kernel_rfl) (fun _ _ _ h => h) (Or.inl ⟨by rfl, ?_⟩) (by assumption) ?_
      rotate_left
      · intro w hSw; (try dsimp only at hSw); go_simp; try with_reducible rfl
      simp only [Act.put, List.setIfInBounds_toArray, List.set_cons_zero, List.set_cons_succ]
      refine wpAnyH_take (i := 21) (oi := ⟨some 82, _, _, _, _, _⟩) (v := ?_) rfl (by kernel_rfl) (by kernel_rfl) (by kernel_rfl) (fun _ _ _ h => h) (Or.inl ⟨by rfl, ?_⟩) (by assumption) ?_
      rotate_left
      · intro w hSw; (try dsimp only at hSw); go_simp; try with_reducible rfl
      simp only [Act.put, List.setIfInBounds_toArray, List.set_cons_zero, List.set_cons_succ]
      refine wpAnyH_ready (rs := [22]) (by kernel_rfl) (by simp) ?_
      refine AllReadyH.cons (o := ⟨some 11, _, _, _, _, _⟩) rfl (fun Kq hKq => ?_) AllReadyH.nil
      go_simp
      refine at_alloc ?_
      intro Va hg hT
      have hxb : bb < V9.heap.size := B.out.lt
      have hxw : w.heap.size ≤ V9.heap.size := G.out.size
      have hxz := C.out.size
      generalize V9.heap.size = xb at *
      have X := Lib.hid hT
      clear hT
      replace G := Lib.hid (gtr G.out hg)
      replace HN := Lib.hid (HN0.out.kept G.out)
      replace HT := Lib.hid (HT0.out.kept G.out)
      replace B := Lib.hid (B.out.kept hg)
      replace C := Lib.hid (gtr C.out hg)
      replace N1 := Lib.hid (N1.out.kept hg (fun g e => by cases e))
      replace N2 := Lib.hid (N2.out.kept hg (fun g e => by cases e))
      replace N3 := Lib.hid (N3.out.kept hg (fun g e => by cases e))
      clear hg
      refine hKq.out _ _ (⟨⟨B.out.c0, B.out.c1, B.out.c2, B.out.c3, B.out.c4, B.out.c5⟩, (HO.out _ C.out).1, (HO.out _ C.out).2⟩) (fun hHeld => ?_)
      clear hKq Kq
      refine wpAnyH_ready (rs := [23]) (by kernel_rfl) (by simp) ?_
      refine AllReadyH.cons (o := ⟨none, _, _, _, _, _⟩) rfl (fun Kq hKq => ?_) AllReadyH.nil
      rw [if_pos (by rfl)]
      refine wp_store_blk 30 (.tmp 11) (.tmp 81) xb _ _ 30 X.out rfl rfl rfl rfl (by kernel_rfl) (by simp [Value.oneCell']) rfl ?_
      intro Vs hg hT
      have N1' := N1.out.keptBlk X.out hg; have N2' := N2.out.keptBlk X.out hg; have N3' := N3.out.keptBlk X.out hg
      clear X N1 N2 N3
      have X := Lib.hid hT; have N1 := Lib.hid N1'; have N2 := Lib.hid N2'; have N3 := Lib.hid N3'
      clear hT N1' N2' N3'
      replace G := Lib.hid (grown_new G.out (by omega) hg)
      replace HN := Lib.hid (HN0.out.kept G.out)
      replace HT := Lib.hid (HT0.out.kept G.out)
      replace B := Lib.hid (B.out.keptB (hg.block _ B.out.lt (by intro e; have e := Option.some.inj e; omega)) hg.size)
      replace C := Lib.hid (grown_new C.out (by omega) hg)
      clear hg
      refine hKq.out _ _ (⟨⟨B.out.c0, B.out.c1, B.out.c2, B.out.c3, B.out.c4, B.out.c5⟩, (HO.out _ C.out).1, (HO.out _ C.out).2⟩) (fun hHeld => ?_)
      clear hKq Kq
      refine wpAnyH_take (i := 24) (oi := ⟨some 12, _, _, _, _, _⟩) (v := ?_) rfl (by kernel_rfl) (by kernel_rfl) (by kernel_rfl) (fun _ _ _ h => h) (Or.inl ⟨by rfl, ?_⟩) (by assumption) ?_
      rotate_left
      · intro w hSw; (try dsimp only at hSw); go_simp; try with_reducible rfl
      simp only [Act.put, List.setIfInBounds_toArray, List.set_cons_zero, List.set_cons_succ]
      refine wpAnyH_done (by kernel_rfl) ?_ _
      clear hHeld
      obtain ⟨t0, t1, t2, t3, t4, t5, _, _, _, _, _, _⟩ := X.out.all6
      go_wp2_with fail
      clear t0 t1 t2 t3 t4 t5
      have HNO := Lib.hid (show ¬ (tsF need many ng zg nc zc msg n (putS S q y) = true ∧ (tbL need many ng zg nc zc msg n (putS S q y) n).length = 0 ∧ onA (putS S q y) n = true) from fun e => by have := e.2.1; rw [HBL.out] at this; simp at this)
      refine (isesSig _ need many _ ng _ zg _ nc _ zc msg _ n _ (putS S q y) ad N1.out.ints N2.out.ints (sh_own N3.out) hl1 hl2 hl3 HN.out).mono ?_
      rintro e Vb ⟨rfl, hg⟩
      rw [ssV_no HNO.out]
      replace G := Lib.hid (gtr G.out hg)
      replace HN := Lib.hid (HN0.out.kept G.out)
      replace HT := Lib.hid (HT0.out.kept G.out)
      replace B := Lib.hid (B.out.kept hg)
      replace C := Lib.hid (gtr C.out hg)
      replace X := Lib.hid (X.out.keptN hg)
      replace N1 := Lib.hid (N1.out.kept hg (fun g e => by cases e))
      replace N2 := Lib.hid (N2.out.kept hg (fun g e => by cases e))
      replace N3 := Lib.hid (N3.out.kept hg (fun g e => by cases e))
      clear hg
      have hg := Draw.grown_alloc Vb (.cells #[.int .i64 0, .int .i64 0] 37) none
      replace G := Lib.hid (gtr G.out hg)
      replace HN := Lib.hid (HN0.out.kept G.out)
      replace HT := Lib.hid (HT0.out.kept G.out)
      replace B := Lib.hid (B.out.kept hg)
      replace C := Lib.hid (gtr C.out hg)
      replace X := Lib.hid (X.out.keptN hg)
      replace N1 := Lib.hid (N1.out.kept hg (fun g e => by cases e))
      replace N2 := Lib.hid (N2.out.kept hg (fun g e => by cases e))
      replace N3 := Lib.hid (N3.out.kept hg (fun g e => by cases e))
      clear hg
      go_wp2_with fail
      generalize (Vb.alloc (.cells #[.int .i64 0, .int .i64 0] 37)) = U2 at *
      refine wp_region_held_drew (S := (fun w' => (w'.cell? ⟨xb, 0, none⟩ = some (.int .i64 need) ∧ w'.cell? ⟨xb, 1, none⟩ = some (.int .i64 many) ∧ w'.cell? ⟨xb, 2, none⟩ = some (.slice a1' ng c1') ∧ w'.cell? ⟨xb, 3, none⟩ = some (.slice a2' nc c2') ∧ w'.cell? ⟨xb, 4, none⟩ = some (.int .i64 msg) ∧ w'.cell? ⟨xb, 5, none⟩ = some (.slice a3' n c3')) ∧ w'.cell? ⟨bb, 5, none⟩ = some (.slice (some ⟨b3, o3, none⟩) n c3) ∧ w'.cell? ⟨b3, o3 + q * 4, none⟩ = some (.int .i64 (S q).m))) (by kernel_rfl) (⟨⟨X.out.cell 0, X.out.cell 1, X.out.cell 2, X.out.cell 3, X.out.cell 4, X.out.cell 5⟩, B.out.c5, (HO.out _ (gtr C.out (Draw.gdrew _))).1⟩) (fun hHeld => ?_)
      have hg := Draw.gdrew U2
      replace G := Lib.hid (gtr G.out hg)
      replace HN := Lib.hid (HN0.out.kept G.out)
      replace HT := Lib.hid (HT0.out.kept G.out)
      replace B := Lib.hid (B.out.kept hg)
      replace C := Lib.hid (gtr C.out hg)
      replace X := Lib.hid (X.out.keptN hg)
      replace N1 := Lib.hid (N1.out.kept hg (fun g e => by cases e))
      replace N2 := Lib.hid (N2.out.kept hg (fun g e => by cases e))
      replace N3 := Lib.hid (N3.out.kept hg (fun g e => by cases e))
      clear hg
      generalize (U2).drew = V2 at *
      refine wpAnyH_take (i := 0) (oi := ⟨some 88, _, _, _, _, _⟩) (v := ?_) rfl (by kernel_rfl) (by kernel_rfl) (by kernel_rfl) (fun _ _ _ h => h) (Or.inl ⟨by rfl, ?_⟩) (by assumption) ?_
      rotate_left
      · intro w hSw; (try dsimp only at hSw); go_simp; try with_reducible rfl
      simp only [Act.put, List.setIfInBounds_toArray, List.set_cons_zero, List.set_cons_succ]
      refine wpAnyH_take (i := 1) (oi := ⟨some 89, _, _, _, _, _⟩) (v := ?_) rfl (by kernel_rfl) (by kernel_rfl) (by kernel_rfl) (fun _ _ _ h => h) (Or.inl ⟨by rfl, ?_⟩) (by assumption) ?_
      rotate_left
      · intro w hSw; (try dsimp only at hSw); go_simp; try with_reducible rfl
      simp only [Act.put, List.setIfInBounds_toArray, List.set_cons_zero, List.set_cons_succ]
      refine wpAnyH_take (i := 2) (oi := ⟨some 90, _, _, _, _, _⟩) (v := ?_) rfl (by kernel_rfl) (by kernel_rfl) (by kernel_rfl) (fun _ _ _ h => h) (Or.inl ⟨by rfl, ?_⟩) (by assumption) ?_
      rotate_left
      · intro w hSw; (try dsimp only at hSw); go_simp; try with_reducible rfl
      simp only [Act.put, List.setIfInBounds_toArray, List.set_cons_zero, List.set_cons_succ]
      refine wpAnyH_take (i := 3) (oi := ⟨some 91, _, _, _, _, _⟩) (v := ?_) rfl (by kernel_rfl) (by kernel_rfl) (by kernel_rfl) (fun _ _ _ h => h) (Or.inl ⟨by rfl, ?_⟩) (by assumption) ?_
      rotate_left
      · intro w hSw; (try dsimp only at hSw); go_simp; try with_reducible rfl
      simp only [Act.put, List.setIfInBounds_toArray, List.set_cons_zero, List.set_cons_succ]
      refine wpAnyH_take (i := 4) (oi := ⟨some 92, _, _, _, _, _⟩) (v := ?_) rfl (by kernel_rfl) (by kernel_rfl) (by kernel_rfl) (fun _ _ _ h => h) (Or.inl ⟨by rfl, ?_⟩) (by assumption) ?_
      rotate_left
      · intro w hSw; (try dsimp only at hSw); go_simp; try with_reducible rfl
      simp only [Act.put, List.setIfInBounds_toArray, List.set_cons_zero, List.set_cons_succ]
      refine wpAnyH_take (i := 5) (oi := ⟨some 93, _, _, _, _, _⟩) (v := ?_) rfl (by kernel_rfl) (by kernel_rfl) (by kernel_rfl) (fun _ _ _ h => h) (Or.inl ⟨by rfl, ?_⟩) (by assumption) ?_
      rotate_left
      · intro w hSw; (try dsimp only at hSw); go_simp; try with_reducible rfl
      simp only [Act.put, List.setIfInBounds_toArray, List.set_cons_zero, List.set_cons_succ]
      refine wpAnyH_take (i := 6) (oi := ⟨some 94, _, _, _, _, _⟩) (v := ?_) rfl (by kernel_rfl) (by kernel_rfl) (by kernel_rfl) (fun _ _ _ h => h) (Or.inl ⟨by rfl, ?_⟩) (by assumption) ?_
      rotate_left
      · intro w hSw; (try dsimp only at hSw); go_simp; try with_reducible rfl
      simp only [Act.put, List.setIfInBounds_toArray, List.set_cons_zero, List.set_cons_succ]
      refine wpAnyH_take (i := 8) (oi := ⟨some 96, _, _, _, _, _⟩) (v := ?_) rfl (by kernel_rfl) (by kernel_rfl) (by kernel_rfl) (fun _ _ _ h => h) (Or.inl ⟨by rfl, ?_⟩) (by assumption) ?_
      rotate_left
      · intro w hSw; (try dsimp only at hSw); go_simp; try with_reducible rfl
      simp only [Act.put, List.setIfInBounds_toArray, List.set_cons_zero, List.set_cons_succ]
      refine wpAnyH_take (i := 9) (oi := ⟨some 97, _, _, _, _, _⟩) (v := ?_) rfl (by kernel_rfl) (by kernel_rfl) (by kernel_rfl) (fun _ _ _ h => h) (Or.inl ⟨by rfl, ?_⟩) (by assumption) ?_
      rotate_left
      · intro w hSw; (try dsimp only at hSw); go_simp; try with_reducible rfl
      simp only [Act.put, List.setIfInBounds_toArray, List.set_cons_zero, List.set_cons_succ]
      refine wpAnyH_take (i := 10) (oi := ⟨some 98, _, _, _, _, _⟩) (v := ?_) rfl (by kernel_rfl) (by kernel_rfl) (by kernel_rfl) (fun _ _ _ h => h) (Or.inl ⟨by rfl, ?_⟩) (by assumption) ?_
      rotate_left
      · intro w hSw; (try dsimp only at hSw); go_simp; try with_reducible rfl
      simp only [Act.put, List.setIfInBounds_toArray, List.set_cons_zero, List.set_cons_succ]
      refine wpAnyH_take (i := 11) (oi := ⟨some 99, _, _, _, _, _⟩) (v := ?_) rfl (by kernel_rfl) (by kernel_rfl) (by kernel_rfl) (fun _ _ _ h => h) (Or.inl ⟨by rfl, ?_⟩) (by assumption) ?_
      rotate_left
      · intro w hSw; (try dsimp only at hSw); go_simp; try with_reducible rfl
      simp only [Act.put, List.setIfInBounds_toArray, List.set_cons_zero, List.set_cons_succ]
      refine wpAnyH_take (i := 12) (oi := ⟨some 100, _, _, _, _, _⟩) (v := ?_) rfl (by kernel_rfl) (by kernel_rfl) (by kernel_rfl) (fun _ _ _ h => h) (Or.inl ⟨by rfl, ?_⟩) (by assumption) ?_
      rotate_left
      · intro w hSw; (try dsimp only at hSw); go_simp; try with_reducible rfl
      simp only [Act.put, List.setIfInBounds_toArray, List.set_cons_zero, List.set_cons_succ]
      refine wpAnyH_take (i := 13) (oi := ⟨some 101, _, _, _, _, _⟩) (v := ?_) rfl (by kernel_rfl) (by kernel_rfl) (by kernel_rfl) (fun _ _ _ h => h) (Or.inl ⟨by rfl, ?_⟩) (by assumption) ?_
      rotate_left
      · intro w hSw; (try dsimp only at hSw); go_simp; try with_reducible rfl
      simp only [Act.put, List.setIfInBounds_toArray, List.set_cons_zero, List.set_cons_succ]
      refine wpAnyH_ready (rs := [7, 14]) (by kernel_rfl) (by simp) ?_
      refine AllReadyH.cons (o := ⟨some 95, _, _, _, _, _⟩) rfl (fun Kq hKq => ?_) (AllReadyH.cons (o := ⟨some 102, _, _, _, _, _⟩) rfl (fun Kq hKq => ?_) AllReadyH.nil)
      · go_simp
        go_at_call 14
        refine (isesBad _ need many _ ng _ zg _ nc _ zc msg _ n _ (putS S q y) ad N1.out.ints N2.out.ints (sh_own N3.out) hl1 hl2 hl3 HN.out HT.out).mono ?_
        rintro e Vc ⟨vb, rfl, hL, hg⟩
        rw [tbF_yes HTP.out, HBL.out] at hL
        obtain ⟨ab, cb, rfl, hIb⟩ := lst_one hL
        have IB := Lib.hid hIb
        clear hL hIb
        replace G := Lib.hid (gtr G.out hg)
        replace HN := Lib.hid (HN0.out.kept G.out)
        replace HT := Lib.hid (HT0.out.kept G.out)
        replace B := Lib.hid (B.out.kept hg)
        replace C := Lib.hid (gtr C.out hg)
        replace X := Lib.hid (X.out.keptN hg)
        replace N1 := Lib.hid (N1.out.kept hg (fun g e => by cases e))
        replace N2 := Lib.hid (N2.out.kept hg (fun g e => by cases e))
        replace N3 := Lib.hid (N3.out.kept hg (fun g e => by cases e))
        clear hg
        refine hKq.out _ _ (⟨⟨X.out.cell 0, X.out.cell 1, X.out.cell 2, X.out.cell 3, X.out.cell 4, X.out.cell 5⟩, B.out.c5, (HO.out _ C.out).1⟩) (fun hHeld => ?_)
        clear hKq Kq
        refine wpAnyH_ready (rs := [14]) (by kernel_rfl) (by simp) ?_
        refine AllReadyH.cons (o := ⟨some 102, _, _, _, _, _⟩) rfl (fun Kq hKq => ?_) AllReadyH.nil
        go_simp
        refine at_alloc ?_
        intro Ve hg hT
        generalize Vc.heap.size = lb at *
        have L1 := Lib.hid (blk_one hT)
        clear hT
        replace G := Lib.hid (gtr G.out hg)
        replace HN := Lib.hid (HN0.out.kept G.out)
        replace HT := Lib.hid (HT0.out.kept G.out)
        replace B := Lib.hid (B.out.kept hg)
        replace C := Lib.hid (gtr C.out hg)
        replace X := Lib.hid (X.out.keptN hg)
        replace N1 := Lib.hid (N1.out.kept hg (fun g e => by cases e))
        replace N2 := Lib.hid (N2.out.kept hg (fun g e => by cases e))
        replace N3 := Lib.hid (N3.out.kept hg (fun g e => by cases e))
        replace IB := Lib.hid (IB.out.kept hg)
        clear hg
        refine hKq.out _ _ (⟨⟨X.out.cell 0, X.out.cell 1, X.out.cell 2, X.out.cell 3, X.out.cell 4, X.out.cell 5⟩, B.out.c5, (HO.out _ C.out).1⟩) (fun hHeld => ?_)
        clear hKq Kq
        refine wpAnyH_ready (rs := [15]) (by kernel_rfl) (by simp) ?_
        refine AllReadyH.cons (o := ⟨some 103, _, _, _, _, _⟩) rfl (fun Kq hKq => ?_) AllReadyH.nil
        go_simp
        go_at_call 16
        refine (lpints _ ab (some ⟨lb, 0, none⟩) 1 cb 1 (fun _ => (S q).m) IB.out L1.out.i (by omega)).mono ?_
        rintro e Vd ⟨rfl, hg⟩
        replace G := Lib.hid (gtr G.out hg)
        replace HN := Lib.hid (HN0.out.kept G.out)
        replace HT := Lib.hid (HT0.out.kept G.out)
        replace B := Lib.hid (B.out.kept hg)
        replace C := Lib.hid (gtr C.out hg)
        replace X := Lib.hid (X.out.keptN hg)
        replace N1 := Lib.hid (N1.out.kept hg (fun g e => by cases e))
        replace N2 := Lib.hid (N2.out.kept hg (fun g e => by cases e))
        replace N3 := Lib.hid (N3.out.kept hg (fun g e => by cases e))
        replace IB := Lib.hid (IB.out.kept hg)
        replace L1 := Lib.hid (L1.out.keptN hg)
        clear hg
        refine hKq.out _ _ (⟨⟨X.out.cell 0, X.out.cell 1, X.out.cell 2, X.out.cell 3, X.out.cell 4, X.out.cell 5⟩, B.out.c5, (HO.out _ C.out).1⟩) (fun hHeld => ?_)
        clear hKq Kq
        refine wpAnyH_take (i := 16) (oi := ⟨some 104, _, _, _, _, _⟩) (v := ?_) rfl (by kernel_rfl) (by kernel_rfl) (by kernel_rfl) (fun _ _ _ h => h) (Or.inl ⟨by rfl, ?_⟩) (by assumption) ?_
        rotate_left
        · intro w hSw; (try dsimp only at hSw); go_simp; try with_reducible rfl
        simp only [Act.put, List.setIfInBounds_toArray, List.set_cons_zero, List.set_cons_succ]
        refine wpAnyH_take (i := 17) (oi := ⟨some 4, _, _, _, _, _⟩) (v := ?_) rfl (by kernel_rfl) (by kernel_rfl) (by kernel_rfl) (fun _ _ _ h => h) (Or.inl ⟨by rfl, ?_⟩) (by assumption) ?_
        rotate_left
        · intro w hSw; (try dsimp only at hSw); go_simp; try with_reducible rfl
        simp only [Act.put, List.setIfInBounds_toArray, List.set_cons_zero, List.set_cons_succ]
        refine wpAnyH_done (by kernel_rfl) ?_ _
        clear hHeld
        go_wp2
        go_ret
        exact ⟨rfl, Draw.below_of G.out⟩
      · go_simp
        refine at_alloc ?_
        intro Ve hg hT
        generalize V2.heap.size = lb at *
        have L1 := Lib.hid (blk_one hT)
        clear hT
        replace G := Lib.hid (gtr G.out hg)
        replace HN := Lib.hid (HN0.out.kept G.out)
        replace HT := Lib.hid (HT0.out.kept G.out)
        replace B := Lib.hid (B.out.kept hg)
        replace C := Lib.hid (gtr C.out hg)
        replace X := Lib.hid (X.out.keptN hg)
        replace N1 := Lib.hid (N1.out.kept hg (fun g e => by cases e))
        replace N2 := Lib.hid (N2.out.kept hg (fun g e => by cases e))
        replace N3 := Lib.hid (N3.out.kept hg (fun g e => by cases e))
        clear hg
        refine hKq.out _ _ (⟨⟨X.out.cell 0, X.out.cell 1, X.out.cell 2, X.out.cell 3, X.out.cell 4, X.out.cell 5⟩, B.out.c5, (HO.out _ C.out).1⟩) (fun hHeld => ?_)
        clear hKq Kq
        refine wpAnyH_ready (rs := [7]) (by kernel_rfl) (by simp) ?_
        refine AllReadyH.cons (o := ⟨some 95, _, _, _, _, _⟩) rfl (fun Kq hKq => ?_) AllReadyH.nil
        go_simp
        go_at_call 14
        refine (isesBad _ need many _ ng _ zg _ nc _ zc msg _ n _ (putS S q y) ad N1.out.ints N2.out.ints (sh_own N3.out) hl1 hl2 hl3 HN.out HT.out).mono ?_
        rintro e Vc ⟨vb, rfl, hL, hg⟩
        rw [tbF_yes HTP.out, HBL.out] at hL
        obtain ⟨ab, cb, rfl, hIb⟩ := lst_one hL
        have IB := Lib.hid hIb
        clear hL hIb
        replace G := Lib.hid (gtr G.out hg)
        replace HN := Lib.hid (HN0.out.kept G.out)
        replace HT := Lib.hid (HT0.out.kept G.out)
        replace B := Lib.hid (B.out.kept hg)
        replace C := Lib.hid (gtr C.out hg)
        replace X := Lib.hid (X.out.keptN hg)
        replace N1 := Lib.hid (N1.out.kept hg (fun g e => by cases e))
        replace N2 := Lib.hid (N2.out.kept hg (fun g e => by cases e))
        replace N3 := Lib.hid (N3.out.kept hg (fun g e => by cases e))
        replace L1 := Lib.hid (L1.out.keptN hg)
        clear hg
        refine hKq.out _ _ (⟨⟨X.out.cell 0, X.out.cell 1, X.out.cell 2, X.out.cell 3, X.out.cell 4, X.out.cell 5⟩, B.out.c5, (HO.out _ C.out).1⟩) (fun hHeld => ?_)
        clear hKq Kq
        refine wpAnyH_ready (rs := [15]) (by kernel_rfl) (by simp) ?_
        refine AllReadyH.cons (o := ⟨some 103, _, _, _, _, _⟩) rfl (fun Kq hKq => ?_) AllReadyH.nil
        go_simp
        go_at_call 16
        refine (lpints _ ab (some ⟨lb, 0, none⟩) 1 cb 1 (fun _ => (S q).m) IB.out L1.out.i (by omega)).mono ?_
        rintro e Vd ⟨rfl, hg⟩
        replace G := Lib.hid (gtr G.out hg)
        replace HN := Lib.hid (HN0.out.kept G.out)
        replace HT := Lib.hid (HT0.out.kept G.out)
        replace B := Lib.hid (B.out.kept hg)
        replace C := Lib.hid (gtr C.out hg)
        replace X := Lib.hid (X.out.keptN hg)
        replace N1 := Lib.hid (N1.out.kept hg (fun g e => by cases e))
        replace N2 := Lib.hid (N2.out.kept hg (fun g e => by cases e))
        replace N3 := Lib.hid (N3.out.kept hg (fun g e => by cases e))
        replace L1 := Lib.hid (L1.out.keptN hg)
        replace IB := Lib.hid (IB.out.kept hg)
        clear hg
        refine hKq.out _ _ (⟨⟨X.out.cell 0, X.out.cell 1, X.out.cell 2, X.out.cell 3, X.out.cell 4, X.out.cell 5⟩, B.out.c5, (HO.out _ C.out).1⟩) (fun hHeld => ?_)
        clear hKq Kq
        refine wpAnyH_take (i := 16) (oi := ⟨some 104, _, _, _, _, _⟩) (v := ?_) rfl (by kernel_rfl) (by kernel_rfl) (by kernel_rfl) (fun _ _ _ h => h) (Or.inl ⟨by rfl, ?_⟩) (by assumption) ?_
        rotate_left
        · intro w hSw; (try dsimp only at hSw); go_simp; try with_reducible rfl
        simp only [Act.put, List.setIfInBounds_toArray, List.set_cons_zero, List.set_cons_succ]
        refine wpAnyH_take (i := 17) (oi := ⟨some 4, _, _, _, _, _⟩) (v := ?_) rfl (by kernel_rfl) (by kernel_rfl) (by kernel_rfl) (fun _ _ _ h => h) (Or.inl ⟨by rfl, ?_⟩) (by assumption) ?_
        rotate_left
        · intro w hSw; (try dsimp only at hSw); go_simp; try with_reducible rfl
        simp only [Act.put, List.setIfInBounds_toArray, List.set_cons_zero, List.set_cons_succ]
        refine wpAnyH_done (by kernel_rfl) ?_ _
        clear hHeld
        go_wp2
        go_ret
        exact ⟨rfl, Draw.below_of G.out⟩
    · go_simp
      refine at_alloc ?_
      intro Va hg hT
      have hxb : bb < V8.heap.size := B.out.lt
      have hxw : w.heap.size ≤ V8.heap.size := G.out.size
      have hxz := C.out.size
      generalize V8.heap.size = xb at *
      have X := Lib.hid hT
      clear hT
      replace G := Lib.hid (gtr G.out hg)
      replace I1 := Lib.hid (I1.out.kept hg)
      replace I2 := Lib.hid (I2.out.kept hg)
      replace A3 := Lib.hid (A3.out.kept hg)
      replace HN := Lib.hid (HN0.out.kept G.out)
      replace HT := Lib.hid (HT0.out.kept G.out)
      replace B := Lib.hid (B.out.kept hg)
      replace C := Lib.hid (gtr C.out hg)
      clear hg
      refine hKq.out _ _ (⟨⟨B.out.c0, B.out.c1, B.out.c2, B.out.c3, B.out.c4, B.out.c5⟩, (HO.out _ C.out).1, (HO.out _ C.out).2⟩) (fun hHeld => ?_)
      clear hKq Kq
      refine wpAnyH_ready (rs := [18]) (by kernel_rfl) (by simp) ?_
      refine AllReadyH.cons (o := ⟨some 80, _, _, _, _, _⟩) rfl (fun Kq hKq => ?_) AllReadyH.nil
      go_simp
      go_at_call 28
      refine (i32put _ need many _ ng _ zg _ nc _ zc msg _ n _ S (S q).m y I1.out I2.out A3.out (ints_sl I1.out) (ints_sl I2.out) (sh_sl A3.out) hl1 hl2 hl3).mono ?_
      rintro e V9 hsp
      obtain ⟨a1', c1', a2', c2', a3', c3', rfl, hi1, hi2, hO3, hap, hg⟩ := sesPQ_get HTS.out HFY.out hsp
      clear hsp hap
      rw [HPS.out] at hO3
      rw [HOK.out]
      have N1 := Lib.hid (hi1.lower (Nat.zero_le _)); have N2 := Lib.hid (hi2.lower (Nat.zero_le _)); have N3 := Lib.hid (hO3.lower (Nat.zero_le _))
      clear hi1 hi2 hO3
      clear I1 I2 A3
      replace G := Lib.hid (gtr G.out hg)
      replace HN := Lib.hid (HN0.out.kept G.out)
      replace HT := Lib.hid (HT0.out.kept G.out)
      replace B := Lib.hid (B.out.kept hg)
      replace C := Lib.hid (gtr C.out hg)
      replace X := Lib.hid (X.out.keptN hg)
      clear hg
      refine hKq.out _ _ (⟨⟨B.out.c0, B.out.c1, B.out.c2, B.out.c3, B.out.c4, B.out.c5⟩, (HO.out _ C.out).1, (HO.out _ C.out).2⟩) (fun hHeld => ?_)
      clear hKq Kq
      refine wpAnyH_take (i := 19) (oi := ⟨some 61, _, _, _, _, _⟩) (v := ?_) rfl (by kernel_rfl) (by kernel_rfl) (by kernel_rfl) (fun _ _ _ h => h) (Or.inl ⟨by rfl, ?_⟩) (by assumption) ?_
      rotate_left
      · intro w hSw; (try dsimp only at hSw); go_simp; try with_reducible rfl
      simp only [Act.put, List.setIfInBounds_toArray, List.set_cons_zero, List.set_cons_succ]
      refine wpAnyH_take (i := 20) (oi := ⟨some 81, _, _, _, _, _⟩) (v := ?_) rfl (by kernel_rfl) (by kernel_rfl) (by kernel_rfl) (fun _ _ _ h => h) (Or.inl ⟨by rfl, ?_⟩) (by assumption) ?_
      rotate_left
      · intro w hSw; (try dsimp only at hSw); go_simp; try with_reducible rfl
      simp only [Act.put, List.setIfInBounds_toArray, List.set_cons_zero, List.set_cons_succ]
      refine wpAnyH_take (i := 21) (oi := ⟨some 82, _, _, _, _, _⟩) (v := ?_) rfl (by kernel_rfl) (by kernel_rfl) (by kernel_rfl) (fun _ _ _ h => h) (Or.inl ⟨by rfl, ?_⟩) (by assumption) ?_
      rotate_left
      · intro w hSw; (try dsimp only at hSw); go_simp; try with_reducible rfl
      simp only [Act.put, List.setIfInBounds_toArray, List.set_cons_zero, List.set_cons_succ]
      refine wpAnyH_ready (rs := [23]) (by kernel_rfl) (by simp) ?_
      refine AllReadyH.cons (o := ⟨none, _, _, _, _, _⟩) rfl (fun Kq hKq => ?_) AllReadyH.nil
      rw [if_pos (by rfl)]
      refine wp_store_blk 30 (.tmp 11) (.tmp 81) xb _ _ 30 X.out rfl rfl rfl rfl (by kernel_rfl) (by simp [Value.oneCell']) rfl ?_
      intro Vs hg hT
      have N1' := N1.out.keptBlk X.out hg; have N2' := N2.out.keptBlk X.out hg; have N3' := N3.out.keptBlk X.out hg
      clear X N1 N2 N3
      have X := Lib.hid hT; have N1 := Lib.hid N1'; have N2 := Lib.hid N2'; have N3 := Lib.hid N3'
      clear hT N1' N2' N3'
      replace G := Lib.hid (grown_new G.out (by omega) hg)
      replace HN := Lib.hid (HN0.out.kept G.out)
      replace HT := Lib.hid (HT0.out.kept G.out)
      replace B := Lib.hid (B.out.keptB (hg.block _ B.out.lt (by intro e; have e := Option.some.inj e; omega)) hg.size)
      replace C := Lib.hid (grown_new C.out (by omega) hg)
      clear hg
      refine hKq.out _ _ (⟨⟨B.out.c0, B.out.c1, B.out.c2, B.out.c3, B.out.c4, B.out.c5⟩, (HO.out _ C.out).1, (HO.out _ C.out).2⟩) (fun hHeld => ?_)
      clear hKq Kq
      refine wpAnyH_take (i := 24) (oi := ⟨some 12, _, _, _, _, _⟩) (v := ?_) rfl (by kernel_rfl) (by kernel_rfl) (by kernel_rfl) (fun _ _ _ h => h) (Or.inl ⟨by rfl, ?_⟩) (by assumption) ?_
      rotate_left
      · intro w hSw; (try dsimp only at hSw); go_simp; try with_reducible rfl
      simp only [Act.put, List.setIfInBounds_toArray, List.set_cons_zero, List.set_cons_succ]
      refine wpAnyH_done (by kernel_rfl) ?_ _
      clear hHeld
      obtain ⟨t0, t1, t2, t3, t4, t5, _, _, _, _, _, _⟩ := X.out.all6
      go_wp2_with fail
      clear t0 t1 t2 t3 t4 t5
      have HNO := Lib.hid (show ¬ (tsF need many ng zg nc zc msg n (putS S q y) = true ∧ (tbL need many ng zg nc zc msg n (putS S q y) n).length = 0 ∧ onA (putS S q y) n = true) from fun e => by have := e.2.1; rw [HBL.out] at this; simp at this)
      refine (isesSig _ need many _ ng _ zg _ nc _ zc msg _ n _ (putS S q y) ad N1.out.ints N2.out.ints (sh_own N3.out) hl1 hl2 hl3 HN.out).mono ?_
      rintro e Vb ⟨rfl, hg⟩
      rw [ssV_no HNO.out]
      replace G := Lib.hid (gtr G.out hg)
      replace HN := Lib.hid (HN0.out.kept G.out)
      replace HT := Lib.hid (HT0.out.kept G.out)
      replace B := Lib.hid (B.out.kept hg)
      replace C := Lib.hid (gtr C.out hg)
      replace X := Lib.hid (X.out.keptN hg)
      replace N1 := Lib.hid (N1.out.kept hg (fun g e => by cases e))
      replace N2 := Lib.hid (N2.out.kept hg (fun g e => by cases e))
      replace N3 := Lib.hid (N3.out.kept hg (fun g e => by cases e))
      clear hg
      have hg := Draw.grown_alloc Vb (.cells #[.int .i64 0, .int .i64 0] 37) none
      replace G := Lib.hid (gtr G.out hg)
      replace HN := Lib.hid (HN0.out.kept G.out)
      replace HT := Lib.hid (HT0.out.kept G.out)
      replace B := Lib.hid (B.out.kept hg)
      replace C := Lib.hid (gtr C.out hg)
      replace X := Lib.hid (X.out.keptN hg)
      replace N1 := Lib.hid (N1.out.kept hg (fun g e => by cases e))
      replace N2 := Lib.hid (N2.out.kept hg (fun g e => by cases e))
      replace N3 := Lib.hid (N3.out.kept hg (fun g e => by cases e))
      clear hg
      go_wp2_with fail
      generalize (Vb.alloc (.cells #[.int .i64 0, .int .i64 0] 37)) = U2 at *
      refine wp_region_held_drew (S := (fun w' => (w'.cell? ⟨xb, 0, none⟩ = some (.int .i64 need) ∧ w'.cell? ⟨xb, 1, none⟩ = some (.int .i64 many) ∧ w'.cell? ⟨xb, 2, none⟩ = some (.slice a1' ng c1') ∧ w'.cell? ⟨xb, 3, none⟩ = some (.slice a2' nc c2') ∧ w'.cell? ⟨xb, 4, none⟩ = some (.int .i64 msg) ∧ w'.cell? ⟨xb, 5, none⟩ = some (.slice a3' n c3')) ∧ w'.cell? ⟨bb, 5, none⟩ = some (.slice (some ⟨b3, o3, none⟩) n c3) ∧ w'.cell? ⟨b3, o3 + q * 4, none⟩ = some (.int .i64 (S q).m))) (by kernel_rfl) (⟨⟨X.out.cell 0, X.out.cell 1, X.out.cell 2, X.out.cell 3, X.out.cell 4, X.out.cell 5⟩, B.out.c5, (HO.out _ (gtr C.out (Draw.gdrew _))).1⟩) (fun hHeld => ?_)
      have hg := Draw.gdrew U2
      replace G := Lib.hid (gtr G.out hg)
      replace HN := Lib.hid (HN0.out.kept G.out)
      replace HT := Lib.hid (HT0.out.kept G.out)
      replace B := Lib.hid (B.out.kept hg)
      replace C := Lib.hid (gtr C.out hg)
      replace X := Lib.hid (X.out.keptN hg)
      replace N1 := Lib.hid (N1.out.kept hg (fun g e => by cases e))
      replace N2 := Lib.hid (N2.out.kept hg (fun g e => by cases e))
      replace N3 := Lib.hid (N3.out.kept hg (fun g e => by cases e))
      clear hg
      generalize (U2).drew = V2 at *
      refine wpAnyH_take (i := 0) (oi := ⟨some 88, _, _, _, _, _⟩) (v := ?_) rfl (by kernel_rfl) (by kernel_rfl) (by kernel_rfl) (fun _ _ _ h => h) (Or.inl ⟨by rfl, ?_⟩) (by assumption) ?_
      rotate_left
      · intro w hSw; (try dsimp only at hSw); go_simp; try with_reducible rfl
      simp only [Act.put, List.setIfInBounds_toArray, List.set_cons_zero, List.set_cons_succ]
      refine wpAnyH_take (i := 1) (oi := ⟨some 89, _, _, _, _, _⟩) (v := ?_) rfl (by kernel_rfl) (by kernel_rfl) (by kernel_rfl) (fun _ _ _ h => h) (Or.inl ⟨by rfl, ?_⟩) (by assumption) ?_
      rotate_left
      · intro w hSw; (try dsimp only at hSw); go_simp; try with_reducible rfl
      simp only [Act.put, List.setIfInBounds_toArray, List.set_cons_zero, List.set_cons_succ]
      refine wpAnyH_take (i := 2) (oi := ⟨some 90, _, _, _, _, _⟩) (v := ?_) rfl (by kernel_rfl) (by kernel_rfl) (by kernel_rfl) (fun _ _ _ h => h) (Or.inl ⟨by rfl, ?_⟩) (by assumption) ?_
      rotate_left
      · intro w hSw; (try dsimp only at hSw); go_simp; try with_reducible rfl
      simp only [Act.put, List.setIfInBounds_toArray, List.set_cons_zero, List.set_cons_succ]
      refine wpAnyH_take (i := 3) (oi := ⟨some 91, _, _, _, _, _⟩) (v := ?_) rfl (by kernel_rfl) (by kernel_rfl) (by kernel_rfl) (fun _ _ _ h => h) (Or.inl ⟨by rfl, ?_⟩) (by assumption) ?_
      rotate_left
      · intro w hSw; (try dsimp only at hSw); go_simp; try with_reducible rfl
      simp only [Act.put, List.setIfInBounds_toArray, List.set_cons_zero, List.set_cons_succ]
      refine wpAnyH_take (i := 4) (oi := ⟨some 92, _, _, _, _, _⟩) (v := ?_) rfl (by kernel_rfl) (by kernel_rfl) (by kernel_rfl) (fun _ _ _ h => h) (Or.inl ⟨by rfl, ?_⟩) (by assumption) ?_
      rotate_left
      · intro w hSw; (try dsimp only at hSw); go_simp; try with_reducible rfl
      simp only [Act.put, List.setIfInBounds_toArray, List.set_cons_zero, List.set_cons_succ]
      refine wpAnyH_take (i := 5) (oi := ⟨some 93, _, _, _, _, _⟩) (v := ?_) rfl (by kernel_rfl) (by kernel_rfl) (by kernel_rfl) (fun _ _ _ h => h) (Or.inl ⟨by rfl, ?_⟩) (by assumption) ?_
      rotate_left
      · intro w hSw; (try dsimp only at hSw); go_simp; try with_reducible rfl
      simp only [Act.put, List.setIfInBounds_toArray, List.set_cons_zero, List.set_cons_succ]
      refine wpAnyH_take (i := 6) (oi := ⟨some 94, _, _, _, _, _⟩) (v := ?_) rfl (by kernel_rfl) (by kernel_rfl) (by kernel_rfl) (fun _ _ _ h => h) (Or.inl ⟨by rfl, ?_⟩) (by assumption) ?_
      rotate_left
      · intro w hSw; (try dsimp only at hSw); go_simp; try with_reducible rfl
      simp only [Act.put, List.setIfInBounds_toArray, List.set_cons_zero, List.set_cons_succ]
      refine wpAnyH_take (i := 8) (oi := ⟨some 96, _, _, _, _, _⟩) (v := ?_) rfl (by kernel_rfl) (by kernel_rfl) (by kernel_rfl) (fun _ _ _ h => h) (Or.inl ⟨by rfl, ?_⟩) (by assumption) ?_
      rotate_left
      · intro w hSw; (try dsimp only at hSw); go_simp; try with_reducible rfl
      simp only [Act.put, List.setIfInBounds_toArray, List.set_cons_zero, List.set_cons_succ]
      refine wpAnyH_take (i := 9) (oi := ⟨some 97, _, _, _, _, _⟩) (v := ?_) rfl (by kernel_rfl) (by kernel_rfl) (by kernel_rfl) (fun _ _ _ h => h) (Or.inl ⟨by rfl, ?_⟩) (by assumption) ?_
      rotate_left
      · intro w hSw; (try dsimp only at hSw); go_simp; try with_reducible rfl
      simp only [Act.put, List.setIfInBounds_toArray, List.set_cons_zero, List.set_cons_succ]
      refine wpAnyH_take (i := 10) (oi := ⟨some 98, _, _, _, _, _⟩) (v := ?_) rfl (by kernel_rfl) (by kernel_rfl) (by kernel_rfl) (fun _ _ _ h => h) (Or.inl ⟨by rfl, ?_⟩) (by assumption) ?_
      rotate_left
      · intro w hSw; (try dsimp only at hSw); go_simp; try with_reducible rfl
      simp only [Act.put, List.setIfInBounds_toArray, List.set_cons_zero, List.set_cons_succ]
      refine wpAnyH_take (i := 11) (oi := ⟨some 99, _, _, _, _, _⟩) (v := ?_) rfl (by kernel_rfl) (by kernel_rfl) (by kernel_rfl) (fun _ _ _ h => h) (Or.inl ⟨by rfl, ?_⟩) (by assumption) ?_
      rotate_left
      · intro w hSw; (try dsimp only at hSw); go_simp; try with_reducible rfl
      simp only [Act.put, List.setIfInBounds_toArray, List.set_cons_zero, List.set_cons_succ]
      refine wpAnyH_take (i := 12) (oi := ⟨some 100, _, _, _, _, _⟩) (v := ?_) rfl (by kernel_rfl) (by kernel_rfl) (by kernel_rfl) (fun _ _ _ h => h) (Or.inl ⟨by rfl, ?_⟩) (by assumption) ?_
      rotate_left
      · intro w hSw; (try dsimp only at hSw); go_simp; try with_reducible rfl
      simp only [Act.put, List.setIfInBounds_toArray, List.set_cons_zero, List.set_cons_succ]
      refine wpAnyH_take (i := 13) (oi := ⟨some 101, _, _, _, _, _⟩) (v := ?_) rfl (by kernel_rfl) (by kernel_rfl) (by kernel_rfl) (fun _ _ _ h => h) (Or.inl ⟨by rfl, ?_⟩) (by assumption) ?_
      rotate_left
      · intro w hSw; (try dsimp only at hSw); go_simp; try with_reducible rfl
      simp only [Act.put, List.setIfInBounds_toArray, List.set_cons_zero, List.set_cons_succ]
      refine wpAnyH_ready (rs := [7, 14]) (by kernel_rfl) (by simp) ?_
      refine AllReadyH.cons (o := ⟨some 95, _, _, _, _, _⟩) rfl (fun Kq hKq => ?_) (AllReadyH.cons (o := ⟨some 102, _, _, _, _, _⟩) rfl (fun Kq hKq => ?_) AllReadyH.nil)
      · go_simp
        go_at_call 14
        refine (isesBad _ need many _ ng _ zg _ nc _ zc msg _ n _ (putS S q y) ad N1.out.ints N2.out.ints (sh_own N3.out) hl1 hl2 hl3 HN.out HT.out).mono ?_
        rintro e Vc ⟨vb, rfl, hL, hg⟩
        rw [tbF_yes HTP.out, HBL.out] at hL
        obtain ⟨ab, cb, rfl, hIb⟩ := lst_one hL
        have IB := Lib.hid hIb
        clear hL hIb
        replace G := Lib.hid (gtr G.out hg)
        replace HN := Lib.hid (HN0.out.kept G.out)
        replace HT := Lib.hid (HT0.out.kept G.out)
        replace B := Lib.hid (B.out.kept hg)
        replace C := Lib.hid (gtr C.out hg)
        replace X := Lib.hid (X.out.keptN hg)
        replace N1 := Lib.hid (N1.out.kept hg (fun g e => by cases e))
        replace N2 := Lib.hid (N2.out.kept hg (fun g e => by cases e))
        replace N3 := Lib.hid (N3.out.kept hg (fun g e => by cases e))
        clear hg
        refine hKq.out _ _ (⟨⟨X.out.cell 0, X.out.cell 1, X.out.cell 2, X.out.cell 3, X.out.cell 4, X.out.cell 5⟩, B.out.c5, (HO.out _ C.out).1⟩) (fun hHeld => ?_)
        clear hKq Kq
        refine wpAnyH_ready (rs := [14]) (by kernel_rfl) (by simp) ?_
        refine AllReadyH.cons (o := ⟨some 102, _, _, _, _, _⟩) rfl (fun Kq hKq => ?_) AllReadyH.nil
        go_simp
        refine at_alloc ?_
        intro Ve hg hT
        generalize Vc.heap.size = lb at *
        have L1 := Lib.hid (blk_one hT)
        clear hT
        replace G := Lib.hid (gtr G.out hg)
        replace HN := Lib.hid (HN0.out.kept G.out)
        replace HT := Lib.hid (HT0.out.kept G.out)
        replace B := Lib.hid (B.out.kept hg)
        replace C := Lib.hid (gtr C.out hg)
        replace X := Lib.hid (X.out.keptN hg)
        replace N1 := Lib.hid (N1.out.kept hg (fun g e => by cases e))
        replace N2 := Lib.hid (N2.out.kept hg (fun g e => by cases e))
        replace N3 := Lib.hid (N3.out.kept hg (fun g e => by cases e))
        replace IB := Lib.hid (IB.out.kept hg)
        clear hg
        refine hKq.out _ _ (⟨⟨X.out.cell 0, X.out.cell 1, X.out.cell 2, X.out.cell 3, X.out.cell 4, X.out.cell 5⟩, B.out.c5, (HO.out _ C.out).1⟩) (fun hHeld => ?_)
        clear hKq Kq
        refine wpAnyH_ready (rs := [15]) (by kernel_rfl) (by simp) ?_
        refine AllReadyH.cons (o := ⟨some 103, _, _, _, _, _⟩) rfl (fun Kq hKq => ?_) AllReadyH.nil
        go_simp
        go_at_call 16
        refine (lpints _ ab (some ⟨lb, 0, none⟩) 1 cb 1 (fun _ => (S q).m) IB.out L1.out.i (by omega)).mono ?_
        rintro e Vd ⟨rfl, hg⟩
        replace G := Lib.hid (gtr G.out hg)
        replace HN := Lib.hid (HN0.out.kept G.out)
        replace HT := Lib.hid (HT0.out.kept G.out)
        replace B := Lib.hid (B.out.kept hg)
        replace C := Lib.hid (gtr C.out hg)
        replace X := Lib.hid (X.out.keptN hg)
        replace N1 := Lib.hid (N1.out.kept hg (fun g e => by cases e))
        replace N2 := Lib.hid (N2.out.kept hg (fun g e => by cases e))
        replace N3 := Lib.hid (N3.out.kept hg (fun g e => by cases e))
        replace IB := Lib.hid (IB.out.kept hg)
        replace L1 := Lib.hid (L1.out.keptN hg)
        clear hg
        refine hKq.out _ _ (⟨⟨X.out.cell 0, X.out.cell 1, X.out.cell 2, X.out.cell 3, X.out.cell 4, X.out.cell 5⟩, B.out.c5, (HO.out _ C.out).1⟩) (fun hHeld => ?_)
        clear hKq Kq
        refine wpAnyH_take (i := 16) (oi := ⟨some 104, _, _, _, _, _⟩) (v := ?_) rfl (by kernel_rfl) (by kernel_rfl) (by kernel_rfl) (fun _ _ _ h => h) (Or.inl ⟨by rfl, ?_⟩) (by assumption) ?_
        rotate_left
        · intro w hSw; (try dsimp only at hSw); go_simp; try with_reducible rfl
        simp only [Act.put, List.setIfInBounds_toArray, List.set_cons_zero, List.set_cons_succ]
        refine wpAnyH_take (i := 17) (oi := ⟨some 4, _, _, _, _, _⟩) (v := ?_) rfl (by kernel_rfl) (by kernel_rfl) (by kernel_rfl) (fun _ _ _ h => h) (Or.inl ⟨by rfl, ?_⟩) (by assumption) ?_
        rotate_left
        · intro w hSw; (try dsimp only at hSw); go_simp; try with_reducible rfl
        simp only [Act.put, List.setIfInBounds_toArray, List.set_cons_zero, List.set_cons_succ]
        refine wpAnyH_done (by kernel_rfl) ?_ _
        clear hHeld
        go_wp2
        go_ret
        exact ⟨rfl, Draw.below_of G.out⟩
      · go_simp
        refine at_alloc ?_
        intro Ve hg hT
        generalize V2.heap.size = lb at *
        have L1 := Lib.hid (blk_one hT)
        clear hT
        replace G := Lib.hid (gtr G.out hg)
        replace HN := Lib.hid (HN0.out.kept G.out)
        replace HT := Lib.hid (HT0.out.kept G.out)
        replace B := Lib.hid (B.out.kept hg)
        replace C := Lib.hid (gtr C.out hg)
        replace X := Lib.hid (X.out.keptN hg)
        replace N1 := Lib.hid (N1.out.kept hg (fun g e => by cases e))
        replace N2 := Lib.hid (N2.out.kept hg (fun g e => by cases e))
        replace N3 := Lib.hid (N3.out.kept hg (fun g e => by cases e))
        clear hg
        refine hKq.out _ _ (⟨⟨X.out.cell 0, X.out.cell 1, X.out.cell 2, X.out.cell 3, X.out.cell 4, X.out.cell 5⟩, B.out.c5, (HO.out _ C.out).1⟩) (fun hHeld => ?_)
        clear hKq Kq
        refine wpAnyH_ready (rs := [7]) (by kernel_rfl) (by simp) ?_
        refine AllReadyH.cons (o := ⟨some 95, _, _, _, _, _⟩) rfl (fun Kq hKq => ?_) AllReadyH.nil
        go_simp
        go_at_call 14
        refine (isesBad _ need many _ ng _ zg _ nc _ zc msg _ n _ (putS S q y) ad N1.out.ints N2.out.ints (sh_own N3.out) hl1 hl2 hl3 HN.out HT.out).mono ?_
        rintro e Vc ⟨vb, rfl, hL, hg⟩
        rw [tbF_yes HTP.out, HBL.out] at hL
        obtain ⟨ab, cb, rfl, hIb⟩ := lst_one hL
        have IB := Lib.hid hIb
        clear hL hIb
        replace G := Lib.hid (gtr G.out hg)
        replace HN := Lib.hid (HN0.out.kept G.out)
        replace HT := Lib.hid (HT0.out.kept G.out)
        replace B := Lib.hid (B.out.kept hg)
        replace C := Lib.hid (gtr C.out hg)
        replace X := Lib.hid (X.out.keptN hg)
        replace N1 := Lib.hid (N1.out.kept hg (fun g e => by cases e))
        replace N2 := Lib.hid (N2.out.kept hg (fun g e => by cases e))
        replace N3 := Lib.hid (N3.out.kept hg (fun g e => by cases e))
        replace L1 := Lib.hid (L1.out.keptN hg)
        clear hg
        refine hKq.out _ _ (⟨⟨X.out.cell 0, X.out.cell 1, X.out.cell 2, X.out.cell 3, X.out.cell 4, X.out.cell 5⟩, B.out.c5, (HO.out _ C.out).1⟩) (fun hHeld => ?_)
        clear hKq Kq
        refine wpAnyH_ready (rs := [15]) (by kernel_rfl) (by simp) ?_
        refine AllReadyH.cons (o := ⟨some 103, _, _, _, _, _⟩) rfl (fun Kq hKq => ?_) AllReadyH.nil
        go_simp
        go_at_call 16
        refine (lpints _ ab (some ⟨lb, 0, none⟩) 1 cb 1 (fun _ => (S q).m) IB.out L1.out.i (by omega)).mono ?_
        rintro e Vd ⟨rfl, hg⟩
        replace G := Lib.hid (gtr G.out hg)
        replace HN := Lib.hid (HN0.out.kept G.out)
        replace HT := Lib.hid (HT0.out.kept G.out)
        replace B := Lib.hid (B.out.kept hg)
        replace C := Lib.hid (gtr C.out hg)
        replace X := Lib.hid (X.out.keptN hg)
        replace N1 := Lib.hid (N1.out.kept hg (fun g e => by cases e))
        replace N2 := Lib.hid (N2.out.kept hg (fun g e => by cases e))
        replace N3 := Lib.hid (N3.out.kept hg (fun g e => by cases e))
        replace L1 := Lib.hid (L1.out.keptN hg)
        replace IB := Lib.hid (IB.out.kept hg)
        clear hg
        refine hKq.out _ _ (⟨⟨X.out.cell 0, X.out.cell 1, X.out.cell 2, X.out.cell 3, X.out.cell 4, X.out.cell 5⟩, B.out.c5, (HO.out _ C.out).1⟩) (fun hHeld => ?_)
        clear hKq Kq
        refine wpAnyH_take (i := 16) (oi := ⟨some 104, _, _, _, _, _⟩) (v := ?_) rfl (by kernel_rfl) (by kernel_rfl) (by kernel_rfl) (fun _ _ _ h => h) (Or.inl ⟨by rfl, ?_⟩) (by assumption) ?_
        rotate_left
        · intro w hSw; (try dsimp only at hSw); go_simp; try with_reducible rfl
        simp only [Act.put, List.setIfInBounds_toArray, List.set_cons_zero, List.set_cons_succ]
        refine wpAnyH_take (i := 17) (oi := ⟨some 4, _, _, _, _, _⟩) (v := ?_) rfl (by kernel_rfl) (by kernel_rfl) (by kernel_rfl) (fun _ _ _ h => h) (Or.inl ⟨by rfl, ?_⟩) (by assumption) ?_
        rotate_left
        · intro w hSw; (try dsimp only at hSw); go_simp; try with_reducible rfl
        simp only [Act.put, List.setIfInBounds_toArray, List.set_cons_zero, List.set_cons_succ]
        refine wpAnyH_done (by kernel_rfl) ?_ _
        clear hHeld
        go_wp2
        go_ret
        exact ⟨rfl, Draw.below_of G.out⟩
  · go_simp
    refine at_alloc ?_
    intro Va hg hT
    have hxb : bb < V7.heap.size := B.out.lt
    have hxw : w.heap.size ≤ V7.heap.size := G.out.size
    have hxz := C.out.size
    generalize V7.heap.size = xb at *
    have X := Lib.hid hT
    clear hT
    replace G := Lib.hid (gtr G.out hg)
    replace I1 := Lib.hid (I1.out.kept hg)
    replace I2 := Lib.hid (I2.out.kept hg)
    replace A3 := Lib.hid (A3.out.kept hg)
    replace HN := Lib.hid (HN0.out.kept G.out)
    replace HT := Lib.hid (HT0.out.kept G.out)
    replace B := Lib.hid (B.out.kept hg)
    replace C := Lib.hid (gtr C.out hg)
    clear hg
    refine hKq.out _ _ (⟨⟨B.out.c0, B.out.c1, B.out.c2, B.out.c3, B.out.c4, B.out.c5⟩, (HO.out _ C.out).1, (HO.out _ C.out).2⟩) (fun hHeld => ?_)
    clear hKq Kq
    refine wpAnyH_ready (rs := [17]) (by kernel_rfl) (by simp) ?_
    refine AllReadyH.cons (o := ⟨some 79, _, _, _, _, _⟩) rfl (fun Kq hKq => ?_) AllReadyH.nil
    go_simp
    go_at_call 25
    refine (isumG (S q).Z d _).mono ?_
    rintro e V8 ⟨rfl, hg⟩
    rw [HY9.out]
    replace G := Lib.hid (gtr G.out hg)
    replace I1 := Lib.hid (I1.out.kept hg)
    replace I2 := Lib.hid (I2.out.kept hg)
    replace A3 := Lib.hid (A3.out.kept hg)
    replace HN := Lib.hid (HN0.out.kept G.out)
    replace HT := Lib.hid (HT0.out.kept G.out)
    replace B := Lib.hid (B.out.kept hg)
    replace C := Lib.hid (gtr C.out hg)
    replace X := Lib.hid (X.out.keptN hg)
    clear hg
    refine hKq.out _ _ (⟨⟨B.out.c0, B.out.c1, B.out.c2, B.out.c3, B.out.c4, B.out.c5⟩, (HO.out _ C.out).1, (HO.out _ C.out).2⟩) (fun hHeld => ?_)
    clear hKq Kq
    refine wpAnyH_ready (rs := [18]) (by kernel_rfl) (by simp) ?_
    refine AllReadyH.cons (o := ⟨some 80, _, _, _, _, _⟩) rfl (fun Kq hKq => ?_) AllReadyH.nil
    go_simp
    go_at_call 28
    refine (i32put _ need many _ ng _ zg _ nc _ zc msg _ n _ S (S q).m y I1.out I2.out A3.out (ints_sl I1.out) (ints_sl I2.out) (sh_sl A3.out) hl1 hl2 hl3).mono ?_
    rintro e V9 hsp
    obtain ⟨a1', c1', a2', c2', a3', c3', rfl, hi1, hi2, hO3, hap, hg⟩ := sesPQ_get HTS.out HFY.out hsp
    clear hsp hap
    rw [HPS.out] at hO3
    rw [HOK.out]
    have N1 := Lib.hid (hi1.lower (Nat.zero_le _)); have N2 := Lib.hid (hi2.lower (Nat.zero_le _)); have N3 := Lib.hid (hO3.lower (Nat.zero_le _))
    clear hi1 hi2 hO3
    clear I1 I2 A3
    replace G := Lib.hid (gtr G.out hg)
    replace HN := Lib.hid (HN0.out.kept G.out)
    replace HT := Lib.hid (HT0.out.kept G.out)
    replace B := Lib.hid (B.out.kept hg)
    replace C := Lib.hid (gtr C.out hg)
    replace X := Lib.hid (X.out.keptN hg)
    clear hg
    refine hKq.out _ _ (⟨⟨B.out.c0, B.out.c1, B.out.c2, B.out.c3, B.out.c4, B.out.c5⟩, (HO.out _ C.out).1, (HO.out _ C.out).2⟩) (fun hHeld => ?_)
    clear hKq Kq
    refine wpAnyH_take (i := 19) (oi := ⟨some 61, _, _, _, _, _⟩) (v := ?_) rfl (by kernel_rfl) (by kernel_rfl) (by kernel_rfl) (fun _ _ _ h => h) (Or.inl ⟨by rfl, ?_⟩) (by assumption) ?_
    rotate_left
    · intro w hSw; (try dsimp only at hSw); go_simp; try with_reducible rfl
    simp only [Act.put, List.setIfInBounds_toArray, List.set_cons_zero, List.set_cons_succ]
    refine wpAnyH_take (i := 20) (oi := ⟨some 81, _, _, _, _, _⟩) (v := ?_) rfl (by kernel_rfl) (by kernel_rfl) (by kernel_rfl) (fun _ _ _ h => h) (Or.inl ⟨by rfl, ?_⟩) (by assumption) ?_
    rotate_left
    · intro w hSw; (try dsimp only at hSw); go_simp; try with_reducible rfl
    simp only [Act.put, List.setIfInBounds_toArray, List.set_cons_zero, List.set_cons_succ]
    refine wpAnyH_take (i := 21) (oi := ⟨some 82, _, _, _, _, _⟩) (v := ?_) rfl (by kernel_rfl) (by kernel_rfl) (by kernel_rfl) (fun _ _ _ h => h) (Or.inl ⟨by rfl, ?_⟩) (by assumption) ?_
    rotate_left
    · intro w hSw; (try dsimp only at hSw); go_simp; try with_reducible rfl
    simp only [Act.put, List.setIfInBounds_toArray, List.set_cons_zero, List.set_cons_succ]
    refine wpAnyH_ready (rs := [23]) (by kernel_rfl) (by simp) ?_
    refine AllReadyH.cons (o := ⟨none, _, _, _, _, _⟩) rfl (fun Kq hKq => ?_) AllReadyH.nil
    rw [if_pos (by rfl)]
    refine wp_store_blk 30 (.tmp 11) (.tmp 81) xb _ _ 30 X.out rfl rfl rfl rfl (by kernel_rfl) (by simp [Value.oneCell']) rfl ?_
    intro Vs hg hT
    have N1' := N1.out.keptBlk X.out hg; have N2' := N2.out.keptBlk X.out hg; have N3' := N3.out.keptBlk X.out hg
    clear X N1 N2 N3
    have X := Lib.hid hT; have N1 := Lib.hid N1'; have N2 := Lib.hid N2'; have N3 := Lib.hid N3'
    clear hT N1' N2' N3'
    replace G := Lib.hid (grown_new G.out (by omega) hg)
    replace HN := Lib.hid (HN0.out.kept G.out)
    replace HT := Lib.hid (HT0.out.kept G.out)
    replace B := Lib.hid (B.out.keptB (hg.block _ B.out.lt (by intro e; have e := Option.some.inj e; omega)) hg.size)
    replace C := Lib.hid (grown_new C.out (by omega) hg)
    clear hg
    refine hKq.out _ _ (⟨⟨B.out.c0, B.out.c1, B.out.c2, B.out.c3, B.out.c4, B.out.c5⟩, (HO.out _ C.out).1, (HO.out _ C.out).2⟩) (fun hHeld => ?_)
    clear hKq Kq
    refine wpAnyH_take (i := 24) (oi := ⟨some 12, _, _, _, _, _⟩) (v := ?_) rfl (by kernel_rfl) (by kernel_rfl) (by kernel_rfl) (fun _ _ _ h => h) (Or.inl ⟨by rfl, ?_⟩) (by assumption) ?_
    rotate_left
    · intro w hSw; (try dsimp only at hSw); go_simp; try with_reducible rfl
    simp only [Act.put, List.setIfInBounds_toArray, List.set_cons_zero, List.set_cons_succ]
    refine wpAnyH_done (by kernel_rfl) ?_ _
    clear hHeld
    obtain ⟨t0, t1, t2, t3, t4, t5, _, _, _, _, _, _⟩ := X.out.all6
    go_wp2_with fail
    clear t0 t1 t2 t3 t4 t5
    have HNO := Lib.hid (show ¬ (tsF need many ng zg nc zc msg n (putS S q y) = true ∧ (tbL need many ng zg nc zc msg n (putS S q y) n).length = 0 ∧ onA (putS S q y) n = true) from fun e => by have := e.2.1; rw [HBL.out] at this; simp at this)
    refine (isesSig _ need many _ ng _ zg _ nc _ zc msg _ n _ (putS S q y) ad N1.out.ints N2.out.ints (sh_own N3.out) hl1 hl2 hl3 HN.out).mono ?_
    rintro e Vb ⟨rfl, hg⟩
    rw [ssV_no HNO.out]
    replace G := Lib.hid (gtr G.out hg)
    replace HN := Lib.hid (HN0.out.kept G.out)
    replace HT := Lib.hid (HT0.out.kept G.out)
    replace B := Lib.hid (B.out.kept hg)
    replace C := Lib.hid (gtr C.out hg)
    replace X := Lib.hid (X.out.keptN hg)
    replace N1 := Lib.hid (N1.out.kept hg (fun g e => by cases e))
    replace N2 := Lib.hid (N2.out.kept hg (fun g e => by cases e))
    replace N3 := Lib.hid (N3.out.kept hg (fun g e => by cases e))
    clear hg
    have hg := Draw.grown_alloc Vb (.cells #[.int .i64 0, .int .i64 0] 37) none
    replace G := Lib.hid (gtr G.out hg)
    replace HN := Lib.hid (HN0.out.kept G.out)
    replace HT := Lib.hid (HT0.out.kept G.out)
    replace B := Lib.hid (B.out.kept hg)
    replace C := Lib.hid (gtr C.out hg)
    replace X := Lib.hid (X.out.keptN hg)
    replace N1 := Lib.hid (N1.out.kept hg (fun g e => by cases e))
    replace N2 := Lib.hid (N2.out.kept hg (fun g e => by cases e))
    replace N3 := Lib.hid (N3.out.kept hg (fun g e => by cases e))
    clear hg
    go_wp2_with fail
    generalize (Vb.alloc (.cells #[.int .i64 0, .int .i64 0] 37)) = U2 at *
    refine wp_region_held_drew (S := (fun w' => (w'.cell? ⟨xb, 0, none⟩ = some (.int .i64 need) ∧ w'.cell? ⟨xb, 1, none⟩ = some (.int .i64 many) ∧ w'.cell? ⟨xb, 2, none⟩ = some (.slice a1' ng c1') ∧ w'.cell? ⟨xb, 3, none⟩ = some (.slice a2' nc c2') ∧ w'.cell? ⟨xb, 4, none⟩ = some (.int .i64 msg) ∧ w'.cell? ⟨xb, 5, none⟩ = some (.slice a3' n c3')) ∧ w'.cell? ⟨bb, 5, none⟩ = some (.slice (some ⟨b3, o3, none⟩) n c3) ∧ w'.cell? ⟨b3, o3 + q * 4, none⟩ = some (.int .i64 (S q).m))) (by kernel_rfl) (⟨⟨X.out.cell 0, X.out.cell 1, X.out.cell 2, X.out.cell 3, X.out.cell 4, X.out.cell 5⟩, B.out.c5, (HO.out _ (gtr C.out (Draw.gdrew _))).1⟩) (fun hHeld => ?_)
    have hg := Draw.gdrew U2
    replace G := Lib.hid (gtr G.out hg)
    replace HN := Lib.hid (HN0.out.kept G.out)
    replace HT := Lib.hid (HT0.out.kept G.out)
    replace B := Lib.hid (B.out.kept hg)
    replace C := Lib.hid (gtr C.out hg)
    replace X := Lib.hid (X.out.keptN hg)
    replace N1 := Lib.hid (N1.out.kept hg (fun g e => by cases e))
    replace N2 := Lib.hid (N2.out.kept hg (fun g e => by cases e))
    replace N3 := Lib.hid (N3.out.kept hg (fun g e => by cases e))
    clear hg
    generalize (U2).drew = V2 at *
    refine wpAnyH_take (i := 0) (oi := ⟨some 88, _, _, _, _, _⟩) (v := ?_) rfl (by kernel_rfl) (by kernel_rfl) (by kernel_rfl) (fun _ _ _ h => h) (Or.inl ⟨by rfl, ?_⟩) (by assumption) ?_
    rotate_left
    · intro w hSw; (try dsimp only at hSw); go_simp; try with_reducible rfl
    simp only [Act.put, List.setIfInBounds_toArray, List.set_cons_zero, List.set_cons_succ]
    refine wpAnyH_take (i := 1) (oi := ⟨some 89, _, _, _, _, _⟩) (v := ?_) rfl (by kernel_rfl) (by kernel_rfl) (by kernel_rfl) (fun _ _ _ h => h) (Or.inl ⟨by rfl, ?_⟩) (by assumption) ?_
    rotate_left
    · intro w hSw; (try dsimp only at hSw); go_simp; try with_reducible rfl
    simp only [Act.put, List.setIfInBounds_toArray, List.set_cons_zero, List.set_cons_succ]
    refine wpAnyH_take (i := 2) (oi := ⟨some 90, _, _, _, _, _⟩) (v := ?_) rfl (by kernel_rfl) (by kernel_rfl) (by kernel_rfl) (fun _ _ _ h => h) (Or.inl ⟨by rfl, ?_⟩) (by assumption) ?_
    rotate_left
    · intro w hSw; (try dsimp only at hSw); go_simp; try with_reducible rfl
    simp only [Act.put, List.setIfInBounds_toArray, List.set_cons_zero, List.set_cons_succ]
    refine wpAnyH_take (i := 3) (oi := ⟨some 91, _, _, _, _, _⟩) (v := ?_) rfl (by kernel_rfl) (by kernel_rfl) (by kernel_rfl) (fun _ _ _ h => h) (Or.inl ⟨by rfl, ?_⟩) (by assumption) ?_
    rotate_left
    · intro w hSw; (try dsimp only at hSw); go_simp; try with_reducible rfl
    simp only [Act.put, List.setIfInBounds_toArray, List.set_cons_zero, List.set_cons_succ]
    refine wpAnyH_take (i := 4) (oi := ⟨some 92, _, _, _, _, _⟩) (v := ?_) rfl (by kernel_rfl) (by kernel_rfl) (by kernel_rfl) (fun _ _ _ h => h) (Or.inl ⟨by rfl, ?_⟩) (by assumption) ?_
    rotate_left
    · intro w hSw; (try dsimp only at hSw); go_simp; try with_reducible rfl
    simp only [Act.put, List.setIfInBounds_toArray, List.set_cons_zero, List.set_cons_succ]
    refine wpAnyH_take (i := 5) (oi := ⟨some 93, _, _, _, _, _⟩) (v := ?_) rfl (by kernel_rfl) (by kernel_rfl) (by kernel_rfl) (fun _ _ _ h => h) (Or.inl ⟨by rfl, ?_⟩) (by assumption) ?_
    rotate_left
    · intro w hSw; (try dsimp only at hSw); go_simp; try with_reducible rfl
    simp only [Act.put, List.setIfInBounds_toArray, List.set_cons_zero, List.set_cons_succ]
    refine wpAnyH_take (i := 6) (oi := ⟨some 94, _, _, _, _, _⟩) (v := ?_) rfl (by kernel_rfl) (by kernel_rfl) (by kernel_rfl) (fun _ _ _ h => h) (Or.inl ⟨by rfl, ?_⟩) (by assumption) ?_
    rotate_left
    · intro w hSw; (try dsimp only at hSw); go_simp; try with_reducible rfl
    simp only [Act.put, List.setIfInBounds_toArray, List.set_cons_zero, List.set_cons_succ]
    refine wpAnyH_take (i := 8) (oi := ⟨some 96, _, _, _, _, _⟩) (v := ?_) rfl (by kernel_rfl) (by kernel_rfl) (by kernel_rfl) (fun _ _ _ h => h) (Or.inl ⟨by rfl, ?_⟩) (by assumption) ?_
    rotate_left
    · intro w hSw; (try dsimp only at hSw); go_simp; try with_reducible rfl
    simp only [Act.put, List.setIfInBounds_toArray, List.set_cons_zero, List.set_cons_succ]
    refine wpAnyH_take (i := 9) (oi := ⟨some 97, _, _, _, _, _⟩) (v := ?_) rfl (by kernel_rfl) (by kernel_rfl) (by kernel_rfl) (fun _ _ _ h => h) (Or.inl ⟨by rfl, ?_⟩) (by assumption) ?_
    rotate_left
    · intro w hSw; (try dsimp only at hSw); go_simp; try with_reducible rfl
    simp only [Act.put, List.setIfInBounds_toArray, List.set_cons_zero, List.set_cons_succ]
    refine wpAnyH_take (i := 10) (oi := ⟨some 98, _, _, _, _, _⟩) (v := ?_) rfl (by kernel_rfl) (by kernel_rfl) (by kernel_rfl) (fun _ _ _ h => h) (Or.inl ⟨by rfl, ?_⟩) (by assumption) ?_
    rotate_left
    · intro w hSw; (try dsimp only at hSw); go_simp; try with_reducible rfl
    simp only [Act.put, List.setIfInBounds_toArray, List.set_cons_zero, List.set_cons_succ]
    refine wpAnyH_take (i := 11) (oi := ⟨some 99, _, _, _, _, _⟩) (v := ?_) rfl (by kernel_rfl) (by kernel_rfl) (by kernel_rfl) (fun _ _ _ h => h) (Or.inl ⟨by rfl, ?_⟩) (by assumption) ?_
    rotate_left
    · intro w hSw; (try dsimp only at hSw); go_simp; try with_reducible rfl
    simp only [Act.put, List.setIfInBounds_toArray, List.set_cons_zero, List.set_cons_succ]
    refine wpAnyH_take (i := 12) (oi := ⟨some 100, _, _, _, _, _⟩) (v := ?_) rfl (by kernel_rfl) (by kernel_rfl) (by kernel_rfl) (fun _ _ _ h => h) (Or.inl ⟨by rfl, ?_⟩) (by assumption) ?_
    rotate_left
    · intro w hSw; (try dsimp only at hSw); go_simp; try with_reducible rfl
    simp only [Act.put, List.setIfInBounds_toArray, List.set_cons_zero, List.set_cons_succ]
    refine wpAnyH_take (i := 13) (oi := ⟨some 101, _, _, _, _, _⟩) (v := ?_) rfl (by kernel_rfl) (by kernel_rfl) (by kernel_rfl) (fun _ _ _ h => h) (Or.inl ⟨by rfl, ?_⟩) (by assumption) ?_
    rotate_left
    · intro w hSw; (try dsimp only at hSw); go_simp; try with_reducible rfl
    simp only [Act.put, List.setIfInBounds_toArray, List.set_cons_zero, List.set_cons_succ]
    refine wpAnyH_ready (rs := [7, 14]) (by kernel_rfl) (by simp) ?_
    refine AllReadyH.cons (o := ⟨some 95, _, _, _, _, _⟩) rfl (fun Kq hKq => ?_) (AllReadyH.cons (o := ⟨some 102, _, _, _, _, _⟩) rfl (fun Kq hKq => ?_) AllReadyH.nil)
    · go_simp
      go_at_call 14
      refine (isesBad _ need many _ ng _ zg _ nc _ zc msg _ n _ (putS S q y) ad N1.out.ints N2.out.ints (sh_own N3.out) hl1 hl2 hl3 HN.out HT.out).mono ?_
      rintro e Vc ⟨vb, rfl, hL, hg⟩
      rw [tbF_yes HTP.out, HBL.out] at hL
      obtain ⟨ab, cb, rfl, hIb⟩ := lst_one hL
      have IB := Lib.hid hIb
      clear hL hIb
      replace G := Lib.hid (gtr G.out hg)
      replace HN := Lib.hid (HN0.out.kept G.out)
      replace HT := Lib.hid (HT0.out.kept G.out)
      replace B := Lib.hid (B.out.kept hg)
      replace C := Lib.hid (gtr C.out hg)
      replace X := Lib.hid (X.out.keptN hg)
      replace N1 := Lib.hid (N1.out.kept hg (fun g e => by cases e))
      replace N2 := Lib.hid (N2.out.kept hg (fun g e => by cases e))
      replace N3 := Lib.hid (N3.out.kept hg (fun g e => by cases e))
      clear hg
      refine hKq.out _ _ (⟨⟨X.out.cell 0, X.out.cell 1, X.out.cell 2, X.out.cell 3, X.out.cell 4, X.out.cell 5⟩, B.out.c5, (HO.out _ C.out).1⟩) (fun hHeld => ?_)
      clear hKq Kq
      refine wpAnyH_ready (rs := [14]) (by kernel_rfl) (by simp) ?_
      refine AllReadyH.cons (o := ⟨some 102, _, _, _, _, _⟩) rfl (fun Kq hKq => ?_) AllReadyH.nil
      go_simp
      refine at_alloc ?_
      intro Ve hg hT
      generalize Vc.heap.size = lb at *
      have L1 := Lib.hid (blk_one hT)
      clear hT
      replace G := Lib.hid (gtr G.out hg)
      replace HN := Lib.hid (HN0.out.kept G.out)
      replace HT := Lib.hid (HT0.out.kept G.out)
      replace B := Lib.hid (B.out.kept hg)
      replace C := Lib.hid (gtr C.out hg)
      replace X := Lib.hid (X.out.keptN hg)
      replace N1 := Lib.hid (N1.out.kept hg (fun g e => by cases e))
      replace N2 := Lib.hid (N2.out.kept hg (fun g e => by cases e))
      replace N3 := Lib.hid (N3.out.kept hg (fun g e => by cases e))
      replace IB := Lib.hid (IB.out.kept hg)
      clear hg
      refine hKq.out _ _ (⟨⟨X.out.cell 0, X.out.cell 1, X.out.cell 2, X.out.cell 3, X.out.cell 4, X.out.cell 5⟩, B.out.c5, (HO.out _ C.out).1⟩) (fun hHeld => ?_)
      clear hKq Kq
      refine wpAnyH_ready (rs := [15]) (by kernel_rfl) (by simp) ?_
      refine AllReadyH.cons (o := ⟨some 103, _, _, _, _, _⟩) rfl (fun Kq hKq => ?_) AllReadyH.nil
      go_simp
      go_at_call 16
      refine (lpints _ ab (some ⟨lb, 0, none⟩) 1 cb 1 (fun _ => (S q).m) IB.out L1.out.i (by omega)).mono ?_
      rintro e Vd ⟨rfl, hg⟩
      replace G := Lib.hid (gtr G.out hg)
      replace HN := Lib.hid (HN0.out.kept G.out)
      replace HT := Lib.hid (HT0.out.kept G.out)
      replace B := Lib.hid (B.out.kept hg)
      replace C := Lib.hid (gtr C.out hg)
      replace X := Lib.hid (X.out.keptN hg)
      replace N1 := Lib.hid (N1.out.kept hg (fun g e => by cases e))
      replace N2 := Lib.hid (N2.out.kept hg (fun g e => by cases e))
      replace N3 := Lib.hid (N3.out.kept hg (fun g e => by cases e))
      replace IB := Lib.hid (IB.out.kept hg)
      replace L1 := Lib.hid (L1.out.keptN hg)
      clear hg
      refine hKq.out _ _ (⟨⟨X.out.cell 0, X.out.cell 1, X.out.cell 2, X.out.cell 3, X.out.cell 4, X.out.cell 5⟩, B.out.c5, (HO.out _ C.out).1⟩) (fun hHeld => ?_)
      clear hKq Kq
      refine wpAnyH_take (i := 16) (oi := ⟨some 104, _, _, _, _, _⟩) (v := ?_) rfl (by kernel_rfl) (by kernel_rfl) (by kernel_rfl) (fun _ _ _ h => h) (Or.inl ⟨by rfl, ?_⟩) (by assumption) ?_
      rotate_left
      · intro w hSw; (try dsimp only at hSw); go_simp; try with_reducible rfl
      simp only [Act.put, List.setIfInBounds_toArray, List.set_cons_zero, List.set_cons_succ]
      refine wpAnyH_take (i := 17) (oi := ⟨some 4, _, _, _, _, _⟩) (v := ?_) rfl (by kernel_rfl) (by kernel_rfl) (by kernel_rfl) (fun _ _ _ h => h) (Or.inl ⟨by rfl, ?_⟩) (by assumption) ?_
      rotate_left
      · intro w hSw; (try dsimp only at hSw); go_simp; try with_reducible rfl
      simp only [Act.put, List.setIfInBounds_toArray, List.set_cons_zero, List.set_cons_succ]
      refine wpAnyH_done (by kernel_rfl) ?_ _
      clear hHeld
      go_wp2
      go_ret
      exact ⟨rfl, Draw.below_of G.out⟩
    · go_simp
      refine at_alloc ?_
      intro Ve hg hT
      generalize V2.heap.size = lb at *
      have L1 := Lib.hid (blk_one hT)
      clear hT
      replace G := Lib.hid (gtr G.out hg)
      replace HN := Lib.hid (HN0.out.kept G.out)
      replace HT := Lib.hid (HT0.out.kept G.out)
      replace B := Lib.hid (B.out.kept hg)
      replace C := Lib.hid (gtr C.out hg)
      replace X := Lib.hid (X.out.keptN hg)
      replace N1 := Lib.hid (N1.out.kept hg (fun g e => by cases e))
      replace N2 := Lib.hid (N2.out.kept hg (fun g e => by cases e))
      replace N3 := Lib.hid (N3.out.kept hg (fun g e => by cases e))
      clear hg
      refine hKq.out _ _ (⟨⟨X.out.cell 0, X.out.cell 1, X.out.cell 2, X.out.cell 3, X.out.cell 4, X.out.cell 5⟩, B.out.c5, (HO.out _ C.out).1⟩) (fun hHeld => ?_)
      clear hKq Kq
      refine wpAnyH_ready (rs := [7]) (by kernel_rfl) (by simp) ?_
      refine AllReadyH.cons (o := ⟨some 95, _, _, _, _, _⟩) rfl (fun Kq hKq => ?_) AllReadyH.nil
      go_simp
      go_at_call 14
      refine (isesBad _ need many _ ng _ zg _ nc _ zc msg _ n _ (putS S q y) ad N1.out.ints N2.out.ints (sh_own N3.out) hl1 hl2 hl3 HN.out HT.out).mono ?_
      rintro e Vc ⟨vb, rfl, hL, hg⟩
      rw [tbF_yes HTP.out, HBL.out] at hL
      obtain ⟨ab, cb, rfl, hIb⟩ := lst_one hL
      have IB := Lib.hid hIb
      clear hL hIb
      replace G := Lib.hid (gtr G.out hg)
      replace HN := Lib.hid (HN0.out.kept G.out)
      replace HT := Lib.hid (HT0.out.kept G.out)
      replace B := Lib.hid (B.out.kept hg)
      replace C := Lib.hid (gtr C.out hg)
      replace X := Lib.hid (X.out.keptN hg)
      replace N1 := Lib.hid (N1.out.kept hg (fun g e => by cases e))
      replace N2 := Lib.hid (N2.out.kept hg (fun g e => by cases e))
      replace N3 := Lib.hid (N3.out.kept hg (fun g e => by cases e))
      replace L1 := Lib.hid (L1.out.keptN hg)
      clear hg
      refine hKq.out _ _ (⟨⟨X.out.cell 0, X.out.cell 1, X.out.cell 2, X.out.cell 3, X.out.cell 4, X.out.cell 5⟩, B.out.c5, (HO.out _ C.out).1⟩) (fun hHeld => ?_)
      clear hKq Kq
      refine wpAnyH_ready (rs := [15]) (by kernel_rfl) (by simp) ?_
      refine AllReadyH.cons (o := ⟨some 103, _, _, _, _, _⟩) rfl (fun Kq hKq => ?_) AllReadyH.nil
      go_simp
      go_at_call 16
      refine (lpints _ ab (some ⟨lb, 0, none⟩) 1 cb 1 (fun _ => (S q).m) IB.out L1.out.i (by omega)).mono ?_
      rintro e Vd ⟨rfl, hg⟩
      replace G := Lib.hid (gtr G.out hg)
      replace HN := Lib.hid (HN0.out.kept G.out)
      replace HT := Lib.hid (HT0.out.kept G.out)
      replace B := Lib.hid (B.out.kept hg)
      replace C := Lib.hid (gtr C.out hg)
      replace X := Lib.hid (X.out.keptN hg)
      replace N1 := Lib.hid (N1.out.kept hg (fun g e => by cases e))
      replace N2 := Lib.hid (N2.out.kept hg (fun g e => by cases e))
      replace N3 := Lib.hid (N3.out.kept hg (fun g e => by cases e))
      replace L1 := Lib.hid (L1.out.keptN hg)
      replace IB := Lib.hid (IB.out.kept hg)
      clear hg
      refine hKq.out _ _ (⟨⟨X.out.cell 0, X.out.cell 1, X.out.cell 2, X.out.cell 3, X.out.cell 4, X.out.cell 5⟩, B.out.c5, (HO.out _ C.out).1⟩) (fun hHeld => ?_)
      clear hKq Kq
      refine wpAnyH_take (i := 16) (oi := ⟨some 104, _, _, _, _, _⟩) (v := ?_) rfl (by kernel_rfl) (by kernel_rfl) (by kernel_rfl) (fun _ _ _ h => h) (Or.inl ⟨by rfl, ?_⟩) (by assumption) ?_
      rotate_left
      · intro w hSw; (try dsimp only at hSw); go_simp; try with_reducible rfl
      simp only [Act.put, List.setIfInBounds_toArray, List.set_cons_zero, List.set_cons_succ]
      refine wpAnyH_take (i := 17) (oi := ⟨some 4, _, _, _, _, _⟩) (v := ?_) rfl (by kernel_rfl) (by kernel_rfl) (by kernel_rfl) (fun _ _ _ h => h) (Or.inl ⟨by rfl, ?_⟩) (by assumption) ?_
      rotate_left
      · intro w hSw; (try dsimp only at hSw); go_simp; try with_reducible rfl
      simp only [Act.put, List.setIfInBounds_toArray, List.set_cons_zero, List.set_cons_succ]
      refine wpAnyH_done (by kernel_rfl) ?_ _
      clear hHeld
      go_wp2
      go_ret
      exact ⟨rfl, Draw.below_of G.out⟩
end Run
end Go.Proofs.YteibklnonlapoaaGreatDoor
