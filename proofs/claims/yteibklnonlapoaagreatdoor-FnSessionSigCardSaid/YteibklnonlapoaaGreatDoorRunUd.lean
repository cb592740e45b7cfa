/-
  The walk of the law on what all parts of a session make.
-/
import Derived.Test.YteibklnonlapoaaGreatDoorUd
import Derived.Test.YteibklnonlapoaaGreatDoorUz
import Derived.Test.YteibklnonlapoaaGreatDoorUc
import Derived.Test.YteibklnonlapoaaGreatDoorTd
import Derived.Deep.RegionHeld3
namespace Go.Proofs.YteibklnonlapoaaGreatDoor
namespace Run
open Go.RowKit Alg Mem Con Mp Hd Draw
set_option linter.unusedVariables false

/-- A signature's two cells in memory. -/
structure Sv (w : World) (b : Nat) (v0 v1 : Int) : Prop where
  lt : b < w.heap.size
  c0 : w.cell? ⟨b, 0, none⟩ = some (.int .i64 v0)
  c1 : w.cell? ⟨b, 1, none⟩ = some (.int .i64 v1)
theorem Sv.of {w : World} {b : Nat} {v0 v1 : Int} {T : TypeId} (h : Blk w b #[.int .i64 v0, .int .i64 v1] T) : Sv w b v0 v1 := ⟨h.lt, h.cell 0, h.cell 1⟩
theorem Sv.keptB {w w' : World} {b : Nat} {v0 v1 : Int} (h : Sv w b v0 v1) (hb : w'.heap[b]? = w.heap[b]?) (hs : w.heap.size ≤ w'.heap.size) : Sv w' b v0 v1 :=
  ⟨Nat.lt_of_lt_of_le h.lt hs, by rw [World.cell?_of_block (w := w) hb]; exact h.c0, by rw [World.cell?_of_block (w := w) hb]; exact h.c1⟩
theorem Sv.kept {w w' : World} {b : Nat} {v0 v1 : Int} (h : Sv w b v0 v1) (hg : w.grownBy w' none) : Sv w' b v0 v1 := h.keptB (hg.block _ h.lt (by simp)) hg.size
theorem sg_case (need many : Int) (ng : Nat) (zg : Nat → Int) (nc : Nat) (zc : Nat → Int) (msg : Int) (n : Nat) (S : Nat → SV) :
    (tsF need many ng zg nc zc msg n S = true ∧ (tbL need many ng zg nc zc msg n S n).length = 0 ∧ onA S n = true) ∨ ¬ (tsF need many ng zg nc zc msg n S = true ∧ (tbL need many ng zg nc zc msg n S n).length = 0 ∧ onA S n = true) := Classical.em _
set_option maxRecDepth 100000 in
set_option maxHeartbeats 8000000 in
theorem FnSessionSig (a : Option Addr) (len cap : Nat) (w : World) (hB : Draw.Bytes w w.heap.size a len) (hc : len ≤ cap) (hm : cap ≤ maxLen) (ad : Addr) (hv : Np w ad) (he : Et w) :
    Calls Tryz.prog 5 #[.slice a len cap] w (Yes w) := by
  by_cases hbig : 1048576 < len
  · have hbig' : (1048576 : Int) < (len : Int) := by omega
    clear hB
    go_enter Tryz.func5, Tryz.ntmps5
    go_wp2
    go_ret
    exact ⟨rfl, Below.refl _ _⟩
  have hbig' : ¬ (1048576 : Int) < (len : Int) := by omega
  have HN := Lib.hid hv; have HT := Lib.hid he; clear hv he
  go_enter Tryz.func5, Tryz.ntmps5
  go_wp2_with fail
  refine (Draw.drawSesSig _ a len cap hB hc hm).mono ?_
  rintro e w1 ⟨need, many, ag, ng, cg, zg, ac, nc, cc, zc, msg, a3, n, c3, S, rfl, hq1, hq2, hq3, ⟨hb1, hb2, hb3⟩, hg⟩
  have G := Lib.hid hg; have I1 := Lib.hid hq1.ints; have I2 := Lib.hid hq2.ints; have A3 := Lib.hid (sh_own hq3)
  replace HN := Lib.hid (HN.out.kept hg); replace HT := Lib.hid (HT.out.kept hg)
  clear hg hq1 hq2 hq3 hB
  have hg := Draw.grown_alloc w1 (.cells #[.int .i64 need, .int .i64 many, .slice ag ng cg, .slice ac nc cc, .int .i64 msg, .slice a3 n c3] 30) none
  have B := Lib.hid (Ss.of_blk (Blk.new w1 #[.int .i64 need, .int .i64 many, .slice ag ng cg, .slice ac nc cc, .int .i64 msg, .slice a3 n c3] 30))
  replace G := Lib.hid (gtr G.out hg)
  replace I1 := Lib.hid (I1.out.kept hg)
  replace I2 := Lib.hid (I2.out.kept hg)
  replace A3 := Lib.hid (A3.out.kept hg)
  replace HN := Lib.hid (HN.out.kept hg)
  replace HT := Lib.hid (HT.out.kept hg)
  clear hg
  have hl1 : ng ≤ 2000000 := by omega
  have hl2 : nc ≤ 2000000 := by omega
  have hl3 : n ≤ 2000000 := by omega
  rcases sg_case need many ng zg nc zc msg n S with hyes | hno
  case inr =>
    have HNO := Lib.hid hno; clear hno
    obtain ⟨_, k0, k1, k2, k3, k4, k5⟩ := B.out
    go_wp2_with fail
    refine (ssesSig _ need many _ ng _ zg _ nc _ zc msg _ n _ S I1.out I2.out A3.out hl1 hl2 hl3).mono ?_
    rintro e w2 ⟨rfl, hg⟩
    clear k0 k1 k2 k3 k4 k5
    replace G := Lib.hid (gtr G.out hg)
    replace I1 := Lib.hid (I1.out.kept hg)
    replace I2 := Lib.hid (I2.out.kept hg)
    replace A3 := Lib.hid (A3.out.kept hg)
    replace HN := Lib.hid (HN.out.kept hg)
    replace HT := Lib.hid (HT.out.kept hg)
    replace B := Lib.hid (B.out.kept hg)
    clear hg
    obtain ⟨_, k0, k1, k2, k3, k4, k5⟩ := B.out
    clear k0 k1 k2 k3 k4 k5
    rw [ssV_no HNO.out]
    have hg := Draw.grown_alloc w2 (.cells #[.int .i64 (0 : Int), .int .i64 (0 : Int)] 37) none
    have M := Lib.hid (Sv.of (Blk.new w2 #[.int .i64 (0 : Int), .int .i64 (0 : Int)] 37))
    replace G := Lib.hid (gtr G.out hg)
    replace I1 := Lib.hid (I1.out.kept hg)
    replace I2 := Lib.hid (I2.out.kept hg)
    replace A3 := Lib.hid (A3.out.kept hg)
    replace HN := Lib.hid (HN.out.kept hg)
    replace HT := Lib.hid (HT.out.kept hg)
    replace B := Lib.hid (B.out.kept hg)
    clear hg
    obtain ⟨_, k0, k1, k2, k3, k4, k5⟩ := B.out
    go_wp2_with fail
    refine (isesSig _ need many _ ng _ zg _ nc _ zc msg _ n _ S ad I1.out I2.out A3.out hl1 hl2 hl3 HN.out).mono ?_
    rintro e w3 ⟨rfl, hg⟩
    clear k0 k1 k2 k3 k4 k5
    replace G := Lib.hid (gtr G.out hg)
    replace I1 := Lib.hid (I1.out.kept hg)
    replace I2 := Lib.hid (I2.out.kept hg)
    replace A3 := Lib.hid (A3.out.kept hg)
    replace HN := Lib.hid (HN.out.kept hg)
    replace HT := Lib.hid (HT.out.kept hg)
    replace B := Lib.hid (B.out.kept hg)
    replace M := Lib.hid (M.out.kept hg)
    clear hg
    obtain ⟨_, k0, k1, k2, k3, k4, k5⟩ := B.out
    clear k0 k1 k2 k3 k4 k5
    rw [ssV_no HNO.out]
    have hg := Draw.grown_alloc w3 (.cells #[.int .i64 (0 : Int), .int .i64 (0 : Int)] 37) none
    have X := Lib.hid (Sv.of (Blk.new w3 #[.int .i64 (0 : Int), .int .i64 (0 : Int)] 37))
    replace G := Lib.hid (gtr G.out hg)
    replace I1 := Lib.hid (I1.out.kept hg)
    replace I2 := Lib.hid (I2.out.kept hg)
    replace A3 := Lib.hid (A3.out.kept hg)
    replace HN := Lib.hid (HN.out.kept hg)
    replace HT := Lib.hid (HT.out.kept hg)
    replace B := Lib.hid (B.out.kept hg)
    replace M := Lib.hid (M.out.kept hg)
    clear hg
    have hrr : ((0 : Int) == (0 : Int)) = true := by simp
    have hzz : ((0 : Int) == (0 : Int)) = true := by simp
    obtain ⟨_, k0, k1, k2, k3, k4, k5⟩ := B.out
    obtain ⟨_, m0, m1⟩ := M.out
    obtain ⟨_, x0, x1⟩ := X.out
    go_wp2_with fail
    clear k0 k1 k2 k3 k4 k5
    clear m0 m1
    clear x0 x1
    refine (s32ok _ need many _ ng _ zg _ nc _ zc msg _ n _ S I1.out I2.out A3.out hl1 hl2 hl3).mono ?_
    rintro e w4 ⟨rfl, hg⟩
    replace G := Lib.hid (gtr G.out hg)
    replace I1 := Lib.hid (I1.out.kept hg)
    replace I2 := Lib.hid (I2.out.kept hg)
    replace A3 := Lib.hid (A3.out.kept hg)
    replace HN := Lib.hid (HN.out.kept hg)
    replace HT := Lib.hid (HT.out.kept hg)
    replace B := Lib.hid (B.out.kept hg)
    replace M := Lib.hid (M.out.kept hg)
    replace X := Lib.hid (X.out.kept hg)
    clear hg
    cases h1 : tsF need many ng zg nc zc msg n S with
    | false =>
      obtain ⟨_, k0, k1, k2, k3, k4, k5⟩ := B.out
      obtain ⟨_, m0, m1⟩ := M.out
      obtain ⟨_, x0, x1⟩ := X.out
      go_wp2
      go_ret
      exact ⟨rfl, Draw.below_of G.out⟩
    | true =>
      have HTS := Lib.hid h1; clear h1
      obtain ⟨_, k0, k1, k2, k3, k4, k5⟩ := B.out
      obtain ⟨_, m0, m1⟩ := M.out
      obtain ⟨_, x0, x1⟩ := X.out
      clear k0 k1 k2 k3 k4 k5
      clear m0 m1
      clear x0 x1
      clear M
      generalize w1.heap.size = bb at *
      generalize w3.heap.size = xb at *
      clear hrr hzz
      obtain ⟨_, k0, k1, k2, k3, k4, k5⟩ := B.out
      go_wp2
      clear k0 k1 k2 k3 k4 k5
      go_loopw [8, 9, 10] (fun u v i W => ∃ k : Nat, k ≤ n ∧ u = .bool (onA S k) ∧ v = .int .i64 (zP S k) ∧ i = .int .i64 k ∧ (w4).grownBy W none) (fun _ _ i _ => n - (intOf i).toNat)
      case atStart => exact ⟨0, by omega, rfl, rfl, rfl, Draw.grown_refl _ _⟩
      case round =>
        obtain ⟨k, hk, rfl, rfl, rfl, hg⟩ := hrel
        obtain ⟨W1, hW⟩ : ∃ W, W = wr := ⟨_, rfl⟩; subst hW
        have C := Lib.hid hg
        replace G := Lib.hid (gtr G.out hg)
        replace I1 := Lib.hid (I1.out.kept hg)
        replace I2 := Lib.hid (I2.out.kept hg)
        replace A3 := Lib.hid (A3.out.kept hg)
        replace HN := Lib.hid (HN.out.kept hg)
        replace HT := Lib.hid (HT.out.kept hg)
        replace B := Lib.hid (B.out.kept hg)
        replace X := Lib.hid (X.out.kept hg)
        clear hg
        obtain ⟨_, k0, k1, k2, k3, k4, k5⟩ := B.out
        by_cases hlt : k < n
        · skip
          obtain ⟨b3, o3, rfl, hb3', hcc⟩ := A3.out.ptr (by omega)
          obtain ⟨_, _, x2, x3⟩ := hcc k hlt
          clear hcc hb3'
          have hkI : (k : Int) < (n : Int) := by omega
          cases hoa : onA S k with
          | true =>
            have HOA := Lib.hid (show onA S (k + 1) = (S k).on by show (onA S k && (S k).on) = _; rw [hoa]; rfl)
            clear hoa
            go_wp2_with fail
            clear x2 x3
            refine (isum (zP S k) (S k).Z _).mono ?_
            rintro e W3 ⟨rfl, rfl⟩
            go_wp2
            go_roundw
            case rel => exact ⟨k + 1, by omega, by rw [HOA.out], rfl, by go_num, C.out⟩
            case measure => simp [intOf]; omega
          | false =>
            have HOA := Lib.hid (show onA S (k + 1) = false by show (onA S k && (S k).on) = _; rw [hoa]; rfl)
            clear hoa
            go_wp2_with fail
            clear x2 x3
            refine (isum (zP S k) (S k).Z _).mono ?_
            rintro e W3 ⟨rfl, rfl⟩
            go_wp2
            go_roundw
            case rel => exact ⟨k + 1, by omega, by rw [HOA.out], rfl, by go_num, C.out⟩
            case measure => simp [intOf]; omega
        · obtain rfl : k = n := by omega
          cases hoa : onA S k with
          | false =>
            clear hoa
            go_wp2_with fail
            clear k0 k1 k2 k3 k4 k5
            refine wp_region_held_drew (S := (fun _ => True)) (by kernel_rfl) (trivial) (fun hHeld => ?_)
            have hg := Draw.gdrew W1
            replace G := Lib.hid (gtr G.out hg)
            replace I1 := Lib.hid (I1.out.kept hg)
            replace I2 := Lib.hid (I2.out.kept hg)
            replace A3 := Lib.hid (A3.out.kept hg)
            replace HN := Lib.hid (HN.out.kept hg)
            replace HT := Lib.hid (HT.out.kept hg)
            replace B := Lib.hid (B.out.kept hg)
            replace X := Lib.hid (X.out.kept hg)
            replace C := Lib.hid (gtr C.out hg)
            clear hg
            generalize (W1).drew = V7 at *
            refine wpAnyH_take (i := 0) (oi := ⟨some 79, _, _, _, _, _⟩) (v := ?_) rfl (by kernel_rfl) (by kernel_rfl) (by kernel_rfl) (fun _ _ _ h => h) (Or.inl ⟨by rfl, ?_⟩) (by assumption) ?_
            rotate_left
            · intro w hSw; (try dsimp only at hSw); go_simp; try with_reducible rfl
            simp only [Act.put, List.setIfInBounds_toArray, List.set_cons_zero, List.set_cons_succ]
            refine wpAnyH_take (i := 1) (oi := ⟨some 80, _, _, _, _, _⟩) (v := ?_) rfl (by kernel_rfl) (by kernel_rfl) (by kernel_rfl) (fun _ _ _ h => h) (Or.inl ⟨by rfl, ?_⟩) (by assumption) ?_
            rotate_left
            · intro w hSw; (try dsimp only at hSw); go_simp; try with_reducible rfl
            simp only [Act.put, List.setIfInBounds_toArray, List.set_cons_zero, List.set_cons_succ]
            refine wpAnyH_take (i := 2) (oi := ⟨some 81, _, _, _, _, _⟩) (v := ?_) rfl (by kernel_rfl) (by kernel_rfl) (by kernel_rfl) (fun _ _ _ h => h) (Or.inl ⟨by rfl, ?_⟩) (by assumption) ?_
            rotate_left
            · intro w hSw; (try dsimp only at hSw); go_simp; try with_reducible rfl
            simp only [Act.put, List.setIfInBounds_toArray, List.set_cons_zero, List.set_cons_succ]
            refine wpAnyH_take (i := 3) (oi := ⟨some 82, _, _, _, _, _⟩) (v := ?_) rfl (by kernel_rfl) (by kernel_rfl) (by kernel_rfl) (fun _ _ _ h => h) (Or.inl ⟨by rfl, ?_⟩) (by assumption) ?_
            rotate_left
            · intro w hSw; (try dsimp only at hSw); go_simp; try with_reducible rfl
            simp only [Act.put, List.setIfInBounds_toArray, List.set_cons_zero, List.set_cons_succ]
            refine wpAnyH_take (i := 4) (oi := ⟨some 83, _, _, _, _, _⟩) (v := ?_) rfl (by kernel_rfl) (by kernel_rfl) (by kernel_rfl) (fun _ _ _ h => h) (Or.inl ⟨by rfl, ?_⟩) (by assumption) ?_
            rotate_left
            · intro w hSw; (try dsimp only at hSw); go_simp; try with_reducible rfl
            simp only [Act.put, List.setIfInBounds_toArray, List.set_cons_zero, List.set_cons_succ]
            refine wpAnyH_take (i := 5) (oi := ⟨some 84, _, _, _, _, _⟩) (v := ?_) rfl (by kernel_rfl) (by kernel_rfl) (by kernel_rfl) (fun _ _ _ h => h) (Or.inl ⟨by rfl, ?_⟩) (by assumption) ?_
            rotate_left
            · intro w hSw; (try dsimp only at hSw); go_simp; try with_reducible rfl
            simp only [Act.put, List.setIfInBounds_toArray, List.set_cons_zero, List.set_cons_succ]
            refine wpAnyH_take (i := 6) (oi := ⟨some 85, _, _, _, _, _⟩) (v := ?_) rfl (by kernel_rfl) (by kernel_rfl) (by kernel_rfl) (fun _ _ _ h => h) (Or.inl ⟨by rfl, ?_⟩) (by assumption) ?_
            rotate_left
            · intro w hSw; (try dsimp only at hSw); go_simp; try with_reducible rfl
            simp only [Act.put, List.setIfInBounds_toArray, List.set_cons_zero, List.set_cons_succ]
            refine wpAnyH_take (i := 7) (oi := ⟨some 86, _, _, _, _, _⟩) (v := undef) rfl (by kernel_rfl) (by kernel_rfl) (by kernel_rfl) (fun _ _ _ h => h) (Or.inr ⟨by rfl, rfl⟩) (by assumption) ?_
            simp only [Act.put, List.setIfInBounds_toArray, List.set_cons_zero, List.set_cons_succ]
            refine wpAnyH_take (i := 8) (oi := ⟨some 87, _, _, _, _, _⟩) (v := undef) rfl (by kernel_rfl) (by kernel_rfl) (by kernel_rfl) (fun _ _ _ h => h) (Or.inr ⟨by rfl, rfl⟩) (by assumption) ?_
            simp only [Act.put, List.setIfInBounds_toArray, List.set_cons_zero, List.set_cons_succ]
            refine wpAnyH_take (i := 9) (oi := ⟨some 88, _, _, _, _, _⟩) (v := undef) rfl (by kernel_rfl) (by kernel_rfl) (by kernel_rfl) (fun _ _ _ h => h) (Or.inr ⟨by rfl, rfl⟩) (by assumption) ?_
            simp only [Act.put, List.setIfInBounds_toArray, List.set_cons_zero, List.set_cons_succ]
            refine wpAnyH_take (i := 10) (oi := ⟨some 89, _, _, _, _, _⟩) (v := undef) rfl (by kernel_rfl) (by kernel_rfl) (by kernel_rfl) (fun _ _ _ h => h) (Or.inr ⟨by rfl, rfl⟩) (by assumption) ?_
            simp only [Act.put, List.setIfInBounds_toArray, List.set_cons_zero, List.set_cons_succ]
            refine wpAnyH_take (i := 11) (oi := ⟨some 90, _, _, _, _, _⟩) (v := undef) rfl (by kernel_rfl) (by kernel_rfl) (by kernel_rfl) (fun _ _ _ h => h) (Or.inr ⟨by rfl, rfl⟩) (by assumption) ?_
            simp only [Act.put, List.setIfInBounds_toArray, List.set_cons_zero, List.set_cons_succ]
            refine wpAnyH_take (i := 12) (oi := ⟨some 91, _, _, _, _, _⟩) (v := undef) rfl (by kernel_rfl) (by kernel_rfl) (by kernel_rfl) (fun _ _ _ h => h) (Or.inr ⟨by rfl, rfl⟩) (by assumption) ?_
            simp only [Act.put, List.setIfInBounds_toArray, List.set_cons_zero, List.set_cons_succ]
            refine wpAnyH_take (i := 13) (oi := ⟨some 92, _, _, _, _, _⟩) (v := undef) rfl (by kernel_rfl) (by kernel_rfl) (by kernel_rfl) (fun _ _ _ h => h) (Or.inr ⟨by rfl, rfl⟩) (by assumption) ?_
            simp only [Act.put, List.setIfInBounds_toArray, List.set_cons_zero, List.set_cons_succ]
            refine wpAnyH_take (i := 14) (oi := ⟨some 93, _, _, _, _, _⟩) (v := undef) rfl (by kernel_rfl) (by kernel_rfl) (by kernel_rfl) (fun _ _ _ h => h) (Or.inr ⟨by rfl, rfl⟩) (by assumption) ?_
            simp only [Act.put, List.setIfInBounds_toArray, List.set_cons_zero, List.set_cons_succ]
            refine wpAnyH_take (i := 15) (oi := ⟨some 94, _, _, _, _, _⟩) (v := undef) rfl (by kernel_rfl) (by kernel_rfl) (by kernel_rfl) (fun _ _ _ h => h) (Or.inr ⟨by rfl, rfl⟩) (by assumption) ?_
            simp only [Act.put, List.setIfInBounds_toArray, List.set_cons_zero, List.set_cons_succ]
            refine wpAnyH_take (i := 16) (oi := ⟨some 95, _, _, _, _, _⟩) (v := undef) rfl (by kernel_rfl) (by kernel_rfl) (by kernel_rfl) (fun _ _ _ h => h) (Or.inr ⟨by rfl, rfl⟩) (by assumption) ?_
            simp only [Act.put, List.setIfInBounds_toArray, List.set_cons_zero, List.set_cons_succ]
            refine wpAnyH_take (i := 17) (oi := ⟨some 96, _, _, _, _, _⟩) (v := undef) rfl (by kernel_rfl) (by kernel_rfl) (by kernel_rfl) (fun _ _ _ h => h) (Or.inr ⟨by rfl, rfl⟩) (by assumption) ?_
            simp only [Act.put, List.setIfInBounds_toArray, List.set_cons_zero, List.set_cons_succ]
            refine wpAnyH_take (i := 18) (oi := ⟨some 97, _, _, _, _, _⟩) (v := undef) rfl (by kernel_rfl) (by kernel_rfl) (by kernel_rfl) (fun _ _ _ h => h) (Or.inr ⟨by rfl, rfl⟩) (by assumption) ?_
            simp only [Act.put, List.setIfInBounds_toArray, List.set_cons_zero, List.set_cons_succ]
            refine wpAnyH_take (i := 19) (oi := ⟨some 98, _, _, _, _, _⟩) (v := undef) rfl (by kernel_rfl) (by kernel_rfl) (by kernel_rfl) (fun _ _ _ h => h) (Or.inr ⟨by rfl, rfl⟩) (by assumption) ?_
            simp only [Act.put, List.setIfInBounds_toArray, List.set_cons_zero, List.set_cons_succ]
            refine wpAnyH_take (i := 20) (oi := ⟨some 99, _, _, _, _, _⟩) (v := undef) rfl (by kernel_rfl) (by kernel_rfl) (by kernel_rfl) (fun _ _ _ h => h) (Or.inr ⟨by rfl, rfl⟩) (by assumption) ?_
            simp only [Act.put, List.setIfInBounds_toArray, List.set_cons_zero, List.set_cons_succ]
            refine wpAnyH_take (i := 21) (oi := ⟨some 100, _, _, _, _, _⟩) (v := undef) rfl (by kernel_rfl) (by kernel_rfl) (by kernel_rfl) (fun _ _ _ h => h) (Or.inr ⟨by rfl, rfl⟩) (by assumption) ?_
            simp only [Act.put, List.setIfInBounds_toArray, List.set_cons_zero, List.set_cons_succ]
            refine wpAnyH_take (i := 22) (oi := ⟨some 101, _, _, _, _, _⟩) (v := undef) rfl (by kernel_rfl) (by kernel_rfl) (by kernel_rfl) (fun _ _ _ h => h) (Or.inr ⟨by rfl, rfl⟩) (by assumption) ?_
            simp only [Act.put, List.setIfInBounds_toArray, List.set_cons_zero, List.set_cons_succ]
            refine wpAnyH_take (i := 23) (oi := ⟨some 102, _, _, _, _, _⟩) (v := undef) rfl (by kernel_rfl) (by kernel_rfl) (by kernel_rfl) (fun _ _ _ h => h) (Or.inr ⟨by rfl, rfl⟩) (by assumption) ?_
            simp only [Act.put, List.setIfInBounds_toArray, List.set_cons_zero, List.set_cons_succ]
            refine wpAnyH_take (i := 24) (oi := ⟨some 103, _, _, _, _, _⟩) (v := undef) rfl (by kernel_rfl) (by kernel_rfl) (by kernel_rfl) (fun _ _ _ h => h) (Or.inr ⟨by rfl, rfl⟩) (by assumption) ?_
            simp only [Act.put, List.setIfInBounds_toArray, List.set_cons_zero, List.set_cons_succ]
            refine wpAnyH_take (i := 25) (oi := ⟨some 104, _, _, _, _, _⟩) (v := undef) rfl (by kernel_rfl) (by kernel_rfl) (by kernel_rfl) (fun _ _ _ h => h) (Or.inr ⟨by rfl, rfl⟩) (by assumption) ?_
            simp only [Act.put, List.setIfInBounds_toArray, List.set_cons_zero, List.set_cons_succ]
            refine wpAnyH_take (i := 26) (oi := ⟨some 105, _, _, _, _, _⟩) (v := undef) rfl (by kernel_rfl) (by kernel_rfl) (by kernel_rfl) (fun _ _ _ h => h) (Or.inr ⟨by rfl, rfl⟩) (by assumption) ?_
            simp only [Act.put, List.setIfInBounds_toArray, List.set_cons_zero, List.set_cons_succ]
            refine wpAnyH_take (i := 27) (oi := ⟨some 106, _, _, _, _, _⟩) (v := ?_) rfl (by kernel_rfl) (by kernel_rfl) (by kernel_rfl) (fun _ _ _ h => h) (Or.inl ⟨by rfl, ?_⟩) (by assumption) ?_
            rotate_left
            · intro w hSw; (try dsimp only at hSw); go_simp; try with_reducible rfl
            simp only [Act.put, List.setIfInBounds_toArray, List.set_cons_zero, List.set_cons_succ]
            refine wpAnyH_take (i := 28) (oi := ⟨some 107, _, _, _, _, _⟩) (v := ?_) rfl (by kernel_rfl) (by kernel_rfl) (by kernel_rfl) (fun _ _ _ h => h) (Or.inl ⟨by rfl, ?_⟩) (by assumption) ?_
            rotate_left
            · intro w hSw; (try dsimp only at hSw); go_simp; try with_reducible rfl
            simp only [Act.put, List.setIfInBounds_toArray, List.set_cons_zero, List.set_cons_succ]
            refine wpAnyH_take (i := 29) (oi := ⟨some 2, _, _, _, _, _⟩) (v := ?_) rfl (by kernel_rfl) (by kernel_rfl) (by kernel_rfl) (fun _ _ _ h => h) (Or.inl ⟨by rfl, ?_⟩) (by assumption) ?_
            rotate_left
            · intro w hSw; (try dsimp only at hSw); go_simp; try with_reducible rfl
            simp only [Act.put, List.setIfInBounds_toArray, List.set_cons_zero, List.set_cons_succ]
            refine wpAnyH_done (by kernel_rfl) ?_ _
            go_wp2
            go_ret
            exact ⟨rfl, Draw.below_of G.out⟩
          | true =>
            have hq0 : (tbL need many ng zg nc zc msg k S k).length ≠ 0 := fun e => HNO.out ⟨HTS.out, e, hoa⟩
            clear hoa
            go_wp2_with fail
            clear k0 k1 k2 k3 k4 k5
            refine (isesBad _ need many _ ng _ zg _ nc _ zc msg _ k _ S ad I1.out I2.out A3.out hl1 hl2 hl3 HN.out HT.out).mono ?_
            rintro e W4 ⟨v, rfl, hL, hg⟩
            rw [tbF_yes HTS.out] at hL
            obtain ⟨av, cv, rfl, _, _, _⟩ := hL.slice
            clear hL
            replace G := Lib.hid (gtr G.out hg)
            replace I1 := Lib.hid (I1.out.kept hg)
            replace I2 := Lib.hid (I2.out.kept hg)
            replace A3 := Lib.hid (A3.out.kept hg)
            replace HN := Lib.hid (HN.out.kept hg)
            replace HT := Lib.hid (HT.out.kept hg)
            replace B := Lib.hid (B.out.kept hg)
            replace X := Lib.hid (X.out.kept hg)
            replace C := Lib.hid (gtr C.out hg)
            clear hg
            generalize (tbL need many ng zg nc zc msg k S k).length = q at *
            have e0 : ((q : Int) == 0) = false := by simp; omega
            have e1 : (q == 0) = false := by simp; omega
            obtain ⟨_, k0, k1, k2, k3, k4, k5⟩ := B.out
            go_wp2_with fail
            clear k0 k1 k2 k3 k4 k5
            refine wp_region_held_drew (S := (fun _ => True)) (by kernel_rfl) (trivial) (fun hHeld => ?_)
            have hg := Draw.gdrew W4
            replace G := Lib.hid (gtr G.out hg)
            replace I1 := Lib.hid (I1.out.kept hg)
            replace I2 := Lib.hid (I2.out.kept hg)
            replace A3 := Lib.hid (A3.out.kept hg)
            replace HN := Lib.hid (HN.out.kept hg)
            replace HT := Lib.hid (HT.out.kept hg)
            replace B := Lib.hid (B.out.kept hg)
            replace X := Lib.hid (X.out.kept hg)
            replace C := Lib.hid (gtr C.out hg)
            clear hg
            generalize (W4).drew = V7 at *
            refine wpAnyH_take (i := 0) (oi := ⟨some 79, _, _, _, _, _⟩) (v := ?_) rfl (by kernel_rfl) (by kernel_rfl) (by kernel_rfl) (fun _ _ _ h => h) (Or.inl ⟨by rfl, ?_⟩) (by assumption) ?_
            rotate_left
            · intro w hSw; (try dsimp only at hSw); go_simp; try with_reducible rfl
            simp only [Act.put, List.setIfInBounds_toArray, List.set_cons_zero, List.set_cons_succ]
            refine wpAnyH_take (i := 1) (oi := ⟨some 80, _, _, _, _, _⟩) (v := ?_) rfl (by kernel_rfl) (by kernel_rfl) (by kernel_rfl) (fun _ _ _ h => h) (Or.inl ⟨by rfl, ?_⟩) (by assumption) ?_
            rotate_left
            · intro w hSw; (try dsimp only at hSw); go_simp; try with_reducible rfl
            simp only [Act.put, List.setIfInBounds_toArray, List.set_cons_zero, List.set_cons_succ]
            refine wpAnyH_take (i := 2) (oi := ⟨some 81, _, _, _, _, _⟩) (v := ?_) rfl (by kernel_rfl) (by kernel_rfl) (by kernel_rfl) (fun _ _ _ h => h) (Or.inl ⟨by rfl, ?_⟩) (by assumption) ?_
            rotate_left
            · intro w hSw; (try dsimp only at hSw); go_simp; try with_reducible rfl
            simp only [Act.put, List.setIfInBounds_toArray, List.set_cons_zero, List.set_cons_succ]
            refine wpAnyH_take (i := 3) (oi := ⟨some 82, _, _, _, _, _⟩) (v := ?_) rfl (by kernel_rfl) (by kernel_rfl) (by kernel_rfl) (fun _ _ _ h => h) (Or.inl ⟨by rfl, ?_⟩) (by assumption) ?_
            rotate_left
            · intro w hSw; (try dsimp only at hSw); go_simp; try with_reducible rfl
            simp only [Act.put, List.setIfInBounds_toArray, List.set_cons_zero, List.set_cons_succ]
            refine wpAnyH_take (i := 4) (oi := ⟨some 83, _, _, _, _, _⟩) (v := ?_) rfl (by kernel_rfl) (by kernel_rfl) (by kernel_rfl) (fun _ _ _ h => h) (Or.inl ⟨by rfl, ?_⟩) (by assumption) ?_
            rotate_left
            · intro w hSw; (try dsimp only at hSw); go_simp; try with_reducible rfl
            simp only [Act.put, List.setIfInBounds_toArray, List.set_cons_zero, List.set_cons_succ]
            refine wpAnyH_take (i := 5) (oi := ⟨some 84, _, _, _, _, _⟩) (v := ?_) rfl (by kernel_rfl) (by kernel_rfl) (by kernel_rfl) (fun _ _ _ h => h) (Or.inl ⟨by rfl, ?_⟩) (by assumption) ?_
            rotate_left
            · intro w hSw; (try dsimp only at hSw); go_simp; try with_reducible rfl
            simp only [Act.put, List.setIfInBounds_toArray, List.set_cons_zero, List.set_cons_succ]
            refine wpAnyH_take (i := 6) (oi := ⟨some 85, _, _, _, _, _⟩) (v := ?_) rfl (by kernel_rfl) (by kernel_rfl) (by kernel_rfl) (fun _ _ _ h => h) (Or.inl ⟨by rfl, ?_⟩) (by assumption) ?_
            rotate_left
            · intro w hSw; (try dsimp only at hSw); go_simp; try with_reducible rfl
            simp only [Act.put, List.setIfInBounds_toArray, List.set_cons_zero, List.set_cons_succ]
            refine wpAnyH_take (i := 7) (oi := ⟨some 86, _, _, _, _, _⟩) (v := undef) rfl (by kernel_rfl) (by kernel_rfl) (by kernel_rfl) (fun _ _ _ h => h) (Or.inr ⟨by rfl, rfl⟩) (by assumption) ?_
            simp only [Act.put, List.setIfInBounds_toArray, List.set_cons_zero, List.set_cons_succ]
            refine wpAnyH_take (i := 8) (oi := ⟨some 87, _, _, _, _, _⟩) (v := undef) rfl (by kernel_rfl) (by kernel_rfl) (by kernel_rfl) (fun _ _ _ h => h) (Or.inr ⟨by rfl, rfl⟩) (by assumption) ?_
            simp only [Act.put, List.setIfInBounds_toArray, List.set_cons_zero, List.set_cons_succ]
            refine wpAnyH_take (i := 9) (oi := ⟨some 88, _, _, _, _, _⟩) (v := undef) rfl (by kernel_rfl) (by kernel_rfl) (by kernel_rfl) (fun _ _ _ h => h) (Or.inr ⟨by rfl, rfl⟩) (by assumption) ?_
            simp only [Act.put, List.setIfInBounds_toArray, List.set_cons_zero, List.set_cons_succ]
            refine wpAnyH_take (i := 10) (oi := ⟨some 89, _, _, _, _, _⟩) (v := undef) rfl (by kernel_rfl) (by kernel_rfl) (by kernel_rfl) (fun _ _ _ h => h) (Or.inr ⟨by rfl, rfl⟩) (by assumption) ?_
            simp only [Act.put, List.setIfInBounds_toArray, List.set_cons_zero, List.set_cons_succ]
            refine wpAnyH_take (i := 11) (oi := ⟨some 90, _, _, _, _, _⟩) (v := undef) rfl (by kernel_rfl) (by kernel_rfl) (by kernel_rfl) (fun _ _ _ h => h) (Or.inr ⟨by rfl, rfl⟩) (by assumption) ?_
            simp only [Act.put, List.setIfInBounds_toArray, List.set_cons_zero, List.set_cons_succ]
            refine wpAnyH_take (i := 12) (oi := ⟨some 91, _, _, _, _, _⟩) (v := undef) rfl (by kernel_rfl) (by kernel_rfl) (by kernel_rfl) (fun _ _ _ h => h) (Or.inr ⟨by rfl, rfl⟩) (by assumption) ?_
            simp only [Act.put, List.setIfInBounds_toArray, List.set_cons_zero, List.set_cons_succ]
            refine wpAnyH_take (i := 13) (oi := ⟨some 92, _, _, _, _, _⟩) (v := undef) rfl (by kernel_rfl) (by kernel_rfl) (by kernel_rfl) (fun _ _ _ h => h) (Or.inr ⟨by rfl, rfl⟩) (by assumption) ?_
            simp only [Act.put, List.setIfInBounds_toArray, List.set_cons_zero, List.set_cons_succ]
            refine wpAnyH_take (i := 14) (oi := ⟨some 93, _, _, _, _, _⟩) (v := undef) rfl (by kernel_rfl) (by kernel_rfl) (by kernel_rfl) (fun _ _ _ h => h) (Or.inr ⟨by rfl, rfl⟩) (by assumption) ?_
            simp only [Act.put, List.setIfInBounds_toArray, List.set_cons_zero, List.set_cons_succ]
            refine wpAnyH_take (i := 15) (oi := ⟨some 94, _, _, _, _, _⟩) (v := undef) rfl (by kernel_rfl) (by kernel_rfl) (by kernel_rfl) (fun _ _ _ h => h) (Or.inr ⟨by rfl, rfl⟩) (by assumption) ?_
            simp only [Act.put, List.setIfInBounds_toArray, List.set_cons_zero, List.set_cons_succ]
            refine wpAnyH_take (i := 16) (oi := ⟨some 95, _, _, _, _, _⟩) (v := undef) rfl (by kernel_rfl) (by kernel_rfl) (by kernel_rfl) (fun _ _ _ h => h) (Or.inr ⟨by rfl, rfl⟩) (by assumption) ?_
            simp only [Act.put, List.setIfInBounds_toArray, List.set_cons_zero, List.set_cons_succ]
            refine wpAnyH_take (i := 17) (oi := ⟨some 96, _, _, _, _, _⟩) (v := undef) rfl (by kernel_rfl) (by kernel_rfl) (by kernel_rfl) (fun _ _ _ h => h) (Or.inr ⟨by rfl, rfl⟩) (by assumption) ?_
            simp only [Act.put, List.setIfInBounds_toArray, List.set_cons_zero, List.set_cons_succ]
            refine wpAnyH_take (i := 18) (oi := ⟨some 97, _, _, _, _, _⟩) (v := undef) rfl (by kernel_rfl) (by kernel_rfl) (by kernel_rfl) (fun _ _ _ h => h) (Or.inr ⟨by rfl, rfl⟩) (by assumption) ?_
            simp only [Act.put, List.setIfInBounds_toArray, List.set_cons_zero, List.set_cons_succ]
            refine wpAnyH_take (i := 19) (oi := ⟨some 98, _, _, _, _, _⟩) (v := undef) rfl (by kernel_rfl) (by kernel_rfl) (by kernel_rfl) (fun _ _ _ h => h) (Or.inr ⟨by rfl, rfl⟩) (by assumption) ?_
            simp only [Act.put, List.setIfInBounds_toArray, List.set_cons_zero, List.set_cons_succ]
            refine wpAnyH_take (i := 20) (oi := ⟨some 99, _, _, _, _, _⟩) (v := undef) rfl (by kernel_rfl) (by kernel_rfl) (by kernel_rfl) (fun _ _ _ h => h) (Or.inr ⟨by rfl, rfl⟩) (by assumption) ?_
            simp only [Act.put, List.setIfInBounds_toArray, List.set_cons_zero, List.set_cons_succ]
            refine wpAnyH_take (i := 21) (oi := ⟨some 100, _, _, _, _, _⟩) (v := undef) rfl (by kernel_rfl) (by kernel_rfl) (by kernel_rfl) (fun _ _ _ h => h) (Or.inr ⟨by rfl, rfl⟩) (by assumption) ?_
            simp only [Act.put, List.setIfInBounds_toArray, List.set_cons_zero, List.set_cons_succ]
            refine wpAnyH_take (i := 22) (oi := ⟨some 101, _, _, _, _, _⟩) (v := undef) rfl (by kernel_rfl) (by kernel_rfl) (by kernel_rfl) (fun _ _ _ h => h) (Or.inr ⟨by rfl, rfl⟩) (by assumption) ?_
            simp only [Act.put, List.setIfInBounds_toArray, List.set_cons_zero, List.set_cons_succ]
            refine wpAnyH_take (i := 23) (oi := ⟨some 102, _, _, _, _, _⟩) (v := undef) rfl (by kernel_rfl) (by kernel_rfl) (by kernel_rfl) (fun _ _ _ h => h) (Or.inr ⟨by rfl, rfl⟩) (by assumption) ?_
            simp only [Act.put, List.setIfInBounds_toArray, List.set_cons_zero, List.set_cons_succ]
            refine wpAnyH_take (i := 24) (oi := ⟨some 103, _, _, _, _, _⟩) (v := undef) rfl (by kernel_rfl) (by kernel_rfl) (by kernel_rfl) (fun _ _ _ h => h) (Or.inr ⟨by rfl, rfl⟩) (by assumption) ?_
            simp only [Act.put, List.setIfInBounds_toArray, List.set_cons_zero, List.set_cons_succ]
            refine wpAnyH_take (i := 25) (oi := ⟨some 104, _, _, _, _, _⟩) (v := undef) rfl (by kernel_rfl) (by kernel_rfl) (by kernel_rfl) (fun _ _ _ h => h) (Or.inr ⟨by rfl, rfl⟩) (by assumption) ?_
            simp only [Act.put, List.setIfInBounds_toArray, List.set_cons_zero, List.set_cons_succ]
            refine wpAnyH_take (i := 26) (oi := ⟨some 105, _, _, _, _, _⟩) (v := undef) rfl (by kernel_rfl) (by kernel_rfl) (by kernel_rfl) (fun _ _ _ h => h) (Or.inr ⟨by rfl, rfl⟩) (by assumption) ?_
            simp only [Act.put, List.setIfInBounds_toArray, List.set_cons_zero, List.set_cons_succ]
            refine wpAnyH_take (i := 27) (oi := ⟨some 106, _, _, _, _, _⟩) (v := ?_) rfl (by kernel_rfl) (by kernel_rfl) (by kernel_rfl) (fun _ _ _ h => h) (Or.inl ⟨by rfl, ?_⟩) (by assumption) ?_
            rotate_left
            · intro w hSw; (try dsimp only at hSw); go_simp; try with_reducible rfl
            simp only [Act.put, List.setIfInBounds_toArray, List.set_cons_zero, List.set_cons_succ]
            refine wpAnyH_take (i := 28) (oi := ⟨some 107, _, _, _, _, _⟩) (v := ?_) rfl (by kernel_rfl) (by kernel_rfl) (by kernel_rfl) (fun _ _ _ h => h) (Or.inl ⟨by rfl, ?_⟩) (by assumption) ?_
            rotate_left
            · intro w hSw; (try dsimp only at hSw); go_simp; try with_reducible rfl
            simp only [Act.put, List.setIfInBounds_toArray, List.set_cons_zero, List.set_cons_succ]
            refine wpAnyH_take (i := 29) (oi := ⟨some 2, _, _, _, _, _⟩) (v := ?_) rfl (by kernel_rfl) (by kernel_rfl) (by kernel_rfl) (fun _ _ _ h => h) (Or.inl ⟨by rfl, ?_⟩) (by assumption) ?_
            rotate_left
            · intro w hSw; (try dsimp only at hSw); go_simp; try with_reducible rfl
            simp only [Act.put, List.setIfInBounds_toArray, List.set_cons_zero, List.set_cons_succ]
            refine wpAnyH_done (by kernel_rfl) ?_ _
            go_wp2
            go_ret
            exact ⟨rfl, Draw.below_of G.out⟩
  have HYES := Lib.hid hyes; clear hyes
  obtain ⟨_, k0, k1, k2, k3, k4, k5⟩ := B.out
  go_wp2_with fail
  refine (ssesSig _ need many _ ng _ zg _ nc _ zc msg _ n _ S I1.out I2.out A3.out hl1 hl2 hl3).mono ?_
  rintro e w2 ⟨rfl, hg⟩
  clear k0 k1 k2 k3 k4 k5
  replace G := Lib.hid (gtr G.out hg)
  replace I1 := Lib.hid (I1.out.kept hg)
  replace I2 := Lib.hid (I2.out.kept hg)
  replace A3 := Lib.hid (A3.out.kept hg)
  replace HN := Lib.hid (HN.out.kept hg)
  replace HT := Lib.hid (HT.out.kept hg)
  replace B := Lib.hid (B.out.kept hg)
  clear hg
  obtain ⟨_, k0, k1, k2, k3, k4, k5⟩ := B.out
  clear k0 k1 k2 k3 k4 k5
  rw [ssV_yes HYES.out]
  have hg := Draw.grown_alloc w2 (.cells #[.int .i64 (rP S n), .int .i64 (zP S n)] 37) none
  have M := Lib.hid (Sv.of (Blk.new w2 #[.int .i64 (rP S n), .int .i64 (zP S n)] 37))
  replace G := Lib.hid (gtr G.out hg)
  replace I1 := Lib.hid (I1.out.kept hg)
  replace I2 := Lib.hid (I2.out.kept hg)
  replace A3 := Lib.hid (A3.out.kept hg)
  replace HN := Lib.hid (HN.out.kept hg)
  replace HT := Lib.hid (HT.out.kept hg)
  replace B := Lib.hid (B.out.kept hg)
  clear hg
  obtain ⟨_, k0, k1, k2, k3, k4, k5⟩ := B.out
  go_wp2_with fail
  refine (isesSig _ need many _ ng _ zg _ nc _ zc msg _ n _ S ad I1.out I2.out A3.out hl1 hl2 hl3 HN.out).mono ?_
  rintro e w3 ⟨rfl, hg⟩
  clear k0 k1 k2 k3 k4 k5
  replace G := Lib.hid (gtr G.out hg)
  replace I1 := Lib.hid (I1.out.kept hg)
  replace I2 := Lib.hid (I2.out.kept hg)
  replace A3 := Lib.hid (A3.out.kept hg)
  replace HN := Lib.hid (HN.out.kept hg)
  replace HT := Lib.hid (HT.out.kept hg)
  replace B := Lib.hid (B.out.kept hg)
  replace M := Lib.hid (M.out.kept hg)
  clear hg
  obtain ⟨_, k0, k1, k2, k3, k4, k5⟩ := B.out
  clear k0 k1 k2 k3 k4 k5
  rw [ssV_yes HYES.out]
  have hg := Draw.grown_alloc w3 (.cells #[.int .i64 (rP S n), .int .i64 (zP S n)] 37) none
  have X := Lib.hid (Sv.of (Blk.new w3 #[.int .i64 (rP S n), .int .i64 (zP S n)] 37))
  replace G := Lib.hid (gtr G.out hg)
  replace I1 := Lib.hid (I1.out.kept hg)
  replace I2 := Lib.hid (I2.out.kept hg)
  replace A3 := Lib.hid (A3.out.kept hg)
  replace HN := Lib.hid (HN.out.kept hg)
  replace HT := Lib.hid (HT.out.kept hg)
  replace B := Lib.hid (B.out.kept hg)
  replace M := Lib.hid (M.out.kept hg)
  clear hg
  have hrr : ((rP S n) == (rP S n)) = true := by simp
  have hzz : ((zP S n) == (zP S n)) = true := by simp
  obtain ⟨_, k0, k1, k2, k3, k4, k5⟩ := B.out
  obtain ⟨_, m0, m1⟩ := M.out
  obtain ⟨_, x0, x1⟩ := X.out
  go_wp2_with fail
  clear k0 k1 k2 k3 k4 k5
  clear m0 m1
  clear x0 x1
  refine (s32ok _ need many _ ng _ zg _ nc _ zc msg _ n _ S I1.out I2.out A3.out hl1 hl2 hl3).mono ?_
  rintro e w4 ⟨rfl, hg⟩
  rw [HYES.out.1]
  have HTS := Lib.hid HYES.out.1
  replace G := Lib.hid (gtr G.out hg)
  replace I1 := Lib.hid (I1.out.kept hg)
  replace I2 := Lib.hid (I2.out.kept hg)
  replace A3 := Lib.hid (A3.out.kept hg)
  replace HN := Lib.hid (HN.out.kept hg)
  replace HT := Lib.hid (HT.out.kept hg)
  replace B := Lib.hid (B.out.kept hg)
  replace M := Lib.hid (M.out.kept hg)
  replace X := Lib.hid (X.out.kept hg)
  clear hg
  obtain ⟨_, k0, k1, k2, k3, k4, k5⟩ := B.out
  obtain ⟨_, m0, m1⟩ := M.out
  obtain ⟨_, x0, x1⟩ := X.out
  clear k0 k1 k2 k3 k4 k5
  clear m0 m1
  clear x0 x1
  clear M
  generalize w1.heap.size = bb at *
  generalize w3.heap.size = xb at *
  clear hrr hzz
  obtain ⟨_, k0, k1, k2, k3, k4, k5⟩ := B.out
  go_wp2
  clear k0 k1 k2 k3 k4 k5
  go_loopw [8, 9, 10] (fun u v i W => ∃ k : Nat, k ≤ n ∧ u = .bool (onA S k) ∧ v = .int .i64 (zP S k) ∧ i = .int .i64 k ∧ (w4).grownBy W none) (fun _ _ i _ => n - (intOf i).toNat)
  case atStart => exact ⟨0, by omega, rfl, rfl, rfl, Draw.grown_refl _ _⟩
  case round =>
    obtain ⟨k, hk, rfl, rfl, rfl, hg⟩ := hrel
    obtain ⟨W1, hW⟩ : ∃ W, W = wr := ⟨_, rfl⟩; subst hW
    have C := Lib.hid hg
    replace G := Lib.hid (gtr G.out hg)
    replace I1 := Lib.hid (I1.out.kept hg)
    replace I2 := Lib.hid (I2.out.kept hg)
    replace A3 := Lib.hid (A3.out.kept hg)
    replace HN := Lib.hid (HN.out.kept hg)
    replace HT := Lib.hid (HT.out.kept hg)
    replace B := Lib.hid (B.out.kept hg)
    replace X := Lib.hid (X.out.kept hg)
    clear hg
    obtain ⟨_, k0, k1, k2, k3, k4, k5⟩ := B.out
    by_cases hlt : k < n
    · skip
      obtain ⟨b3, o3, rfl, hb3', hcc⟩ := A3.out.ptr (by omega)
      obtain ⟨_, _, x2, x3⟩ := hcc k hlt
      clear hcc hb3'
      have hkI : (k : Int) < (n : Int) := by omega
      cases hoa : onA S k with
      | true =>
        have HOA := Lib.hid (show onA S (k + 1) = (S k).on by show (onA S k && (S k).on) = _; rw [hoa]; rfl)
        clear hoa
        go_wp2_with fail
        clear x2 x3
        refine (isum (zP S k) (S k).Z _).mono ?_
        rintro e W3 ⟨rfl, rfl⟩
        go_wp2
        go_roundw
        case rel => exact ⟨k + 1, by omega, by rw [HOA.out], rfl, by go_num, C.out⟩
        case measure => simp [intOf]; omega
      | false =>
        have HOA := Lib.hid (show onA S (k + 1) = false by show (onA S k && (S k).on) = _; rw [hoa]; rfl)
        clear hoa
        go_wp2_with fail
        clear x2 x3
        refine (isum (zP S k) (S k).Z _).mono ?_
        rintro e W3 ⟨rfl, rfl⟩
        go_wp2
        go_roundw
        case rel => exact ⟨k + 1, by omega, by rw [HOA.out], rfl, by go_num, C.out⟩
        case measure => simp [intOf]; omega
    · obtain rfl : k = n := by omega
      have hoa := HYES.out.2.2
      have hq0 := HYES.out.2.1
      have HSG := Lib.hid (ses_sig HTS.out HYES.out.2.1 HYES.out.2.2)
      rw [hoa]
      clear hoa
      go_wp2_with fail
      clear k0 k1 k2 k3 k4 k5
      refine (isesBad _ need many _ ng _ zg _ nc _ zc msg _ k _ S ad I1.out I2.out A3.out hl1 hl2 hl3 HN.out HT.out).mono ?_
      rintro e W4 ⟨v, rfl, hL, hg⟩
      rw [tbF_yes HTS.out] at hL
      obtain ⟨av, cv, rfl, _, _, _⟩ := hL.slice
      clear hL
      replace G := Lib.hid (gtr G.out hg)
      replace I1 := Lib.hid (I1.out.kept hg)
      replace I2 := Lib.hid (I2.out.kept hg)
      replace A3 := Lib.hid (A3.out.kept hg)
      replace HN := Lib.hid (HN.out.kept hg)
      replace HT := Lib.hid (HT.out.kept hg)
      replace B := Lib.hid (B.out.kept hg)
      replace X := Lib.hid (X.out.kept hg)
      replace C := Lib.hid (gtr C.out hg)
      clear hg
      rw [hq0]
      clear hq0
      obtain ⟨_, k0, k1, k2, k3, k4, k5⟩ := B.out
      go_wp2_with fail
      clear k0 k1 k2 k3 k4 k5
      have e2 : (rP S k == rP S k) = true := by simp
      have e3 : (zP S k == zP S k) = true := by simp
      refine wp_region_held_drew (S := (fun w' => (w'.cell? ⟨bb, 0, none⟩ = some (.int .i64 need) ∧ w'.cell? ⟨bb, 1, none⟩ = some (.int .i64 many) ∧ w'.cell? ⟨bb, 2, none⟩ = some (.slice ag ng cg) ∧ w'.cell? ⟨bb, 3, none⟩ = some (.slice ac nc cc) ∧ w'.cell? ⟨bb, 4, none⟩ = some (.int .i64 msg) ∧ w'.cell? ⟨bb, 5, none⟩ = some (.slice a3 k c3)) ∧ w'.cell? ⟨xb, 0, none⟩ = some (.int .i64 (rP S k)) ∧ w'.cell? ⟨xb, 1, none⟩ = some (.int .i64 (zP S k)))) (by kernel_rfl) (⟨⟨B.out.c0, B.out.c1, B.out.c2, B.out.c3, B.out.c4, B.out.c5⟩, X.out.c0, X.out.c1⟩) (fun hHeld => ?_)
      have hg := Draw.gdrew W4
      replace G := Lib.hid (gtr G.out hg)
      replace I1 := Lib.hid (I1.out.kept hg)
      replace I2 := Lib.hid (I2.out.kept hg)
      replace A3 := Lib.hid (A3.out.kept hg)
      replace HN := Lib.hid (HN.out.kept hg)
      replace HT := Lib.hid (HT.out.kept hg)
      replace B := Lib.hid (B.out.kept hg)
      replace X := Lib.hid (X.out.kept hg)
      replace C := Lib.hid (gtr C.out hg)
      clear hg
      generalize (W4).drew = V7 at *
      refine wpAnyH_take (i := 0) (oi := ⟨some 79, _, _, _, _, _⟩) (v := ?_) rfl (by kernel_rfl) (by kernel_rfl) (by kernel_rfl) (fun _ _ _ h => h) (Or.inl ⟨by rfl, ?_⟩) (by assumption) ?_
      rotate_left
      · intro w hSw; (try dsimp only at hSw); go_simp; try with_reducible rfl
      simp only [Act.put, List.setIfInBounds_toArray, List.set_cons_zero, List.set_cons_succ]
      refine wpAnyH_take (i := 1) (oi := ⟨some 80, _, _, _, _, _⟩) (v := ?_) rfl (by kernel_rfl) (by kernel_rfl) (by kernel_rfl) (fun _ _ _ h => h) (Or.inl ⟨by rfl, ?_⟩) (by assumption) ?_
      rotate_left
      · intro w hSw; (try dsimp only at hSw); go_simp; try with_reducible rfl
      simp only [Act.put, List.setIfInBounds_toArray, List.set_cons_zero, List.set_cons_succ]
      refine wpAnyH_take (i := 2) (oi := ⟨some 81, _, _, _, _, _⟩) (v := ?_) rfl (by kernel_rfl) (by kernel_rfl) (by kernel_rfl) (fun _ _ _ h => h) (Or.inl ⟨by rfl, ?_⟩) (by assumption) ?_
      rotate_left
      · intro w hSw; (try dsimp only at hSw); go_simp; try with_reducible rfl
      simp only [Act.put, List.setIfInBounds_toArray, List.set_cons_zero, List.set_cons_succ]
      refine wpAnyH_take (i := 3) (oi := ⟨some 82, _, _, _, _, _⟩) (v := ?_) rfl (by kernel_rfl) (by kernel_rfl) (by kernel_rfl) (fun _ _ _ h => h) (Or.inl ⟨by rfl, ?_⟩) (by assumption) ?_
      rotate_left
      · intro w hSw; (try dsimp only at hSw); go_simp; try with_reducible rfl
      simp only [Act.put, List.setIfInBounds_toArray, List.set_cons_zero, List.set_cons_succ]
      refine wpAnyH_take (i := 4) (oi := ⟨some 83, _, _, _, _, _⟩) (v := ?_) rfl (by kernel_rfl) (by kernel_rfl) (by kernel_rfl) (fun _ _ _ h => h) (Or.inl ⟨by rfl, ?_⟩) (by assumption) ?_
      rotate_left
      · intro w hSw; (try dsimp only at hSw); go_simp; try with_reducible rfl
      simp only [Act.put, List.setIfInBounds_toArray, List.set_cons_zero, List.set_cons_succ]
      refine wpAnyH_take (i := 5) (oi := ⟨some 84, _, _, _, _, _⟩) (v := ?_) rfl (by kernel_rfl) (by kernel_rfl) (by kernel_rfl) (fun _ _ _ h => h) (Or.inl ⟨by rfl, ?_⟩) (by assumption) ?_
      rotate_left
      · intro w hSw; (try dsimp only at hSw); go_simp; try with_reducible rfl
      simp only [Act.put, List.setIfInBounds_toArray, List.set_cons_zero, List.set_cons_succ]
      refine wpAnyH_take (i := 6) (oi := ⟨some 85, _, _, _, _, _⟩) (v := ?_) rfl (by kernel_rfl) (by kernel_rfl) (by kernel_rfl) (fun _ _ _ h => h) (Or.inl ⟨by rfl, ?_⟩) (by assumption) ?_
      rotate_left
      · intro w hSw; (try dsimp only at hSw); go_simp; try with_reducible rfl
      simp only [Act.put, List.setIfInBounds_toArray, List.set_cons_zero, List.set_cons_succ]
      refine wpAnyH_take (i := 7) (oi := ⟨some 86, _, _, _, _, _⟩) (v := ?_) rfl (by kernel_rfl) (by kernel_rfl) (by kernel_rfl) (fun _ _ _ h => h) (Or.inl ⟨by rfl, ?_⟩) (by assumption) ?_
      rotate_left
      · intro w hSw; (try dsimp only at hSw); go_simp; try with_reducible rfl
      simp only [Act.put, List.setIfInBounds_toArray, List.set_cons_zero, List.set_cons_succ]
      refine wpAnyH_take (i := 8) (oi := ⟨some 87, _, _, _, _, _⟩) (v := ?_) rfl (by kernel_rfl) (by kernel_rfl) (by kernel_rfl) (fun _ _ _ h => h) (Or.inl ⟨by rfl, ?_⟩) (by assumption) ?_
      rotate_left
      · intro w hSw; (try dsimp only at hSw); go_simp; try with_reducible rfl
      simp only [Act.put, List.setIfInBounds_toArray, List.set_cons_zero, List.set_cons_succ]
      refine wpAnyH_take (i := 9) (oi := ⟨some 88, _, _, _, _, _⟩) (v := ?_) rfl (by kernel_rfl) (by kernel_rfl) (by kernel_rfl) (fun _ _ _ h => h) (Or.inl ⟨by rfl, ?_⟩) (by assumption) ?_
      rotate_left
      · intro w hSw; (try dsimp only at hSw); go_simp; try with_reducible rfl
      simp only [Act.put, List.setIfInBounds_toArray, List.set_cons_zero, List.set_cons_succ]
      refine wpAnyH_ready (rs := [10]) (by kernel_rfl) (by simp) ?_
      refine AllReadyH.cons (o := ⟨some 89, _, _, _, _, _⟩) rfl (fun Kq hKq => ?_) AllReadyH.nil
      go_simp
      go_at_call 21
      refine (isesR _ need many _ ng _ zg _ nc _ zc msg _ k _ S I1.out I2.out A3.out hl1 hl2 hl3).mono ?_
      rintro e V8 ⟨rfl, hg⟩
      rw [sr_yes HTS.out]
      replace G := Lib.hid (gtr G.out hg)
      replace I1 := Lib.hid (I1.out.kept hg)
      replace I2 := Lib.hid (I2.out.kept hg)
      replace A3 := Lib.hid (A3.out.kept hg)
      replace HN := Lib.hid (HN.out.kept hg)
      replace HT := Lib.hid (HT.out.kept hg)
      replace B := Lib.hid (B.out.kept hg)
      replace X := Lib.hid (X.out.kept hg)
      replace C := Lib.hid (gtr C.out hg)
      clear hg
      refine hKq.out _ _ (⟨⟨B.out.c0, B.out.c1, B.out.c2, B.out.c3, B.out.c4, B.out.c5⟩, X.out.c0, X.out.c1⟩) (fun hHeld => ?_)
      clear hKq Kq
      refine wpAnyH_take (i := 11) (oi := ⟨some 90, _, _, _, _, _⟩) (v := ?_) rfl (by kernel_rfl) (by kernel_rfl) (by kernel_rfl) (fun _ _ _ h => h) (Or.inl ⟨by rfl, ?_⟩) (by assumption) ?_
      rotate_left
      · intro w hSw; (try dsimp only at hSw); go_simp; try with_reducible rfl
      simp only [Act.put, List.setIfInBounds_toArray, List.set_cons_zero, List.set_cons_succ]
      refine wpAnyH_take (i := 12) (oi := ⟨some 91, _, _, _, _, _⟩) (v := ?_) rfl (by kernel_rfl) (by kernel_rfl) (by kernel_rfl) (fun _ _ _ h => h) (Or.inl ⟨by rfl, ?_⟩) (by assumption) ?_
      rotate_left
      · intro w hSw; (try dsimp only at hSw); go_simp; try with_reducible rfl
      simp only [Act.put, List.setIfInBounds_toArray, List.set_cons_zero, List.set_cons_succ]
      refine wpAnyH_take (i := 13) (oi := ⟨some 92, _, _, _, _, _⟩) (v := ?_) rfl (by kernel_rfl) (by kernel_rfl) (by kernel_rfl) (fun _ _ _ h => h) (Or.inl ⟨by rfl, ?_⟩) (by assumption) ?_
      rotate_left
      · intro w hSw; (try dsimp only at hSw); go_simp; try with_reducible rfl
      simp only [Act.put, List.setIfInBounds_toArray, List.set_cons_zero, List.set_cons_succ]
      refine wpAnyH_take (i := 14) (oi := ⟨some 93, _, _, _, _, _⟩) (v := ?_) rfl (by kernel_rfl) (by kernel_rfl) (by kernel_rfl) (fun _ _ _ h => h) (Or.inl ⟨by rfl, ?_⟩) (by assumption) ?_
      rotate_left
      · intro w hSw; (try dsimp only at hSw); go_simp; try with_reducible rfl
      simp only [Act.put, List.setIfInBounds_toArray, List.set_cons_zero, List.set_cons_succ]
      refine wpAnyH_take (i := 15) (oi := ⟨some 94, _, _, _, _, _⟩) (v := ?_) rfl (by kernel_rfl) (by kernel_rfl) (by kernel_rfl) (fun _ _ _ h => h) (Or.inl ⟨by rfl, ?_⟩) (by assumption) ?_
      rotate_left
      · intro w hSw; (try dsimp only at hSw); go_simp; try with_reducible rfl
      simp only [Act.put, List.setIfInBounds_toArray, List.set_cons_zero, List.set_cons_succ]
      refine wpAnyH_take (i := 16) (oi := ⟨some 95, _, _, _, _, _⟩) (v := ?_) rfl (by kernel_rfl) (by kernel_rfl) (by kernel_rfl) (fun _ _ _ h => h) (Or.inl ⟨by rfl, ?_⟩) (by assumption) ?_
      rotate_left
      · intro w hSw; (try dsimp only at hSw); go_simp; try with_reducible rfl
      simp only [Act.put, List.setIfInBounds_toArray, List.set_cons_zero, List.set_cons_succ]
      refine wpAnyH_take (i := 17) (oi := ⟨some 96, _, _, _, _, _⟩) (v := ?_) rfl (by kernel_rfl) (by kernel_rfl) (by kernel_rfl) (fun _ _ _ h => h) (Or.inl ⟨by rfl, ?_⟩) (by assumption) ?_
      rotate_left
      · intro w hSw; (try dsimp only at hSw); go_simp; try with_reducible rfl
      simp only [Act.put, List.setIfInBounds_toArray, List.set_cons_zero, List.set_cons_succ]
      refine wpAnyH_take (i := 18) (oi := ⟨some 97, _, _, _, _, _⟩) (v := ?_) rfl (by kernel_rfl) (by kernel_rfl) (by kernel_rfl) (fun _ _ _ h => h) (Or.inl ⟨by rfl, ?_⟩) (by assumption) ?_
      rotate_left
      · intro w hSw; (try dsimp only at hSw); go_simp; try with_reducible rfl
      simp only [Act.put, List.setIfInBounds_toArray, List.set_cons_zero, List.set_cons_succ]
      refine wpAnyH_take (i := 19) (oi := ⟨some 98, _, _, _, _, _⟩) (v := ?_) rfl (by kernel_rfl) (by kernel_rfl) (by kernel_rfl) (fun _ _ _ h => h) (Or.inl ⟨by rfl, ?_⟩) (by assumption) ?_
      rotate_left
      · intro w hSw; (try dsimp only at hSw); go_simp; try with_reducible rfl
      simp only [Act.put, List.setIfInBounds_toArray, List.set_cons_zero, List.set_cons_succ]
      refine wpAnyH_take (i := 20) (oi := ⟨some 99, _, _, _, _, _⟩) (v := ?_) rfl (by kernel_rfl) (by kernel_rfl) (by kernel_rfl) (fun _ _ _ h => h) (Or.inl ⟨by rfl, ?_⟩) (by assumption) ?_
      rotate_left
      · intro w hSw; (try dsimp only at hSw); go_simp; try with_reducible rfl
      simp only [Act.put, List.setIfInBounds_toArray, List.set_cons_zero, List.set_cons_succ]
      refine wpAnyH_take (i := 22) (oi := ⟨some 101, _, _, _, _, _⟩) (v := ?_) rfl (by kernel_rfl) (by kernel_rfl) (by kernel_rfl) (fun _ _ _ h => h) (Or.inl ⟨by rfl, ?_⟩) (by assumption) ?_
      rotate_left
      · intro w hSw; (try dsimp only at hSw); go_simp; try with_reducible rfl
      simp only [Act.put, List.setIfInBounds_toArray, List.set_cons_zero, List.set_cons_succ]
      refine wpAnyH_take (i := 23) (oi := ⟨some 102, _, _, _, _, _⟩) (v := ?_) rfl (by kernel_rfl) (by kernel_rfl) (by kernel_rfl) (fun _ _ _ h => h) (Or.inl ⟨by rfl, ?_⟩) (by assumption) ?_
      rotate_left
      · intro w hSw; (try dsimp only at hSw); go_simp; try with_reducible rfl
      simp only [Act.put, List.setIfInBounds_toArray, List.set_cons_zero, List.set_cons_succ]
      refine wpAnyH_take (i := 24) (oi := ⟨some 103, _, _, _, _, _⟩) (v := ?_) rfl (by kernel_rfl) (by kernel_rfl) (by kernel_rfl) (fun _ _ _ h => h) (Or.inl ⟨by rfl, ?_⟩) (by assumption) ?_
      rotate_left
      · intro w hSw; (try dsimp only at hSw); go_simp; try with_reducible rfl
      simp only [Act.put, List.setIfInBounds_toArray, List.set_cons_zero, List.set_cons_succ]
      refine wpAnyH_ready (rs := [21]) (by kernel_rfl) (by simp) ?_
      refine AllReadyH.cons (o := ⟨some 100, _, _, _, _, _⟩) rfl (fun Kq hKq => ?_) AllReadyH.nil
      go_simp
      go_at_call 27
      refine (ikeypub _ need many _ ng _ zg _ nc _ zc I1.out I2.out hl1 hl2).mono ?_
      rintro e V9 ⟨rfl, hg⟩
      replace G := Lib.hid (gtr G.out hg)
      replace I1 := Lib.hid (I1.out.kept hg)
      replace I2 := Lib.hid (I2.out.kept hg)
      replace A3 := Lib.hid (A3.out.kept hg)
      replace HN := Lib.hid (HN.out.kept hg)
      replace HT := Lib.hid (HT.out.kept hg)
      replace B := Lib.hid (B.out.kept hg)
      replace X := Lib.hid (X.out.kept hg)
      replace C := Lib.hid (gtr C.out hg)
      clear hg
      refine hKq.out _ _ (⟨⟨B.out.c0, B.out.c1, B.out.c2, B.out.c3, B.out.c4, B.out.c5⟩, X.out.c0, X.out.c1⟩) (fun hHeld => ?_)
      clear hKq Kq
      refine wpAnyH_ready (rs := [25]) (by kernel_rfl) (by simp) ?_
      refine AllReadyH.cons (o := ⟨some 104, _, _, _, _, _⟩) rfl (fun Kq hKq => ?_) AllReadyH.nil
      go_simp
      go_at_call 26
      refine (isigok _ (kpub need many ng zg nc zc) msg (rP S k) (zP S k)).mono ?_
      rintro e Va ⟨rfl, hg⟩
      rw [HSG.out]
      replace G := Lib.hid (gtr G.out hg)
      replace I1 := Lib.hid (I1.out.kept hg)
      replace I2 := Lib.hid (I2.out.kept hg)
      replace A3 := Lib.hid (A3.out.kept hg)
      replace HN := Lib.hid (HN.out.kept hg)
      replace HT := Lib.hid (HT.out.kept hg)
      replace B := Lib.hid (B.out.kept hg)
      replace X := Lib.hid (X.out.kept hg)
      replace C := Lib.hid (gtr C.out hg)
      clear hg
      refine hKq.out _ _ (⟨⟨B.out.c0, B.out.c1, B.out.c2, B.out.c3, B.out.c4, B.out.c5⟩, X.out.c0, X.out.c1⟩) (fun hHeld => ?_)
      clear hKq Kq
      refine wpAnyH_take (i := 26) (oi := ⟨some 105, _, _, _, _, _⟩) (v := ?_) rfl (by kernel_rfl) (by kernel_rfl) (by kernel_rfl) (fun _ _ _ h => h) (Or.inl ⟨by rfl, ?_⟩) (by assumption) ?_
      rotate_left
      · intro w hSw; (try dsimp only at hSw); go_simp; try with_reducible rfl
      simp only [Act.put, List.setIfInBounds_toArray, List.set_cons_zero, List.set_cons_succ]
      refine wpAnyH_take (i := 27) (oi := ⟨some 106, _, _, _, _, _⟩) (v := ?_) rfl (by kernel_rfl) (by kernel_rfl) (by kernel_rfl) (fun _ _ _ h => h) (Or.inl ⟨by rfl, ?_⟩) (by assumption) ?_
      rotate_left
      · intro w hSw; (try dsimp only at hSw); go_simp; try with_reducible rfl
      simp only [Act.put, List.setIfInBounds_toArray, List.set_cons_zero, List.set_cons_succ]
      refine wpAnyH_take (i := 28) (oi := ⟨some 107, _, _, _, _, _⟩) (v := ?_) rfl (by kernel_rfl) (by kernel_rfl) (by kernel_rfl) (fun _ _ _ h => h) (Or.inl ⟨by rfl, ?_⟩) (by assumption) ?_
      rotate_left
      · intro w hSw; (try dsimp only at hSw); go_simp; try with_reducible rfl
      simp only [Act.put, List.setIfInBounds_toArray, List.set_cons_zero, List.set_cons_succ]
      refine wpAnyH_take (i := 29) (oi := ⟨some 2, _, _, _, _, _⟩) (v := ?_) rfl (by kernel_rfl) (by kernel_rfl) (by kernel_rfl) (fun _ _ _ h => h) (Or.inl ⟨by rfl, ?_⟩) (by assumption) ?_
      rotate_left
      · intro w hSw; (try dsimp only at hSw); go_simp; try with_reducible rfl
      simp only [Act.put, List.setIfInBounds_toArray, List.set_cons_zero, List.set_cons_succ]
      refine wpAnyH_done (by kernel_rfl) ?_ _
      go_wp2
      go_ret
      exact ⟨rfl, Draw.below_of G.out⟩
end Run
end Go.Proofs.YteibklnonlapoaaGreatDoor
