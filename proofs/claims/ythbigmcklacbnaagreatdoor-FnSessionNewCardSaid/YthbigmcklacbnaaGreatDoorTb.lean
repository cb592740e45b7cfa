/-
  Sessions: the model's SessionOk and SessionR.
-/
import Derived.Test.YthbigmcklacbnaaGreatDoorTa
import Derived.Test.YthbigmcklacbnaaGreatDoorGq
namespace Go.Proofs.YthbigmcklacbnaaGreatDoor
namespace Con
open Go.RowKit Alg Mem Draw
set_option linter.unusedVariables false

/-- A session's block. -/
structure Ss (w : World) (b : Nat) (need many : Int) (s1 s2 : Value) (msg : Int) (s3 : Value) : Prop where
  lt : b < w.heap.size
  c0 : w.cell? ⟨b, 0, none⟩ = some (.int .i64 need)
  c1 : w.cell? ⟨b, 1, none⟩ = some (.int .i64 many)
  c2 : w.cell? ⟨b, 2, none⟩ = some s1
  c3 : w.cell? ⟨b, 3, none⟩ = some s2
  c4 : w.cell? ⟨b, 4, none⟩ = some (.int .i64 msg)
  c5 : w.cell? ⟨b, 5, none⟩ = some s3
theorem Ss.of_blk {w : World} {b : Nat} {need many : Int} {s1 s2 : Value} {msg : Int} {s3 : Value} {T : TypeId} (h : Blk w b #[.int .i64 need, .int .i64 many, s1, s2, .int .i64 msg, s3] T) : Ss w b need many s1 s2 msg s3 := ⟨h.lt, h.cell 0, h.cell 1, h.cell 2, h.cell 3, h.cell 4, h.cell 5⟩
theorem Ss.keptB {w w' : World} {b : Nat} {need many : Int} {s1 s2 : Value} {msg : Int} {s3 : Value} (h : Ss w b need many s1 s2 msg s3) (hb : w'.heap[b]? = w.heap[b]?) (hs : w.heap.size ≤ w'.heap.size) : Ss w' b need many s1 s2 msg s3 := by
  refine ⟨Nat.lt_of_lt_of_le h.lt hs, ?_, ?_, ?_, ?_, ?_, ?_⟩ <;> rw [World.cell?_of_block (w := w) hb]
  · exact h.c0
  · exact h.c1
  · exact h.c2
  · exact h.c3
  · exact h.c4
  · exact h.c5
theorem Ss.kept {w w' : World} {b : Nat} {need many : Int} {s1 s2 : Value} {msg : Int} {s3 : Value} (h : Ss w b need many s1 s2 msg s3) (hg : w.grownBy w' none) : Ss w' b need many s1 s2 msg s3 := h.keptB (hg.block b h.lt (by simp)) hg.size

set_option maxRecDepth 100000 in
set_option maxHeartbeats 1000000 in
theorem s32members (w : World) (need many : Int) (s1 s2 : Value) (msg : Int) (a : Option Addr) (len cap : Nat) (S : Nat → SV) (hS : ShIn w a len S) (hl : len ≤ 2000000) :
    Calls Tryz.prog 37 #[.agg #[.int .i64 need, .int .i64 many, s1, s2, .int .i64 msg, .slice a len cap]] w (Own1 3 w len (mS S)) := by
  have G0 := Lib.hid (Draw.grown_alloc w (.cells #[.int .i64 need, .int .i64 many, s1, s2, .int .i64 msg, .slice a len cap] 30) none)
  have K := Lib.hid (Ss.of_blk (Blk.new w #[.int .i64 need, .int .i64 many, s1, s2, .int .i64 msg, .slice a len cap] 30))
  have HA := Lib.hid (hS.kept G0.out); clear hS
  have hs0 : (w.alloc (.cells #[.int .i64 need, .int .i64 many, s1, s2, .int .i64 msg, .slice a len cap] 30)).heap.size = w.heap.size + 1 := by show (w.heap.push _).size = _; simp
  have he := row_empty (w.alloc (.cells #[.int .i64 need, .int .i64 many, s1, s2, .int .i64 msg, .slice a len cap] 30)) 3 (mS S)
  rw [hs0] at he
  have HE := Lib.hid he; have HS0 := Lib.hid hs0; clear he hs0
  obtain ⟨i0, hi, hz0, hz1, hz2⟩ := info_parts info_int
  go_enter Tryz.func37, Tryz.ntmps37
  go_wp2
  go_loopw [3, 4] (fun v i wr => ∃ k b c : Nat, k ≤ len ∧ v = .slice (some ⟨b, 0, none⟩) k c ∧ i = .int .i64 k ∧ Row wr (w.heap.size + 1) 3 b k c (mS S) ∧ (w.alloc (.cells #[.int .i64 need, .int .i64 many, s1, s2, .int .i64 msg, .slice a len cap] 30)).grownBy wr none) (fun _ i _ => len - (intOf i).toNat)
  case atStart => exact ⟨0, w.heap.size + 1, 0, by omega, rfl, rfl, HE.out, Draw.grown_alloc _ _ _⟩
  case round =>
    obtain ⟨k, bo, co, hk, rfl, rfl, hr, hg⟩ := hrel
    have HG := Lib.hid hg; have hge := hr.from_; have HW := Lib.hid hr; clear hg hr
    have HK := Lib.hid (K.out.kept HG.out)
    obtain ⟨_, k0, k1, k2, k3, k4, k5⟩ := HK.out
    have hsz := HG.out.size
    rw [HS0.out] at hsz
    by_cases hka : k < len
    · have hlt : (k : Int) < (len : Int) := by omega
      obtain ⟨b1, o1, rfl, hb1, hc1⟩ := (HA.out.kept HG.out).ptr (by omega)
      obtain ⟨x0, x1, x2, x3⟩ := hc1 k hka
      clear hc1 x1 x2 x3
      go_wp2_with (at_builtin; refine wpList_append_own _ rfl _ _ 23 rfl (w.heap.size + 1) 3 i0 (.int .i64 0) 1 8 und_ints hi hz0 hz1 hz2 rfl (by decide) _ k (vals (mS S) k) rfl (HW.out.alloc _).owns ⟨wr.heap.size, 0, none⟩ 1 1 [.int .i64 (S k).m] rfl rfl (cell_one_new _ _ _) (by simp [Value.oneCell']) (by unfold maxLen; omega) (by omega) (by simp; omega) ?_; intro v' w1 hown' hgrow _)
      obtain ⟨b', cap', rfl, hrow⟩ := app_row hown' (show (S k).m = mS S k from rfl)
      have HR := Lib.hid hrow; have HGr := Lib.hid (app_grown HG.out (by rw [HS0.out]; exact hge) hgrow)
      clear hown' hgrow hrow
      go_wp2
      go_roundw
      case rel => exact ⟨k + 1, b', cap', by omega, rfl, by go_num, HR.out, HGr.out⟩
      case measure => simp [intOf]; omega
    · obtain rfl : k = len := by omega
      go_wp2
      go_ret
      exact ⟨_, _, rfl, HW.out.lower (by omega), gtr G0.out HG.out⟩
set_option maxRecDepth 100000 in
set_option maxHeartbeats 2000000 in
theorem s32ok (w : World) (need many : Int) (ag : Option Addr) (ng cg : Nat) (zg : Nat → Int) (ac : Option Addr) (nc cc : Nat) (zc : Nat → Int) (msg : Int) (a : Option Addr) (len cap : Nat) (S : Nat → SV) (hG : Ints w ag ng zg) (hC : Ints w ac nc zc) (hS : ShIn w a len S) (hl1 : ng ≤ 2000000) (hl2 : nc ≤ 2000000) (hl : len ≤ 2000000) :
    Calls Tryz.prog 19 #[.agg #[.int .i64 need, .int .i64 many, .slice ag ng cg, .slice ac nc cc, .int .i64 msg, .slice a len cap]] w fun e w' => e = .returned (.bool (tsF need many ng zg nc zc msg len S)) ∧ w.grownBy w' none := by
  have G := Lib.hid (Draw.grown_alloc w (.cells #[.int .i64 need, .int .i64 many, .slice ag ng cg, .slice ac nc cc, .int .i64 msg, .slice a len cap] 30) none)
  have K := Lib.hid (Ss.of_blk (Blk.new w #[.int .i64 need, .int .i64 many, .slice ag ng cg, .slice ac nc cc, .int .i64 msg, .slice a len cap] 30))
  have HG := Lib.hid (hG.kept G.out); have HC := Lib.hid (hC.kept G.out); have HA := Lib.hid (hS.kept G.out)
  clear hG hC hS
  go_enter Tryz.func19, Tryz.ntmps19
  obtain ⟨_, k0, k1, k2, k3, k4, k5⟩ := K.out
  go_wp2
  go_loop [3] (fun i => ∃ k : Nat, k ≤ len ∧ i = .int .i64 k ∧ soA S k = true) (fun i => len - (intOf i).toNat)
  case atStart => exact ⟨0, by omega, rfl, rfl⟩
  case round =>
    obtain ⟨k, hk, rfl, hz⟩ := hrel
    have HZ := Lib.hid hz; clear hz
    by_cases hlt : k < len
    · obtain ⟨b, off, rfl, hb, hcc⟩ := HA.out.ptr (by omega)
      obtain ⟨x0, x1, x2, x3⟩ := hcc k hlt
      clear hcc
      rcases gokc (S k).R with h1 | h1
      case inr =>
        have HR := Lib.hid (so_not (need := need) (many := many) (ng := ng) (zg := zg) (nc := nc) (zc := zc) (msg := msg) (n := len) (S := S) (fun h => by have := (soE_iff.1 (soA_iff.1 h.1 k hlt)).1; rw [h1] at this; cases this))
        go_wp2_with fail
        refine (sgok_no _ _ h1).mono ?_
        rintro e w' ⟨rfl, rfl⟩
        go_wp2
        go_ret
        exact ⟨ret_b HR.out.symm, G.out⟩
      rcases fokc (S k).Z with h2 | h2
      case inr =>
        have HR := Lib.hid (so_not (need := need) (many := many) (ng := ng) (zg := zg) (nc := nc) (zc := zc) (msg := msg) (n := len) (S := S) (fun h => by have := (soE_iff.1 (soA_iff.1 h.1 k hlt)).2.1; rw [h2] at this; cases this))
        go_wp2_with fail
        refine (sgok_yes _ _ h1).mono ?_
        rintro e w' ⟨rfl, rfl⟩
        go_wp2_with fail
        refine (sok_no _ _ h2).mono ?_
        rintro e w' ⟨rfl, rfl⟩
        go_wp2
        go_ret
        exact ⟨ret_b HR.out.symm, G.out⟩
      cases ho : (S k).on with
      | true =>
        rw [ho] at x2
        have HN := Lib.hid (soA_next HZ.out (soE_iff.2 ⟨h1, h2, .inl ho⟩))
        go_wp2_with fail
        refine (sgok_yes _ _ h1).mono ?_
        rintro e w' ⟨rfl, rfl⟩
        go_wp2_with fail
        refine (sok_yes _ _ h2).mono ?_
        rintro e w' ⟨rfl, rfl⟩
        go_wp2
        go_round
        case rel => exact ⟨k + 1, by omega, by go_num, HN.out⟩
        case measure => simp [intOf]; omega
      | false =>
        rw [ho] at x2
        by_cases h3 : (S k).Z = 0
        · have HN := Lib.hid (soA_next HZ.out (soE_iff.2 ⟨h1, h2, .inr h3⟩))
          have e3 : ((S k).Z != 0) = false := by rw [h3]; rfl
          clear h3
          go_wp2_with fail
          refine (sgok_yes _ _ h1).mono ?_
          rintro e w' ⟨rfl, rfl⟩
          go_wp2_with fail
          refine (sok_yes _ _ h2).mono ?_
          rintro e w' ⟨rfl, rfl⟩
          go_wp2
          go_round
          case rel => exact ⟨k + 1, by omega, by go_num, HN.out⟩
          case measure => simp [intOf]; omega
        · have hno : ¬ ((S k).on = true ∨ (S k).Z = 0) := by
            rintro (h | h)
            · rw [ho] at h; cases h
            · exact h3 h
          have HR := Lib.hid (so_not (need := need) (many := many) (ng := ng) (zg := zg) (nc := nc) (zc := zc) (msg := msg) (n := len) (S := S) (fun h => hno (soE_iff.1 (soA_iff.1 h.1 k hlt)).2.2))
          clear hno
          have e3 : ((S k).Z != 0) = true := by simpa using h3
          go_wp2_with fail
          refine (sgok_yes _ _ h1).mono ?_
          rintro e w' ⟨rfl, rfl⟩
          go_wp2_with fail
          refine (sok_yes _ _ h2).mono ?_
          rintro e w' ⟨rfl, rfl⟩
          go_wp2
          go_ret
          exact ⟨ret_b HR.out.symm, G.out⟩
    · obtain rfl : k = len := by omega
      cases h1 : kyF need many ng zg nc zc with
      | false =>
        have HR := Lib.hid (so_not (n := k) (S := S) (msg := msg) (need := need) (many := many) (ng := ng) (zg := zg) (nc := nc) (zc := zc) (by simp [h1]))
        go_wp2_with fail
        refine wp_region_held_drew (S := (fun w' => w'.cell? ⟨w.heap.size, 0, none⟩ = some (.int .i64 need) ∧ w'.cell? ⟨w.heap.size, 1, none⟩ = some (.int .i64 many) ∧ w'.cell? ⟨w.heap.size, 2, none⟩ = some (.slice ag ng cg) ∧ w'.cell? ⟨w.heap.size, 3, none⟩ = some (.slice ac nc cc) ∧ w'.cell? ⟨w.heap.size, 4, none⟩ = some (.int .i64 msg) ∧ w'.cell? ⟨w.heap.size, 5, none⟩ = some (.slice a k cap))) (by kernel_rfl) (⟨K.out.c0, K.out.c1, K.out.c2, K.out.c3, K.out.c4, K.out.c5⟩) (fun hHeld => ?_)
        have hg := Draw.gdrew (w.alloc (.cells #[.int .i64 need, .int .i64 many, .slice ag ng cg, .slice ac nc cc, .int .i64 msg, .slice a k cap] 30))
        clear k0 k1 k2 k3 k4 k5
        replace G := Lib.hid (gtr G.out hg)
        replace K := Lib.hid (K.out.kept hg)
        replace HG := Lib.hid (HG.out.kept hg)
        replace HC := Lib.hid (HC.out.kept hg)
        replace HA := Lib.hid (HA.out.kept hg)
        clear hg
        obtain ⟨_, k0, k1, k2, k3, k4, k5⟩ := K.out
        generalize ((w.alloc (.cells #[.int .i64 need, .int .i64 many, .slice ag ng cg, .slice ac nc cc, .int .i64 msg, .slice a k cap] 30))).drew = W at *
        refine wpAnyH_take (i := 0) (oi := ⟨some 47, _, _, _, _, _⟩) (v := ?_) rfl (by kernel_rfl) (by kernel_rfl) (by kernel_rfl) (fun _ _ _ h => h) (Or.inl ⟨by rfl, ?_⟩) (by assumption) ?_
        rotate_left
        · intro w hSw; (try dsimp only at hSw); go_simp; try with_reducible rfl
        simp only [Act.put, List.setIfInBounds_toArray, List.set_cons_zero, List.set_cons_succ]
        refine wpAnyH_take (i := 1) (oi := ⟨some 48, _, _, _, _, _⟩) (v := ?_) rfl (by kernel_rfl) (by kernel_rfl) (by kernel_rfl) (fun _ _ _ h => h) (Or.inl ⟨by rfl, ?_⟩) (by assumption) ?_
        rotate_left
        · intro w hSw; (try dsimp only at hSw); go_simp; try with_reducible rfl
        simp only [Act.put, List.setIfInBounds_toArray, List.set_cons_zero, List.set_cons_succ]
        refine wpAnyH_ready (rs := [2]) (by kernel_rfl) (by simp) ?_
        refine AllReadyH.cons (o := ⟨some 49, _, _, _, _, _⟩) rfl (fun Kq hKq => ?_) AllReadyH.nil
        go_simp
        go_at_call 35
        refine (skeyok _ need many _ ng _ zg _ nc _ zc HG.out HC.out hl1 hl2).mono ?_
        rintro e w2 ⟨rfl, hg⟩
        rw [h1]
        clear k0 k1 k2 k3 k4 k5
        replace G := Lib.hid (gtr G.out hg)
        replace K := Lib.hid (K.out.kept hg)
        replace HG := Lib.hid (HG.out.kept hg)
        replace HC := Lib.hid (HC.out.kept hg)
        replace HA := Lib.hid (HA.out.kept hg)
        clear hg
        obtain ⟨_, k0, k1, k2, k3, k4, k5⟩ := K.out
        refine hKq.out _ _ (⟨K.out.c0, K.out.c1, K.out.c2, K.out.c3, K.out.c4, K.out.c5⟩) (fun hHeld => ?_)
        clear hKq Kq
        refine wpAnyH_take (i := 3) (oi := ⟨some 50, _, _, _, _, _⟩) (v := ?_) rfl (by kernel_rfl) (by kernel_rfl) (by kernel_rfl) (fun _ _ _ h => h) (Or.inl ⟨by rfl, ?_⟩) (by assumption) ?_
        rotate_left
        · intro w hSw; (try dsimp only at hSw); go_simp; try with_reducible rfl
        simp only [Act.put, List.setIfInBounds_toArray, List.set_cons_zero, List.set_cons_succ]
        refine wpAnyH_take (i := 4) (oi := ⟨some 51, _, _, _, _, _⟩) (v := undef) rfl (by kernel_rfl) (by kernel_rfl) (by kernel_rfl) (fun _ _ _ h => h) (Or.inr ⟨by rfl, rfl⟩) (by assumption) ?_
        simp only [Act.put, List.setIfInBounds_toArray, List.set_cons_zero, List.set_cons_succ]
        refine wpAnyH_take (i := 5) (oi := ⟨some 52, _, _, _, _, _⟩) (v := undef) rfl (by kernel_rfl) (by kernel_rfl) (by kernel_rfl) (fun _ _ _ h => h) (Or.inr ⟨by rfl, rfl⟩) (by assumption) ?_
        simp only [Act.put, List.setIfInBounds_toArray, List.set_cons_zero, List.set_cons_succ]
        refine wpAnyH_take (i := 6) (oi := ⟨some 53, _, _, _, _, _⟩) (v := undef) rfl (by kernel_rfl) (by kernel_rfl) (by kernel_rfl) (fun _ _ _ h => h) (Or.inr ⟨by rfl, rfl⟩) (by assumption) ?_
        simp only [Act.put, List.setIfInBounds_toArray, List.set_cons_zero, List.set_cons_succ]
        refine wpAnyH_take (i := 7) (oi := ⟨some 54, _, _, _, _, _⟩) (v := undef) rfl (by kernel_rfl) (by kernel_rfl) (by kernel_rfl) (fun _ _ _ h => h) (Or.inr ⟨by rfl, rfl⟩) (by assumption) ?_
        simp only [Act.put, List.setIfInBounds_toArray, List.set_cons_zero, List.set_cons_succ]
        refine wpAnyH_take (i := 8) (oi := ⟨some 55, _, _, _, _, _⟩) (v := undef) rfl (by kernel_rfl) (by kernel_rfl) (by kernel_rfl) (fun _ _ _ h => h) (Or.inr ⟨by rfl, rfl⟩) (by assumption) ?_
        simp only [Act.put, List.setIfInBounds_toArray, List.set_cons_zero, List.set_cons_succ]
        refine wpAnyH_take (i := 9) (oi := ⟨some 56, _, _, _, _, _⟩) (v := ?_) rfl (by kernel_rfl) (by kernel_rfl) (by kernel_rfl) (fun _ _ _ h => h) (Or.inl ⟨by rfl, ?_⟩) (by assumption) ?_
        rotate_left
        · intro w hSw; (try dsimp only at hSw); go_simp; try with_reducible rfl
        simp only [Act.put, List.setIfInBounds_toArray, List.set_cons_zero, List.set_cons_succ]
        refine wpAnyH_take (i := 10) (oi := ⟨some 57, _, _, _, _, _⟩) (v := ?_) rfl (by kernel_rfl) (by kernel_rfl) (by kernel_rfl) (fun _ _ _ h => h) (Or.inl ⟨by rfl, ?_⟩) (by assumption) ?_
        rotate_left
        · intro w hSw; (try dsimp only at hSw); go_simp; try with_reducible rfl
        simp only [Act.put, List.setIfInBounds_toArray, List.set_cons_zero, List.set_cons_succ]
        refine wpAnyH_take (i := 11) (oi := ⟨some 58, _, _, _, _, _⟩) (v := undef) rfl (by kernel_rfl) (by kernel_rfl) (by kernel_rfl) (fun _ _ _ h => h) (Or.inr ⟨by rfl, rfl⟩) (by assumption) ?_
        simp only [Act.put, List.setIfInBounds_toArray, List.set_cons_zero, List.set_cons_succ]
        refine wpAnyH_take (i := 12) (oi := ⟨some 59, _, _, _, _, _⟩) (v := undef) rfl (by kernel_rfl) (by kernel_rfl) (by kernel_rfl) (fun _ _ _ h => h) (Or.inr ⟨by rfl, rfl⟩) (by assumption) ?_
        simp only [Act.put, List.setIfInBounds_toArray, List.set_cons_zero, List.set_cons_succ]
        refine wpAnyH_take (i := 13) (oi := ⟨some 60, _, _, _, _, _⟩) (v := undef) rfl (by kernel_rfl) (by kernel_rfl) (by kernel_rfl) (fun _ _ _ h => h) (Or.inr ⟨by rfl, rfl⟩) (by assumption) ?_
        simp only [Act.put, List.setIfInBounds_toArray, List.set_cons_zero, List.set_cons_succ]
        refine wpAnyH_take (i := 14) (oi := ⟨some 61, _, _, _, _, _⟩) (v := ?_) rfl (by kernel_rfl) (by kernel_rfl) (by kernel_rfl) (fun _ _ _ h => h) (Or.inl ⟨by rfl, ?_⟩) (by assumption) ?_
        rotate_left
        · intro w hSw; (try dsimp only at hSw); go_simp; try with_reducible rfl
        simp only [Act.put, List.setIfInBounds_toArray, List.set_cons_zero, List.set_cons_succ]
        refine wpAnyH_take (i := 15) (oi := ⟨some 2, _, _, _, _, _⟩) (v := ?_) rfl (by kernel_rfl) (by kernel_rfl) (by kernel_rfl) (fun _ _ _ h => h) (Or.inl ⟨by rfl, ?_⟩) (by assumption) ?_
        rotate_left
        · intro w hSw; (try dsimp only at hSw); go_simp; try with_reducible rfl
        simp only [Act.put, List.setIfInBounds_toArray, List.set_cons_zero, List.set_cons_succ]
        refine wpAnyH_done (by kernel_rfl) ?_ _
        go_wp2
        go_ret
        exact ⟨ret_b HR.out.symm, G.out⟩
      | true =>
        cases h2 : crw need many k (mS S) with
        | false =>
          have HR := Lib.hid (so_not (n := k) (S := S) (msg := msg) (need := need) (many := many) (ng := ng) (zg := zg) (nc := nc) (zc := zc) (by simp [h2]))
          go_wp2_with fail
          refine wp_region_held_drew (S := (fun w' => w'.cell? ⟨w.heap.size, 0, none⟩ = some (.int .i64 need) ∧ w'.cell? ⟨w.heap.size, 1, none⟩ = some (.int .i64 many) ∧ w'.cell? ⟨w.heap.size, 2, none⟩ = some (.slice ag ng cg) ∧ w'.cell? ⟨w.heap.size, 3, none⟩ = some (.slice ac nc cc) ∧ w'.cell? ⟨w.heap.size, 4, none⟩ = some (.int .i64 msg) ∧ w'.cell? ⟨w.heap.size, 5, none⟩ = some (.slice a k cap))) (by kernel_rfl) (⟨K.out.c0, K.out.c1, K.out.c2, K.out.c3, K.out.c4, K.out.c5⟩) (fun hHeld => ?_)
          have hg := Draw.gdrew (w.alloc (.cells #[.int .i64 need, .int .i64 many, .slice ag ng cg, .slice ac nc cc, .int .i64 msg, .slice a k cap] 30))
          clear k0 k1 k2 k3 k4 k5
          replace G := Lib.hid (gtr G.out hg)
          replace K := Lib.hid (K.out.kept hg)
          replace HG := Lib.hid (HG.out.kept hg)
          replace HC := Lib.hid (HC.out.kept hg)
          replace HA := Lib.hid (HA.out.kept hg)
          clear hg
          obtain ⟨_, k0, k1, k2, k3, k4, k5⟩ := K.out
          generalize ((w.alloc (.cells #[.int .i64 need, .int .i64 many, .slice ag ng cg, .slice ac nc cc, .int .i64 msg, .slice a k cap] 30))).drew = W at *
          refine wpAnyH_take (i := 0) (oi := ⟨some 47, _, _, _, _, _⟩) (v := ?_) rfl (by kernel_rfl) (by kernel_rfl) (by kernel_rfl) (fun _ _ _ h => h) (Or.inl ⟨by rfl, ?_⟩) (by assumption) ?_
          rotate_left
          · intro w hSw; (try dsimp only at hSw); go_simp; try with_reducible rfl
          simp only [Act.put, List.setIfInBounds_toArray, List.set_cons_zero, List.set_cons_succ]
          refine wpAnyH_take (i := 1) (oi := ⟨some 48, _, _, _, _, _⟩) (v := ?_) rfl (by kernel_rfl) (by kernel_rfl) (by kernel_rfl) (fun _ _ _ h => h) (Or.inl ⟨by rfl, ?_⟩) (by assumption) ?_
          rotate_left
          · intro w hSw; (try dsimp only at hSw); go_simp; try with_reducible rfl
          simp only [Act.put, List.setIfInBounds_toArray, List.set_cons_zero, List.set_cons_succ]
          refine wpAnyH_ready (rs := [2]) (by kernel_rfl) (by simp) ?_
          refine AllReadyH.cons (o := ⟨some 49, _, _, _, _, _⟩) rfl (fun Kq hKq => ?_) AllReadyH.nil
          go_simp
          go_at_call 35
          refine (skeyok _ need many _ ng _ zg _ nc _ zc HG.out HC.out hl1 hl2).mono ?_
          rintro e w2 ⟨rfl, hg⟩
          rw [h1]
          clear k0 k1 k2 k3 k4 k5
          replace G := Lib.hid (gtr G.out hg)
          replace K := Lib.hid (K.out.kept hg)
          replace HG := Lib.hid (HG.out.kept hg)
          replace HC := Lib.hid (HC.out.kept hg)
          replace HA := Lib.hid (HA.out.kept hg)
          clear hg
          obtain ⟨_, k0, k1, k2, k3, k4, k5⟩ := K.out
          refine hKq.out _ _ (⟨K.out.c0, K.out.c1, K.out.c2, K.out.c3, K.out.c4, K.out.c5⟩) (fun hHeld => ?_)
          clear hKq Kq
          refine wpAnyH_take (i := 3) (oi := ⟨some 50, _, _, _, _, _⟩) (v := ?_) rfl (by kernel_rfl) (by kernel_rfl) (by kernel_rfl) (fun _ _ _ h => h) (Or.inl ⟨by rfl, ?_⟩) (by assumption) ?_
          rotate_left
          · intro w hSw; (try dsimp only at hSw); go_simp; try with_reducible rfl
          simp only [Act.put, List.setIfInBounds_toArray, List.set_cons_zero, List.set_cons_succ]
          refine wpAnyH_take (i := 4) (oi := ⟨some 51, _, _, _, _, _⟩) (v := ?_) rfl (by kernel_rfl) (by kernel_rfl) (by kernel_rfl) (fun _ _ _ h => h) (Or.inl ⟨by rfl, ?_⟩) (by assumption) ?_
          rotate_left
          · intro w hSw; (try dsimp only at hSw); go_simp; try with_reducible rfl
          simp only [Act.put, List.setIfInBounds_toArray, List.set_cons_zero, List.set_cons_succ]
          refine wpAnyH_take (i := 5) (oi := ⟨some 52, _, _, _, _, _⟩) (v := ?_) rfl (by kernel_rfl) (by kernel_rfl) (by kernel_rfl) (fun _ _ _ h => h) (Or.inl ⟨by rfl, ?_⟩) (by assumption) ?_
          rotate_left
          · intro w hSw; (try dsimp only at hSw); go_simp; try with_reducible rfl
          simp only [Act.put, List.setIfInBounds_toArray, List.set_cons_zero, List.set_cons_succ]
          refine wpAnyH_take (i := 6) (oi := ⟨some 53, _, _, _, _, _⟩) (v := ?_) rfl (by kernel_rfl) (by kernel_rfl) (by kernel_rfl) (fun _ _ _ h => h) (Or.inl ⟨by rfl, ?_⟩) (by assumption) ?_
          rotate_left
          · intro w hSw; (try dsimp only at hSw); go_simp; try with_reducible rfl
          simp only [Act.put, List.setIfInBounds_toArray, List.set_cons_zero, List.set_cons_succ]
          refine wpAnyH_ready (rs := [7]) (by kernel_rfl) (by simp) ?_
          refine AllReadyH.cons (o := ⟨some 54, _, _, _, _, _⟩) rfl (fun Kq hKq => ?_) AllReadyH.nil
          go_simp
          go_at_call 37
          refine (s32members _ need many _ _ msg _ k _ S HA.out hl).mono ?_
          rintro e w3 ⟨bm, cm, rfl, hrow, hg⟩
          clear k0 k1 k2 k3 k4 k5
          replace G := Lib.hid (gtr G.out hg)
          replace K := Lib.hid (K.out.kept hg)
          replace HG := Lib.hid (HG.out.kept hg)
          replace HC := Lib.hid (HC.out.kept hg)
          replace HA := Lib.hid (HA.out.kept hg)
          clear hg
          obtain ⟨_, k0, k1, k2, k3, k4, k5⟩ := K.out
          have M := Lib.hid hrow.ints
          clear hrow
          refine hKq.out _ _ (⟨K.out.c0, K.out.c1, K.out.c2, K.out.c3, K.out.c4, K.out.c5⟩) (fun hHeld => ?_)
          clear hKq Kq
          refine wpAnyH_ready (rs := [8]) (by kernel_rfl) (by simp) ?_
          refine AllReadyH.cons (o := ⟨some 55, _, _, _, _, _⟩) rfl (fun Kq hKq => ?_) AllReadyH.nil
          go_simp
          go_at_call 36
          refine (s31crew _ need many _ _ _ k _ (mS S) M.out hl).mono ?_
          rintro e w4 ⟨rfl, hg⟩
          rw [h2]
          clear k0 k1 k2 k3 k4 k5
          replace G := Lib.hid (gtr G.out hg)
          replace K := Lib.hid (K.out.kept hg)
          replace HG := Lib.hid (HG.out.kept hg)
          replace HC := Lib.hid (HC.out.kept hg)
          replace HA := Lib.hid (HA.out.kept hg)
          replace M := Lib.hid (M.out.kept hg)
          clear hg
          obtain ⟨_, k0, k1, k2, k3, k4, k5⟩ := K.out
          refine hKq.out _ _ (⟨K.out.c0, K.out.c1, K.out.c2, K.out.c3, K.out.c4, K.out.c5⟩) (fun hHeld => ?_)
          clear hKq Kq
          refine wpAnyH_take (i := 9) (oi := ⟨some 56, _, _, _, _, _⟩) (v := ?_) rfl (by kernel_rfl) (by kernel_rfl) (by kernel_rfl) (fun _ _ _ h => h) (Or.inl ⟨by rfl, ?_⟩) (by assumption) ?_
          rotate_left
          · intro w hSw; (try dsimp only at hSw); go_simp; try with_reducible rfl
          simp only [Act.put, List.setIfInBounds_toArray, List.set_cons_zero, List.set_cons_succ]
          refine wpAnyH_take (i := 10) (oi := ⟨some 57, _, _, _, _, _⟩) (v := ?_) rfl (by kernel_rfl) (by kernel_rfl) (by kernel_rfl) (fun _ _ _ h => h) (Or.inl ⟨by rfl, ?_⟩) (by assumption) ?_
          rotate_left
          · intro w hSw; (try dsimp only at hSw); go_simp; try with_reducible rfl
          simp only [Act.put, List.setIfInBounds_toArray, List.set_cons_zero, List.set_cons_succ]
          refine wpAnyH_take (i := 11) (oi := ⟨some 58, _, _, _, _, _⟩) (v := undef) rfl (by kernel_rfl) (by kernel_rfl) (by kernel_rfl) (fun _ _ _ h => h) (Or.inr ⟨by rfl, rfl⟩) (by assumption) ?_
          simp only [Act.put, List.setIfInBounds_toArray, List.set_cons_zero, List.set_cons_succ]
          refine wpAnyH_take (i := 12) (oi := ⟨some 59, _, _, _, _, _⟩) (v := undef) rfl (by kernel_rfl) (by kernel_rfl) (by kernel_rfl) (fun _ _ _ h => h) (Or.inr ⟨by rfl, rfl⟩) (by assumption) ?_
          simp only [Act.put, List.setIfInBounds_toArray, List.set_cons_zero, List.set_cons_succ]
          refine wpAnyH_take (i := 13) (oi := ⟨some 60, _, _, _, _, _⟩) (v := undef) rfl (by kernel_rfl) (by kernel_rfl) (by kernel_rfl) (fun _ _ _ h => h) (Or.inr ⟨by rfl, rfl⟩) (by assumption) ?_
          simp only [Act.put, List.setIfInBounds_toArray, List.set_cons_zero, List.set_cons_succ]
          refine wpAnyH_take (i := 14) (oi := ⟨some 61, _, _, _, _, _⟩) (v := ?_) rfl (by kernel_rfl) (by kernel_rfl) (by kernel_rfl) (fun _ _ _ h => h) (Or.inl ⟨by rfl, ?_⟩) (by assumption) ?_
          rotate_left
          · intro w hSw; (try dsimp only at hSw); go_simp; try with_reducible rfl
          simp only [Act.put, List.setIfInBounds_toArray, List.set_cons_zero, List.set_cons_succ]
          refine wpAnyH_take (i := 15) (oi := ⟨some 2, _, _, _, _, _⟩) (v := ?_) rfl (by kernel_rfl) (by kernel_rfl) (by kernel_rfl) (fun _ _ _ h => h) (Or.inl ⟨by rfl, ?_⟩) (by assumption) ?_
          rotate_left
          · intro w hSw; (try dsimp only at hSw); go_simp; try with_reducible rfl
          simp only [Act.put, List.setIfInBounds_toArray, List.set_cons_zero, List.set_cons_succ]
          refine wpAnyH_done (by kernel_rfl) ?_ _
          go_wp2
          go_ret
          exact ⟨ret_b HR.out.symm, G.out⟩
        | true =>
          have hq : ∃ q, mok msg = q ∧ tsF need many ng zg nc zc msg k S = q := by
            cases h3 : mok msg with
            | false => exact ⟨false, rfl, so_not (by simp [h3])⟩
            | true => exact ⟨true, rfl, so_iff.2 ⟨HZ.out, h1, h2, h3⟩⟩
          obtain ⟨q, h3, hq⟩ := hq
          have HR := Lib.hid hq
          clear hq
          have hm := Lib.hid (show ∀ W : World, Calls Tryz.prog 38 #[.int .i64 msg, .int .i64 0, .int .i64 99] W fun e w' => e = .returned (.bool q) ∧ W = w' from fun W => by cases q; exact smsg_no W msg h3; exact smsg_yes W msg h3)
          go_wp2_with fail
          refine wp_region_held_drew (S := (fun w' => w'.cell? ⟨w.heap.size, 0, none⟩ = some (.int .i64 need) ∧ w'.cell? ⟨w.heap.size, 1, none⟩ = some (.int .i64 many) ∧ w'.cell? ⟨w.heap.size, 2, none⟩ = some (.slice ag ng cg) ∧ w'.cell? ⟨w.heap.size, 3, none⟩ = some (.slice ac nc cc) ∧ w'.cell? ⟨w.heap.size, 4, none⟩ = some (.int .i64 msg) ∧ w'.cell? ⟨w.heap.size, 5, none⟩ = some (.slice a k cap))) (by kernel_rfl) (⟨K.out.c0, K.out.c1, K.out.c2, K.out.c3, K.out.c4, K.out.c5⟩) (fun hHeld => ?_)
          have hg := Draw.gdrew (w.alloc (.cells #[.int .i64 need, .int .i64 many, .slice ag ng cg, .slice ac nc cc, .int .i64 msg, .slice a k cap] 30))
          clear k0 k1 k2 k3 k4 k5
          replace G := Lib.hid (gtr G.out hg)
          replace K := Lib.hid (K.out.kept hg)
          replace HG := Lib.hid (HG.out.kept hg)
          replace HC := Lib.hid (HC.out.kept hg)
          replace HA := Lib.hid (HA.out.kept hg)
          clear hg
          obtain ⟨_, k0, k1, k2, k3, k4, k5⟩ := K.out
          generalize ((w.alloc (.cells #[.int .i64 need, .int .i64 many, .slice ag ng cg, .slice ac nc cc, .int .i64 msg, .slice a k cap] 30))).drew = W at *
          refine wpAnyH_take (i := 0) (oi := ⟨some 47, _, _, _, _, _⟩) (v := ?_) rfl (by kernel_rfl) (by kernel_rfl) (by kernel_rfl) (fun _ _ _ h => h) (Or.inl ⟨by rfl, ?_⟩) (by assumption) ?_
          rotate_left
          · intro w hSw; (try dsimp only at hSw); go_simp; try with_reducible rfl
          simp only [Act.put, List.setIfInBounds_toArray, List.set_cons_zero, List.set_cons_succ]
          refine wpAnyH_take (i := 1) (oi := ⟨some 48, _, _, _, _, _⟩) (v := ?_) rfl (by kernel_rfl) (by kernel_rfl) (by kernel_rfl) (fun _ _ _ h => h) (Or.inl ⟨by rfl, ?_⟩) (by assumption) ?_
          rotate_left
          · intro w hSw; (try dsimp only at hSw); go_simp; try with_reducible rfl
          simp only [Act.put, List.setIfInBounds_toArray, List.set_cons_zero, List.set_cons_succ]
          refine wpAnyH_ready (rs := [2]) (by kernel_rfl) (by simp) ?_
          refine AllReadyH.cons (o := ⟨some 49, _, _, _, _, _⟩) rfl (fun Kq hKq => ?_) AllReadyH.nil
          go_simp
          go_at_call 35
          refine (skeyok _ need many _ ng _ zg _ nc _ zc HG.out HC.out hl1 hl2).mono ?_
          rintro e w2 ⟨rfl, hg⟩
          rw [h1]
          clear k0 k1 k2 k3 k4 k5
          replace G := Lib.hid (gtr G.out hg)
          replace K := Lib.hid (K.out.kept hg)
          replace HG := Lib.hid (HG.out.kept hg)
          replace HC := Lib.hid (HC.out.kept hg)
          replace HA := Lib.hid (HA.out.kept hg)
          clear hg
          obtain ⟨_, k0, k1, k2, k3, k4, k5⟩ := K.out
          refine hKq.out _ _ (⟨K.out.c0, K.out.c1, K.out.c2, K.out.c3, K.out.c4, K.out.c5⟩) (fun hHeld => ?_)
          clear hKq Kq
          refine wpAnyH_take (i := 3) (oi := ⟨some 50, _, _, _, _, _⟩) (v := ?_) rfl (by kernel_rfl) (by kernel_rfl) (by kernel_rfl) (fun _ _ _ h => h) (Or.inl ⟨by rfl, ?_⟩) (by assumption) ?_
          rotate_left
          · intro w hSw; (try dsimp only at hSw); go_simp; try with_reducible rfl
          simp only [Act.put, List.setIfInBounds_toArray, List.set_cons_zero, List.set_cons_succ]
          refine wpAnyH_take (i := 4) (oi := ⟨some 51, _, _, _, _, _⟩) (v := ?_) rfl (by kernel_rfl) (by kernel_rfl) (by kernel_rfl) (fun _ _ _ h => h) (Or.inl ⟨by rfl, ?_⟩) (by assumption) ?_
          rotate_left
          · intro w hSw; (try dsimp only at hSw); go_simp; try with_reducible rfl
          simp only [Act.put, List.setIfInBounds_toArray, List.set_cons_zero, List.set_cons_succ]
          refine wpAnyH_take (i := 5) (oi := ⟨some 52, _, _, _, _, _⟩) (v := ?_) rfl (by kernel_rfl) (by kernel_rfl) (by kernel_rfl) (fun _ _ _ h => h) (Or.inl ⟨by rfl, ?_⟩) (by assumption) ?_
          rotate_left
          · intro w hSw; (try dsimp only at hSw); go_simp; try with_reducible rfl
          simp only [Act.put, List.setIfInBounds_toArray, List.set_cons_zero, List.set_cons_succ]
          refine wpAnyH_take (i := 6) (oi := ⟨some 53, _, _, _, _, _⟩) (v := ?_) rfl (by kernel_rfl) (by kernel_rfl) (by kernel_rfl) (fun _ _ _ h => h) (Or.inl ⟨by rfl, ?_⟩) (by assumption) ?_
          rotate_left
          · intro w hSw; (try dsimp only at hSw); go_simp; try with_reducible rfl
          simp only [Act.put, List.setIfInBounds_toArray, List.set_cons_zero, List.set_cons_succ]
          refine wpAnyH_ready (rs := [7]) (by kernel_rfl) (by simp) ?_
          refine AllReadyH.cons (o := ⟨some 54, _, _, _, _, _⟩) rfl (fun Kq hKq => ?_) AllReadyH.nil
          go_simp
          go_at_call 37
          refine (s32members _ need many _ _ msg _ k _ S HA.out hl).mono ?_
          rintro e w3 ⟨bm, cm, rfl, hrow, hg⟩
          clear k0 k1 k2 k3 k4 k5
          replace G := Lib.hid (gtr G.out hg)
          replace K := Lib.hid (K.out.kept hg)
          replace HG := Lib.hid (HG.out.kept hg)
          replace HC := Lib.hid (HC.out.kept hg)
          replace HA := Lib.hid (HA.out.kept hg)
          clear hg
          obtain ⟨_, k0, k1, k2, k3, k4, k5⟩ := K.out
          have M := Lib.hid hrow.ints
          clear hrow
          refine hKq.out _ _ (⟨K.out.c0, K.out.c1, K.out.c2, K.out.c3, K.out.c4, K.out.c5⟩) (fun hHeld => ?_)
          clear hKq Kq
          refine wpAnyH_ready (rs := [8]) (by kernel_rfl) (by simp) ?_
          refine AllReadyH.cons (o := ⟨some 55, _, _, _, _, _⟩) rfl (fun Kq hKq => ?_) AllReadyH.nil
          go_simp
          go_at_call 36
          refine (s31crew _ need many _ _ _ k _ (mS S) M.out hl).mono ?_
          rintro e w4 ⟨rfl, hg⟩
          rw [h2]
          clear k0 k1 k2 k3 k4 k5
          replace G := Lib.hid (gtr G.out hg)
          replace K := Lib.hid (K.out.kept hg)
          replace HG := Lib.hid (HG.out.kept hg)
          replace HC := Lib.hid (HC.out.kept hg)
          replace HA := Lib.hid (HA.out.kept hg)
          replace M := Lib.hid (M.out.kept hg)
          clear hg
          obtain ⟨_, k0, k1, k2, k3, k4, k5⟩ := K.out
          refine hKq.out _ _ (⟨K.out.c0, K.out.c1, K.out.c2, K.out.c3, K.out.c4, K.out.c5⟩) (fun hHeld => ?_)
          clear hKq Kq
          refine wpAnyH_take (i := 9) (oi := ⟨some 56, _, _, _, _, _⟩) (v := ?_) rfl (by kernel_rfl) (by kernel_rfl) (by kernel_rfl) (fun _ _ _ h => h) (Or.inl ⟨by rfl, ?_⟩) (by assumption) ?_
          rotate_left
          · intro w hSw; (try dsimp only at hSw); go_simp; try with_reducible rfl
          simp only [Act.put, List.setIfInBounds_toArray, List.set_cons_zero, List.set_cons_succ]
          refine wpAnyH_take (i := 10) (oi := ⟨some 57, _, _, _, _, _⟩) (v := ?_) rfl (by kernel_rfl) (by kernel_rfl) (by kernel_rfl) (fun _ _ _ h => h) (Or.inl ⟨by rfl, ?_⟩) (by assumption) ?_
          rotate_left
          · intro w hSw; (try dsimp only at hSw); go_simp; try with_reducible rfl
          simp only [Act.put, List.setIfInBounds_toArray, List.set_cons_zero, List.set_cons_succ]
          refine wpAnyH_take (i := 11) (oi := ⟨some 58, _, _, _, _, _⟩) (v := ?_) rfl (by kernel_rfl) (by kernel_rfl) (by kernel_rfl) (fun _ _ _ h => h) (Or.inl ⟨by rfl, ?_⟩) (by assumption) ?_
          rotate_left
          · intro w hSw; (try dsimp only at hSw); go_simp; try with_reducible rfl
          simp only [Act.put, List.setIfInBounds_toArray, List.set_cons_zero, List.set_cons_succ]
          refine wpAnyH_take (i := 12) (oi := ⟨some 59, _, _, _, _, _⟩) (v := ?_) rfl (by kernel_rfl) (by kernel_rfl) (by kernel_rfl) (fun _ _ _ h => h) (Or.inl ⟨by rfl, ?_⟩) (by assumption) ?_
          rotate_left
          · intro w hSw; (try dsimp only at hSw); go_simp; try with_reducible rfl
          simp only [Act.put, List.setIfInBounds_toArray, List.set_cons_zero, List.set_cons_succ]
          refine wpAnyH_ready (rs := [13]) (by kernel_rfl) (by simp) ?_
          refine AllReadyH.cons (o := ⟨some 60, _, _, _, _, _⟩) rfl (fun Kq hKq => ?_) AllReadyH.nil
          go_simp
          go_at_call 38
          refine (hm.out _).mono ?_
          rintro e w5 ⟨rfl, rfl⟩
          refine hKq.out _ _ (⟨K.out.c0, K.out.c1, K.out.c2, K.out.c3, K.out.c4, K.out.c5⟩) (fun hHeld => ?_)
          clear hKq Kq
          refine wpAnyH_take (i := 14) (oi := ⟨some 61, _, _, _, _, _⟩) (v := ?_) rfl (by kernel_rfl) (by kernel_rfl) (by kernel_rfl) (fun _ _ _ h => h) (Or.inl ⟨by rfl, ?_⟩) (by assumption) ?_
          rotate_left
          · intro w hSw; (try dsimp only at hSw); go_simp; try with_reducible rfl
          simp only [Act.put, List.setIfInBounds_toArray, List.set_cons_zero, List.set_cons_succ]
          refine wpAnyH_take (i := 15) (oi := ⟨some 2, _, _, _, _, _⟩) (v := ?_) rfl (by kernel_rfl) (by kernel_rfl) (by kernel_rfl) (fun _ _ _ h => h) (Or.inl ⟨by rfl, ?_⟩) (by assumption) ?_
          rotate_left
          · intro w hSw; (try dsimp only at hSw); go_simp; try with_reducible rfl
          simp only [Act.put, List.setIfInBounds_toArray, List.set_cons_zero, List.set_cons_succ]
          refine wpAnyH_done (by kernel_rfl) ?_ _
          go_wp2
          go_ret
          exact ⟨ret_b HR.out.symm, G.out⟩
def srF (need many : Int) (ng : Nat) (zg : Nat → Int) (nc : Nat) (zc : Nat → Int) (msg : Int) (n : Nat) (S : Nat → SV) : Int := if tsF need many ng zg nc zc msg n S then rP S n else 0
theorem so_R {need many : Int} {ng : Nat} {zg : Nat → Int} {nc : Nat} {zc : Nat → Int} {msg : Int} {n : Nat} {S : Nat → SV} (h : tsF need many ng zg nc zc msg n S = true) : ∀ j, j < n → gok (S j).R = true := fun j hj => (soE_iff.1 (soA_iff.1 (so_iff.1 h).1 j hj)).1
end Con
end Go.Proofs.YthbigmcklacbnaaGreatDoor
