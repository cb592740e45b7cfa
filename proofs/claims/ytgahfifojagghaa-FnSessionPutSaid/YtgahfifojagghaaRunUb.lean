/-
  The walk of the law on what a part put in does.
-/
import Derived.Test.YtgahfifojagghaaUg
import Derived.Test.YtgahfifojagghaaTl
import Derived.Test.YtgahfifojagghaaUs
import Derived.Deep.RegionHeld3
namespace Go.Proofs.Ytgahfifojagghaa
namespace Con
open Go.RowKit Alg Mem Draw Hd
set_option linter.unusedVariables false

theorem lpin (w : World) (a : Option Addr) (len cap : Nat) (z : Nat → Int) (n : Int) (hI : Ints w a len z) (hl : len ≤ 2000000) :
    Calls Try.prog 21 #[.slice a len cap, .int .i64 n] w fun e w' => e = .returned (.bool (hasz z n len)) ∧ w = w' := by
  go_enter Try.func21, Try.ntmps21
  go_wp2
  go_loop [5] (fun i => ∃ k : Nat, k ≤ len ∧ i = .int .i64 k ∧ hasz z n k = false) (fun i => len - (intOf i).toNat)
  case atStart => exact ⟨0, by omega, rfl, rfl⟩
  case round =>
    obtain ⟨k, hk, rfl, hz⟩ := hrel
    have HZ := Lib.hid hz; clear hz
    by_cases hlt : k < len
    · rcases hI with h | ⟨b, off, rfl, hb, hc⟩
      · omega
      have hcx := hc k hlt
      clear hc
      by_cases he : z k = n
      · have HR := Lib.hid (hasz_yes hlt he)
        have ht : (z k == n) = true := by simpa using he
        clear he
        go_wp2
        go_ret
        exact ⟨Mem.ret_b HR.out.symm, rfl⟩
      · have HR := Lib.hid (hasz_next HZ.out he)
        have ht : (z k == n) = false := by simpa using he
        clear he
        go_wp2
        go_round
        case rel => exact ⟨k + 1, by omega, by go_num, HR.out⟩
        case measure => simp [intOf]; omega
    · obtain rfl : k = len := by omega
      clear hI
      go_wp2
      go_ret
      exact ⟨Mem.ret_b HZ.out.symm, rfl⟩
theorem pt_at {need many : Int} {ng : Nat} {zg : Nat → Int} {nc : Nat} {zc : Nat → Int} {msg : Int} {n : Nat} {S : Nat → SV} {m z : Int} {k : Nat} (h : tsF need many ng zg nc zc msg n S = true) (hm : hasz (mS S) m n = true) (hk : k < n) (he : (S k).m = m) : ptS S m n z k = ⟨(S k).m, (S k).R, true, z⟩ := by
  have hp := ts_pos h hk
  rw [he] at hp
  rw [ptS_yes hm, hp, put_at]
theorem pt_else {S : Nat → SV} {m z : Int} {k n : Nat} (hm : hasz (mS S) m n = true) (he : ¬ (S k).m = m) : ptS S m n z k = S k := by
  have hp := pos_lt hm
  rw [ptS_yes hm, put_ne (fun e => he (by rw [e]; exact hp.2))]
end Con
namespace Run
open Go.RowKit Alg Mem Con Mp Hd Draw
set_option linter.unusedVariables false

set_option maxRecDepth 100000 in
set_option maxHeartbeats 8000000 in
theorem FnSessionPut (a : Option Addr) (len cap : Nat) (w : World) (hB : Draw.Bytes w w.heap.size a len) (hc : len ≤ cap) (hm : cap ≤ maxLen) :
    Calls Try.prog 4 #[.slice a len cap] w (Yes w) := by
  by_cases hbig : 1048576 < len
  · have hbig' : (1048576 : Int) < (len : Int) := by omega
    clear hB
    go_enter Try.func4, Try.ntmps4
    go_wp2
    go_ret
    exact ⟨rfl, Below.refl _ _⟩
  have hbig' : ¬ (1048576 : Int) < (len : Int) := by omega
  go_enter Try.func4, Try.ntmps4
  go_wp2_with fail
  refine (Draw.drawSesPut _ a len cap hB hc hm).mono ?_
  rintro e w1 ⟨need, many, ag, ng, cg, zg, ac, nc, cc, zc, msg, a3, n, c3, S, m, z, rfl, hq1, hq2, hq3, ⟨hb1, hb2, hb3⟩, hg⟩
  have G := Lib.hid hg; have I1 := Lib.hid hq1.ints; have I2 := Lib.hid hq2.ints; have A3 := Lib.hid (sh_own hq3)
  have HS1 := Lib.hid (ints_sl (c := cg) hq1.ints); have HS2 := Lib.hid (ints_sl (c := cc) hq2.ints); have HS3 := Lib.hid (sh_sl (c := c3) (sh_own hq3))
  clear hg hq1 hq2 hq3 hB
  have hg := Draw.grown_alloc w1 (.cells #[.int .i64 need, .int .i64 many, .slice ag ng cg, .slice ac nc cc, .int .i64 msg, .slice a3 n c3] 28) none
  have B := Lib.hid (Ss.of_blk (Blk.new w1 #[.int .i64 need, .int .i64 many, .slice ag ng cg, .slice ac nc cc, .int .i64 msg, .slice a3 n c3] 28))
  replace G := Lib.hid (gtr G.out hg)
  replace I1 := Lib.hid (I1.out.kept hg)
  replace I2 := Lib.hid (I2.out.kept hg)
  replace A3 := Lib.hid (A3.out.kept hg)
  clear hg
  obtain ⟨_, k0, k1, k2, k3, k4, k5⟩ := B.out
  have hl1 : ng ≤ 2000000 := by omega
  have hl2 : nc ≤ 2000000 := by omega
  have hl3 : n ≤ 2000000 := by omega
  go_wp2_with fail
  refine (s32put _ need many _ ng _ zg _ nc _ zc msg _ n _ S m z I1.out I2.out A3.out HS1.out HS2.out HS3.out hl1 hl2 hl3).mono ?_
  rintro e w2 hsp
  clear k0 k1 k2 k3 k4 k5
  by_cases hok : tsF need many ng zg nc zc msg n S = true ∧ fok z = true
  · obtain ⟨hts, hfz⟩ := hok
    have HTS := Lib.hid hts; have HFZ := Lib.hid hfz
    obtain ⟨x1, d1, x2, d2, x3, d3, rfl, hi1, hi2, hO3, hg⟩ := sesP_get hts hfz hsp
    have X1 := Lib.hid hi1.ints; have X2 := Lib.hid hi2.ints; have X3 := Lib.hid (sh_own hO3)
    clear hsp hi1 hi2 hO3 hts hfz
    replace G := Lib.hid (gtr G.out hg)
    replace I1 := Lib.hid (I1.out.kept hg)
    replace I2 := Lib.hid (I2.out.kept hg)
    replace A3 := Lib.hid (A3.out.kept hg)
    replace B := Lib.hid (B.out.kept hg)
    clear hg
    have hg := Draw.grown_alloc w2 (.cells #[.int .i64 need, .int .i64 many, .slice (some ⟨x1, 0, none⟩) ng d1, .slice (some ⟨x2, 0, none⟩) nc d2, .int .i64 msg, .slice x3 n d3] 28) none
    have X := Lib.hid (Ss.of_blk (Blk.new w2 #[.int .i64 need, .int .i64 many, .slice (some ⟨x1, 0, none⟩) ng d1, .slice (some ⟨x2, 0, none⟩) nc d2, .int .i64 msg, .slice x3 n d3] 28))
    replace G := Lib.hid (gtr G.out hg)
    replace I1 := Lib.hid (I1.out.kept hg)
    replace I2 := Lib.hid (I2.out.kept hg)
    replace A3 := Lib.hid (A3.out.kept hg)
    replace B := Lib.hid (B.out.kept hg)
    replace X1 := Lib.hid (X1.out.kept hg)
    replace X2 := Lib.hid (X2.out.kept hg)
    replace X3 := Lib.hid (X3.out.kept hg)
    clear hg
    obtain ⟨_, k0, k1, k2, k3, k4, k5⟩ := B.out
    go_wp2_with fail
    refine (i32put _ need many _ ng _ zg _ nc _ zc msg _ n _ S m z I1.out I2.out A3.out HS1.out HS2.out HS3.out hl1 hl2 hl3).mono ?_
    rintro e w3 hsq
    clear k0 k1 k2 k3 k4 k5
    obtain ⟨y1, e1, y2, e2, y3, e3, rfl, hi1, hi2, hO3, hap, hg⟩ := sesPQ_get HTS.out HFZ.out hsq
    have Y1 := Lib.hid hi1.ints; have Y2 := Lib.hid hi2.ints; have Y3 := Lib.hid (sh_own hO3)
    clear hsq hi1 hi2 hO3 hap HS1 HS2 HS3
    replace G := Lib.hid (gtr G.out hg)
    replace I1 := Lib.hid (I1.out.kept hg)
    replace I2 := Lib.hid (I2.out.kept hg)
    replace A3 := Lib.hid (A3.out.kept hg)
    replace B := Lib.hid (B.out.kept hg)
    replace X1 := Lib.hid (X1.out.kept hg)
    replace X2 := Lib.hid (X2.out.kept hg)
    replace X3 := Lib.hid (X3.out.kept hg)
    replace X := Lib.hid (X.out.kept hg)
    clear hg
    have hg := Draw.grown_alloc w3 (.cells #[.int .i64 need, .int .i64 many, .slice y1 ng e1, .slice y2 nc e2, .int .i64 msg, .slice y3 n e3] 28) none
    have Y := Lib.hid (Ss.of_blk (Blk.new w3 #[.int .i64 need, .int .i64 many, .slice y1 ng e1, .slice y2 nc e2, .int .i64 msg, .slice y3 n e3] 28))
    replace G := Lib.hid (gtr G.out hg)
    replace I1 := Lib.hid (I1.out.kept hg)
    replace I2 := Lib.hid (I2.out.kept hg)
    replace A3 := Lib.hid (A3.out.kept hg)
    replace B := Lib.hid (B.out.kept hg)
    replace X1 := Lib.hid (X1.out.kept hg)
    replace X2 := Lib.hid (X2.out.kept hg)
    replace X3 := Lib.hid (X3.out.kept hg)
    replace X := Lib.hid (X.out.kept hg)
    replace Y1 := Lib.hid (Y1.out.kept hg)
    replace Y2 := Lib.hid (Y2.out.kept hg)
    replace Y3 := Lib.hid (Y3.out.kept hg)
    clear hg
    obtain ⟨_, k0, k1, k2, k3, k4, k5⟩ := B.out
    obtain ⟨_, x'0, x'1, x'2, x'3, x'4, x'5⟩ := X.out
    obtain ⟨_, y'0, y'1, y'2, y'3, y'4, y'5⟩ := Y.out
    go_wp2_with fail
    refine (lpses _ need many y1 y2 (some ⟨x1, 0, none⟩) (some ⟨x2, 0, none⟩) ng e1 d1 zg nc e2 d2 zc msg y3 x3 n e3 d3 (ptS S m n z) Y1.out Y2.out X1.out X2.out Y3.out X3.out hl1 hl2 hl3).mono ?_
    rintro e w4 ⟨rfl, hg⟩
    clear k0 k1 k2 k3 k4 k5
    clear x'0 x'1 x'2 x'3 x'4 x'5
    clear y'0 y'1 y'2 y'3 y'4 y'5
    replace G := Lib.hid (gtr G.out hg)
    replace I1 := Lib.hid (I1.out.kept hg)
    replace I2 := Lib.hid (I2.out.kept hg)
    replace A3 := Lib.hid (A3.out.kept hg)
    replace B := Lib.hid (B.out.kept hg)
    replace X1 := Lib.hid (X1.out.kept hg)
    replace X2 := Lib.hid (X2.out.kept hg)
    replace X3 := Lib.hid (X3.out.kept hg)
    replace X := Lib.hid (X.out.kept hg)
    replace Y1 := Lib.hid (Y1.out.kept hg)
    replace Y2 := Lib.hid (Y2.out.kept hg)
    replace Y3 := Lib.hid (Y3.out.kept hg)
    replace Y := Lib.hid (Y.out.kept hg)
    clear hg
    obtain ⟨_, k0, k1, k2, k3, k4, k5⟩ := B.out
    obtain ⟨_, x'0, x'1, x'2, x'3, x'4, x'5⟩ := X.out
    obtain ⟨_, y'0, y'1, y'2, y'3, y'4, y'5⟩ := Y.out
    go_wp2_with fail
    refine (s32ok _ need many _ ng _ zg _ nc _ zc msg _ n _ S I1.out I2.out A3.out hl1 hl2 hl3).mono ?_
    rintro e w5 ⟨rfl, hg⟩
    rw [HTS.out]
    clear k0 k1 k2 k3 k4 k5
    clear x'0 x'1 x'2 x'3 x'4 x'5
    clear y'0 y'1 y'2 y'3 y'4 y'5
    replace G := Lib.hid (gtr G.out hg)
    replace I1 := Lib.hid (I1.out.kept hg)
    replace I2 := Lib.hid (I2.out.kept hg)
    replace A3 := Lib.hid (A3.out.kept hg)
    replace B := Lib.hid (B.out.kept hg)
    replace X1 := Lib.hid (X1.out.kept hg)
    replace X2 := Lib.hid (X2.out.kept hg)
    replace X3 := Lib.hid (X3.out.kept hg)
    replace X := Lib.hid (X.out.kept hg)
    replace Y1 := Lib.hid (Y1.out.kept hg)
    replace Y2 := Lib.hid (Y2.out.kept hg)
    replace Y3 := Lib.hid (Y3.out.kept hg)
    replace Y := Lib.hid (Y.out.kept hg)
    clear hg
    obtain ⟨_, k0, k1, k2, k3, k4, k5⟩ := B.out
    obtain ⟨_, x'0, x'1, x'2, x'3, x'4, x'5⟩ := X.out
    obtain ⟨_, y'0, y'1, y'2, y'3, y'4, y'5⟩ := Y.out
    go_wp2_with fail
    refine (sok_yes z _ HFZ.out).mono ?_
    rintro e w' ⟨rfl, rfl⟩
    cases hh : hasz (mS S) m n with
    | false =>
      have HP := Lib.hid (ptS_no (z := z) hh)
      have HH := Lib.hid hh; clear hh
      go_wp2_with fail
      refine (lpof _ need many _ _ msg a3 n c3 S A3.out hl3).mono ?_
      rintro e w6 ⟨bl, cl, rfl, hr, hg⟩
      have L := Lib.hid hr.ints
      clear hr
      clear k0 k1 k2 k3 k4 k5
      clear x'0 x'1 x'2 x'3 x'4 x'5
      clear y'0 y'1 y'2 y'3 y'4 y'5
      replace G := Lib.hid (gtr G.out hg)
      replace I1 := Lib.hid (I1.out.kept hg)
      replace I2 := Lib.hid (I2.out.kept hg)
      replace A3 := Lib.hid (A3.out.kept hg)
      replace B := Lib.hid (B.out.kept hg)
      replace X1 := Lib.hid (X1.out.kept hg)
      replace X2 := Lib.hid (X2.out.kept hg)
      replace X3 := Lib.hid (X3.out.kept hg)
      replace X := Lib.hid (X.out.kept hg)
      replace Y1 := Lib.hid (Y1.out.kept hg)
      replace Y2 := Lib.hid (Y2.out.kept hg)
      replace Y3 := Lib.hid (Y3.out.kept hg)
      replace Y := Lib.hid (Y.out.kept hg)
      clear hg
      obtain ⟨_, k0, k1, k2, k3, k4, k5⟩ := B.out
      obtain ⟨_, y'0, y'1, y'2, y'3, y'4, y'5⟩ := Y.out
      go_wp2_with fail
      refine (lpin _ (some ⟨bl, 0, none⟩) n cl (mS S) m L.out hl3).mono ?_
      rintro e w' ⟨rfl, rfl⟩
      rw [HH.out]
      go_wp2_with fail
      refine (lpses _ need many y1 y2 ag ac ng e1 cg zg nc e2 cc zc msg y3 a3 n e3 c3 S Y1.out Y2.out I1.out I2.out (by have h9 := Y3.out; rwa [HP.out] at h9) A3.out hl1 hl2 hl3).mono ?_
      rintro e w7 ⟨rfl, hg⟩
      have GE := Lib.hid (gtr G.out hg)
      clear hg
      go_wp2
      go_ret
      exact ⟨rfl, Draw.below_of GE.out⟩
    | true =>
      have HH := Lib.hid hh; clear hh
      clear k0 k1 k2 k3 k4 k5
      clear x'0 x'1 x'2 x'3 x'4 x'5
      clear y'0 y'1 y'2 y'3 y'4 y'5
      have hy5 : w3.heap.size < w5.heap.size := Y.out.lt
      have C0 := Lib.hid (Draw.grown_refl w5 none)
      obtain ⟨_, k0', k1', k2', k3', k4', k5'⟩ := B.out
      obtain ⟨_, y0', y1', y2', y3', y4', y5'⟩ := Y.out
      go_wp2
      clear k0' k1' k2' k3' k4' k5' y0' y1' y2' y3' y4' y5'
      go_loopw [10] (fun i W => ∃ k : Nat, k ≤ n ∧ i = .int .i64 k ∧ w5.grownBy W none) (fun i _ => n - (intOf i).toNat)
      case atStart => exact ⟨0, by omega, rfl, C0.out⟩
      case round =>
        clear C0
        obtain ⟨k, hk, rfl, hg⟩ := hrel
        obtain ⟨W1, hW⟩ : ∃ W, W = wr := ⟨_, rfl⟩; subst hW
        have C := Lib.hid hg
        clear hg
        have hw5 := C.out.size
        obtain ⟨_, k0, k1, k2, k3, k4, k5⟩ := B.out.kept C.out
        obtain ⟨_, y0', y1', y2', y3', y4', y5'⟩ := Y.out.kept C.out
        by_cases hlt : k < n
        · obtain ⟨b, off, rfl, hb, hcc⟩ := (A3.out.kept C.out).ptr (by omega)
          obtain ⟨x0, x1', x2', x3'⟩ := hcc k hlt
          clear hcc
          go_wp2_with (refine stop_store rfl ?_)
          refine ⟨trivial, ?_⟩
          refine wpList_store_blk rfl 33 (.tmp 11) (.tmp 85) _ #[.int .i64 (S k).m, .int .i64 (S k).R, .bool (S k).on, .int .i64 (S k).Z] _ 33 (Blk.new W1 #[.int .i64 0, .int .i64 0, .bool false, .int .i64 0] 33) rfl rfl rfl rfl (by kernel_rfl) (by simp [Value.oneCell']) rfl ?_
          intro W2 hgV hTV
          have C2 := Lib.hid (gtr C.out (grown_new (grown_alloc W1 (.cells #[.int .i64 0, .int .i64 0, .bool false, .int .i64 0] 33) none) (Nat.le_refl _) hgV))
          have P := Lib.hid hTV
          clear hgV hTV x0 x1' x2' x3' k0 k1 k2 k3 k4 k5 y0' y1' y2' y3' y4' y5' C hb
          generalize W1.heap.size = pb at *
          have p0 : W2.cell? ⟨pb, 0, none⟩ = some (.int .i64 (S k).m) := P.out.cell 0
          have p2 : W2.cell? ⟨pb, 2, none⟩ = some (.bool (S k).on) := P.out.cell 2
          have p3 : W2.cell? ⟨pb, 3, none⟩ = some (.int .i64 (S k).Z) := P.out.cell 3
          have f2 : W2.frozen? ⟨pb, 2, none⟩ = false := P.out.free 2
          have f3 : W2.frozen? ⟨pb, 3, none⟩ = false := P.out.free 3
          by_cases he : (S k).m = m
          · have hem : ((S k).m == m) = true := by simpa using he
            have HPT := Lib.hid (pt_at (z := z) HTS.out HH.out hlt he)
            clear he
            go_wp2_with fail
            have C3 := Lib.hid (grown_new C2.out hw5 (gtr' (grown_set W2 pb 2 (.bool true)) (grown_set _ pb 3 (.int .i64 z))))
            have P3 := Lib.hid ((P.out.set 2 (.bool true)).set 3 (.int .i64 z))
            clear p0 p2 p3 f2 f3
            generalize (W2.setCell ⟨pb, 2, none⟩ (.bool true)).setCell ⟨pb, 3, none⟩ (.int .i64 z) = W3 at *
            obtain ⟨yb3, yo, rfl, hyb, hyc⟩ := (Y3.out.kept C3.out).ptr (by omega)
            obtain ⟨q0, q1, q2, q3⟩ := hyc k hlt
            obtain ⟨_, _, _, _, _, _, y5'⟩ := Y.out.kept C3.out
            rw [HPT.out] at q0 q1 q2 q3
            have p0 : W3.cell? ⟨pb, 0, none⟩ = _ := P3.out.cell 0
            have p1 : W3.cell? ⟨pb, 1, none⟩ = _ := P3.out.cell 1
            have p2 : W3.cell? ⟨pb, 2, none⟩ = _ := P3.out.cell 2
            have p3 : W3.cell? ⟨pb, 3, none⟩ = _ := P3.out.cell 3
            clear hyc
            go_region_held3 (fun w' => w'.cell? ⟨w3.heap.size, 5, none⟩ = some (.slice (some ⟨yb3, yo, none⟩) n e3) ∧ w'.cell? ⟨yb3, yo + k * 4, none⟩ = some (.int .i64 (S k).m) ∧ w'.cell? ⟨yb3, yo + k * 4 + 1, none⟩ = some (.int .i64 (S k).R) ∧ w'.cell? ⟨yb3, yo + k * 4 + 2, none⟩ = some (.bool true) ∧ w'.cell? ⟨yb3, yo + k * 4 + 3, none⟩ = some (.int .i64 z) ∧ w'.cell? ⟨pb, 0, none⟩ = some (.int .i64 (S k).m) ∧ w'.cell? ⟨pb, 1, none⟩ = some (.int .i64 (S k).R) ∧ w'.cell? ⟨pb, 2, none⟩ = some (.bool true) ∧ w'.cell? ⟨pb, 3, none⟩ = some (.int .i64 z)) (exact ⟨y5', q0, q1, q2, q3, p0, p1, p2, p3⟩) (fail)
            all_goals
              go_wp2
              go_roundw
              case rel => exact ⟨k + 1, by omega, by go_num, ⟨C3.out.os, C3.out.tape, C3.out.output, C3.out.size, C3.out.block⟩⟩
              case measure => simp [intOf]; omega
          · have hem : ((S k).m == m) = false := by simpa using he
            have HPT := Lib.hid (pt_else (z := z) HH.out he)
            clear he
            go_wp2_with fail
            have C3 := C2
            have P3 := P
            clear p0 p2 p3 f2 f3
            obtain ⟨W3, hW⟩ : ∃ W, W = W2 := ⟨_, rfl⟩; subst hW
            obtain ⟨yb3, yo, rfl, hyb, hyc⟩ := (Y3.out.kept C3.out).ptr (by omega)
            obtain ⟨q0, q1, q2, q3⟩ := hyc k hlt
            obtain ⟨_, _, _, _, _, _, y5'⟩ := Y.out.kept C3.out
            rw [HPT.out] at q0 q1 q2 q3
            have p0 : W3.cell? ⟨pb, 0, none⟩ = _ := P3.out.cell 0
            have p1 : W3.cell? ⟨pb, 1, none⟩ = _ := P3.out.cell 1
            have p2 : W3.cell? ⟨pb, 2, none⟩ = _ := P3.out.cell 2
            have p3 : W3.cell? ⟨pb, 3, none⟩ = _ := P3.out.cell 3
            clear hyc
            go_region_held3 (fun w' => w'.cell? ⟨w3.heap.size, 5, none⟩ = some (.slice (some ⟨yb3, yo, none⟩) n e3) ∧ w'.cell? ⟨yb3, yo + k * 4, none⟩ = some (.int .i64 (S k).m) ∧ w'.cell? ⟨yb3, yo + k * 4 + 1, none⟩ = some (.int .i64 (S k).R) ∧ w'.cell? ⟨yb3, yo + k * 4 + 2, none⟩ = some (.bool (S k).on) ∧ w'.cell? ⟨yb3, yo + k * 4 + 3, none⟩ = some (.int .i64 (S k).Z) ∧ w'.cell? ⟨pb, 0, none⟩ = some (.int .i64 (S k).m) ∧ w'.cell? ⟨pb, 1, none⟩ = some (.int .i64 (S k).R) ∧ w'.cell? ⟨pb, 2, none⟩ = some (.bool (S k).on) ∧ w'.cell? ⟨pb, 3, none⟩ = some (.int .i64 (S k).Z)) (exact ⟨y5', q0, q1, q2, q3, p0, p1, p2, p3⟩) (fail)
            all_goals
              go_wp2
              go_roundw
              case rel => exact ⟨k + 1, by omega, by go_num, ⟨C3.out.os, C3.out.tape, C3.out.output, C3.out.size, C3.out.block⟩⟩
              case measure => simp [intOf]; omega
        · obtain rfl : k = n := by omega
          go_wp2_with fail
          clear k0 k1 k2 k3 k4 k5 y0' y1' y2' y3' y4' y5'
          refine (i32ok _ need many _ ng _ zg _ nc _ zc msg _ k _ (ptS S m k z) (Y1.out.kept C.out) (Y2.out.kept C.out) (Y3.out.kept C.out) hl1 hl2 hl3).mono ?_
          rintro e W2 ⟨rfl, hg⟩
          rw [ts_pt HTS.out HFZ.out]
          have C2 := Lib.hid (gtr C.out hg)
          clear hg
          obtain ⟨_, k0, k1, k2, k3, k4, k5⟩ := B.out.kept C2.out
          go_wp2_with fail
          clear k0 k1 k2 k3 k4 k5
          refine (lpof _ need many _ _ msg a3 k c3 S (A3.out.kept C2.out) hl3).mono ?_
          rintro e W3 ⟨bl, cl, rfl, hr, hg⟩
          have L := Lib.hid hr.ints
          have GE := Lib.hid (gtr G.out (gtr C2.out hg))
          clear hr hg
          go_wp2_with fail
          refine (lpin _ (some ⟨bl, 0, none⟩) k cl (mS S) m L.out hl3).mono ?_
          rintro e w' ⟨rfl, rfl⟩
          rw [HH.out]
          go_wp2
          go_ret
          exact ⟨rfl, Draw.below_of GE.out⟩
  · obtain ⟨rfl, hg⟩ := sesP_none hok hsp
    clear hsp
    have HOK := Lib.hid hok; clear hok
    replace G := Lib.hid (gtr G.out hg)
    replace I1 := Lib.hid (I1.out.kept hg)
    replace I2 := Lib.hid (I2.out.kept hg)
    replace A3 := Lib.hid (A3.out.kept hg)
    replace B := Lib.hid (B.out.kept hg)
    clear hg
    have hg := Draw.grown_alloc w2 (.cells #[.int .i64 0, .int .i64 0, .slice none 0 0, .slice none 0 0, .int .i64 0, .slice none 0 0] 28) none
    have X := Lib.hid (Ss.of_blk (Blk.new w2 #[.int .i64 0, .int .i64 0, .slice none 0 0, .slice none 0 0, .int .i64 0, .slice none 0 0] 28))
    replace G := Lib.hid (gtr G.out hg)
    replace I1 := Lib.hid (I1.out.kept hg)
    replace I2 := Lib.hid (I2.out.kept hg)
    replace A3 := Lib.hid (A3.out.kept hg)
    replace B := Lib.hid (B.out.kept hg)
    clear hg
    obtain ⟨_, k0, k1, k2, k3, k4, k5⟩ := B.out
    go_wp2_with fail
    refine (i32put _ need many _ ng _ zg _ nc _ zc msg _ n _ S m z I1.out I2.out A3.out HS1.out HS2.out HS3.out hl1 hl2 hl3).mono ?_
    rintro e w3 hsq
    clear k0 k1 k2 k3 k4 k5
    obtain ⟨rfl, hg⟩ := sesPQ_none HOK.out hsq
    clear hsq
    replace G := Lib.hid (gtr G.out hg)
    replace I1 := Lib.hid (I1.out.kept hg)
    replace I2 := Lib.hid (I2.out.kept hg)
    replace A3 := Lib.hid (A3.out.kept hg)
    replace B := Lib.hid (B.out.kept hg)
    replace X := Lib.hid (X.out.kept hg)
    clear hg
    have hg := Draw.grown_alloc w3 (.cells #[.int .i64 0, .int .i64 0, .slice none 0 0, .slice none 0 0, .int .i64 0, .slice none 0 0] 28) none
    have Y := Lib.hid (Ss.of_blk (Blk.new w3 #[.int .i64 0, .int .i64 0, .slice none 0 0, .slice none 0 0, .int .i64 0, .slice none 0 0] 28))
    replace G := Lib.hid (gtr G.out hg)
    replace I1 := Lib.hid (I1.out.kept hg)
    replace I2 := Lib.hid (I2.out.kept hg)
    replace A3 := Lib.hid (A3.out.kept hg)
    replace B := Lib.hid (B.out.kept hg)
    replace X := Lib.hid (X.out.kept hg)
    clear hg
    obtain ⟨_, k0, k1, k2, k3, k4, k5⟩ := B.out
    obtain ⟨_, x'0, x'1, x'2, x'3, x'4, x'5⟩ := X.out
    obtain ⟨_, y'0, y'1, y'2, y'3, y'4, y'5⟩ := Y.out
    go_wp2_with fail
    clear k0 k1 k2 k3 k4 k5
    clear x'0 x'1 x'2 x'3 x'4 x'5
    clear y'0 y'1 y'2 y'3 y'4 y'5
    refine (lpses _ 0 0 none none none none 0 0 0 (fun _ => 0) 0 0 0 (fun _ => 0) 0 none none 0 0 0 S (.inl rfl) (.inl rfl) (.inl rfl) (.inl rfl) (.inl rfl) (.inl rfl) (by omega) (by omega) (by omega)).mono ?_
    rintro e V ⟨rfl, hg⟩
    replace G := Lib.hid (gtr G.out hg)
    replace I1 := Lib.hid (I1.out.kept hg)
    replace I2 := Lib.hid (I2.out.kept hg)
    replace A3 := Lib.hid (A3.out.kept hg)
    replace B := Lib.hid (B.out.kept hg)
    replace X := Lib.hid (X.out.kept hg)
    replace Y := Lib.hid (Y.out.kept hg)
    clear hg
    obtain ⟨_, k0, k1, k2, k3, k4, k5⟩ := B.out
    obtain ⟨_, x'0, x'1, x'2, x'3, x'4, x'5⟩ := X.out
    obtain ⟨_, y'0, y'1, y'2, y'3, y'4, y'5⟩ := Y.out
    go_wp2_with fail
    refine (s32ok _ need many _ ng _ zg _ nc _ zc msg _ n _ S I1.out I2.out A3.out hl1 hl2 hl3).mono ?_
    rintro e w5 ⟨rfl, hg⟩
    clear k0 k1 k2 k3 k4 k5
    clear x'0 x'1 x'2 x'3 x'4 x'5
    clear y'0 y'1 y'2 y'3 y'4 y'5
    replace G := Lib.hid (gtr G.out hg)
    replace I1 := Lib.hid (I1.out.kept hg)
    replace I2 := Lib.hid (I2.out.kept hg)
    replace A3 := Lib.hid (A3.out.kept hg)
    replace B := Lib.hid (B.out.kept hg)
    replace X := Lib.hid (X.out.kept hg)
    replace Y := Lib.hid (Y.out.kept hg)
    clear hg
    obtain ⟨_, x'0, x'1, x'2, x'3, x'4, x'5⟩ := X.out
    obtain ⟨_, y'0, y'1, y'2, y'3, y'4, y'5⟩ := Y.out
    cases h1 : tsF need many ng zg nc zc msg n S with
    | false =>
      clear h1
      go_wp2_with fail
      clear x'0 x'1 x'2 x'3 x'4 x'5
      clear y'0 y'1 y'2 y'3 y'4 y'5
      refine (lpses _ 0 0 none none none none 0 0 0 (fun _ => 0) 0 0 0 (fun _ => 0) 0 none none 0 0 0 S (.inl rfl) (.inl rfl) (.inl rfl) (.inl rfl) (.inl rfl) (.inl rfl) (by omega) (by omega) (by omega)).mono ?_
      rintro e V ⟨rfl, hg⟩
      replace G := Lib.hid (gtr G.out hg)
      replace I1 := Lib.hid (I1.out.kept hg)
      replace I2 := Lib.hid (I2.out.kept hg)
      replace A3 := Lib.hid (A3.out.kept hg)
      replace B := Lib.hid (B.out.kept hg)
      replace X := Lib.hid (X.out.kept hg)
      replace Y := Lib.hid (Y.out.kept hg)
      clear hg
      go_wp2
      go_ret
      exact ⟨rfl, Draw.below_of G.out⟩
    | true =>
      have hfz : fok z = false := by
        cases h2 : fok z with
        | false => rfl
        | true => exact absurd ⟨h1, h2⟩ HOK.out
      clear h1
      go_wp2_with fail
      refine (sok_no z _ hfz).mono ?_
      rintro e w' ⟨rfl, rfl⟩
      go_wp2_with fail
      clear x'0 x'1 x'2 x'3 x'4 x'5
      clear y'0 y'1 y'2 y'3 y'4 y'5
      refine (lpses _ 0 0 none none none none 0 0 0 (fun _ => 0) 0 0 0 (fun _ => 0) 0 none none 0 0 0 S (.inl rfl) (.inl rfl) (.inl rfl) (.inl rfl) (.inl rfl) (.inl rfl) (by omega) (by omega) (by omega)).mono ?_
      rintro e V ⟨rfl, hg⟩
      replace G := Lib.hid (gtr G.out hg)
      replace I1 := Lib.hid (I1.out.kept hg)
      replace I2 := Lib.hid (I2.out.kept hg)
      replace A3 := Lib.hid (A3.out.kept hg)
      replace B := Lib.hid (B.out.kept hg)
      replace X := Lib.hid (X.out.kept hg)
      replace Y := Lib.hid (Y.out.kept hg)
      clear hg
      go_wp2
      go_ret
      exact ⟨rfl, Draw.below_of G.out⟩
end Run
end Go.Proofs.Ytgahfifojagghaa
