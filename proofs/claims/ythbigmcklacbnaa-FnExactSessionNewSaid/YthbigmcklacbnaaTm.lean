/-
  A session of a function's own, marked, and the mark held.
-/
import Derived.Test.YthbigmcklacbnaaTk
import Derived.Test.YthbigmcklacbnaaTj
namespace Go.Proofs.Ythbigmcklacbnaa
namespace Con
open Go.RowKit Alg Mem Draw Hd
set_option linter.unusedVariables false

theorem OI.row {w : World} {lo b n c : Nat} {z : Nat → Int} (h : OI w lo b n c z) : Row w lo 3 b n c z := by
  have hc := fun j hj => World.ownsRow.cellAt h j hj
  rcases h.2 with ⟨hv, _⟩ | ⟨g, cap, cur, hv, hlo, hg, hnc, hm, hcs, ht⟩
  · cases hv
  injection hv with e1 _ e2
  injection e1 with e1
  injection e1 with e1 _
  subst e1; subst e2
  refine ⟨hlo, ⟨fun i => cur[i]?.getD default, ⟨cur, hg, by omega, fun i hi => ?_⟩, fun j hj => ?_⟩, hnc, hm⟩
  · have : i < cur.size := by omega
    simp [this]
  · have h1 := hc j (by omega)
    rw [vals_get z hj] at h1
    simp only [World.cell?, hg] at h1
    have h2 : cur[j]? = some (.int .i64 (z j)) := h1
    show cur[j]?.getD default = _
    rw [h2]; rfl
theorem OwnSh.row4 {w : World} {lo b n c : Nat} {S : Nat → SV} (h : OwnSh w lo (.slice (some ⟨b, 0, none⟩) n c) n S) : n ≤ c ∧ ∃ g, Row4 w lo 105 b c g := by
  rcases h.2 with ⟨hv, _⟩ | ⟨g, cap, cur, hv, hlo, hg, hnc, hm, hcs, ht⟩
  · cases hv
  injection hv with e1 _ e2
  injection e1 with e1
  injection e1 with e1 _
  subst e1; subst e2
  refine ⟨hnc, fun j i => cur[j * 4 + i]?.getD default, hlo, ⟨cur, hg, by omega, fun i hi => ?_⟩⟩
  have : i < cur.size := by omega
  show cur[i]? = some (cur[i / 4 * 4 + i % 4]?.getD default)
  rw [show i / 4 * 4 + i % 4 = i by omega]
  simp [this]
/-- Such marked, in a row that may be longer. -/
theorem markshnsN (w : World) (lo b n N : Nat) (g : Nat → Nat → Value) (m : Nat) (h : Row4 w lo 105 b N g) (hN : n ≤ N) (hl : n ≤ 2000000) (hm : m ≤ 6000000) :
    Calls Try.prog 86 #[.slice (some ⟨b, 0, none⟩) n N, .int .i64 m] w fun e w' => e = .returned (.int .i64 ((m + 4 * n : Nat) : Int)) ∧ Row4 w' lo 105 b N (fun j => if j < n then mkT m j else g j) ∧ w.grownBy w' (some b) := by
  have H0 := Lib.hid h; clear h
  go_enter Try.func86, Try.ntmps86
  go_wp2
  go_loopw [1, 5] (fun q i W => ∃ k : Nat, k ≤ n ∧ i = .int .i64 k ∧ q = .int .i64 ((m + 4 * k : Nat) : Int) ∧ Row4 W lo 105 b N (fun j => if j < k then mkT m j else g j) ∧ w.grownBy W (some b)) (fun _ i _ => n - (intOf i).toNat)
  case atStart => exact ⟨0, by omega, rfl, rfl, H0.out.congr fun j i _ _ => by simp, Draw.grown_refl _ _⟩
  case round =>
    obtain ⟨k, hk, rfl, rfl, hr, hg⟩ := hrel
    have HR := Lib.hid hr; have HG := Lib.hid hg; clear hr hg
    by_cases hlt : k < n
    · have hlt' : (k : Int) < (n : Int) := by omega
      have hltN : k < N := by omega
      have d0 := HR.out.c hltN (by omega : 0 < 4)
      have d1 := HR.out.c hltN (by omega : 1 < 4)
      have d2 := HR.out.c hltN (by omega : 2 < 4)
      have d3 := HR.out.c hltN (by omega : 3 < 4)
      rw [Nat.add_zero] at d0
      have f0 := HR.out.free (k * 4)
      have f1 := HR.out.free (k * 4 + 1)
      have f2 := HR.out.free (k * 4 + 2)
      have f3 := HR.out.free (k * 4 + 3)
      have e0 : mkT m k 0 = .int .i64 ((m : Int) + 4 * (k : Int)) := by unfold mkT; rw [if_neg (by decide)]; congr 1 <;> omega
      have e1 : mkT m k 1 = .int .i64 ((m : Int) + 4 * (k : Int) + 1) := by unfold mkT; rw [if_neg (by decide)]; congr 1 <;> omega
      have e2 : mkT m k 2 = .bool (((m : Int) + 4 * (k : Int) + 1 + 1) % 3 == 0) := by unfold mkT; rw [if_pos rfl, show ((m + 4 * k + 2 : Nat) : Int) = (m : Int) + 4 * (k : Int) + 1 + 1 by omega]
      have e3 : mkT m k 3 = .int .i64 ((m : Int) + 4 * (k : Int) + 1 + 1 + 1) := by unfold mkT; rw [if_neg (by decide)]; congr 1 <;> omega
      have hs := (HR.out.set k (mkT m k)).congr (g' := fun j => if j < k + 1 then mkT m j else g j) fun j i hj hi => by
        show (if j = k then mkT m k else if j < k then mkT m j else g j) i = (if j < k + 1 then mkT m j else g j) i
        by_cases e : j = k
        · subst e; rw [if_pos rfl, if_pos (by omega)]
        · by_cases h : j < k
          · rw [if_neg e, if_pos h, if_pos (by omega)]
          · rw [if_neg e, if_neg h, if_neg (by omega)]
      have hg := gtr' HG.out (set4_grown wr b k (mkT m k))
      unfold set4 at hs hg
      rw [e0, e1, e2, e3] at hs hg
      have HR2 := Lib.hid hs; have HG2 := Lib.hid hg
      clear hs hg e0 e1 e2 e3
      go_wp2
      go_roundw
      case rel => exact ⟨k + 1, by omega, by go_num, by go_num, HR2.out, HG2.out⟩
      case measure => simp [intOf]; omega
    · obtain rfl : k = n := by omega
      go_wp2
      go_ret
      exact ⟨rfl, HR.out, HG.out⟩
/-- What signers showed, as the mark leaves it. -/
def mkS (m j : Nat) : SV := ⟨((m + 4 * j : Nat) : Int), ((m + 4 * j + 1 : Nat) : Int), ((m + 4 * j + 2 : Nat) : Int) % 3 == 0, ((m + 4 * j + 3 : Nat) : Int)⟩
theorem sh_marked {w : World} {lo b n N : Nat} {g : Nat → Nat → Value} {m : Nat} (h : Row4 w lo 105 b N (fun j => if j < n then mkT m j else g j)) (hN : n ≤ N) : ShIn w (some ⟨b, 0, none⟩) n (mkS m) := by
  refine .inr ⟨b, 0, rfl, h.lt, fun j hj => ?_⟩
  rw [Nat.zero_add]
  have c := fun i (hi : i < 4) => h.c (i := i) (show j < N by omega) hi
  simp only [if_pos hj] at c
  exact ⟨c 0 (by omega), c 1 (by omega), c 2 (by omega), c 3 (by omega)⟩
set_option maxHeartbeats 1000000 in
/-- A key of a function's own, marked. -/
theorem markkeyO (w : World) (need many : Int) (lo b1 b2 n1 n2 c1 c2 : Nat) (z1 z2 : Nat → Int) (m : Nat) (hb : b1 ≠ b2) (h1 : Row w lo 3 b1 n1 c1 z1) (h2 : Row w lo 3 b2 n2 c2 z2) (hl1 : n1 ≤ 2000000) (hl2 : n2 ≤ 2000000) (hm : m ≤ 1000000) :
    Calls Try.prog 50 #[.agg #[.int .i64 need, .int .i64 many, .slice (some ⟨b1, 0, none⟩) n1 c1, .slice (some ⟨b2, 0, none⟩) n2 c2], .int .i64 m] w fun e w' => e = .returned (.int .i64 ((m + n1 + n2 : Nat) : Int)) ∧ Row w' lo 3 b1 n1 c1 (fun j => ((m + j : Nat) : Int)) ∧ Row w' lo 3 b2 n2 c2 (fun j => ((m + n1 + j : Nat) : Int)) ∧ ∃ wm, w.grownBy wm (some b1) ∧ wm.grownBy w' (some b2) := by
  have H0 := Lib.hid (Draw.grown_alloc w (.cells #[.int .i64 need, .int .i64 many, .slice (some ⟨b1, 0, none⟩) n1 c1, .slice (some ⟨b2, 0, none⟩) n2 c2] 63) none)
  have HD := Lib.hid (Blk.new w #[.int .i64 need, .int .i64 many, .slice (some ⟨b1, 0, none⟩) n1 c1, .slice (some ⟨b2, 0, none⟩) n2 c2] 63)
  have hb1 := h1.lt; have hb2 := h2.lt
  have H1 := Lib.hid (h1.keptN H0.out); have H2 := Lib.hid (h2.keptN H0.out)
  clear h1 h2
  go_enter Try.func50, Try.ntmps50
  go_wp2_with fail
  refine (mark_row _ _ _ n1 _ z1 m H1.out (by omega) (by omega)).mono ?_
  rintro e w1 ⟨rfl, hg, hr⟩
  have HG1 := Lib.hid hg; have HR1 := Lib.hid hr; clear hg hr
  obtain ⟨_, k0, k1, k2, k3⟩ := blk_key (HD.out.kept HG1.out (by intro e; have e := Option.some.inj e; omega))
  go_wp2_with fail
  refine (mark_row _ _ _ n2 _ z2 (m + n1) (H2.out.kept HG1.out (by intro e; have e := Option.some.inj e; omega)) (by omega) (by omega)).mono ?_
  rintro e w2 ⟨rfl, hg, hr⟩
  have HG2 := Lib.hid hg; have HR2 := Lib.hid hr; clear hg hr
  go_wp2
  go_ret
  exact ⟨rfl, HR1.out.kept HG2.out (by intro e; have e := Option.some.inj e; omega), HR2.out, w1, gtr' (Draw.grown_alloc w _ _) HG1.out, HG2.out⟩
set_option maxHeartbeats 1000000 in
/-- A session of a function's own, marked. -/
theorem marksesO (w : World) (need many : Int) (lo b1 b2 b3 n1 n2 n c1 c2 N : Nat) (z1 z2 : Nat → Int) (msg : Int) (g : Nat → Nat → Value) (m : Nat) (hb : b1 ≠ b2) (hb1 : b1 ≠ b3) (hb2 : b2 ≠ b3) (h1 : Row w lo 3 b1 n1 c1 z1) (h2 : Row w lo 3 b2 n2 c2 z2) (h3 : Row4 w lo 105 b3 N g) (hN : n ≤ N) (hl1 : n1 ≤ 2000000) (hl2 : n2 ≤ 2000000) (hl : n ≤ 2000000) (hm : m ≤ 1000000) :
    Calls Try.prog 52 #[.agg #[.int .i64 need, .int .i64 many, .slice (some ⟨b1, 0, none⟩) n1 c1, .slice (some ⟨b2, 0, none⟩) n2 c2, .int .i64 msg, .slice (some ⟨b3, 0, none⟩) n N], .int .i64 m] w fun e w' => e = .returned (.int .i64 ((m + n1 + n2 + 4 * n : Nat) : Int)) ∧ Row w' lo 3 b1 n1 c1 (fun j => ((m + j : Nat) : Int)) ∧ Row w' lo 3 b2 n2 c2 (fun j => ((m + n1 + j : Nat) : Int)) ∧ ShIn w' (some ⟨b3, 0, none⟩) n (mkS (m + n1 + n2)) ∧ ∃ wa wb, w.grownBy wa (some b1) ∧ wa.grownBy wb (some b2) ∧ wb.grownBy w' (some b3) := by
  have G := Lib.hid (Draw.grown_alloc w (.cells #[.int .i64 need, .int .i64 many, .slice (some ⟨b1, 0, none⟩) n1 c1, .slice (some ⟨b2, 0, none⟩) n2 c2, .int .i64 msg, .slice (some ⟨b3, 0, none⟩) n N] 66) none)
  have K := Lib.hid (Ss.of_blk (Blk.new w #[.int .i64 need, .int .i64 many, .slice (some ⟨b1, 0, none⟩) n1 c1, .slice (some ⟨b2, 0, none⟩) n2 c2, .int .i64 msg, .slice (some ⟨b3, 0, none⟩) n N] 66))
  have hl1' := h1.lt; have hl2' := h2.lt; have hl3' := h3.lt
  have H1 := Lib.hid (h1.keptN G.out); have H2 := Lib.hid (h2.keptN G.out); have H3 := Lib.hid (h3.keptN G.out)
  clear h1 h2 h3
  go_enter Try.func52, Try.ntmps52
  obtain ⟨_, k0, k1, k2, k3, k4, k5⟩ := K.out
  go_wp2_with fail
  refine (markkeyO _ need many lo b1 b2 n1 n2 c1 c2 z1 z2 m hb H1.out H2.out hl1 hl2 hm).mono ?_
  rintro e w2 ⟨rfl, hr1, hr2, wm, hg1, hg2⟩
  have HK := Lib.hid ((K.out.keptB (hg1.block _ K.out.lt (by intro e; have e := Option.some.inj e; omega)) hg1.size).keptB (hg2.block _ (Nat.lt_of_lt_of_le K.out.lt hg1.size) (by intro e; have e := Option.some.inj e; omega)) hg2.size)
  have HR := Lib.hid ((H3.out.kept hg1 (by intro e; have e := Option.some.inj e; omega)).kept hg2 (by intro e; have e := Option.some.inj e; omega))
  have HW := Lib.hid (And.intro hg1 hg2); have HR1 := Lib.hid hr1; have HR2 := Lib.hid hr2
  clear hg1 hg2 hr1 hr2 k0 k1 k2 k3 k4 k5
  obtain ⟨_, k0, k1, k2, k3, k4, k5⟩ := HK.out
  go_wp2_with fail
  refine (markshnsN _ lo b3 n N g (m + n1 + n2) HR.out hN hl (by omega)).mono ?_
  rintro e w3 ⟨rfl, hr3, hg3⟩
  have HW3 := Lib.hid hg3; have HR3 := Lib.hid hr3
  clear hg3 hr3
  go_wp2
  go_ret
  exact ⟨rfl, HR1.out.kept HW3.out (by intro e; have e := Option.some.inj e; omega), HR2.out.kept HW3.out (by intro e; have e := Option.some.inj e; omega), sh_marked HR3.out hN, wm, w2, gtr' (Draw.grown_alloc w _ _) HW.out.1, HW.out.2, HW3.out⟩
/-- Is a key's mark there still? -/
theorem heldkey (w : World) (need many : Int) (a1 a2 : Option Addr) (n1 n2 c1 c2 : Nat) (m : Nat) (h1 : Ints w a1 n1 (fun j => ((m + j : Nat) : Int))) (h2 : Ints w a2 n2 (fun j => ((m + n1 + j : Nat) : Int))) (hl1 : n1 ≤ 2000000) (hl2 : n2 ≤ 2000000) (hm : m ≤ 1000000) :
    Calls Try.prog 87 #[.agg #[.int .i64 need, .int .i64 many, .slice a1 n1 c1, .slice a2 n2 c2], .int .i64 m] w fun e w' => e = .returned (.int .i64 ((m + n1 + n2 : Nat) : Int)) ∧ w.grownBy w' none := by
  have G := Lib.hid (Draw.grown_alloc w (.cells #[.int .i64 need, .int .i64 many, .slice a1 n1 c1, .slice a2 n2 c2] 63) none)
  have K := Lib.hid (Ky.new w need many (.slice a1 n1 c1) (.slice a2 n2 c2) 63)
  have H1 := Lib.hid (h1.kept G.out); have H2 := Lib.hid (h2.kept G.out); clear h1 h2
  go_enter Try.func87, Try.ntmps87
  obtain ⟨_, k0, k1, k2, k3⟩ := K.out
  go_wp2_with fail
  refine (held _ a1 n1 c1 m H1.out hl1 (by omega)).mono ?_
  rintro e w' ⟨rfl, rfl⟩
  have hn : ¬ ((m + n1 : Nat) : Int) < 0 := by omega
  go_wp2_with fail
  refine (held _ a2 n2 c2 (m + n1) H2.out hl2 (by omega)).mono ?_
  rintro e w' ⟨rfl, rfl⟩
  have hn2 : ¬ ((m + n1 + n2 : Nat) : Int) < 0 := by omega
  go_wp2
  go_ret
  exact ⟨rfl, G.out⟩
/-- Is a session's mark there still? -/
theorem heldses (w : World) (need many : Int) (a1 a2 a3 : Option Addr) (n1 n2 n c1 c2 c3 : Nat) (msg : Int) (m : Nat) (h1 : Ints w a1 n1 (fun j => ((m + j : Nat) : Int))) (h2 : Ints w a2 n2 (fun j => ((m + n1 + j : Nat) : Int))) (h3 : ShIn w a3 n (mkS (m + n1 + n2))) (hl1 : n1 ≤ 2000000) (hl2 : n2 ≤ 2000000) (hl : n ≤ 2000000) (hm : m ≤ 1000000) :
    Calls Try.prog 53 #[.agg #[.int .i64 need, .int .i64 many, .slice a1 n1 c1, .slice a2 n2 c2, .int .i64 msg, .slice a3 n c3], .int .i64 m] w fun e w' => e = .returned (.int .i64 ((m + n1 + n2 + 4 * n : Nat) : Int)) ∧ w.grownBy w' none := by
  have G := Lib.hid (Draw.grown_alloc w (.cells #[.int .i64 need, .int .i64 many, .slice a1 n1 c1, .slice a2 n2 c2, .int .i64 msg, .slice a3 n c3] 66) none)
  have K := Lib.hid (Ss.of_blk (Blk.new w #[.int .i64 need, .int .i64 many, .slice a1 n1 c1, .slice a2 n2 c2, .int .i64 msg, .slice a3 n c3] 66))
  have H1 := Lib.hid (h1.kept G.out); have H2 := Lib.hid (h2.kept G.out); have H3 := Lib.hid (h3.kept G.out); clear h1 h2 h3
  go_enter Try.func53, Try.ntmps53
  obtain ⟨_, k0, k1, k2, k3, k4, k5⟩ := K.out
  go_wp2_with fail
  refine (heldkey _ need many a1 a2 n1 n2 c1 c2 m H1.out H2.out hl1 hl2 hm).mono ?_
  rintro e w1 ⟨rfl, hg⟩
  have HG := Lib.hid (gtr G.out hg); have H3' := Lib.hid (H3.out.kept hg); have K' := Lib.hid (K.out.kept hg)
  clear hg k0 k1 k2 k3 k4 k5
  obtain ⟨_, k0, k1, k2, k3, k4, k5⟩ := K'.out
  have hn : ¬ ((m + n1 + n2 : Nat) : Int) < 0 := by omega
  go_wp2_with fail
  refine (heldshns _ a3 n c3 (m + n1 + n2) (mkS (m + n1 + n2)) H3'.out (fun j _ => ⟨rfl, rfl, rfl, rfl⟩) hl (by omega)).mono ?_
  rintro e w' ⟨rfl, rfl⟩
  have hn2 : ¬ ((m + n1 + n2 + 4 * n : Nat) : Int) < 0 := by omega
  go_wp2
  go_ret
  exact ⟨rfl, HG.out⟩
end Con
end Go.Proofs.Ythbigmcklacbnaa
