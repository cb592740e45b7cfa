/-
  The program's factor of a place: the product over the other places, by the inverse of the same at the place itself.
-/
import Derived.Test.YtchgjdbmianajaaPg
namespace Go.Proofs.Ytchgjdbmianajaa
namespace Con
open Go.RowKit Go.Shelf Alg Mem Pol
set_option linter.unusedVariables false
attribute [local go_sem] Oper.semAt_some

/-- What is proved once and used on several ways: no tactic looks into it. -/
structure Later (p : Prop) : Prop where
  out : p
/-- The product when some have come. -/
def np (x : F) (pre : List F) : F := pre.foldl (fun v o => v * (x - o)) 1
theorem np_nil (x : F) : np x [] = 1 := rfl
theorem np_snoc (x : F) (pre : List F) (o : F) : np x (pre ++ [o]) = np x pre * (x - o) := by simp [np, List.foldl_append]
theorem np_prd (x : F) (l : List F) : np x l = prd l x := by
  have h : ∀ (l : List F) (c : F), l.foldl (fun v o => v * (x - o)) c = c * prd l x := by
    intro l
    induction l with
    | nil => intro c; simp only [List.foldl, prd]; grind
    | cons o l ih => intro c; simp only [List.foldl_cons, ih, prd]; grind
  rw [np, h]; grind
theorem np_step (v x o : F) : fi v * ((fi x + 23 - fi o) % 23) % 23 = fi (v * (x - o)) := by
  rw [← fi_mul, ← fi_dif, mulF_in (fi_ok _) (difF_ok _ _), difF_in (fi_ok _) (fi_ok _)]

theorem boxes7 (w : World) (v0 v1 v2 v3 v4 v5 v6 : Value) (t0 t1 t2 t3 t4 t5 t6 : TypeId) (W : World)
    (h : W = ((((((w.alloc (.cells #[v0] t0)).alloc (.cells #[v1] t1)).alloc (.cells #[v2] t2)).alloc (.cells #[v3] t3)).alloc (.cells #[v4] t4)).alloc (.cells #[v5] t5)).alloc (.cells #[v6] t6)) :
    Boxed W w.heap.size t0 v0 ∧ Boxed W (w.heap.size + 1) t1 v1 ∧ Boxed W (w.heap.size + 1 + 1) t2 v2 ∧ Boxed W (w.heap.size + 1 + 1 + 1) t3 v3 ∧ Boxed W (w.heap.size + 1 + 1 + 1 + 1) t4 v4 ∧ Boxed W (w.heap.size + 1 + 1 + 1 + 1 + 1) t5 v5 ∧ Boxed W (w.heap.size + 1 + 1 + 1 + 1 + 1 + 1) t6 v6 ∧
      W.heap.size = w.heap.size + 7 ∧ Below w.heap.size w W := by
  subst h
  refine ⟨((((((Boxed.new w t0 v0).alloc _).alloc _).alloc _).alloc _).alloc _).alloc _, ?_, ?_, ?_, ?_, ?_, ?_, by simp, ?_⟩
  · have := (((((Boxed.new (w.alloc (.cells #[v0] t0)) t1 v1).alloc (.cells #[v2] t2)).alloc (.cells #[v3] t3)).alloc (.cells #[v4] t4)).alloc (.cells #[v5] t5)).alloc (.cells #[v6] t6); simpa using this
  · have := ((((Boxed.new ((w.alloc (.cells #[v0] t0)).alloc (.cells #[v1] t1)) t2 v2).alloc (.cells #[v3] t3)).alloc (.cells #[v4] t4)).alloc (.cells #[v5] t5)).alloc (.cells #[v6] t6); simpa using this
  · have := (((Boxed.new (((w.alloc (.cells #[v0] t0)).alloc (.cells #[v1] t1)).alloc (.cells #[v2] t2)) t3 v3).alloc (.cells #[v4] t4)).alloc (.cells #[v5] t5)).alloc (.cells #[v6] t6); simpa using this
  · have := ((Boxed.new ((((w.alloc (.cells #[v0] t0)).alloc (.cells #[v1] t1)).alloc (.cells #[v2] t2)).alloc (.cells #[v3] t3)) t4 v4).alloc (.cells #[v5] t5)).alloc (.cells #[v6] t6); simpa using this
  · have := (Boxed.new (((((w.alloc (.cells #[v0] t0)).alloc (.cells #[v1] t1)).alloc (.cells #[v2] t2)).alloc (.cells #[v3] t3)).alloc (.cells #[v4] t4)) t5 v5).alloc (.cells #[v6] t6); simpa using this
  · have := Boxed.new ((((((w.alloc (.cells #[v0] t0)).alloc (.cells #[v1] t1)).alloc (.cells #[v2] t2)).alloc (.cells #[v3] t3)).alloc (.cells #[v4] t4)).alloc (.cells #[v5] t5)) t6 v6; simpa using this
  · exact (((((((Below.refl _ w).alloc (Nat.le_refl _) _).alloc (by simp) _).alloc (by simp; omega) _).alloc (by simp; omega) _).alloc (by simp; omega) _).alloc (by simp; omega) _).alloc (by simp; omega) _

/-- What two stores leave, into the two products. -/
theorem two_set (W : World) (s : Nat) (u v : Value) (hu : ∃ u', W.cell? ⟨s + 1 + 1 + 1, 0, none⟩ = some u' ∧ W.frozen? ⟨s + 1 + 1 + 1, 0, none⟩ = false) (hv : ∃ v', W.cell? ⟨s + 1 + 1 + 1 + 1, 0, none⟩ = some v' ∧ W.frozen? ⟨s + 1 + 1 + 1 + 1, 0, none⟩ = false) (W2 : World)
    (h : W2 = ((W.setCell ⟨s + 1 + 1 + 1, 0, none⟩ u).setCell ⟨s + 1 + 1 + 1 + 1, 0, none⟩ v).drew.drew) :
    KeepsOthers W W2 ∧ Kept s (s + 1 + 1 + 1 + 1 + 1) (s + 1 + 1 + 1 + 1 + 1 + 1) W W2 ∧ (W2.cell? ⟨s + 1 + 1 + 1, 0, none⟩ = some u ∧ W2.frozen? ⟨s + 1 + 1 + 1, 0, none⟩ = false) ∧ (W2.cell? ⟨s + 1 + 1 + 1 + 1, 0, none⟩ = some v ∧ W2.frozen? ⟨s + 1 + 1 + 1 + 1, 0, none⟩ = false) ∧
      (∀ k, k ≤ s + 1 + 1 → W2.cell? ⟨k, 0, none⟩ = W.cell? ⟨k, 0, none⟩) ∧ Below s W W2 := by
  subst h
  obtain ⟨u', hu, hfu⟩ := hu
  obtain ⟨v', hv, hfv⟩ := hv
  have hb : Below s W ((W.setCell ⟨s + 1 + 1 + 1, 0, none⟩ u).setCell ⟨s + 1 + 1 + 1 + 1, 0, none⟩ v).drew.drew :=
    ((((Below.refl s W).setCell (p := ⟨s + 1 + 1 + 1, 0, none⟩) (by show s ≤ s + 1 + 1 + 1; omega) u).setCell (p := ⟨s + 1 + 1 + 1 + 1, 0, none⟩) (by show s ≤ s + 1 + 1 + 1 + 1; omega) v).drew).drew
  have hh : ∀ k, k ≠ s + 1 + 1 + 1 → k ≠ s + 1 + 1 + 1 + 1 → ((W.setCell ⟨s + 1 + 1 + 1, 0, none⟩ u).setCell ⟨s + 1 + 1 + 1 + 1, 0, none⟩ v).drew.drew.heap[k]? = W.heap[k]? := fun k h1 h2 =>
    (heap_setCell_other _ _ _ _ (by show k ≠ s + 1 + 1 + 1 + 1; exact h2)).trans (heap_setCell_other W _ _ _ (by show k ≠ s + 1 + 1 + 1; exact h1))
  have e1 : (W.setCell ⟨s + 1 + 1 + 1, 0, none⟩ u).cell? ⟨s + 1 + 1 + 1 + 1, 0, none⟩ = some v' := by
    rw [World.cell?_setCell_other W _ _ u (by intro e; injection e with e1; omega)]; exact hv
  refine ⟨(((KeepsOthers.setCell _ _ _).trans (KeepsOthers.setCell _ _ _)).trans (KeepsOthers.drew _)).trans (KeepsOthers.drew _), ⟨hb, hh _ (by omega) (by omega), hh _ (by omega) (by omega)⟩, ⟨?_, ?_⟩, ⟨?_, ?_⟩, fun k hk => World.cell?_of_block (w := W) (hh k (by omega) (by omega)), hb⟩
  · show ((W.setCell ⟨s + 1 + 1 + 1, 0, none⟩ u).setCell ⟨s + 1 + 1 + 1 + 1, 0, none⟩ v).cell? _ = _
    rw [World.cell?_setCell_other _ _ _ v (by intro e; injection e with e1; omega)]
    exact World.cell?_setCell_same' _ _ _ (by rw [hu]; rfl)
  · show ((W.setCell ⟨s + 1 + 1 + 1, 0, none⟩ u).setCell ⟨s + 1 + 1 + 1 + 1, 0, none⟩ v).frozen? _ = _
    rw [World.frozen?_setCell, World.frozen?_setCell]; exact hfu
  · show ((W.setCell ⟨s + 1 + 1 + 1, 0, none⟩ u).setCell ⟨s + 1 + 1 + 1 + 1, 0, none⟩ v).cell? _ = _
    exact World.cell?_setCell_same' _ _ _ (by rw [e1]; rfl)
  · show ((W.setCell ⟨s + 1 + 1 + 1, 0, none⟩ u).setCell ⟨s + 1 + 1 + 1 + 1, 0, none⟩ v).frozen? _ = _
    rw [World.frozen?_setCell, World.frozen?_setCell]; exact hfv

set_option maxRecDepth 100000 in
set_option maxHeartbeats 4000000 in
theorem lagr (w : World) (a : Option Addr) (len cap i : Nat) (z : Nat → Int) (x : Int) (hI : Ints w a len z) (hl : len ≤ 2000000) (hi : i < len) (hz : ∀ j, j < len → fok (z j) = true) (hx : fok x = true) (hnz : prd ((fl z len).eraseIdx i) (cv (z i)) ≠ 0) :
    Calls Try.prog 35 #[.slice a len cap, .int .i64 (i : Int), .int .i64 x] w fun e w' => e = .returned (.int .i64 (fi (lag (fl z len) i (cv x)))) ∧ w.grownBy w' none := by
  obtain ⟨b, off, rfl, hb, hc⟩ := hI.ptr (by omega)
  have hci := hc i hi
  have HC := Lib.hid hc; have HZ := Lib.hid hz; have HX := Lib.hid hx; have HI := Lib.hid hI; have HN := Lib.hid hnz
  clear hc hz hx hI hnz
  refine (callsIn_wide (n := 6)).1 ?_
  refine callsIn_of_wp_marks Try.func35 rfl trivial ?_ rfl
  simp only [Try.ntmps35, List.size_toArray, List.length_cons, List.length_nil, Nat.reduceAdd, Nat.reduceSub, Array.replicate_succ, Array.replicate_zero, List.push_toArray, List.append_toArray, List.nil_append, List.cons_append]
  gi_wp2_with (refine ⟨trivial, ?_⟩; gi_at_call 51; refine (callsIn_wide.2 (others_any _ _ _ _ _)).mono ?_; rintro e w' ⟨rfl, rfl⟩)
  obtain ⟨W0, hW0⟩ : ∃ W0, W0 = (((((((w.alloc (.cells #[.slice (some ⟨b, off, none⟩) len cap] 54)).alloc (.cells #[.int .i64 (i : Int)] 3)).alloc (.cells #[.int .i64 x] 56)).alloc (.cells #[.int .i64 1] 56)).alloc (.cells #[.int .i64 1] 56)).alloc (.cells #[.slice (some ⟨b, off, none⟩) len cap] 54)).alloc (.cells #[.int .i64 (i : Int)] 3)) := ⟨_, rfl⟩
  rw [← hW0]
  obtain ⟨q0, q1, q2, q3, q4, q5, q6, hs, hB0⟩ := boxes7 _ _ _ _ _ _ _ _ _ _ _ _ _ _ _ _ hW0
  clear hW0
  have HI3 := HI.out.kept (grown_below hB0)
  have hx' := HX.out
  have hzi := HZ.out i hi
  obtain ⟨x0, x1⟩ := fok_iff.1 HX.out
  obtain ⟨i0, i1⟩ := fok_iff.1 (HZ.out i hi)
  refine wpIn_rangeFunc_ownF (F := Fence.wide) rfl (by omega) (gf := 60) (lb := #[.pointer (some ⟨w.heap.size + 1 + 1 + 1 + 1 + 1, 0, none⟩), .pointer (some ⟨w.heap.size + 1 + 1 + 1 + 1 + 1 + 1, 0, none⟩)]) rfl trivial (enters_of Try.func60 (by kernel_rfl) rfl)
    (oth_stops 5 (by omega) (w.heap.size + 1 + 1 + 1 + 1 + 1) (w.heap.size + 1 + 1 + 1 + 1 + 1 + 1) w.heap.size (some ⟨b, off, none⟩) len cap i z (by omega) (fun b' off' e => by cases e; exact hb) HZ.out W0 (by omega) (by omega) q5.cell q6.cell HI3)
    kept_t (kept_b (by omega) (by omega) (by omega)) (Below.refl _ _) (fun _ => rfl)
    (fun pre W => ((W.cell? ⟨w.heap.size + 1 + 1 + 1, 0, none⟩ = some (.int .i64 (fi (np (cv x) pre))) ∧ W.frozen? ⟨w.heap.size + 1 + 1 + 1, 0, none⟩ = false) ∧
      (W.cell? ⟨w.heap.size + 1 + 1 + 1 + 1, 0, none⟩ = some (.int .i64 (fi (np (cv (z i)) pre))) ∧ W.frozen? ⟨w.heap.size + 1 + 1 + 1 + 1, 0, none⟩ = false) ∧
      W.cell? ⟨w.heap.size, 0, none⟩ = some (.slice (some ⟨b, off, none⟩) len cap) ∧ W.cell? ⟨w.heap.size + 1, 0, none⟩ = some (.int .i64 (i : Int)) ∧ W.cell? ⟨w.heap.size + 1 + 1, 0, none⟩ = some (.int .i64 x)) ∧ Below w.heap.size w W)
    (fun _ _ _ => False)
    (OwnFrom.and (Own.from (fun s A B row hs hg hr => ⟨⟨cell_kept hs.1.1 hg hr, (frozen_kept hs.1.1 hg hr).trans hs.1.2⟩, ⟨cell_kept hs.2.1.1 hg hr, (frozen_kept hs.2.1.1 hg hr).trans hs.2.1.2⟩, cell_kept hs.2.2.1 hg hr, cell_kept hs.2.2.2.1 hg hr, cell_kept hs.2.2.2.2 hg hr⟩) _) (ownFrom_below (Nat.le_refl _) (by omega)))
    (fun _ _ _ _ _ hs _ _ => hs)
    ⟨⟨⟨by rw [np_nil, fi_one]; exact q3.cell, q3.frozen⟩, ⟨by rw [np_nil, fi_one]; exact q4.cell, q4.frozen⟩, q0.cell, q1.cell, q2.cell⟩, hB0⟩
    (fun c => { tmps := #[.slice (some ⟨b, off, none⟩) len cap, .int .i64 (i : Int), .int .i64 x, .pointer (some ⟨w.heap.size, 0, none⟩), .pointer (some ⟨w.heap.size + 1, 0, none⟩), .pointer (some ⟨w.heap.size + 1 + 1, 0, none⟩), .int .i64 0, .pointer (some ⟨w.heap.size + 1 + 1 + 1, 0, none⟩), .pointer (some ⟨w.heap.size + 1 + 1 + 1 + 1, 0, none⟩), .int .i64 (fi c), undef, undef, .slice (some ⟨b, off, none⟩) len cap, .int .i64 (i : Int), .func (.func 60) #[] #[.pointer (some ⟨w.heap.size + 1 + 1 + 1 + 1 + 1, 0, none⟩), .pointer (some ⟨w.heap.size + 1 + 1 + 1 + 1 + 1 + 1, 0, none⟩)], .int .i64 (fi c), undef, undef, undef, undef, undef, undef, undef, undef, undef, undef, undef, undef, undef, undef, undef, undef, undef, undef, undef, undef, undef], defers := [] }) ?assign ?body ?done ?stop
  case assign =>
    intro l x W K hK
    gi_wp2
    exact hK
  case body =>
    rintro l pre c W ⟨⟨⟨hv, hvf⟩, ⟨hd, hdf⟩, hs0, hs1, hs2⟩, hB⟩ _
    have hcz : W.cell? ⟨b, off + i, none⟩ = some (.int .i64 (z i)) := (hB.cell (p := ⟨b, off + i, none⟩) hb).trans hci
    obtain ⟨v0, v1⟩ := fi_range (np (cv x) pre)
    obtain ⟨d0, d1⟩ := fi_range (np (cv (z i)) pre)
    obtain ⟨c0, c1⟩ := fi_range c
    have m0 : 0 ≤ (x + 23 - fi c) % 23 := Int.emod_nonneg _ (by decide)
    have m1 : (x + 23 - fi c) % 23 ≤ 22 := by omega
    have k0 : 0 ≤ (z i + 23 - fi c) % 23 := Int.emod_nonneg _ (by decide)
    have k1 : (z i + 23 - fi c) % 23 ≤ 22 := by omega
    have HS1 := Lib.hid (np_step (np (cv x) pre) (cv x) c)
    have HS2 := Lib.hid (np_step (np (cv (z i)) pre) (cv (z i)) c)
    rw [fi_cv hx', ← np_snoc] at HS1
    rw [fi_cv hzi, ← np_snoc] at HS2
    clear q0 q1 q2 q3 q4 q5 q6 hs HI3 hx' hzi hB0 hci
    have hmx : Try.prog.follows .mixedOrders = true := by kernel_rfl
    gi_wp2
    refine' (fun (hk : Later _) => ?main) (Later.mk ?rest)
    case main =>
      gi_region_with_o (first
      | (refine ⟨trivial, ?_⟩; gi_at_call 52; refine (CallsIn.inRound l (callsIn_wide.2 (eminus _ _ _ (by omega) (by omega) c0 c1))).mono ?_; rintro e w' ⟨rfl, rfl⟩)
      | (refine ⟨trivial, ?_⟩; gi_at_call 47; refine (CallsIn.inRound l (callsIn_wide.2 (etimes _ _ _ (by omega) (by omega) (by omega) (by omega)))).mono ?_; rintro e w' ⟨rfl, rfl⟩))
      all_goals gi_wp2
      all_goals exact hk.out
    case rest =>
      have hcz' : ∀ u, (W.setCell ⟨w.heap.size + 1 + 1 + 1, 0, none⟩ u).cell? ⟨b, off + i, none⟩ = some (.int .i64 (z i)) := fun u => by rw [World.cell?_setCell_other W _ _ u (by intro e; injection e with e1; omega)]; exact hcz
      refine' (fun (hk2 : Later _) => ?main2) (Later.mk ?rest2)
      case main2 =>
        gi_region_with_o (first
          | (refine ⟨trivial, ?_⟩; gi_at_call 52; refine (CallsIn.inRound l (callsIn_wide.2 (eminus _ _ _ (by omega) (by omega) c0 c1))).mono ?_; rintro e w' ⟨rfl, rfl⟩)
          | (refine ⟨trivial, ?_⟩; gi_at_call 47; refine (CallsIn.inRound l (callsIn_wide.2 (etimes _ _ _ (by omega) (by omega) (by omega) (by omega)))).mono ?_; rintro e w' ⟨rfl, rfl⟩))
        all_goals gi_wp2
        all_goals exact hk2.out
      case rest2 =>
        obtain ⟨k1, k2, k3, k4, k5, k6⟩ := two_set W w.heap.size (.int .i64 (fi (np (cv x) pre) * ((x + 23 - fi c) % 23) % 23)) (.int .i64 (fi (np (cv (z i)) pre) * ((z i + 23 - fi c) % 23) % 23)) ⟨_, hv, hvf⟩ ⟨_, hd, hdf⟩ _ rfl
        exact ⟨k1, k2, ⟨⟨by rw [← HS1.out]; exact k3.1, k3.2⟩, ⟨by rw [← HS2.out]; exact k4.1, k4.2⟩, (k5 _ (by omega)).trans hs0, (k5 _ (by omega)).trans hs1, (k5 _ (by omega)).trans hs2⟩, hB.trans k6⟩
  case done =>
    rintro D ys W hD rfl ⟨⟨⟨hv, hvf⟩, ⟨hd, hdf⟩, hs0, hs1, hs2⟩, hB⟩ hK
    have HL := Lib.hid (show fi (np (cv x) (oth z i len)) * invF (fi (np (cv (z i)) (oth z i len))) % 23 = fi (lag (fl z len) i (cv x)) by
      rw [np_prd, np_prd, oth_erase z i len hi, fi_inv, ← mulF_in (fi_ok _) (fi_ok _), fi_mul]
      unfold lag; rw [fl_getD z hi])
    have hne : fi (np (cv (z i)) (oth z i len)) ≠ 0 := by
      rw [np_prd, oth_erase z i len hi]; exact fun e => HN.out (fi_eq_zero.1 e)
    obtain ⟨v0, v1⟩ := fi_range (np (cv x) (oth z i len))
    have hdo := fi_ok (np (cv (z i)) (oth z i len))
    have g0 : 0 ≤ invF (fi (np (cv (z i)) (oth z i len))) := (fok_iff.1 (invF_ok _)).1
    have g1 : invF (fi (np (cv (z i)) (oth z i len))) ≤ 22 := by have := (fok_iff.1 (invF_ok (fi (np (cv (z i)) (oth z i len))))).2; omega
    have HSZ := Lib.hid hs; have HNE := Lib.hid hne; have HDO := Lib.hid hdo
    clear hne hdo q0 q1 q2 q3 q4 q5 q6 hs HI3 hx' hzi hB0 hci
    gi_wp2_with (first
      | (refine ⟨trivial, ?_⟩; gi_at_call 53; refine (callsIn_wide.2 (euclid _ _ HDO.out HNE.out)).mono ?_; rintro e w' ⟨rfl, rfl⟩)
      | (refine ⟨trivial, ?_⟩; gi_at_call 47; refine (callsIn_wide.2 (etimes _ _ _ v0 v1 g0 g1)).mono ?_; rintro e w' ⟨rfl, rfl⟩))
    refine ⟨by simp, .inl ⟨_, _, rfl, run_takeDeferred hK, ?_⟩⟩
    refine ⟨_, results_tmp rfl _ _ _, ?_, ?_⟩
    · exact ret_i HL.out
    · exact grown_below (hB.trans (belowK_b (w := w) (Nat.le_refl _) W D _ _ (by have := HSZ.out; omega) hK rfl rfl))
  case stop =>
    rintro D c pre W _ _ h _
    exact h.elim
end Con
end Go.Proofs.Ytchgjdbmianajaa
