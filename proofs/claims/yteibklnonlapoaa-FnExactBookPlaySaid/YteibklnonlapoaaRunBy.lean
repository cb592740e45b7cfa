/-
  The walk of the exact law on letters.
-/
import Derived.Test.YteibklnonlapoaaBx
import Derived.Test.YteibklnonlapoaaRunBa
import Derived.Test.YteibklnonlapoaaMk
import Derived.Test.YteibklnonlapoaaRunEd
namespace Go.Proofs.Yteibklnonlapoaa
namespace Run
open Go.RowKit Alg Mem Con Draw Bk Hd
set_option linter.unusedVariables false

def pO (t : ByteArray) : List Int := if t.size ≤ 60 then (bkAll t).out else []
def pN (t : ByteArray) : Int := if t.size ≤ 60 then (bkAll t).n else 0
def pS (t : ByteArray) : Int := if t.size ≤ 60 then (bkAll t).s else 0
def pB (t : ByteArray) : Bool := decide (t.size ≤ 60)
theorem pO_len (t : ByteArray) : (pO t).length ≤ 60 := by
  unfold pO; split
  · have := len_all t; omega
  · simp
def PlV (w : World) (t : ByteArray) (e : Ending) (w' : World) : Prop :=
  ∃ v, e = .returned (.tuple #[v, .agg #[.int .i64 (pN t), .int .i64 (pS t)], .bool (pB t)]) ∧ Lst w' w.heap.size v (pO t) ∧ w.grownBy w' none
theorem ibplayV (w : World) (t : ByteArray) : Calls Try.prog 33 #[.string t] w (PlV w t) := by
  unfold PlV pN pS pB pO
  by_cases h : t.size ≤ 60
  · rw [if_pos h, if_pos h, if_pos h, decide_eq_true h]; exact ibplay w t h
  · rw [if_neg h, if_neg h, if_neg h, decide_eq_false h]
    refine (ibplay_long w t (by omega)).mono ?_
    rintro e w' ⟨rfl, hg⟩
    exact ⟨_, rfl, .inl ⟨rfl, rfl⟩, hg⟩
theorem sbplayV (w : World) (t : ByteArray) : Calls Try.prog 32 #[.string t] w (PlV w t) := by
  unfold PlV pN pS pB pO
  by_cases h : t.size ≤ 60
  · rw [if_pos h, if_pos h, if_pos h, decide_eq_true h]; exact sbplay w t h
  · rw [if_neg h, if_neg h, if_neg h, decide_eq_false h]; exact sbplay_long w t (by omega)
set_option maxRecDepth 100000 in
set_option maxHeartbeats 8000000 in
theorem FnExactBookPlay (t : ByteArray) (w : World) (hts : (t.size : Int) ≤ 9223372036854775807) : Calls Try.prog 16 #[.string t] w (Yes w) := by
  have G := Lib.hid (Draw.grown_refl w none)
  by_cases hbig : 1048576 < t.size
  · have hbig' : (1048576 : Int) < (t.size : Int) := by omega
    go_enter Try.func16, Try.ntmps16
    go_wp2
    go_ret
    exact ⟨rfl, Draw.below_of G.out⟩
  have hbig' : ¬ (1048576 : Int) < (t.size : Int) := by omega
  have hll := pO_len t
  have hself : (pB t != pB t) = false := by simp
  go_enter Try.func16, Try.ntmps16
  go_wp2_with fail
  refine (sbplayV _ t).mono ?_
  rintro e v1 ⟨vw, rfl, hL, hg⟩
  have R := Lib.hid (LstB.of hL)
  have hw1 : w.heap.size ≤ v1.heap.size := hg.size
  clear hL
  replace G := Lib.hid (gtr G.out hg)
  clear hg
  go_wp2_with (refine stop_store rfl ?_)
  refine ⟨trivial, ?_⟩
  refine wpList_store_blk rfl 24 (.tmp 4) (.tmp 21) _ _ _ 24 (Blk.new v1 #[.int .i64 0, .int .i64 0] 24) rfl rfl rfl rfl (by kernel_rfl) (by simp [Value.oneCell']) rfl ?_
  intro v2 hgV hT
  have hg : (v1).grownBy v2 none := grown_new (Draw.grown_alloc v1 (.cells #[.int .i64 0, .int .i64 0] 24) none) (Nat.le_refl _) hgV
  have M := Lib.hid (Bv.of hT)
  clear hgV hT
  replace G := Lib.hid (gtr G.out hg)
  replace R := Lib.hid (R.out.kept hg)
  clear hg
  have hmb : v1.heap.size < v2.heap.size := M.out.lt
  generalize hbm : v1.heap.size = mb at *
  clear hbm
  go_wp2_with fail
  refine (ibplayV _ t).mono ?_
  rintro e v3 ⟨v, rfl, hL, hg⟩
  have L := Lib.hid hL
  clear hL
  replace G := Lib.hid (gtr G.out hg)
  replace R := Lib.hid (R.out.kept hg)
  replace M := Lib.hid (M.out.kept hg)
  clear hg
  go_wp2_with (refine stop_store rfl ?_)
  refine ⟨trivial, ?_⟩
  refine wpList_store_blk rfl 24 (.tmp 7) (.tmp 27) _ _ _ 24 (Blk.new v3 #[.int .i64 0, .int .i64 0] 24) rfl rfl rfl rfl (by kernel_rfl) (by simp [Value.oneCell']) rfl ?_
  intro v4 hgV hT
  have hg : (v3).grownBy v4 none := grown_new (Draw.grown_alloc v3 (.cells #[.int .i64 0, .int .i64 0] 24) none) (Nat.le_refl _) hgV
  have X := Lib.hid (Bv.of hT)
  clear hgV hT
  replace G := Lib.hid (gtr G.out hg)
  replace R := Lib.hid (R.out.kept hg)
  replace M := Lib.hid (M.out.kept hg)
  replace L := Lib.hid (L.out.kept hg)
  clear hg
  generalize v3.heap.size = xb at *
  generalize v2.heap.size = lo at *
  obtain ⟨av, cv, hvv, hLi, _, _⟩ := L.out.slice
  obtain ⟨aw, cw, hww, hRi⟩ := R.out.slice
  have HLi := Lib.hid hLi; have HVV := Lib.hid hvv; have HRi := Lib.hid hRi; have HWW := Lib.hid hww; clear hLi hvv hRi hww
  go_wp2_with fail
  refine Calls.mono (by rw [HVV.out, HWW.out]; exact eqint _ _ _ _ _ _ (li (pO t)) HLi.out HRi.out (by omega)) ?_
  rintro e v5 ⟨rfl, hg⟩
  clear HLi HVV HRi HWW
  replace G := Lib.hid (gtr G.out hg)
  replace R := Lib.hid (R.out.kept hg)
  replace M := Lib.hid (M.out.kept hg)
  replace L := Lib.hid (L.out.kept hg)
  replace X := Lib.hid (X.out.kept hg)
  clear hg
  obtain ⟨_, m0, m1⟩ := M.out
  obtain ⟨_, x0, x1⟩ := X.out
  go_wp2_with fail
  clear m0 m1
  clear x0 x1
  refine (eqbook _ (pN t) (pS t)).mono ?_
  rintro e v6 ⟨rfl, hg⟩
  replace G := Lib.hid (gtr G.out hg)
  replace R := Lib.hid (R.out.kept hg)
  replace M := Lib.hid (M.out.kept hg)
  replace L := Lib.hid (L.out.kept hg)
  replace X := Lib.hid (X.out.kept hg)
  clear hg
  clear X
  go_wp2_with fail
  refine (mark_lst _ _ v _ L.out (by omega)).mono ?_
  rintro e v7 ⟨rfl, hg, hL⟩
  have G' := Lst.grown L.out (by omega) G.out hg
  have R' : LstB v7 w.heap.size mb vw (pO t) := by
    cases hv : v.ownBlock with
    | none => rw [hv] at hg; exact R.out.kept hg
    | some g => rw [hv] at hg; exact R.out.keptB hg (by
        rcases L.out with ⟨rfl, _⟩ | ⟨b, c, rfl, hr⟩
        · cases hv
        · injection hv with hv; have := hr.from_; simp only at hv; omega)
  have M' := M.out.keptB (hg.block _ M.out.lt (L.out.own_ne (by omega))) hg.size
  clear G L R M hg
  have G := Lib.hid G'; have L := Lib.hid hL; have R := Lib.hid R'; have M := Lib.hid M'
  clear G' hL R' M'
  have hq0 : decide (((1 + (pO t).length : Nat) : Int) < 0) = false := decide_eq_false (by omega)
  have hq1 : ¬ ((1 + (pO t).length : Nat) : Int) < 0 := by omega
  have hqm := bne_f (rfl : ((1 + (pO t).length : Nat) : Int) = ((1 + (pO t).length : Nat) : Int))
  go_wp2_with fail
  refine (held_lst _ _ v _ L.out (by omega)).mono ?_
  rintro e w' ⟨rfl, rfl⟩
  go_wp2_with fail
  refine (ibplayV _ t).mono ?_
  rintro e v8 ⟨v9, rfl, hL, hg⟩
  have N := Lib.hid hL
  clear hL
  replace G := Lib.hid (gtr G.out hg)
  replace L := Lib.hid (L.out.kept hg)
  replace R := Lib.hid (R.out.kept hg)
  replace M := Lib.hid (M.out.kept hg)
  clear hg
  go_wp2_with (refine stop_store rfl ?_)
  refine ⟨trivial, ?_⟩
  refine wpList_store_blk rfl 24 (.tmp 12) (.tmp 59) _ _ _ 24 (Blk.new v8 #[.int .i64 0, .int .i64 0] 24) rfl rfl rfl rfl (by kernel_rfl) (by simp [Value.oneCell']) rfl ?_
  intro va hgV hT
  have hg : (v8).grownBy va none := grown_new (Draw.grown_alloc v8 (.cells #[.int .i64 0, .int .i64 0] 24) none) (Nat.le_refl _) hgV
  have X := Lib.hid (Bv.of hT)
  clear hgV hT
  replace G := Lib.hid (gtr G.out hg)
  replace L := Lib.hid (L.out.kept hg)
  replace R := Lib.hid (R.out.kept hg)
  replace M := Lib.hid (M.out.kept hg)
  replace N := Lib.hid (N.out.kept hg)
  clear hg
  generalize v8.heap.size = xb2 at *
  obtain ⟨av2, cv2, rfl, hLi2, _, _⟩ := N.out.slice
  obtain ⟨aw3, cw3, hww3, hRi3⟩ := R.out.slice
  have HLi2 := Lib.hid hLi2; have HRi3 := Lib.hid hRi3; have HWW3 := Lib.hid hww3; clear hLi2 hRi3 hww3
  go_wp2_with fail
  refine Calls.mono (by rw [HWW3.out]; exact eqint _ _ _ _ _ _ (li (pO t)) HLi2.out HRi3.out (by omega)) ?_
  rintro e vb ⟨rfl, hg⟩
  clear HLi2 HRi3 HWW3
  replace G := Lib.hid (gtr G.out hg)
  replace L := Lib.hid (L.out.kept hg)
  replace R := Lib.hid (R.out.kept hg)
  replace M := Lib.hid (M.out.kept hg)
  replace N := Lib.hid (N.out.kept hg)
  replace X := Lib.hid (X.out.kept hg)
  clear hg
  obtain ⟨_, m0, m1⟩ := M.out
  obtain ⟨_, x0, x1⟩ := X.out
  go_wp2_with fail
  clear m0 m1
  clear x0 x1
  refine (eqbook _ (pN t) (pS t)).mono ?_
  rintro e vc ⟨rfl, hg⟩
  replace G := Lib.hid (gtr G.out hg)
  replace L := Lib.hid (L.out.kept hg)
  replace R := Lib.hid (R.out.kept hg)
  replace M := Lib.hid (M.out.kept hg)
  replace N := Lib.hid (N.out.kept hg)
  replace X := Lib.hid (X.out.kept hg)
  clear hg
  go_wp2_with fail
  refine (held_lst _ _ v _ L.out (by omega)).mono ?_
  rintro e w' ⟨rfl, rfl⟩
  go_wp2
  go_ret
  exact ⟨rfl, Draw.below_of G.out⟩
end Run
end Go.Proofs.Yteibklnonlapoaa
