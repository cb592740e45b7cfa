/-
  Places and their factors: turned round; at a place of their own; by a polynomial's values. And the walk of the law on their order.
-/
import Derived.Test.YtchgjdbmianajaaPk
import Derived.Test.YtchgjdbmianajaaDrawLine
import Derived.Test.YtchgjdbmianajaaMem
import Derived.Deep.AppendLies
namespace Go.Proofs.Ytchgjdbmianajaa
namespace Run
open Go.RowKit Alg Mem Con
set_option linter.unusedVariables false

/-- Behind an append that tells where it lies. -/
theorem lies_row {w1 : World} {lo : Nat} {E : TypeId} {g cap k : Nat} {z : Nat → Int} {n : Int} (h : w1.ownsRow lo E 1 (.slice (some ⟨g, 0, none⟩) (k + 1) cap) (k + 1) (vals z k ++ [.int .i64 n])) (hn : n = z k) : Row w1 lo E g (k + 1) cap z := by
  obtain ⟨b, c, hv, hr⟩ := app_row h hn
  injection hv with h1 _ h3
  injection h1 with h1
  injection h1 with h1
  subst h1; subst h3
  exact hr
theorem lies_at {b len cap g H : Nat} (h : (Value.slice (some ⟨b, 0, none⟩) len cap).ownBlock = some g ∨ g = H) : b = g ∨ g = H := h.imp (fun e => Option.some.inj e) id
theorem plok_mk {n : Nat} {z : Nat → Int} (h5 : n ≤ 5) (hf : ∀ j, j < n → fok (z j) = true) (hd : ∀ i j, i < n → j < n → i ≠ j → z i ≠ z j) : plok n z = true :=
  plok_iff.2 ⟨h5, fun j hj => ⟨hf j hj, hasz_no.2 fun i hi => hd i j (by omega) hj (by omega)⟩⟩
/-- Turned round. -/
def rv (z : Nat → Int) (n j : Nat) : Int := z (n - 1 - j)
theorem plok_rv {n : Nat} {z : Nat → Int} (h : plok n z = true) : plok n (rv z n) = true := by
  have h2 := (plok_iff.1 h).2
  exact plok_mk (plok_iff.1 h).1 (fun j hj => (h2 (n - 1 - j) (by omega)).1) fun i j hi hj hij => plok_apart h _ _ (by omega) (by omega) (by omega)
theorem fl_rv (z : Nat → Int) (n : Nat) : fl (rv z n) n = (fl z n).reverse := by
  apply List.ext_getElem
  · simp [fl]
  · intro i h1 h2
    have hi : i < n := by simpa [fl] using h1
    simp [fl, rv]
theorem lag_reverse (l : List Pol.F) (x : Pol.F) {i : Nat} (h : i < l.length) : Pol.lag l.reverse (l.length - 1 - i) x = Pol.lag l i x := by
  have he : l.reverse.eraseIdx (l.length - 1 - i) = (l.eraseIdx i).reverse := by
    rw [List.eraseIdx_eq_take_drop_succ, List.eraseIdx_eq_take_drop_succ, List.take_reverse, List.drop_reverse, List.reverse_append,
      show l.length - (l.length - 1 - i) = i + 1 from by omega, show l.length - (l.length - 1 - i + 1) = i from by omega]
  have hg : l.reverse.getD (l.length - 1 - i) 0 = l.getD i 0 := by
    rw [List.getD_eq_getElem?_getD, List.getElem?_reverse (by omega), show l.length - 1 - (l.length - 1 - i) = i from by omega, ← List.getD_eq_getElem?_getD]
  unfold Pol.lag
  rw [he, hg, Pol.prd_reverse, Pol.prd_reverse]
theorem zline_rv {n : Nat} {z : Nat → Int} {x : Int} {j : Nat} (hj : j < n) : zline n (rv z n) x j = rv (zline n z x) n j := by
  unfold zline rv
  have h1 : fl (fun j => z (n - 1 - j)) n = (fl z n).reverse := fl_rv z n
  have h := lag_reverse (fl z n) (Pol.cv x) (i := n - 1 - j) (by rw [fl_length]; omega)
  rw [fl_length, show n - 1 - (n - 1 - j) = j from by omega] at h
  rw [show (fun j => z (n - 1 - j)) = rv z n from rfl] at h1
  show Pol.fi (Pol.lag (fl (rv z n) n) j (Pol.cv x)) = _
  rw [fl_rv, h]

set_option maxHeartbeats 2000000 in
theorem FnLineOrder (a : Option Addr) (len cap : Nat) (w : World) (hB : Draw.Bytes w w.heap.size a len) (hc : len ≤ cap) (hm : cap ≤ maxLen) :
    Calls Try.prog 5 #[.slice a len cap] w (Yes w) := by
  by_cases hbig : 1048576 < len
  · have hbig' : (1048576 : Int) < (len : Int) := by omega
    clear hB
    go_enter Try.func5, Try.ntmps5
    go_wp2
    go_ret
    exact ⟨rfl, Below.refl _ _⟩
  have hbig' : ¬ (1048576 : Int) < (len : Int) := by omega
  obtain ⟨i0, hi, hz0, hz1, hz2⟩ := info_parts info_int
  go_enter Try.func5, Try.ntmps5
  go_wp2_with fail
  refine (Draw.drawLine _ a len cap hB hc hm).mono ?_
  rintro e w1 ⟨b, n, c, z, x, rfl, l5, lc, lm, hA, hg⟩
  have HA := Lib.hid hA; have G1 := Lib.hid hg; clear hA hg hB
  by_cases hyes : plok n z = true ∧ fok x = true
  case neg =>
    have HP := Lib.hid (show plok n z = false ∨ fok x = false by
      cases h1 : plok n z <;> cases h2 : fok x <;> simp_all)
    clear hyes
    go_wp2_with fail
    refine (ipline_no _ _ _ _ z x HA.out (by omega) lc lm HP.out).mono ?_
    rintro e w' ⟨rfl, rfl⟩
    go_wp2_with fail
    refine (spline_no _ _ _ _ z x HA.out (by omega) HP.out).mono ?_
    rintro e w2 ⟨⟨b2, rfl⟩, hg⟩
    have G2 := Lib.hid hg; clear hg
    go_wp2_with fail
    refine (lpints _ _ _ 0 _ _ z (.inl rfl) (.inl rfl) (by omega)).mono ?_
    rintro e w3 ⟨rfl, hg⟩
    have G3 := Lib.hid hg; clear hg
    go_wp2_with fail
    refine (spline_no _ _ _ _ z x (HA.out.kept (gtr G2.out G3.out)) (by omega) HP.out).mono ?_
    rintro e w4 ⟨⟨b4, rfl⟩, hg⟩
    have G4 := Lib.hid hg; clear hg
    go_wp2_with fail
    refine (lpints _ _ _ 0 _ _ z (.inl rfl) (.inl rfl) (by omega)).mono ?_
    rintro e w5 ⟨rfl, hg⟩
    have G5 := Lib.hid hg; clear hg
    go_wp2
    go_ret
    exact ⟨rfl, Draw.below_of (gtr G1.out (gtr (gtr (gtr G2.out G3.out) G4.out) G5.out))⟩
  have HP := Lib.hid hyes.1; have HX := Lib.hid hyes.2; clear hyes
  obtain ⟨ZL, hZL⟩ : ∃ ZL, ZL = zline n z x := ⟨_, rfl⟩
  have HZL := Lib.hid hZL; clear hZL
  go_wp2_with fail
  refine (ipline_yes _ _ _ _ z x HA.out lc lm HP.out HX.out).mono ?_
  rintro e w2 ⟨s, rfl, hr, hg⟩
  rw [← HZL.out] at hr
  have HS := Lib.hid hr; have G2 := Lib.hid hg; clear hr hg
  go_wp2_with fail
  refine (spline_yes _ _ _ _ z x (HA.out.kept G2.out) HP.out HX.out).mono ?_
  rintro e w3 ⟨t, ct, rfl, hr, hg⟩
  rw [← HZL.out] at hr
  have HT := Lib.hid hr; have G3 := Lib.hid hg; clear hr hg
  go_wp2_with fail
  refine (lpints _ _ _ n _ _ ZL (HS.out.ints.kept G3.out) HT.out.ints (by omega)).mono ?_
  rintro e w4 ⟨rfl, hg⟩
  have G4 := Lib.hid hg; clear hg
  have G14 := Lib.hid (gtr (gtr G2.out G3.out) G4.out)
  by_cases hn : n = 0
  · subst hn
    go_wp2_with fail
    refine (spline_yes _ _ _ _ z x (HA.out.kept G14.out) HP.out HX.out).mono ?_
    rintro e w5 ⟨t5, ct5, rfl, hr, hg⟩
    have G5 := Lib.hid hg; clear hr hg
    go_wp2_with fail
    refine (lpints _ _ _ 0 _ _ z (.inl rfl) (.inl rfl) (by omega)).mono ?_
    rintro e w6 ⟨rfl, hg⟩
    have G6 := Lib.hid hg; clear hg
    go_wp2
    go_ret
    exact ⟨rfl, Draw.below_of (gtr G1.out (gtr (gtr G14.out G5.out) G6.out))⟩
  have hn1 : 1 ≤ n := by omega
  have hn0 : ((n : Int) == 0) = false := by simp; omega
  clear hn
  have HA4 := Lib.hid (HA.out.kept G14.out)
  have HS4 := Lib.hid (HS.out.ints.kept (gtr G3.out G4.out))
  go_wp2
  go_loopw [6, 7, 8] (fun v u i wr => ∃ r k b6 c6 b7 c7 : Nat, r + k = n ∧ v = .slice (some ⟨b6, 0, none⟩) r c6 ∧ u = .slice (some ⟨b7, 0, none⟩) r c7 ∧ i = .int .i64 ((k : Int) - 1) ∧
    Row wr w4.heap.size 3 b6 r c6 (rv z n) ∧ Row wr w4.heap.size 3 b7 r c7 (rv ZL n) ∧ b6 ≠ b7 ∧ w4.grownBy wr none) (fun _ _ i _ => (intOf i + 1).toNat)
  case atStart =>
    refine ⟨0, n, w4.heap.size, 0, w4.heap.size + 1, 0, by omega, rfl, by first | rfl | simp, by first | rfl | go_num, (row_empty w4 _ _).keptN (Draw.grown_alloc _ _ _), ?_, by omega, gtr (Draw.grown_alloc w4 _ _) (Draw.grown_alloc _ _ _)⟩
    have := (row_empty (w4.alloc (.cells #[] 3)) 3 (rv ZL n)).lower (lo' := w4.heap.size) (by simp)
    simpa using this
  case round =>
    obtain ⟨r, k, b6, c6, b7, c7, hrk, rfl, rfl, rfl, hr6, hr7, hne, hg⟩ := hrel
    have HR6 := Lib.hid hr6; have HR7 := Lib.hid hr7; have HG := Lib.hid hg; have hge6 := hr6.from_; have hge7 := hr7.from_; have hlt6 := hr6.lt; have hlt7 := hr7.lt; have hsz := hg.size; clear hr6 hr7 hg
    by_cases hlt : 1 ≤ k
    · obtain ⟨m, rfl⟩ : ∃ m, k = m + 1 := ⟨k - 1, by omega⟩
      obtain ⟨b0, o0, hbo, hb0, hcs⟩ := HA4.out.ptr hn1
      cases hbo
      obtain ⟨b1, o1, hbo, hb1, hcl⟩ := HS4.out.ptr hn1
      cases hbo
      have hcz : wr.cell? ⟨b, m, none⟩ = some (.int .i64 (z m)) := by
        have := hcs m (by omega); rw [Nat.zero_add] at this
        rw [World.cell?_of_block (w := w4) (HG.out.block b hb0 (by simp))]; exact this
      have hcl' : w4.cell? ⟨s, m, none⟩ = some (.int .i64 (ZL m)) := by
        have := hcl m (by omega); rw [Nat.zero_add] at this; exact this
      have HCL := Lib.hid hcl'
      clear hcs hcl hcl'
      have t0 : 0 ≤ ((m + 1 : Nat) : Int) - 1 := by omega
      have t1 : (((m + 1 : Nat) : Int) - 1).toNat = m := by omega
      have t2 : ((m + 1 : Nat) : Int) - 1 < (n : Int) := by omega
      have HE1 := Lib.hid (show z m = rv z n r by unfold rv; rw [show n - 1 - r = m from by omega])
      have HE2 := Lib.hid (show ZL m = rv ZL n r by unfold rv; rw [show n - 1 - r = m from by omega])
      go_wp2_with (first
        | (at_builtin; refine wpList_append_lies _ rfl (.tmp 45) (.tmp 50) 23 rfl w4.heap.size 3 i0 (.int .i64 0) 1 8 und_ints hi hz0 hz1 hz2 rfl (by decide) _ r (vals (rv z n) r) rfl (HR6.out.alloc _).owns ⟨wr.heap.size, 0, none⟩ 1 1 [.int .i64 (z m)] rfl rfl (cell_one_new _ _ _) (by simp [Value.oneCell']) (by decide) (by unfold maxLen; omega) (by omega) (by simp; omega) (wr.heap.size + 1) (by simp) ?_; intro g6 cp6 w5 hown6 hgrow6 hat6 hlt6'; have HN6 := Lib.hid (lies_row hown6 HE1.out); have HG5 := Lib.hid (app_grown HG.out hge6 hgrow6); have HR75 := Lib.hid ((HR7.out.alloc (.cells #[.int .i64 (z m)] 3)).kept hgrow6 (by intro e; have e := Option.some.inj e; exact hne e.symm)); have hat := lies_at hat6; have hne5 : g6 ≠ b7 := (by omega); have hcl5 : w5.cell? ⟨s, m, none⟩ = some (.int .i64 (ZL m)) := (by rw [World.cell?_of_block (w := w4) (HG5.out.block s hb1 (by simp))]; exact HCL.out); have hsz5 := HG5.out.size; have hlt75 := HR75.out.lt; clear hown6 hgrow6 hat6 hat)
        | (at_builtin; refine wpList_append_lies _ rfl (.tmp 52) (.tmp 57) 23 rfl w4.heap.size 3 i0 (.int .i64 0) 1 8 und_ints hi hz0 hz1 hz2 rfl (by decide) _ r (vals (rv ZL n) r) rfl (HR75.out.alloc _).owns ⟨w5.heap.size, 0, none⟩ 1 1 [.int .i64 (ZL m)] rfl rfl (cell_one_new _ _ _) (by simp [Value.oneCell']) (by decide) (by unfold maxLen; omega) (by omega) (by simp; omega) (w5.heap.size + 1) (by simp) ?_; intro g7 cp7 w6 hown7 hgrow7 hat7 hlt7'; have HN7 := Lib.hid (lies_row hown7 HE2.out); have HG6 := Lib.hid (app_grown HG5.out hge7 hgrow7); have HN66 := Lib.hid ((HN6.out.alloc (.cells #[.int .i64 (ZL m)] 3)).kept hgrow7 (by intro e; have e := Option.some.inj e; exact hne5 e)); have hat := lies_at hat7; have hne6 : g6 ≠ g7 := (by omega); clear hown7 hgrow7 hat7 hat))
      go_roundw
      case rel => exact ⟨r + 1, m, g6, cp6, g7, cp7, by omega, rfl, rfl, by go_num, HN66.out, HN7.out, hne6, HG6.out⟩
      case measure => simp [intOf]
    · obtain rfl : k = 0 := by omega
      obtain rfl : r = n := by omega
      have hcap6 := HR6.out.le
      have hmost6 := HR6.out.most
      have HZ2 := Lib.hid (show ∀ j, j < r → zline r (rv z r) x j = rv ZL r j from fun j hj => by rw [HZL.out]; exact zline_rv hj)
      go_wp2_with fail
      refine (ipline_yes _ _ _ _ (rv z r) x HR6.out.ints hcap6 hmost6 (plok_rv HP.out) HX.out).mono ?_
      rintro e w5 ⟨t5, rfl, hr, hg⟩
      have H5 := Lib.hid (hr.congr HZ2.out); have G5 := Lib.hid hg; clear hr hg
      go_wp2_with fail
      refine (lpints _ _ _ r _ _ (rv ZL r) H5.out.ints (HR7.out.ints.kept G5.out) (by omega)).mono ?_
      rintro e w6 ⟨rfl, hg⟩
      have G6 := Lib.hid hg; clear hg
      go_wp2
      go_ret
      exact ⟨rfl, Draw.below_of (gtr G1.out (gtr (gtr (gtr G14.out HG.out) G5.out) G6.out))⟩
end Run
end Go.Proofs.Ytchgjdbmianajaa
