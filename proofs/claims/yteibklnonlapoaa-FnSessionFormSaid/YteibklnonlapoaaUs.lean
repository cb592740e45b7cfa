/-
  Sessions: the numbers behind the laws: a part put in leaves a session; whose parts are wrong; all parts together are a signature.
-/
import Derived.Test.YteibklnonlapoaaTj
import Derived.Test.YteibklnonlapoaaPk
namespace Go.Proofs.Yteibklnonlapoaa
namespace Con
open Go.RowKit Alg Mem Draw Hd Pol
set_option linter.unusedVariables false

theorem mS_put (S : Nat → SV) (q : Nat) (z : Int) : mS (putS S q z) = mS S := by
  funext j; unfold mS putS; split <;> rfl
theorem mS_pt (S : Nat → SV) (m : Int) (n : Nat) (z : Int) : mS (ptS S m n z) = mS S := by
  unfold ptS; split
  · exact mS_put _ _ _
  · rfl
theorem put_at (S : Nat → SV) (q : Nat) (z : Int) : putS S q z q = ⟨(S q).m, (S q).R, true, z⟩ := by simp [putS]
theorem put_ne {S : Nat → SV} {q j : Nat} {z : Int} (h : j ≠ q) : putS S q z j = S j := by simp [putS, h]
theorem put_R (S : Nat → SV) (q : Nat) (z : Int) (j : Nat) : (putS S q z j).R = (S j).R := by unfold putS; split <;> rfl
theorem put_m (S : Nat → SV) (q : Nat) (z : Int) (j : Nat) : (putS S q z j).m = (S j).m := by unfold putS; split <;> rfl
theorem rP_put (S : Nat → SV) (q : Nat) (z : Int) : ∀ k, rP (putS S q z) k = rP S k
  | 0 => rfl
  | k + 1 => by simp only [rP, put_R, rP_put S q z k]
section
variable {need many : Int} {ng : Nat} {zg : Nat → Int} {nc : Nat} {zc : Nat → Int} {msg : Int} {n : Nat} {S : Nat → SV}
theorem ts_put {q : Nat} {z : Int} (h : tsF need many ng zg nc zc msg n S = true) (hz : fok z = true) : tsF need many ng zg nc zc msg n (putS S q z) = true := by
  obtain ⟨h1, h2, h3, h4⟩ := so_iff.1 h
  refine so_iff.2 ⟨soA_iff.2 fun j hj => ?_, h2, by rw [mS_put]; exact h3, h4⟩
  have hj' := soE_iff.1 (soA_iff.1 h1 j hj)
  by_cases e : j = q
  · subst e; rw [put_at]; exact soE_iff.2 ⟨hj'.1, hz, .inl rfl⟩
  · rw [put_ne e]; exact soE_iff.2 hj'
theorem ts_pt {m z : Int} (h : tsF need many ng zg nc zc msg n S = true) (hz : fok z = true) : tsF need many ng zg nc zc msg n (ptS S m n z) = true := by
  unfold ptS; split
  · exact ts_put h hz
  · exact h
theorem ts_facts (h : tsF need many ng zg nc zc msg n S = true) : (1 ≤ need ∧ need ≤ many ∧ many ≤ 5) ∧ (nc : Int) = need ∧ cokz nc zc = true ∧ need ≤ (n : Int) ∧ n ≤ 5 ∧ plok n (mS S) = true ∧ upz (mS S) n = true ∧ mbz many (mS S) n = true ∧ ng ≤ 5 := by
  obtain ⟨h1, h2, h3, h4⟩ := so_iff.1 h
  obtain ⟨k1, k2, k3, k4, k5⟩ := ky_iff.1 h2
  obtain ⟨c1, c2, c3⟩ := crw_iff.1 h3
  exact ⟨k1, k2, k3, c1, cr_len k1.2.2 c2 c3, cr_plok k1.2.2 c2 c3, c2, c3, up_len k4 k5⟩
theorem ts_ne (h : tsF need many ng zg nc zc msg n S = true) {i j : Nat} (hi : i < n) (hj : j < n) (hne : i ≠ j) : (S i).m ≠ (S j).m := up_ne (ts_facts h).2.2.2.2.2.2.1 i j hi hj hne
theorem ts_pos (h : tsF need many ng zg nc zc msg n S = true) {j : Nat} (hj : j < n) : posz (mS S) (S j).m n = j :=
  pos_at (z := mS S) hj (hasz_no.2 fun i hi => ts_ne h (by omega) hj (by omega)) rfl
theorem ts_has (h : tsF need many ng zg nc zc msg n S = true) {j : Nat} (hj : j < n) : hasz (mS S) (S j).m n = true := hasz_yes (z := mS S) hj rfl
theorem ts_ga (h : tsF need many ng zg nc zc msg n S = true) {j : Nat} (hj : j < n) : gaF need many ng zg nc zc n (mS S) (S j).m = true :=
  ga_iff.2 ⟨(so_iff.1 h).2.1, (so_iff.1 h).2.2.1, ts_has h hj⟩
theorem ts_so (h : tsF need many ng zg nc zc msg n S = true) {j : Nat} (hj : j < n) : gok (S j).R = true ∧ fok (S j).Z = true ∧ ((S j).on = true ∨ (S j).Z = 0) := soE_iff.1 (soA_iff.1 (so_iff.1 h).1 j hj)
theorem ts_r (h : tsF need many ng zg nc zc msg n S = true) : gok (rP S n) = true := rP_ok (so_R h)
theorem ts_msg (h : tsF need many ng zg nc zc msg n S = true) : mok msg = true := (so_iff.1 h).2.2.2
theorem sr_yes (h : tsF need many ng zg nc zc msg n S = true) : srF need many ng zg nc zc msg n S = rP S n := by simp [srF, h]
theorem sr_no (h : tsF need many ng zg nc zc msg n S = false) : srF need many ng zg nc zc msg n S = 0 := by simp [srF, h]
theorem tbF_yes (h : tsF need many ng zg nc zc msg n S = true) : tbF need many ng zg nc zc msg n S = tbL need many ng zg nc zc msg n S n := by simp [tbF, h]
theorem tbF_no (h : tsF need many ng zg nc zc msg n S = false) : tbF need many ng zg nc zc msg n S = [] := by simp [tbF, h]
theorem mem_tbL {x : Int} : ∀ {k : Nat}, x ∈ tbL need many ng zg nc zc msg n S k ↔ ∃ j, j < k ∧ tbE need many ng zg nc zc msg n S j = true ∧ (S j).m = x
  | 0 => by simp [tbL]
  | k + 1 => by
    cases h : tbE need many ng zg nc zc msg n S k with
    | false =>
      rw [tbL_no h, mem_tbL]
      exact ⟨fun ⟨j, hj, e⟩ => ⟨j, by omega, e⟩, fun ⟨j, hj, e1, e2⟩ => by
        rcases (by omega : j < k ∨ j = k) with h' | h'
        · exact ⟨j, h', e1, e2⟩
        · subst h'; rw [h] at e1; cases e1⟩
    | true =>
      rw [tbL_yes h, List.mem_append, mem_tbL, List.mem_singleton]
      constructor
      · rintro (⟨j, hj, e⟩ | e)
        · exact ⟨j, by omega, e⟩
        · exact ⟨k, by omega, h, e.symm⟩
      · rintro ⟨j, hj, e1, e2⟩
        rcases (by omega : j < k ∨ j = k) with h' | rfl
        · exact .inl ⟨j, h', e1, e2⟩
        · exact .inr e2.symm
theorem tbL_none {k : Nat} : (tbL need many ng zg nc zc msg n S k).length = 0 ↔ ∀ j, j < k → tbE need many ng zg nc zc msg n S j = false := by
  induction k with
  | zero => simp [tbL]
  | succ k ih =>
    cases h : tbE need many ng zg nc zc msg n S k with
    | false =>
      rw [tbL_no h, ih]
      exact ⟨fun hh j hj => by rcases (by omega : j < k ∨ j = k) with h' | rfl; exact hh j h'; exact h, fun hh j hj => hh j (by omega)⟩
    | true =>
      rw [tbL_yes h, List.length_append]
      exact ⟨fun e => by simp at e, fun hh => by rw [hh k (by omega)] at h; cases h⟩
theorem tb_in (h : tsF need many ng zg nc zc msg n S = true) {j : Nat} (hj : j < n) : (S j).m ∈ tbL need many ng zg nc zc msg n S n ↔ tbE need many ng zg nc zc msg n S j = true := by
  rw [mem_tbL]
  constructor
  · rintro ⟨i, hi, e1, e2⟩
    by_cases e : i = j
    · subst e; exact e1
    · exact absurd e2 (ts_ne h hi hj e)
  · exact fun e => ⟨j, hj, e, rfl⟩
theorem tbL_one {k : Nat} (hk : k < n) (h1 : tbE need many ng zg nc zc msg n S k = true) (h0 : ∀ j, j < n → j ≠ k → tbE need many ng zg nc zc msg n S j = false) : tbL need many ng zg nc zc msg n S n = [(S k).m] := by
  have h : ∀ i, i ≤ n → tbL need many ng zg nc zc msg n S i = if k < i then [(S k).m] else [] := by
    intro i
    induction i with
    | zero => intro _; simp [tbL]
    | succ i ih =>
      intro hi
      have ih := ih (by omega)
      by_cases e : i = k
      · subst e
        rw [tbL_yes h1, ih]; simp
      · rw [tbL_no (h0 i (by omega) e), ih]
        by_cases h' : k < i
        · rw [if_pos h', if_pos (by omega)]
        · rw [if_neg h', if_neg (by omega)]
  rw [h n (Nat.le_refl _), if_pos hk]
theorem ga_cat' {nm : Nat} {zm : Nat → Int} {m : Int} (h : gaF need many ng zg nc zc nm zm m = true) : fok m = true ∧ gok (catz nc zc m) = true := by
  have hf := ga_facts h
  have hmk : fok m = true := by have := mb_iff.1 hf.2.2.2.2.2.2.2.2.2.1; have := hf.2.2.1; exact fok_iff.2 (by omega)
  exact ⟨hmk, by rw [catz_in hf.2.2.2.1 hmk]; exact gof_ok (Pol.fi_ok _)⟩
/-- The one part that is a member's. -/
def onePart (nc : Nat) (zc : Nat → Int) (msg : Int) (n : Nat) (S : Nat → SV) (j : Nat) : Int := lg (gmulF (S j).R (gpowF (catz nc zc (S j).m) (gW zc n (mS S) (S j).m (rP S n) msg)))
theorem one_ok (h : tsF need many ng zg nc zc msg n S = true) {j : Nat} (hj : j < n) : fok (onePart nc zc msg n S j) = true :=
  (lg_ok (gmul_ok (ts_so h hj).1 (gpow_ok (ga_cat' (ts_ga h hj)).2 (gW_ok _ _ _ _ _ _)))).1
theorem sf_one (h : tsF need many ng zg nc zc msg n S = true) {j : Nat} (hj : j < n) {z : Int} (hz : fok z = true) :
    sfF need many ng zg nc zc n (mS S) (S j).m (S j).R (rP S n) msg z = decide (z = onePart nc zc msg n S j) := by
  have hg := (ga_cat' (ts_ga h hj)).2
  have hl := lg_ok (gmul_ok (ts_so h hj).1 (gpow_ok hg (gW_ok zc n (mS S) (S j).m (rP S n) msg)))
  rw [sfF_yes ⟨ts_ga h hj, (ts_so h hj).1, ts_r h, ts_msg h, hz⟩]
  apply Bool.eq_iff_iff.2
  rw [beq_iff_eq, decide_eq_true_eq]
  exact ⟨fun e => (gof_same hz hl.1).1 (e.trans hl.2.symm), fun e => by rw [e]; exact hl.2⟩
theorem tb_one (h : tsF need many ng zg nc zc msg n S = true) {j : Nat} (hj : j < n) : tbE need many ng zg nc zc msg n S j = ((S j).on && !decide ((S j).Z = onePart nc zc msg n S j)) := by
  unfold tbE; rw [sf_one h hj (ts_so h hj).2.1]
theorem one_put (q : Nat) (z : Int) (j : Nat) : onePart nc zc msg n (putS S q z) j = onePart nc zc msg n S j := by
  unfold onePart; rw [mS_put, rP_put, put_R, put_m]
theorem tb_put_at (h : tsF need many ng zg nc zc msg n S = true) {q : Nat} (hq : q < n) {z : Int} (hz : fok z = true) : tbE need many ng zg nc zc msg n (putS S q z) q = !decide (z = onePart nc zc msg n S q) := by
  rw [tb_one (ts_put h hz) hq, put_at, one_put]; rfl
theorem tb_put_ne (h : tsF need many ng zg nc zc msg n S = true) {q j : Nat} (hj : j < n) (hne : j ≠ q) {z : Int} (hz : fok z = true) : tbE need many ng zg nc zc msg n (putS S q z) j = tbE need many ng zg nc zc msg n S j := by
  rw [tb_one (ts_put h hz) hj, tb_one h hj, put_ne hne, one_put]
/-! All parts together. -/
theorem psum_lin (f g : Nat → F) (c : F) : ∀ k, Ln.psum (fun j => f j + g j * c) k = Ln.psum f k + Ln.psum g k * c
  | 0 => by simp only [Ln.psum]; grind
  | k + 1 => by simp only [Ln.psum, psum_lin f g c k]; grind
theorem psum_congr {f g : Nat → F} : ∀ {k : Nat}, (∀ j, j < k → f j = g j) → Ln.psum f k = Ln.psum g k
  | 0, _ => rfl
  | k + 1, h => by
    have ih : Ln.psum f k = Ln.psum g k := psum_congr (fun j hj => h j (by omega))
    simp only [Ln.psum]; rw [ih, h k (by omega)]
theorem rP_sum : ∀ {k : Nat}, (∀ j, j < k → gok (S j).R = true) → rP S k = gofF (fi (Ln.psum (fun j => cv (lg (S j).R)) k))
  | 0, _ => by simp only [rP, Ln.psum, fi_zero]; exact gof_zero.symm
  | k + 1, h => by
    have hl := lg_ok (h k (by omega))
    simp only [rP, Ln.psum]
    rw [rP_sum (fun j hj => h j (by omega)), ← fi_sum, gof_sum (fi_ok _) (fi_ok _), fi_cv hl.1, hl.2]
theorem zP_sum : ∀ {k : Nat}, (∀ j, j < k → fok (S j).Z = true) → zP S k = fi (Ln.psum (fun j => cv (S j).Z) k)
  | 0, _ => rfl
  | k + 1, h => by
    simp only [zP, Ln.psum]
    rw [zP_sum (fun j hj => h j (by omega)), ← fi_sum, fi_cv (h k (by omega))]
theorem ses_sig (h : tsF need many ng zg nc zc msg n S = true) (hb : (tbL need many ng zg nc zc msg n S n).length = 0) (ho : onA S n = true) : sgF (kpub need many ng zg nc zc) msg (rP S n) (zP S n) = true := by
  obtain ⟨⟨k1, k2, k3⟩, kn, kc, hn, hn5, hp, _, _, _⟩ := ts_facts h
  have hck := cokz_iff.1 kc
  have hg0 := hck.2.2 0 (by omega)
  have hl0 := lg_ok hg0
  rw [kpub_yes (so_iff.1 h).2.1, sgF_in hg0 (ts_msg h) (ts_r h) zP_ok, beq_iff_eq]
  have hH := hz_ok (rP S n) (zc 0) msg
  generalize hHe : hz (rP S n) (zc 0) msg = H at *
  have hzj : ∀ j, j < n → cv (S j).Z = cv (lg (S j).R) + (lag (fl (mS S) n) j 0 * ev (fl (lz zc) nc) (cv (mS S j))) * cv H := by
    intro j hj
    have hne := tbL_none.1 hb j hj
    have hon := onA_iff.1 ho j hj
    rw [tb_one h hj, hon] at hne
    have hz : (S j).Z = onePart nc zc msg n S j := by simpa using hne
    have hga := ts_ga h hj
    have hmk := (ga_cat' hga).1
    have hlr := lg_ok (ts_so h hj).1
    have hR := lz_ok (z := fun j => (S j).R) (j := j) (ts_so h hj).1
    have e1 : onePart nc zc msg n S j = sumF (lg (S j).R) (mulF (fi (ev (fl (lz zc) nc) (cv (S j).m))) (gW zc n (mS S) (S j).m (rP S n) msg)) := by
      unfold onePart
      rw [catz_in kc hmk, gpow_of (fi_ok _) (gW_ok _ _ _ _ _ _)]
      have hs := sumF_ok (lg (S j).R) (mulF (fi (ev (fl (lz zc) nc) (cv (S j).m))) (gW zc n (mS S) (S j).m (rP S n) msg))
      have hl2 := lg_ok (gmul_ok (ts_so h hj).1 (gof_ok (mulF_ok (fi (ev (fl (lz zc) nc) (cv (S j).m))) (gW zc n (mS S) (S j).m (rP S n) msg))))
      refine (gof_same hl2.1 hs).1 ?_
      rw [hl2.2, gof_sum hlr.1 (mulF_ok _ _), hlr.2]
    have e2 : gW zc n (mS S) (S j).m (rP S n) msg = mulF (fi (lag (fl (mS S) n) j 0)) (fi (cv H)) := by
      unfold gW; rw [ts_pos h hj, hHe, fi_cv hH]; rfl
    rw [hz, e1, e2, fi_mul, fi_mul]
    rw [show lg (S j).R = fi (cv (lg (S j).R)) from (fi_cv hlr.1).symm, fi_sum, cv_fi, cv_fi]
    show _ = cv (lg (S j).R) + (lag (fl (mS S) n) j 0 * ev (fl (lz zc) nc) (cv (S j).m)) * cv H
    grind
  have hsum : Ln.psum (fun j => cv (S j).Z) n = Ln.psum (fun j => cv (lg (S j).R)) n + ev (fl (lz zc) nc) 0 * cv H := by
    rw [psum_congr hzj, psum_lin]
    have hlv := Ln.line_value (n := n) (z := mS S) (p := fl (lz zc) nc) (x := 0) hp (by omega) (by rw [fl_length]; omega)
    have e0 : cv 0 = (0 : F) := rfl
    rw [e0] at hlv
    rw [hlv]
  have hP0 : ev (fl (lz zc) nc) 0 = cv (lg (zc 0)) := by
    rw [Pol.ev_zero]
    have e := fl_getD (lz zc) (show 0 < nc by omega)
    rw [← List.headD_eq_getD] at e
    exact e
  rw [zP_sum (fun j hj => (ts_so h hj).2.1), rP_sum (so_R h), hsum, hP0]
  rw [show gpowF (zc 0) H = gofF (mulF (lg (zc 0)) H) from (congrArg (fun t => gpowF t H) hl0.2.symm).trans (gpow_of hl0.1 hH), gmul_of (fi_ok _) (mulF_ok _ _)]
  rw [show mulF (lg (zc 0)) H = fi (cv (lg (zc 0)) * cv H) by rw [← fi_mul, fi_cv hl0.1, fi_cv hH], fi_sum]
theorem pt_comm (h : tsF need many ng zg nc zc msg n S = true) {m o : Int} (hm : hasz (mS S) m n = true) (ho : hasz (mS S) o n = true) (hne : o ≠ m) (z y : Int) : ptS (ptS S m n z) o n y = ptS (ptS S o n y) m n z := by
  have e1 : hasz (mS (ptS S m n z)) o n = true := by rw [mS_pt]; exact ho
  have e2 : hasz (mS (ptS S o n y)) m n = true := by rw [mS_pt]; exact hm
  rw [ptS_yes e1, ptS_yes e2, mS_pt, mS_pt, ptS_yes hm, ptS_yes ho]
  obtain ⟨p1, p2⟩ := pos_lt hm
  obtain ⟨q1, q2⟩ := pos_lt ho
  have hpq : posz (mS S) o n ≠ posz (mS S) m n := fun e => hne (by rw [← q2, ← p2, e])
  generalize posz (mS S) o n = q at *
  generalize posz (mS S) m n = p at *
  funext j
  unfold putS
  by_cases h1 : j = q
  · subst h1; simp [hpq]
  · by_cases h2 : j = p
    · subst h2; simp [h1]
    · simp [h1, h2]
end
end Con
end Go.Proofs.Yteibklnonlapoaa
