/-
  Sessions: the numbers behind the laws: a part put in leaves a session; whose parts are wrong; all parts together are a signature.
-/
import Derived.Test.YthbigmcklacbnaaGreatDoorTj
import Derived.Test.YthbigmcklacbnaaGreatDoorPk
import Derived.Test.YthbigmcklacbnaaGreatDoorTb
import Derived.Test.YthbigmcklacbnaaGreatDoorGm
namespace Go.Proofs.YthbigmcklacbnaaGreatDoor
namespace Con
open Go.RowKit Alg Mem Draw Hd Pol
set_option linter.unusedVariables false

theorem mS_put (S : Nat → SV) (q : Nat) (z : Int) : mS (putS S q z) = mS S := by
  funext j; unfold mS putS; split <;> rfl
theorem mS_pt (S : Nat → SV) (m : Int) (n : Nat) (z : Int) : mS (ptS S m n z) = mS S := by
  unfold ptS; split
  · exact mS_put _ _ _
  · rfl
theorem put_at (S : Nat → SV) (q : Nat) (z : Int) : putS S q z q = ⟨(S q).m, (S q).R, true, z⟩ := by simp [putS]
theorem put_ne {S : Nat → SV} {q j : Nat} {z : Int} (h : j ≠ q) : putS S q z j = S j := by simp [putS, h]
theorem put_R (S : Nat → SV) (q : Nat) (z : Int) (j : Nat) : (putS S q z j).R = (S j).R := by unfold putS; split <;> rfl
theorem put_m (S : Nat → SV) (q : Nat) (z : Int) (j : Nat) : (putS S q z j).m = (S j).m := by unfold putS; split <;> rfl
theorem rP_put (S : Nat → SV) (q : Nat) (z : Int) : ∀ k, rP (putS S q z) k = rP S k
  | 0 => rfl
  | k + 1 => by simp only [rP, put_R, rP_put S q z k]
section
variable {need many : Int} {ng : Nat} {zg : Nat → Int} {nc : Nat} {zc : Nat → Int} {msg : Int} {n : Nat} {S : Nat → SV}
theorem ts_put {q : Nat} {z : Int} (h : tsF need many ng zg nc zc msg n S = true) (hz : fok z = true) : tsF need many ng zg nc zc msg n (putS S q z) = true := by
  obtain ⟨h1, h2, h3, h4⟩ := so_iff.1 h
  refine so_iff.2 ⟨soA_iff.2 fun j hj => ?_, h2, by rw [mS_put]; exact h3, h4⟩
  have hj' := soE_iff.1 (soA_iff.1 h1 j hj)
  by_cases e : j = q
  · subst e; rw [put_at]; exact soE_iff.2 ⟨hj'.1, hz, .inl rfl⟩
  · rw [put_ne e]; exact soE_iff.2 hj'
theorem ts_pt {m z : Int} (h : tsF need many ng zg nc zc msg n S = true) (hz : fok z = true) : tsF need many ng zg nc zc msg n (ptS S m n z) = true := by
  unfold ptS; split
  · exact ts_put h hz
  · exact h
theorem ts_facts (h : tsF need many ng zg nc zc msg n S = true) : (1 ≤ need ∧ need ≤ many ∧ many ≤ 5) ∧ (nc : Int) = need ∧ cokz nc zc = true ∧ need ≤ (n : Int) ∧ n ≤ 5 ∧ plok n (mS S) = true ∧ upz (mS S) n = true ∧ mbz many (mS S) n = true ∧ ng ≤ 5 := by
  obtain ⟨h1, h2, h3, h4⟩ := so_iff.1 h
  obtain ⟨k1, k2, k3, k4, k5⟩ := ky_iff.1 h2
  obtain ⟨c1, c2, c3⟩ := crw_iff.1 h3
  exact ⟨k1, k2, k3, c1, cr_len k1.2.2 c2 c3, cr_plok k1.2.2 c2 c3, c2, c3, up_len k4 k5⟩
theorem ts_ne (h : tsF need many ng zg nc zc msg n S = true) {i j : Nat} (hi : i < n) (hj : j < n) (hne : i ≠ j) : (S i).m ≠ (S j).m := up_ne (ts_facts h).2.2.2.2.2.2.1 i j hi hj hne
theorem ts_pos (h : tsF need many ng zg nc zc msg n S = true) {j : Nat} (hj : j < n) : posz (mS S) (S j).m n = j :=
  pos_at (z := mS S) hj (hasz_no.2 fun i hi => ts_ne h (by omega) hj (by omega)) rfl
theorem ts_has (h : tsF need many ng zg nc zc msg n S = true) {j : Nat} (hj : j < n) : hasz (mS S) (S j).m n = true := hasz_yes (z := mS S) hj rfl
theorem ts_ga (h : tsF need many ng zg nc zc msg n S = true) {j : Nat} (hj : j < n) : gaF need many ng zg nc zc n (mS S) (S j).m = true :=
  ga_iff.2 ⟨(so_iff.1 h).2.1, (so_iff.1 h).2.2.1, ts_has h hj⟩
theorem ts_so (h : tsF need many ng zg nc zc msg n S = true) {j : Nat} (hj : j < n) : gok (S j).R = true ∧ fok (S j).Z = true ∧ ((S j).on = true ∨ (S j).Z = 0) := soE_iff.1 (soA_iff.1 (so_iff.1 h).1 j hj)
theorem ts_r (h : tsF need many ng zg nc zc msg n S = true) : gok (rP S n) = true := rP_ok (so_R h)
theorem ts_msg (h : tsF need many ng zg nc zc msg n S = true) : mok msg = true := (so_iff.1 h).2.2.2
theorem sr_yes (h : tsF need many ng zg nc zc msg n S = true) : srF need many ng zg nc zc msg n S = rP S n := by simp [srF, h]
theorem sr_no (h : tsF need many ng zg nc zc msg n S = false) : srF need many ng zg nc zc msg n S = 0 := by simp [srF, h]
theorem tbF_yes (h : tsF need many ng zg nc zc msg n S = true) : tbF need many ng zg nc zc msg n S = tbL need many ng zg nc zc msg n S n := by simp [tbF, h]
theorem tbF_no (h : tsF need many ng zg nc zc msg n S = false) : tbF need many ng zg nc zc msg n S = [] := by simp [tbF, h]
theorem mem_tbL {x : Int} : ∀ {k : Nat}, x ∈ tbL need many ng zg nc zc msg n S k ↔ ∃ j, j < k ∧ tbE need many ng zg nc zc msg n S j = true ∧ (S j).m = x
  | 0 => by simp [tbL]
  | k + 1 => by
    cases h : tbE need many ng zg nc zc msg n S k with
    | false =>
      rw [tbL_no h, mem_tbL]
      exact ⟨fun ⟨j, hj, e⟩ => ⟨j, by omega, e⟩, fun ⟨j, hj, e1, e2⟩ => by
        rcases (by omega : j < k ∨ j = k) with h' | h'
        · exact ⟨j, h', e1, e2⟩
        · subst h'; rw [h] at e1; cases e1⟩
    | true =>
      rw [tbL_yes h, List.mem_append, mem_tbL, List.mem_singleton]
      constructor
      · rintro (⟨j, hj, e⟩ | e)
        · exact ⟨j, by omega, e⟩
        · exact ⟨k, by omega, h, e.symm⟩
      · rintro ⟨j, hj, e1, e2⟩
        rcases (by omega : j < k ∨ j = k) with h' | rfl
        · exact .inl ⟨j, h', e1, e2⟩
        · exact .inr e2.symm
theorem tbL_none {k : Nat} : (tbL need many ng zg nc zc msg n S k).length = 0 ↔ ∀ j, j < k → tbE need many ng zg nc zc msg n S j = false := by
  induction k with
  | zero => simp [tbL]
  | succ k ih =>
    cases h : tbE need many ng zg nc zc msg n S k with
    | false =>
      rw [tbL_no h, ih]
      exact ⟨fun hh j hj => by rcases (by omega : j < k ∨ j = k) with h' | rfl; exact hh j h'; exact h, fun hh j hj => hh j (by omega)⟩
    | true =>
      rw [tbL_yes h, List.length_append]
      exact ⟨fun e => by simp at e, fun hh => by rw [hh k (by omega)] at h; cases h⟩
theorem tb_in (h : tsF need many ng zg nc zc msg n S = true) {j : Nat} (hj : j < n) : (S j).m ∈ tbL need many ng zg nc zc msg n S n ↔ tbE need many ng zg nc zc msg n S j = true := by
  rw [mem_tbL]
  constructor
  · rintro ⟨i, hi, e1, e2⟩
    by_cases e : i = j
    · subst e; exact e1
    · exact absurd e2 (ts_ne h hi hj e)
  · exact fun e => ⟨j, hj, e, rfl⟩
theorem tbL_one {k : Nat} (hk : k < n) (h1 : tbE need many ng zg nc zc msg n S k = true) (h0 : ∀ j, j < n → j ≠ k → tbE need many ng zg nc zc msg n S j = false) : tbL need many ng zg nc zc msg n S n = [(S k).m] := by
  have h : ∀ i, i ≤ n → tbL need many ng zg nc zc msg n S i = if k < i then [(S k).m] else [] := by
    intro i
    induction i with
    | zero => intro _; simp [tbL]
    | succ i ih =>
      intro hi
      have ih := ih (by omega)
      by_cases e : i = k
      · subst e
        rw [tbL_yes h1, ih]; simp
      · rw [tbL_no (h0 i (by omega) e), ih]
        by_cases h' : k < i
        · rw [if_pos h', if_pos (by omega)]
        · rw [if_neg h', if_neg (by omega)]
  rw [h n (Nat.le_refl _), if_pos hk]
theorem ga_cat' {nm : Nat} {zm : Nat → Int} {m : Int} (h : gaF need many ng zg nc zc nm zm m = true) : fok m = true ∧ gok (catz nc zc m) = true := by
  have hf := ga_facts h
  have hmk : fok m = true := by have := mb_iff.1 hf.2.2.2.2.2.2.2.2.2.1; have := hf.2.2.1; exact fok_iff.2 (by omega)
  exact ⟨hmk, by rw [catz_in hf.2.2.2.1 hmk]; exact gof_ok (Pol.fi_ok _)⟩
/-- The one part that is a member's. -/
def onePart (nc : Nat) (zc : Nat → Int) (msg : Int) (n : Nat) (S : Nat → SV) (j : Nat) : Int := lg (gmulF (S j).R (gpowF (catz nc zc (S j).m) (gW zc n (mS S) (S j).m (rP S n) msg)))
theorem one_ok (h : tsF need many ng zg nc zc msg n S = true) {j : Nat} (hj : j < n) : fok (onePart nc zc msg n S j) = true :=
  (lg_ok (gmul_ok (ts_so h hj).1 (gpow_ok (ga_cat' (ts_ga h hj)).2 (gW_ok _ _ _ _ _ _)))).1
theorem sf_one (h : tsF need many ng zg nc zc msg n S = true) {j : Nat} (hj : j < n) {z : Int} (hz : fok z = true) :
    sfF need many ng zg nc zc n (mS S) (S j).m (S j).R (rP S n) msg z = decide (z = onePart nc zc msg n S j) := by
  have hg := (ga_cat' (ts_ga h hj)).2
  have hl := lg_ok (gmul_ok (ts_so h hj).1 (gpow_ok hg (gW_ok zc n (mS S) (S j).m (rP S n) msg)))
  rw [sfF_yes ⟨ts_ga h hj, (ts_so h hj).1, ts_r h, ts_msg h, hz⟩]
  apply Bool.eq_iff_iff.2
  rw [beq_iff_eq, decide_eq_true_eq]
  exact ⟨fun e => (gof_same hz hl.1).1 (e.trans hl.2.symm), fun e => by rw [e]; exact hl.2⟩
theorem tb_one (h : tsF need many ng zg nc zc msg n S = true) {j : Nat} (hj : j < n) : tbE need many ng zg nc zc msg n S j = ((S j).on && !decide ((S j).Z = onePart nc zc msg n S j)) := by
  unfold tbE; rw [sf_one h hj (ts_so h hj).2.1]
theorem one_put (q : Nat) (z : Int) (j : Nat) : onePart nc zc msg n (putS S q z) j = onePart nc zc msg n S j := by
  unfold onePart; rw [mS_put, rP_put, put_R, put_m]
theorem tb_put_at (h : tsF need many ng zg nc zc msg n S = true) {q : Nat} (hq : q < n) {z : Int} (hz : fok z = true) : tbE need many ng zg nc zc msg n (putS S q z) q = !decide (z = onePart nc zc msg n S q) := by
  rw [tb_one (ts_put h hz) hq, put_at, one_put]; rfl
theorem tb_put_ne (h : tsF need many ng zg nc zc msg n S = true) {q j : Nat} (hj : j < n) (hne : j ≠ q) {z : Int} (hz : fok z = true) : tbE need many ng zg nc zc msg n (putS S q z) j = tbE need many ng zg nc zc msg n S j := by
  rw [tb_one (ts_put h hz) hj, tb_one h hj, put_ne hne, one_put]
/-! All parts together. -/
theorem psum_lin (f g : Nat → F) (c : F) : ∀ k, Ln.psum (fun j => f j + g j * c) k = Ln.psum f k + Ln.psum g k * c
  | 0 => by simp only [Ln.psum]; grind
  | k + 1 => by simp only [Ln.psum, psum_lin f g c k]; grind
theorem psum_congr {f g : Nat → F} : ∀ {k : Nat}, (∀ j, j < k → f j = g j) → Ln.psum f k = Ln.psum g k
  | 0, _ => rfl
  | k + 1, h => by
    have ih : Ln.psum f k = Ln.psum g k := psum_congr (fun j hj => h j (by omega))
    simp only [Ln.psum]; rw [ih, h k (by omega)]
theorem rP_sum : ∀ {k : Nat}, (∀ j, j < k → gok (S j).R = true) → rP S k = gofF (fi (Ln.psum (fun j => cv (lg (S j).R)) k))
  | 0, _ => by simp only [rP, Ln.psum, fi_zero]; exact gof_zero.symm
  | k + 1, h => by
    have hl := lg_ok (h k (by omega))
    simp only [rP, Ln.psum]
    rw [rP_sum (fun j hj => h j (by omega)), ← fi_sum, gof_sum (fi_ok _) (fi_ok _), fi_cv hl.1, hl.2]
theorem zP_sum : ∀ {k : Nat}, (∀ j, j < k → fok (S j).Z = true) → zP S k = fi (Ln.psum (fun j => cv (S j).Z) k)
  | 0, _ => rfl
  | k + 1, h => by
    simp only [zP, Ln.psum]
    rw [zP_sum (fun j hj => h j (by omega)), ← fi_sum, fi_cv (h k (by omega))]
theorem ses_sig (h : tsF need many ng zg nc zc msg n S = true) (hb : (tbL need many ng zg nc zc msg n S n).length = 0) (ho : onA S n = true) : sgF (kpub need many ng zg nc zc) msg (rP S n) (zP S n) = true := by
  obtain ⟨⟨k1, k2, k3⟩, kn, kc, hn, hn5, hp, _, _, _⟩ := ts_facts h
  have hck := cokz_iff.1 kc
  have hg0 := hck.2.2 0 (by omega)
  have hl0 := lg_ok hg0
  rw [kpub_yes (so_iff.1 h).2.1, sgF_in hg0 (ts_msg h) (ts_r h) zP_ok, beq_iff_eq]
  have hH := hz_ok (rP S n) (zc 0) msg
  generalize hHe : hz (rP S n) (zc 0) msg = H at *
  have hzj : ∀ j, j < n → cv (S j).Z = cv (lg (S j).R) + (lag (fl (mS S) n) j 0 * ev (fl (lz zc) nc) (cv (mS S j))) * cv H := by
    intro j hj
    have hne := tbL_none.1 hb j hj
    have hon := onA_iff.1 ho j hj
    rw [tb_one h hj, hon] at hne
    have hz : (S j).Z = onePart nc zc msg n S j := by simpa using hne
    have hga := ts_ga h hj
    have hmk := (ga_cat' hga).1
    have hlr := lg_ok (ts_so h hj).1
    have hR := lz_ok (z := fun j => (S j).R) (j := j) (ts_so h hj).1
    have e1 : onePart nc zc msg n S j = sumF (lg (S j).R) (mulF (fi (ev (fl (lz zc) nc) (cv (S j).m))) (gW zc n (mS S) (S j).m (rP S n) msg)) := by
      unfold onePart
      rw [catz_in kc hmk, gpow_of (fi_ok _) (gW_ok _ _ _ _ _ _)]
      have hs := sumF_ok (lg (S j).R) (mulF (fi (ev (fl (lz zc) nc) (cv (S j).m))) (gW zc n (mS S) (S j).m (rP S n) msg))
      have hl2 := lg_ok (gmul_ok (ts_so h hj).1 (gof_ok (mulF_ok (fi (ev (fl (lz zc) nc) (cv (S j).m))) (gW zc n (mS S) (S j).m (rP S n) msg))))
      refine (gof_same hl2.1 hs).1 ?_
      rw [hl2.2, gof_sum hlr.1 (mulF_ok _ _), hlr.2]
    have e2 : gW zc n (mS S) (S j).m (rP S n) msg = mulF (fi (lag (fl (mS S) n) j 0)) (fi (cv H)) := by
      unfold gW; rw [ts_pos h hj, hHe, fi_cv hH]; rfl
    rw [hz, e1, e2, fi_mul, fi_mul]
    rw [show lg (S j).R = fi (cv (lg (S j).R)) from (fi_cv hlr.1).symm, fi_sum, cv_fi, cv_fi]
    show _ = cv (lg (S j).R) + (lag (fl (mS S) n) j 0 * ev (fl (lz zc) nc) (cv (S j).m)) * cv H
    grind
  have hsum : Ln.psum (fun j => cv (S j).Z) n = Ln.psum (fun j => cv (lg (S j).R)) n + ev (fl (lz zc) nc) 0 * cv H := by
    rw [psum_congr hzj, psum_lin]
    have hlv := Ln.line_value (n := n) (z := mS S) (p := fl (lz zc) nc) (x := 0) hp (by omega) (by rw [fl_length]; omega)
    have e0 : cv 0 = (0 : F) := rfl
    rw [e0] at hlv
    rw [hlv]
  have hP0 : ev (fl (lz zc) nc) 0 = cv (lg (zc 0)) := by
    rw [Pol.ev_zero]
    have e := fl_getD (lz zc) (show 0 < nc by omega)
    rw [← List.headD_eq_getD] at e
    exact e
  rw [zP_sum (fun j hj => (ts_so h hj).2.1), rP_sum (so_R h), hsum, hP0]
  rw [show gpowF (zc 0) H = gofF (mulF (lg (zc 0)) H) from (congrArg (fun t => gpowF t H) hl0.2.symm).trans (gpow_of hl0.1 hH), gmul_of (fi_ok _) (mulF_ok _ _)]
  rw [show mulF (lg (zc 0)) H = fi (cv (lg (zc 0)) * cv H) by rw [← fi_mul, fi_cv hl0.1, fi_cv hH], fi_sum]
theorem pt_comm (h : tsF need many ng zg nc zc msg n S = true) {m o : Int} (hm : hasz (mS S) m n = true) (ho : hasz (mS S) o n = true) (hne : o ≠ m) (z y : Int) : ptS (ptS S m n z) o n y = ptS (ptS S o n y) m n z := by
  have e1 : hasz (mS (ptS S m n z)) o n = true := by rw [mS_pt]; exact ho
  have e2 : hasz (mS (ptS S o n y)) m n = true := by rw [mS_pt]; exact hm
  rw [ptS_yes e1, ptS_yes e2, mS_pt, mS_pt, ptS_yes hm, ptS_yes ho]
  obtain ⟨p1, p2⟩ := pos_lt hm
  obtain ⟨q1, q2⟩ := pos_lt ho
  have hpq : posz (mS S) o n ≠ posz (mS S) m n := fun e => hne (by rw [← q2, ← p2, e])
  generalize posz (mS S) o n = q at *
  generalize posz (mS S) m n = p at *
  funext j
  unfold putS
  by_cases h1 : j = q
  · subst h1; simp [hpq]
  · by_cases h2 : j = p
    · subst h2; simp [h1]
    · simp [h1, h2]
end
end Con
end Go.Proofs.YthbigmcklacbnaaGreatDoor
/-
  Sessions: the program's functions: the signers, what is fine, what all showed together.
-/

namespace Go.Proofs.YthbigmcklacbnaaGreatDoor
namespace Con
open Go.RowKit Alg Mem Draw
set_option linter.unusedVariables false

set_option maxRecDepth 100000 in
set_option maxHeartbeats 1000000 in
theorem isgnof (w : World) (need many : Int) (s1 s2 : Value) (msg : Int) (a : Option Addr) (len cap : Nat) (S : Nat → SV) (hS : ShIn w a len S) (hl : len ≤ 2000000) :
    Calls Tryz.prog 28 #[.agg #[.int .i64 need, .int .i64 many, s1, s2, .int .i64 msg, .slice a len cap]] w (NewRow 3 w len (mS S)) := by
  have G0 := Lib.hid (Draw.grown_alloc w (.cells #[.int .i64 need, .int .i64 many, s1, s2, .int .i64 msg, .slice a len cap] 30) none)
  have K0 := Lib.hid (Ss.of_blk (Blk.new w #[.int .i64 need, .int .i64 many, s1, s2, .int .i64 msg, .slice a len cap] 30))
  have HA0 := Lib.hid (hS.kept G0.out); clear hS
  have hs0 : (w.alloc (.cells #[.int .i64 need, .int .i64 many, s1, s2, .int .i64 msg, .slice a len cap] 30)).heap.size = w.heap.size + 1 := by show (w.heap.push _).size = _; simp
  have hr0 := first_row (w.alloc (.cells #[.int .i64 need, .int .i64 many, s1, s2, .int .i64 msg, .slice a len cap] 30)) 3 len (by unfold maxLen; omega) (mS S)
  rw [hs0] at hr0
  have R0 := Lib.hid hr0; have HS0 := Lib.hid hs0; clear hr0 hs0
  have hmk := run_make_row' (P := Tryz.prog) 23 3 (.int .i64 0) 8 und_ints info_int rfl .i64 .i64 len (by omega) (by omega)
  go_enter Tryz.func28, Tryz.ntmps28
  go_wp2
  go_loopw [13] (fun i wr => ∃ k : Nat, k ≤ len ∧ i = .int .i64 k ∧ Row wr (w.heap.size + 1) 3 (w.heap.size + 1) len len (fun j => if j < k then mS S j else 0) ∧ (w.alloc (.cells #[.int .i64 need, .int .i64 many, s1, s2, .int .i64 msg, .slice a len cap] 30)).grownBy wr none) (fun i _ => len - (intOf i).toNat)
  case atStart => exact ⟨0, by omega, rfl, R0.out, Draw.grown_alloc _ _ _⟩
  case round =>
    clear hmk
    obtain ⟨k, hk, rfl, hr, hg⟩ := hrel
    obtain ⟨W1, hW⟩ : ∃ W, W = wr := ⟨_, rfl⟩; subst hW
    have G := Lib.hid hg; have R := Lib.hid hr; have HA := Lib.hid (HA0.out.kept hg)
    clear hg hr
    have hw1 := G.out.size
    rw [HS0.out] at hw1
    by_cases hlt : k < len
    · obtain ⟨b, off, rfl, hb, hcc⟩ := HA.out.ptr (by omega)
      obtain ⟨x0, x1, x2, x3⟩ := hcc k hlt
      clear hcc
      go_wp2_with (refine stop_store rfl ?_)
      refine ⟨trivial, ?_⟩
      refine wpList_store_blk rfl 35 (.tmp 5) (.tmp 17) _ #[.int .i64 (S k).m, .int .i64 (S k).R, .bool (S k).on, .int .i64 (S k).Z] _ 35 (Blk.new W1 #[.int .i64 0, .int .i64 0, .bool false, .int .i64 0] 35) rfl rfl rfl rfl (by kernel_rfl) (by simp [Value.oneCell']) rfl ?_
      intro W2 hgV hTV
      have hg : W1.grownBy W2 none := grown_new (grown_alloc W1 (.cells #[.int .i64 0, .int .i64 0, .bool false, .int .i64 0] 35) none) (Nat.le_refl _) hgV
      have T := Lib.hid hTV
      clear hgV hTV x0 x1 x2 x3
      replace G := Lib.hid (gtr G.out hg)
      replace R := Lib.hid (R.out.keptN hg)
      clear hg
      have ht := T.out.cell 0
      have c0 := zero_row R.out hlt
      have f0 := R.out.frozen k
      have R2 := Lib.hid (step_row R.out)
      go_wp2
      go_roundw
      case rel => exact ⟨k + 1, by omega, by go_num, R2.out, grown_new G.out (by rw [HS0.out]; exact Nat.le_refl _) (grown_set _ _ _ _)⟩
      case measure => simp [intOf]; omega
    · obtain rfl : k = len := by omega
      have R2 := Lib.hid (full_row R.out)
      go_wp2
      go_ret
      exact ⟨_, rfl, R2.out.lower (by omega), gtr G0.out G.out⟩
theorem ishok (w : World) (s : SV) : Calls Tryz.prog 29 #[.agg #[.int .i64 s.m, .int .i64 s.R, .bool s.on, .int .i64 s.Z]] w fun e w' => e = .returned (.bool (soE s)) ∧ w.grownBy w' none := by
  obtain ⟨m, R, on, Z⟩ := s
  have G := Lib.hid (Draw.grown_alloc w (.cells #[.int .i64 m, .int .i64 R, .bool on, .int .i64 Z] 35) none)
  have B := Lib.hid (Blk.new w #[.int .i64 m, .int .i64 R, .bool on, .int .i64 Z] 35)
  go_enter Tryz.func29, Tryz.ntmps29
  have b1 : World.cell? _ ⟨w.heap.size, 1, none⟩ = some (.int .i64 R) := B.out.cell 1
  rcases gokc R with h1 | h1
  case inr =>
    go_wp2_with fail
    refine (igok_no _ _ h1).mono ?_
    rintro e w1 ⟨rfl, hg⟩
    replace G := Lib.hid (gtr G.out hg)
    replace B := Lib.hid (B.out.keptN hg)
    clear hg
    go_wp2
    go_ret
    exact ⟨ret_b (by simp [soE, h1]), G.out⟩
  have HR := Lib.hid h1
  go_wp2_with fail
  refine (igok_yes _ _ h1).mono ?_
  rintro e w1 ⟨rfl, hg⟩
  replace G := Lib.hid (gtr G.out hg)
  replace B := Lib.hid (B.out.keptN hg)
  clear hg
  have c2 : World.cell? _ ⟨w.heap.size, 2, none⟩ = some (.bool on) := B.out.cell 2
  have c3 : World.cell? _ ⟨w.heap.size, 3, none⟩ = some (.int .i64 Z) := B.out.cell 3
  rcases fokc Z with h2 | h2
  case inr =>
    go_wp2_with fail
    refine (iok_no _ _ h2).mono ?_
    rintro e w' ⟨rfl, rfl⟩
    go_wp2
    go_ret
    exact ⟨ret_b (by simp [soE, HR.out, h2]), G.out⟩
  have HZ := Lib.hid h2
  go_wp2_with fail
  refine (iok_yes _ _ h2).mono ?_
  rintro e w' ⟨rfl, rfl⟩
  clear h2
  cases on with
  | true =>
    go_wp2
    go_ret
    exact ⟨ret_b (by simp [soE, HR.out, HZ.out]), G.out⟩
  | false =>
    go_wp2
    go_ret
    exact ⟨ret_b (by simp [soE, HR.out, HZ.out]), G.out⟩
set_option maxRecDepth 100000 in
set_option maxHeartbeats 4000000 in
theorem i32ok (w : World) (need many : Int) (ag : Option Addr) (ng cg : Nat) (zg : Nat → Int) (ac : Option Addr) (nc cc : Nat) (zc : Nat → Int) (msg : Int) (a : Option Addr) (len cap : Nat) (S : Nat → SV) (hG : Ints w ag ng zg) (hC : Ints w ac nc zc) (hS : ShIn w a len S) (hl1 : ng ≤ 2000000) (hl2 : nc ≤ 2000000) (hl : len ≤ 2000000) :
    Calls Tryz.prog 9 #[.agg #[.int .i64 need, .int .i64 many, .slice ag ng cg, .slice ac nc cc, .int .i64 msg, .slice a len cap]] w fun e w' => e = .returned (.bool (tsF need many ng zg nc zc msg len S)) ∧ w.grownBy w' none := by
  have G := Lib.hid (Draw.grown_alloc w (.cells #[.int .i64 need, .int .i64 many, .slice ag ng cg, .slice ac nc cc, .int .i64 msg, .slice a len cap] 30) none)
  have K := Lib.hid (Ss.of_blk (Blk.new w #[.int .i64 need, .int .i64 many, .slice ag ng cg, .slice ac nc cc, .int .i64 msg, .slice a len cap] 30))
  have HG := Lib.hid (hG.kept G.out); have HC := Lib.hid (hC.kept G.out); have HA := Lib.hid (hS.kept G.out)
  clear hG hC hS
  go_enter Tryz.func9, Tryz.ntmps9
  go_wp2_with fail
  cases h1 : kyF need many ng zg nc zc with
  | false =>
    have HR := Lib.hid (so_not (need := need) (many := many) (ng := ng) (zg := zg) (nc := nc) (zc := zc) (msg := msg) (n := len) (S := S) (by simp [h1]))
    refine wp_region_held_drew (S := (fun w' => w'.cell? ⟨w.heap.size, 0, none⟩ = some (.int .i64 need) ∧ w'.cell? ⟨w.heap.size, 1, none⟩ = some (.int .i64 many) ∧ w'.cell? ⟨w.heap.size, 2, none⟩ = some (.slice ag ng cg) ∧ w'.cell? ⟨w.heap.size, 3, none⟩ = some (.slice ac nc cc) ∧ w'.cell? ⟨w.heap.size, 4, none⟩ = some (.int .i64 msg) ∧ w'.cell? ⟨w.heap.size, 5, none⟩ = some (.slice a len cap))) (by kernel_rfl) (⟨K.out.c0, K.out.c1, K.out.c2, K.out.c3, K.out.c4, K.out.c5⟩) (fun hHeld => ?_)
    have hg := Draw.gdrew (w.alloc (.cells #[.int .i64 need, .int .i64 many, .slice ag ng cg, .slice ac nc cc, .int .i64 msg, .slice a len cap] 30))
    replace G := Lib.hid (gtr G.out hg)
    replace K := Lib.hid (K.out.kept hg)
    replace HG := Lib.hid (HG.out.kept hg)
    replace HC := Lib.hid (HC.out.kept hg)
    replace HA := Lib.hid (HA.out.kept hg)
    clear hg
    generalize ((w.alloc (.cells #[.int .i64 need, .int .i64 many, .slice ag ng cg, .slice ac nc cc, .int .i64 msg, .slice a len cap] 30))).drew = W at *
    refine wpAnyH_take (i := 0) (oi := ⟨some 5, _, _, _, _, _⟩) (v := ?_) rfl (by kernel_rfl) (by kernel_rfl) (by kernel_rfl) (fun _ _ _ h => h) (Or.inl ⟨by rfl, ?_⟩) (by assumption) ?_
    rotate_left
    · intro w hSw; (try dsimp only at hSw); go_simp; try with_reducible rfl
    simp only [Act.put, List.setIfInBounds_toArray, List.set_cons_zero, List.set_cons_succ]
    refine wpAnyH_take (i := 1) (oi := ⟨some 6, _, _, _, _, _⟩) (v := ?_) rfl (by kernel_rfl) (by kernel_rfl) (by kernel_rfl) (fun _ _ _ h => h) (Or.inl ⟨by rfl, ?_⟩) (by assumption) ?_
    rotate_left
    · intro w hSw; (try dsimp only at hSw); go_simp; try with_reducible rfl
    simp only [Act.put, List.setIfInBounds_toArray, List.set_cons_zero, List.set_cons_succ]
    refine wpAnyH_ready (rs := [2]) (by kernel_rfl) (by simp) ?_
    refine AllReadyH.cons (o := ⟨some 7, _, _, _, _, _⟩) rfl (fun Kq hKq => ?_) AllReadyH.nil
    go_simp
    go_at_call 25
    refine (ikeyok _ need many _ ng _ zg _ nc _ zc HG.out HC.out hl1 hl2).mono ?_
    rintro e w2 ⟨rfl, hg⟩
    rw [h1]
    replace G := Lib.hid (gtr G.out hg)
    replace K := Lib.hid (K.out.kept hg)
    replace HG := Lib.hid (HG.out.kept hg)
    replace HC := Lib.hid (HC.out.kept hg)
    replace HA := Lib.hid (HA.out.kept hg)
    clear hg
    refine hKq.out _ _ (⟨K.out.c0, K.out.c1, K.out.c2, K.out.c3, K.out.c4, K.out.c5⟩) (fun hHeld => ?_)
    clear hKq Kq
    refine wpAnyH_take (i := 3) (oi := ⟨some 8, _, _, _, _, _⟩) (v := ?_) rfl (by kernel_rfl) (by kernel_rfl) (by kernel_rfl) (fun _ _ _ h => h) (Or.inl ⟨by rfl, ?_⟩) (by assumption) ?_
    rotate_left
    · intro w hSw; (try dsimp only at hSw); go_simp; try with_reducible rfl
    simp only [Act.put, List.setIfInBounds_toArray, List.set_cons_zero, List.set_cons_succ]
    refine wpAnyH_take (i := 4) (oi := ⟨some 9, _, _, _, _, _⟩) (v := ?_) rfl (by kernel_rfl) (by kernel_rfl) (by kernel_rfl) (fun _ _ _ h => h) (Or.inl ⟨by rfl, ?_⟩) (by assumption) ?_
    rotate_left
    · intro w hSw; (try dsimp only at hSw); go_simp; try with_reducible rfl
    simp only [Act.put, List.setIfInBounds_toArray, List.set_cons_zero, List.set_cons_succ]
    refine wpAnyH_take (i := 5) (oi := ⟨some 10, _, _, _, _, _⟩) (v := undef) rfl (by kernel_rfl) (by kernel_rfl) (by kernel_rfl) (fun _ _ _ h => h) (Or.inr ⟨by rfl, rfl⟩) (by assumption) ?_
    simp only [Act.put, List.setIfInBounds_toArray, List.set_cons_zero, List.set_cons_succ]
    refine wpAnyH_take (i := 6) (oi := ⟨some 11, _, _, _, _, _⟩) (v := undef) rfl (by kernel_rfl) (by kernel_rfl) (by kernel_rfl) (fun _ _ _ h => h) (Or.inr ⟨by rfl, rfl⟩) (by assumption) ?_
    simp only [Act.put, List.setIfInBounds_toArray, List.set_cons_zero, List.set_cons_succ]
    refine wpAnyH_take (i := 7) (oi := ⟨some 12, _, _, _, _, _⟩) (v := undef) rfl (by kernel_rfl) (by kernel_rfl) (by kernel_rfl) (fun _ _ _ h => h) (Or.inr ⟨by rfl, rfl⟩) (by assumption) ?_
    simp only [Act.put, List.setIfInBounds_toArray, List.set_cons_zero, List.set_cons_succ]
    refine wpAnyH_take (i := 8) (oi := ⟨some 13, _, _, _, _, _⟩) (v := undef) rfl (by kernel_rfl) (by kernel_rfl) (by kernel_rfl) (fun _ _ _ h => h) (Or.inr ⟨by rfl, rfl⟩) (by assumption) ?_
    simp only [Act.put, List.setIfInBounds_toArray, List.set_cons_zero, List.set_cons_succ]
    refine wpAnyH_take (i := 9) (oi := ⟨some 14, _, _, _, _, _⟩) (v := ?_) rfl (by kernel_rfl) (by kernel_rfl) (by kernel_rfl) (fun _ _ _ h => h) (Or.inl ⟨by rfl, ?_⟩) (by assumption) ?_
    rotate_left
    · intro w hSw; (try dsimp only at hSw); go_simp; try with_reducible rfl
    simp only [Act.put, List.setIfInBounds_toArray, List.set_cons_zero, List.set_cons_succ]
    refine wpAnyH_take (i := 10) (oi := ⟨some 15, _, _, _, _, _⟩) (v := ?_) rfl (by kernel_rfl) (by kernel_rfl) (by kernel_rfl) (fun _ _ _ h => h) (Or.inl ⟨by rfl, ?_⟩) (by assumption) ?_
    rotate_left
    · intro w hSw; (try dsimp only at hSw); go_simp; try with_reducible rfl
    simp only [Act.put, List.setIfInBounds_toArray, List.set_cons_zero, List.set_cons_succ]
    refine wpAnyH_take (i := 11) (oi := ⟨some 16, _, _, _, _, _⟩) (v := undef) rfl (by kernel_rfl) (by kernel_rfl) (by kernel_rfl) (fun _ _ _ h => h) (Or.inr ⟨by rfl, rfl⟩) (by assumption) ?_
    simp only [Act.put, List.setIfInBounds_toArray, List.set_cons_zero, List.set_cons_succ]
    refine wpAnyH_take (i := 12) (oi := ⟨some 17, _, _, _, _, _⟩) (v := undef) rfl (by kernel_rfl) (by kernel_rfl) (by kernel_rfl) (fun _ _ _ h => h) (Or.inr ⟨by rfl, rfl⟩) (by assumption) ?_
    simp only [Act.put, List.setIfInBounds_toArray, List.set_cons_zero, List.set_cons_succ]
    refine wpAnyH_take (i := 13) (oi := ⟨some 18, _, _, _, _, _⟩) (v := undef) rfl (by kernel_rfl) (by kernel_rfl) (by kernel_rfl) (fun _ _ _ h => h) (Or.inr ⟨by rfl, rfl⟩) (by assumption) ?_
    simp only [Act.put, List.setIfInBounds_toArray, List.set_cons_zero, List.set_cons_succ]
    refine wpAnyH_take (i := 14) (oi := ⟨some 19, _, _, _, _, _⟩) (v := undef) rfl (by kernel_rfl) (by kernel_rfl) (by kernel_rfl) (fun _ _ _ h => h) (Or.inr ⟨by rfl, rfl⟩) (by assumption) ?_
    simp only [Act.put, List.setIfInBounds_toArray, List.set_cons_zero, List.set_cons_succ]
    refine wpAnyH_take (i := 15) (oi := ⟨some 20, _, _, _, _, _⟩) (v := undef) rfl (by kernel_rfl) (by kernel_rfl) (by kernel_rfl) (fun _ _ _ h => h) (Or.inr ⟨by rfl, rfl⟩) (by assumption) ?_
    simp only [Act.put, List.setIfInBounds_toArray, List.set_cons_zero, List.set_cons_succ]
    refine wpAnyH_take (i := 16) (oi := ⟨some 21, _, _, _, _, _⟩) (v := undef) rfl (by kernel_rfl) (by kernel_rfl) (by kernel_rfl) (fun _ _ _ h => h) (Or.inr ⟨by rfl, rfl⟩) (by assumption) ?_
    simp only [Act.put, List.setIfInBounds_toArray, List.set_cons_zero, List.set_cons_succ]
    refine wpAnyH_take (i := 17) (oi := ⟨some 22, _, _, _, _, _⟩) (v := ?_) rfl (by kernel_rfl) (by kernel_rfl) (by kernel_rfl) (fun _ _ _ h => h) (Or.inl ⟨by rfl, ?_⟩) (by assumption) ?_
    rotate_left
    · intro w hSw; (try dsimp only at hSw); go_simp; try with_reducible rfl
    simp only [Act.put, List.setIfInBounds_toArray, List.set_cons_zero, List.set_cons_succ]
    refine wpAnyH_done (by kernel_rfl) ?_ _
    go_wp2
    go_ret
    exact ⟨ret_b HR.out.symm, G.out⟩
  | true =>
    rcases mok_cases msg with h2 | h2
    case inr =>
      have HR := Lib.hid (so_not (need := need) (many := many) (ng := ng) (zg := zg) (nc := nc) (zc := zc) (msg := msg) (n := len) (S := S) (by simp [h2]))
      refine wp_region_held_drew (S := (fun w' => w'.cell? ⟨w.heap.size, 0, none⟩ = some (.int .i64 need) ∧ w'.cell? ⟨w.heap.size, 1, none⟩ = some (.int .i64 many) ∧ w'.cell? ⟨w.heap.size, 2, none⟩ = some (.slice ag ng cg) ∧ w'.cell? ⟨w.heap.size, 3, none⟩ = some (.slice ac nc cc) ∧ w'.cell? ⟨w.heap.size, 4, none⟩ = some (.int .i64 msg) ∧ w'.cell? ⟨w.heap.size, 5, none⟩ = some (.slice a len cap))) (by kernel_rfl) (⟨K.out.c0, K.out.c1, K.out.c2, K.out.c3, K.out.c4, K.out.c5⟩) (fun hHeld => ?_)
      have hg := Draw.gdrew (w.alloc (.cells #[.int .i64 need, .int .i64 many, .slice ag ng cg, .slice ac nc cc, .int .i64 msg, .slice a len cap] 30))
      replace G := Lib.hid (gtr G.out hg)
      replace K := Lib.hid (K.out.kept hg)
      replace HG := Lib.hid (HG.out.kept hg)
      replace HC := Lib.hid (HC.out.kept hg)
      replace HA := Lib.hid (HA.out.kept hg)
      clear hg
      generalize ((w.alloc (.cells #[.int .i64 need, .int .i64 many, .slice ag ng cg, .slice ac nc cc, .int .i64 msg, .slice a len cap] 30))).drew = W at *
      refine wpAnyH_take (i := 0) (oi := ⟨some 5, _, _, _, _, _⟩) (v := ?_) rfl (by kernel_rfl) (by kernel_rfl) (by kernel_rfl) (fun _ _ _ h => h) (Or.inl ⟨by rfl, ?_⟩) (by assumption) ?_
      rotate_left
      · intro w hSw; (try dsimp only at hSw); go_simp; try with_reducible rfl
      simp only [Act.put, List.setIfInBounds_toArray, List.set_cons_zero, List.set_cons_succ]
      refine wpAnyH_take (i := 1) (oi := ⟨some 6, _, _, _, _, _⟩) (v := ?_) rfl (by kernel_rfl) (by kernel_rfl) (by kernel_rfl) (fun _ _ _ h => h) (Or.inl ⟨by rfl, ?_⟩) (by assumption) ?_
      rotate_left
      · intro w hSw; (try dsimp only at hSw); go_simp; try with_reducible rfl
      simp only [Act.put, List.setIfInBounds_toArray, List.set_cons_zero, List.set_cons_succ]
      refine wpAnyH_ready (rs := [2]) (by kernel_rfl) (by simp) ?_
      refine AllReadyH.cons (o := ⟨some 7, _, _, _, _, _⟩) rfl (fun Kq hKq => ?_) AllReadyH.nil
      go_simp
      go_at_call 25
      refine (ikeyok _ need many _ ng _ zg _ nc _ zc HG.out HC.out hl1 hl2).mono ?_
      rintro e w2 ⟨rfl, hg⟩
      rw [h1]
      replace G := Lib.hid (gtr G.out hg)
      replace K := Lib.hid (K.out.kept hg)
      replace HG := Lib.hid (HG.out.kept hg)
      replace HC := Lib.hid (HC.out.kept hg)
      replace HA := Lib.hid (HA.out.kept hg)
      clear hg
      refine hKq.out _ _ (⟨K.out.c0, K.out.c1, K.out.c2, K.out.c3, K.out.c4, K.out.c5⟩) (fun hHeld => ?_)
      clear hKq Kq
      refine wpAnyH_take (i := 3) (oi := ⟨some 8, _, _, _, _, _⟩) (v := ?_) rfl (by kernel_rfl) (by kernel_rfl) (by kernel_rfl) (fun _ _ _ h => h) (Or.inl ⟨by rfl, ?_⟩) (by assumption) ?_
      rotate_left
      · intro w hSw; (try dsimp only at hSw); go_simp; try with_reducible rfl
      simp only [Act.put, List.setIfInBounds_toArray, List.set_cons_zero, List.set_cons_succ]
      refine wpAnyH_take (i := 4) (oi := ⟨some 9, _, _, _, _, _⟩) (v := ?_) rfl (by kernel_rfl) (by kernel_rfl) (by kernel_rfl) (fun _ _ _ h => h) (Or.inl ⟨by rfl, ?_⟩) (by assumption) ?_
      rotate_left
      · intro w hSw; (try dsimp only at hSw); go_simp; try with_reducible rfl
      simp only [Act.put, List.setIfInBounds_toArray, List.set_cons_zero, List.set_cons_succ]
      refine wpAnyH_take (i := 5) (oi := ⟨some 10, _, _, _, _, _⟩) (v := ?_) rfl (by kernel_rfl) (by kernel_rfl) (by kernel_rfl) (fun _ _ _ h => h) (Or.inl ⟨by rfl, ?_⟩) (by assumption) ?_
      rotate_left
      · intro w hSw; (try dsimp only at hSw); go_simp; try with_reducible rfl
      simp only [Act.put, List.setIfInBounds_toArray, List.set_cons_zero, List.set_cons_succ]
      refine wpAnyH_take (i := 6) (oi := ⟨some 11, _, _, _, _, _⟩) (v := ?_) rfl (by kernel_rfl) (by kernel_rfl) (by kernel_rfl) (fun _ _ _ h => h) (Or.inl ⟨by rfl, ?_⟩) (by assumption) ?_
      rotate_left
      · intro w hSw; (try dsimp only at hSw); go_simp; try with_reducible rfl
      simp only [Act.put, List.setIfInBounds_toArray, List.set_cons_zero, List.set_cons_succ]
      refine wpAnyH_ready (rs := [7]) (by kernel_rfl) (by simp) ?_
      refine AllReadyH.cons (o := ⟨some 12, _, _, _, _, _⟩) rfl (fun Kq hKq => ?_) AllReadyH.nil
      go_simp
      go_at_call 26
      refine (imsg_no _ _ h2).mono ?_
      rintro e w3 ⟨rfl, rfl⟩
      refine hKq.out _ _ (⟨K.out.c0, K.out.c1, K.out.c2, K.out.c3, K.out.c4, K.out.c5⟩) (fun hHeld => ?_)
      clear hKq Kq
      refine wpAnyH_take (i := 8) (oi := ⟨some 13, _, _, _, _, _⟩) (v := ?_) rfl (by kernel_rfl) (by kernel_rfl) (by kernel_rfl) (fun _ _ _ h => h) (Or.inl ⟨by rfl, ?_⟩) (by assumption) ?_
      rotate_left
      · intro w hSw; (try dsimp only at hSw); go_simp; try with_reducible rfl
      simp only [Act.put, List.setIfInBounds_toArray, List.set_cons_zero, List.set_cons_succ]
      refine wpAnyH_take (i := 9) (oi := ⟨some 14, _, _, _, _, _⟩) (v := ?_) rfl (by kernel_rfl) (by kernel_rfl) (by kernel_rfl) (fun _ _ _ h => h) (Or.inl ⟨by rfl, ?_⟩) (by assumption) ?_
      rotate_left
      · intro w hSw; (try dsimp only at hSw); go_simp; try with_reducible rfl
      simp only [Act.put, List.setIfInBounds_toArray, List.set_cons_zero, List.set_cons_succ]
      refine wpAnyH_take (i := 10) (oi := ⟨some 15, _, _, _, _, _⟩) (v := ?_) rfl (by kernel_rfl) (by kernel_rfl) (by kernel_rfl) (fun _ _ _ h => h) (Or.inl ⟨by rfl, ?_⟩) (by assumption) ?_
      rotate_left
      · intro w hSw; (try dsimp only at hSw); go_simp; try with_reducible rfl
      simp only [Act.put, List.setIfInBounds_toArray, List.set_cons_zero, List.set_cons_succ]
      refine wpAnyH_take (i := 11) (oi := ⟨some 16, _, _, _, _, _⟩) (v := undef) rfl (by kernel_rfl) (by kernel_rfl) (by kernel_rfl) (fun _ _ _ h => h) (Or.inr ⟨by rfl, rfl⟩) (by assumption) ?_
      simp only [Act.put, List.setIfInBounds_toArray, List.set_cons_zero, List.set_cons_succ]
      refine wpAnyH_take (i := 12) (oi := ⟨some 17, _, _, _, _, _⟩) (v := undef) rfl (by kernel_rfl) (by kernel_rfl) (by kernel_rfl) (fun _ _ _ h => h) (Or.inr ⟨by rfl, rfl⟩) (by assumption) ?_
      simp only [Act.put, List.setIfInBounds_toArray, List.set_cons_zero, List.set_cons_succ]
      refine wpAnyH_take (i := 13) (oi := ⟨some 18, _, _, _, _, _⟩) (v := undef) rfl (by kernel_rfl) (by kernel_rfl) (by kernel_rfl) (fun _ _ _ h => h) (Or.inr ⟨by rfl, rfl⟩) (by assumption) ?_
      simp only [Act.put, List.setIfInBounds_toArray, List.set_cons_zero, List.set_cons_succ]
      refine wpAnyH_take (i := 14) (oi := ⟨some 19, _, _, _, _, _⟩) (v := undef) rfl (by kernel_rfl) (by kernel_rfl) (by kernel_rfl) (fun _ _ _ h => h) (Or.inr ⟨by rfl, rfl⟩) (by assumption) ?_
      simp only [Act.put, List.setIfInBounds_toArray, List.set_cons_zero, List.set_cons_succ]
      refine wpAnyH_take (i := 15) (oi := ⟨some 20, _, _, _, _, _⟩) (v := undef) rfl (by kernel_rfl) (by kernel_rfl) (by kernel_rfl) (fun _ _ _ h => h) (Or.inr ⟨by rfl, rfl⟩) (by assumption) ?_
      simp only [Act.put, List.setIfInBounds_toArray, List.set_cons_zero, List.set_cons_succ]
      refine wpAnyH_take (i := 16) (oi := ⟨some 21, _, _, _, _, _⟩) (v := undef) rfl (by kernel_rfl) (by kernel_rfl) (by kernel_rfl) (fun _ _ _ h => h) (Or.inr ⟨by rfl, rfl⟩) (by assumption) ?_
      simp only [Act.put, List.setIfInBounds_toArray, List.set_cons_zero, List.set_cons_succ]
      refine wpAnyH_take (i := 17) (oi := ⟨some 22, _, _, _, _, _⟩) (v := ?_) rfl (by kernel_rfl) (by kernel_rfl) (by kernel_rfl) (fun _ _ _ h => h) (Or.inl ⟨by rfl, ?_⟩) (by assumption) ?_
      rotate_left
      · intro w hSw; (try dsimp only at hSw); go_simp; try with_reducible rfl
      simp only [Act.put, List.setIfInBounds_toArray, List.set_cons_zero, List.set_cons_succ]
      refine wpAnyH_done (by kernel_rfl) ?_ _
      go_wp2
      go_ret
      exact ⟨ret_b HR.out.symm, G.out⟩
    cases h3 : crw need many len (mS S) with
    | false =>
      have HR := Lib.hid (so_not (need := need) (many := many) (ng := ng) (zg := zg) (nc := nc) (zc := zc) (msg := msg) (n := len) (S := S) (by simp [h3]))
      refine wp_region_held_drew (S := (fun w' => w'.cell? ⟨w.heap.size, 0, none⟩ = some (.int .i64 need) ∧ w'.cell? ⟨w.heap.size, 1, none⟩ = some (.int .i64 many) ∧ w'.cell? ⟨w.heap.size, 2, none⟩ = some (.slice ag ng cg) ∧ w'.cell? ⟨w.heap.size, 3, none⟩ = some (.slice ac nc cc) ∧ w'.cell? ⟨w.heap.size, 4, none⟩ = some (.int .i64 msg) ∧ w'.cell? ⟨w.heap.size, 5, none⟩ = some (.slice a len cap))) (by kernel_rfl) (⟨K.out.c0, K.out.c1, K.out.c2, K.out.c3, K.out.c4, K.out.c5⟩) (fun hHeld => ?_)
      have hg := Draw.gdrew (w.alloc (.cells #[.int .i64 need, .int .i64 many, .slice ag ng cg, .slice ac nc cc, .int .i64 msg, .slice a len cap] 30))
      replace G := Lib.hid (gtr G.out hg)
      replace K := Lib.hid (K.out.kept hg)
      replace HG := Lib.hid (HG.out.kept hg)
      replace HC := Lib.hid (HC.out.kept hg)
      replace HA := Lib.hid (HA.out.kept hg)
      clear hg
      generalize ((w.alloc (.cells #[.int .i64 need, .int .i64 many, .slice ag ng cg, .slice ac nc cc, .int .i64 msg, .slice a len cap] 30))).drew = W at *
      refine wpAnyH_take (i := 0) (oi := ⟨some 5, _, _, _, _, _⟩) (v := ?_) rfl (by kernel_rfl) (by kernel_rfl) (by kernel_rfl) (fun _ _ _ h => h) (Or.inl ⟨by rfl, ?_⟩) (by assumption) ?_
      rotate_left
      · intro w hSw; (try dsimp only at hSw); go_simp; try with_reducible rfl
      simp only [Act.put, List.setIfInBounds_toArray, List.set_cons_zero, List.set_cons_succ]
      refine wpAnyH_take (i := 1) (oi := ⟨some 6, _, _, _, _, _⟩) (v := ?_) rfl (by kernel_rfl) (by kernel_rfl) (by kernel_rfl) (fun _ _ _ h => h) (Or.inl ⟨by rfl, ?_⟩) (by assumption) ?_
      rotate_left
      · intro w hSw; (try dsimp only at hSw); go_simp; try with_reducible rfl
      simp only [Act.put, List.setIfInBounds_toArray, List.set_cons_zero, List.set_cons_succ]
      refine wpAnyH_ready (rs := [2]) (by kernel_rfl) (by simp) ?_
      refine AllReadyH.cons (o := ⟨some 7, _, _, _, _, _⟩) rfl (fun Kq hKq => ?_) AllReadyH.nil
      go_simp
      go_at_call 25
      refine (ikeyok _ need many _ ng _ zg _ nc _ zc HG.out HC.out hl1 hl2).mono ?_
      rintro e w2 ⟨rfl, hg⟩
      rw [h1]
      replace G := Lib.hid (gtr G.out hg)
      replace K := Lib.hid (K.out.kept hg)
      replace HG := Lib.hid (HG.out.kept hg)
      replace HC := Lib.hid (HC.out.kept hg)
      replace HA := Lib.hid (HA.out.kept hg)
      clear hg
      refine hKq.out _ _ (⟨K.out.c0, K.out.c1, K.out.c2, K.out.c3, K.out.c4, K.out.c5⟩) (fun hHeld => ?_)
      clear hKq Kq
      refine wpAnyH_take (i := 3) (oi := ⟨some 8, _, _, _, _, _⟩) (v := ?_) rfl (by kernel_rfl) (by kernel_rfl) (by kernel_rfl) (fun _ _ _ h => h) (Or.inl ⟨by rfl, ?_⟩) (by assumption) ?_
      rotate_left
      · intro w hSw; (try dsimp only at hSw); go_simp; try with_reducible rfl
      simp only [Act.put, List.setIfInBounds_toArray, List.set_cons_zero, List.set_cons_succ]
      refine wpAnyH_take (i := 4) (oi := ⟨some 9, _, _, _, _, _⟩) (v := ?_) rfl (by kernel_rfl) (by kernel_rfl) (by kernel_rfl) (fun _ _ _ h => h) (Or.inl ⟨by rfl, ?_⟩) (by assumption) ?_
      rotate_left
      · intro w hSw; (try dsimp only at hSw); go_simp; try with_reducible rfl
      simp only [Act.put, List.setIfInBounds_toArray, List.set_cons_zero, List.set_cons_succ]
      refine wpAnyH_take (i := 5) (oi := ⟨some 10, _, _, _, _, _⟩) (v := ?_) rfl (by kernel_rfl) (by kernel_rfl) (by kernel_rfl) (fun _ _ _ h => h) (Or.inl ⟨by rfl, ?_⟩) (by assumption) ?_
      rotate_left
      · intro w hSw; (try dsimp only at hSw); go_simp; try with_reducible rfl
      simp only [Act.put, List.setIfInBounds_toArray, List.set_cons_zero, List.set_cons_succ]
      refine wpAnyH_take (i := 6) (oi := ⟨some 11, _, _, _, _, _⟩) (v := ?_) rfl (by kernel_rfl) (by kernel_rfl) (by kernel_rfl) (fun _ _ _ h => h) (Or.inl ⟨by rfl, ?_⟩) (by assumption) ?_
      rotate_left
      · intro w hSw; (try dsimp only at hSw); go_simp; try with_reducible rfl
      simp only [Act.put, List.setIfInBounds_toArray, List.set_cons_zero, List.set_cons_succ]
      refine wpAnyH_ready (rs := [7]) (by kernel_rfl) (by simp) ?_
      refine AllReadyH.cons (o := ⟨some 12, _, _, _, _, _⟩) rfl (fun Kq hKq => ?_) AllReadyH.nil
      go_simp
      go_at_call 26
      refine (imsg_yes _ _ h2).mono ?_
      rintro e w3 ⟨rfl, rfl⟩
      refine hKq.out _ _ (⟨K.out.c0, K.out.c1, K.out.c2, K.out.c3, K.out.c4, K.out.c5⟩) (fun hHeld => ?_)
      clear hKq Kq
      refine wpAnyH_take (i := 8) (oi := ⟨some 13, _, _, _, _, _⟩) (v := ?_) rfl (by kernel_rfl) (by kernel_rfl) (by kernel_rfl) (fun _ _ _ h => h) (Or.inl ⟨by rfl, ?_⟩) (by assumption) ?_
      rotate_left
      · intro w hSw; (try dsimp only at hSw); go_simp; try with_reducible rfl
      simp only [Act.put, List.setIfInBounds_toArray, List.set_cons_zero, List.set_cons_succ]
      refine wpAnyH_take (i := 9) (oi := ⟨some 14, _, _, _, _, _⟩) (v := ?_) rfl (by kernel_rfl) (by kernel_rfl) (by kernel_rfl) (fun _ _ _ h => h) (Or.inl ⟨by rfl, ?_⟩) (by assumption) ?_
      rotate_left
      · intro w hSw; (try dsimp only at hSw); go_simp; try with_reducible rfl
      simp only [Act.put, List.setIfInBounds_toArray, List.set_cons_zero, List.set_cons_succ]
      refine wpAnyH_take (i := 10) (oi := ⟨some 15, _, _, _, _, _⟩) (v := ?_) rfl (by kernel_rfl) (by kernel_rfl) (by kernel_rfl) (fun _ _ _ h => h) (Or.inl ⟨by rfl, ?_⟩) (by assumption) ?_
      rotate_left
      · intro w hSw; (try dsimp only at hSw); go_simp; try with_reducible rfl
      simp only [Act.put, List.setIfInBounds_toArray, List.set_cons_zero, List.set_cons_succ]
      refine wpAnyH_take (i := 11) (oi := ⟨some 16, _, _, _, _, _⟩) (v := ?_) rfl (by kernel_rfl) (by kernel_rfl) (by kernel_rfl) (fun _ _ _ h => h) (Or.inl ⟨by rfl, ?_⟩) (by assumption) ?_
      rotate_left
      · intro w hSw; (try dsimp only at hSw); go_simp; try with_reducible rfl
      simp only [Act.put, List.setIfInBounds_toArray, List.set_cons_zero, List.set_cons_succ]
      refine wpAnyH_take (i := 12) (oi := ⟨some 17, _, _, _, _, _⟩) (v := ?_) rfl (by kernel_rfl) (by kernel_rfl) (by kernel_rfl) (fun _ _ _ h => h) (Or.inl ⟨by rfl, ?_⟩) (by assumption) ?_
      rotate_left
      · intro w hSw; (try dsimp only at hSw); go_simp; try with_reducible rfl
      simp only [Act.put, List.setIfInBounds_toArray, List.set_cons_zero, List.set_cons_succ]
      refine wpAnyH_take (i := 13) (oi := ⟨some 18, _, _, _, _, _⟩) (v := ?_) rfl (by kernel_rfl) (by kernel_rfl) (by kernel_rfl) (fun _ _ _ h => h) (Or.inl ⟨by rfl, ?_⟩) (by assumption) ?_
      rotate_left
      · intro w hSw; (try dsimp only at hSw); go_simp; try with_reducible rfl
      simp only [Act.put, List.setIfInBounds_toArray, List.set_cons_zero, List.set_cons_succ]
      refine wpAnyH_ready (rs := [14]) (by kernel_rfl) (by simp) ?_
      refine AllReadyH.cons (o := ⟨some 19, _, _, _, _, _⟩) rfl (fun Kq hKq => ?_) AllReadyH.nil
      go_simp
      go_at_call 28
      refine (isgnof _ need many _ _ msg _ len _ S HA.out hl).mono ?_
      rintro e w4 ⟨bm, rfl, hrow, hg⟩
      replace G := Lib.hid (gtr G.out hg)
      replace K := Lib.hid (K.out.kept hg)
      replace HG := Lib.hid (HG.out.kept hg)
      replace HC := Lib.hid (HC.out.kept hg)
      replace HA := Lib.hid (HA.out.kept hg)
      clear hg
      have M := Lib.hid hrow.ints
      clear hrow
      refine hKq.out _ _ (⟨K.out.c0, K.out.c1, K.out.c2, K.out.c3, K.out.c4, K.out.c5⟩) (fun hHeld => ?_)
      clear hKq Kq
      refine wpAnyH_ready (rs := [15]) (by kernel_rfl) (by simp) ?_
      refine AllReadyH.cons (o := ⟨some 20, _, _, _, _, _⟩) rfl (fun Kq hKq => ?_) AllReadyH.nil
      go_simp
      go_at_call 27
      refine (isigners _ need many _ _ _ len _ (mS S) M.out hl).mono ?_
      rintro e w5 ⟨rfl, hg⟩
      rw [h3]
      replace G := Lib.hid (gtr G.out hg)
      replace K := Lib.hid (K.out.kept hg)
      replace HG := Lib.hid (HG.out.kept hg)
      replace HC := Lib.hid (HC.out.kept hg)
      replace HA := Lib.hid (HA.out.kept hg)
      replace M := Lib.hid (M.out.kept hg)
      clear hg
      refine hKq.out _ _ (⟨K.out.c0, K.out.c1, K.out.c2, K.out.c3, K.out.c4, K.out.c5⟩) (fun hHeld => ?_)
      clear hKq Kq
      refine wpAnyH_take (i := 16) (oi := ⟨some 21, _, _, _, _, _⟩) (v := ?_) rfl (by kernel_rfl) (by kernel_rfl) (by kernel_rfl) (fun _ _ _ h => h) (Or.inl ⟨by rfl, ?_⟩) (by assumption) ?_
      rotate_left
      · intro w hSw; (try dsimp only at hSw); go_simp; try with_reducible rfl
      simp only [Act.put, List.setIfInBounds_toArray, List.set_cons_zero, List.set_cons_succ]
      refine wpAnyH_take (i := 17) (oi := ⟨some 22, _, _, _, _, _⟩) (v := ?_) rfl (by kernel_rfl) (by kernel_rfl) (by kernel_rfl) (fun _ _ _ h => h) (Or.inl ⟨by rfl, ?_⟩) (by assumption) ?_
      rotate_left
      · intro w hSw; (try dsimp only at hSw); go_simp; try with_reducible rfl
      simp only [Act.put, List.setIfInBounds_toArray, List.set_cons_zero, List.set_cons_succ]
      refine wpAnyH_done (by kernel_rfl) ?_ _
      go_wp2
      go_ret
      exact ⟨ret_b HR.out.symm, G.out⟩
    | true =>
      have H1 := Lib.hid h1; have H2 := Lib.hid h2; have H3 := Lib.hid h3
      refine wp_region_held_drew (S := (fun w' => w'.cell? ⟨w.heap.size, 0, none⟩ = some (.int .i64 need) ∧ w'.cell? ⟨w.heap.size, 1, none⟩ = some (.int .i64 many) ∧ w'.cell? ⟨w.heap.size, 2, none⟩ = some (.slice ag ng cg) ∧ w'.cell? ⟨w.heap.size, 3, none⟩ = some (.slice ac nc cc) ∧ w'.cell? ⟨w.heap.size, 4, none⟩ = some (.int .i64 msg) ∧ w'.cell? ⟨w.heap.size, 5, none⟩ = some (.slice a len cap))) (by kernel_rfl) (⟨K.out.c0, K.out.c1, K.out.c2, K.out.c3, K.out.c4, K.out.c5⟩) (fun hHeld => ?_)
      have hg := Draw.gdrew (w.alloc (.cells #[.int .i64 need, .int .i64 many, .slice ag ng cg, .slice ac nc cc, .int .i64 msg, .slice a len cap] 30))
      replace G := Lib.hid (gtr G.out hg)
      replace K := Lib.hid (K.out.kept hg)
      replace HG := Lib.hid (HG.out.kept hg)
      replace HC := Lib.hid (HC.out.kept hg)
      replace HA := Lib.hid (HA.out.kept hg)
      clear hg
      generalize ((w.alloc (.cells #[.int .i64 need, .int .i64 many, .slice ag ng cg, .slice ac nc cc, .int .i64 msg, .slice a len cap] 30))).drew = W at *
      refine wpAnyH_take (i := 0) (oi := ⟨some 5, _, _, _, _, _⟩) (v := ?_) rfl (by kernel_rfl) (by kernel_rfl) (by kernel_rfl) (fun _ _ _ h => h) (Or.inl ⟨by rfl, ?_⟩) (by assumption) ?_
      rotate_left
      · intro w hSw; (try dsimp only at hSw); go_simp; try with_reducible rfl
      simp only [Act.put, List.setIfInBounds_toArray, List.set_cons_zero, List.set_cons_succ]
      refine wpAnyH_take (i := 1) (oi := ⟨some 6, _, _, _, _, _⟩) (v := ?_) rfl (by kernel_rfl) (by kernel_rfl) (by kernel_rfl) (fun _ _ _ h => h) (Or.inl ⟨by rfl, ?_⟩) (by assumption) ?_
      rotate_left
      · intro w hSw; (try dsimp only at hSw); go_simp; try with_reducible rfl
      simp only [Act.put, List.setIfInBounds_toArray, List.set_cons_zero, List.set_cons_succ]
      refine wpAnyH_ready (rs := [2]) (by kernel_rfl) (by simp) ?_
      refine AllReadyH.cons (o := ⟨some 7, _, _, _, _, _⟩) rfl (fun Kq hKq => ?_) AllReadyH.nil
      go_simp
      go_at_call 25
      refine (ikeyok _ need many _ ng _ zg _ nc _ zc HG.out HC.out hl1 hl2).mono ?_
      rintro e w2 ⟨rfl, hg⟩
      rw [h1]
      replace G := Lib.hid (gtr G.out hg)
      replace K := Lib.hid (K.out.kept hg)
      replace HG := Lib.hid (HG.out.kept hg)
      replace HC := Lib.hid (HC.out.kept hg)
      replace HA := Lib.hid (HA.out.kept hg)
      clear hg
      refine hKq.out _ _ (⟨K.out.c0, K.out.c1, K.out.c2, K.out.c3, K.out.c4, K.out.c5⟩) (fun hHeld => ?_)
      clear hKq Kq
      refine wpAnyH_take (i := 3) (oi := ⟨some 8, _, _, _, _, _⟩) (v := ?_) rfl (by kernel_rfl) (by kernel_rfl) (by kernel_rfl) (fun _ _ _ h => h) (Or.inl ⟨by rfl, ?_⟩) (by assumption) ?_
      rotate_left
      · intro w hSw; (try dsimp only at hSw); go_simp; try with_reducible rfl
      simp only [Act.put, List.setIfInBounds_toArray, List.set_cons_zero, List.set_cons_succ]
      refine wpAnyH_take (i := 4) (oi := ⟨some 9, _, _, _, _, _⟩) (v := ?_) rfl (by kernel_rfl) (by kernel_rfl) (by kernel_rfl) (fun _ _ _ h => h) (Or.inl ⟨by rfl, ?_⟩) (by assumption) ?_
      rotate_left
      · intro w hSw; (try dsimp only at hSw); go_simp; try with_reducible rfl
      simp only [Act.put, List.setIfInBounds_toArray, List.set_cons_zero, List.set_cons_succ]
      refine wpAnyH_take (i := 5) (oi := ⟨some 10, _, _, _, _, _⟩) (v := ?_) rfl (by kernel_rfl) (by kernel_rfl) (by kernel_rfl) (fun _ _ _ h => h) (Or.inl ⟨by rfl, ?_⟩) (by assumption) ?_
      rotate_left
      · intro w hSw; (try dsimp only at hSw); go_simp; try with_reducible rfl
      simp only [Act.put, List.setIfInBounds_toArray, List.set_cons_zero, List.set_cons_succ]
      refine wpAnyH_take (i := 6) (oi := ⟨some 11, _, _, _, _, _⟩) (v := ?_) rfl (by kernel_rfl) (by kernel_rfl) (by kernel_rfl) (fun _ _ _ h => h) (Or.inl ⟨by rfl, ?_⟩) (by assumption) ?_
      rotate_left
      · intro w hSw; (try dsimp only at hSw); go_simp; try with_reducible rfl
      simp only [Act.put, List.setIfInBounds_toArray, List.set_cons_zero, List.set_cons_succ]
      refine wpAnyH_ready (rs := [7]) (by kernel_rfl) (by simp) ?_
      refine AllReadyH.cons (o := ⟨some 12, _, _, _, _, _⟩) rfl (fun Kq hKq => ?_) AllReadyH.nil
      go_simp
      go_at_call 26
      refine (imsg_yes _ _ h2).mono ?_
      rintro e w3 ⟨rfl, rfl⟩
      refine hKq.out _ _ (⟨K.out.c0, K.out.c1, K.out.c2, K.out.c3, K.out.c4, K.out.c5⟩) (fun hHeld => ?_)
      clear hKq Kq
      refine wpAnyH_take (i := 8) (oi := ⟨some 13, _, _, _, _, _⟩) (v := ?_) rfl (by kernel_rfl) (by kernel_rfl) (by kernel_rfl) (fun _ _ _ h => h) (Or.inl ⟨by rfl, ?_⟩) (by assumption) ?_
      rotate_left
      · intro w hSw; (try dsimp only at hSw); go_simp; try with_reducible rfl
      simp only [Act.put, List.setIfInBounds_toArray, List.set_cons_zero, List.set_cons_succ]
      refine wpAnyH_take (i := 9) (oi := ⟨some 14, _, _, _, _, _⟩) (v := ?_) rfl (by kernel_rfl) (by kernel_rfl) (by kernel_rfl) (fun _ _ _ h => h) (Or.inl ⟨by rfl, ?_⟩) (by assumption) ?_
      rotate_left
      · intro w hSw; (try dsimp only at hSw); go_simp; try with_reducible rfl
      simp only [Act.put, List.setIfInBounds_toArray, List.set_cons_zero, List.set_cons_succ]
      refine wpAnyH_take (i := 10) (oi := ⟨some 15, _, _, _, _, _⟩) (v := ?_) rfl (by kernel_rfl) (by kernel_rfl) (by kernel_rfl) (fun _ _ _ h => h) (Or.inl ⟨by rfl, ?_⟩) (by assumption) ?_
      rotate_left
      · intro w hSw; (try dsimp only at hSw); go_simp; try with_reducible rfl
      simp only [Act.put, List.setIfInBounds_toArray, List.set_cons_zero, List.set_cons_succ]
      refine wpAnyH_take (i := 11) (oi := ⟨some 16, _, _, _, _, _⟩) (v := ?_) rfl (by kernel_rfl) (by kernel_rfl) (by kernel_rfl) (fun _ _ _ h => h) (Or.inl ⟨by rfl, ?_⟩) (by assumption) ?_
      rotate_left
      · intro w hSw; (try dsimp only at hSw); go_simp; try with_reducible rfl
      simp only [Act.put, List.setIfInBounds_toArray, List.set_cons_zero, List.set_cons_succ]
      refine wpAnyH_take (i := 12) (oi := ⟨some 17, _, _, _, _, _⟩) (v := ?_) rfl (by kernel_rfl) (by kernel_rfl) (by kernel_rfl) (fun _ _ _ h => h) (Or.inl ⟨by rfl, ?_⟩) (by assumption) ?_
      rotate_left
      · intro w hSw; (try dsimp only at hSw); go_simp; try with_reducible rfl
      simp only [Act.put, List.setIfInBounds_toArray, List.set_cons_zero, List.set_cons_succ]
      refine wpAnyH_take (i := 13) (oi := ⟨some 18, _, _, _, _, _⟩) (v := ?_) rfl (by kernel_rfl) (by kernel_rfl) (by kernel_rfl) (fun _ _ _ h => h) (Or.inl ⟨by rfl, ?_⟩) (by assumption) ?_
      rotate_left
      · intro w hSw; (try dsimp only at hSw); go_simp; try with_reducible rfl
      simp only [Act.put, List.setIfInBounds_toArray, List.set_cons_zero, List.set_cons_succ]
      refine wpAnyH_ready (rs := [14]) (by kernel_rfl) (by simp) ?_
      refine AllReadyH.cons (o := ⟨some 19, _, _, _, _, _⟩) rfl (fun Kq hKq => ?_) AllReadyH.nil
      go_simp
      go_at_call 28
      refine (isgnof _ need many _ _ msg _ len _ S HA.out hl).mono ?_
      rintro e w4 ⟨bm, rfl, hrow, hg⟩
      replace G := Lib.hid (gtr G.out hg)
      replace K := Lib.hid (K.out.kept hg)
      replace HG := Lib.hid (HG.out.kept hg)
      replace HC := Lib.hid (HC.out.kept hg)
      replace HA := Lib.hid (HA.out.kept hg)
      clear hg
      have M := Lib.hid hrow.ints
      clear hrow
      refine hKq.out _ _ (⟨K.out.c0, K.out.c1, K.out.c2, K.out.c3, K.out.c4, K.out.c5⟩) (fun hHeld => ?_)
      clear hKq Kq
      refine wpAnyH_ready (rs := [15]) (by kernel_rfl) (by simp) ?_
      refine AllReadyH.cons (o := ⟨some 20, _, _, _, _, _⟩) rfl (fun Kq hKq => ?_) AllReadyH.nil
      go_simp
      go_at_call 27
      refine (isigners _ need many _ _ _ len _ (mS S) M.out hl).mono ?_
      rintro e w5 ⟨rfl, hg⟩
      rw [h3]
      replace G := Lib.hid (gtr G.out hg)
      replace K := Lib.hid (K.out.kept hg)
      replace HG := Lib.hid (HG.out.kept hg)
      replace HC := Lib.hid (HC.out.kept hg)
      replace HA := Lib.hid (HA.out.kept hg)
      replace M := Lib.hid (M.out.kept hg)
      clear hg
      clear M
      refine hKq.out _ _ (⟨K.out.c0, K.out.c1, K.out.c2, K.out.c3, K.out.c4, K.out.c5⟩) (fun hHeld => ?_)
      clear hKq Kq
      refine wpAnyH_take (i := 16) (oi := ⟨some 21, _, _, _, _, _⟩) (v := ?_) rfl (by kernel_rfl) (by kernel_rfl) (by kernel_rfl) (fun _ _ _ h => h) (Or.inl ⟨by rfl, ?_⟩) (by assumption) ?_
      rotate_left
      · intro w hSw; (try dsimp only at hSw); go_simp; try with_reducible rfl
      simp only [Act.put, List.setIfInBounds_toArray, List.set_cons_zero, List.set_cons_succ]
      refine wpAnyH_take (i := 17) (oi := ⟨some 22, _, _, _, _, _⟩) (v := ?_) rfl (by kernel_rfl) (by kernel_rfl) (by kernel_rfl) (fun _ _ _ h => h) (Or.inl ⟨by rfl, ?_⟩) (by assumption) ?_
      rotate_left
      · intro w hSw; (try dsimp only at hSw); go_simp; try with_reducible rfl
      simp only [Act.put, List.setIfInBounds_toArray, List.set_cons_zero, List.set_cons_succ]
      refine wpAnyH_done (by kernel_rfl) ?_ _
      clear hHeld h1 h2 h3
      obtain ⟨_, k0, k1, k2, k3, k4, k5⟩ := K.out
      go_wp2
      go_loopw [26] (fun i wr => ∃ k : Nat, k ≤ len ∧ i = .int .i64 k ∧ soA S k = true ∧ w5.grownBy wr none) (fun i _ => len - (intOf i).toNat)
      case atStart => exact ⟨0, by omega, rfl, rfl, Draw.grown_refl _ _⟩
      case round =>
        clear k0 k1 k2 k3 k4 k5
        obtain ⟨k, hk, rfl, hz, hg⟩ := hrel
        obtain ⟨W1, hW⟩ : ∃ W, W = wr := ⟨_, rfl⟩; subst hW
        have HZ := Lib.hid hz; have C := Lib.hid hg; have HA1 := Lib.hid (HA.out.kept hg)
        clear hz hg
        by_cases hlt : k < len
        · obtain ⟨b, off, rfl, hb, hcc⟩ := HA1.out.ptr (by omega)
          obtain ⟨x0, x1, x2, x3⟩ := hcc k hlt
          clear hcc
          go_wp2_with (refine stop_store rfl ?_)
          refine ⟨trivial, ?_⟩
          refine wpList_store_blk rfl 35 (.tmp 4) (.tmp 29) _ #[.int .i64 (S k).m, .int .i64 (S k).R, .bool (S k).on, .int .i64 (S k).Z] _ 35 (Blk.new W1 #[.int .i64 0, .int .i64 0, .bool false, .int .i64 0] 35) rfl rfl rfl rfl (by kernel_rfl) (by simp [Value.oneCell']) rfl ?_
          intro W2 hgV hTV
          have hg : W1.grownBy W2 none := grown_new (grown_alloc W1 (.cells #[.int .i64 0, .int .i64 0, .bool false, .int .i64 0] 35) none) (Nat.le_refl _) hgV
          have T := Lib.hid hTV
          clear hgV hTV x0 x1 x2 x3
          replace C := Lib.hid (gtr C.out hg)
          clear hg
          have ht0 := T.out.cell 0; have ht1 := T.out.cell 1; have ht2 := T.out.cell 2; have ht3 := T.out.cell 3
          cases hf : soE (S k) with
          | false =>
            have HF := Lib.hid hf
            have HR := Lib.hid (so_not (need := need) (many := many) (ng := ng) (zg := zg) (nc := nc) (zc := zc) (msg := msg) (n := len) (S := S) (fun h => by have := soA_iff.1 h.1 k hlt; rw [HF.out] at this; cases this))
            clear hf
            go_wp2_with fail
            refine (ishok _ (S k)).mono ?_
            rintro e W3 ⟨rfl, hg⟩
            clear ht0 ht1 ht2 ht3
            rw [HF.out]
            replace C := Lib.hid (gtr C.out hg)
            clear hg
            go_wp2
            go_ret
            exact ⟨ret_b HR.out.symm, gtr G.out C.out⟩
          | true =>
            have HF := Lib.hid hf
            have HN := Lib.hid (soA_next HZ.out hf)
            clear hf
            go_wp2_with fail
            refine (ishok _ (S k)).mono ?_
            rintro e W3 ⟨rfl, hg⟩
            clear ht0 ht1 ht2 ht3
            rw [HF.out]
            replace C := Lib.hid (gtr C.out hg)
            clear hg
            go_wp2
            go_roundw
            case rel => exact ⟨k + 1, by omega, by go_num, HN.out, C.out⟩
            case measure => simp [intOf]; omega
        · obtain rfl : k = len := by omega
          have HR := Lib.hid (so_iff.2 ⟨HZ.out, H1.out, H3.out, H2.out⟩)
          go_wp2
          go_ret
          exact ⟨ret_b HR.out.symm, gtr G.out C.out⟩
set_option maxRecDepth 100000 in
set_option maxHeartbeats 4000000 in
theorem isesR (w : World) (need many : Int) (ag : Option Addr) (ng cg : Nat) (zg : Nat → Int) (ac : Option Addr) (nc cc : Nat) (zc : Nat → Int) (msg : Int) (a : Option Addr) (len cap : Nat) (S : Nat → SV) (hG : Ints w ag ng zg) (hC : Ints w ac nc zc) (hS : ShIn w a len S) (hl1 : ng ≤ 2000000) (hl2 : nc ≤ 2000000) (hl : len ≤ 2000000) :
    Calls Tryz.prog 41 #[.agg #[.int .i64 need, .int .i64 many, .slice ag ng cg, .slice ac nc cc, .int .i64 msg, .slice a len cap]] w fun e w' => e = .returned (.int .i64 (srF need many ng zg nc zc msg len S)) ∧ w.grownBy w' none := by
  have G := Lib.hid (Draw.grown_alloc w (.cells #[.int .i64 need, .int .i64 many, .slice ag ng cg, .slice ac nc cc, .int .i64 msg, .slice a len cap] 30) none)
  have K := Lib.hid (Ss.of_blk (Blk.new w #[.int .i64 need, .int .i64 many, .slice ag ng cg, .slice ac nc cc, .int .i64 msg, .slice a len cap] 30))
  have HG := Lib.hid (hG.kept G.out); have HC := Lib.hid (hC.kept G.out); have HA := Lib.hid (hS.kept G.out)
  clear hG hC hS
  go_enter Tryz.func41, Tryz.ntmps41
  obtain ⟨_, k0, k1, k2, k3, k4, k5⟩ := K.out
  go_wp2_with fail
  refine (i32ok _ need many _ ng _ zg _ nc _ zc msg _ len _ S HG.out HC.out HA.out hl1 hl2 hl).mono ?_
  rintro e w1 ⟨rfl, hg⟩
  clear k0 k1 k2 k3 k4 k5
  replace G := Lib.hid (gtr G.out hg)
  replace K := Lib.hid (K.out.kept hg)
  replace HG := Lib.hid (HG.out.kept hg)
  replace HC := Lib.hid (HC.out.kept hg)
  replace HA := Lib.hid (HA.out.kept hg)
  clear hg
  obtain ⟨_, k0, k1, k2, k3, k4, k5⟩ := K.out
  cases h1 : tsF need many ng zg nc zc msg len S with
  | false =>
    have HR := Lib.hid (show srF need many ng zg nc zc msg len S = 0 by simp [srF, h1])
    go_wp2
    go_ret
    exact ⟨ret_i HR.out.symm, G.out⟩
  | true =>
    have HR := Lib.hid (show srF need many ng zg nc zc msg len S = rP S len by simp [srF, h1])
    have HK := Lib.hid (so_R h1)
    clear h1
    go_wp2_with fail
    refine (igof 0 _).mono ?_
    rintro e w2 ⟨rfl, hg⟩
    clear k0 k1 k2 k3 k4 k5
    replace G := Lib.hid (gtr G.out hg)
    replace K := Lib.hid (K.out.kept hg)
    replace HG := Lib.hid (HG.out.kept hg)
    replace HC := Lib.hid (HC.out.kept hg)
    replace HA := Lib.hid (HA.out.kept hg)
    clear hg
    obtain ⟨_, k0, k1, k2, k3, k4, k5⟩ := K.out
    rw [gof_zero]
    go_wp2
    go_loopw [3, 13] (fun v i wr => ∃ k : Nat, k ≤ len ∧ v = .int .i64 (rP S k) ∧ i = .int .i64 k ∧ w2.grownBy wr none) (fun _ i _ => len - (intOf i).toNat)
    case atStart => exact ⟨0, by omega, rfl, rfl, Draw.grown_refl _ _⟩
    case round =>
      clear k0 k1 k2 k3 k4 k5
      obtain ⟨k, hk, rfl, rfl, hg⟩ := hrel
      obtain ⟨W1, hW⟩ : ∃ W, W = wr := ⟨_, rfl⟩; subst hW
      have C := Lib.hid hg; have HA1 := Lib.hid (HA.out.kept hg)
      clear hg
      by_cases hlt : k < len
      · obtain ⟨b, off, rfl, hb, hcc⟩ := HA1.out.ptr (by omega)
        obtain ⟨x0, x1, x2, x3⟩ := hcc k hlt
        clear hcc
        go_wp2_with (refine stop_store rfl ?_)
        refine ⟨trivial, ?_⟩
        refine wpList_store_blk rfl 35 (.tmp 5) (.tmp 16) _ #[.int .i64 (S k).m, .int .i64 (S k).R, .bool (S k).on, .int .i64 (S k).Z] _ 35 (Blk.new W1 #[.int .i64 0, .int .i64 0, .bool false, .int .i64 0] 35) rfl rfl rfl rfl (by kernel_rfl) (by simp [Value.oneCell']) rfl ?_
        intro W2 hgV hTV
        have hg : W1.grownBy W2 none := grown_new (grown_alloc W1 (.cells #[.int .i64 0, .int .i64 0, .bool false, .int .i64 0] 35) none) (Nat.le_refl _) hgV
        have T := Lib.hid hTV
        clear hgV hTV x0 x1 x2 x3
        replace C := Lib.hid (gtr C.out hg)
        clear hg
        have ht1 := T.out.cell 1
        go_wp2_with fail
        refine (igmul (rP S k) (S k).R _).mono ?_
        rintro e W3 ⟨rfl, hg⟩
        clear ht1
        replace C := Lib.hid (gtr C.out hg)
        clear hg
        go_wp2
        go_roundw
        case rel => exact ⟨k + 1, by omega, rfl, by go_num, C.out⟩
        case measure => simp [intOf]; omega
      · obtain rfl : k = len := by omega
        go_wp2
        go_ret
        exact ⟨ret_i HR.out.symm, gtr G.out C.out⟩
end Con
end Go.Proofs.YthbigmcklacbnaaGreatDoor
/-
  Sessions: the program's copies, SessionNew and SessionPut.
-/

namespace Go.Proofs.YthbigmcklacbnaaGreatDoor
namespace Con
open Go.RowKit Alg Mem Draw Hd
set_option linter.unusedVariables false

/-- A slice of ints of the call's own, or none. -/
def OE (w : World) (lo : Nat) (a : Option Addr) (n c : Nat) (z : Nat → Int) : Prop := w.ownsRow lo 3 1 (.slice a n c) n (vals z n)
theorem OE.sl {w : World} {lo : Nat} {a : Option Addr} {n c : Nat} {z : Nat → Int} (h : OE w lo a n c z) : Sl a n c := by
  rcases h.2 with ⟨hv, h0⟩ | ⟨g, c', cur, hv, _⟩
  · injection hv with e1 e2 e3; exact .inr ⟨e1, e2⟩
  · injection hv with e1 e2 e3; exact .inl ⟨_, e1⟩
theorem OE.ints {w : World} {lo : Nat} {a : Option Addr} {n c : Nat} {z : Nat → Int} (h : OE w lo a n c z) : Ints w a n z := by
  rcases h.2 with ⟨hv, h0⟩ | ⟨g, c', cur, hv, _⟩
  · exact .inl h0
  · injection hv with e1 e2 e3; subst e1
    exact OI.ints (lo := lo) (c := c) h
theorem OE.lt {w : World} {lo : Nat} {a : Option Addr} {n c : Nat} {z : Nat → Int} (h : OE w lo a n c z) : ∀ b off, a = some ⟨b, off, none⟩ → lo ≤ b ∧ b < w.heap.size := fun b off e => by
  subst e; exact World.ownsRow.lt h b rfl
theorem OE.kept {w w' : World} {lo : Nat} {a : Option Addr} {n c : Nat} {z : Nat → Int} {r : Option Nat} (h : OE w lo a n c z) (hg : w.grownBy w' r) (hr : ∀ g, r = some g → g < lo) : OE w' lo a n c z := by
  refine World.ownsRow.kept h hg ?_
  cases hv : (Value.slice a n c).ownBlock with
  | none => exact .inl rfl
  | some b => right; intro e; have := hr b e.symm; have := (World.ownsRow.lt h b hv).1; omega
theorem OE.lower {w : World} {lo lo' : Nat} {a : Option Addr} {n c : Nat} {z : Nat → Int} (h : OE w lo a n c z) (hl : lo' ≤ lo) : OE w lo' a n c z := owns_lower h hl
theorem OE.keptBlk {w w' : World} {lo : Nat} {a : Option Addr} {n c b : Nat} {z : Nat → Int} {vs : Array Value} (h : OE w lo a n c z) (hb : Blk w b vs 30) (hg : w.grownBy w' (some b)) : OE w' lo a n c z :=
  World.ownsRow.kept h hg (.inr fun e => own_ne_b h hb (by decide) e.symm)
/-- Two that lie apart. -/
def Apt (a a' : Option Addr) : Prop := ∀ b off b' off', a = some ⟨b, off, none⟩ → a' = some ⟨b', off', none⟩ → b ≠ b'
theorem apt_of {w w' : World} {lo lo' : Nat} {a a' : Option Addr} {n c n' c' : Nat} {z z' : Nat → Int} (h : OE w lo a n c z) (h' : OE w' lo' a' n' c' z') (hl : w.heap.size ≤ lo') : Apt a a' := fun b off b' off' e e' => by
  have := (h.lt b off e).2; have := (h'.lt b' off' e').1; omega
theorem own_slice {w : World} {lo b n' c' n : Nat} {z : Nat → Int} {v : Value} (h : w.ownsRow lo 3 1 v n (vals z n)) : ∃ a c, v = .slice a n c := by
  rcases h.2 with ⟨hv, h0⟩ | ⟨g, c', cur, hv, _⟩
  · exact ⟨none, 0, by rw [hv, h0]⟩
  · exact ⟨_, _, hv⟩
set_option maxRecDepth 100000 in
theorem clone_int (w : World) (a : Option Addr) (len cap : Nat) (z : Nat → Int) (hI : Ints w a len z) (hs : Sl a len cap) (hl : len ≤ 2000000) :
    Calls Tryz.prog 39 #[.slice a len cap] w fun e w' => ∃ a' c', e = .returned (.slice a' len c') ∧ OE w' w.heap.size a' len c' z ∧ w.grownBy w' none := by
  have hq : ∀ (w : World) (a : Option Addr) (n c n' c' : Nat), (binOp .eql 23 (.slice a n c) (.slice none n' c')).run Tryz.prog w = .ok (.bool a.isNone) w := fun w a n c n' c' => Lib.run_eql_slice_nil w _ _ a n c n' c' und_ints
  rcases hs with ⟨ad, rfl⟩ | ⟨rfl, rfl⟩
  · have HI := Lib.hid (hI.kept (Draw.grown_alloc w (.cells #[] 3) none)); clear hI
    have he := (row_empty w 3 z).owns
    have E1 := Lib.hid he; clear he
    go_enter Tryz.func39, Tryz.ntmps39
    go_wp2_with (at_builtin; refine wpList_append_whole rfl _ _ rfl w.heap.size w.heap.size rfl E1.out (some ad) len cap z rfl HI.out (.inl ⟨ad, rfl⟩) hl (by simp) ?_; intro b1 c1 w1 hI1 hg1; have HI1 := Lib.hid hI1; have HG1 := Lib.hid hg1; clear hI1 hg1)
    go_ret
    exact ⟨_, _, rfl, HI1.out, grown_new (Draw.grown_alloc _ _ _) (Nat.le_refl _) HG1.out⟩
  · clear hI
    go_enter Tryz.func39, Tryz.ntmps39
    go_wp2
    go_ret
    exact ⟨_, _, rfl, ⟨rfl, .inl ⟨rfl, rfl⟩⟩, Draw.grown_refl _ _⟩
set_option maxRecDepth 100000 in
theorem wpList_append_sh {ops : Array Oper} {rest : List Oper} {o : Oper} {act : Act} {w : World} {Q : Exit → Act → World → Prop} (hgd : o.guard = none) (s x : Operand)
    (ho : o.op = .call { callee := .builtin .append, args := #[s, x], argTypes := #[28, 28] }) (base g : Nat) (S : Nat → SV) (hs : act.eval s = .slice (some ⟨g, 0, none⟩) 0 0) (hown : OwnSh w base (.slice (some ⟨g, 0, none⟩) 0 0) 0 S)
    (a : Option Addr) (n c : Nat) (hx : act.eval x = .slice a n c) (hI : ShIn w a n S) (hsl : Sl a n c) (hn : n ≤ 2000000) (hbase : base ≤ w.heap.size)
    (h : ∀ b c' w', OwnSh w' base (.slice (some ⟨b, 0, none⟩) n c') n S → w.grownBy w' (some g) → wpList Tryz.prog ops Q rest (act.put o.dst (.slice (some ⟨b, 0, none⟩) n c')) w') : wpList Tryz.prog ops Q (o :: rest) act w := by
  obtain ⟨i0, hi, hz0, hz1, hz2⟩ := info_parts info_shn
  rcases hsl with ⟨ad, rfl⟩ | ⟨rfl, rfl⟩
  · have hnews : ∀ j u, (cellsS S n)[j]? = some u → w.cell? (ad.add j) = some u := by
      rcases hI with h0 | ⟨b', off', e, _, hc⟩
      · subst h0; intro j u hu; simp [cellsS] at hu
      · injection e with e; subst e
        exact cellsS_in hc
    refine wpList_append_own _ hgd s x _ ho base 35 i0 (.agg #[.int .i64 0, .int .i64 0, .bool false, .int .i64 0]) 4 32 und_shns hi hz0 hz1 hz2 rfl (by decide) _ 0 (cellsS S 0) hs hown ad n c (cellsS S n) hx (cellsS_len S n) hnews (cellsS_one S n) (by unfold maxLen; omega) (by omega) hbase ?_
    intro v' w' ho' hg' hv'
    rw [Nat.zero_add, show cellsS S 0 ++ cellsS S n = cellsS S n from rfl] at ho'
    rcases ho'.2 with ⟨hv, _⟩ | ⟨g', c', cur, hv, _⟩
    · have := (hv'.1 hv).1; cases this
    · subst hv
      exact h g' c' w' ho' hg'
  · refine wpList_append_none hgd s x _ ho base 35 i0 4 und_shns hi _ 0 c (cellsS S 0) hs hown hx ?_
    exact h g 0 w hown (grown_refl w _)
/-- A key's copy, by the program. -/
def CK (w : World) (need many : Int) (ng : Nat) (zg : Nat → Int) (nc : Nat) (zc : Nat → Int) (e : Ending) (w' : World) : Prop :=
  ∃ a1 c1 a2 c2, e = .returned (.agg #[.int .i64 need, .int .i64 many, .slice a1 ng c1, .slice a2 nc c2]) ∧ OE w' w.heap.size a1 ng c1 zg ∧ OE w' w.heap.size a2 nc c2 zc ∧ Apt a1 a2 ∧ w.grownBy w' none
set_option maxRecDepth 100000 in
set_option maxHeartbeats 2000000 in
theorem icopykey (w : World) (need many : Int) (ag : Option Addr) (ng cg : Nat) (zg : Nat → Int) (ac : Option Addr) (nc cc : Nat) (zc : Nat → Int) (hG : Ints w ag ng zg) (hC : Ints w ac nc zc) (hsg : Sl ag ng cg) (hsc : Sl ac nc cc) (hl1 : ng ≤ 2000000) (hl2 : nc ≤ 2000000) :
    Calls Tryz.prog 20 #[.agg #[.int .i64 need, .int .i64 many, .slice ag ng cg, .slice ac nc cc]] w (CK w need many ng zg nc zc) := by
  have G := Lib.hid (gtr (Draw.grown_alloc w (.cells #[.int .i64 need, .int .i64 many, .slice ag ng cg, .slice ac nc cc] 25) none) (Draw.grown_alloc _ (.cells #[.int .i64 0, .int .i64 0, .slice none 0 0, .slice none 0 0] 25) none))
  have K := Lib.hid ((Ky.new w need many (.slice ag ng cg) (.slice ac nc cc) 25).kept (Draw.grown_alloc _ (.cells #[.int .i64 0, .int .i64 0, .slice none 0 0, .slice none 0 0] 25) none))
  have R := Lib.hid (blk_new2 w (.cells #[.int .i64 need, .int .i64 many, .slice ag ng cg, .slice ac nc cc] 25) #[.int .i64 0, .int .i64 0, .slice none 0 0, .slice none 0 0] 25)
  have HG := Lib.hid (hG.kept G.out); have HC := Lib.hid (hC.kept G.out)
  clear hG hC
  go_enter Tryz.func20, Tryz.ntmps20
  go_wp2_with fail
  refine wp_region_held_drew (S := (fun w' => w'.cell? ⟨w.heap.size, 0, none⟩ = some (.int .i64 need) ∧ w'.cell? ⟨w.heap.size, 1, none⟩ = some (.int .i64 many) ∧ w'.cell? ⟨w.heap.size, 2, none⟩ = some (.slice ag ng cg) ∧ w'.cell? ⟨w.heap.size, 3, none⟩ = some (.slice ac nc cc))) (by kernel_rfl) (⟨K.out.c0, K.out.c1, K.out.c2, K.out.c3⟩) (fun hHeld => ?_)
  have hg := Draw.gdrew ((w.alloc (.cells #[.int .i64 need, .int .i64 many, .slice ag ng cg, .slice ac nc cc] 25)).alloc (.cells #[.int .i64 0, .int .i64 0, .slice none 0 0, .slice none 0 0] 25))
  replace G := Lib.hid (gtr G.out hg)
  replace K := Lib.hid (K.out.kept hg)
  replace R := Lib.hid (R.out.keptN hg)
  replace HG := Lib.hid (HG.out.kept hg)
  replace HC := Lib.hid (HC.out.kept hg)
  clear hg
  generalize (((w.alloc (.cells #[.int .i64 need, .int .i64 many, .slice ag ng cg, .slice ac nc cc] 25)).alloc (.cells #[.int .i64 0, .int .i64 0, .slice none 0 0, .slice none 0 0] 25))).drew = W at *
  refine wpAnyH_take (i := 0) (oi := ⟨some 3, _, _, _, _, _⟩) (v := ?_) rfl (by kernel_rfl) (by kernel_rfl) (by kernel_rfl) (fun _ _ _ h => h) (Or.inl ⟨by rfl, ?_⟩) (by assumption) ?_
  rotate_left
  · intro w hSw; (try dsimp only at hSw); go_simp; try with_reducible rfl
  simp only [Act.put, List.setIfInBounds_toArray, List.set_cons_zero, List.set_cons_succ]
  refine wpAnyH_take (i := 1) (oi := ⟨some 4, _, _, _, _, _⟩) (v := ?_) rfl (by kernel_rfl) (by kernel_rfl) (by kernel_rfl) (fun _ _ _ h => h) (Or.inl ⟨by rfl, ?_⟩) (by assumption) ?_
  rotate_left
  · intro w hSw; (try dsimp only at hSw); go_simp; try with_reducible rfl
  simp only [Act.put, List.setIfInBounds_toArray, List.set_cons_zero, List.set_cons_succ]
  refine wpAnyH_take (i := 2) (oi := ⟨some 5, _, _, _, _, _⟩) (v := ?_) rfl (by kernel_rfl) (by kernel_rfl) (by kernel_rfl) (fun _ _ _ h => h) (Or.inl ⟨by rfl, ?_⟩) (by assumption) ?_
  rotate_left
  · intro w hSw; (try dsimp only at hSw); go_simp; try with_reducible rfl
  simp only [Act.put, List.setIfInBounds_toArray, List.set_cons_zero, List.set_cons_succ]
  refine wpAnyH_take (i := 3) (oi := ⟨some 6, _, _, _, _, _⟩) (v := ?_) rfl (by kernel_rfl) (by kernel_rfl) (by kernel_rfl) (fun _ _ _ h => h) (Or.inl ⟨by rfl, ?_⟩) (by assumption) ?_
  rotate_left
  · intro w hSw; (try dsimp only at hSw); go_simp; try with_reducible rfl
  simp only [Act.put, List.setIfInBounds_toArray, List.set_cons_zero, List.set_cons_succ]
  refine wpAnyH_take (i := 4) (oi := ⟨some 7, _, _, _, _, _⟩) (v := ?_) rfl (by kernel_rfl) (by kernel_rfl) (by kernel_rfl) (fun _ _ _ h => h) (Or.inl ⟨by rfl, ?_⟩) (by assumption) ?_
  rotate_left
  · intro w hSw; (try dsimp only at hSw); go_simp; try with_reducible rfl
  simp only [Act.put, List.setIfInBounds_toArray, List.set_cons_zero, List.set_cons_succ]
  refine wpAnyH_take (i := 5) (oi := ⟨some 8, _, _, _, _, _⟩) (v := ?_) rfl (by kernel_rfl) (by kernel_rfl) (by kernel_rfl) (fun _ _ _ h => h) (Or.inl ⟨by rfl, ?_⟩) (by assumption) ?_
  rotate_left
  · intro w hSw; (try dsimp only at hSw); go_simp; try with_reducible rfl
  simp only [Act.put, List.setIfInBounds_toArray, List.set_cons_zero, List.set_cons_succ]
  refine wpAnyH_take (i := 7) (oi := ⟨some 10, _, _, _, _, _⟩) (v := ?_) rfl (by kernel_rfl) (by kernel_rfl) (by kernel_rfl) (fun _ _ _ h => h) (Or.inl ⟨by rfl, ?_⟩) (by assumption) ?_
  rotate_left
  · intro w hSw; (try dsimp only at hSw); go_simp; try with_reducible rfl
  simp only [Act.put, List.setIfInBounds_toArray, List.set_cons_zero, List.set_cons_succ]
  refine wpAnyH_take (i := 8) (oi := ⟨some 11, _, _, _, _, _⟩) (v := ?_) rfl (by kernel_rfl) (by kernel_rfl) (by kernel_rfl) (fun _ _ _ h => h) (Or.inl ⟨by rfl, ?_⟩) (by assumption) ?_
  rotate_left
  · intro w hSw; (try dsimp only at hSw); go_simp; try with_reducible rfl
  simp only [Act.put, List.setIfInBounds_toArray, List.set_cons_zero, List.set_cons_succ]
  refine wpAnyH_ready (rs := [6]) (by kernel_rfl) (by simp) ?_
  refine AllReadyH.cons (o := ⟨some 9, _, _, _, _, _⟩) rfl (fun Kq hKq => ?_) AllReadyH.nil
  go_simp
  go_at_call 39
  refine (clone_int _ _ _ _ zg HG.out hsg hl1).mono ?_
  rintro e w2 ⟨a1, c1, rfl, hv, hg⟩
  have hR := R.out.lt
  have V1 := Lib.hid (hv.lower (lo' := w.heap.size + 2) hR)
  clear hv hR
  replace G := Lib.hid (gtr G.out hg)
  replace K := Lib.hid (K.out.kept hg)
  replace R := Lib.hid (R.out.keptN hg)
  replace HG := Lib.hid (HG.out.kept hg)
  replace HC := Lib.hid (HC.out.kept hg)
  clear hg
  refine hKq.out _ _ (⟨K.out.c0, K.out.c1, K.out.c2, K.out.c3⟩) (fun hHeld => ?_)
  clear hKq Kq
  refine wpAnyH_ready (rs := [9]) (by kernel_rfl) (by simp) ?_
  refine AllReadyH.cons (o := ⟨some 12, _, _, _, _, _⟩) rfl (fun Kq hKq => ?_) AllReadyH.nil
  go_simp
  go_at_call 39
  refine (clone_int _ _ _ _ zc HC.out hsc hl2).mono ?_
  rintro e w3 ⟨a2, c2, rfl, hv, hg⟩
  have hR := R.out.lt
  have AT := Lib.hid (apt_of V1.out hv (Nat.le_refl _))
  have V2 := Lib.hid (hv.lower (lo' := w.heap.size + 2) hR)
  clear hv hR
  replace G := Lib.hid (gtr G.out hg)
  replace K := Lib.hid (K.out.kept hg)
  replace R := Lib.hid (R.out.keptN hg)
  replace HG := Lib.hid (HG.out.kept hg)
  replace HC := Lib.hid (HC.out.kept hg)
  replace V1 := Lib.hid (V1.out.kept hg (fun g e => by cases e))
  clear hg
  refine hKq.out _ _ (⟨K.out.c0, K.out.c1, K.out.c2, K.out.c3⟩) (fun hHeld => ?_)
  clear hKq Kq
  refine wpAnyH_take (i := 10) (oi := ⟨some 13, _, _, _, _, _⟩) (v := ?_) rfl (by kernel_rfl) (by kernel_rfl) (by kernel_rfl) (fun _ _ _ h => h) (Or.inl ⟨by rfl, ?_⟩) (by assumption) ?_
  rotate_left
  · intro w hSw; (try dsimp only at hSw); go_simp; try with_reducible rfl
  simp only [Act.put, List.setIfInBounds_toArray, List.set_cons_zero, List.set_cons_succ]
  clear HG HC
  refine wpAnyH_ready (rs := [11]) (by kernel_rfl) (by simp) ?_
  refine AllReadyH.cons (o := ⟨none, _, _, _, _, _⟩) rfl (fun Kq hKq => ?_) AllReadyH.nil
  rw [if_pos (by rfl)]
  refine wp_store_blk 25 (.tmp 2) (.tmp 13) _ _ _ 25 R.out rfl rfl rfl rfl (by kernel_rfl) (by simp [Value.oneCell']) rfl ?_
  intro V hg hT
  replace R := Lib.hid hT
  replace G := Lib.hid (grown_new G.out (by omega) hg)
  replace K := Lib.hid (K.out.keptB (hg.block _ K.out.lt (by intro e; have e := Option.some.inj e; omega)) hg.size)
  replace V1 := Lib.hid (V1.out.kept hg (fun g e => by have e := Option.some.inj e; omega))
  replace V2 := Lib.hid (V2.out.kept hg (fun g e => by have e := Option.some.inj e; omega))
  clear hg
  clear hT
  refine hKq.out _ _ (⟨K.out.c0, K.out.c1, K.out.c2, K.out.c3⟩) (fun hHeld => ?_)
  clear hKq Kq
  refine wpAnyH_done (by kernel_rfl) ?_ _
  go_wp2
  (try simp only [Exit.inBlock, Exit.then])
  refine bodyPost_ret (ret_key rfl _ rfl R.out) rfl ?_
  exact ⟨a1, c1, a2, c2, rfl, V1.out.lower (by omega), V2.out.lower (by omega), AT.out, G.out⟩
/-- A session's copy, by the program. -/
def CS (w : World) (need many : Int) (ng : Nat) (zg : Nat → Int) (nc : Nat) (zc : Nat → Int) (msg : Int) (n : Nat) (S : Nat → SV) (e : Ending) (w' : World) : Prop :=
  ∃ a1 c1 a2 c2 a3 c3, e = .returned (.agg #[.int .i64 need, .int .i64 many, .slice a1 ng c1, .slice a2 nc c2, .int .i64 msg, .slice a3 n c3]) ∧ OE w' w.heap.size a1 ng c1 zg ∧ OE w' w.heap.size a2 nc c2 zc ∧ OwnSh w' w.heap.size (.slice a3 n c3) n S ∧ Apt a1 a2 ∧ w.grownBy w' none
end Con
end Go.Proofs.YthbigmcklacbnaaGreatDoor
/-
  Sessions: the program's SessionNew.
-/

namespace Go.Proofs.YthbigmcklacbnaaGreatDoor
namespace Con
open Go.RowKit Alg Mem Draw Hd
set_option linter.unusedVariables false

/-- Of what type a block is. -/
def Tyd (w : World) (b : Nat) (T : TypeId) : Prop := ∃ cur, w.heap[b]? = some (.cells cur T (0, 0))
theorem tyd_ne {w : World} {b b' : Nat} {T U : TypeId} (h : Tyd w b T) (h' : Tyd w b' U) (hne : T ≠ U) : b ≠ b' := by
  obtain ⟨c, hc⟩ := h; obtain ⟨c', hc'⟩ := h'
  rintro rfl
  rw [hc] at hc'
  injection hc' with hc'
  injection hc' with _ k2 _
  exact hne k2
theorem Row4.tyd {w : World} {lo : Nat} {T : TypeId} {b n : Nat} {g : Nat → Nat → Value} (h : Row4 w lo T b n g) : Tyd w b T := by
  obtain ⟨cur, hb, _⟩ := h.row; exact ⟨cur, hb⟩
theorem blk_tyd {w : World} {b : Nat} {vs : Array Value} {T : TypeId} (h : Blk w b vs T) : Tyd w b T := ⟨vs, h⟩
theorem OE.keptT {w w' : World} {lo : Nat} {a : Option Addr} {n c b : Nat} {z : Nat → Int} {U : TypeId} (h : OE w lo a n c z) (hb : Tyd w b U) (hne : 3 ≠ U) (hg : w.grownBy w' (some b)) : OE w' lo a n c z := by
  obtain ⟨cur, hb⟩ := hb
  exact World.ownsRow.kept h hg (.inr fun e => own_ne_b h (vs := cur) hb hne e.symm)
/-- Such a slice in the words of the laws on append. -/
theorem Row4.own {w : World} {lo b n : Nat} {S : Nat → SV} (h : Row4 w lo 35 b n (shT S)) (hn : n ≤ maxLen) : OwnSh w lo (.slice (some ⟨b, 0, none⟩) n n) n S := by
  obtain ⟨hlo, cur, hb, hs, hg⟩ := h
  refine ⟨cellsS_len S n, .inr ⟨b, n, cur, rfl, hlo, hb, Nat.le_refl _, hn, hs, ?_⟩⟩
  apply List.ext_getElem?
  intro j
  rw [List.getElem?_take]
  by_cases hj : j < n * 4
  · rw [if_pos hj, Array.getElem?_toList, hg j hj]
    obtain ⟨q, i, hi, rfl⟩ : ∃ q i, i < 4 ∧ j = q * 4 + i := ⟨j / 4, j % 4, by omega, by omega⟩
    rw [cellsS_at S (show q < n by omega) hi]
    show some (shT S ((q * 4 + i) / 4) ((q * 4 + i) % 4)) = _
    rw [show (q * 4 + i) / 4 = q by omega, show (q * 4 + i) % 4 = i by omega]
    rcases (by omega : i = 0 ∨ i = 1 ∨ i = 2 ∨ i = 3) with rfl | rfl | rfl | rfl <;> rfl
  · rw [if_neg hj, List.getElem?_eq_none (by rw [cellsS_len]; omega)]
theorem wp_make4 {op : Oper} {a : Act} {w : World} {K : Act → World → Prop} {Q : Exit → Act → World → Prop} (l : Operand) (ho : op.op = .makeSlice 28 l l) (n : Nat) (hl : a.eval l = .int .i64 (n : Int)) (hn : n ≤ 2000000)
    (h : ∀ w', w.grownBy w' none → Row4 w' w.heap.size 35 w.heap.size n (fun _ => zeT) → K (a.put op.dst (.slice (some ⟨w.heap.size, 0, none⟩) n n)) w') : op.wp Tryz.prog a w K Q := by
  have hmk := run_make4 (P := Tryz.prog) 28 35 (.int .i64 0) (.int .i64 0) (.bool false) (.int .i64 0) 32 und_shns info_shn .i64 .i64 n (by omega) (by omega) w
  unfold Oper.wp
  simp [execOp, ho, hl, hmk, Result.andThen]
  exact h _ (Draw.grown_alloc _ _ _) (Row4.made w _ n)
theorem wp_store_row4 {op : Oper} {a : Act} {w : World} {K : Act → World → Prop} {Q : Exit → Act → World → Prop} (x y : Operand) (lo b n k : Nat) (g : Nat → Nat → Value) (v0 v1 v2 v3 : Value) (hR : Row4 w lo 35 b n g) (hk : k < n) (ho : op.op = .store 35 x y)
    (hx : a.eval x = .pointer (some ⟨b, k * 4, none⟩)) (hy : a.eval y = .agg #[v0, v1, v2, v3]) (h1 : (#[v0, v1, v2, v3] : Array Value).all (·.oneCell') = true)
    (h : ∀ w', w.grownBy w' (some b) → Row4 w' lo 35 b n (fun i => if i = k then (fun j => (#[v0, v1, v2, v3] : Array Value).getD j undef) else g i) → K (a.put op.dst undef) w') : op.wp Tryz.prog a w K Q := by
  refine wp_store_mid 35 x y ho b (k * 4) #[v0, v1, v2, v3] hx hy ?_ size_shn h1 (h _ ?_ ?_)
  · intro j hj
    have hj' : j < 4 := hj
    exact ⟨by rw [hR.c hk hj']; simp, hR.free _⟩
  · exact set4_grown w b k (fun j => (#[v0, v1, v2, v3] : Array Value).getD j undef)
  · exact hR.set k (fun j => (#[v0, v1, v2, v3] : Array Value).getD j undef)
/-- A session of the call's own, by the program, and whether there is one. -/
def SesQ (w : World) (need many : Int) (ng : Nat) (zg : Nat → Int) (nc : Nat) (zc : Nat → Int) (msg : Int) (n : Nat) (S : Nat → SV) (ok : Bool) (e : Ending) (w' : World) : Prop :=
  ∃ a1 c1 a2 c2 a3 c3, e = .returned (.tuple #[.agg #[.int .i64 need, .int .i64 many, .slice a1 ng c1, .slice a2 nc c2, .int .i64 msg, .slice a3 n c3], .bool ok]) ∧ OE w' w.heap.size a1 ng c1 zg ∧ OE w' w.heap.size a2 nc c2 zc ∧ OwnSh w' w.heap.size (.slice a3 n c3) n S ∧ Apt a1 a2 ∧ w.grownBy w' none
/-- What SessionNew answers. -/
def SesNQ (w : World) (need many : Int) (ng : Nat) (zg : Nat → Int) (nc : Nat) (zc : Nat → Int) (msg : Int) (nm ns : Nat) (zm zs : Nat → Int) (e : Ending) (w' : World) : Prop :=
  if nm = ns ∧ tsF need many ng zg nc zc msg nm (nwS zm zs) = true then SesQ w need many ng zg nc zc msg nm (nwS zm zs) true e w' else SesZ w e w'
theorem sesNQ_yes {w : World} {need many : Int} {ng : Nat} {zg : Nat → Int} {nc : Nat} {zc : Nat → Int} {msg : Int} {nm ns : Nat} {zm zs : Nat → Int} {e : Ending} {w' : World} (h1 : nm = ns) (h2 : tsF need many ng zg nc zc msg nm (nwS zm zs) = true) (h : SesQ w need many ng zg nc zc msg nm (nwS zm zs) true e w') : SesNQ w need many ng zg nc zc msg nm ns zm zs e w' := by unfold SesNQ; rw [if_pos ⟨h1, h2⟩]; exact h
theorem sesNQ_no {w : World} {need many : Int} {ng : Nat} {zg : Nat → Int} {nc : Nat} {zc : Nat → Int} {msg : Int} {nm ns : Nat} {zm zs : Nat → Int} {e : Ending} {w' : World} (h1 : ¬ (nm = ns ∧ tsF need many ng zg nc zc msg nm (nwS zm zs) = true)) (h : SesZ w e w') : SesNQ w need many ng zg nc zc msg nm ns zm zs e w' := by unfold SesNQ; rw [if_neg h1]; exact h
set_option maxRecDepth 100000 in
set_option maxHeartbeats 4000000 in
theorem i32new (w : World) (need many : Int) (ag : Option Addr) (ng cg : Nat) (zg : Nat → Int) (ac : Option Addr) (nc cc : Nat) (zc : Nat → Int) (msg : Int) (am : Option Addr) (nm cm : Nat) (zm : Nat → Int) (ae : Option Addr) (ns cs : Nat) (zs : Nat → Int) (hG : Ints w ag ng zg) (hC : Ints w ac nc zc) (hsg : Sl ag ng cg) (hsc : Sl ac nc cc) (hM : Ints w am nm zm) (hN : Ints w ae ns zs) (hl1 : ng ≤ 2000000) (hl2 : nc ≤ 2000000) (hl3 : nm ≤ 2000000) :
    Calls Tryz.prog 6 #[.agg #[.int .i64 need, .int .i64 many, .slice ag ng cg, .slice ac nc cc], .int .i64 msg, .slice am nm cm, .slice ae ns cs] w (SesNQ w need many ng zg nc zc msg nm ns zm zs) := by
  have G := Lib.hid (gtr (Draw.grown_alloc w (.cells #[.int .i64 need, .int .i64 many, .slice ag ng cg, .slice ac nc cc] 25) none) (Draw.grown_alloc _ (.cells #[.int .i64 0, .int .i64 0, .slice none 0 0, .slice none 0 0, .int .i64 0, .slice none 0 0] 30) none))
  have K := Lib.hid ((Ky.new w need many (.slice ag ng cg) (.slice ac nc cc) 25).kept (Draw.grown_alloc _ (.cells #[.int .i64 0, .int .i64 0, .slice none 0 0, .slice none 0 0, .int .i64 0, .slice none 0 0] 30) none))
  have R := Lib.hid (blk_new2 w (.cells #[.int .i64 need, .int .i64 many, .slice ag ng cg, .slice ac nc cc] 25) #[.int .i64 0, .int .i64 0, .slice none 0 0, .slice none 0 0, .int .i64 0, .slice none 0 0] 30)
  have HG := Lib.hid (hG.kept G.out); have HC := Lib.hid (hC.kept G.out)
  have HM0 := Lib.hid hM; have HN0 := Lib.hid hN
  clear hG hC hM hN
  by_cases hmn : nm = ns
  case neg =>
    have HQ := Lib.hid (show ¬ (nm = ns ∧ tsF need many ng zg nc zc msg nm (nwS zm zs) = true) from fun h => hmn h.1)
    have hb : ((nm : Int) != (ns : Int)) = true := by simp; omega
    clear hmn
    go_enter Tryz.func6, Tryz.ntmps6
    go_wp2_with (first
      | (refine wpList_store_blk rfl 30 (.tmp 8) (.tmp 18) _ _ _ 30 R.out rfl rfl rfl rfl (by kernel_rfl) (by simp [Value.oneCell']) rfl ?_; intro V hgV hRV; have HGV := Lib.hid hgV; have HRV := Lib.hid hRV; clear hgV hRV))
    (try simp only [Exit.inBlock, Exit.then])
    refine bodyPost_ret (ret_ses2 rfl _ rfl HRV.out) rfl ?_
    exact sesNQ_no HQ.out ⟨rfl, grown_new G.out (by omega) HGV.out⟩
  subst hmn
  have hb : ((nm : Int) != (nm : Int)) = false := by simp
  go_enter Tryz.func6, Tryz.ntmps6
  go_wp2_with fail
  refine' (fun (hk : Later _) => ?main) (Later.mk ?rest)
  case main =>
    refine wp_region_held_drew (S := (fun w' => w'.cell? ⟨w.heap.size, 0, none⟩ = some (.int .i64 need) ∧ w'.cell? ⟨w.heap.size, 1, none⟩ = some (.int .i64 many) ∧ w'.cell? ⟨w.heap.size, 2, none⟩ = some (.slice ag ng cg) ∧ w'.cell? ⟨w.heap.size, 3, none⟩ = some (.slice ac nc cc))) (by kernel_rfl) (⟨K.out.c0, K.out.c1, K.out.c2, K.out.c3⟩) (fun hHeld => ?_)
    have hg := Draw.gdrew ((w.alloc (.cells #[.int .i64 need, .int .i64 many, .slice ag ng cg, .slice ac nc cc] 25)).alloc (.cells #[.int .i64 0, .int .i64 0, .slice none 0 0, .slice none 0 0, .int .i64 0, .slice none 0 0] 30))
    replace G := Lib.hid (gtr G.out hg)
    replace K := Lib.hid (K.out.kept hg)
    replace R := Lib.hid (R.out.keptN hg)
    replace HG := Lib.hid (HG.out.kept hg)
    replace HC := Lib.hid (HC.out.kept hg)
    clear hg
    generalize (((w.alloc (.cells #[.int .i64 need, .int .i64 many, .slice ag ng cg, .slice ac nc cc] 25)).alloc (.cells #[.int .i64 0, .int .i64 0, .slice none 0 0, .slice none 0 0, .int .i64 0, .slice none 0 0] 30))).drew = W at *
    refine wpAnyH_take (i := 0) (oi := ⟨some 19, _, _, _, _, _⟩) (v := ?_) rfl (by kernel_rfl) (by kernel_rfl) (by kernel_rfl) (fun _ _ _ h => h) (Or.inl ⟨by rfl, ?_⟩) (by assumption) ?_
    rotate_left
    · intro w hSw; (try dsimp only at hSw); go_simp; try with_reducible rfl
    simp only [Act.put, List.setIfInBounds_toArray, List.set_cons_zero, List.set_cons_succ]
    refine wpAnyH_take (i := 2) (oi := ⟨some 21, _, _, _, _, _⟩) (v := ?_) rfl (by kernel_rfl) (by kernel_rfl) (by kernel_rfl) (fun _ _ _ h => h) (Or.inl ⟨by rfl, ?_⟩) (by assumption) ?_
    rotate_left
    · intro w hSw; (try dsimp only at hSw); go_simp; try with_reducible rfl
    simp only [Act.put, List.setIfInBounds_toArray, List.set_cons_zero, List.set_cons_succ]
    refine wpAnyH_take (i := 3) (oi := ⟨some 22, _, _, _, _, _⟩) (v := ?_) rfl (by kernel_rfl) (by kernel_rfl) (by kernel_rfl) (fun _ _ _ h => h) (Or.inl ⟨by rfl, ?_⟩) (by assumption) ?_
    rotate_left
    · intro w hSw; (try dsimp only at hSw); go_simp; try with_reducible rfl
    simp only [Act.put, List.setIfInBounds_toArray, List.set_cons_zero, List.set_cons_succ]
    refine wpAnyH_take (i := 4) (oi := ⟨some 23, _, _, _, _, _⟩) (v := ?_) rfl (by kernel_rfl) (by kernel_rfl) (by kernel_rfl) (fun _ _ _ h => h) (Or.inl ⟨by rfl, ?_⟩) (by assumption) ?_
    rotate_left
    · intro w hSw; (try dsimp only at hSw); go_simp; try with_reducible rfl
    simp only [Act.put, List.setIfInBounds_toArray, List.set_cons_zero, List.set_cons_succ]
    refine wpAnyH_ready (rs := [1, 5, 7]) (by kernel_rfl) (by simp) ?_
    refine AllReadyH.cons (o := ⟨some 20, _, _, _, _, _⟩) rfl (fun Kq hKq => ?_) (AllReadyH.cons (o := ⟨some 24, _, _, _, _, _⟩) rfl (fun Kq hKq => ?_) (AllReadyH.cons (o := ⟨some 10, _, _, _, _, _⟩) rfl (fun Kq hKq => ?_) AllReadyH.nil))
    · go_simp
      go_at_call 20
      refine (icopykey _ need many _ ng _ zg _ nc _ zc HG.out HC.out hsg hsc hl1 hl2).mono ?_
      rintro e W2 ⟨a1, c1, a2, c2, rfl, hv1, hv2, hap, hg⟩
      have hR := R.out.lt
      have I1 := Lib.hid (hv1.lower (lo' := w.heap.size + 2) hR); have I2 := Lib.hid (hv2.lower (lo' := w.heap.size + 2) hR)
      have AT := Lib.hid hap
      clear hv1 hv2 hR hap
      replace G := Lib.hid (gtr G.out hg)
      replace K := Lib.hid (K.out.kept hg)
      replace R := Lib.hid (R.out.keptN hg)
      replace HG := Lib.hid (HG.out.kept hg)
      replace HC := Lib.hid (HC.out.kept hg)
      clear hg
      refine hKq.out _ _ (⟨K.out.c0, K.out.c1, K.out.c2, K.out.c3⟩) (fun hHeld => ?_)
      clear hKq Kq
      refine wpAnyH_ready (rs := [5, 7]) (by kernel_rfl) (by simp) ?_
      refine AllReadyH.cons (o := ⟨some 24, _, _, _, _, _⟩) rfl (fun Kq hKq => ?_) (AllReadyH.cons (o := ⟨some 10, _, _, _, _, _⟩) rfl (fun Kq hKq => ?_) AllReadyH.nil)
      · rw [if_pos (by rfl)]
        refine wp_make4 (.tmp 23) rfl nm rfl hl3 ?_
        intro W5 hg hT
        have hR := R.out.lt
        have T := Lib.hid (hT.lower (lo' := w.heap.size + 2) hR)
        clear hT hR
        replace G := Lib.hid (gtr G.out hg)
        replace K := Lib.hid (K.out.kept hg)
        replace R := Lib.hid (R.out.keptN hg)
        replace HG := Lib.hid (HG.out.kept hg)
        replace HC := Lib.hid (HC.out.kept hg)
        replace I1 := Lib.hid (I1.out.kept hg (fun g e => by cases e))
        replace I2 := Lib.hid (I2.out.kept hg (fun g e => by cases e))
        clear hg
        generalize W2.heap.size = x5 at *
        refine hKq.out _ _ (⟨K.out.c0, K.out.c1, K.out.c2, K.out.c3⟩) (fun hHeld => ?_)
        clear hKq Kq
        refine wpAnyH_take (i := 6) (oi := ⟨some 25, _, _, _, _, _⟩) (v := ?_) rfl (by kernel_rfl) (by kernel_rfl) (by kernel_rfl) (fun _ _ _ h => h) (Or.inl ⟨by rfl, ?_⟩) (by assumption) ?_
        rotate_left
        · intro w hSw; (try dsimp only at hSw); go_simp; try with_reducible rfl
        simp only [Act.put, List.setIfInBounds_toArray, List.set_cons_zero, List.set_cons_succ]
        refine wpAnyH_ready (rs := [7]) (by kernel_rfl) (by simp) ?_
        refine AllReadyH.cons (o := ⟨some 10, _, _, _, _, _⟩) rfl (fun Kq hKq => ?_) AllReadyH.nil
        go_simp
        refine at_alloc ?_
        intro W7 hg hT
        have hx10 : w.heap.size + 2 ≤ W5.heap.size := R.out.lt
        generalize W5.heap.size = x10 at *
        have B := Lib.hid hT
        replace G := Lib.hid (gtr G.out hg)
        replace K := Lib.hid (K.out.kept hg)
        replace R := Lib.hid (R.out.keptN hg)
        replace HG := Lib.hid (HG.out.kept hg)
        replace HC := Lib.hid (HC.out.kept hg)
        replace I1 := Lib.hid (I1.out.kept hg (fun g e => by cases e))
        replace I2 := Lib.hid (I2.out.kept hg (fun g e => by cases e))
        replace T := Lib.hid (T.out.keptN hg)
        clear hg
        clear hT
        refine hKq.out _ _ (⟨K.out.c0, K.out.c1, K.out.c2, K.out.c3⟩) (fun hHeld => ?_)
        clear hKq Kq
        refine wpAnyH_ready (rs := [8]) (by kernel_rfl) (by simp) ?_
        refine AllReadyH.cons (o := ⟨none, _, _, _, _, _⟩) rfl (fun Kq hKq => ?_) AllReadyH.nil
        rw [if_pos (by rfl)]
        refine wp_store_blk 30 (.tmp 10) (.tmp 25) x10 #[.int .i64 need, .int .i64 many, .slice a1 ng c1, .slice a2 nc c2, .int .i64 msg, .slice (some ⟨x5, 0, none⟩) nm nm] _ 30 B.out rfl rfl rfl rfl (by kernel_rfl) (by simp [Value.oneCell']) rfl ?_
        intro W8 hg hT
        have I1' := I1.out.keptBlk B.out hg; have I2' := I2.out.keptBlk B.out hg
        have T' := T.out.kept hg (fun e => tyd_ne T.out.tyd (blk_tyd B.out) (by decide) (Option.some.inj e))
        have G' := grown_new G.out (by omega) hg
        have R' := R.out.kept hg (by intro e; have e := Option.some.inj e; omega)
        have K' := K.out.keptB (hg.block _ K.out.lt (by intro e; have e := Option.some.inj e; omega)) hg.size
        clear I1 I2 T G R K B hg
        have I1 := Lib.hid I1'; have I2 := Lib.hid I2'; have T := Lib.hid T'; have G := Lib.hid G'; have R := Lib.hid R'; have K := Lib.hid K'; have B := Lib.hid hT
        clear I1' I2' T' G' R' K' hT HG HC
        refine hKq.out _ _ (⟨K.out.c0, K.out.c1, K.out.c2, K.out.c3⟩) (fun hHeld => ?_)
        clear hKq Kq
        refine wpAnyH_done (by kernel_rfl) ?_ _
        clear K hHeld
        revert I1; revert I2; revert AT; revert T; revert G; revert R; revert B; revert hx10; revert W8; revert x5; revert x10; revert a1; revert c1; revert a2; revert c2
        exact hk.out
      · go_simp
        refine at_alloc ?_
        intro W7 hg hT
        have hx10 : w.heap.size + 2 ≤ W2.heap.size := R.out.lt
        generalize W2.heap.size = x10 at *
        have B := Lib.hid hT
        replace G := Lib.hid (gtr G.out hg)
        replace K := Lib.hid (K.out.kept hg)
        replace R := Lib.hid (R.out.keptN hg)
        replace HG := Lib.hid (HG.out.kept hg)
        replace HC := Lib.hid (HC.out.kept hg)
        replace I1 := Lib.hid (I1.out.kept hg (fun g e => by cases e))
        replace I2 := Lib.hid (I2.out.kept hg (fun g e => by cases e))
        clear hg
        clear hT
        refine hKq.out _ _ (⟨K.out.c0, K.out.c1, K.out.c2, K.out.c3⟩) (fun hHeld => ?_)
        clear hKq Kq
        refine wpAnyH_ready (rs := [5]) (by kernel_rfl) (by simp) ?_
        refine AllReadyH.cons (o := ⟨some 24, _, _, _, _, _⟩) rfl (fun Kq hKq => ?_) AllReadyH.nil
        rw [if_pos (by rfl)]
        refine wp_make4 (.tmp 23) rfl nm rfl hl3 ?_
        intro W5 hg hT
        have hR := R.out.lt
        have T := Lib.hid (hT.lower (lo' := w.heap.size + 2) hR)
        clear hT hR
        replace G := Lib.hid (gtr G.out hg)
        replace K := Lib.hid (K.out.kept hg)
        replace R := Lib.hid (R.out.keptN hg)
        replace HG := Lib.hid (HG.out.kept hg)
        replace HC := Lib.hid (HC.out.kept hg)
        replace I1 := Lib.hid (I1.out.kept hg (fun g e => by cases e))
        replace I2 := Lib.hid (I2.out.kept hg (fun g e => by cases e))
        replace B := Lib.hid (B.out.keptN hg)
        clear hg
        generalize W7.heap.size = x5 at *
        refine hKq.out _ _ (⟨K.out.c0, K.out.c1, K.out.c2, K.out.c3⟩) (fun hHeld => ?_)
        clear hKq Kq
        refine wpAnyH_take (i := 6) (oi := ⟨some 25, _, _, _, _, _⟩) (v := ?_) rfl (by kernel_rfl) (by kernel_rfl) (by kernel_rfl) (fun _ _ _ h => h) (Or.inl ⟨by rfl, ?_⟩) (by assumption) ?_
        rotate_left
        · intro w hSw; (try dsimp only at hSw); go_simp; try with_reducible rfl
        simp only [Act.put, List.setIfInBounds_toArray, List.set_cons_zero, List.set_cons_succ]
        refine wpAnyH_ready (rs := [8]) (by kernel_rfl) (by simp) ?_
        refine AllReadyH.cons (o := ⟨none, _, _, _, _, _⟩) rfl (fun Kq hKq => ?_) AllReadyH.nil
        rw [if_pos (by rfl)]
        refine wp_store_blk 30 (.tmp 10) (.tmp 25) x10 #[.int .i64 need, .int .i64 many, .slice a1 ng c1, .slice a2 nc c2, .int .i64 msg, .slice (some ⟨x5, 0, none⟩) nm nm] _ 30 B.out rfl rfl rfl rfl (by kernel_rfl) (by simp [Value.oneCell']) rfl ?_
        intro W8 hg hT
        have I1' := I1.out.keptBlk B.out hg; have I2' := I2.out.keptBlk B.out hg
        have T' := T.out.kept hg (fun e => tyd_ne T.out.tyd (blk_tyd B.out) (by decide) (Option.some.inj e))
        have G' := grown_new G.out (by omega) hg
        have R' := R.out.kept hg (by intro e; have e := Option.some.inj e; omega)
        have K' := K.out.keptB (hg.block _ K.out.lt (by intro e; have e := Option.some.inj e; omega)) hg.size
        clear I1 I2 T G R K B hg
        have I1 := Lib.hid I1'; have I2 := Lib.hid I2'; have T := Lib.hid T'; have G := Lib.hid G'; have R := Lib.hid R'; have K := Lib.hid K'; have B := Lib.hid hT
        clear I1' I2' T' G' R' K' hT HG HC
        refine hKq.out _ _ (⟨K.out.c0, K.out.c1, K.out.c2, K.out.c3⟩) (fun hHeld => ?_)
        clear hKq Kq
        refine wpAnyH_done (by kernel_rfl) ?_ _
        clear K hHeld
        revert I1; revert I2; revert AT; revert T; revert G; revert R; revert B; revert hx10; revert W8; revert x5; revert x10; revert a1; revert c1; revert a2; revert c2
        exact hk.out
    · rw [if_pos (by rfl)]
      refine wp_make4 (.tmp 23) rfl nm rfl hl3 ?_
      intro W5 hg hT
      have hR := R.out.lt
      have T := Lib.hid (hT.lower (lo' := w.heap.size + 2) hR)
      clear hT hR
      replace G := Lib.hid (gtr G.out hg)
      replace K := Lib.hid (K.out.kept hg)
      replace R := Lib.hid (R.out.keptN hg)
      replace HG := Lib.hid (HG.out.kept hg)
      replace HC := Lib.hid (HC.out.kept hg)
      clear hg
      generalize W.heap.size = x5 at *
      refine hKq.out _ _ (⟨K.out.c0, K.out.c1, K.out.c2, K.out.c3⟩) (fun hHeld => ?_)
      clear hKq Kq
      refine wpAnyH_ready (rs := [1, 7]) (by kernel_rfl) (by simp) ?_
      refine AllReadyH.cons (o := ⟨some 20, _, _, _, _, _⟩) rfl (fun Kq hKq => ?_) (AllReadyH.cons (o := ⟨some 10, _, _, _, _, _⟩) rfl (fun Kq hKq => ?_) AllReadyH.nil)
      · go_simp
        go_at_call 20
        refine (icopykey _ need many _ ng _ zg _ nc _ zc HG.out HC.out hsg hsc hl1 hl2).mono ?_
        rintro e W2 ⟨a1, c1, a2, c2, rfl, hv1, hv2, hap, hg⟩
        have hR := R.out.lt
        have I1 := Lib.hid (hv1.lower (lo' := w.heap.size + 2) hR); have I2 := Lib.hid (hv2.lower (lo' := w.heap.size + 2) hR)
        have AT := Lib.hid hap
        clear hv1 hv2 hR hap
        replace G := Lib.hid (gtr G.out hg)
        replace K := Lib.hid (K.out.kept hg)
        replace R := Lib.hid (R.out.keptN hg)
        replace HG := Lib.hid (HG.out.kept hg)
        replace HC := Lib.hid (HC.out.kept hg)
        replace T := Lib.hid (T.out.keptN hg)
        clear hg
        refine hKq.out _ _ (⟨K.out.c0, K.out.c1, K.out.c2, K.out.c3⟩) (fun hHeld => ?_)
        clear hKq Kq
        refine wpAnyH_take (i := 6) (oi := ⟨some 25, _, _, _, _, _⟩) (v := ?_) rfl (by kernel_rfl) (by kernel_rfl) (by kernel_rfl) (fun _ _ _ h => h) (Or.inl ⟨by rfl, ?_⟩) (by assumption) ?_
        rotate_left
        · intro w hSw; (try dsimp only at hSw); go_simp; try with_reducible rfl
        simp only [Act.put, List.setIfInBounds_toArray, List.set_cons_zero, List.set_cons_succ]
        refine wpAnyH_ready (rs := [7]) (by kernel_rfl) (by simp) ?_
        refine AllReadyH.cons (o := ⟨some 10, _, _, _, _, _⟩) rfl (fun Kq hKq => ?_) AllReadyH.nil
        go_simp
        refine at_alloc ?_
        intro W7 hg hT
        have hx10 : w.heap.size + 2 ≤ W2.heap.size := R.out.lt
        generalize W2.heap.size = x10 at *
        have B := Lib.hid hT
        replace G := Lib.hid (gtr G.out hg)
        replace K := Lib.hid (K.out.kept hg)
        replace R := Lib.hid (R.out.keptN hg)
        replace HG := Lib.hid (HG.out.kept hg)
        replace HC := Lib.hid (HC.out.kept hg)
        replace T := Lib.hid (T.out.keptN hg)
        replace I1 := Lib.hid (I1.out.kept hg (fun g e => by cases e))
        replace I2 := Lib.hid (I2.out.kept hg (fun g e => by cases e))
        clear hg
        clear hT
        refine hKq.out _ _ (⟨K.out.c0, K.out.c1, K.out.c2, K.out.c3⟩) (fun hHeld => ?_)
        clear hKq Kq
        refine wpAnyH_ready (rs := [8]) (by kernel_rfl) (by simp) ?_
        refine AllReadyH.cons (o := ⟨none, _, _, _, _, _⟩) rfl (fun Kq hKq => ?_) AllReadyH.nil
        rw [if_pos (by rfl)]
        refine wp_store_blk 30 (.tmp 10) (.tmp 25) x10 #[.int .i64 need, .int .i64 many, .slice a1 ng c1, .slice a2 nc c2, .int .i64 msg, .slice (some ⟨x5, 0, none⟩) nm nm] _ 30 B.out rfl rfl rfl rfl (by kernel_rfl) (by simp [Value.oneCell']) rfl ?_
        intro W8 hg hT
        have I1' := I1.out.keptBlk B.out hg; have I2' := I2.out.keptBlk B.out hg
        have T' := T.out.kept hg (fun e => tyd_ne T.out.tyd (blk_tyd B.out) (by decide) (Option.some.inj e))
        have G' := grown_new G.out (by omega) hg
        have R' := R.out.kept hg (by intro e; have e := Option.some.inj e; omega)
        have K' := K.out.keptB (hg.block _ K.out.lt (by intro e; have e := Option.some.inj e; omega)) hg.size
        clear I1 I2 T G R K B hg
        have I1 := Lib.hid I1'; have I2 := Lib.hid I2'; have T := Lib.hid T'; have G := Lib.hid G'; have R := Lib.hid R'; have K := Lib.hid K'; have B := Lib.hid hT
        clear I1' I2' T' G' R' K' hT HG HC
        refine hKq.out _ _ (⟨K.out.c0, K.out.c1, K.out.c2, K.out.c3⟩) (fun hHeld => ?_)
        clear hKq Kq
        refine wpAnyH_done (by kernel_rfl) ?_ _
        clear K hHeld
        revert I1; revert I2; revert AT; revert T; revert G; revert R; revert B; revert hx10; revert W8; revert x5; revert x10; revert a1; revert c1; revert a2; revert c2
        exact hk.out
      · go_simp
        refine at_alloc ?_
        intro W7 hg hT
        have hx10 : w.heap.size + 2 ≤ W5.heap.size := R.out.lt
        generalize W5.heap.size = x10 at *
        have B := Lib.hid hT
        replace G := Lib.hid (gtr G.out hg)
        replace K := Lib.hid (K.out.kept hg)
        replace R := Lib.hid (R.out.keptN hg)
        replace HG := Lib.hid (HG.out.kept hg)
        replace HC := Lib.hid (HC.out.kept hg)
        replace T := Lib.hid (T.out.keptN hg)
        clear hg
        clear hT
        refine hKq.out _ _ (⟨K.out.c0, K.out.c1, K.out.c2, K.out.c3⟩) (fun hHeld => ?_)
        clear hKq Kq
        refine wpAnyH_ready (rs := [1]) (by kernel_rfl) (by simp) ?_
        refine AllReadyH.cons (o := ⟨some 20, _, _, _, _, _⟩) rfl (fun Kq hKq => ?_) AllReadyH.nil
        go_simp
        go_at_call 20
        refine (icopykey _ need many _ ng _ zg _ nc _ zc HG.out HC.out hsg hsc hl1 hl2).mono ?_
        rintro e W2 ⟨a1, c1, a2, c2, rfl, hv1, hv2, hap, hg⟩
        have hR := R.out.lt
        have I1 := Lib.hid (hv1.lower (lo' := w.heap.size + 2) hR); have I2 := Lib.hid (hv2.lower (lo' := w.heap.size + 2) hR)
        have AT := Lib.hid hap
        clear hv1 hv2 hR hap
        replace G := Lib.hid (gtr G.out hg)
        replace K := Lib.hid (K.out.kept hg)
        replace R := Lib.hid (R.out.keptN hg)
        replace HG := Lib.hid (HG.out.kept hg)
        replace HC := Lib.hid (HC.out.kept hg)
        replace T := Lib.hid (T.out.keptN hg)
        replace B := Lib.hid (B.out.keptN hg)
        clear hg
        refine hKq.out _ _ (⟨K.out.c0, K.out.c1, K.out.c2, K.out.c3⟩) (fun hHeld => ?_)
        clear hKq Kq
        refine wpAnyH_take (i := 6) (oi := ⟨some 25, _, _, _, _, _⟩) (v := ?_) rfl (by kernel_rfl) (by kernel_rfl) (by kernel_rfl) (fun _ _ _ h => h) (Or.inl ⟨by rfl, ?_⟩) (by assumption) ?_
        rotate_left
        · intro w hSw; (try dsimp only at hSw); go_simp; try with_reducible rfl
        simp only [Act.put, List.setIfInBounds_toArray, List.set_cons_zero, List.set_cons_succ]
        refine wpAnyH_ready (rs := [8]) (by kernel_rfl) (by simp) ?_
        refine AllReadyH.cons (o := ⟨none, _, _, _, _, _⟩) rfl (fun Kq hKq => ?_) AllReadyH.nil
        rw [if_pos (by rfl)]
        refine wp_store_blk 30 (.tmp 10) (.tmp 25) x10 #[.int .i64 need, .int .i64 many, .slice a1 ng c1, .slice a2 nc c2, .int .i64 msg, .slice (some ⟨x5, 0, none⟩) nm nm] _ 30 B.out rfl rfl rfl rfl (by kernel_rfl) (by simp [Value.oneCell']) rfl ?_
        intro W8 hg hT
        have I1' := I1.out.keptBlk B.out hg; have I2' := I2.out.keptBlk B.out hg
        have T' := T.out.kept hg (fun e => tyd_ne T.out.tyd (blk_tyd B.out) (by decide) (Option.some.inj e))
        have G' := grown_new G.out (by omega) hg
        have R' := R.out.kept hg (by intro e; have e := Option.some.inj e; omega)
        have K' := K.out.keptB (hg.block _ K.out.lt (by intro e; have e := Option.some.inj e; omega)) hg.size
        clear I1 I2 T G R K B hg
        have I1 := Lib.hid I1'; have I2 := Lib.hid I2'; have T := Lib.hid T'; have G := Lib.hid G'; have R := Lib.hid R'; have K := Lib.hid K'; have B := Lib.hid hT
        clear I1' I2' T' G' R' K' hT HG HC
        refine hKq.out _ _ (⟨K.out.c0, K.out.c1, K.out.c2, K.out.c3⟩) (fun hHeld => ?_)
        clear hKq Kq
        refine wpAnyH_done (by kernel_rfl) ?_ _
        clear K hHeld
        revert I1; revert I2; revert AT; revert T; revert G; revert R; revert B; revert hx10; revert W8; revert x5; revert x10; revert a1; revert c1; revert a2; revert c2
        exact hk.out
    · go_simp
      refine at_alloc ?_
      intro W7 hg hT
      have hx10 : w.heap.size + 2 ≤ W.heap.size := R.out.lt
      generalize W.heap.size = x10 at *
      have B := Lib.hid hT
      replace G := Lib.hid (gtr G.out hg)
      replace K := Lib.hid (K.out.kept hg)
      replace R := Lib.hid (R.out.keptN hg)
      replace HG := Lib.hid (HG.out.kept hg)
      replace HC := Lib.hid (HC.out.kept hg)
      clear hg
      clear hT
      refine hKq.out _ _ (⟨K.out.c0, K.out.c1, K.out.c2, K.out.c3⟩) (fun hHeld => ?_)
      clear hKq Kq
      refine wpAnyH_ready (rs := [1, 5]) (by kernel_rfl) (by simp) ?_
      refine AllReadyH.cons (o := ⟨some 20, _, _, _, _, _⟩) rfl (fun Kq hKq => ?_) (AllReadyH.cons (o := ⟨some 24, _, _, _, _, _⟩) rfl (fun Kq hKq => ?_) AllReadyH.nil)
      · go_simp
        go_at_call 20
        refine (icopykey _ need many _ ng _ zg _ nc _ zc HG.out HC.out hsg hsc hl1 hl2).mono ?_
        rintro e W2 ⟨a1, c1, a2, c2, rfl, hv1, hv2, hap, hg⟩
        have hR := R.out.lt
        have I1 := Lib.hid (hv1.lower (lo' := w.heap.size + 2) hR); have I2 := Lib.hid (hv2.lower (lo' := w.heap.size + 2) hR)
        have AT := Lib.hid hap
        clear hv1 hv2 hR hap
        replace G := Lib.hid (gtr G.out hg)
        replace K := Lib.hid (K.out.kept hg)
        replace R := Lib.hid (R.out.keptN hg)
        replace HG := Lib.hid (HG.out.kept hg)
        replace HC := Lib.hid (HC.out.kept hg)
        replace B := Lib.hid (B.out.keptN hg)
        clear hg
        refine hKq.out _ _ (⟨K.out.c0, K.out.c1, K.out.c2, K.out.c3⟩) (fun hHeld => ?_)
        clear hKq Kq
        refine wpAnyH_ready (rs := [5]) (by kernel_rfl) (by simp) ?_
        refine AllReadyH.cons (o := ⟨some 24, _, _, _, _, _⟩) rfl (fun Kq hKq => ?_) AllReadyH.nil
        rw [if_pos (by rfl)]
        refine wp_make4 (.tmp 23) rfl nm rfl hl3 ?_
        intro W5 hg hT
        have hR := R.out.lt
        have T := Lib.hid (hT.lower (lo' := w.heap.size + 2) hR)
        clear hT hR
        replace G := Lib.hid (gtr G.out hg)
        replace K := Lib.hid (K.out.kept hg)
        replace R := Lib.hid (R.out.keptN hg)
        replace HG := Lib.hid (HG.out.kept hg)
        replace HC := Lib.hid (HC.out.kept hg)
        replace B := Lib.hid (B.out.keptN hg)
        replace I1 := Lib.hid (I1.out.kept hg (fun g e => by cases e))
        replace I2 := Lib.hid (I2.out.kept hg (fun g e => by cases e))
        clear hg
        generalize W2.heap.size = x5 at *
        refine hKq.out _ _ (⟨K.out.c0, K.out.c1, K.out.c2, K.out.c3⟩) (fun hHeld => ?_)
        clear hKq Kq
        refine wpAnyH_take (i := 6) (oi := ⟨some 25, _, _, _, _, _⟩) (v := ?_) rfl (by kernel_rfl) (by kernel_rfl) (by kernel_rfl) (fun _ _ _ h => h) (Or.inl ⟨by rfl, ?_⟩) (by assumption) ?_
        rotate_left
        · intro w hSw; (try dsimp only at hSw); go_simp; try with_reducible rfl
        simp only [Act.put, List.setIfInBounds_toArray, List.set_cons_zero, List.set_cons_succ]
        refine wpAnyH_ready (rs := [8]) (by kernel_rfl) (by simp) ?_
        refine AllReadyH.cons (o := ⟨none, _, _, _, _, _⟩) rfl (fun Kq hKq => ?_) AllReadyH.nil
        rw [if_pos (by rfl)]
        refine wp_store_blk 30 (.tmp 10) (.tmp 25) x10 #[.int .i64 need, .int .i64 many, .slice a1 ng c1, .slice a2 nc c2, .int .i64 msg, .slice (some ⟨x5, 0, none⟩) nm nm] _ 30 B.out rfl rfl rfl rfl (by kernel_rfl) (by simp [Value.oneCell']) rfl ?_
        intro W8 hg hT
        have I1' := I1.out.keptBlk B.out hg; have I2' := I2.out.keptBlk B.out hg
        have T' := T.out.kept hg (fun e => tyd_ne T.out.tyd (blk_tyd B.out) (by decide) (Option.some.inj e))
        have G' := grown_new G.out (by omega) hg
        have R' := R.out.kept hg (by intro e; have e := Option.some.inj e; omega)
        have K' := K.out.keptB (hg.block _ K.out.lt (by intro e; have e := Option.some.inj e; omega)) hg.size
        clear I1 I2 T G R K B hg
        have I1 := Lib.hid I1'; have I2 := Lib.hid I2'; have T := Lib.hid T'; have G := Lib.hid G'; have R := Lib.hid R'; have K := Lib.hid K'; have B := Lib.hid hT
        clear I1' I2' T' G' R' K' hT HG HC
        refine hKq.out _ _ (⟨K.out.c0, K.out.c1, K.out.c2, K.out.c3⟩) (fun hHeld => ?_)
        clear hKq Kq
        refine wpAnyH_done (by kernel_rfl) ?_ _
        clear K hHeld
        revert I1; revert I2; revert AT; revert T; revert G; revert R; revert B; revert hx10; revert W8; revert x5; revert x10; revert a1; revert c1; revert a2; revert c2
        exact hk.out
      · rw [if_pos (by rfl)]
        refine wp_make4 (.tmp 23) rfl nm rfl hl3 ?_
        intro W5 hg hT
        have hR := R.out.lt
        have T := Lib.hid (hT.lower (lo' := w.heap.size + 2) hR)
        clear hT hR
        replace G := Lib.hid (gtr G.out hg)
        replace K := Lib.hid (K.out.kept hg)
        replace R := Lib.hid (R.out.keptN hg)
        replace HG := Lib.hid (HG.out.kept hg)
        replace HC := Lib.hid (HC.out.kept hg)
        replace B := Lib.hid (B.out.keptN hg)
        clear hg
        generalize W7.heap.size = x5 at *
        refine hKq.out _ _ (⟨K.out.c0, K.out.c1, K.out.c2, K.out.c3⟩) (fun hHeld => ?_)
        clear hKq Kq
        refine wpAnyH_ready (rs := [1]) (by kernel_rfl) (by simp) ?_
        refine AllReadyH.cons (o := ⟨some 20, _, _, _, _, _⟩) rfl (fun Kq hKq => ?_) AllReadyH.nil
        go_simp
        go_at_call 20
        refine (icopykey _ need many _ ng _ zg _ nc _ zc HG.out HC.out hsg hsc hl1 hl2).mono ?_
        rintro e W2 ⟨a1, c1, a2, c2, rfl, hv1, hv2, hap, hg⟩
        have hR := R.out.lt
        have I1 := Lib.hid (hv1.lower (lo' := w.heap.size + 2) hR); have I2 := Lib.hid (hv2.lower (lo' := w.heap.size + 2) hR)
        have AT := Lib.hid hap
        clear hv1 hv2 hR hap
        replace G := Lib.hid (gtr G.out hg)
        replace K := Lib.hid (K.out.kept hg)
        replace R := Lib.hid (R.out.keptN hg)
        replace HG := Lib.hid (HG.out.kept hg)
        replace HC := Lib.hid (HC.out.kept hg)
        replace B := Lib.hid (B.out.keptN hg)
        replace T := Lib.hid (T.out.keptN hg)
        clear hg
        refine hKq.out _ _ (⟨K.out.c0, K.out.c1, K.out.c2, K.out.c3⟩) (fun hHeld => ?_)
        clear hKq Kq
        refine wpAnyH_take (i := 6) (oi := ⟨some 25, _, _, _, _, _⟩) (v := ?_) rfl (by kernel_rfl) (by kernel_rfl) (by kernel_rfl) (fun _ _ _ h => h) (Or.inl ⟨by rfl, ?_⟩) (by assumption) ?_
        rotate_left
        · intro w hSw; (try dsimp only at hSw); go_simp; try with_reducible rfl
        simp only [Act.put, List.setIfInBounds_toArray, List.set_cons_zero, List.set_cons_succ]
        refine wpAnyH_ready (rs := [8]) (by kernel_rfl) (by simp) ?_
        refine AllReadyH.cons (o := ⟨none, _, _, _, _, _⟩) rfl (fun Kq hKq => ?_) AllReadyH.nil
        rw [if_pos (by rfl)]
        refine wp_store_blk 30 (.tmp 10) (.tmp 25) x10 #[.int .i64 need, .int .i64 many, .slice a1 ng c1, .slice a2 nc c2, .int .i64 msg, .slice (some ⟨x5, 0, none⟩) nm nm] _ 30 B.out rfl rfl rfl rfl (by kernel_rfl) (by simp [Value.oneCell']) rfl ?_
        intro W8 hg hT
        have I1' := I1.out.keptBlk B.out hg; have I2' := I2.out.keptBlk B.out hg
        have T' := T.out.kept hg (fun e => tyd_ne T.out.tyd (blk_tyd B.out) (by decide) (Option.some.inj e))
        have G' := grown_new G.out (by omega) hg
        have R' := R.out.kept hg (by intro e; have e := Option.some.inj e; omega)
        have K' := K.out.keptB (hg.block _ K.out.lt (by intro e; have e := Option.some.inj e; omega)) hg.size
        clear I1 I2 T G R K B hg
        have I1 := Lib.hid I1'; have I2 := Lib.hid I2'; have T := Lib.hid T'; have G := Lib.hid G'; have R := Lib.hid R'; have K := Lib.hid K'; have B := Lib.hid hT
        clear I1' I2' T' G' R' K' hT HG HC
        refine hKq.out _ _ (⟨K.out.c0, K.out.c1, K.out.c2, K.out.c3⟩) (fun hHeld => ?_)
        clear hKq Kq
        refine wpAnyH_done (by kernel_rfl) ?_ _
        clear K hHeld
        revert I1; revert I2; revert AT; revert T; revert G; revert R; revert B; revert hx10; revert W8; revert x5; revert x10; revert a1; revert c1; revert a2; revert c2
        exact hk.out
  clear K HG HC G R
  intro c2 a2 c1 a1 x10 x5 W hx10 B R G T AT I2 I1
  have hTf := T.out.from_
  have hTl := T.out.lt
  have hBl := B.out.lt
  have hne1 : ¬ x5 = x10 := fun e => tyd_ne T.out.tyd (blk_tyd B.out) (by decide) e
  have HTX := Lib.hid (And.intro hTf (And.intro hTl (And.intro hBl hx10)))
  have HTY := Lib.hid T.out.tyd
  have HT0 := Lib.hid (T.out.congr (g' := fun j => if j < 0 then shT (nwS zm zs) j else zeT) fun j i _ _ => by simp)
  clear T
  go_wp2
  go_loopw [28] (fun i wr => ∃ k : Nat, k ≤ nm ∧ i = .int .i64 k ∧ Row4 wr (w.heap.size + 2) 35 x5 nm (fun j => if j < k then shT (nwS zm zs) j else zeT) ∧ W.grownBy wr (some x5)) (fun i _ => nm - (intOf i).toNat)
  case atStart => exact ⟨0, by omega, rfl, HT0.out, Draw.grown_refl _ _⟩
  case round =>
    clear HT0
    obtain ⟨k, hk, rfl, hr, hg⟩ := hrel
    obtain ⟨W1, hW⟩ : ∃ W, W = wr := ⟨_, rfl⟩; subst hW
    have T := Lib.hid hr; have Z := Lib.hid hg
    have G1 := Lib.hid (grown_new G.out (by omega) hg)
    have B1 := Lib.hid (B.out.kept hg (by intro e; have e := Option.some.inj e; omega))
    clear hr hg
    by_cases hlt : k < nm
    · obtain ⟨bm, om, rfl, hbm, hcm⟩ := (HM0.out.kept G1.out).ptr (by omega)
      obtain ⟨bs, os, rfl, hbs, hcs⟩ := (HN0.out.kept G1.out).ptr (by omega)
      have hx := hcm k hlt
      clear hcm hcs
      go_wp2_with fail
      refine wp_region_held_drew (S := (fun w' => w'.cell? ⟨x10, 5, none⟩ = some (.slice (some ⟨x5, 0, none⟩) nm nm) ∧ w'.cell? ⟨bs, os + k, none⟩ = some (.int .i64 (zs k)))) (by kernel_rfl) (⟨B1.out.cell 5, ints_cell (HN0.out.kept G1.out) hlt⟩) (fun hHeld => ?_)
      have hg := Draw.gdrew W1
      clear hx
      replace G1 := Lib.hid (gtr G1.out hg)
      replace B1 := Lib.hid (B1.out.keptN hg)
      replace T := Lib.hid (T.out.keptN hg)
      replace Z := Lib.hid (gtr' Z.out (Draw.grown_some hg))
      clear hg
      generalize (W1).drew = W2 at *
      refine wpAnyH_take (i := 0) (oi := ⟨some 33, _, _, _, _, _⟩) (v := ?_) rfl (by kernel_rfl) (by kernel_rfl) (by kernel_rfl) (fun _ _ _ h => h) (Or.inl ⟨by rfl, ?_⟩) (by assumption) ?_
      rotate_left
      · intro w hSw; (try dsimp only at hSw); go_simp; try with_reducible rfl
      simp only [Act.put, List.setIfInBounds_toArray, List.set_cons_zero, List.set_cons_succ]
      refine wpAnyH_take (i := 1) (oi := ⟨some 34, _, _, _, _, _⟩) (v := ?_) rfl (by kernel_rfl) (by kernel_rfl) (by kernel_rfl) (fun _ _ _ h => h) (Or.inl ⟨by rfl, ?_⟩) (by assumption) ?_
      rotate_left
      · intro w hSw; (try dsimp only at hSw); go_simp; try with_reducible rfl
      simp only [Act.put, List.setIfInBounds_toArray, List.set_cons_zero, List.set_cons_succ]
      refine wpAnyH_take (i := 2) (oi := ⟨some 35, _, _, _, _, _⟩) (v := ?_) rfl (by kernel_rfl) (by kernel_rfl) (by kernel_rfl) (fun _ _ _ h => h) (Or.inl ⟨by rfl, ?_⟩) (by assumption) ?_
      rotate_left
      · intro w hSw; (try dsimp only at hSw); go_simp; try with_reducible rfl
      simp only [Act.put, List.setIfInBounds_toArray, List.set_cons_zero, List.set_cons_succ]
      refine wpAnyH_take (i := 3) (oi := ⟨some 36, _, _, _, _, _⟩) (v := ?_) rfl (by kernel_rfl) (by kernel_rfl) (by kernel_rfl) (fun _ _ _ h => h) (Or.inl ⟨by rfl, ?_⟩) (by assumption) ?_
      rotate_left
      · intro w hSw; (try dsimp only at hSw); go_simp; try with_reducible rfl
      simp only [Act.put, List.setIfInBounds_toArray, List.set_cons_zero, List.set_cons_succ]
      refine wpAnyH_take (i := 4) (oi := ⟨some 37, _, _, _, _, _⟩) (v := ?_) rfl (by kernel_rfl) (by kernel_rfl) (by kernel_rfl) (fun _ _ _ h => h) (Or.inl ⟨by rfl, ?_⟩) (by assumption) ?_
      rotate_left
      · intro w hSw; (try dsimp only at hSw); go_simp; try with_reducible rfl
      simp only [Act.put, List.setIfInBounds_toArray, List.set_cons_zero, List.set_cons_succ]
      refine wpAnyH_take (i := 5) (oi := ⟨some 38, _, _, _, _, _⟩) (v := ?_) rfl (by kernel_rfl) (by kernel_rfl) (by kernel_rfl) (fun _ _ _ h => h) (Or.inl ⟨by rfl, ?_⟩) (by assumption) ?_
      rotate_left
      · intro w hSw; (try dsimp only at hSw); go_simp; try with_reducible rfl
      simp only [Act.put, List.setIfInBounds_toArray, List.set_cons_zero, List.set_cons_succ]
      refine wpAnyH_take (i := 6) (oi := ⟨some 39, _, _, _, _, _⟩) (v := ?_) rfl (by kernel_rfl) (by kernel_rfl) (by kernel_rfl) (fun _ _ _ h => h) (Or.inl ⟨by rfl, ?_⟩) (by assumption) ?_
      rotate_left
      · intro w hSw; (try dsimp only at hSw); go_simp; try with_reducible rfl
      simp only [Act.put, List.setIfInBounds_toArray, List.set_cons_zero, List.set_cons_succ]
      refine wpAnyH_take (i := 7) (oi := ⟨some 40, _, _, _, _, _⟩) (v := ?_) rfl (by kernel_rfl) (by kernel_rfl) (by kernel_rfl) (fun _ _ _ h => h) (Or.inl ⟨by rfl, ?_⟩) (by assumption) ?_
      rotate_left
      · intro w hSw; (try dsimp only at hSw); go_simp; try with_reducible rfl
      simp only [Act.put, List.setIfInBounds_toArray, List.set_cons_zero, List.set_cons_succ]
      refine wpAnyH_take (i := 8) (oi := ⟨some 41, _, _, _, _, _⟩) (v := ?_) rfl (by kernel_rfl) (by kernel_rfl) (by kernel_rfl) (fun _ _ _ h => h) (Or.inl ⟨by rfl, ?_⟩) (by assumption) ?_
      rotate_left
      · intro w hSw; (try dsimp only at hSw); go_simp; try with_reducible rfl
      simp only [Act.put, List.setIfInBounds_toArray, List.set_cons_zero, List.set_cons_succ]
      refine wpAnyH_take (i := 9) (oi := ⟨some 42, _, _, _, _, _⟩) (v := ?_) rfl (by kernel_rfl) (by kernel_rfl) (by kernel_rfl) (fun _ _ _ h => h) (Or.inl ⟨by rfl, ?_⟩) (by assumption) ?_
      rotate_left
      · intro w hSw; (try dsimp only at hSw); go_simp; try with_reducible rfl
      simp only [Act.put, List.setIfInBounds_toArray, List.set_cons_zero, List.set_cons_succ]
      refine wpAnyH_ready (rs := [10]) (by kernel_rfl) (by simp) ?_
      refine AllReadyH.cons (o := ⟨none, _, _, _, _, _⟩) rfl (fun Kq hKq => ?_) AllReadyH.nil
      rw [if_pos (by rfl)]
      refine wp_store_row4 (.tmp 42) (.tmp 41) (w.heap.size + 2) x5 nm k _ _ _ _ _ T.out hlt rfl rfl rfl (by kernel_rfl) ?_
      intro W3 hg hT
      have Z3 := Lib.hid (gtr' Z.out hg)
      have G3 := Lib.hid (grown_new G1.out (by omega) hg)
      have B3 := Lib.hid (B1.out.kept hg (by intro e; have e := Option.some.inj e; omega))
      have T3 := Lib.hid (hT.congr (g' := fun j => if j < k + 1 then shT (nwS zm zs) j else zeT) fun j i hj hi => by
        by_cases e : j = k
        · subst e; rw [if_pos rfl, if_pos (by omega)]
          rcases (by omega : i = 0 ∨ i = 1 ∨ i = 2 ∨ i = 3) with rfl | rfl | rfl | rfl <;> rfl
        · by_cases h : j < k
          · rw [if_neg e, if_pos h, if_pos (by omega)]
          · rw [if_neg e, if_neg h, if_neg (by omega)])
      clear Z G1 B1 T hg hT
      have G1 := G3; have B1 := B3
      refine hKq.out _ _ (⟨B1.out.cell 5, ints_cell (HN0.out.kept G1.out) hlt⟩) (fun hHeld => ?_)
      clear hKq Kq
      refine wpAnyH_done (by kernel_rfl) ?_ _
      go_wp2
      go_roundw
      case rel => exact ⟨k + 1, by omega, by go_num, T3.out, Z3.out⟩
      case measure => simp [intOf]; omega
    · obtain rfl : k = nm := by omega
      have T3 := Lib.hid (T.out.congr (g' := shT (nwS zm zs)) fun j i hj hi => by rw [if_pos hj])
      have J1 := Lib.hid (I1.out.keptT HTY.out (by decide) Z.out); have J2 := Lib.hid (I2.out.keptT HTY.out (by decide) Z.out)
      have R1 := Lib.hid (R.out.kept Z.out (by intro e; have e := Option.some.inj e; omega))
      clear T Z
      obtain ⟨q0, q1, q2, q3, q4, q5, _, _, _, _, _, _⟩ := B1.out.all6
      go_wp2_with fail
      refine (i32ok _ need many _ ng _ zg _ nc _ zc msg _ k _ (nwS zm zs) J1.out.ints J2.out.ints T3.out.sh hl1 hl2 hl3).mono ?_
      rintro e W8 ⟨rfl, hg⟩
      clear q0 q1 q2 q3 q4 q5
      replace J1 := Lib.hid (J1.out.kept hg (fun g e => by cases e))
      replace J2 := Lib.hid (J2.out.kept hg (fun g e => by cases e))
      replace R1 := Lib.hid (R1.out.keptN hg)
      replace B1 := Lib.hid (B1.out.keptN hg)
      replace T3 := Lib.hid (T3.out.keptN hg)
      replace G1 := Lib.hid (gtr G1.out hg)
      clear hg
      cases hq : tsF need many ng zg nc zc msg k (nwS zm zs) with
      | false =>
        have HQ := Lib.hid hq
        go_wp2_with (first
          | (refine wpList_store_blk rfl 30 (.tmp 8) (.tmp 47) _ _ _ 30 R1.out rfl rfl rfl rfl (by kernel_rfl) (by simp [Value.oneCell']) rfl ?_; intro V hgV hRV; have HGV := Lib.hid hgV; have HRV := Lib.hid hRV; clear hgV hRV))
        (try simp only [Exit.inBlock, Exit.then])
        refine bodyPost_ret (ret_ses2 rfl _ rfl HRV.out) rfl ?_
        exact sesNQ_no (fun h => by have h2 := h.2; rw [HQ.out] at h2; cases h2) ⟨rfl, grown_new G1.out (by omega) HGV.out⟩
      | true =>
        have HQ := Lib.hid hq
        obtain ⟨q0, q1, q2, q3, q4, q5, _, _, _, _, _, _⟩ := B1.out.all6
        go_wp2_with (first
          | (refine wpList_store_blk rfl 30 (.tmp 8) (.tmp 48) _ _ _ 30 R1.out rfl rfl rfl rfl (by kernel_rfl) (by simp [Value.oneCell']) rfl ?_; intro V hgV hRV; have HGV := Lib.hid hgV; have HRV := Lib.hid hRV; clear hgV hRV))
        (try simp only [Exit.inBlock, Exit.then])
        refine bodyPost_ret (ret_ses2 rfl _ rfl HRV.out) rfl ?_
        have hne : ∀ g, (some (w.heap.size + 1) : Option Nat) = some g → g < w.heap.size + 2 := fun g e => by have e := Option.some.inj e; omega
        exact sesNQ_yes rfl HQ.out ⟨a1, c1, a2, c2, some ⟨x5, 0, none⟩, k, rfl, (J1.out.kept HGV.out hne).lower (by omega), (J2.out.kept HGV.out hne).lower (by omega), ((T3.out.own (by unfold maxLen; omega)).kept HGV.out hne).lower (by omega), AT.out, grown_new G1.out (by omega) HGV.out⟩
/-- What SessionPut answers. -/
def SesPQ (w : World) (need many : Int) (ng : Nat) (zg : Nat → Int) (nc : Nat) (zc : Nat → Int) (msg : Int) (n : Nat) (S : Nat → SV) (m z : Int) (e : Ending) (w' : World) : Prop :=
  if tsF need many ng zg nc zc msg n S = true ∧ fok z = true then SesQ w need many ng zg nc zc msg n (ptS S m n z) (hasz (mS S) m n) e w' else SesZ w e w'
theorem sesPQ_yes {w : World} {need many : Int} {ng : Nat} {zg : Nat → Int} {nc : Nat} {zc : Nat → Int} {msg : Int} {n : Nat} {S : Nat → SV} {m z : Int} {e : Ending} {w' : World} (h1 : tsF need many ng zg nc zc msg n S = true) (h2 : fok z = true) (h : SesQ w need many ng zg nc zc msg n (ptS S m n z) (hasz (mS S) m n) e w') : SesPQ w need many ng zg nc zc msg n S m z e w' := by unfold SesPQ; rw [if_pos ⟨h1, h2⟩]; exact h
theorem sesPQ_no {w : World} {need many : Int} {ng : Nat} {zg : Nat → Int} {nc : Nat} {zc : Nat → Int} {msg : Int} {n : Nat} {S : Nat → SV} {m z : Int} {e : Ending} {w' : World} (h1 : ¬ (tsF need many ng zg nc zc msg n S = true ∧ fok z = true)) (h : SesZ w e w') : SesPQ w need many ng zg nc zc msg n S m z e w' := by unfold SesPQ; rw [if_neg h1]; exact h
theorem own_ptr {w : World} {lo : Nat} {a : Option Addr} {n c : Nat} {S : Nat → SV} (h : OwnSh w lo (.slice a n c) n S) (hn : 1 ≤ n) : ∃ b, a = some ⟨b, 0, none⟩ ∧ n ≤ c := by
  rcases h.2 with ⟨_, h0⟩ | ⟨g, c', cur, hv, _, _, hnc, _⟩
  · omega
  · injection hv with e1 e2 e3; subst e3; exact ⟨g, e1, hnc⟩
end Con
end Go.Proofs.YthbigmcklacbnaaGreatDoor
