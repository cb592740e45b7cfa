/-
  The walk of the law on a place's own factor.
-/
import Derived.Test.YtchgjdbmianajaaRunPk
namespace Go.Proofs.Ytchgjdbmianajaa
namespace Run
open Go.RowKit Alg Mem Con
set_option linter.unusedVariables false

/-- A sum, number by number. -/
def psum (f : Nat → Pol.F) : Nat → Pol.F
  | 0 => 0
  | k + 1 => psum f k + f k
theorem total_snoc (l : List Pol.F) (a : Pol.F) : Pol.total (l ++ [a]) = Pol.total l + a := by
  induction l with
  | nil => simp only [List.nil_append, Pol.total]; grind
  | cons b l ih => simp only [List.cons_append, Pol.total, ih]; grind
theorem total_psum (f : Nat → Pol.F) (n : Nat) : Pol.total ((List.range n).map f) = psum f n := by
  induction n with
  | zero => rfl
  | succ n ih => rw [List.range_succ, List.map_append, List.map_singleton, total_snoc, ih]; rfl
theorem acc_snoc (g : Pol.F → Pol.F) (us bs : List Pol.F) (u b : Pol.F) (h : us.length = bs.length) : Pol.acc g (us ++ [u]) (bs ++ [b]) = Pol.acc g us bs + u * g b := by
  induction us generalizing bs with
  | nil =>
    cases bs with
    | nil => simp only [List.nil_append, Pol.acc]; grind
    | cons b' bs => simp at h
  | cons v us ih => cases bs with
    | nil => simp at h
    | cons b' bs => simp only [List.cons_append, Pol.acc, ih bs (by simpa using h)]; grind
theorem acc_psum (g : Pol.F → Pol.F) (u v : Nat → Pol.F) (n : Nat) : Pol.acc g ((List.range n).map u) ((List.range n).map v) = psum (fun j => u j * g (v j)) n := by
  induction n with
  | zero => rfl
  | succ n ih =>
    rw [List.range_succ, List.map_append, List.map_append, List.map_singleton, List.map_singleton, acc_snoc _ _ _ _ _ (by simp), ih]; rfl
theorem line_range (z : Nat → Int) (n : Nat) (x : Pol.F) : Pol.ws (fl z n) x = (List.range n).map fun i => Pol.lag (fl z n) i x := by
  rw [← Pol.line_ws]; unfold Pol.line; rw [fl_length]
theorem fl_ne {z : Nat → Int} {n : Nat} (h : 1 ≤ n) : fl z n ≠ [] := by
  intro e; have := congrArg List.length e; rw [fl_length] at this; simp at this; omega
theorem oth_mem {z : Nat → Int} {i j k : Nat} (hj : j < k) (hne : j ≠ i) : Pol.cv (z j) ∈ oth z i k := by
  induction k with
  | zero => omega
  | succ k ih =>
    by_cases e : k = i
    · subst e; rw [oth_own]; exact ih (by omega)
    · rw [oth_next z e]
      by_cases e' : j = k
      · subst e'; simp
      · exact List.mem_append.2 (.inl (ih (by omega)))
theorem own_one {n : Nat} {z : Nat → Int} {x : Int} {k : Nat} (hp : plok n z = true) (hk : k < n) (e : z k = x) : zline n z x k = 1 := by
  unfold zline Pol.lag
  rw [fl_getD z hk, e]
  have h := prd_own_ne hp hk
  rw [e] at h
  rw [Pol.mul_inv h]; rfl
theorem own_zero {n : Nat} {z : Nat → Int} {x : Int} {j k : Nat} (hj : j < n) (hk : k < n) (hne : j ≠ k) (e : z j = x) : zline n z x k = 0 := by
  unfold zline Pol.lag
  rw [← oth_erase z k n hk, ← e, Pol.prd_mem (oth_mem hj hne)]
  rw [show (0 : Pol.F) * Pol.inv (Pol.prd (oth z k n) ((fl z n).getD k 0)) = 0 from by grind]; rfl
theorem own_ne {n : Nat} {z : Nat → Int} {x : Int} {k : Nat} (hp : plok n z = true) (hx : fok x = true) (hk : k < n) (h : ∀ j, j < n → z j ≠ x) : zline n z x k ≠ 0 := by
  unfold zline
  intro e
  have e := Pol.fi_eq_zero.1 e
  unfold Pol.lag at e
  rcases Pol.noz e with e | e
  · rw [← oth_erase z k n hk] at e
    refine Pol.prd_ne (fun hm => ?_) e
    obtain ⟨j, hj, _, hxj⟩ := mem_oth hm
    exact h j hj ((Pol.cv_inj hx ((plok_iff.1 hp).2 j hj).1).1 hxj).symm
  · rw [fl_getD z hk] at e
    exact Pol.inv_ne (prd_own_ne hp hk) e
theorem own_sum {n : Nat} {z : Nat → Int} {x : Int} (hp : plok n z = true) (hn : 1 ≤ n) : psum (fun i => Pol.lag (fl z n) i (Pol.cv x)) n = 1 := by
  rw [← total_psum, ← line_range]; exact Pol.total_ws _ _ (fl_nodup hp) (fl_ne hn)

set_option maxHeartbeats 4000000 in
theorem FnLineOwn (a : Option Addr) (len cap : Nat) (w : World) (hB : Draw.Bytes w w.heap.size a len) (hc : len ≤ cap) (hm : cap ≤ maxLen) :
    Calls Try.prog 3 #[.slice a len cap] w (Yes w) := by
  by_cases hbig : 1048576 < len
  · have hbig' : (1048576 : Int) < (len : Int) := by omega
    clear hB
    go_enter Try.func3, Try.ntmps3
    go_wp2
    go_ret
    exact ⟨rfl, Below.refl _ _⟩
  have hbig' : ¬ (1048576 : Int) < (len : Int) := by omega
  go_enter Try.func3, Try.ntmps3
  go_wp2_with fail
  refine (Draw.drawLine _ a len cap hB hc hm).mono ?_
  rintro e w1 ⟨b, n, c, z, x, rfl, l5, lc, lm, hA, hg⟩
  have HA := Lib.hid hA; have G1 := Lib.hid hg; clear hA hg hB
  by_cases hyes : plok n z = true ∧ fok x = true
  case neg =>
    have HP := Lib.hid (show plok n z = false ∨ fok x = false by
      cases h1 : plok n z <;> cases h2 : fok x <;> simp_all)
    clear hyes
    go_wp2_with fail
    refine (ipline_no _ _ _ _ z x HA.out (by omega) lc lm HP.out).mono ?_
    rintro e w' ⟨rfl, rfl⟩
    go_wp2_with fail
    refine (spline_no _ _ _ _ z x HA.out (by omega) HP.out).mono ?_
    rintro e w2 ⟨⟨b2, rfl⟩, hg⟩
    have G2 := Lib.hid hg; clear hg
    go_wp2_with fail
    refine (lpints _ _ _ 0 _ _ z (.inl rfl) (.inl rfl) (by omega)).mono ?_
    rintro e w3 ⟨rfl, hg⟩
    have G3 := Lib.hid hg; clear hg
    go_wp2_with fail
    refine (spline_no _ _ _ _ z x (HA.out.kept (gtr G2.out G3.out)) (by omega) HP.out).mono ?_
    rintro e w4 ⟨⟨b4, rfl⟩, hg⟩
    have G4 := Lib.hid hg; clear hg
    go_wp2_with fail
    refine (lpints _ _ _ 0 _ _ z (.inl rfl) (.inl rfl) (by omega)).mono ?_
    rintro e w5 ⟨rfl, hg⟩
    have G5 := Lib.hid hg; clear hg
    go_wp2
    go_ret
    exact ⟨rfl, Draw.below_of (gtr G1.out (gtr (gtr (gtr G2.out G3.out) G4.out) G5.out))⟩
  have HP := Lib.hid hyes.1; have HX := Lib.hid hyes.2; clear hyes
  obtain ⟨ZL, hZL⟩ : ∃ ZL, ZL = zline n z x := ⟨_, rfl⟩
  have HZL := Lib.hid hZL; clear hZL
  go_wp2_with fail
  refine (ipline_yes _ _ _ _ z x HA.out lc lm HP.out HX.out).mono ?_
  rintro e w2 ⟨s, rfl, hr, hg⟩
  rw [← HZL.out] at hr
  have HS := Lib.hid hr; have G2 := Lib.hid hg; clear hr hg
  go_wp2_with fail
  refine (spline_yes _ _ _ _ z x (HA.out.kept G2.out) HP.out HX.out).mono ?_
  rintro e w3 ⟨t, ct, rfl, hr, hg⟩
  rw [← HZL.out] at hr
  have HT := Lib.hid hr; have G3 := Lib.hid hg; clear hr hg
  go_wp2_with fail
  refine (lpints _ _ _ n _ _ ZL (HS.out.ints.kept G3.out) HT.out.ints (by omega)).mono ?_
  rintro e w4 ⟨rfl, hg⟩
  have G4 := Lib.hid hg; clear hg
  have G14 := Lib.hid (gtr (gtr G2.out G3.out) G4.out)
  by_cases hn : n = 0
  · subst hn
    go_wp2_with fail
    refine (spline_yes _ _ _ _ z x (HA.out.kept G14.out) HP.out HX.out).mono ?_
    rintro e w5 ⟨t5, ct5, rfl, hr, hg⟩
    have G5 := Lib.hid hg; clear hr hg
    go_wp2_with fail
    refine (lpints _ _ _ 0 _ _ z (.inl rfl) (.inl rfl) (by omega)).mono ?_
    rintro e w6 ⟨rfl, hg⟩
    have G6 := Lib.hid hg; clear hg
    go_wp2
    go_ret
    exact ⟨rfl, Draw.below_of (gtr G1.out (gtr (gtr G14.out G5.out) G6.out))⟩
  have hn1 : 1 ≤ n := by omega
  have hn0 : ((n : Int) == 0) = false := by simp; omega
  clear hn
  have HA4 := Lib.hid (HA.out.kept G14.out)
  have HS4 := Lib.hid (HS.out.ints.kept (gtr G3.out G4.out))
  go_wp2
  go_loop [6, 7] (fun q i => ∃ k : Nat, k ≤ n ∧ i = .int .i64 k ∧ q = .bool (hasz z x k)) (fun _ i => n - (intOf i).toNat)
  case atStart => exact ⟨0, by omega, rfl, rfl⟩
  case round =>
    obtain ⟨k, hk, rfl, rfl⟩ := hrel
    by_cases hlt : k < n
    · obtain ⟨b0, o0, hbo, hb0, hcs⟩ := HA4.out.ptr hn1
      cases hbo
      have hcx : w4.cell? ⟨b, k, none⟩ = some (.int .i64 (z k)) := by have := hcs k hlt; rw [Nat.zero_add] at this; exact this
      clear hcs
      cases hh : hasz z x k with
      | true =>
        have HR := Lib.hid (show hasz z x (k + 1) = true by simp [hasz, hh])
        go_wp2
        go_round
        case rel => exact ⟨k + 1, by omega, by go_num, by rw [HR.out]⟩
        case measure => simp [intOf]; omega
      | false =>
        cases hz : (z k == x) with
        | true =>
          have HR := Lib.hid (show hasz z x (k + 1) = true by simp [hasz, hh, hz])
          go_wp2
          go_round
          case rel => exact ⟨k + 1, by omega, by go_num, by rw [HR.out]⟩
          case measure => simp [intOf]; omega
        | false =>
          have HR := Lib.hid (show hasz z x (k + 1) = false by simp [hasz, hh, hz])
          go_wp2
          go_round
          case rel => exact ⟨k + 1, by omega, by go_num, by rw [HR.out]⟩
          case measure => simp [intOf]; omega
    · obtain rfl : k = n := by omega
      go_wp2
      go_loopw [8, 9] (fun q i wr => ∃ m : Nat, m ≤ k ∧ i = .int .i64 m ∧ q = .int .i64 (Pol.fi (psum (fun i => Pol.lag (fl z k) i (Pol.cv x)) m)) ∧ w4.grownBy wr none) (fun _ i _ => k - (intOf i).toNat)
      case atStart => exact ⟨0, by omega, rfl, rfl, Draw.grown_refl _ _⟩
      case round =>
        obtain ⟨m, hm, rfl, rfl, hg⟩ := hrel
        have HG := Lib.hid hg; clear hg
        by_cases hlm : m < k
        · obtain ⟨b0, o0, hbo, hb0, hcs⟩ := HA4.out.ptr hn1
          cases hbo
          obtain ⟨b1, o1, hbo, hb1, hcl⟩ := HS4.out.ptr hn1
          cases hbo
          have hcx : wr.cell? ⟨b, m, none⟩ = some (.int .i64 (z m)) := by
            have := hcs m hlm; rw [Nat.zero_add] at this
            rw [World.cell?_of_block (w := w4) (HG.out.block b hb0 (by simp))]; exact this
          have hcy : wr.cell? ⟨s, m, none⟩ = some (.int .i64 (ZL m)) := by
            have := hcl m hlm; rw [Nat.zero_add] at this
            rw [World.cell?_of_block (w := w4) (HG.out.block s hb1 (by simp))]; exact this
          clear hcs hcl
          have HE := Lib.hid (show sumF (Pol.fi (psum (fun i => Pol.lag (fl z k) i (Pol.cv x)) m)) (ZL m) = Pol.fi (psum (fun i => Pol.lag (fl z k) i (Pol.cv x)) (m + 1)) by
            rw [HZL.out]; exact Pol.fi_sum _ _)
          generalize hS : Pol.fi (psum (fun i => Pol.lag (fl z k) i (Pol.cv x)) m) = SM at *
          clear hS
          cases hin : hasz z x k with
          | true =>
            by_cases he : z m = x
            · have h1 := beq_t (show ZL m = 1 by rw [HZL.out]; exact own_one HP.out hlm he)
              have h2 := beq_t he
              have h3 := bne_f he
              clear he
              go_wp2_with (go_at_call 14; refine (isum _ _ _).mono ?_; rintro e w' ⟨rfl, rfl⟩)
              go_quiet (fail)
              go_wp2
              go_roundw
              case rel => exact ⟨m + 1, by omega, by go_num, by rw [HE.out], grown_drew HG.out _⟩
              case measure => simp [intOf]; omega
            · have hz0 : ZL m = 0 := by
                obtain ⟨j, hj, hjx⟩ := hasz_iff.1 hin
                rw [HZL.out]
                exact own_zero hj hlm (fun e => he (e ▸ hjx)) hjx
              have h1 := beq_f (show ¬ ZL m = 1 by rw [hz0]; decide)
              have h2 := beq_f he
              have h3 := bne_t he
              have h4 := bne_f hz0
              clear he hz0
              go_wp2_with (go_at_call 14; refine (isum _ _ _).mono ?_; rintro e w' ⟨rfl, rfl⟩)
              go_quiet (fail)
              go_wp2
              go_roundw
              case rel => exact ⟨m + 1, by omega, by go_num, by rw [HE.out], grown_drew HG.out _⟩
              case measure => simp [intOf]; omega
          | false =>
            have h1 := beq_f (show ¬ ZL m = 0 by rw [HZL.out]; exact own_ne HP.out HX.out hlm (hasz_no.1 hin))
            go_wp2_with (go_at_call 14; refine (isum _ _ _).mono ?_; rintro e w' ⟨rfl, rfl⟩)
            go_quiet (fail)
            go_wp2
            go_roundw
            case rel => exact ⟨m + 1, by omega, by go_num, by rw [HE.out], grown_drew HG.out _⟩
            case measure => simp [intOf]; omega
        · obtain rfl : m = k := by omega
          have hs := beq_t (show Pol.fi (psum (fun i => Pol.lag (fl z m) i (Pol.cv x)) m) = 1 by rw [own_sum HP.out hn1]; rfl)
          go_wp2
          go_ret
          exact ⟨rfl, Draw.below_of (gtr G1.out (gtr G14.out HG.out))⟩
end Run
end Go.Proofs.Ytchgjdbmianajaa
