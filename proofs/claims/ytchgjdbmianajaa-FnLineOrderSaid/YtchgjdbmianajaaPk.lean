/-
  The model's sum of two polynomials, and its factors of places.
-/
import Derived.Test.YtchgjdbmianajaaPe
import Derived.Test.YtchgjdbmianajaaPg
import Derived.Test.YtchgjdbmianajaaPh
import Derived.Test.YtchgjdbmianajaaMem
import Derived.Deep.QuietTactic
import Derived.BigQuiet
namespace Go.Proofs.Ytchgjdbmianajaa
namespace Con
open Go.RowKit Alg Mem Pol
set_option linter.unusedVariables false

theorem zsum_right {la lb : Nat} {za zb : Nat → Int} {j : Nat} (ha : la ≤ j) (hb : j < lb) (hf : fok (zb j) = true) : zsum la za lb zb j = zb j := by
  rw [zsum_comm]; exact zsum_left hb ha hf
theorem sum_zero_left {b : Int} (hb : fok b = true) : sumF 0 b = b := by
  rw [sumF_in rfl hb]; have := fok_iff.1 hb; omega

/-- The model's factor, of the first k places. -/
def sp (z : Nat → Int) (x : F) (i : Nat) : Nat → F
  | 0 => 1
  | k + 1 => if k = i then sp z x i k else sp z x i k * ((x - cv (z k)) * inv (cv (z i) - cv (z k)))
theorem sp_own (z : Nat → Int) (x : F) (i : Nat) : sp z x i (i + 1) = sp z x i i := if_pos rfl
theorem sp_next (z : Nat → Int) (x : F) {i k : Nat} (h : ¬ k = i) : sp z x i (k + 1) = sp z x i k * ((x - cv (z k)) * inv (cv (z i) - cv (z k))) := if_neg h
theorem sp_oth (z : Nat → Int) (x : F) (i k : Nat) : sp z x i k = prd (oth z i k) x * inv (prd (oth z i k) (cv (z i))) := by
  induction k with
  | zero => simp only [sp, oth, prd]; rw [show inv (1 : F) = 1 from by decide +kernel]; grind
  | succ k ih =>
    by_cases e : k = i
    · subst e; rw [sp_own, oth_own, ih]
    · rw [sp_next z x e, oth_next z e, ih, prd_append, prd_append, Pol.inv_mul]
      simp only [prd]
      rw [show (cv (z i) - cv (z k)) * 1 = cv (z i) - cv (z k) from by grind]
      grind
theorem sp_lag (z : Nat → Int) (x : F) {i len : Nat} (h : i < len) : sp z x i len = lag (fl z len) i x := by
  rw [sp_oth, oth_erase z i len h]; unfold lag; rw [fl_getD z h]
/-- The factors' numbers. -/
def zline (len : Nat) (z : Nat → Int) (x : Int) (i : Nat) : Int := fi (lag (fl z len) i (cv x))
theorem q_sdif {a b : Int} {w : World} {n : Nat} : Calls Try.prog 55 #[.int .i64 a, .int .i64 b] (w.drewN n) fun e w'' => e = .returned (.int .i64 (difF a b)) ∧ ∃ m, w'' = w.drewN m :=
  Calls.quiet_of_same ((sdif a b _).mono fun _ _ h => ⟨h.1, h.2.symm⟩)
theorem q_smul {a b : Int} {w : World} {n : Nat} : Calls Try.prog 54 #[.int .i64 a, .int .i64 b] (w.drewN n) fun e w'' => e = .returned (.int .i64 (mulF a b)) ∧ ∃ m, w'' = w.drewN m :=
  Calls.quiet_of_same ((smul a b _).mono fun _ _ h => ⟨h.1, h.2.symm⟩)
theorem q_search {a : Int} {w : World} {n : Nat} (ha : fok a = true) (h : a ≠ 0) : Calls Try.prog 56 #[.int .i64 a] (w.drewN n) fun e w'' => e = .returned (.int .i64 (invF a)) ∧ ∃ m, w'' = w.drewN m :=
  Calls.quiet_of_same ((search a _ ha h).mono fun _ _ h => ⟨h.1, h.2.symm⟩)

set_option maxHeartbeats 2000000 in
theorem s3line (w : World) (a : Option Addr) (len cap : Nat) (z : Nat → Int) (x : Int) (hI : Ints w a len z) (hl : len ≤ 5) (hz : ∀ j, j < len → fok (z j) = true) (hd : ∀ i j, i < len → j < len → i ≠ j → z i ≠ z j) (hx : fok x = true) :
    Calls Try.prog 37 #[.slice a len cap, .int .i64 x] w (Own1 3 w len (zline len z x)) := by
  have HI := Lib.hid hI; have HZ := Lib.hid hz; have HD := Lib.hid hd; have HX := Lib.hid hx; clear hI hz hd hx
  obtain ⟨i0, hi, hz0, hz1, hz2⟩ := info_parts info_int
  go_enter Try.func37, Try.ntmps37
  go_wp2
  go_loopw [5, 6] (fun v i wr => ∃ k b cap : Nat, k ≤ len ∧ v = .slice (some ⟨b, 0, none⟩) k cap ∧ i = .int .i64 k ∧ Row wr w.heap.size 3 b k cap (zline len z x) ∧ w.grownBy wr none) (fun _ i _ => len - (intOf i).toNat)
  case atStart => exact ⟨0, w.heap.size, 0, by omega, rfl, rfl, row_empty w _ _, Draw.grown_alloc _ _ _⟩
  case round =>
    obtain ⟨k, bo, co, hk, rfl, rfl, hr, hg⟩ := hrel
    have HG := Lib.hid hg; have hge := hr.from_; have HW := Lib.hid hr; clear hg hr
    have hsz := HG.out.size
    by_cases hlt : k < len
    · go_wp2
      go_loopw [7, 8] (fun n j ws => ∃ m : Nat, m ≤ len ∧ j = .int .i64 m ∧ n = .int .i64 (fi (sp z (cv x) k m)) ∧ wr.grownBy ws none) (fun _ j _ => len - (intOf j).toNat)
      case atStart => exact ⟨0, by omega, rfl, rfl, Draw.grown_refl _ _⟩
      case round =>
        obtain ⟨m, hm, rfl, rfl, hgi⟩ := hrel
        have HGi := Lib.hid hgi; clear hgi
        by_cases hlm : m < len
        · by_cases he : m = k
          · have hne : ((m : Int) != (k : Int)) = false := by simp [he]
            have HE := Lib.hid (show sp z (cv x) k (m + 1) = sp z (cv x) k m by subst he; exact sp_own z _ m)
            clear he
            go_wp2
            go_roundw
            case rel => exact ⟨m + 1, by omega, by go_num, by rw [HE.out], HGi.out⟩
            case measure => simp [intOf]; omega
          · have hne : ((m : Int) != (k : Int)) = true := by simp; omega
            obtain ⟨b1, o1, rfl, hb1, hc1⟩ := (HI.out.kept (gtr HG.out HGi.out)).ptr (by omega)
            have hcm := hc1 m hlm
            have hck := hc1 k hlt
            have hdn : difF (z k) (z m) ≠ 0 := fun e => HD.out k m hlt hlm (by omega) ((dif_zero (HZ.out k hlt) (HZ.out m hlm)).1 e)
            have HN := Lib.hid hdn
            have HE := Lib.hid (show mulF (fi (sp z (cv x) k m)) (mulF (difF x (z m)) (invF (difF (z k) (z m)))) = fi (sp z (cv x) k (m + 1)) by
              rw [sp_next z (cv x) he, ← fi_mul, ← fi_mul, ← fi_inv, ← fi_dif, ← fi_dif, fi_cv HX.out, fi_cv (HZ.out m hlm), fi_cv (HZ.out k hlt)])
            clear he hc1 hdn
            go_wp2
            go_quiet ((first
              | (go_at_call 55; exact q_sdif)
              | (go_at_call 56; exact q_search (difF_ok _ _) HN.out)
              | (go_at_call 54; exact q_smul)))
            go_wp2
            go_roundw
            case rel => exact ⟨m + 1, by omega, by go_num, by rw [← HE.out], grown_drew HGi.out _⟩
            case measure => simp [intOf]; omega
        · obtain rfl : m = len := by omega
          have HS := Lib.hid (show fi (sp z (cv x) k m) = zline m z x k by rw [sp_lag z (cv x) hlt]; rfl)
          have HG2 := Lib.hid (gtr HG.out HGi.out)
          have HW2 := Lib.hid (HW.out.keptN HGi.out)
          have hsz2 := HGi.out.size
          go_wp2_with (at_builtin; refine wpList_append_own _ rfl _ _ 23 rfl w.heap.size 3 i0 (.int .i64 0) 1 8 und_ints hi hz0 hz1 hz2 rfl (by decide) _ k (vals (zline m z x) k) rfl (HW2.out.alloc _).owns ⟨wr.heap.size, 0, none⟩ 1 1 [.int .i64 (fi (sp z (cv x) k m))] rfl rfl (cell_one_new _ _ _) (by simp [Value.oneCell']) (by unfold maxLen; omega) (by omega) (by simp; omega) ?_; intro v' w1 hown' hgrow _)
          obtain ⟨b', cap', rfl, hrow⟩ := app_row hown' HS.out
          have HR := Lib.hid hrow; have HGr := Lib.hid (app_grown HG2.out hge hgrow)
          clear hown' hgrow hrow
          go_wp2
          go_roundw
          case rel => exact ⟨k + 1, b', cap', by omega, rfl, by go_num, HR.out, HGr.out⟩
          case measure => simp [intOf]; omega
    · obtain rfl : k = len := by omega
      go_wp2
      go_ret
      exact ⟨_, _, rfl, HW.out, HG.out⟩
end Con
end Go.Proofs.Ytchgjdbmianajaa
/-
  The factors of places, the program's and the model's, at every argument.
-/

namespace Go.Proofs.Ytchgjdbmianajaa
namespace Con
open Go.RowKit Alg Mem Pol
set_option linter.unusedVariables false

theorem plok_apart {len : Nat} {z : Nat → Int} (h : plok len z = true) : ∀ i j, i < len → j < len → i ≠ j → z i ≠ z j := by
  have h2 := (plok_iff.1 h).2
  intro i j hi hj hij e
  rcases Nat.lt_or_gt_of_ne hij with h | h
  · exact hasz_no.1 (h2 j hj).2 i h e
  · exact hasz_no.1 (h2 i hi).2 j h e.symm
theorem mem_oth {z : Nat → Int} {i k : Nat} {x : F} (h : x ∈ oth z i k) : ∃ j, j < k ∧ j ≠ i ∧ x = cv (z j) := by
  induction k with
  | zero => cases h
  | succ k ih =>
    by_cases e : k = i
    · subst e; rw [oth_own] at h
      obtain ⟨j, hj, hne, hx⟩ := ih h
      exact ⟨j, by omega, hne, hx⟩
    · rw [oth_next z e] at h
      rcases List.mem_append.1 h with h | h
      · obtain ⟨j, hj, hne, hx⟩ := ih h
        exact ⟨j, by omega, hne, hx⟩
      · exact ⟨k, by omega, e, by simpa using h⟩
theorem prd_own_ne {len : Nat} {z : Nat → Int} (h : plok len z = true) {i : Nat} (hi : i < len) : prd ((fl z len).eraseIdx i) (cv (z i)) ≠ 0 := by
  rw [← oth_erase z i len hi]
  apply prd_ne
  intro hm
  obtain ⟨j, hj, hne, hx⟩ := mem_oth hm
  have h2 := (plok_iff.1 h).2
  exact plok_apart h i j hi hj (fun e => hne e.symm) ((cv_inj (h2 i hi).1 (h2 j hj).1).1 hx)
theorem fl_nodup {len : Nat} {z : Nat → Int} (h : plok len z = true) : (fl z len).Nodup := by
  have h2 := (plok_iff.1 h).2
  rw [List.nodup_iff_pairwise_ne, List.pairwise_iff_getElem]
  intro i j hi hj hij
  rw [fl_length] at hi hj
  rw [fl_get z hi, fl_get z hj]
  intro e
  exact plok_apart h i j hi hj (by omega) ((cv_inj (h2 i hi).1 (h2 j hj).1).1 e)

theorem spline_no (w : World) (a : Option Addr) (len cap : Nat) (z : Nat → Int) (x : Int) (hI : Ints w a len z) (hl : len ≤ 2000000) (h : plok len z = false ∨ fok x = false) :
    Calls Try.prog 13 #[.slice a len cap, .int .i64 x] w fun e w' => (∃ b, e = .returned (.slice (some ⟨b, 0, none⟩) 0 0)) ∧ w.grownBy w' none := by
  have HI := Lib.hid hI; clear hI
  cases hp : plok len z with
  | false =>
    clear h
    go_enter Try.func13, Try.ntmps13
    go_wp2_with fail
    refine (splok _ _ _ _ z HI.out (by omega)).mono ?_
    rintro e w1 ⟨rfl, hg⟩
    have HG := Lib.hid hg; clear hg
    go_wp2
    go_ret
    exact ⟨⟨_, rfl⟩, gtr HG.out (Draw.grown_alloc _ _ _)⟩
  | true =>
    have hx : fok x = false := by rcases h with h | h; rw [hp] at h; cases h; exact h
    clear h
    go_enter Try.func13, Try.ntmps13
    go_wp2_with fail
    refine (splok _ _ _ _ z HI.out (by omega)).mono ?_
    rintro e w1 ⟨rfl, hg⟩
    have HG := Lib.hid hg; clear hg
    go_wp2_with fail
    refine (sok_no _ _ hx).mono ?_
    rintro e w' ⟨rfl, rfl⟩
    go_wp2
    go_ret
    exact ⟨⟨_, rfl⟩, gtr HG.out (Draw.grown_alloc _ _ _)⟩
theorem spline_yes (w : World) (a : Option Addr) (len cap : Nat) (z : Nat → Int) (x : Int) (hI : Ints w a len z) (hp : plok len z = true) (hx : fok x = true) :
    Calls Try.prog 13 #[.slice a len cap, .int .i64 x] w (Own1 3 w len (zline len z x)) := by
  have HI := Lib.hid hI; clear hI
  have HP := Lib.hid hp; have HX := Lib.hid hx
  have hl := (plok_iff.1 hp).1
  go_enter Try.func13, Try.ntmps13
  go_wp2_with fail
  refine (splok _ _ _ _ z HI.out (by omega)).mono ?_
  rintro e w1 ⟨rfl, hg⟩
  have HG := Lib.hid hg; clear hg
  go_wp2_with fail
  refine (sok_yes _ _ hx).mono ?_
  rintro e w' ⟨rfl, rfl⟩
  go_wp2_with fail
  refine (s3line _ _ _ _ z x (HI.out.kept HG.out) hl (fun j hj => ((plok_iff.1 HP.out).2 j hj).1) (plok_apart HP.out) HX.out).mono ?_
  rintro e w2 ⟨b, c, rfl, hr, hg⟩
  have HR := Lib.hid hr; have HG2 := Lib.hid hg; clear hr hg
  go_wp2
  go_ret
  exact ⟨_, _, rfl, HR.out.lower HG.out.size, gtr HG.out HG2.out⟩

theorem ipline_no (w : World) (a : Option Addr) (len cap : Nat) (z : Nat → Int) (x : Int) (hI : Ints w a len z) (hl : len ≤ 2000000) (hc : len ≤ cap) (hm : cap ≤ maxLen) (h : plok len z = false ∨ fok x = false) :
    Calls Try.prog 11 #[.slice a len cap, .int .i64 x] w fun e w' => e = .returned (.slice none 0 0) ∧ w = w' := by
  have HI := Lib.hid hI; clear hI
  cases hp : plok len z with
  | false =>
    clear h
    go_enter Try.func11, Try.ntmps11
    go_wp2_with fail
    refine (iplok _ _ _ _ z HI.out (by omega) hc hm).mono ?_
    rintro e w1 ⟨rfl, rfl⟩
    go_wp2
    go_ret
    exact ⟨rfl, rfl⟩
  | true =>
    have hx : fok x = false := by rcases h with h | h; rw [hp] at h; cases h; exact h
    clear h
    go_enter Try.func11, Try.ntmps11
    go_wp2_with fail
    refine (iplok _ _ _ _ z HI.out (by omega) hc hm).mono ?_
    rintro e w1 ⟨rfl, rfl⟩
    go_wp2_with fail
    refine (iok_no _ _ hx).mono ?_
    rintro e w' ⟨rfl, rfl⟩
    go_wp2
    go_ret
    exact ⟨rfl, rfl⟩
theorem ipline_yes (w : World) (a : Option Addr) (len cap : Nat) (z : Nat → Int) (x : Int) (hI : Ints w a len z) (hc : len ≤ cap) (hm : cap ≤ maxLen) (hp : plok len z = true) (hx : fok x = true) :
    Calls Try.prog 11 #[.slice a len cap, .int .i64 x] w (NewRow 3 w len (zline len z x)) := by
  have HI := Lib.hid hI; clear hI
  have HP := Lib.hid hp; have HX := Lib.hid hx
  have hl := (plok_iff.1 hp).1
  have hmk := run_make_row' (P := Try.prog) 23 3 (.int .i64 0) 8 und_ints info_int rfl .i64 .i64 len (by omega) (by omega)
  go_enter Try.func11, Try.ntmps11
  go_wp2_with fail
  refine (iplok _ _ _ _ z HI.out (by omega) hc hm).mono ?_
  rintro e w1 ⟨rfl, rfl⟩
  go_wp2_with fail
  refine (iok_yes _ _ hx).mono ?_
  rintro e w' ⟨rfl, rfl⟩
  go_wp2_with fail
  refine (conv_ie _ _ _ _ z HI.out (by omega)).mono ?_
  rintro e w1 ⟨b1, rfl, hr, hg⟩
  have HR := Lib.hid hr; have HG1 := Lib.hid hg; clear hr hg
  clear hp hx
  go_wp2
  go_loopw [23] (fun i wr => ∃ k : Nat, k ≤ len ∧ i = .int .i64 k ∧ Row wr w1.heap.size 3 w1.heap.size len len (fun j => if j < k then zline len z x j else 0) ∧ w1.grownBy wr none) (fun i _ => len - (intOf i).toNat)
  case atStart => exact ⟨0, by omega, rfl, first_row w1 _ _ (by unfold maxLen; omega) _, Draw.grown_alloc _ _ _⟩
  case round =>
    clear hmk
    obtain ⟨k, hk, rfl, hr, hg⟩ := hrel
    have HG := Lib.hid hg; have HW := Lib.hid hr; clear hg hr
    by_cases hlt : k < len
    · go_wp2_with fail
      refine (lagr _ _ _ _ k z x (HR.out.ints.kept HG.out) (by omega) hlt (fun j hj => ((plok_iff.1 HP.out).2 j hj).1) HX.out (prd_own_ne HP.out hlt)).mono ?_
      rintro e w2 ⟨rfl, hg2⟩
      have HG2 := Lib.hid hg2; clear hg2
      have hr2 := HW.out.keptN HG2.out
      have c0 := zero_row hr2 hlt
      have f0 := hr2.frozen k
      have HS := Lib.hid (step_row hr2)
      clear hr2
      go_wp2
      go_roundw
      case rel => exact ⟨k + 1, by omega, by go_num, HS.out, grown_new (gtr HG.out HG2.out) (Nat.le_refl _) (grown_set _ _ _ _)⟩
      case measure => simp [intOf]; omega
    · obtain rfl : k = len := by omega
      have HF := Lib.hid (full_row HW.out)
      go_wp2
      go_ret
      exact ⟨_, rfl, HF.out.lower HG1.out.size, gtr HG1.out HG.out⟩
end Con
end Go.Proofs.Ytchgjdbmianajaa
/-
  Sums number by number, and the value of a polynomial by as many values as it has numbers.
-/

namespace Go.Proofs.Ytchgjdbmianajaa
namespace Ln
open Go.RowKit Alg Mem Con
set_option linter.unusedVariables false

/-- A sum, number by number. -/
def psum (f : Nat → Pol.F) : Nat → Pol.F
  | 0 => 0
  | k + 1 => psum f k + f k
theorem acc_snoc (g : Pol.F → Pol.F) (us bs : List Pol.F) (u b : Pol.F) (h : us.length = bs.length) : Pol.acc g (us ++ [u]) (bs ++ [b]) = Pol.acc g us bs + u * g b := by
  induction us generalizing bs with
  | nil =>
    cases bs with
    | nil => simp only [List.nil_append, Pol.acc]; grind
    | cons b' bs => simp at h
  | cons v us ih => cases bs with
    | nil => simp at h
    | cons b' bs => simp only [List.cons_append, Pol.acc, ih bs (by simpa using h)]; grind
theorem acc_psum (g : Pol.F → Pol.F) (u v : Nat → Pol.F) (n : Nat) : Pol.acc g ((List.range n).map u) ((List.range n).map v) = psum (fun j => u j * g (v j)) n := by
  induction n with
  | zero => rfl
  | succ n ih =>
    rw [List.range_succ, List.map_append, List.map_append, List.map_singleton, List.map_singleton, acc_snoc _ _ _ _ _ (by simp), ih]; rfl
theorem line_range (z : Nat → Int) (n : Nat) (x : Pol.F) : Pol.ws (fl z n) x = (List.range n).map fun i => Pol.lag (fl z n) i x := by
  rw [← Pol.line_ws]; unfold Pol.line; rw [fl_length]
theorem fl_ne {z : Nat → Int} {n : Nat} (h : 1 ≤ n) : fl z n ≠ [] := by
  intro e; have := congrArg List.length e; rw [fl_length] at this; simp at this; omega
theorem line_value {n : Nat} {z : Nat → Int} {p : List Pol.F} {x : Int} (hp : plok n z = true) (hn : 1 ≤ n) (hl : p.length ≤ n) : psum (fun j => Pol.lag (fl z n) j (Pol.cv x) * Pol.ev p (Pol.cv (z j))) n = Pol.ev p (Pol.cv x) := by
  have h := Pol.interp (fl z n) p (Pol.cv x) (fl_nodup hp) (fl_ne hn) (by rw [fl_length]; exact hl)
  rw [line_range] at h
  rw [← h]
  exact (acc_psum (Pol.ev p) (fun i => Pol.lag (fl z n) i (Pol.cv x)) (fun j => Pol.cv (z j)) n).symm
theorem q_isum {a b : Int} {w : World} {n : Nat} : Calls Try.prog 14 #[.int .i64 a, .int .i64 b] (w.drewN n) fun e w'' => e = .returned (.int .i64 (sumF a b)) ∧ ∃ m, w'' = w.drewN m :=
  Calls.quiet_of_same ((isum a b _).mono fun _ _ h => ⟨h.1, h.2.symm⟩)
theorem q_imul {a b : Int} {w : World} {n : Nat} : Calls Try.prog 22 #[.int .i64 a, .int .i64 b] (w.drewN n) fun e w'' => e = .returned (.int .i64 (mulF a b)) ∧ ∃ m, w'' = w.drewN m :=
  Calls.quiet_of_same ((imul a b _).mono fun _ _ h => ⟨h.1, h.2.symm⟩)
/-- Places one behind the other, turned. -/
def turn (k m : Nat) (j : Nat) : Int := (((k + j) % m : Nat) : Int) + 1
theorem turn_ok {k m n : Nat} (hm1 : 1 ≤ m) (hm5 : m ≤ 5) (hn : n ≤ m) : plok n (turn k m) = true := by
  refine plok_iff.2 ⟨by omega, fun j hj => ⟨?_, hasz_no.2 fun i hi => ?_⟩⟩
  · unfold turn
    have := Nat.mod_lt (k + j) (show 0 < m by omega)
    exact fok_mk (by omega) (by omega)
  · unfold turn
    rcases (by omega : m = 1 ∨ m = 2 ∨ m = 3 ∨ m = 4 ∨ m = 5) with rfl | rfl | rfl | rfl | rfl <;> omega
end Ln
end Go.Proofs.Ytchgjdbmianajaa
