/-
  The walk of the law on what shares tell.
-/
import Derived.Test.YtchgjdbmianajaaSi
import Derived.Test.YtchgjdbmianajaaSb
import Derived.Test.YtchgjdbmianajaaMem
import Derived.Test.YtchgjdbmianajaaPk
namespace Go.Proofs.Ytchgjdbmianajaa
namespace Run
open Go.RowKit Alg Mem Con Hd
set_option linter.unusedVariables false

theorem so_cases (need : Int) (H : Nat → HV) (n : Nat) : (soF need H n = none ∧ (hkF H n = false ∨ ¬ (1 ≤ need ∧ need ≤ n))) ∨ ∃ q : Nat, need = q ∧ 1 ≤ q ∧ q ≤ n ∧ hkF H n = true ∧ soF need H n = some (jnF H q) := by
  cases hk : hkF H n with
  | false => exact .inl ⟨so_none (.inl hk), .inl rfl⟩
  | true =>
    by_cases h : 1 ≤ need ∧ need ≤ (n : Int)
    · obtain ⟨q, rfl⟩ : ∃ q : Nat, need = q := ⟨need.toNat, by omega⟩
      exact .inr ⟨q, rfl, by omega, by omega, rfl, so_some hk (by omega) (by omega)⟩
    · exact .inl ⟨so_none (.inr h), .inr h⟩
theorem jn_next {H : Nat → HV} {n k : Nat} (hs : fok (H k).s = true) : sumF (Pol.fi (jn H n k)) (mulF (zline n (ms H) 0 k) (H k).s) = Pol.fi (jn H n (k + 1)) := by
  have e : jn H n (k + 1) = jn H n k + Pol.lag (fl (ms H) n) k 0 * Pol.cv (H k).s := rfl
  rw [e, ← Pol.fi_sum, ← Pol.fi_mul, Pol.fi_cv hs]; rfl
theorem ms_plok {H : Nat → HV} {q : Nat} (hk : hkF H q = true) : plok q (ms H) = true :=
  plok_iff.2 ⟨hk_five hk, fun j hj => ⟨ms_fok hk j hj, hasz_no.2 fun i hi => ms_ne hk i j (by omega) hj (by omega)⟩⟩
set_option maxRecDepth 100000 in
set_option maxHeartbeats 4000000 in
theorem FnSecretOf (a : Option Addr) (len cap : Nat) (w : World) (hB : Draw.Bytes w w.heap.size a len) (hc : len ≤ cap) (hm : cap ≤ maxLen) :
    Calls Try.prog 6 #[.slice a len cap] w (Yes w) := by
  by_cases hbig : 1048576 < len
  · have hbig' : (1048576 : Int) < (len : Int) := by omega
    clear hB
    go_enter Try.func6, Try.ntmps6
    go_wp2
    go_ret
    exact ⟨rfl, Below.refl _ _⟩
  have hbig' : ¬ (1048576 : Int) < (len : Int) := by omega
  obtain ⟨i0, hi, hz0, hz1, hz2⟩ := info_parts info_int
  go_enter Try.func6, Try.ntmps6
  go_wp2_with fail
  refine (Draw.drawSO _ a len cap hB hc hm).mono ?_
  rintro e w1 ⟨need, al, n, cl, H, rfl, hI, hn10, hnc, hncm, hg⟩
  have HI := Lib.hid hI; have G1 := Lib.hid hg; have hl : n ≤ 2000000 := by omega
  clear hI hg hB
  go_wp2_with fail
  refine (s13of _ need _ n _ H HI.out hl hnc).mono ?_
  rintro e w2 ⟨rfl, hg⟩
  have HI2 := Lib.hid (HI.out.kept hg); have G2 := Lib.hid (gtr G1.out hg); clear hg
  rcases so_cases need H n with ⟨ho, hwhy⟩ | ⟨q, rfl, q1, q2, hk, ho⟩
  · have HO := Lib.hid ho; clear ho
    rw [HO.out]
    simp only [soV]
    go_wp2_with fail
    refine (iso _ need _ n _ H HI2.out hl hnc hncm).mono ?_
    rintro e w3 ⟨rfl, hg⟩
    have HI3 := Lib.hid (HI2.out.kept hg); have G3 := Lib.hid (gtr G2.out hg); clear hg
    rw [HO.out]
    simp only [soV]
    by_cases h1 : need < 1
    · have hd1 : decide (need < 1) = true := decide_eq_true h1
      clear hwhy
      go_wp2
      go_ret
      exact ⟨rfl, Draw.below_of G3.out⟩
    · have hd1 : decide (need < 1) = false := decide_eq_false h1
      by_cases h2 : (n : Int) < need
      · have hd2 : decide ((n : Int) < need) = true := decide_eq_true h2
        clear hwhy
        go_wp2
        go_ret
        exact ⟨rfl, Draw.below_of G3.out⟩
      · have hd2 : decide ((n : Int) < need) = false := decide_eq_false h2
        have HK := Lib.hid (show hkF H n = false from hwhy.resolve_right fun h => h ⟨by omega, by omega⟩)
        clear hwhy
        go_wp2_with fail
        refine (ihok _ _ n _ H HI3.out hl).mono ?_
        rintro e w4 ⟨rfl, hg⟩
        rw [HK.out]
        have G4 := Lib.hid (gtr G3.out hg); clear hg
        go_wp2
        go_ret
        exact ⟨rfl, Draw.below_of G4.out⟩
  · have HO := Lib.hid ho; have HK := Lib.hid (hk_less hk q2); clear ho hk
    obtain ⟨x, hx⟩ : ∃ x, jnF H q = x := ⟨_, rfl⟩
    have HX := Lib.hid hx
    rw [HO.out, hx]
    simp only [soV]
    go_wp2_with fail
    refine (iso _ q _ n _ H HI2.out hl hnc hncm).mono ?_
    rintro e w3 ⟨rfl, hg⟩
    have HI3 := Lib.hid ((HI2.out.kept hg).less q2); have G3 := Lib.hid (gtr G2.out hg); clear hg
    rw [HO.out, hx]
    simp only [soV]
    clear hx
    have hself : (x != x) = false := by simp
    have h5 := hk_five HK.out
    go_wp2
    go_loopw [9, 10] (fun v i wr => ∃ k b cap : Nat, k ≤ q ∧ v = .slice (some ⟨b, 0, none⟩) k cap ∧ i = .int .i64 k ∧ Row wr w3.heap.size 3 b k cap (ms H) ∧ w3.grownBy wr none) (fun _ i _ => q - (intOf i).toNat)
    case atStart => exact ⟨0, w3.heap.size, 0, by omega, rfl, rfl, row_empty w3 _ _, Draw.grown_alloc _ _ _⟩
    case round =>
      obtain ⟨k, bo, co, hk, rfl, rfl, hr, hg⟩ := hrel
      have HG := Lib.hid hg; have hge := hr.from_; have HW := Lib.hid hr; clear hg hr
      have hsz := HG.out.size
      by_cases hlt : k < q
      · have hlt' : (k : Int) < (q : Int) := by omega
        have hltn : (k : Int) < (n : Int) := by omega
        rcases HI3.out.kept HG.out with h | ⟨b, off, rfl, hb, hcc⟩
        · omega
        obtain ⟨hc0, _⟩ := hcc k hlt
        clear hcc
        go_wp2_with (at_builtin; refine wpList_append_own _ rfl _ _ 23 rfl w3.heap.size 3 i0 (.int .i64 0) 1 8 und_ints hi hz0 hz1 hz2 rfl (by decide) _ k (vals (ms H) k) rfl (HW.out.alloc _).owns ⟨wr.heap.size, 0, none⟩ 1 1 [.int .i64 (H k).m] rfl rfl (cell_one_new _ _ _) (by simp [Value.oneCell']) (by unfold maxLen; omega) (by omega) (by simp; omega) ?_; intro v' w4 hown' hgrow _)
        obtain ⟨b', cap', rfl, hrow⟩ := app_row hown' (show (H k).m = ms H k from rfl)
        have HR := Lib.hid hrow; have HGr := Lib.hid (app_grown HG.out hge hgrow)
        clear hown' hgrow hrow
        go_wp2
        go_roundw
        case rel => exact ⟨k + 1, b', cap', by omega, rfl, by go_num, HR.out, HGr.out⟩
        case measure => simp [intOf]; omega
      · obtain rfl : k = q := by omega
        have hlt' : ¬ (k : Int) < (k : Int) := by omega
        obtain ⟨w4, hW⟩ : ∃ W, W = wr := ⟨_, rfl⟩; subst hW
        go_wp2_with fail
        refine (ipline_yes _ _ k _ (ms H) 0 HW.out.ints HW.out.le HW.out.most (ms_plok HK.out) rfl).mono ?_
        rintro e w5 ⟨b5, rfl, hr5, hg5⟩
        have HR5 := Lib.hid hr5; have HG5 := Lib.hid (gtr HG.out hg5)
        clear hr5 hg5
        go_wp2
        go_loopw [12, 13] (fun n i W => ∃ j : Nat, j ≤ k ∧ i = .int .i64 j ∧ n = .int .i64 (Pol.fi (jn H k j)) ∧ w5.grownBy W none) (fun _ i _ => k - (intOf i).toNat)
        case atStart => exact ⟨0, by omega, rfl, rfl, Draw.grown_refl _ _⟩
        case round =>
          obtain ⟨j, hj, rfl, rfl, hg⟩ := hrel
          have HGq := Lib.hid hg; clear hg
          by_cases hlt : j < k
          · have hlt' : (j : Int) < (k : Int) := by omega
            have hltn : (j : Int) < (n : Int) := by omega
            rcases HI3.out.kept (gtr HG5.out HGq.out) with h | ⟨b, off, rfl, hb, hcc⟩
            · omega
            obtain ⟨_, hc1⟩ := hcc j hlt
            clear hcc
            have hl5 := (HR5.out.keptN HGq.out).cell hlt
            have HE := Lib.hid (jn_next (H := H) (n := k) (k := j) (hk_at HK.out hlt).2)
            go_wp2_with fail
            go_quiet (first
              | (go_at_call 22; exact Ln.q_imul)
              | (go_at_call 14; exact Ln.q_isum))
            go_wp2
            go_roundw
            case rel => exact ⟨j + 1, by omega, by go_num, by rw [← HE.out], ⟨HGq.out.os, HGq.out.tape, HGq.out.output, HGq.out.size, HGq.out.block⟩⟩
            case measure => simp [intOf]; omega
          · obtain rfl : j = k := by omega
            have heq : (x == Pol.fi (jn H j j)) = true := by rw [← HX.out]; simp [jnF]
            go_wp2
            go_ret
            exact ⟨rfl, Draw.below_of (gtr (gtr G3.out HG5.out) HGq.out)⟩
end Run
end Go.Proofs.Ytchgjdbmianajaa
