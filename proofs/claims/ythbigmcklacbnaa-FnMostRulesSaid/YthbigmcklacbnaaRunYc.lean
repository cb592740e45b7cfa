/-
  The walks of the laws on rules: more people, more rules, another order.
-/
import Derived.Test.YthbigmcklacbnaaRunYb
namespace Go.Proofs.Ythbigmcklacbnaa
namespace Run
open Go.RowKit Alg Mem Con Draw Po
set_option linter.unusedVariables false

theorem vl_up {n : Nat} {R : Nat → ByteArray} {m : Nat} {U : Nat → RV} {q q' : Nat} {z z' : Nat → Int} (h : plF n R m U = true) (hz : ∀ x, hasz z x q = true → hasz z' x q' = true) : psF n R m U q z ≤ psF n R m U q' z' := by
  rw [psF_in h, psF_in h]
  refine mx_up fun j hj => ?_
  have h1 := ruE_iff.1 ((plF_iff.1 h).2.2 j hj)
  have h2 := mnF_mono (n := n) (R := R) (role := (U j).r) hz
  unfold vlF
  split
  · rw [if_pos (by omega)]; exact Int.le_refl _
  · split <;> omega
set_option maxRecDepth 100000 in
set_option maxHeartbeats 8000000 in
theorem FnMayMore (a : Option Addr) (len cap : Nat) (a1 : Option Addr) (len1 cap1 : Nat) (w : World) (hB : Bytes w w.heap.size a len) (hc : len ≤ cap) (hm : cap ≤ maxLen) (hc1 : len1 ≤ cap1) (hm1 : cap1 ≤ maxLen) :
    Calls Try.prog 6 #[.slice a len cap, .slice a1 len1 cap1] w (Yes w) := by
  by_cases hbig : 1048576 < len
  · have hbig' : (1048576 : Int) < (len : Int) := by omega
    clear hB
    go_enter Try.func6, Try.ntmps6
    go_wp2
    go_ret
    exact ⟨rfl, Below.refl _ _⟩
  have hbig' : ¬ (1048576 : Int) < (len : Int) := by omega
  by_cases hbih : 1048576 < len1
  · have hbih' : (1048576 : Int) < (len1 : Int) := by omega
    clear hB
    go_enter Try.func6, Try.ntmps6
    go_wp2
    go_ret
    exact ⟨rfl, Below.refl _ _⟩
  have hbih' : ¬ (1048576 : Int) < (len1 : Int) := by omega
  go_enter Try.func6, Try.ntmps6
  go_wp2_with fail
  refine (drawPoY _ a len cap hB hc hm).mono ?_
  rintro e w1 ⟨b, n, c, R, b2, m, c2, U, b3, q, c3, z, am, rfl, hn, hmm, hq, ho, hu, hz, hg⟩
  have hqc := (own_le hz).1
  have G := Lib.hid hg; have O := Lib.hid ho.str; have Z := Lib.hid hz; have P := Lib.hid hu
  clear hg ho hz hu hB
  go_wp2_with fail
  refine (ipmay _ _ n c R _ m c2 U _ q c3 z am O.out P.out.rul Z.out.ints (by omega) (by omega) (by omega)).mono ?_
  rintro e v1 ⟨rfl, hg⟩
  replace G := Lib.hid (gtr G.out hg); replace O := Lib.hid (O.out.kept hg); replace Z := Lib.hid (Z.out.keptN hg); replace P := Lib.hid (P.out.keptN hg)
  clear hg
  go_wp2_with fail
  refine (spmay _ _ n c R _ m c2 U _ q c3 z am O.out P.out.rul Z.out.ints (by omega) (by omega) (by omega) hqc).mono ?_
  rintro e v2 ⟨rfl, hg⟩
  replace G := Lib.hid (gtr G.out hg); replace O := Lib.hid (O.out.kept hg); replace Z := Lib.hid (Z.out.keptN hg); replace P := Lib.hid (P.out.keptN hg)
  clear hg
  go_wp2_with fail
  refine (spolok _ _ n c R _ m c2 U O.out P.out.rul (by omega) (by omega)).mono ?_
  rintro e w3 ⟨rfl, hg⟩
  have G3 := Lib.hid (gtr G.out hg); have O3 := Lib.hid (O.out.kept hg); have Z3 := Lib.hid (Z.out.keptN hg); have P3 := Lib.hid (P.out.keptN hg)
  clear hg G O Z P
  cases hp : plF n R m U with
  | false =>
    clear hp
    go_wp2_with fail
    refine (spmay _ _ n c R _ m c2 U _ q c3 z am O3.out P3.out.rul Z3.out.ints (by omega) (by omega) (by omega) hqc).mono ?_
    rintro e w4 ⟨rfl, hg⟩
    have G4 := Lib.hid (gtr G3.out hg)
    clear hg
    go_wp2
    go_ret
    exact ⟨by simp, below_of G4.out⟩
  | true =>
    cases hy : myF n R m U q z am with
    | false =>
      clear hp hy
      go_wp2
      go_ret
      exact ⟨rfl, below_of G3.out⟩
    | true =>
      have h3 : 0 ≤ am ∧ am ≤ 99 ∧ am ≤ psF n R m U q z := by rw [myF_in hp] at hy; exact of_decide_eq_true hy
      have HP := Lib.hid hp
      have HPS := Lib.hid h3.2.2
      obtain ⟨h0, h9, _⟩ := h3
      clear hp hy
      obtain ⟨A, rfl⟩ := Int.eq_ofNat_of_zero_le h0
      have hnz : ¬ ((A : Int) + 1) = 0 := by omega
      have hrm : ((len1 : Int)).tmod ((A : Int) + 1) = ((len1 % (A + 1) : Nat) : Int) := by rw [Int.tmod_eq_emod_of_nonneg (by omega)]; exact (Int.natCast_emod len1 (_ + 1)).symm
      have hlt : len1 % (A + 1) < A + 1 := Nat.mod_lt _ (by omega)
      have hr6 : ((len1 : Int)).tmod 6 = ((len1 % 6 : Nat) : Int) := by rw [Int.tmod_eq_emod_of_nonneg (by omega)]; omega
      have hl6 : len1 % 6 < 6 := Nat.mod_lt _ (by omega)
      generalize len1 % (A + 1) = d at *
      generalize len1 % 6 = f at *
      have hOA := own_nil (lo := w3.heap.size) (s := 1) (cs := zC (fun _ => 0)) (Blk.new w3 #[] 3) (Nat.le_refl _)
      have hgA := Draw.grown_alloc w3 (.cells #[] 3) none
      have OA := Lib.hid (show OZ _ w3.heap.size w3.heap.size 0 0 (fun _ => 0) from hOA); have ZA := Lib.hid (Z3.out.keptN hgA)
      have GA := Lib.hid hgA
      have hlz := Z3.out.lt
      have HZA := Lib.hid (show (w3.alloc (.cells #[] 3)).heap.size = w3.heap.size + 1 by rw [World.size_alloc])
      clear hOA hgA
      go_wp2_with (first
        | (at_builtin; refine app_Z rfl (.tmp 62) (.tmp 63) rfl w3.heap.size _ z w3.heap.size 0 0 rfl OA.out b3 0 q c3 rfl (OZ.at ZA.out) (by omega) (by rw [HZA.out]; omega) ?_; intro b5 c5 w5 hO5 hg5; rw [Nat.zero_add] at hO5 ⊢; have G5 := Lib.hid (grown_new GA.out (Nat.le_refl _) hg5); have hl5 := hO5.lt; have hgB := Draw.grown_alloc w5 (.cells #[.int .i64 (1 + (f : Int))] 3) none; have O5 := Lib.hid (hO5.keptN hgB); have C5 := Lib.hid (Blk.new w5 #[.int .i64 (1 + (f : Int))] 3); have G5' := Lib.hid (gtr G5.out hgB); clear hO5 hg5 hgB)
        | (at_builtin; refine app_Z rfl (.tmp 64) (.tmp 69) rfl w3.heap.size _ (fun _ => 1 + (f : Int)) b5 q c5 rfl O5.out w5.heap.size 0 1 1 rfl (one_Z C5.out) (by omega) (by rw [World.size_alloc]; omega) ?_; intro b6 c6 w6 hO6 hg6; have O6 := Lib.hid hO6; have G6 := Lib.hid (grown_new G5'.out hl5.1 hg6); clear hO6 hg6)
        | (go_at_call 29; with_reducible refine (ipmay _ _ n c R _ m c2 U _ (q + 1) c6 _ (A : Int) (O3.out.kept G6.out) ((P3.out.keptN G6.out).rul) O6.out.ints (by omega) (by omega) (by omega)).mono ?_; rintro e w7 ⟨rfl, hg7⟩; rw [show myF n R m U (q + 1) (catZ (catZ (fun _ => 0) 0 z) q (fun _ => 1 + (f : Int))) (A : Int) = true by rw [myF_in HP.out]; exact decide_eq_true ⟨h0, h9, Int.le_trans HPS.out (vl_up HP.out (fun x hx => by rw [hasz_cat, hasz_cat0, hx, Bool.true_or]))⟩]; have G7 := Lib.hid (gtr G6.out hg7); clear hg7)
        | (go_at_call 29; refine (ipmay _ _ n c R _ m c2 U _ q c3 z ((A : Int) - (d : Int)) (O3.out.kept G7.out) ((P3.out.keptN G7.out).rul) ((Z3.out.keptN G7.out).ints) (by omega) (by omega) (by omega)).mono ?_; rintro e w8 ⟨rfl, hg8⟩; rw [show myF n R m U q z ((A : Int) - (d : Int)) = true by rw [myF_in HP.out]; exact decide_eq_true ⟨by omega, by omega, by have := HPS.out; omega⟩]; have G8 := Lib.hid (gtr G7.out hg8); clear hg8))
      go_ret
      exact ⟨by first | rfl | simp, below_of (gtr G3.out G8.out)⟩
theorem plF_bad {n : Nat} {R : Nat → ByteArray} {m j : Nat} {U : Nat → RV} (hj : j < m) (h : ruE (U j) = false) : plF n R m U = false := by unfold plF; rw [ruA_no hj h, Bool.and_false, Bool.and_false]
theorem plF_less {n : Nat} {R : Nat → ByteArray} {m k : Nat} {U : Nat → RV} (h : plF n R m U = true) (hk : k ≤ m) : plF n R k U = true := by
  obtain ⟨h1, h2, h3⟩ := plF_iff.1 h
  exact plF_iff.2 ⟨h1, by omega, fun j hj => h3 j (by omega)⟩
theorem plF_nobody {n : Nat} {R : Nat → ByteArray} {m : Nat} {U : Nat → RV} (h : plF n R m U = true) (Q : Nat → ByteArray) : plF 0 Q m U = true := by
  obtain ⟨h1, h2, h3⟩ := plF_iff.1 h
  exact plF_iff.2 ⟨plR_iff.2 ⟨by omega, fun j hj => by omega⟩, h2, h3⟩
theorem lit_d : (⟨#[100]⟩ : ByteArray).toList = [100] := by rw [Lib.toList_data]
theorem OU.at {w : World} {lo b n c : Nat} {U : Nat → RV} (h : OU w lo b n c U) {k : Nat} (hk : k ≤ n) :
    ∀ j, j < k → w.cell? ⟨b, 0 + j * 3, none⟩ = some (.string (U j).r) ∧ w.cell? ⟨b, 0 + j * 3 + 1, none⟩ = some (.int .i64 (U j).many) ∧ w.cell? ⟨b, 0 + j * 3 + 2, none⟩ = some (.int .i64 (U j).most) := fun j hj => by
  have h0 := own_at (cs := uC U) (fun _ => rfl) h (show j < n by omega) (show 0 < 3 by omega)
  have h1 := own_at (cs := uC U) (fun _ => rfl) h (show j < n by omega) (show 1 < 3 by omega)
  have h2 := own_at (cs := uC U) (fun _ => rfl) h (show j < n by omega) (show 2 < 3 by omega)
  rw [Nat.zero_add]
  exact ⟨h0, h1, h2⟩
set_option maxRecDepth 100000 in
set_option maxHeartbeats 8000000 in
theorem FnPolicyForm (a : Option Addr) (len cap : Nat) (a1 : Option Addr) (len1 cap1 : Nat) (w : World) (hB : Bytes w w.heap.size a len) (hc : len ≤ cap) (hm : cap ≤ maxLen) (hc1 : len1 ≤ cap1) (hm1 : cap1 ≤ maxLen) :
    Calls Try.prog 9 #[.slice a len cap, .slice a1 len1 cap1] w (Yes w) := by
  by_cases hbig : 1048576 < len
  · have hbig' : (1048576 : Int) < (len : Int) := by omega
    clear hB
    go_enter Try.func9, Try.ntmps9
    go_wp2
    go_ret
    exact ⟨rfl, Below.refl _ _⟩
  have hbig' : ¬ (1048576 : Int) < (len : Int) := by omega
  by_cases hbih : 1048576 < len1
  · have hbih' : (1048576 : Int) < (len1 : Int) := by omega
    clear hB
    go_enter Try.func9, Try.ntmps9
    go_wp2
    go_ret
    exact ⟨rfl, Below.refl _ _⟩
  have hbih' : ¬ (1048576 : Int) < (len1 : Int) := by omega
  go_enter Try.func9, Try.ntmps9
  go_wp2_with fail
  refine (drawPoO _ a len cap hB hc hm).mono ?_
  rintro e w1 ⟨b, n, c, R, b2, m, c2, U, rfl, hn, hmm, ho, hu, hg⟩
  have hmc := (own_le hu).1
  have hmc2 := (own_le hu).2
  have G := Lib.hid hg; have O := Lib.hid ho.str; have P := Lib.hid hu
  clear hg ho hu hB
  go_wp2_with fail
  refine (ipolok _ _ n c R _ m c2 U O.out P.out.rul (by omega) (by omega)).mono ?_
  rintro e v1 ⟨rfl, hg⟩
  replace G := Lib.hid (gtr G.out hg); replace O := Lib.hid (O.out.kept hg); replace P := Lib.hid (P.out.keptN hg)
  clear hg
  go_wp2_with fail
  refine (spolok _ _ n c R _ m c2 U O.out P.out.rul (by omega) (by omega)).mono ?_
  rintro e w3 ⟨rfl, hg⟩
  have G3 := Lib.hid (gtr G.out hg); have O3 := Lib.hid (O.out.kept hg); have P3 := Lib.hid (P.out.keptN hg)
  clear hg G O P
  cases hp : plF n R m U with
  | false =>
    have HP := Lib.hid hp
    clear hp
    go_wp2_with fail
    refine (spolok _ _ n c R _ m c2 U O3.out P3.out.rul (by omega) (by omega)).mono ?_
    rintro e w4 ⟨rfl, hg⟩
    rw [HP.out]
    have G4 := Lib.hid (gtr G3.out hg)
    clear hg
    go_wp2
    go_ret
    exact ⟨by simp, below_of G4.out⟩
  | true =>
    have HP := Lib.hid hp
    clear hp
    have hnz : ¬ ((m : Int) + 1) = 0 := by omega
    have hrm : ((len1 : Int)).tmod ((m : Int) + 1) = ((len1 % (m + 1) : Nat) : Int) := by rw [Int.tmod_eq_emod_of_nonneg (by omega)]; exact (Int.natCast_emod len1 (_ + 1)).symm
    have hlt : len1 % (m + 1) < m + 1 := Nat.mod_lt _ (by omega)
    generalize len1 % (m + 1) = k at *
    have hkc : k ≤ c2 := by omega
    have hkm : k ≤ m := by omega
    have hgA := Draw.grown_alloc w3 (.cells #[] 39) none
    have OA := Lib.hid (show OU _ w3.heap.size w3.heap.size 0 0 U from own_nil (lo := w3.heap.size) (s := 3) (cs := uC U) (Blk.new w3 #[] 39) (Nat.le_refl _)); have PA := Lib.hid (P3.out.keptN hgA)
    have GA := Lib.hid hgA
    have HZA := Lib.hid (show (w3.alloc (.cells #[] 39)).heap.size = w3.heap.size + 1 by rw [World.size_alloc])
    have hlp := P3.out.lt
    clear hgA
    go_wp2_with (first
      | (at_builtin; refine app_U rfl (.tmp 47) (.tmp 50) rfl w3.heap.size U U w3.heap.size 0 0 rfl OA.out b2 0 k c2 rfl (OU.at PA.out hkm) (by omega) (by rw [HZA.out]; omega) ?_; intro b5 c5 w5 hO5 hg5; rw [Nat.zero_add] at hO5 ⊢; have G5 := Lib.hid (grown_new GA.out (Nat.le_refl _) hg5); have hl5 := hO5.lt; have hgB := Draw.grown_alloc w5 (.cells #[.string ⟨#[100]⟩, .int .i64 1, .int .i64 0] 39) none; have O5 := Lib.hid (hO5.keptN hgB); have C5 := Lib.hid (Blk.new w5 #[.string ⟨#[100]⟩, .int .i64 1, .int .i64 0] 39); have G5' := Lib.hid (gtr G5.out hgB); clear hO5 hg5 hgB)
      | (at_builtin; refine app_U rfl (.tmp 51) (.tmp 53) rfl w3.heap.size _ (fun _ => ⟨⟨#[100]⟩, 1, 0⟩) b5 k c5 rfl O5.out w5.heap.size 0 1 1 rfl (one_U C5.out) (by omega) (by rw [World.size_alloc]; omega) ?_; intro b6 c6 w6 hO6 hg6; have A6 := Lib.hid hO6; have G6 := Lib.hid (grown_new G5'.out hl5.1 hg6); have hl6 := G6.out.size; have hgB := Draw.grown_alloc w6 (.cells #[] 39) none; have G7 := Lib.hid (gtr G6.out hgB); have O7 := Lib.hid (show OU _ w6.heap.size w6.heap.size 0 0 U from own_nil (lo := w6.heap.size) (s := 3) (cs := uC U) (Blk.new w6 #[] 39) (Nat.le_refl _)); have P7 := Lib.hid (P3.out.keptN G7.out); have A7 := Lib.hid (A6.out.keptN hgB); have hal := A6.out.lt; have HZ7 := Lib.hid (show (w6.alloc (.cells #[] 39)).heap.size = w6.heap.size + 1 by rw [World.size_alloc]); clear hO6 hg6 hgB)
      | (at_builtin; refine app_U rfl (.tmp 55) (.tmp 58) rfl w6.heap.size U U w6.heap.size 0 0 rfl O7.out b2 0 k c2 rfl (OU.at P7.out hkm) (by omega) (by rw [HZ7.out]; omega) ?_; intro b8 c8 w8 hO8 hg8; rw [Nat.zero_add] at hO8 ⊢; have G8 := Lib.hid (grown_newR (B := w6.heap.size) G7.out hl6 hg8); have A8 := Lib.hid (A7.out.kept hg8 (by intro e; have e := Option.some.inj e; omega)); have hl8 := hO8.lt; have hgB := Draw.grown_alloc w8 (.cells #[.string ⟨#[97]⟩, .int .i64 0, .int .i64 0] 39) none; have O8 := Lib.hid (hO8.keptN hgB); have C8 := Lib.hid (Blk.new w8 #[.string ⟨#[97]⟩, .int .i64 0, .int .i64 0] 39); have G8' := Lib.hid (gtr G8.out hgB); have A8' := Lib.hid (A8.out.keptN hgB); clear hO8 hg8 hgB)
      | (at_builtin; refine app_U rfl (.tmp 59) (.tmp 61) rfl w6.heap.size _ (fun _ => ⟨⟨#[97]⟩, 0, 0⟩) b8 k c8 rfl O8.out w8.heap.size 0 1 1 rfl (one_U C8.out) (by omega) (by rw [World.size_alloc]; omega) ?_; intro b9 c9 w9 hO9 hg9; have B9 := Lib.hid hO9; have G9 := Lib.hid (grown_newR G8'.out (by omega) hg9); have A9 := Lib.hid (A8'.out.kept hg9 (by intro e; have e := Option.some.inj e; omega)); clear hO9 hg9)
      | (go_at_call 35; with_reducible refine (ipolok _ _ n c R (some ⟨b2, 0, none⟩) k c2 U (O3.out.kept G9.out) ((P3.out.keptN G9.out).rul.less hkm) (by omega) (by omega)).mono ?_; rintro e w10 ⟨rfl, hg10⟩; rw [plF_less HP.out hkm]; have G10 := Lib.hid (gtr G9.out hg10); have A10 := Lib.hid (A9.out.keptN hg10); have B10 := Lib.hid (B9.out.keptN hg10); clear hg10)
      | (go_at_call 35; with_reducible refine (ipolok _ _ n c R (some ⟨b6, 0, none⟩) (k + 1) c6 _ (O3.out.kept G10.out) A10.out.rul (by omega) (by omega)).mono ?_; rintro e w11 ⟨rfl, hg11⟩; rw [plF_bad (j := k) (by omega) (by unfold ruE isR catU; simp)]; have G11 := Lib.hid (gtr G10.out hg11); have B11 := Lib.hid (B10.out.keptN hg11); clear hg11)
      | (go_at_call 35; with_reducible refine (ipolok _ _ n c R (some ⟨b9, 0, none⟩) (k + 1) c9 _ (O3.out.kept G11.out) B11.out.rul (by omega) (by omega)).mono ?_; rintro e w12 ⟨rfl, hg12⟩; rw [plF_bad (j := k) (by omega) (by unfold ruE catU; simp)]; have G12 := Lib.hid (gtr G11.out hg12); clear hg12)
      | (go_at_call 35; refine (ipolok _ _ 0 0 R _ m c2 U (.inl rfl) ((P3.out.keptN G12.out).rul) (by omega) (by omega)).mono ?_; rintro e w13 ⟨rfl, hg13⟩; rw [plF_nobody HP.out]; have G13 := Lib.hid (gtr G12.out hg13); clear hg13))
    go_ret
    exact ⟨by first | rfl | simp, below_of (gtr G3.out G13.out)⟩
theorem ps_one {n : Nat} {R : Nat → ByteArray} {m k : Nat} {U V : Nat → RV} {q : Nat} {z : Nat → Int} (h : plF n R m U = true) (hk : k < m) (e : V 0 = U k) : psF n R 1 V q z = max (-1) (vlF n R U q z k) := by
  obtain ⟨h1, h2, h3⟩ := plF_iff.1 h
  have hp : plF n R 1 V = true := plF_iff.2 ⟨h1, by omega, fun j hj => by
    obtain rfl : j = 0 := by omega
    rw [e]; exact h3 k hk⟩
  rw [psF_in hp]
  show max (-1) (vlF n R V q z 0) = _
  unfold vlF
  rw [e]
theorem RuI.from_ {w : World} {b n k : Nat} {U : Nat → RV} (h : RuI w (some ⟨b, 0, none⟩) n U) (hk : k < n) : RuI w (some ⟨b, k * 3, none⟩) 1 (fun _ => U k) := by
  obtain ⟨b', off, hbe, hb, hcc⟩ := h.ptr (by omega)
  injection hbe with hbe; injection hbe with hb1 hb2 _
  subst hb1; subst hb2
  have hc := hcc k hk
  rw [Nat.zero_add] at hc
  refine .inr ⟨b, k * 3, rfl, hb, fun j hj => ?_⟩
  obtain rfl : j = 0 := by omega
  rw [Nat.zero_mul, Nat.add_zero]
  exact hc
set_option maxRecDepth 100000 in
set_option maxHeartbeats 8000000 in
theorem FnMostRules (a : Option Addr) (len cap : Nat) (a1 : Option Addr) (len1 cap1 : Nat) (w : World) (hB : Bytes w w.heap.size a len) (hc : len ≤ cap) (hm : cap ≤ maxLen) (hc1 : len1 ≤ cap1) (hm1 : cap1 ≤ maxLen) :
    Calls Try.prog 11 #[.slice a len cap, .slice a1 len1 cap1] w (Yes w) := by
  by_cases hbig : 1048576 < len
  · have hbig' : (1048576 : Int) < (len : Int) := by omega
    clear hB
    go_enter Try.func11, Try.ntmps11
    go_wp2
    go_ret
    exact ⟨rfl, Below.refl _ _⟩
  have hbig' : ¬ (1048576 : Int) < (len : Int) := by omega
  by_cases hbih : 1048576 < len1
  · have hbih' : (1048576 : Int) < (len1 : Int) := by omega
    clear hB
    go_enter Try.func11, Try.ntmps11
    go_wp2
    go_ret
    exact ⟨rfl, Below.refl _ _⟩
  have hbih' : ¬ (1048576 : Int) < (len1 : Int) := by omega
  go_enter Try.func11, Try.ntmps11
  go_wp2_with fail
  refine (drawPoS _ a len cap hB hc hm).mono ?_
  rintro e w1 ⟨b, n, c, R, b2, m, c2, U, b3, q, c3, z, rfl, hn, hmm, hq, ho, hu, hz, hg⟩
  have hqc := (own_le hz).1
  have hmc := (own_le hu).1
  have hmc2 := (own_le hu).2
  have G := Lib.hid hg; have O := Lib.hid ho.str; have Z := Lib.hid hz; have P := Lib.hid hu
  clear hg ho hz hu hB
  go_wp2_with fail
  refine (ipmost _ _ n c R _ m c2 U _ q c3 z O.out P.out.rul Z.out.ints (by omega) (by omega) (by omega)).mono ?_
  rintro e v1 ⟨rfl, hg⟩
  replace G := Lib.hid (gtr G.out hg); replace O := Lib.hid (O.out.kept hg); replace Z := Lib.hid (Z.out.keptN hg); replace P := Lib.hid (P.out.keptN hg)
  clear hg
  go_wp2_with fail
  refine (spmost _ _ n c R _ m c2 U _ q c3 z O.out P.out.rul Z.out.ints (by omega) (by omega) (by omega) hqc).mono ?_
  rintro e v2 ⟨rfl, hg⟩
  replace G := Lib.hid (gtr G.out hg); replace O := Lib.hid (O.out.kept hg); replace Z := Lib.hid (Z.out.keptN hg); replace P := Lib.hid (P.out.keptN hg)
  clear hg
  go_wp2_with fail
  refine (spolok _ _ n c R _ m c2 U O.out P.out.rul (by omega) (by omega)).mono ?_
  rintro e w3 ⟨rfl, hg⟩
  have G3 := Lib.hid (gtr G.out hg); have O3 := Lib.hid (O.out.kept hg); have Z3 := Lib.hid (Z.out.keptN hg); have P3 := Lib.hid (P.out.keptN hg)
  clear hg G O Z P
  cases hp : plF n R m U with
  | false =>
    clear hp
    go_wp2_with fail
    refine (spmost _ _ n c R _ m c2 U _ q c3 z O3.out P3.out.rul Z3.out.ints (by omega) (by omega) (by omega) hqc).mono ?_
    rintro e w4 ⟨rfl, hg⟩
    have G4 := Lib.hid (gtr G3.out hg)
    clear hg
    go_wp2
    go_ret
    exact ⟨by simp, below_of G4.out⟩
  | true =>
    have HP := Lib.hid hp
    have hps := psF_in (q := q) (z := z) hp
    clear hp
    obtain ⟨v, hv⟩ : ∃ v, v = vlF n R U q z := ⟨_, rfl⟩
    rw [← hv] at hps
    have HV := Lib.hid hv; clear hv
    obtain ⟨ps, hq1⟩ : ∃ ps, psF n R m U q z = ps := ⟨_, rfl⟩
    rw [hq1] at hps ⊢
    have HQ := Lib.hid hq1
    have HPS := Lib.hid hps; clear hps hq1
    have hnz : ¬ ((m : Int) + 1) = 0 := by omega
    have hrm : ((len1 : Int)).tmod ((m : Int) + 1) = ((len1 % (m + 1) : Nat) : Int) := by rw [Int.tmod_eq_emod_of_nonneg (by omega)]; exact (Int.natCast_emod len1 (_ + 1)).symm
    have hlt1 : len1 % (m + 1) < m + 1 := Nat.mod_lt _ (by omega)
    generalize len1 % (m + 1) = d at *
    go_wp2
    go_loopw [9, 10] (fun t i wr => ∃ (k : Nat) (x : Int), k ≤ m ∧ i = .int .i64 k ∧ t = .int .i64 x ∧ -1 ≤ x ∧ mx v k = x ∧ w3.grownBy wr none) (fun _ i _ => m - (intOf i).toNat)
    case atStart => exact ⟨0, -1, by omega, rfl, rfl, by omega, rfl, Draw.grown_refl _ _⟩
    case round =>
      obtain ⟨k, x, hk, rfl, rfl, hx1, hx, hg⟩ := hrel
      have HX := Lib.hid hx; have G4 := Lib.hid hg
      have O4 := Lib.hid (O3.out.kept hg); have Z4 := Lib.hid (Z3.out.keptN hg); have P4 := Lib.hid (P3.out.keptN hg)
      clear hx hg
      by_cases hlt : k < m
      · have hk1 : k + 1 ≤ c2 := by omega
        have hk2 : k ≤ c2 := by omega
        have hcap : ¬ c2 - k = 0 := by omega
        have HN := Lib.hid (show mx v (k + 1) = max x (max (-1) (v k)) by rw [mx, HX.out]; omega)
        have HO := Lib.hid (show psF n R 1 (fun _ => U k) q z = max (-1) (v k) by rw [ps_one HP.out hlt rfl, HV.out])
        generalize v k = vk at *
        go_wp2_with fail
        refine (ipmost _ _ n c R _ 1 _ (fun _ => U k) _ q c3 z O4.out (RuI.from_ P4.out.rul hlt) Z4.out.ints (by omega) (by omega) (by omega)).mono ?_
        rintro e w5 ⟨rfl, hg⟩
        rw [HO.out]
        have G5 := Lib.hid (gtr G4.out hg)
        clear hg
        go_wp2
        go_roundw
        case rel => exact ⟨k + 1, max x (max (-1) vk), by omega, by go_num, by go_num, by omega, HN.out, G5.out⟩
        case measure => simp [intOf]; omega
      · obtain rfl : k = m := by omega
        have hxp : x = ps := by rw [← HX.out, HPS.out]
        subst hxp
        have hdc : d ≤ c2 := by omega
        have hdk : d ≤ k := by omega
        have HL := Lib.hid (show psF n R d U q z ≤ x by rw [psF_in (plF_less HP.out hdk), HPS.out, ← HV.out]; exact mx_mono hdk)
        go_wp2_with fail
        refine (ipmost _ _ n c R _ d c2 U _ q c3 z O4.out (P4.out.rul.less hdk) Z4.out.ints (by omega) (by omega) (by omega)).mono ?_
        rintro e w5 ⟨rfl, hg⟩
        have G5 := Lib.hid (gtr G4.out hg)
        have hle := HL.out
        clear hg
        go_wp2
        go_ret
        exact ⟨by first | rfl | simp [hle], below_of (gtr G3.out G5.out)⟩
theorem OU.congr {w : World} {lo b n c : Nat} {U V : Nat → RV} (h : OU w lo b n c U) (e : ∀ j, j < n → U j = V j) : OU w lo b n c V := by
  unfold OU at h ⊢; rw [← flat_congr (cs := uC U) (fun j hj => by unfold uC; rw [e j hj])]; exact h
theorem OZ.congr {w : World} {lo b n c : Nat} {z y : Nat → Int} (h : OZ w lo b n c z) (e : ∀ j, j < n → z j = y j) : OZ w lo b n c y := by
  unfold OZ at h ⊢; rw [← flat_congr (cs := zC z) (fun j hj => by unfold zC; rw [e j hj])]; exact h
theorem hasz_back {z : Nat → Int} {q : Nat} {x : Int} : hasz (fun j => z (q - 1 - j)) x q = hasz z x q := by
  rw [Bool.eq_iff_iff, hasz_iff, hasz_iff]
  constructor
  · rintro ⟨j, hj, e⟩
    exact ⟨q - 1 - j, by omega, e⟩
  · rintro ⟨j, hj, e⟩
    exact ⟨q - 1 - j, by omega, by show z (q - 1 - (q - 1 - j)) = x; rw [show q - 1 - (q - 1 - j) = j by omega]; exact e⟩
theorem psF_back {n : Nat} {R : Nat → ByteArray} {m : Nat} {U : Nat → RV} {q : Nat} {z : Nat → Int} (h : plF n R m U = true) : psF n R m (fun j => U (m - 1 - j)) q (fun j => z (q - 1 - j)) = psF n R m U q z := by
  obtain ⟨h1, h2, h3⟩ := plF_iff.1 h
  have hp : plF n R m (fun j => U (m - 1 - j)) = true := plF_iff.2 ⟨h1, h2, fun j hj => h3 _ (by omega)⟩
  rw [psF_in h, psF_in hp]
  refine mx_back fun j hj => ?_
  unfold vlF
  rw [mnF_congr (z' := z) (q' := q) (fun x => hasz_back)]
set_option maxRecDepth 100000 in
set_option maxHeartbeats 8000000 in
theorem FnMostOrder (a : Option Addr) (len cap : Nat) (w : World) (hB : Bytes w w.heap.size a len) (hc : len ≤ cap) (hm : cap ≤ maxLen) :
    Calls Try.prog 12 #[.slice a len cap] w (Yes w) := by
  by_cases hbig : 1048576 < len
  · have hbig' : (1048576 : Int) < (len : Int) := by omega
    clear hB
    go_enter Try.func12, Try.ntmps12
    go_wp2
    go_ret
    exact ⟨rfl, Below.refl _ _⟩
  have hbig' : ¬ (1048576 : Int) < (len : Int) := by omega
  go_enter Try.func12, Try.ntmps12
  go_wp2_with fail
  refine (drawPoS _ a len cap hB hc hm).mono ?_
  rintro e w1 ⟨b, n, c, R, b2, m, c2, U, b3, q, c3, z, rfl, hn, hmm, hq, ho, hu, hz, hg⟩
  have hqc := (own_le hz).1
  have hmc := (own_le hu).1
  have hmc2 := (own_le hu).2
  have G := Lib.hid hg; have O := Lib.hid ho.str; have Z := Lib.hid hz; have P := Lib.hid hu
  clear hg ho hz hu hB
  go_wp2_with fail
  refine (ipmost _ _ n c R _ m c2 U _ q c3 z O.out P.out.rul Z.out.ints (by omega) (by omega) (by omega)).mono ?_
  rintro e v1 ⟨rfl, hg⟩
  replace G := Lib.hid (gtr G.out hg); replace O := Lib.hid (O.out.kept hg); replace Z := Lib.hid (Z.out.keptN hg); replace P := Lib.hid (P.out.keptN hg)
  clear hg
  go_wp2_with fail
  refine (spmost _ _ n c R _ m c2 U _ q c3 z O.out P.out.rul Z.out.ints (by omega) (by omega) (by omega) hqc).mono ?_
  rintro e v2 ⟨rfl, hg⟩
  replace G := Lib.hid (gtr G.out hg); replace O := Lib.hid (O.out.kept hg); replace Z := Lib.hid (Z.out.keptN hg); replace P := Lib.hid (P.out.keptN hg)
  clear hg
  go_wp2_with fail
  refine (spolok _ _ n c R _ m c2 U O.out P.out.rul (by omega) (by omega)).mono ?_
  rintro e w3 ⟨rfl, hg⟩
  have G3 := Lib.hid (gtr G.out hg); have O3 := Lib.hid (O.out.kept hg); have Z3 := Lib.hid (Z.out.keptN hg); have P3 := Lib.hid (P.out.keptN hg)
  clear hg G O Z P
  cases hp : plF n R m U with
  | false =>
    clear hp
    go_wp2_with fail
    refine (spmost _ _ n c R _ m c2 U _ q c3 z O3.out P3.out.rul Z3.out.ints (by omega) (by omega) (by omega) hqc).mono ?_
    rintro e w4 ⟨rfl, hg⟩
    have G4 := Lib.hid (gtr G3.out hg)
    clear hg
    go_wp2
    go_ret
    exact ⟨by simp, below_of G4.out⟩
  | true =>
    have HB := Lib.hid (psF_back (q := q) (z := z) hp)
    clear hp
    obtain ⟨ps, hq1⟩ : ∃ ps, psF n R m U q z = ps := ⟨_, rfl⟩
    rw [hq1] at HB ⊢
    clear hq1
    have hgA := Draw.grown_alloc w3 (.cells #[] 39) none
    have OA := Lib.hid (show OU _ w3.heap.size w3.heap.size 0 0 (fun j => U (m - 1 - j)) from own_nil (lo := w3.heap.size) (s := 3) (cs := uC (fun j => U (m - 1 - j))) (Blk.new w3 #[] 39) (Nat.le_refl _))
    have GA := Lib.hid hgA
    clear hgA
    go_wp2
    go_loopw [7, 8] (fun v i wr => ∃ (t k g cc : Nat) (e : Int), t + k = m ∧ e = (t : Int) - 1 ∧ i = .int .i64 e ∧ v = .slice (some ⟨g, 0, none⟩) k cc ∧ OU wr w3.heap.size g k cc (fun j => U (m - 1 - j)) ∧ w3.grownBy wr none) (fun _ i _ => (intOf i + 1).toNat)
    case atStart => exact ⟨m, 0, _, _, _, by omega, rfl, rfl, rfl, OA.out, GA.out⟩
    case round =>
      clear OA GA
      obtain ⟨wo, hwo⟩ : ∃ W, W = wr := ⟨_, rfl⟩
      subst hwo
      obtain ⟨t, k, g, cc, e, htk, he, rfl, rfl, ho, hg⟩ := hrel
      have O5 := Lib.hid ho; have G5 := Lib.hid hg
      have P5 := Lib.hid (P3.out.keptN hg)
      have hw5 := hg.size
      have hlo := ho.lt
      clear ho hg
      by_cases h0 : t = 0
      · subst h0
        obtain rfl : e = -1 := by omega
        obtain rfl : k = m := by omega
        clear he
        have hgB := Draw.grown_alloc wo (.cells #[] 3) none
        have ZA := Lib.hid (show OZ _ wo.heap.size wo.heap.size 0 0 (fun j => z (q - 1 - j)) from own_nil (lo := wo.heap.size) (s := 1) (cs := zC (fun j => z (q - 1 - j))) (Blk.new wo #[] 3) (Nat.le_refl _))
        have GB := Lib.hid hgB
        have OB := Lib.hid (O5.out.keptN hgB)
        clear hgB
        go_wp2
        go_loopw [9, 10] (fun v i ws => ∃ (t p h ch : Nat) (e : Int), t + p = q ∧ e = (t : Int) - 1 ∧ i = .int .i64 e ∧ v = .slice (some ⟨h, 0, none⟩) p ch ∧ OZ ws wo.heap.size h p ch (fun j => z (q - 1 - j)) ∧ OU ws w3.heap.size g k cc (fun j => U (k - 1 - j)) ∧ wo.grownBy ws none) (fun _ i _ => (intOf i + 1).toNat)
        case atStart => exact ⟨q, 0, _, _, _, by omega, rfl, rfl, rfl, ZA.out, OB.out, GB.out⟩
        case round =>
          clear ZA GB OB
          obtain ⟨t, p, h, ch, e, htp, he, rfl, rfl, hz, ho, hg⟩ := hrel
          have Z6 := Lib.hid hz; have O6 := Lib.hid ho; have G6 := Lib.hid hg
          have Q6 := Lib.hid ((Z3.out.keptN G5.out).keptN hg)
          have hw6 := hg.size
          have hlh := hz.lt
          clear hz ho hg
          by_cases h0 : t = 0
          · subst h0
            obtain rfl : e = -1 := by omega
            obtain rfl : p = q := by omega
            clear he
            go_wp2_with fail
            refine (ipmost _ _ n c R _ k cc _ _ p ch _ ((O3.out.kept G5.out).kept G6.out) O6.out.rul Z6.out.ints (by omega) (by omega) (by omega)).mono ?_
            rintro e w7 ⟨rfl, hg⟩
            rw [HB.out]
            have G7 := Lib.hid (gtr G6.out hg)
            clear hg
            go_wp2
            go_ret
            exact ⟨by first | rfl | simp, below_of (gtr G3.out (gtr G5.out G7.out))⟩
          · obtain ⟨s, rfl⟩ : ∃ s, t = s + 1 := ⟨t - 1, by omega⟩
            obtain rfl : e = (s : Int) := by omega
            have hs0 : (0 : Int) ≤ (s : Int) := by omega
            have hsq : s < q := by omega
            have c0 := OZ.at Q6.out s hsq
            rw [Nat.zero_add] at c0
            have hgC := Draw.grown_alloc wr (.cells #[.int .i64 (z s)] 3) none
            have ZC := Lib.hid (Z6.out.keptN hgC); have GC := Lib.hid (gtr G6.out hgC); have OC := Lib.hid (O6.out.keptN hgC); have CC := Lib.hid (Blk.new wr #[.int .i64 (z s)] 3)
            clear hgC he
            go_wp2_with (at_builtin; refine app_Z rfl _ _ rfl wo.heap.size _ (fun _ => z s) h p ch rfl ZC.out wr.heap.size 0 1 1 rfl (one_Z CC.out) (by omega) (by rw [World.size_alloc]; omega) ?_; intro h' ch' w7 hz7 hg7; have Z7 := Lib.hid (OZ.congr hz7 (y := fun j => z (q - 1 - j)) (fun j hj => by unfold catZ; by_cases hjp : j < p; (rw [if_pos hjp]); (rw [if_neg hjp, show q - 1 - j = s by omega]))); have O7 := Lib.hid (OC.out.kept hg7 (own_neP OC.out ZC.out (by decide))); have G7 := Lib.hid (grown_new GC.out hlh.1 hg7); clear hz7 hg7)
            go_roundw
            case rel => exact ⟨s, p + 1, h', ch', (s : Int) - 1, by omega, rfl, by go_num, rfl, Z7.out, O7.out, G7.out⟩
            case measure => simp [intOf]
      · obtain ⟨s, rfl⟩ : ∃ s, t = s + 1 := ⟨t - 1, by omega⟩
        obtain rfl : e = (s : Int) := by omega
        have hs0 : (0 : Int) ≤ (s : Int) := by omega
        have hsm : s < m := by omega
        obtain ⟨c0, c1, c2'⟩ := OU.at P5.out (Nat.le_refl m) s hsm
        rw [Nat.zero_add] at c0 c1 c2'
        obtain ⟨ru, hu⟩ : ∃ u, U s = u := ⟨_, rfl⟩
        rw [hu] at c0 c1 c2'
        have HU := Lib.hid hu; clear hu
        have hgC := Draw.grown_alloc wo (.cells #[.string ru.r, .int .i64 ru.many, .int .i64 ru.most] 39) none
        have OC := Lib.hid (O5.out.keptN hgC); have GC := Lib.hid (gtr G5.out hgC); have CC := Lib.hid (Blk.new wo #[.string ru.r, .int .i64 ru.many, .int .i64 ru.most] 39)
        clear hgC he
        go_wp2_with (at_builtin; refine app_U rfl _ _ rfl w3.heap.size _ (fun _ => ⟨ru.r, ru.many, ru.most⟩) g k cc rfl OC.out wo.heap.size 0 1 1 rfl (one_U CC.out) (by omega) (by rw [World.size_alloc]; omega) ?_; intro h' ch' w7 hz7 hg7; have Z7 := Lib.hid (OU.congr hz7 (V := fun j => U (m - 1 - j)) (fun j hj => by unfold catU; by_cases hjp : j < k; (rw [if_pos hjp]); (rw [if_neg hjp, show m - 1 - j = s by omega, HU.out]))); have G7 := Lib.hid (grown_new GC.out hlo.1 hg7); clear hz7 hg7)
        go_roundw
        case rel => exact ⟨s, k + 1, h', ch', (s : Int) - 1, by omega, rfl, by go_num, rfl, Z7.out, G7.out⟩
        case measure => simp [intOf]
end Run
end Go.Proofs.Ythbigmcklacbnaa
