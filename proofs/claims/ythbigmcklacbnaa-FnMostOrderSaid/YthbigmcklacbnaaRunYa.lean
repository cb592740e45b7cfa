/-
  The walks of the laws on roles.
-/
import Derived.Test.YthbigmcklacbnaaYg
namespace Go.Proofs.Ythbigmcklacbnaa
namespace Run
open Go.RowKit Alg Mem Con Draw Po
set_option linter.unusedVariables false

theorem lpinP (w : World) (a : Option Addr) (len cap : Nat) (z : Nat → Int) (n : Int) (hI : Ints w a len z) (hl : len ≤ 2000000) :
    Calls Try.prog 27 #[.slice a len cap, .int .i64 n] w fun e w' => e = .returned (.bool (hasz z n len)) ∧ w = w' := by
  go_enter Try.func27, Try.ntmps27
  go_wp2
  go_loop [5] (fun i => ∃ k : Nat, k ≤ len ∧ i = .int .i64 k ∧ hasz z n k = false) (fun i => len - (intOf i).toNat)
  case atStart => exact ⟨0, by omega, rfl, rfl⟩
  case round =>
    obtain ⟨k, hk, rfl, hz⟩ := hrel
    have HZ := Lib.hid hz; clear hz
    by_cases hlt : k < len
    · rcases hI with h | ⟨b, off, rfl, hb, hc⟩
      · omega
      have hcx := hc k hlt
      clear hc
      by_cases he : z k = n
      · have HR := Lib.hid (hasz_yes hlt he)
        have ht : (z k == n) = true := by simpa using he
        clear he
        go_wp2
        go_ret
        exact ⟨Mem.ret_b HR.out.symm, rfl⟩
      · have HR := Lib.hid (hasz_next HZ.out he)
        have ht : (z k == n) = false := by simpa using he
        clear he
        go_wp2
        go_round
        case rel => exact ⟨k + 1, by omega, by go_num, HR.out⟩
        case measure => simp [intOf]; omega
    · obtain rfl : k = len := by omega
      clear hI
      go_wp2
      go_ret
      exact ⟨Mem.ret_b HZ.out.symm, rfl⟩
set_option maxHeartbeats 2000000 in
theorem FnRole (a : Option Addr) (len cap : Nat) (w : World) (hB : Bytes w w.heap.size a len) (hc : len ≤ cap) (hm : cap ≤ maxLen) :
    Calls Try.prog 3 #[.slice a len cap] w (Yes w) := by
  by_cases hbig : 1048576 < len
  · have hbig' : (1048576 : Int) < (len : Int) := by omega
    clear hB
    go_enter Try.func3, Try.ntmps3
    go_wp2
    go_ret
    exact ⟨rfl, Below.refl _ _⟩
  have hbig' : ¬ (1048576 : Int) < (len : Int) := by omega
  go_enter Try.func3, Try.ntmps3
  go_wp2_with fail
  refine (drawPoR _ a len cap hB hc hm).mono ?_
  rintro e w1 ⟨b, n, c, R, who, rfl, hn, ho, hg⟩
  have G := Lib.hid hg; have O := Lib.hid ho.str
  clear hg ho hB
  go_wp2_with fail
  refine (iprole _ _ n c R who O.out (by omega)).mono ?_
  rintro e w' ⟨rfl, rfl⟩
  go_wp2_with fail
  refine (sprole _ _ n c R who O.out (by omega)).mono ?_
  rintro e w2 ⟨rfl, hg⟩
  have G2 := Lib.hid (gtr G.out hg); have O2 := Lib.hid (O.out.kept hg)
  clear hg G O
  have HP := Lib.hid (plF_zero (n := n) (R := R) (U := fun _ => ⟨noS, 0, 0⟩))
  go_wp2_with fail
  refine (spolok _ _ n c R none 0 0 (fun _ => ⟨noS, 0, 0⟩) O2.out (.inl rfl) (by omega) (by omega)).mono ?_
  rintro e w3 ⟨rfl, hg⟩
  have G3 := Lib.hid (gtr G2.out hg); have O3 := Lib.hid (O2.out.kept hg)
  clear hg G2 O2
  rw [HP.out]
  cases hr : plR n R with
  | false =>
    clear hr
    go_wp2_with fail
    refine (sprole _ _ n c R who O3.out (by omega)).mono ?_
    rintro e w4 ⟨rfl, hg⟩
    have G4 := Lib.hid (gtr G3.out hg)
    clear hg
    go_wp2
    go_ret
    exact ⟨by simp, below_of G4.out⟩
  | true =>
    by_cases h1 : 1 ≤ who ∧ who ≤ (n : Int)
    · obtain ⟨i, rfl⟩ : ∃ i : Nat, who = (i : Int) + 1 := ⟨(who - 1).toNat, by omega⟩
      have hi : i < n := by omega
      have h2 : ¬ (i : Int) + 1 < 1 := by omega
      have h3 : ¬ (n : Int) < (i : Int) + 1 := by omega
      have hs : (i : Int) + 1 - 1 = (i : Int) := by omega
      have HQ : prF n R ((i : Int) + 1) = R i := by unfold prF; rw [hr]; exact roF_in hi
      rw [HQ]
      clear hr HQ h1
      obtain ⟨b', off, hbe, hb, hcc⟩ := O3.out.ptr (by omega)
      injection hbe with hbe; injection hbe with hb1 hb2 _
      subst hb1; subst hb2
      have c0 := hcc i hi
      rw [Nat.zero_add] at c0
      clear hcc
      go_wp2
      go_ret
      exact ⟨by simp, below_of G3.out⟩
    · have HQ : prF n R who = noS := by unfold prF; rw [hr]; exact roF_out h1
      rw [HQ]
      have hq := noS_list
      clear hr HQ
      by_cases h2 : who < 1
      · go_wp2
        go_ret
        exact ⟨Mem.ret_b (by first | rfl | simp [noS]), below_of G3.out⟩
      · have h3 : (n : Int) < who := by omega
        go_wp2
        go_ret
        exact ⟨Mem.ret_b (by first | rfl | simp [noS]), below_of G3.out⟩
/-! How many, once more. -/
theorem pmF_all {n : Nat} {R : Nat → ByteArray} {q : Nat} {z : Nat → Int} {role : ByteArray} (h : plR n R = true) : pmF n R q z role = mnF n R q z role := by
  by_cases hr : isR role = true
  · exact pmF_in h hr
  · rw [pmF_out (fun k => hr k.2)]
    refine (cn_zero fun j hj => ?_).symm
    unfold mhit
    have h1 := (plR_iff.1 h).2 j hj
    cases he : eqB (R j) role with
    | false => rfl
    | true =>
      unfold eqB at he
      have he := eq_of_beq he
      unfold isR at h1 hr
      rw [he] at h1
      exact absurd h1 hr
theorem hasz_cat {z y : Nat → Int} {x : Int} {n m : Nat} : hasz (catZ z n y) x (n + m) = (hasz z x n || hasz y x m) := by
  rw [Bool.eq_iff_iff, Bool.or_eq_true, hasz_iff, hasz_iff, hasz_iff]
  constructor
  · rintro ⟨j, hj, e⟩
    unfold catZ at e
    by_cases h : j < n
    · rw [if_pos h] at e; exact .inl ⟨j, h, e⟩
    · rw [if_neg h] at e; exact .inr ⟨j - n, by omega, e⟩
  · rintro (⟨j, hj, e⟩ | ⟨j, hj, e⟩)
    · exact ⟨j, by omega, by unfold catZ; rw [if_pos hj]; exact e⟩
    · exact ⟨n + j, by omega, by unfold catZ; rw [if_neg (by omega), show n + j - n = j by omega]; exact e⟩
theorem hasz_cat0 {z y : Nat → Int} {x : Int} {m : Nat} : hasz (catZ z 0 y) x m = hasz y x m := by
  have := hasz_cat (z := z) (y := y) (x := x) (n := 0) (m := m)
  rw [Nat.zero_add] at this; rw [this]; simp [hasz]
theorem run_slt {P : Program} (T : TypeId) (s t : ByteArray) (w : World) : (binOp .lss T (.string s) (.string t)).run P w = .ok (.bool (Op.bytesLess s.toList t.toList)) w := rfl
theorem run_sgt {P : Program} (T : TypeId) (s t : ByteArray) (w : World) : (binOp .gtr T (.string s) (.string t)).run P w = .ok (.bool !(Op.bytesLess s.toList t.toList || s.toList == t.toList)) w := rfl
/-- An append behind a guard that holds. -/
theorem app_ZW {ops : Array Oper} {rest : List Oper} {o : Oper} {act : Act} {w : World} {Q : Exit → Act → World → Prop} (hw : Region.wanted o (yielded ops act.tmps) = true) (s x : Operand) (ho : o.op = .call { callee := .builtin .append, args := #[s, x], argTypes := #[29, 29] })
    (base : Nat) (z y : Nat → Int) (g n c : Nat) (hs : act.eval s = .slice (some ⟨g, 0, none⟩) n c) (hown : OZ w base g n c z)
    (b off m c2 : Nat) (hx : act.eval x = .slice (some ⟨b, off, none⟩) m c2) (hc : ∀ j, j < m → w.cell? ⟨b, off + j, none⟩ = some (.int .i64 (y j))) (hn : n + m ≤ 2000000) (hbase : base ≤ w.heap.size)
    (h : ∀ b' c' w', OZ w' base b' (n + m) c' (catZ z n y) → w.grownBy w' (some g) → wpList Try.prog ops Q rest (act.put o.dst (.slice (some ⟨b', 0, none⟩) (n + m) c')) w') : wpList Try.prog ops Q (o :: rest) act w :=
  wpList_step fun _ hK => by
    rw [if_pos hw]
    exact app_G s x 29 3 (.int .i64 0) 1 8 und_intsP info_intP rfl (by decide) (by decide) ho base (zC z) (zC y) (zC (catZ z n y)) (fun _ => rfl) (fun j u hu => by simp [zC] at hu; subst hu; rfl)
      g n c hs hown b off m c2 hx (fun j i u hj hu => by
        obtain rfl : i = 0 := by have := (List.getElem?_eq_some_iff.1 hu).1; simpa [zC] using this
        simp [zC] at hu; subst hu; rw [Nat.mul_one, Nat.add_zero]; exact hc j hj)
      (fun j hj => by unfold zC catZ; rw [if_pos hj]) (fun j hj => by unfold zC catZ; rw [if_neg (by omega), show n + j - n = j by omega]) hn hbase fun b' c' w' h1 h2 => hK _ _ (h b' c' w' h1 h2)
theorem OZ.at {w : World} {lo b n c : Nat} {z : Nat → Int} (h : OZ w lo b n c z) : ∀ j, j < n → w.cell? ⟨b, 0 + j, none⟩ = some (.int .i64 (z j)) := fun j hj => by
  have := own_at (cs := zC z) (fun _ => rfl) h hj (show 0 < 1 by omega)
  rw [Nat.mul_one, Nat.add_zero] at this; rw [Nat.zero_add]; exact this
set_option maxRecDepth 100000 in
set_option maxHeartbeats 4000000 in
theorem FnRoleMany (a : Option Addr) (len cap : Nat) (w : World) (hB : Bytes w w.heap.size a len) (hc : len ≤ cap) (hm : cap ≤ maxLen) :
    Calls Try.prog 4 #[.slice a len cap] w (Yes w) := by
  by_cases hbig : 1048576 < len
  · have hbig' : (1048576 : Int) < (len : Int) := by omega
    clear hB
    go_enter Try.func4, Try.ntmps4
    go_wp2
    go_ret
    exact ⟨rfl, Below.refl _ _⟩
  have hbig' : ¬ (1048576 : Int) < (len : Int) := by omega
  go_enter Try.func4, Try.ntmps4
  go_wp2_with fail
  refine (drawPoM _ a len cap hB hc hm).mono ?_
  rintro e w1 ⟨b, n, c, R, b3, q, c3, z, role, rfl, hn, hq, ho, hz, hg⟩
  have hqc := (own_le hz).1
  have G := Lib.hid hg; have O := Lib.hid ho.str; have Z := Lib.hid hz
  clear hg ho hz hB
  go_wp2_with fail
  refine (ipmany _ _ n c R _ q c3 z role O.out Z.out.ints (by omega) (by omega)).mono ?_
  rintro e w' ⟨rfl, rfl⟩
  go_wp2_with fail
  refine (spmany _ _ n c R _ q c3 z role O.out Z.out.ints (by omega) (by omega) hqc).mono ?_
  rintro e w2 ⟨rfl, hg⟩
  have G2 := Lib.hid (gtr G.out hg); have O2 := Lib.hid (O.out.kept hg); have Z2 := Lib.hid (Z.out.keptN hg)
  clear hg G O Z
  have HP := Lib.hid (plF_zero (n := n) (R := R) (U := fun _ => ⟨noS, 0, 0⟩))
  go_wp2_with fail
  refine (spolok _ _ n c R none 0 0 (fun _ => ⟨noS, 0, 0⟩) O2.out (.inl rfl) (by omega) (by omega)).mono ?_
  rintro e w3 ⟨rfl, hg⟩
  have G3 := Lib.hid (gtr G2.out hg); have O3 := Lib.hid (O2.out.kept hg); have Z3 := Lib.hid (Z2.out.keptN hg)
  clear hg G2 O2 Z2
  rw [HP.out]
  cases hr : plR n R with
  | false =>
    clear hr
    go_wp2_with fail
    refine (spmany _ _ n c R _ q c3 z role O3.out Z3.out.ints (by omega) (by omega) hqc).mono ?_
    rintro e w4 ⟨rfl, hg⟩
    have G4 := Lib.hid (gtr G3.out hg)
    clear hg
    go_wp2
    go_ret
    exact ⟨by simp, below_of G4.out⟩
  | true =>
    have HM := Lib.hid (pmF_all (q := q) (z := z) (role := role) hr)
    have h6 := (plR_iff.1 hr).1
    have HR := Lib.hid hr
    clear hr
    have q2 := run_sgt (P := Try.prog) 9 role ⟨#[99]⟩ w3
    generalize hb2 : (Op.bytesLess role.toList (⟨#[99]⟩ : ByteArray).toList || role.toList == (⟨#[99]⟩ : ByteArray).toList) = b2 at *
    clear hb2
    cases q1 : Op.bytesLess role.toList [97] with
    | true =>
      go_wp2_with fail
      clear q1 q2
      refine (spmany _ _ n c R _ q c3 z role O3.out Z3.out.ints (by omega) (by omega) hqc).mono ?_
      rintro e w4 ⟨rfl, hg⟩
      have G4 := Lib.hid (gtr G3.out hg)
      clear hg
      go_wp2
      go_ret
      exact ⟨by simp, below_of G4.out⟩
    | false =>
      cases b2 with
      | false =>
        simp only [Bool.not_false] at q2
        go_wp2_with fail
        clear q1 q2
        refine (spmany _ _ n c R _ q c3 z role O3.out Z3.out.ints (by omega) (by omega) hqc).mono ?_
        rintro e w4 ⟨rfl, hg⟩
        have G4 := Lib.hid (gtr G3.out hg)
        clear hg
        go_wp2
        go_ret
        exact ⟨by simp, below_of G4.out⟩
      | true =>
        simp only [Bool.not_true] at q2
        rw [HM.out]
        go_wp2_with fail
        clear q1 q2
        go_loop [7, 8] (fun v i => ∃ j m : Nat, j ≤ n ∧ i = .int .i64 ((j : Int) + 1) ∧ v = .int .i64 m ∧ m ≤ j ∧ cn (mhit R z q role) j = m) (fun _ i => n + 1 - (intOf i).toNat)
        case atStart => exact ⟨0, 0, by omega, rfl, rfl, by omega, rfl⟩
        case round =>
          obtain ⟨k, m, hk, rfl, rfl, hmk, hz⟩ := hrel
          have HC := Lib.hid hz; clear hz
          by_cases hlt : k < n
          · have hlt1 : (k : Int) + 1 ≤ (n : Int) := by omega
            obtain ⟨b', off, hbe, hb, hcc⟩ := O3.out.ptr (by omega)
            injection hbe with hbe; injection hbe with hb1 hb2 _
            subst hb1; subst hb2
            have c0 := hcc k hlt
            rw [Nat.zero_add] at c0
            clear hcc
            have hs1 : (k : Int) + 1 - 1 = (k : Int) := by omega
            cases hh : hasz z ((k : Int) + 1) q with
            | true =>
              cases he : ((R k).toList == role.toList) with
              | true =>
                have hE : eqB (R k) role = true := he
                have HN := Lib.hid (show cn (mhit R z q role) (k + 1) = m + 1 by rw [cn_yes (by unfold mhit; rw [hE, hh]; rfl), HC.out])
                have HH := Lib.hid hh; clear hh hE
                go_wp2_with (go_at_call 27; refine (lpinP _ _ q c3 z _ Z3.out.ints (by omega)).mono ?_; rintro e w' ⟨rfl, rfl⟩; rw [HH.out])
                go_round
                case rel => exact ⟨k + 1, m + 1, by omega, by go_num, by go_num, by omega, HN.out⟩
                case measure => simp [intOf]; omega
              | false =>
                have hE : eqB (R k) role = false := he
                have HN := Lib.hid (show cn (mhit R z q role) (k + 1) = m by rw [cn_no (by unfold mhit; rw [hE]; rfl), HC.out])
                have HH := Lib.hid hh; clear hh hE
                go_wp2_with (go_at_call 27; refine (lpinP _ _ q c3 z _ Z3.out.ints (by omega)).mono ?_; rintro e w' ⟨rfl, rfl⟩; rw [HH.out])
                go_round
                case rel => exact ⟨k + 1, m, by omega, by go_num, rfl, by omega, HN.out⟩
                case measure => simp [intOf]; omega
            | false =>
              have HN := Lib.hid (show cn (mhit R z q role) (k + 1) = m by rw [cn_no (by unfold mhit; rw [hh]; simp), HC.out])
              have HH := Lib.hid hh; clear hh
              go_wp2_with (go_at_call 27; refine (lpinP _ _ q c3 z _ Z3.out.ints (by omega)).mono ?_; rintro e w' ⟨rfl, rfl⟩; rw [HH.out])
              go_round
              case rel => exact ⟨k + 1, m, by omega, by go_num, rfl, by omega, HN.out⟩
              case measure => simp [intOf]; omega
          · obtain rfl : k = n := by omega
            have hlt1 : ¬ (k : Int) + 1 ≤ (k : Int) := by omega
            have hmm : mnF k R q z role = m := HC.out
            rw [hmm]
            have HMM := Lib.hid hmm; clear hmm
            have hOA := own_nil (lo := w3.heap.size) (s := 1) (cs := zC (fun _ => 0)) (Blk.new w3 #[] 3) (Nat.le_refl _)
            have hgA := Draw.grown_alloc w3 (.cells #[] 3) none
            have OA := Lib.hid (show OZ _ w3.heap.size w3.heap.size 0 0 (fun _ => 0) from hOA); have ZA := Lib.hid (Z3.out.keptN hgA)
            have GA := Lib.hid hgA
            have hlz := Z3.out.lt
            have hzA : (w3.alloc (.cells #[] 3)).heap.size = w3.heap.size + 1 := by rw [World.size_alloc]
            have HZA := Lib.hid hzA
            clear hOA hgA hzA
            go_wp2_with (first
              | (at_builtin; refine app_ZW (by rfl) (.tmp 72) (.tmp 73) rfl w3.heap.size _ z w3.heap.size 0 0 rfl OA.out b3 0 q c3 rfl (OZ.at ZA.out) (by omega) (by rw [HZA.out]; omega) ?_; intro b5 c5 w5 hO5 hg5; rw [Nat.zero_add] at hO5 ⊢; have O5 := Lib.hid hO5; have G5 := Lib.hid (grown_new GA.out (Nat.le_refl _) hg5); have Z5 := Lib.hid (Z3.out.keptN G5.out); have hl5 := hO5.lt; clear hO5 hg5)
              | (at_builtin; refine app_ZW (by rfl) (.tmp 74) (.tmp 75) rfl w3.heap.size _ z b5 q c5 rfl O5.out b3 0 q c3 rfl (OZ.at Z5.out) (by omega) (by omega) ?_; intro b6 c6 w6 hO6 hg6; have O6 := Lib.hid hO6; have G6 := Lib.hid (grown_new G5.out hl5.1 hg6); clear hO6 hg6)
              | (go_at_call 25; refine (ipmany _ _ k c R _ (q + q) c6 _ role (O3.out.kept G6.out) O6.out.ints (by omega) (by omega)).mono ?_; rintro e w' ⟨rfl, rfl⟩; rw [show pmF k R (q + q) (catZ (catZ (fun _ => 0) 0 z) q z) role = m by rw [pmF_all HR.out, mnF_congr (q' := q) (z' := z) (fun x => by rw [hasz_cat, hasz_cat0, Bool.or_self]), HMM.out]]))
            go_ret
            exact ⟨by simp, below_of (gtr G3.out G6.out)⟩
theorem cn_three {p1 p2 p3 p : Nat → Bool} : ∀ {n : Nat}, (∀ j, j < n → (if p1 j = true then 1 else 0) + (if p2 j = true then 1 else 0) + (if p3 j = true then 1 else 0) = (if p j = true then 1 else 0)) → cn p1 n + cn p2 n + cn p3 n = cn p n
  | 0, _ => rfl
  | n + 1, h => by
    have ih := cn_three (n := n) (fun j hj => h j (by omega))
    have h1 := h n (by omega)
    rw [cn, cn, cn, cn, ← ih, ← h1]
    omega
theorem lit_b : (⟨#[98]⟩ : ByteArray).toList = [98] := by rw [Lib.toList_data]
theorem mnF_three {n : Nat} {R : Nat → ByteArray} {q : Nat} {z : Nat → Int} (h : plR n R = true) : mnF n R q z ⟨#[97]⟩ + mnF n R q z ⟨#[98]⟩ + mnF n R q z ⟨#[99]⟩ = cn (fun i => hasz z ((i : Int) + 1) q) n := by
  refine cn_three fun j hj => ?_
  have h1 := (plR_iff.1 h).2 j hj
  unfold mhit eqB
  rw [lit_a, lit_b, lit_c]
  unfold isR at h1
  cases hh : hasz z ((j : Int) + 1) q with
  | false => simp
  | true =>
    rw [Bool.or_eq_true, Bool.or_eq_true] at h1
    rcases h1 with h1 | h1 | h1 <;> (rw [eq_of_beq h1]; decide)
set_option maxRecDepth 100000 in
set_option maxHeartbeats 4000000 in
theorem FnRoleSum (a : Option Addr) (len cap : Nat) (w : World) (hB : Bytes w w.heap.size a len) (hc : len ≤ cap) (hm : cap ≤ maxLen) :
    Calls Try.prog 10 #[.slice a len cap] w (Yes w) := by
  by_cases hbig : 1048576 < len
  · have hbig' : (1048576 : Int) < (len : Int) := by omega
    clear hB
    go_enter Try.func10, Try.ntmps10
    go_wp2
    go_ret
    exact ⟨rfl, Below.refl _ _⟩
  have hbig' : ¬ (1048576 : Int) < (len : Int) := by omega
  go_enter Try.func10, Try.ntmps10
  go_wp2_with fail
  refine (drawPoM _ a len cap hB hc hm).mono ?_
  rintro e w1 ⟨b, n, c, R, b3, q, c3, z, role, rfl, hn, hq, ho, hz, hg⟩
  have hqc := (own_le hz).1
  have G := Lib.hid hg; have O := Lib.hid ho.str; have Z := Lib.hid hz
  clear hg ho hz hB
  go_wp2_with fail
  refine (ipmany _ _ n c R _ q c3 z role O.out Z.out.ints (by omega) (by omega)).mono ?_
  rintro e w' ⟨rfl, rfl⟩
  go_wp2_with fail
  refine (spmany _ _ n c R _ q c3 z role O.out Z.out.ints (by omega) (by omega) hqc).mono ?_
  rintro e w2 ⟨rfl, hg⟩
  have G2 := Lib.hid (gtr G.out hg); have O2 := Lib.hid (O.out.kept hg); have Z2 := Lib.hid (Z.out.keptN hg)
  clear hg G O Z
  have HP := Lib.hid (plF_zero (n := n) (R := R) (U := fun _ => ⟨noS, 0, 0⟩))
  go_wp2_with fail
  refine (spolok _ _ n c R none 0 0 (fun _ => ⟨noS, 0, 0⟩) O2.out (.inl rfl) (by omega) (by omega)).mono ?_
  rintro e w3 ⟨rfl, hg⟩
  have G3 := Lib.hid (gtr G2.out hg); have O3 := Lib.hid (O2.out.kept hg); have Z3 := Lib.hid (Z2.out.keptN hg)
  clear hg G2 O2 Z2
  rw [HP.out]
  cases hr : plR n R with
  | false =>
    clear hr
    go_wp2_with fail
    refine (spmany _ _ n c R _ q c3 z role O3.out Z3.out.ints (by omega) (by omega) hqc).mono ?_
    rintro e w4 ⟨rfl, hg⟩
    have G4 := Lib.hid (gtr G3.out hg)
    clear hg
    go_wp2
    go_ret
    exact ⟨by simp, below_of G4.out⟩
  | true =>
    have HM := Lib.hid (mnF_three (q := q) (z := z) hr)
    have h6 := (plR_iff.1 hr).1
    have HR := Lib.hid hr
    clear hr
    go_wp2
    go_loop [7, 8] (fun v i => ∃ j m : Nat, j ≤ n ∧ i = .int .i64 ((j : Int) + 1) ∧ v = .int .i64 m ∧ m ≤ j ∧ cn (fun i => hasz z ((i : Int) + 1) q) j = m) (fun _ i => n + 1 - (intOf i).toNat)
    case atStart => exact ⟨0, 0, by omega, rfl, rfl, by omega, rfl⟩
    case round =>
      obtain ⟨k, m, hk, rfl, rfl, hmk, hz⟩ := hrel
      have HC := Lib.hid hz; clear hz
      by_cases hlt : k < n
      · have hlt1 : (k : Int) + 1 ≤ (n : Int) := by omega
        cases hh : hasz z ((k : Int) + 1) q with
        | true =>
          have HN := Lib.hid (show cn (fun i => hasz z ((i : Int) + 1) q) (k + 1) = m + 1 by rw [cn_yes (p := fun i : Nat => hasz z ((i : Int) + 1) q) hh, HC.out])
          have HH := Lib.hid hh; clear hh
          go_wp2_with (go_at_call 27; refine (lpinP _ _ q c3 z _ Z3.out.ints (by omega)).mono ?_; rintro e w' ⟨rfl, rfl⟩; rw [HH.out])
          go_round
          case rel => exact ⟨k + 1, m + 1, by omega, by go_num, by go_num, by omega, HN.out⟩
          case measure => simp [intOf]; omega
        | false =>
          have HN := Lib.hid (show cn (fun i => hasz z ((i : Int) + 1) q) (k + 1) = m by rw [cn_no (p := fun i : Nat => hasz z ((i : Int) + 1) q) hh, HC.out])
          have HH := Lib.hid hh; clear hh
          go_wp2_with (go_at_call 27; refine (lpinP _ _ q c3 z _ Z3.out.ints (by omega)).mono ?_; rintro e w' ⟨rfl, rfl⟩; rw [HH.out])
          go_round
          case rel => exact ⟨k + 1, m, by omega, by go_num, rfl, by omega, HN.out⟩
          case measure => simp [intOf]; omega
      · obtain rfl : k = n := by omega
        have hlt1 : ¬ (k : Int) + 1 ≤ (k : Int) := by omega
        obtain ⟨pa, ha⟩ : ∃ m, mnF k R q z ⟨#[97]⟩ = m := ⟨_, rfl⟩
        obtain ⟨pb, hb⟩ : ∃ m, mnF k R q z ⟨#[98]⟩ = m := ⟨_, rfl⟩
        obtain ⟨pc, hcc⟩ : ∃ m, mnF k R q z ⟨#[99]⟩ = m := ⟨_, rfl⟩
        have hs : pa + pb + pc = m := by rw [← ha, ← hb, ← hcc, HM.out, HC.out]
        have HA := Lib.hid ha; have HB := Lib.hid hb; have HC3 := Lib.hid hcc; have HS := Lib.hid hs
        have ba : pa ≤ 6 := by rw [← ha]; exact Nat.le_trans mnF_le h6
        have bb : pb ≤ 6 := by rw [← hb]; exact Nat.le_trans mnF_le h6
        have bc : pc ≤ 6 := by rw [← hcc]; exact Nat.le_trans mnF_le h6
        clear ha hb hcc hs
        go_wp2_with fail
        refine (ipmany _ _ k c R _ q c3 z _ O3.out Z3.out.ints (by omega) (by omega)).mono ?_
        rintro e w' ⟨rfl, rfl⟩
        rw [pmF_all HR.out, HA.out]
        go_wp2_with fail
        refine (ipmany _ _ k c R _ q c3 z _ O3.out Z3.out.ints (by omega) (by omega)).mono ?_
        rintro e w' ⟨rfl, rfl⟩
        rw [pmF_all HR.out, HB.out]
        go_wp2_with fail
        refine (ipmany _ _ k c R _ q c3 z _ O3.out Z3.out.ints (by omega) (by omega)).mono ?_
        rintro e w' ⟨rfl, rfl⟩
        rw [pmF_all HR.out, HC3.out]
        go_wp2
        go_ret
        exact ⟨Mem.ret_b (by have := HS.out; simp; omega), below_of G3.out⟩
end Run
end Go.Proofs.Ythbigmcklacbnaa
