/-
  Policies: how many approve, and up to how much, as the program reckons.
-/
import Derived.Test.YthbigmcklacbnaaYb
namespace Go.Proofs.Ythbigmcklacbnaa
namespace Po
open Go.RowKit Alg Mem Con
set_option linter.unusedVariables false

theorem pmF_in {n : Nat} {R : Nat → ByteArray} {q : Nat} {z : Nat → Int} {role : ByteArray} (h1 : plR n R = true) (h2 : isR role = true) : pmF n R q z role = mnF n R q z role := if_pos ⟨h1, h2⟩
theorem pmF_out {n : Nat} {R : Nat → ByteArray} {q : Nat} {z : Nat → Int} {role : ByteArray} (h : ¬ (plR n R = true ∧ isR role = true)) : pmF n R q z role = 0 := if_neg h
theorem pmF_le {n : Nat} {R : Nat → ByteArray} {q : Nat} {z : Nat → Int} {role : ByteArray} : pmF n R q z role ≤ 6 := by
  by_cases h : plR n R = true ∧ isR role = true
  · rw [pmF_in h.1 h.2]
    have := plR_iff.1 h.1
    have h2 := mnF_le (n := n) (R := R) (q := q) (z := z) (role := role)
    omega
  · rw [pmF_out h]; omega
set_option maxHeartbeats 1000000 in
theorem ipmany (w : World) (a : Option Addr) (n c : Nat) (R : Nat → ByteArray) (aw : Option Addr) (q cw : Nat) (z : Nat → Int) (role : ByteArray) (hI : StrI w a n R) (hZ : Ints w aw q z) (hl : n ≤ 2000000) (hq : q ≤ 2000000) :
    Calls Try.prog 25 #[.slice a n c, .slice aw q cw, .string role] w fun e w' => e = .returned (.int .i64 (pmF n R q z role)) ∧ w = w' := by
  have HI := Lib.hid hI; have HZ := Lib.hid hZ; clear hI hZ
  cases hr : plR n R with
  | false =>
    have HR := Lib.hid hr; have HP := Lib.hid (show pmF n R q z role = 0 from pmF_out (by simp [hr])); clear hr
    go_enter Try.func25, Try.ntmps25
    go_wp2_with (go_at_call 61; refine (iroles _ a n c R HI.out hl).mono ?_; rintro e w' ⟨rfl, rfl⟩; rw [HR.out])
    go_ret
    exact ⟨Mem.ret_i (by rw [HP.out]; rfl), rfl⟩
  | true =>
    cases ho : isR role with
    | false =>
      have HR := Lib.hid hr; have HO := Lib.hid ho; have HP := Lib.hid (show pmF n R q z role = 0 from pmF_out (by simp [ho])); clear hr ho
      go_enter Try.func25, Try.ntmps25
      go_wp2_with (first | (go_at_call 61; refine (iroles _ a n c R HI.out hl).mono ?_; rintro e w' ⟨rfl, rfl⟩; rw [HR.out]) | (go_at_call 67; refine (irole _ _).mono ?_; rintro e w' ⟨rfl, rfl⟩; rw [HO.out]))
      go_ret
      exact ⟨Mem.ret_i (by rw [HP.out]; rfl), rfl⟩
    | true =>
      have HR := Lib.hid hr; have HO := Lib.hid ho; have HP := Lib.hid (show pmF n R q z role = mnF n R q z role from pmF_in hr ho)
      have h6 := (plR_iff.1 hr).1
      clear hr ho
      go_enter Try.func25, Try.ntmps25
      go_wp2_with (first | (go_at_call 61; refine (iroles _ a n c R HI.out hl).mono ?_; rintro e w' ⟨rfl, rfl⟩; rw [HR.out]) | (go_at_call 67; refine (irole _ _).mono ?_; rintro e w' ⟨rfl, rfl⟩; rw [HO.out]))
      go_loop [7, 20] (fun v i => ∃ k m : Nat, k ≤ n ∧ i = .int .i64 k ∧ v = .int .i64 m ∧ m ≤ k ∧ cn (mhit R z q role) k = m) (fun _ i => n - (intOf i).toNat)
      case atStart => exact ⟨0, 0, by omega, rfl, rfl, by omega, rfl⟩
      case round =>
        obtain ⟨k, m, hk, rfl, rfl, hmk, hz⟩ := hrel
        have HC := Lib.hid hz; clear hz
        by_cases hlt : k < n
        · obtain ⟨b, off, rfl, hb, hc⟩ := HI.out.ptr (by omega)
          have hcx := hc k hlt
          clear hc
          by_cases he : (R k).toList = role.toList
          · have hE : eqB (R k) role = true := by unfold eqB; simpa using he
            have HE := Lib.hid hE; clear hE
            cases hh : hasz z ((k : Int) + 1) q with
            | true =>
              have HN := Lib.hid (show cn (mhit R z q role) (k + 1) = m + 1 by rw [cn_yes (by unfold mhit; rw [HE.out, hh]; rfl), HC.out])
              have HH := Lib.hid hh; clear hh
              go_wp2_with (go_at_call 68; refine (contains_any _ aw q cw z _ HZ.out hq).mono ?_; rintro e w' ⟨rfl, rfl⟩; rw [HH.out])
              go_round
              case rel => exact ⟨k + 1, m + 1, by omega, by go_num, by go_num, by omega, HN.out⟩
              case measure => simp [intOf]; omega
            | false =>
              have HN := Lib.hid (show cn (mhit R z q role) (k + 1) = m by rw [cn_no (by unfold mhit; rw [HE.out, hh]; rfl), HC.out])
              have HH := Lib.hid hh; clear hh
              go_wp2_with (go_at_call 68; refine (contains_any _ aw q cw z _ HZ.out hq).mono ?_; rintro e w' ⟨rfl, rfl⟩; rw [HH.out])
              go_round
              case rel => exact ⟨k + 1, m, by omega, by go_num, rfl, by omega, HN.out⟩
              case measure => simp [intOf]; omega
          · have hE : eqB (R k) role = false := by unfold eqB; simpa using he
            have HN := Lib.hid (show cn (mhit R z q role) (k + 1) = m by rw [cn_no (by unfold mhit; rw [hE]; rfl), HC.out])
            clear hE
            go_wp2
            go_round
            case rel => exact ⟨k + 1, m, by omega, by go_num, rfl, by omega, HN.out⟩
            case measure => simp [intOf]; omega
        · obtain rfl : k = n := by omega
          go_wp2
          go_ret
          exact ⟨Mem.ret_i (by rw [HP.out, ← HC.out]; rfl), rfl⟩
/-- What a rule allows, as the program reckons. -/
def mvF (n : Nat) (R : Nat → ByteArray) (q : Nat) (z : Nat → Int) (u : RV) : Int := if u.many ≤ pmF n R q z u.r then u.most else -1
set_option maxRecDepth 100000 in
set_option maxHeartbeats 4000000 in
theorem imost (w : World) (a : Option Addr) (n c : Nat) (R : Nat → ByteArray) (aw : Option Addr) (q cw : Nat) (z : Nat → Int) (u : RV) (hI : StrI w a n R) (hZ : Ints w aw q z) (hl : n ≤ 2000000) (hq : q ≤ 2000000) :
    Calls Try.prog 74 #[.agg #[.slice a n c, .slice aw q cw], .agg #[.string u.r, .int .i64 u.many, .int .i64 u.most]] w fun e w' => e = .returned (.int .i64 (mvF n R q z u)) ∧ w.grownBy w' none := by
  obtain ⟨r, many, most⟩ := u
  dsimp only
  have G := Lib.hid (gtr (Draw.grown_alloc w (.cells #[.slice a n c, .slice aw q cw] 97) none) (Draw.grown_alloc _ (.cells #[.string r, .int .i64 many, .int .i64 most] 39) none))
  have A := Lib.hid ((Blk.new w #[.slice a n c, .slice aw q cw] 97).keptN (Draw.grown_alloc _ (.cells #[.string r, .int .i64 many, .int .i64 most] 39) none))
  have B := Lib.hid (blk_new2 w (.cells #[.slice a n c, .slice aw q cw] 97) #[.string r, .int .i64 many, .int .i64 most] 39)
  have I := Lib.hid (hI.kept G.out); have Z := Lib.hid (hZ.kept G.out)
  clear hI hZ
  have HM := Lib.hid (pmF_le (n := n) (R := R) (q := q) (z := z) (role := r))
  obtain ⟨pm, hpm⟩ : ∃ pm, pmF n R q z r = pm := ⟨_, rfl⟩
  have HP := Lib.hid hpm; clear hpm
  go_enter Try.func74, Try.ntmps74
  go_wp2_with fail
  refine wp_region_held_drew (S := (fun w' => w'.cell? ⟨w.heap.size, 0, none⟩ = some (.slice a n c) ∧ w'.cell? ⟨w.heap.size, 1, none⟩ = some (.slice aw q cw) ∧ w'.cell? ⟨w.heap.size + 1, 0, none⟩ = some (.string r) ∧ w'.cell? ⟨w.heap.size + 1, 1, none⟩ = some (.int .i64 many))) (by kernel_rfl) (⟨A.out.cell 0, A.out.cell 1, B.out.cell 0, B.out.cell 1⟩) (fun hHeld => ?_)
  have hg := gdr ((w.alloc (.cells #[.slice a n c, .slice aw q cw] 97)).alloc (.cells #[.string r, .int .i64 many, .int .i64 most] 39))
  replace G := Lib.hid (gtr G.out hg)
  replace A := Lib.hid (A.out.keptN hg)
  replace B := Lib.hid (B.out.keptN hg)
  replace I := Lib.hid (I.out.kept hg)
  replace Z := Lib.hid (Z.out.kept hg)
  clear hg
  generalize ((w.alloc (.cells #[.slice a n c, .slice aw q cw] 97)).alloc (.cells #[.string r, .int .i64 many, .int .i64 most] 39)).drew = w1 at *
  refine wpAnyH_take (i := 0) (oi := ⟨some 5, _, _, _, _, _⟩) (v := ?_) rfl (by kernel_rfl) (by kernel_rfl) (by kernel_rfl) (fun _ _ _ h => h) (Or.inl ⟨by rfl, ?_⟩) (by assumption) ?_
  rotate_left
  · intro w hSw; (try dsimp only at hSw); go_simp; try with_reducible rfl
  simp only [Act.put, List.setIfInBounds_toArray, List.set_cons_zero, List.set_cons_succ]
  refine wpAnyH_take (i := 1) (oi := ⟨some 6, _, _, _, _, _⟩) (v := ?_) rfl (by kernel_rfl) (by kernel_rfl) (by kernel_rfl) (fun _ _ _ h => h) (Or.inl ⟨by rfl, ?_⟩) (by assumption) ?_
  rotate_left
  · intro w hSw; (try dsimp only at hSw); go_simp; try with_reducible rfl
  simp only [Act.put, List.setIfInBounds_toArray, List.set_cons_zero, List.set_cons_succ]
  refine wpAnyH_take (i := 2) (oi := ⟨some 7, _, _, _, _, _⟩) (v := ?_) rfl (by kernel_rfl) (by kernel_rfl) (by kernel_rfl) (fun _ _ _ h => h) (Or.inl ⟨by rfl, ?_⟩) (by assumption) ?_
  rotate_left
  · intro w hSw; (try dsimp only at hSw); go_simp; try with_reducible rfl
  simp only [Act.put, List.setIfInBounds_toArray, List.set_cons_zero, List.set_cons_succ]
  refine wpAnyH_take (i := 3) (oi := ⟨some 8, _, _, _, _, _⟩) (v := ?_) rfl (by kernel_rfl) (by kernel_rfl) (by kernel_rfl) (fun _ _ _ h => h) (Or.inl ⟨by rfl, ?_⟩) (by assumption) ?_
  rotate_left
  · intro w hSw; (try dsimp only at hSw); go_simp; try with_reducible rfl
  simp only [Act.put, List.setIfInBounds_toArray, List.set_cons_zero, List.set_cons_succ]
  refine wpAnyH_take (i := 4) (oi := ⟨some 9, _, _, _, _, _⟩) (v := ?_) rfl (by kernel_rfl) (by kernel_rfl) (by kernel_rfl) (fun _ _ _ h => h) (Or.inl ⟨by rfl, ?_⟩) (by assumption) ?_
  rotate_left
  · intro w hSw; (try dsimp only at hSw); go_simp; try with_reducible rfl
  simp only [Act.put, List.setIfInBounds_toArray, List.set_cons_zero, List.set_cons_succ]
  refine wpAnyH_take (i := 5) (oi := ⟨some 10, _, _, _, _, _⟩) (v := ?_) rfl (by kernel_rfl) (by kernel_rfl) (by kernel_rfl) (fun _ _ _ h => h) (Or.inl ⟨by rfl, ?_⟩) (by assumption) ?_
  rotate_left
  · intro w hSw; (try dsimp only at hSw); go_simp; try with_reducible rfl
  simp only [Act.put, List.setIfInBounds_toArray, List.set_cons_zero, List.set_cons_succ]
  refine wpAnyH_take (i := 7) (oi := ⟨some 12, _, _, _, _, _⟩) (v := ?_) rfl (by kernel_rfl) (by kernel_rfl) (by kernel_rfl) (fun _ _ _ h => h) (Or.inl ⟨by rfl, ?_⟩) (by assumption) ?_
  rotate_left
  · intro w hSw; (try dsimp only at hSw); go_simp; try with_reducible rfl
  simp only [Act.put, List.setIfInBounds_toArray, List.set_cons_zero, List.set_cons_succ]
  refine wpAnyH_take (i := 8) (oi := ⟨some 13, _, _, _, _, _⟩) (v := ?_) rfl (by kernel_rfl) (by kernel_rfl) (by kernel_rfl) (fun _ _ _ h => h) (Or.inl ⟨by rfl, ?_⟩) (by assumption) ?_
  rotate_left
  · intro w hSw; (try dsimp only at hSw); go_simp; try with_reducible rfl
  simp only [Act.put, List.setIfInBounds_toArray, List.set_cons_zero, List.set_cons_succ]
  refine wpAnyH_ready (rs := [6]) (by kernel_rfl) (by simp) ?_
  refine AllReadyH.cons (o := ⟨some 11, _, _, _, _, _⟩) rfl (fun Kq hKq => ?_) AllReadyH.nil
  go_simp
  go_at_call 25
  refine (ipmany _ a n c R aw q cw z r I.out Z.out hl hq).mono ?_
  rintro e w' ⟨rfl, rfl⟩
  rw [HP.out]
  refine hKq.out _ _ (⟨A.out.cell 0, A.out.cell 1, B.out.cell 0, B.out.cell 1⟩) (fun hHeld => ?_)
  clear hKq Kq
  refine wpAnyH_take (i := 9) (oi := ⟨some 14, _, _, _, _, _⟩) (v := ?_) rfl (by kernel_rfl) (by kernel_rfl) (by kernel_rfl) (fun _ _ _ h => h) (Or.inl ⟨by rfl, ?_⟩) (by assumption) ?_
  rotate_left
  · intro w hSw; (try dsimp only at hSw); go_simp; try with_reducible rfl
  simp only [Act.put, List.setIfInBounds_toArray, List.set_cons_zero, List.set_cons_succ]
  refine wpAnyH_done (by kernel_rfl) ?_ _
  have b2 : World.cell? _ ⟨w.heap.size + 1, 2, none⟩ = some (.int .i64 most) := B.out.cell 2
  by_cases h : many ≤ (pm : Int)
  · have h' : ¬ (pm : Int) < many := by omega
    have HV := Lib.hid (show mvF n R q z ⟨r, many, most⟩ = most by unfold mvF; dsimp only; rw [HP.out]; exact if_pos h)
    go_wp2
    go_ret
    exact ⟨Mem.ret_i HV.out.symm, G.out⟩
  · have h' : (pm : Int) < many := by omega
    have HV := Lib.hid (show mvF n R q z ⟨r, many, most⟩ = -1 by unfold mvF; dsimp only; rw [HP.out]; exact if_neg h)
    go_wp2
    go_ret
    exact ⟨Mem.ret_i HV.out.symm, G.out⟩
set_option maxHeartbeats 1000000 in
theorem imostOf (w : World) (a : Option Addr) (n c : Nat) (R : Nat → ByteArray) (au : Option Addr) (m cu : Nat) (U : Nat → RV) (aw : Option Addr) (q cw : Nat) (z : Nat → Int) (hI : StrI w a n R) (hU : RuI w au m U) (hZ : Ints w aw q z) (hl : n ≤ 2000000) (hm : m ≤ 2000000) (hq : q ≤ 2000000) :
    Calls Try.prog 73 #[.slice au m cu, .func (.func 74) #[.agg #[.slice a n c, .slice aw q cw]] #[]] w fun e w' => e = .returned (.int .i64 (mx (fun j => mvF n R q z (U j)) m)) ∧ w.grownBy w' none := by
  have I := Lib.hid hI; have HU := Lib.hid hU; have Z := Lib.hid hZ; clear hI hU hZ
  obtain ⟨v, hv⟩ : ∃ v : Nat → Int, v = fun j => mvF n R q z (U j) := ⟨_, rfl⟩
  rw [← hv]
  have HV := Lib.hid hv; clear hv
  go_enter Try.func73, Try.ntmps73
  go_wp2
  go_loopw [5, 10] (fun t i wr => ∃ (k : Nat) (x : Int), k ≤ m ∧ i = .int .i64 k ∧ t = .int .i64 x ∧ mx v k = x ∧ w.grownBy wr none) (fun _ i _ => m - (intOf i).toNat)
  case atStart => exact ⟨0, -1, by omega, rfl, rfl, rfl, Draw.grown_refl _ _⟩
  case round =>
    obtain ⟨k, x, hk, rfl, rfl, hx, hg⟩ := hrel
    have HX := Lib.hid hx; have G := Lib.hid hg
    clear hx hg
    by_cases hlt : k < m
    · obtain ⟨b, off, rfl, hb, hc⟩ := (HU.out.kept G.out).ptr (by omega)
      obtain ⟨c0, c1, c2⟩ := hc k hlt
      clear hc
      obtain ⟨y, hy⟩ : ∃ y, v k = y := ⟨_, rfl⟩
      have HY := Lib.hid (show mvF n R q z (U k) = y by rw [← hy, HV.out])
      have HN := Lib.hid (show mx v (k + 1) = max x y by rw [mx, HX.out, hy])
      clear hy
      obtain ⟨ru, hu⟩ : ∃ u, U k = u := ⟨_, rfl⟩
      rw [hu] at c0 c1 c2
      have HW := Lib.hid hu; clear hu
      go_wp2_with (go_at_call 74; refine (imost _ a n c R aw q cw z ru ((I.out.kept G.out).kept (Draw.grown_alloc _ _ _)) ((Z.out.kept G.out).kept (Draw.grown_alloc _ _ _)) hl hq).mono ?_; rintro e w2 ⟨rfl, hg2⟩; rw [show mvF n R q z ru = y by rw [← HW.out]; exact HY.out]; have G2 := Lib.hid (gtr (gtr G.out (Draw.grown_alloc _ _ none)) hg2); clear hg2)
      go_roundw
      case rel => exact ⟨k + 1, max x y, by omega, by go_num, by go_num, HN.out, G2.out⟩
      case measure => simp [intOf]; omega
    · obtain rfl : k = m := by omega
      go_wp2
      go_ret
      exact ⟨Mem.ret_i HX.out.symm, G.out⟩
theorem psF_mv {n : Nat} {R : Nat → ByteArray} {m : Nat} {U : Nat → RV} {q : Nat} {z : Nat → Int} (h : plF n R m U = true) : psF n R m U q z = mx (fun j => mvF n R q z (U j)) m := by
  rw [psF, if_pos h]
  obtain ⟨h1, _, h2⟩ := plF_iff.1 h
  refine mx_congr fun j hj => ?_
  unfold vlF mvF
  rw [pmF_in h1 (ruE_iff.1 (h2 j hj)).1]
theorem ipmost (w : World) (a : Option Addr) (n c : Nat) (R : Nat → ByteArray) (au : Option Addr) (m cu : Nat) (U : Nat → RV) (aw : Option Addr) (q cw : Nat) (z : Nat → Int) (hI : StrI w a n R) (hU : RuI w au m U) (hZ : Ints w aw q z) (hl : n ≤ 2000000) (hm : m ≤ 2000000) (hq : q ≤ 2000000) :
    Calls Try.prog 32 #[.slice a n c, .slice au m cu, .slice aw q cw] w fun e w' => e = .returned (.int .i64 (psF n R m U q z)) ∧ w.grownBy w' none := by
  have I := Lib.hid hI; have HU := Lib.hid hU; have Z := Lib.hid hZ; clear hI hU hZ
  go_enter Try.func32, Try.ntmps32
  go_wp2_with fail
  refine (ipolok _ a n c R au m cu U I.out HU.out hl hm).mono ?_
  rintro e w1 ⟨rfl, hg⟩
  have G := Lib.hid hg; clear hg
  cases hp : plF n R m U with
  | false =>
    have HP := Lib.hid (show psF n R m U q z = -1 by unfold psF; rw [hp]; rfl); clear hp
    go_wp2
    go_ret
    exact ⟨Mem.ret_i HP.out.symm, G.out⟩
  | true =>
    have HP := Lib.hid (psF_mv (q := q) (z := z) hp); clear hp
    go_wp2_with fail
    refine (imostOf _ a n c R au m cu U aw q cw z (I.out.kept G.out) (HU.out.kept G.out) (Z.out.kept G.out) hl hm hq).mono ?_
    rintro e w2 ⟨rfl, hg⟩
    have G2 := Lib.hid (gtr G.out hg); clear hg
    rw [← HP.out]
    go_wp2
    go_ret
    exact ⟨rfl, G2.out⟩
theorem ipmay (w : World) (a : Option Addr) (n c : Nat) (R : Nat → ByteArray) (au : Option Addr) (m cu : Nat) (U : Nat → RV) (aw : Option Addr) (q cw : Nat) (z : Nat → Int) (amount : Int) (hI : StrI w a n R) (hU : RuI w au m U) (hZ : Ints w aw q z) (hl : n ≤ 2000000) (hm : m ≤ 2000000) (hq : q ≤ 2000000) :
    Calls Try.prog 29 #[.slice a n c, .slice au m cu, .slice aw q cw, .int .i64 amount] w fun e w' => e = .returned (.bool (myF n R m U q z amount)) ∧ w.grownBy w' none := by
  have I := Lib.hid hI; have HU := Lib.hid hU; have Z := Lib.hid hZ; clear hI hU hZ
  go_enter Try.func29, Try.ntmps29
  go_wp2_with fail
  refine (iamount _ _).mono ?_
  rintro e w' ⟨rfl, rfl⟩
  cases ha : amF amount with
  | false =>
    have HP := Lib.hid (show myF n R m U q z amount = false by unfold myF; rw [decide_eq_false (fun h => of_decide_eq_false ha ⟨h.1, h.2.1⟩)]; simp); clear ha
    go_wp2
    go_ret
    exact ⟨Mem.ret_b HP.out.symm, Draw.grown_refl _ _⟩
  | true =>
    have h9 : 0 ≤ amount ∧ amount ≤ 99 := of_decide_eq_true ha
    have H9 := Lib.hid h9; clear h9 ha
    go_wp2_with fail
    refine (ipmost _ a n c R au m cu U aw q cw z I.out HU.out Z.out hl hm hq).mono ?_
    rintro e w2 ⟨rfl, hg⟩
    have G := Lib.hid hg; clear hg
    by_cases hle : amount ≤ psF n R m U q z
    · have HP := Lib.hid (show myF n R m U q z amount = true by
        unfold myF
        rw [decide_eq_true ⟨H9.out.1, H9.out.2, hle⟩, Bool.and_true]
        cases hp : plF n R m U with
        | true => rfl
        | false => unfold psF at hle; rw [hp] at hle; have := H9.out.1; simp at hle; omega)
      go_wp2
      go_ret
      exact ⟨Mem.ret_b (by first | exact HP.out.symm | (rw [HP.out]; simp [hle])), G.out⟩
    · have HP := Lib.hid (show myF n R m U q z amount = false by unfold myF; rw [decide_eq_false (fun h => hle h.2.2)]; simp)
      go_wp2
      go_ret
      exact ⟨Mem.ret_b (by first | exact HP.out.symm | (rw [HP.out]; simp [hle])), G.out⟩
end Po
end Go.Proofs.Ythbigmcklacbnaa
