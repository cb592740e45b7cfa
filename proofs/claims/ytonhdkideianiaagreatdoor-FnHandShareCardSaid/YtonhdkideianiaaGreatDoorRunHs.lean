/-
  The walk of the law on a share handed on.
-/
import Derived.Test.YtonhdkideianiaaGreatDoorHy
import Derived.Test.YtonhdkideianiaaGreatDoorHt
import Derived.Deep.AppendLies
namespace Go.Proofs.YtonhdkideianiaaGreatDoor
namespace Run
open Go.RowKit Alg Mem Con Mp Draw
set_option linter.unusedVariables false

set_option maxRecDepth 100000 in
set_option maxHeartbeats 3000000 in
theorem FnHandShare (a : Option Addr) (len cap : Nat) (w : World) (hB : Draw.Bytes w w.heap.size a len) (hc : len ≤ cap) (hm : cap ≤ maxLen) (ad0 : Addr) (hv : Sent w ad0) :
    Calls Tryz.prog 3 #[.slice a len cap] w (Yes w) := by
  by_cases hbig : 1048576 < len
  · have hbig' : (1048576 : Int) < (len : Int) := by omega
    clear hB
    go_enter Tryz.func3, Tryz.ntmps3
    go_wp2
    go_ret
    exact ⟨rfl, Below.refl _ _⟩
  have hbig' : ¬ (1048576 : Int) < (len : Int) := by omega
  obtain ⟨i0, hi, hz0, hz1, hz2⟩ := info_parts info_int
  have HV := Lib.hid hv; clear hv
  go_enter Tryz.func3, Tryz.ntmps3
  go_wp2_with fail
  refine (drawHandS _ a len cap hB hc hm).mono ?_
  rintro e w1 ⟨need, many, ag, ng, cg, zg, ac, nc, cc, zc, ad, nd, cd, D, n, m, mem, rfl, b1, b2, b3, b4, i1, i2, i3, hg⟩
  have G := Lib.hid (gtr hg (Draw.grown_alloc w1 (.cells #[.int .i64 need, .int .i64 many, .slice ag ng cg, .slice ac nc cc] 25) none))
  have K := Lib.hid (Ky.new w1 need many (.slice ag ng cg) (.slice ac nc cc) 25)
  have g1 := Draw.grown_alloc w1 (.cells #[.int .i64 need, .int .i64 many, .slice ag ng cg, .slice ac nc cc] 25) none
  have I1 := Lib.hid (i1.kept g1); have I2 := Lib.hid (i2.kept g1); have DI := Lib.hid (i3.kept g1)
  replace HV := Lib.hid (HV.out.kept G.out)
  have hw1 := hg.size
  have B4 := Lib.hid b4
  clear i1 i2 i3 g1 hg hB b4
  obtain ⟨_, k0, k1, k2, k3⟩ := K.out
  go_wp2_with fail
  refine (shandshare _ need many _ ng _ zg _ nc _ zc _ nd _ D n m mem I1.out I2.out DI.out (by omega) (by omega) (by omega) (fun j hj => by have := B4.out j hj; omega)).mono ?_
  rintro e w2 ⟨rfl, hg⟩
  rw [hsV_eq]
  clear k0 k1 k2 k3
  replace G := Lib.hid (gtr G.out hg)
  replace K := Lib.hid (K.out.kept hg)
  replace I1 := Lib.hid (I1.out.kept hg)
  replace I2 := Lib.hid (I2.out.kept hg)
  replace DI := Lib.hid (DI.out.kept hg)
  replace HV := Lib.hid (HV.out.kept hg)
  clear hg
  obtain ⟨_, k0, k1, k2, k3⟩ := K.out
  have hg := Draw.grown_alloc w2 (.cells #[.int .i64 (hfM need many ng zg nc zc D n m nd mem), .int .i64 (hfS need many ng zg nc zc D n m nd mem)] 30) none
  have Z := Lib.hid (Blk.new w2 #[.int .i64 (hfM need many ng zg nc zc D n m nd mem), .int .i64 (hfS need many ng zg nc zc D n m nd mem)] 30)
  clear k0 k1 k2 k3
  replace G := Lib.hid (gtr G.out hg)
  replace K := Lib.hid (K.out.kept hg)
  replace I1 := Lib.hid (I1.out.kept hg)
  replace I2 := Lib.hid (I2.out.kept hg)
  replace DI := Lib.hid (DI.out.kept hg)
  replace HV := Lib.hid (HV.out.kept hg)
  clear hg
  obtain ⟨_, k0, k1, k2, k3⟩ := K.out
  have hlZ := Z.out.lt
  go_wp2_with fail
  refine (ihandshare _ need many _ ng _ zg _ nc _ zc _ nd _ D n m mem I1.out I2.out DI.out (by omega) (by omega) (by omega) (fun j hj => by have := B4.out j hj; omega) ad0 HV.out).mono ?_
  rintro e w3 ⟨rfl, hg⟩
  rw [hsV_eq]
  clear hlZ
  clear k0 k1 k2 k3
  replace G := Lib.hid (gtr G.out hg)
  replace K := Lib.hid (K.out.kept hg)
  replace I1 := Lib.hid (I1.out.kept hg)
  replace I2 := Lib.hid (I2.out.kept hg)
  replace DI := Lib.hid (DI.out.kept hg)
  replace HV := Lib.hid (HV.out.kept hg)
  replace Z := Lib.hid (Z.out.keptN hg)
  clear hg
  obtain ⟨_, k0, k1, k2, k3⟩ := K.out
  have hg := Draw.grown_alloc w3 (.cells #[.int .i64 (hfM need many ng zg nc zc D n m nd mem), .int .i64 (hfS need many ng zg nc zc D n m nd mem)] 30) none
  have Q := Lib.hid (Blk.new w3 #[.int .i64 (hfM need many ng zg nc zc D n m nd mem), .int .i64 (hfS need many ng zg nc zc D n m nd mem)] 30)
  clear k0 k1 k2 k3
  replace G := Lib.hid (gtr G.out hg)
  replace K := Lib.hid (K.out.kept hg)
  replace I1 := Lib.hid (I1.out.kept hg)
  replace I2 := Lib.hid (I2.out.kept hg)
  replace DI := Lib.hid (DI.out.kept hg)
  replace HV := Lib.hid (HV.out.kept hg)
  replace Z := Lib.hid (Z.out.keptN hg)
  clear hg
  obtain ⟨_, k0, k1, k2, k3⟩ := K.out
  generalize hhM : hfM need many ng zg nc zc D n m nd mem = hM at *
  generalize hhS : hfS need many ng zg nc zc D n m nd mem = hS at *
  have HHM := Lib.hid hhM; have HHS := Lib.hid hhS; clear hhM hhS
  have z0 : World.cell? _ ⟨w2.heap.size, 0, none⟩ = some (.int .i64 hM) := Z.out.cell 0
  have z1 : World.cell? _ ⟨w2.heap.size, 1, none⟩ = some (.int .i64 hS) := Z.out.cell 1
  have q0 : World.cell? _ ⟨w3.heap.size, 0, none⟩ = some (.int .i64 hM) := Q.out.cell 0
  have q1 : World.cell? _ ⟨w3.heap.size, 1, none⟩ = some (.int .i64 hS) := Q.out.cell 1
  have hlZ := Z.out.lt; have hlQ := Q.out.lt
  cases hb : hfB need many ng zg nc zc D n m nd mem with
  | false =>
    go_wp2
    go_ret
    exact ⟨rfl, Draw.below_of G.out⟩
  | true =>
    have hb2 := hb
    unfold hfB at hb2
    rw [Bool.and_eq_true] at hb2
    have hbb := hsB_iff.1 hb2.1
    have hmm := mb_iff.1 hb2.2
    have HKY := Lib.hid hbb.1; have HDS := Lib.hid hbb.2.2.1; have HLE := Lib.hid hbb.2.2.2
    have hn1 := (ky_iff.1 hbb.1).1.1
    have hm5 := (crew_iff.1 hbb.2.1).2.2
    have hMe : hM = mem := by rw [← HHM.out]; unfold hfM; rw [if_pos hb]
    have HSe := Lib.hid (show hS = hsM D (hsel need many ng zg nc zc D n m nd) mem (hsel need many ng zg nc zc D n m nd).length by rw [← HHS.out]; unfold hfS; rw [if_pos hb])
    subst hMe
    clear hb hb2 hbb HHM HHS
    obtain ⟨mn, hmn⟩ : ∃ mn : Nat, hM - 1 = mn := ⟨(hM - 1).toNat, by omega⟩
    have hwk : (hM - 1).toNat = mn := by omega
    have HSM := Lib.hid (show ∀ k t, hsM D (hsel need many ng zg nc zc D n m k) hM (t + 1) = sumF (hsM D (hsel need many ng zg nc zc D n m k) hM t) (mulF (hsL D (hsel need many ng zg nc zc D n m k) t) ((D (at0 (hsel need many ng zg nc zc D n m k) t)).z2 mn)) from fun k t => by rw [← hwk]; rfl)
    clear hwk
    clear k0 k1 k2 k3
    clear Z
    have e0 : ((w3.alloc (.cells #[.int .i64 hM, .int .i64 hS] 30))).heap.size = w3.heap.size + 1 := by show (w3.heap.push _).size = _; simp
    have hLO : ((w3.alloc (.cells #[.int .i64 hM, .int .i64 hS] 30))).heap.size ≤ w3.heap.size + 1 := Nat.le_of_eq e0
    have o0 := own_empty (w3.alloc (.cells #[.int .i64 hM, .int .i64 hS] 30)) 3 1
    have e1 : (((w3.alloc (.cells #[.int .i64 hM, .int .i64 hS] 30))).alloc (.cells #[] 3)).heap.size = w3.heap.size + 1 + 1 := by show ((w3.heap.push _).push _).size = _; simp
    have p0 := own_lo (own_empty (((w3.alloc (.cells #[.int .i64 hM, .int .i64 hS] 30))).alloc (.cells #[] 3)) 3 1) (Draw.grown_alloc (w3.alloc (.cells #[.int .i64 hM, .int .i64 hS] 30)) _ none).size
    have gp0 := Draw.grown_alloc (((w3.alloc (.cells #[.int .i64 hM, .int .i64 hS] 30))).alloc (.cells #[] 3)) (.cells #[] 3) none
    have CG0 := Lib.hid (gtr (Draw.grown_alloc (w3.alloc (.cells #[.int .i64 hM, .int .i64 hS] 30)) (.cells #[] 3) none) gp0)
    rw [e1, e0] at p0
    rw [e0] at o0
    have OP0 := Lib.hid (o0.kept gp0 (by right; intro e; cases e)); have OQ0 := Lib.hid p0
    clear o0 p0 gp0 e1 e0
    have K0 := K; have I10 := I1; have I20 := I2; have DI0 := DI; have HV0 := HV; have Q0 := Q; have G0 := G
    go_wp2
    go_loopw [12, 13, 14] (fun p q i W => ∃ (k gp cp gq cq : Nat), k ≤ nd ∧ i = .int .i64 k ∧ p = .slice (some ⟨gp, 0, none⟩) (hsel need many ng zg nc zc D n m k).length cp ∧ q = .slice (some ⟨gq, 0, none⟩) (hsel need many ng zg nc zc D n m k).length cq ∧ gp ≠ gq ∧ W.ownsRow (w3.heap.size + 1) 3 1 p (hsel need many ng zg nc zc D n m k).length (vals (hsP D (hsel need many ng zg nc zc D n m k)) (hsel need many ng zg nc zc D n m k).length) ∧ W.ownsRow (w3.heap.size + 1) 3 1 q (hsel need many ng zg nc zc D n m k).length (vals (fun i => (D (at0 (hsel need many ng zg nc zc D n m k) i)).z2 mn) (hsel need many ng zg nc zc D n m k).length) ∧ ((w3.alloc (.cells #[.int .i64 hM, .int .i64 hS] 30))).grownBy W none) (fun _ _ i _ => nd - (intOf i).toNat)
    case atStart => exact ⟨0, (w3.heap.size + 1), 0, (w3.heap.size + 1) + 1, 0, by omega, rfl, rfl, rfl, by omega, OP0.out, OQ0.out, CG0.out⟩
    case round =>
      obtain ⟨k, gp, cp, gq, cq, hk, rfl, rfl, rfl, hne, hP, hQ, hg⟩ := hrel
      clear K I1 I2 DI HV Q G CG0 OP0 OQ0 z0 z1 q0 q1
      have CG := Lib.hid hg; have OP := Lib.hid hP; have OQ := Lib.hid hQ
      have K := Lib.hid (K0.out.kept hg); have I1 := Lib.hid (I10.out.kept hg); have I2 := Lib.hid (I20.out.kept hg); have DI := Lib.hid (DI0.out.kept hg); have HV := Lib.hid (HV0.out.kept hg)
      have hpl := (hP.lt gp rfl); have hql := (hQ.lt gq rfl)
      have hwC : w3.heap.size + 1 ≤ wr.heap.size := by have := hpl; omega
      clear hg hP hQ
      generalize hSL : (hsel need many ng zg nc zc D n m k).length = sl at *
      have HSLe := Lib.hid hSL; clear hSL
      by_cases hlt : k < nd
      · by_cases hm : (sl : Int) < need
        · skip
          have hlt' : (k : Int) < (nd : Int) := by omega
          have hk0 : (0 : Int) ≤ (k : Int) := by omega
          rcases DI0.out with h | ⟨b, off, had, hb, hcc⟩
          · omega
          obtain ⟨_, hr⟩ := hcc k hlt
          clear hcc
          have HR0 := Lib.hid hr; have HR := Lib.hid (hr.kept CG.out); clear hr
          subst had
          have HDC := Lib.hid (show ∀ W : World, DealsIn W (some ⟨b, off, none⟩) nd D → W.cell? ⟨b, off + k * 3, none⟩ = some (.int .i64 (D k).f) ∧ W.cell? ⟨b, off + k * 3 + 1, none⟩ = some (.slice (D k).a1 (D k).n1 (D k).c1) ∧ W.cell? ⟨b, off + k * 3 + 2, none⟩ = some (.slice (D k).a2 (D k).n2 (D k).c2) from fun W hD => by
            rcases hD with h | ⟨b', off', had, hb, hcc⟩
            · omega
            · injection had with had; injection had with h1 h2; subst h1; subst h2
              exact (hcc k hlt).1)
          have k0 := K.out.c0
          go_wp2_with fail
          clear k0
          refine wp_region_held_drew (S := (fun w' => w'.cell? ⟨w1.heap.size, 0, none⟩ = some (.int .i64 (need : Int)) ∧ w'.cell? ⟨w1.heap.size, 1, none⟩ = some (.int .i64 (many : Int)) ∧ w'.cell? ⟨w1.heap.size, 2, none⟩ = some (.slice ag ng cg) ∧ w'.cell? ⟨w1.heap.size, 3, none⟩ = some (.slice ac nc cc) ∧ w'.cell? ⟨b, off + k * 3, none⟩ = some (.int .i64 (D k).f) ∧ w'.cell? ⟨b, off + k * 3 + 1, none⟩ = some (.slice (D k).a1 (D k).n1 (D k).c1) ∧ w'.cell? ⟨b, off + k * 3 + 2, none⟩ = some (.slice (D k).a2 (D k).n2 (D k).c2))) (by kernel_rfl) (⟨K.out.c0, K.out.c1, K.out.c2, K.out.c3, (HDC.out wr DI.out).1, (HDC.out wr DI.out).2.1, (HDC.out wr DI.out).2.2⟩) (fun hHeld => ?_)
          have hg := gdrew wr
          replace CG := Lib.hid (gtr CG.out hg)
          replace K := Lib.hid (K0.out.kept CG.out)
          replace I1 := Lib.hid (I10.out.kept CG.out)
          replace I2 := Lib.hid (I20.out.kept CG.out)
          replace DI := Lib.hid (DI0.out.kept CG.out)
          replace HV := Lib.hid (HV0.out.kept CG.out)
          replace OP := Lib.hid (OP.out.kept hg (own_dis _))
          replace OQ := Lib.hid (OQ.out.kept hg (own_dis _))
          replace HR := Lib.hid (HR0.out.kept CG.out)
          clear hg
          generalize wr.drew = W at *
          refine wpAnyH_take (i := 0) (oi := ⟨some 82, _, _, _, _, _⟩) (v := ?_) rfl (by kernel_rfl) (by kernel_rfl) (by kernel_rfl) (fun _ _ _ h => h) (Or.inl ⟨by rfl, ?_⟩) (by assumption) ?_
          rotate_left
          · intro w hSw; (try dsimp only at hSw); go_simp; try with_reducible rfl
          simp only [Act.put, List.setIfInBounds_toArray, List.set_cons_zero, List.set_cons_succ]
          refine wpAnyH_take (i := 1) (oi := ⟨some 83, _, _, _, _, _⟩) (v := ?_) rfl (by kernel_rfl) (by kernel_rfl) (by kernel_rfl) (fun _ _ _ h => h) (Or.inl ⟨by rfl, ?_⟩) (by assumption) ?_
          rotate_left
          · intro w hSw; (try dsimp only at hSw); go_simp; try with_reducible rfl
          simp only [Act.put, List.setIfInBounds_toArray, List.set_cons_zero, List.set_cons_succ]
          refine wpAnyH_take (i := 2) (oi := ⟨some 84, _, _, _, _, _⟩) (v := ?_) rfl (by kernel_rfl) (by kernel_rfl) (by kernel_rfl) (fun _ _ _ h => h) (Or.inl ⟨by rfl, ?_⟩) (by assumption) ?_
          rotate_left
          · intro w hSw; (try dsimp only at hSw); go_simp; try with_reducible rfl
          simp only [Act.put, List.setIfInBounds_toArray, List.set_cons_zero, List.set_cons_succ]
          refine wpAnyH_take (i := 3) (oi := ⟨some 85, _, _, _, _, _⟩) (v := ?_) rfl (by kernel_rfl) (by kernel_rfl) (by kernel_rfl) (fun _ _ _ h => h) (Or.inl ⟨by rfl, ?_⟩) (by assumption) ?_
          rotate_left
          · intro w hSw; (try dsimp only at hSw); go_simp; try with_reducible rfl
          simp only [Act.put, List.setIfInBounds_toArray, List.set_cons_zero, List.set_cons_succ]
          refine wpAnyH_take (i := 4) (oi := ⟨some 86, _, _, _, _, _⟩) (v := ?_) rfl (by kernel_rfl) (by kernel_rfl) (by kernel_rfl) (fun _ _ _ h => h) (Or.inl ⟨by rfl, ?_⟩) (by assumption) ?_
          rotate_left
          · intro w hSw; (try dsimp only at hSw); go_simp; try with_reducible rfl
          simp only [Act.put, List.setIfInBounds_toArray, List.set_cons_zero, List.set_cons_succ]
          refine wpAnyH_take (i := 5) (oi := ⟨some 87, _, _, _, _, _⟩) (v := ?_) rfl (by kernel_rfl) (by kernel_rfl) (by kernel_rfl) (fun _ _ _ h => h) (Or.inl ⟨by rfl, ?_⟩) (by assumption) ?_
          rotate_left
          · intro w hSw; (try dsimp only at hSw); go_simp; try with_reducible rfl
          simp only [Act.put, List.setIfInBounds_toArray, List.set_cons_zero, List.set_cons_succ]
          refine wpAnyH_take (i := 6) (oi := ⟨some 88, _, _, _, _, _⟩) (v := ?_) rfl (by kernel_rfl) (by kernel_rfl) (by kernel_rfl) (fun _ _ _ h => h) (Or.inl ⟨by rfl, ?_⟩) (by assumption) ?_
          rotate_left
          · intro w hSw; (try dsimp only at hSw); go_simp; try with_reducible rfl
          simp only [Act.put, List.setIfInBounds_toArray, List.set_cons_zero, List.set_cons_succ]
          refine wpAnyH_ready (rs := [7]) (by kernel_rfl) (by simp) ?_
          refine AllReadyH.cons (o := ⟨some 89, _, _, _, _, _⟩) rfl (fun Kq hKq => ?_) AllReadyH.nil
          go_simp
          go_at_call 7
          refine (ihand _ need many _ ng _ zg _ nc _ zc (D k).f _ (D k).n1 _ (D k).z1 _ (D k).n2 _ (D k).z2 n m I1.out I2.out HR.out.i1 HR.out.i2 (by omega) (by omega) (by have := B4.out k hlt; omega) (by have := B4.out k hlt; omega) ad0 HV.out).mono ?_
          rintro e w4 ⟨rfl, hg⟩
          replace CG := Lib.hid (gtr CG.out hg)
          replace K := Lib.hid (K0.out.kept CG.out)
          replace I1 := Lib.hid (I10.out.kept CG.out)
          replace I2 := Lib.hid (I20.out.kept CG.out)
          replace DI := Lib.hid (DI0.out.kept CG.out)
          replace HV := Lib.hid (HV0.out.kept CG.out)
          replace OP := Lib.hid (OP.out.kept hg (own_dis _))
          replace OQ := Lib.hid (OQ.out.kept hg (own_dis _))
          replace HR := Lib.hid (HR0.out.kept CG.out)
          clear hg
          refine hKq.out _ _ (⟨K.out.c0, K.out.c1, K.out.c2, K.out.c3, (HDC.out _ DI.out).1, (HDC.out _ DI.out).2.1, (HDC.out _ DI.out).2.2⟩) (fun hHeld => ?_)
          clear hKq Kq
          refine wpAnyH_done (by kernel_rfl) ?_ _
          cases hh : hoF (need : Int) many ng zg nc zc (D k).f (D k).n1 (D k).z1 (D k).n2 (D k).z2 n m with
          | false =>
            have HS := Lib.hid (hsel_no (need := (need : Int)) (many := (many : Int)) (ng := ng) (zg := zg) (nc := nc) (zc := zc) (D := D) (dn := (n : Int)) (dm := (m : Int)) (n := k) hh)
            clear hh
            go_wp2
            go_roundw
            case rel => exact ⟨k + 1, gp, cp, gq, cq, by omega, by go_num, by rw [HS.out, HSLe.out], by rw [HS.out, HSLe.out], hne, by rw [HS.out, HSLe.out]; exact OP.out, by rw [HS.out, HSLe.out]; exact OQ.out, CG.out⟩
            case measure => simp [intOf] <;> omega
          | true =>
            have HS := Lib.hid (hsel_yes (need := (need : Int)) (many := (many : Int)) (ng := ng) (zg := zg) (nc := nc) (zc := zc) (D := D) (dn := (n : Int)) (dm := (m : Int)) (n := k) (by rw [HSLe.out]; exact hm) hh)
            have hk5 : sl ≤ 2000000 := by have h := sel_le (hnF (need : Int) many ng zg nc zc D n m) (need : Int).toNat k; have h2 := HSLe.out; unfold hsel at h2; omega
            have hn2 := (dl_iff.1 (ho_iff.1 hh).2.1).2.2.2.1
            have hmn2 : mn < (D k).n2 := by omega
            clear hh
            obtain ⟨b2, o2, ha2, hb2, hc2⟩ := HR0.out.i2.ptr (by omega)
            have hmn0 : (0 : Int) ≤ (mn : Int) := by omega
            have hmn' : (mn : Int) < ((D k).n2 : Int) := by omega
            have hwm : IntKind.i64.wrap (mn : Int) = (mn : Int) := by rw [IntKind.wrap_i64]; omega
            have HY := Lib.hid (show ∀ W : World, ((w3.alloc (.cells #[.int .i64 hM, .int .i64 hS] 30))).grownBy W none → W.cell? ⟨b2, o2 + mn, none⟩ = some (.int .i64 ((D k).z2 mn)) from fun W hg => (World.cell?_of_block (hg.block b2 hb2 (by simp))).trans (hc2 mn hmn2))
            clear hc2 hn2 hmn2
            have E1 := Lib.hid (show vals (hsP D (hsel need many ng zg nc zc D n m (k + 1))) (sl + 1) = vals (hsP D (hsel need many ng zg nc zc D n m k)) sl ++ [.int .i64 (D k).f] by
              rw [Con.vals_one, HS.out, ← HSLe.out]
              congr 1
              · exact vals_congr fun j hj => by unfold hsP; rw [at0_app hj]
              · unfold hsP; rw [at0_last])
            have E2 := Lib.hid (show vals (fun i => (D (at0 (hsel need many ng zg nc zc D n m (k + 1)) i)).z2 mn) (sl + 1) = vals (fun i => (D (at0 (hsel need many ng zg nc zc D n m k) i)).z2 mn) sl ++ [.int .i64 ((D k).z2 mn)] by
              rw [Con.vals_one, HS.out, ← HSLe.out]
              congr 1
              · exact vals_congr fun j hj => by rw [at0_app hj]
              · rw [at0_last])
            have HSL1 := Lib.hid (show (hsel need many ng zg nc zc D n m (k + 1)).length = sl + 1 by rw [HS.out, List.length_append, HSLe.out]; rfl)
            have d0 : w4.cell? ⟨b, off + k * 3, none⟩ = some (.int .i64 (D k).f) := (HDC.out w4 DI.out).1
            have hp4 := (OP.out.lt gp rfl).2; have hq4 := (OQ.out.lt gq rfl).2
            go_wp2_with (at_builtin; refine stop_here ?_)
            refine ⟨trivial, ?_⟩
            refine wpList_append_lies _ rfl _ _ 23 rfl (w3.heap.size + 1) 3 i0 (.int .i64 0) 1 8 und_ints hi hz0 hz1 hz2 rfl (by decide) (.slice (some ⟨gp, 0, none⟩) sl cp) sl (vals (hsP D (hsel need many ng zg nc zc D n m k)) sl) rfl (OP.out.alloc _) ⟨w4.heap.size, 0, none⟩ 1 1 [.int .i64 (D k).f] rfl rfl (cell_one_new _ _ _) (by simp [Value.oneCell']) (by decide) (by unfold maxLen; omega) (by omega) (by simp; omega) (w4.heap.size + 1) (by simp) ?_
            intro g6 cp6 W6 hown hgrow hat hlt6
            have hg : w4.grownBy W6 (some gp) := Draw.grown_trans (Draw.grown_alloc w4 _ _) hgrow
            replace OQ := Lib.hid (OQ.out.kept hg (.inr (by intro e; have e : gq = gp := Option.some.inj e; omega)))
            replace OP := Lib.hid (E1.out.symm ▸ hown)
            have hg6 : g6 ≠ gq := by rcases hat with h | h; · (have h : gp = g6 := Option.some.inj h; omega)
                                     · omega
            clear hown hgrow hat d0
            replace CG := Lib.hid (grown_new CG.out (by omega) hg)
            replace K := Lib.hid (K0.out.kept CG.out)
            replace I1 := Lib.hid (I10.out.kept CG.out)
            replace I2 := Lib.hid (I20.out.kept CG.out)
            replace DI := Lib.hid (DI0.out.kept CG.out)
            replace HV := Lib.hid (HV0.out.kept CG.out)
            replace HR := Lib.hid (HR0.out.kept CG.out)
            clear hg
            have d2 : W6.cell? ⟨b, off + k * 3 + 2, none⟩ = some (.slice (some ⟨b2, o2, none⟩) (D k).n2 (D k).c2) := by rw [← ha2]; exact (HDC.out W6 DI.out).2.2
            have dx := HY.out W6 CG.out
            have hq6 := (OQ.out.lt gq rfl).2
            clear ha2
            go_wp2_with (at_builtin; refine stop_here ?_)
            refine ⟨trivial, ?_⟩
            refine wpList_append_lies _ rfl _ _ 23 rfl (w3.heap.size + 1) 3 i0 (.int .i64 0) 1 8 und_ints hi hz0 hz1 hz2 rfl (by decide) (.slice (some ⟨gq, 0, none⟩) sl cq) sl (vals (fun i => (D (at0 (hsel need many ng zg nc zc D n m k) i)).z2 mn) sl) rfl (OQ.out.alloc _) ⟨W6.heap.size, 0, none⟩ 1 1 [.int .i64 ((D k).z2 mn)] rfl rfl (cell_one_new _ _ _) (by simp [Value.oneCell']) (by decide) (by unfold maxLen; omega) (by omega) (by simp; omega) (W6.heap.size + 1) (by simp) ?_
            intro g7 cp7 W7 hown hgrow hat hlt7
            have hg : W6.grownBy W7 (some gq) := Draw.grown_trans (Draw.grown_alloc W6 _ _) hgrow
            replace OP := Lib.hid (OP.out.kept hg (.inr (by intro e; have e : g6 = gq := Option.some.inj e; omega)))
            replace OQ := Lib.hid (E2.out.symm ▸ hown)
            have hg7 : g6 ≠ g7 := by rcases hat with h | h; · (have h : gq = g7 := Option.some.inj h; omega)
                                     · omega
            clear hown hgrow hat d2 dx
            replace CG := Lib.hid (grown_new CG.out (by omega) hg)
            replace K := Lib.hid (K0.out.kept CG.out)
            replace I1 := Lib.hid (I10.out.kept CG.out)
            replace I2 := Lib.hid (I20.out.kept CG.out)
            replace DI := Lib.hid (DI0.out.kept CG.out)
            replace HV := Lib.hid (HV0.out.kept CG.out)
            replace HR := Lib.hid (HR0.out.kept CG.out)
            clear hg
            go_wp2
            go_roundw
            case rel => exact ⟨k + 1, g6, cp6, g7, cp7, by omega, by go_num, by rw [HSL1.out], by rw [HSL1.out], hg7, by rw [HSL1.out]; exact OP.out, by rw [HSL1.out]; exact OQ.out, CG.out⟩
            case measure => simp [intOf] <;> omega
        · have hlt' : (k : Int) < (nd : Int) := by omega
          have HE := Lib.hid (hsel_stop (many := (many : Int)) (ng := ng) (zg := zg) (nc := nc) (zc := zc) (D := D) (dn := (n : Int)) (dm := (m : Int)) (n := k) (nd := nd) (need := (need : Int)) (by rw [HSLe.out]; omega) hk)
          have HPL := Lib.hid (show plok sl (hsP D (hsel need many ng zg nc zc D n m k)) = true by have h := hsel_plok (dn := (n : Int)) (dm := (m : Int)) (D := D) HKY.out HDS.out; rw [HE.out, HSLe.out] at h; exact h)
          have hs5 := (plok_iff.1 HPL.out).1
          have hs1 : 1 ≤ sl := by have h := HLE.out; rw [HE.out, HSLe.out] at h; omega
          have HSf := Lib.hid (show hS = hsM D (hsel need many ng zg nc zc D n m k) hM sl by have h := HSe.out; rw [HE.out, HSLe.out] at h; exact h)
          obtain ⟨bp, cp', hvp, hrp⟩ := row_of_owns OP.out (by omega) fun j hj => vals_get (hsP D (hsel need many ng zg nc zc D n m k)) hj
          injection hvp with e1 _ e3; injection e1 with e1; injection e1 with e1 _
          subst e1; subst e3
          obtain ⟨bq, cq', hvq, hrq⟩ := row_of_owns OQ.out (by omega) fun j hj => vals_get (fun i => (D (at0 (hsel need many ng zg nc zc D n m k) i)).z2 mn) hj
          injection hvq with e1 _ e3; injection e1 with e1; injection e1 with e1 _
          subst e1; subst e3
          have RP := Lib.hid hrp; have RQ := Lib.hid hrq
          clear hrp hrq
          clear OP OQ
          have k0 := K.out.c0
          go_wp2_with fail
          clear k0
          refine (ipline_yes _ _ sl _ (hsP D (hsel need many ng zg nc zc D n m k)) 0 RP.out.ints RP.out.le RP.out.most HPL.out rfl).mono ?_
          rintro e w5 ⟨bl, rfl, hr, hg⟩
          have RL := Lib.hid hr; clear hr
          replace CG := Lib.hid (gtr CG.out hg)
          replace K := Lib.hid (K0.out.kept CG.out)
          replace I1 := Lib.hid (I10.out.kept CG.out)
          replace I2 := Lib.hid (I20.out.kept CG.out)
          replace DI := Lib.hid (DI0.out.kept CG.out)
          replace HV := Lib.hid (HV0.out.kept CG.out)
          replace RP := Lib.hid (RP.out.keptN hg)
          replace RQ := Lib.hid (RQ.out.keptN hg)
          clear hg
          have hL2 : hsL D (hsel need many ng zg nc zc D n m k) = zline sl (hsP D (hsel need many ng zg nc zc D n m k)) 0 := by funext i; unfold hsL; rw [HSLe.out]
          have HSM2 := Lib.hid (fun t => show hsM D (hsel need many ng zg nc zc D n m k) hM (t + 1) = sumF (hsM D (hsel need many ng zg nc zc D n m k) hM t) (mulF (zline sl (hsP D (hsel need many ng zg nc zc D n m k)) 0 t) ((D (at0 (hsel need many ng zg nc zc D n m k) t)).z2 mn)) by rw [HSM.out, hL2])
          have hRL1 := RL.out.lt
          have CL0 := Lib.hid (Draw.grown_refl w5 none)
          have RQ0 := RQ; have RL0 := RL; have CG5 := CG
          clear hL2 hRL1
          go_wp2
          go_loopw [16, 17] (fun s i W => ∃ t : Nat, t ≤ sl ∧ i = .int .i64 t ∧ s = .int .i64 (hsM D (hsel need many ng zg nc zc D n m k) hM t) ∧ w5.grownBy W none) (fun _ i _ => sl - (intOf i).toNat)
          case atStart => exact ⟨0, by omega, rfl, rfl, Draw.grown_refl _ _⟩
          case round =>
            obtain ⟨t, ht, rfl, rfl, hg⟩ := hrel
            by_cases htl : t < sl
            · have htl' : (t : Int) < (sl : Int) := by omega
              have ht0 : (0 : Int) ≤ (t : Int) := by omega
              have HST := Lib.hid (HSM2.out t)
              have GW := Lib.hid hg; clear hg
              go_wp2_with fail
              refine wp_region_held_drew (S := (fun w' => w'.cell? ⟨bl, t, none⟩ = some (.int .i64 (zline sl (hsP D (hsel need many ng zg nc zc D n m k)) 0 t)) ∧ w'.cell? ⟨gq, t, none⟩ = some (.int .i64 ((D (at0 (hsel need many ng zg nc zc D n m k) t)).z2 mn)))) (by kernel_rfl) (⟨(RL0.out.keptN GW.out).cell htl, (RQ0.out.keptN GW.out).cell htl⟩) (fun hHeld => ?_)
              replace GW := Lib.hid (gtr GW.out (gdrew wr))
              generalize wr.drew = W at *
              refine wpAnyH_take (i := 0) (oi := ⟨some 118, _, _, _, _, _⟩) (v := ?_) rfl (by kernel_rfl) (by kernel_rfl) (by kernel_rfl) (fun _ _ _ h => h) (Or.inl ⟨by rfl, ?_⟩) (by assumption) ?_
              rotate_left
              · intro w hSw; (try dsimp only at hSw); go_simp; try with_reducible rfl
              simp only [Act.put, List.setIfInBounds_toArray, List.set_cons_zero, List.set_cons_succ]
              refine wpAnyH_take (i := 1) (oi := ⟨some 119, _, _, _, _, _⟩) (v := ?_) rfl (by kernel_rfl) (by kernel_rfl) (by kernel_rfl) (fun _ _ _ h => h) (Or.inl ⟨by rfl, ?_⟩) (by assumption) ?_
              rotate_left
              · intro w hSw; (try dsimp only at hSw); go_simp; try with_reducible rfl
              simp only [Act.put, List.setIfInBounds_toArray, List.set_cons_zero, List.set_cons_succ]
              refine wpAnyH_take (i := 2) (oi := ⟨some 120, _, _, _, _, _⟩) (v := ?_) rfl (by kernel_rfl) (by kernel_rfl) (by kernel_rfl) (fun _ _ _ h => h) (Or.inl ⟨by rfl, ?_⟩) (by assumption) ?_
              rotate_left
              · intro w hSw; (try dsimp only at hSw); go_simp; try with_reducible rfl
              simp only [Act.put, List.setIfInBounds_toArray, List.set_cons_zero, List.set_cons_succ]
              refine wpAnyH_take (i := 3) (oi := ⟨some 121, _, _, _, _, _⟩) (v := ?_) rfl (by kernel_rfl) (by kernel_rfl) (by kernel_rfl) (fun _ _ _ h => h) (Or.inl ⟨by rfl, ?_⟩) (by assumption) ?_
              rotate_left
              · intro w hSw; (try dsimp only at hSw); go_simp; try with_reducible rfl
              simp only [Act.put, List.setIfInBounds_toArray, List.set_cons_zero, List.set_cons_succ]
              refine wpAnyH_take (i := 4) (oi := ⟨some 122, _, _, _, _, _⟩) (v := ?_) rfl (by kernel_rfl) (by kernel_rfl) (by kernel_rfl) (fun _ _ _ h => h) (Or.inl ⟨by rfl, ?_⟩) (by assumption) ?_
              rotate_left
              · intro w hSw; (try dsimp only at hSw); go_simp; try with_reducible rfl
              simp only [Act.put, List.setIfInBounds_toArray, List.set_cons_zero, List.set_cons_succ]
              refine wpAnyH_take (i := 5) (oi := ⟨some 123, _, _, _, _, _⟩) (v := ?_) rfl (by kernel_rfl) (by kernel_rfl) (by kernel_rfl) (fun _ _ _ h => h) (Or.inl ⟨by rfl, ?_⟩) (by assumption) ?_
              rotate_left
              · intro w hSw; (try dsimp only at hSw); go_simp; try with_reducible rfl
              simp only [Act.put, List.setIfInBounds_toArray, List.set_cons_zero, List.set_cons_succ]
              refine wpAnyH_take (i := 6) (oi := ⟨some 124, _, _, _, _, _⟩) (v := ?_) rfl (by kernel_rfl) (by kernel_rfl) (by kernel_rfl) (fun _ _ _ h => h) (Or.inl ⟨by rfl, ?_⟩) (by assumption) ?_
              rotate_left
              · intro w hSw; (try dsimp only at hSw); go_simp; try with_reducible rfl
              simp only [Act.put, List.setIfInBounds_toArray, List.set_cons_zero, List.set_cons_succ]
              refine wpAnyH_take (i := 7) (oi := ⟨some 125, _, _, _, _, _⟩) (v := ?_) rfl (by kernel_rfl) (by kernel_rfl) (by kernel_rfl) (fun _ _ _ h => h) (Or.inl ⟨by rfl, ?_⟩) (by assumption) ?_
              rotate_left
              · intro w hSw; (try dsimp only at hSw); go_simp; try with_reducible rfl
              simp only [Act.put, List.setIfInBounds_toArray, List.set_cons_zero, List.set_cons_succ]
              refine wpAnyH_take (i := 8) (oi := ⟨some 126, _, _, _, _, _⟩) (v := ?_) rfl (by kernel_rfl) (by kernel_rfl) (by kernel_rfl) (fun _ _ _ h => h) (Or.inl ⟨by rfl, ?_⟩) (by assumption) ?_
              rotate_left
              · intro w hSw; (try dsimp only at hSw); go_simp; try with_reducible rfl
              simp only [Act.put, List.setIfInBounds_toArray, List.set_cons_zero, List.set_cons_succ]
              refine wpAnyH_ready (rs := [9]) (by kernel_rfl) (by simp) ?_
              refine AllReadyH.cons (o := ⟨some 127, _, _, _, _, _⟩) rfl (fun Kq hKq => ?_) AllReadyH.nil
              go_simp
              go_at_call 10
              refine (imul _ _ _).mono ?_
              rintro e w6 ⟨rfl, rfl⟩
              refine hKq.out _ _ (⟨(RL0.out.keptN GW.out).cell htl, (RQ0.out.keptN GW.out).cell htl⟩) (fun hHeld => ?_)
              clear hKq Kq
              refine wpAnyH_ready (rs := [10]) (by kernel_rfl) (by simp) ?_
              refine AllReadyH.cons (o := ⟨some 128, _, _, _, _, _⟩) rfl (fun Kq hKq => ?_) AllReadyH.nil
              go_simp
              go_at_call 9
              refine (isum _ _ _).mono ?_
              rintro e w6 ⟨rfl, rfl⟩
              refine hKq.out _ _ (⟨(RL0.out.keptN GW.out).cell htl, (RQ0.out.keptN GW.out).cell htl⟩) (fun hHeld => ?_)
              clear hKq Kq
              refine wpAnyH_take (i := 11) (oi := ⟨some 16, _, _, _, _, _⟩) (v := ?_) rfl (by kernel_rfl) (by kernel_rfl) (by kernel_rfl) (fun _ _ _ h => h) (Or.inl ⟨by rfl, ?_⟩) (by assumption) ?_
              rotate_left
              · intro w hSw; (try dsimp only at hSw); go_simp; try with_reducible rfl
              simp only [Act.put, List.setIfInBounds_toArray, List.set_cons_zero, List.set_cons_succ]
              refine wpAnyH_done (by kernel_rfl) ?_ _
              rw [← HST.out]
              go_wp2
              go_roundw
              case rel => exact ⟨t + 1, by omega, by go_num, rfl, GW.out⟩
              case measure => simp [intOf] <;> omega
            · obtain rfl : t = sl := by omega
              have htl' : ¬ (t : Int) < (t : Int) := by omega
              have hqq := Q0.out.keptN (gtr CG5.out hg)
              have q0 : wr.cell? ⟨w3.heap.size, 0, none⟩ = some (.int .i64 hM) := hqq.cell 0
              have q1 : wr.cell? ⟨w3.heap.size, 1, none⟩ = some (.int .i64 hS) := hqq.cell 1
              have GE := Lib.hid (gtr (gtr G0.out CG5.out) hg)
              have hse := HSf.out
              clear hqq hg
              rw [hse] at q1
              go_wp2
              go_ret
              exact ⟨by simp, Draw.below_of GE.out⟩
      · obtain rfl : k = nd := by omega
        have hlt' : ¬ (k : Int) < (k : Int) := by omega
        have HPL := Lib.hid (show plok sl (hsP D (hsel need many ng zg nc zc D n m k)) = true by have h := hsel_plok (dn := (n : Int)) (dm := (m : Int)) (D := D) HKY.out HDS.out; rw [ HSLe.out] at h; exact h)
        have hs5 := (plok_iff.1 HPL.out).1
        have hs1 : 1 ≤ sl := by have h := HLE.out; rw [ HSLe.out] at h; omega
        have HSf := Lib.hid (show hS = hsM D (hsel need many ng zg nc zc D n m k) hM sl by have h := HSe.out; rw [ HSLe.out] at h; exact h)
        obtain ⟨bp, cp', hvp, hrp⟩ := row_of_owns OP.out (by omega) fun j hj => vals_get (hsP D (hsel need many ng zg nc zc D n m k)) hj
        injection hvp with e1 _ e3; injection e1 with e1; injection e1 with e1 _
        subst e1; subst e3
        obtain ⟨bq, cq', hvq, hrq⟩ := row_of_owns OQ.out (by omega) fun j hj => vals_get (fun i => (D (at0 (hsel need many ng zg nc zc D n m k) i)).z2 mn) hj
        injection hvq with e1 _ e3; injection e1 with e1; injection e1 with e1 _
        subst e1; subst e3
        have RP := Lib.hid hrp; have RQ := Lib.hid hrq
        clear hrp hrq
        clear OP OQ
        have k0 := K.out.c0
        go_wp2_with fail
        clear k0
        refine (ipline_yes _ _ sl _ (hsP D (hsel need many ng zg nc zc D n m k)) 0 RP.out.ints RP.out.le RP.out.most HPL.out rfl).mono ?_
        rintro e w5 ⟨bl, rfl, hr, hg⟩
        have RL := Lib.hid hr; clear hr
        replace CG := Lib.hid (gtr CG.out hg)
        replace K := Lib.hid (K0.out.kept CG.out)
        replace I1 := Lib.hid (I10.out.kept CG.out)
        replace I2 := Lib.hid (I20.out.kept CG.out)
        replace DI := Lib.hid (DI0.out.kept CG.out)
        replace HV := Lib.hid (HV0.out.kept CG.out)
        replace RP := Lib.hid (RP.out.keptN hg)
        replace RQ := Lib.hid (RQ.out.keptN hg)
        clear hg
        have hL2 : hsL D (hsel need many ng zg nc zc D n m k) = zline sl (hsP D (hsel need many ng zg nc zc D n m k)) 0 := by funext i; unfold hsL; rw [HSLe.out]
        have HSM2 := Lib.hid (fun t => show hsM D (hsel need many ng zg nc zc D n m k) hM (t + 1) = sumF (hsM D (hsel need many ng zg nc zc D n m k) hM t) (mulF (zline sl (hsP D (hsel need many ng zg nc zc D n m k)) 0 t) ((D (at0 (hsel need many ng zg nc zc D n m k) t)).z2 mn)) by rw [HSM.out, hL2])
        have hRL1 := RL.out.lt
        have CL0 := Lib.hid (Draw.grown_refl w5 none)
        have RQ0 := RQ; have RL0 := RL; have CG5 := CG
        clear hL2 hRL1
        go_wp2
        go_loopw [16, 17] (fun s i W => ∃ t : Nat, t ≤ sl ∧ i = .int .i64 t ∧ s = .int .i64 (hsM D (hsel need many ng zg nc zc D n m k) hM t) ∧ w5.grownBy W none) (fun _ i _ => sl - (intOf i).toNat)
        case atStart => exact ⟨0, by omega, rfl, rfl, Draw.grown_refl _ _⟩
        case round =>
          obtain ⟨t, ht, rfl, rfl, hg⟩ := hrel
          by_cases htl : t < sl
          · have htl' : (t : Int) < (sl : Int) := by omega
            have ht0 : (0 : Int) ≤ (t : Int) := by omega
            have HST := Lib.hid (HSM2.out t)
            have GW := Lib.hid hg; clear hg
            go_wp2_with fail
            refine wp_region_held_drew (S := (fun w' => w'.cell? ⟨bl, t, none⟩ = some (.int .i64 (zline sl (hsP D (hsel need many ng zg nc zc D n m k)) 0 t)) ∧ w'.cell? ⟨gq, t, none⟩ = some (.int .i64 ((D (at0 (hsel need many ng zg nc zc D n m k) t)).z2 mn)))) (by kernel_rfl) (⟨(RL0.out.keptN GW.out).cell htl, (RQ0.out.keptN GW.out).cell htl⟩) (fun hHeld => ?_)
            replace GW := Lib.hid (gtr GW.out (gdrew wr))
            generalize wr.drew = W at *
            refine wpAnyH_take (i := 0) (oi := ⟨some 118, _, _, _, _, _⟩) (v := ?_) rfl (by kernel_rfl) (by kernel_rfl) (by kernel_rfl) (fun _ _ _ h => h) (Or.inl ⟨by rfl, ?_⟩) (by assumption) ?_
            rotate_left
            · intro w hSw; (try dsimp only at hSw); go_simp; try with_reducible rfl
            simp only [Act.put, List.setIfInBounds_toArray, List.set_cons_zero, List.set_cons_succ]
            refine wpAnyH_take (i := 1) (oi := ⟨some 119, _, _, _, _, _⟩) (v := ?_) rfl (by kernel_rfl) (by kernel_rfl) (by kernel_rfl) (fun _ _ _ h => h) (Or.inl ⟨by rfl, ?_⟩) (by assumption) ?_
            rotate_left
            · intro w hSw; (try dsimp only at hSw); go_simp; try with_reducible rfl
            simp only [Act.put, List.setIfInBounds_toArray, List.set_cons_zero, List.set_cons_succ]
            refine wpAnyH_take (i := 2) (oi := ⟨some 120, _, _, _, _, _⟩) (v := ?_) rfl (by kernel_rfl) (by kernel_rfl) (by kernel_rfl) (fun _ _ _ h => h) (Or.inl ⟨by rfl, ?_⟩) (by assumption) ?_
            rotate_left
            · intro w hSw; (try dsimp only at hSw); go_simp; try with_reducible rfl
            simp only [Act.put, List.setIfInBounds_toArray, List.set_cons_zero, List.set_cons_succ]
            refine wpAnyH_take (i := 3) (oi := ⟨some 121, _, _, _, _, _⟩) (v := ?_) rfl (by kernel_rfl) (by kernel_rfl) (by kernel_rfl) (fun _ _ _ h => h) (Or.inl ⟨by rfl, ?_⟩) (by assumption) ?_
            rotate_left
            · intro w hSw; (try dsimp only at hSw); go_simp; try with_reducible rfl
            simp only [Act.put, List.setIfInBounds_toArray, List.set_cons_zero, List.set_cons_succ]
            refine wpAnyH_take (i := 4) (oi := ⟨some 122, _, _, _, _, _⟩) (v := ?_) rfl (by kernel_rfl) (by kernel_rfl) (by kernel_rfl) (fun _ _ _ h => h) (Or.inl ⟨by rfl, ?_⟩) (by assumption) ?_
            rotate_left
            · intro w hSw; (try dsimp only at hSw); go_simp; try with_reducible rfl
            simp only [Act.put, List.setIfInBounds_toArray, List.set_cons_zero, List.set_cons_succ]
            refine wpAnyH_take (i := 5) (oi := ⟨some 123, _, _, _, _, _⟩) (v := ?_) rfl (by kernel_rfl) (by kernel_rfl) (by kernel_rfl) (fun _ _ _ h => h) (Or.inl ⟨by rfl, ?_⟩) (by assumption) ?_
            rotate_left
            · intro w hSw; (try dsimp only at hSw); go_simp; try with_reducible rfl
            simp only [Act.put, List.setIfInBounds_toArray, List.set_cons_zero, List.set_cons_succ]
            refine wpAnyH_take (i := 6) (oi := ⟨some 124, _, _, _, _, _⟩) (v := ?_) rfl (by kernel_rfl) (by kernel_rfl) (by kernel_rfl) (fun _ _ _ h => h) (Or.inl ⟨by rfl, ?_⟩) (by assumption) ?_
            rotate_left
            · intro w hSw; (try dsimp only at hSw); go_simp; try with_reducible rfl
            simp only [Act.put, List.setIfInBounds_toArray, List.set_cons_zero, List.set_cons_succ]
            refine wpAnyH_take (i := 7) (oi := ⟨some 125, _, _, _, _, _⟩) (v := ?_) rfl (by kernel_rfl) (by kernel_rfl) (by kernel_rfl) (fun _ _ _ h => h) (Or.inl ⟨by rfl, ?_⟩) (by assumption) ?_
            rotate_left
            · intro w hSw; (try dsimp only at hSw); go_simp; try with_reducible rfl
            simp only [Act.put, List.setIfInBounds_toArray, List.set_cons_zero, List.set_cons_succ]
            refine wpAnyH_take (i := 8) (oi := ⟨some 126, _, _, _, _, _⟩) (v := ?_) rfl (by kernel_rfl) (by kernel_rfl) (by kernel_rfl) (fun _ _ _ h => h) (Or.inl ⟨by rfl, ?_⟩) (by assumption) ?_
            rotate_left
            · intro w hSw; (try dsimp only at hSw); go_simp; try with_reducible rfl
            simp only [Act.put, List.setIfInBounds_toArray, List.set_cons_zero, List.set_cons_succ]
            refine wpAnyH_ready (rs := [9]) (by kernel_rfl) (by simp) ?_
            refine AllReadyH.cons (o := ⟨some 127, _, _, _, _, _⟩) rfl (fun Kq hKq => ?_) AllReadyH.nil
            go_simp
            go_at_call 10
            refine (imul _ _ _).mono ?_
            rintro e w6 ⟨rfl, rfl⟩
            refine hKq.out _ _ (⟨(RL0.out.keptN GW.out).cell htl, (RQ0.out.keptN GW.out).cell htl⟩) (fun hHeld => ?_)
            clear hKq Kq
            refine wpAnyH_ready (rs := [10]) (by kernel_rfl) (by simp) ?_
            refine AllReadyH.cons (o := ⟨some 128, _, _, _, _, _⟩) rfl (fun Kq hKq => ?_) AllReadyH.nil
            go_simp
            go_at_call 9
            refine (isum _ _ _).mono ?_
            rintro e w6 ⟨rfl, rfl⟩
            refine hKq.out _ _ (⟨(RL0.out.keptN GW.out).cell htl, (RQ0.out.keptN GW.out).cell htl⟩) (fun hHeld => ?_)
            clear hKq Kq
            refine wpAnyH_take (i := 11) (oi := ⟨some 16, _, _, _, _, _⟩) (v := ?_) rfl (by kernel_rfl) (by kernel_rfl) (by kernel_rfl) (fun _ _ _ h => h) (Or.inl ⟨by rfl, ?_⟩) (by assumption) ?_
            rotate_left
            · intro w hSw; (try dsimp only at hSw); go_simp; try with_reducible rfl
            simp only [Act.put, List.setIfInBounds_toArray, List.set_cons_zero, List.set_cons_succ]
            refine wpAnyH_done (by kernel_rfl) ?_ _
            rw [← HST.out]
            go_wp2
            go_roundw
            case rel => exact ⟨t + 1, by omega, by go_num, rfl, GW.out⟩
            case measure => simp [intOf] <;> omega
          · obtain rfl : t = sl := by omega
            have htl' : ¬ (t : Int) < (t : Int) := by omega
            have hqq := Q0.out.keptN (gtr CG5.out hg)
            have q0 : wr.cell? ⟨w3.heap.size, 0, none⟩ = some (.int .i64 hM) := hqq.cell 0
            have q1 : wr.cell? ⟨w3.heap.size, 1, none⟩ = some (.int .i64 hS) := hqq.cell 1
            have GE := Lib.hid (gtr (gtr G0.out CG5.out) hg)
            have hse := HSf.out
            clear hqq hg
            rw [hse] at q1
            go_wp2
            go_ret
            exact ⟨by simp, Draw.below_of GE.out⟩
end Run
end Go.Proofs.YtonhdkideianiaaGreatDoor
