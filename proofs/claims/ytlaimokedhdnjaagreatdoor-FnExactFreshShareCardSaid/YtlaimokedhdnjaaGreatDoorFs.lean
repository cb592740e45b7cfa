/-
  Shares made anew: the model's functions on a member's share.
-/
import Derived.Test.YtlaimokedhdnjaaGreatDoorFr
import Derived.Test.YtlaimokedhdnjaaGreatDoorKs
import Derived.Test.YtlaimokedhdnjaaGreatDoorSm
import Derived.Test.YtlaimokedhdnjaaGreatDoorWk
namespace Go.Proofs.YtlaimokedhdnjaaGreatDoor
namespace Con
open Go.RowKit Alg Mem Mp Hd Draw
set_option linter.unusedVariables false

def frD (need many : Int) (ng : Nat) (zg : Nat → Int) (nc : Nat) (zc : Nat → Int) (d : DV) : Bool := frF need many ng zg nc zc d.f d.n1 d.z1 d.n2 d.z2
/-- Do the first so many deals make shares anew? -/
def alF (need many : Int) (ng : Nat) (zg : Nat → Int) (nc : Nat) (zc : Nat → Int) (D : Nat → DV) : Nat → Bool
  | 0 => true
  | k + 1 => alF need many ng zg nc zc D k && frD need many ng zg nc zc (D k)
theorem al_at {need many : Int} {ng : Nat} {zg : Nat → Int} {nc : Nat} {zc : Nat → Int} {D : Nat → DV} : ∀ {n : Nat}, alF need many ng zg nc zc D n = true → ∀ {j}, j < n → frD need many ng zg nc zc (D j) = true
  | 0, _, j, hj => by omega
  | n + 1, h, j, hj => by
    simp only [alF, Bool.and_eq_true] at h
    rcases (by omega : j < n ∨ j = n) with h' | rfl
    · exact al_at h.1 h'
    · exact h.2
theorem al_no {need many : Int} {ng : Nat} {zg : Nat → Int} {nc : Nat} {zc : Nat → Int} {D : Nat → DV} {n j : Nat} (hj : j < n) (h : frD need many ng zg nc zc (D j) = false) : alF need many ng zg nc zc D n = false := by
  cases hh : alF need many ng zg nc zc D n with
  | false => rfl
  | true => rw [al_at hh hj] at h; cases h
theorem al_next {need many : Int} {ng : Nat} {zg : Nat → Int} {nc : Nat} {zc : Nat → Int} {D : Nat → DV} {n : Nat} (h : alF need many ng zg nc zc D n = true) (h' : frD need many ng zg nc zc (D n) = true) : alF need many ng zg nc zc D (n + 1) = true := by simp [alF, h, h']
set_option maxRecDepth 100000 in
set_option maxHeartbeats 4000000 in
theorem s21all (w : World) (need many : Int) (ag : Option Addr) (ng cg : Nat) (zg : Nat → Int) (ac : Option Addr) (nc cc : Nat) (zc : Nat → Int) (ad : Option Addr) (nd cd : Nat) (D : Nat → DV) (hG : Ints w ag ng zg) (hC : Ints w ac nc zc) (hD : DealsIn w ad nd D) (hl1 : ng ≤ 2000000) (hl2 : nc ≤ 2000000) (hl3 : nd ≤ 2000000) (hL : ∀ j, j < nd → (D j).n1 ≤ 2000000 ∧ (D j).n2 ≤ 2000000) :
    Calls Tryz.prog 16 #[.agg #[.int .i64 need, .int .i64 many, .slice ag ng cg, .slice ac nc cc], .slice ad nd cd] w fun e w' => e = .returned (.bool (alF need many ng zg nc zc D nd && dsF D nd)) ∧ w.grownBy w' none := by
  have hg := Draw.grown_alloc w (.cells #[.int .i64 need, .int .i64 many, .slice ag ng cg, .slice ac nc cc] 33) none
  have G := Lib.hid hg
  have K := Lib.hid (Ky.new w need many (.slice ag ng cg) (.slice ac nc cc) 33)
  have HG := Lib.hid (hG.kept hg); have HC := Lib.hid (hC.kept hg); have HD := Lib.hid (hD.kept hg); have HL := Lib.hid hL
  have C := Lib.hid (Draw.grown_refl (w.alloc (.cells #[.int .i64 need, .int .i64 many, .slice ag ng cg, .slice ac nc cc] 33)) none)
  clear hG hC hD hL hg
  go_enter Tryz.func16, Tryz.ntmps16
  go_wp2
  go_loopw [5] (fun i wr => ∃ k : Nat, k ≤ nd ∧ i = .int .i64 k ∧ alF need many ng zg nc zc D k = true ∧ (w.alloc (.cells #[.int .i64 need, .int .i64 many, .slice ag ng cg, .slice ac nc cc] 33)).grownBy wr none) (fun i _ => nd - (intOf i).toNat)
  case atStart => exact ⟨0, by omega, rfl, rfl, Draw.grown_refl _ _⟩
  case round =>
    obtain ⟨k, hk, rfl, hz, hg⟩ := hrel
    have HZ := Lib.hid hz; clear hz
    replace G := Lib.hid (gtr G.out hg)
    replace C := Lib.hid (gtr C.out hg)
    replace K := Lib.hid (K.out.kept hg)
    replace HG := Lib.hid (HG.out.kept hg)
    replace HC := Lib.hid (HC.out.kept hg)
    replace HD := Lib.hid (HD.out.kept hg)
    clear hg
    by_cases hlt : k < nd
    · skip
      rcases HD.out with h | ⟨b, off, rfl, hb, hcc⟩
      · omega
      obtain ⟨⟨d0, d1, d2⟩, hr⟩ := hcc k hlt
      have HR := Lib.hid hr
      have hE : ∀ W, wr.grownBy W none → W.cell? ⟨b, off + k * 3, none⟩ = some (.int .i64 (D k).f) ∧ W.cell? ⟨b, off + k * 3 + 1, none⟩ = some (.slice (D k).a1 (D k).n1 (D k).c1) ∧ W.cell? ⟨b, off + k * 3 + 2, none⟩ = some (.slice (D k).a2 (D k).n2 (D k).c2) := fun W hg => ⟨(World.cell?_of_block (hg.block b hb (by simp))).trans d0, (World.cell?_of_block (hg.block b hb (by simp))).trans d1, (World.cell?_of_block (hg.block b hb (by simp))).trans d2⟩
      have HE := Lib.hid hE
      have hlt' : (k : Int) < (nd : Int) := by omega
      have hk0 : (0 : Int) ≤ (k : Int) := by omega
      clear hcc hr hE d0 d1 d2
      have L := Lib.hid (Draw.grown_refl wr none)
      go_wp2_with fail
      refine wp_region_held_drew (S := (fun w' => w'.cell? ⟨w.heap.size, 0, none⟩ = some (.int .i64 need) ∧ w'.cell? ⟨w.heap.size, 1, none⟩ = some (.int .i64 many) ∧ w'.cell? ⟨w.heap.size, 2, none⟩ = some (.slice ag ng cg) ∧ w'.cell? ⟨w.heap.size, 3, none⟩ = some (.slice ac nc cc) ∧ w'.cell? ⟨b, off + k * 3, none⟩ = some (.int .i64 (D k).f) ∧ w'.cell? ⟨b, off + k * 3 + 1, none⟩ = some (.slice (D k).a1 (D k).n1 (D k).c1) ∧ w'.cell? ⟨b, off + k * 3 + 2, none⟩ = some (.slice (D k).a2 (D k).n2 (D k).c2))) (by kernel_rfl) (⟨K.out.c0, K.out.c1, K.out.c2, K.out.c3, HE.out _ (gdrew wr)⟩) (fun hHeld => ?_)
      have hg := gdrew wr
      replace G := Lib.hid (gtr G.out hg)
      replace C := Lib.hid (gtr C.out hg)
      replace K := Lib.hid (K.out.kept hg)
      replace HG := Lib.hid (HG.out.kept hg)
      replace HC := Lib.hid (HC.out.kept hg)
      replace HD := Lib.hid (HD.out.kept hg)
      replace L := Lib.hid (gtr L.out hg)
      replace HR := Lib.hid (HR.out.kept hg)
      clear hg
      generalize wr.drew = W at *
      refine wpAnyH_take (i := 0) (oi := ⟨some 12, _, _, _, _, _⟩) (v := ?_) rfl (by kernel_rfl) (by kernel_rfl) (by kernel_rfl) (fun _ _ _ h => h) (Or.inl ⟨by rfl, ?_⟩) (by assumption) ?_
      rotate_left
      · intro w hSw; (try dsimp only at hSw); go_simp; try with_reducible rfl
      simp only [Act.put, List.setIfInBounds_toArray, List.set_cons_zero, List.set_cons_succ]
      refine wpAnyH_take (i := 1) (oi := ⟨some 13, _, _, _, _, _⟩) (v := ?_) rfl (by kernel_rfl) (by kernel_rfl) (by kernel_rfl) (fun _ _ _ h => h) (Or.inl ⟨by rfl, ?_⟩) (by assumption) ?_
      rotate_left
      · intro w hSw; (try dsimp only at hSw); go_simp; try with_reducible rfl
      simp only [Act.put, List.setIfInBounds_toArray, List.set_cons_zero, List.set_cons_succ]
      refine wpAnyH_take (i := 2) (oi := ⟨some 14, _, _, _, _, _⟩) (v := ?_) rfl (by kernel_rfl) (by kernel_rfl) (by kernel_rfl) (fun _ _ _ h => h) (Or.inl ⟨by rfl, ?_⟩) (by assumption) ?_
      rotate_left
      · intro w hSw; (try dsimp only at hSw); go_simp; try with_reducible rfl
      simp only [Act.put, List.setIfInBounds_toArray, List.set_cons_zero, List.set_cons_succ]
      refine wpAnyH_take (i := 3) (oi := ⟨some 15, _, _, _, _, _⟩) (v := ?_) rfl (by kernel_rfl) (by kernel_rfl) (by kernel_rfl) (fun _ _ _ h => h) (Or.inl ⟨by rfl, ?_⟩) (by assumption) ?_
      rotate_left
      · intro w hSw; (try dsimp only at hSw); go_simp; try with_reducible rfl
      simp only [Act.put, List.setIfInBounds_toArray, List.set_cons_zero, List.set_cons_succ]
      refine wpAnyH_take (i := 4) (oi := ⟨some 16, _, _, _, _, _⟩) (v := ?_) rfl (by kernel_rfl) (by kernel_rfl) (by kernel_rfl) (fun _ _ _ h => h) (Or.inl ⟨by rfl, ?_⟩) (by assumption) ?_
      rotate_left
      · intro w hSw; (try dsimp only at hSw); go_simp; try with_reducible rfl
      simp only [Act.put, List.setIfInBounds_toArray, List.set_cons_zero, List.set_cons_succ]
      refine wpAnyH_ready (rs := [5]) (by kernel_rfl) (by simp) ?_
      refine AllReadyH.cons (o := ⟨some 17, _, _, _, _, _⟩) rfl (fun Kq hKq => ?_) AllReadyH.nil
      go_simp
      go_at_call 25
      refine (sfok _ need many _ ng _ zg _ nc _ zc (D k).f _ (D k).n1 _ (D k).z1 _ (D k).n2 _ (D k).z2 HG.out HC.out HR.out.i1 HR.out.i2 hl1 hl2 (HL.out k hlt).1 (HL.out k hlt).2).mono ?_
      rintro e W2 ⟨rfl, hg⟩
      replace G := Lib.hid (gtr G.out hg)
      replace C := Lib.hid (gtr C.out hg)
      replace K := Lib.hid (K.out.kept hg)
      replace HG := Lib.hid (HG.out.kept hg)
      replace HC := Lib.hid (HC.out.kept hg)
      replace HD := Lib.hid (HD.out.kept hg)
      replace L := Lib.hid (gtr L.out hg)
      replace HR := Lib.hid (HR.out.kept hg)
      clear hg
      refine hKq.out _ _ (⟨K.out.c0, K.out.c1, K.out.c2, K.out.c3, HE.out _ L.out⟩) (fun hHeld => ?_)
      clear hKq Kq
      cases hfr : frF need many ng zg nc zc (D k).f (D k).n1 (D k).z1 (D k).n2 (D k).z2 with
      | false =>
        have HN := Lib.hid (al_no (need := need) (many := many) (ng := ng) (zg := zg) (nc := nc) (zc := zc) (D := D) hlt hfr)
        refine wpAnyH_take (i := 6) (oi := ⟨some 18, _, _, _, _, _⟩) (v := ?_) rfl (by kernel_rfl) (by kernel_rfl) (by kernel_rfl) (fun _ _ _ h => h) (Or.inl ⟨by rfl, ?_⟩) (by assumption) ?_
        rotate_left
        · intro w hSw; (try dsimp only at hSw); go_simp; try with_reducible rfl
        simp only [Act.put, List.setIfInBounds_toArray, List.set_cons_zero, List.set_cons_succ]
        refine wpAnyH_done (by kernel_rfl) ?_ _
        go_wp2
        go_ret
        exact ⟨by rw [HN.out]; rfl, G.out⟩
      | true =>
        have HN := Lib.hid (al_next HZ.out hfr)
        refine wpAnyH_take (i := 6) (oi := ⟨some 18, _, _, _, _, _⟩) (v := ?_) rfl (by kernel_rfl) (by kernel_rfl) (by kernel_rfl) (fun _ _ _ h => h) (Or.inl ⟨by rfl, ?_⟩) (by assumption) ?_
        rotate_left
        · intro w hSw; (try dsimp only at hSw); go_simp; try with_reducible rfl
        simp only [Act.put, List.setIfInBounds_toArray, List.set_cons_zero, List.set_cons_succ]
        refine wpAnyH_done (by kernel_rfl) ?_ _
        go_wp2
        go_roundw
        case rel => exact ⟨k + 1, by omega, by go_num, HN.out, C.out⟩
        case measure => simp [intOf]; omega
    · obtain rfl : k = nd := by omega
      go_wp2_with fail
      refine (s12deals _ _ _ _ D HD.out hl3).mono ?_
      rintro e w2 ⟨rfl, hg⟩
      replace G := Lib.hid (gtr G.out hg)
      replace C := Lib.hid (gtr C.out hg)
      replace K := Lib.hid (K.out.kept hg)
      replace HG := Lib.hid (HG.out.kept hg)
      replace HC := Lib.hid (HC.out.kept hg)
      replace HD := Lib.hid (HD.out.kept hg)
      clear hg
      rw [← Bool.true_and (dsF D k), ← HZ.out]
      go_wp2
      go_ret
      exact ⟨rfl, G.out⟩
theorem size_held2 : (Tryz.prog.info? 30).map (·.size) = some 2 := by kernel_rfl
theorem ret_hb {fn : Func} {p u : Tmp} (h : fn.results = #[.cell p 30, .tmp u]) (tmps : Array Value) {w : World} {b : Nat} {v0 v1 : Value} {T : TypeId} (hp : tmps.getD p undef = .pointer (some ⟨b, 0, none⟩)) (hb : Blk w b #[v0, v1] T) :
    (results fn tmps).run Tryz.prog w = .ok (.tuple #[.agg #[v0, v1], tmps.getD u undef]) w := by
  have hp' : tmps[p]?.getD undef = .pointer (some ⟨b, 0, none⟩) := by simpa using hp
  simp [results, h, hp', asAddr, run_loadVar_row w b T 30 #[v0, v1] (0, 0) _ hb Tryz.underlying30 rfl size_held2, Result.andThen]
/-- A member's share, with so many deals' shares of it. -/
def smF (D : Nat → DV) (m s : Int) : Nat → Int
  | 0 => s
  | k + 1 => sumF (smF D m s k) ((D k).z2 (m - 1).toNat)
def fsB (need many : Int) (ng : Nat) (zg : Nat → Int) (nc : Nat) (zc : Nat → Int) (D : Nat → DV) (nd : Nat) (m s : Int) : Bool := alF need many ng zg nc zc D nd && dsF D nd && kfit need many ng zg nc zc m s
def fsM (need many : Int) (ng : Nat) (zg : Nat → Int) (nc : Nat) (zc : Nat → Int) (D : Nat → DV) (nd : Nat) (m s : Int) : Int := if fsB need many ng zg nc zc D nd m s then m else 0
def fsS (need many : Int) (ng : Nat) (zg : Nat → Int) (nc : Nat) (zc : Nat → Int) (D : Nat → DV) (nd : Nat) (m s : Int) : Int := if fsB need many ng zg nc zc D nd m s then smF D m s nd else 0
/-- What is answered. -/
def fsV (need many : Int) (ng : Nat) (zg : Nat → Int) (nc : Nat) (zc : Nat → Int) (D : Nat → DV) (nd : Nat) (m s : Int) : Value := .tuple #[.agg #[.int .i64 (fsM need many ng zg nc zc D nd m s), .int .i64 (fsS need many ng zg nc zc D nd m s)], .bool (fsB need many ng zg nc zc D nd m s)]
theorem fsV_no {need many : Int} {ng : Nat} {zg : Nat → Int} {nc : Nat} {zc : Nat → Int} {D : Nat → DV} {nd : Nat} {m s : Int} (h : fsB need many ng zg nc zc D nd m s = false) : fsV need many ng zg nc zc D nd m s = .tuple #[.agg #[.int .i64 0, .int .i64 0], .bool false] := by simp [fsV, fsM, fsS, h]
theorem fsV_yes {need many : Int} {ng : Nat} {zg : Nat → Int} {nc : Nat} {zc : Nat → Int} {D : Nat → DV} {nd : Nat} {m s : Int} (h : fsB need many ng zg nc zc D nd m s = true) : fsV need many ng zg nc zc D nd m s = .tuple #[.agg #[.int .i64 m, .int .i64 (smF D m s nd)], .bool true] := by simp [fsV, fsM, fsS, h]
set_option maxRecDepth 100000 in
set_option maxHeartbeats 4000000 in
theorem sfshare (w : World) (need many : Int) (ag : Option Addr) (ng cg : Nat) (zg : Nat → Int) (ac : Option Addr) (nc cc : Nat) (zc : Nat → Int) (ad : Option Addr) (nd cd : Nat) (D : Nat → DV) (m s : Int) (hG : Ints w ag ng zg) (hC : Ints w ac nc zc) (hD : DealsIn w ad nd D) (hl1 : ng ≤ 2000000) (hl2 : nc ≤ 2000000) (hl3 : nd ≤ 2000000) (hL : ∀ j, j < nd → (D j).n1 ≤ 2000000 ∧ (D j).n2 ≤ 2000000) :
    Calls Tryz.prog 6 #[.agg #[.int .i64 need, .int .i64 many, .slice ag ng cg, .slice ac nc cc], .slice ad nd cd, .agg #[.int .i64 m, .int .i64 s]] w fun e w' => e = .returned (fsV need many ng zg nc zc D nd m s) ∧ w.grownBy w' none := by
  have G := Lib.hid (gtr (gtr (Draw.grown_alloc w (.cells #[.int .i64 need, .int .i64 many, .slice ag ng cg, .slice ac nc cc] 33) none) (Draw.grown_alloc _ (.cells #[.int .i64 m, .int .i64 s] 30) none)) (Draw.grown_alloc _ (.cells #[.int .i64 0, .int .i64 0] 30) none))
  have K := Lib.hid (((Ky.new w need many (.slice ag ng cg) (.slice ac nc cc) 33).kept (Draw.grown_alloc _ (.cells #[.int .i64 m, .int .i64 s] 30) none)).kept (Draw.grown_alloc _ (.cells #[.int .i64 0, .int .i64 0] 30) none))
  have H := Lib.hid ((blk_new2 w (.cells #[.int .i64 need, .int .i64 many, .slice ag ng cg, .slice ac nc cc] 33) #[.int .i64 m, .int .i64 s] 30).keptN (Draw.grown_alloc _ (.cells #[.int .i64 0, .int .i64 0] 30) none))
  have R := Lib.hid (blk_new3 w (.cells #[.int .i64 need, .int .i64 many, .slice ag ng cg, .slice ac nc cc] 33) (.cells #[.int .i64 m, .int .i64 s] 30) #[.int .i64 0, .int .i64 0] 30)
  have HG := Lib.hid (hG.kept G.out); have HC := Lib.hid (hC.kept G.out); have HD := Lib.hid (hD.kept G.out); have HL := Lib.hid hL; have HD0 := Lib.hid hD
  clear hG hC hD hL
  go_enter Tryz.func6, Tryz.ntmps6
  obtain ⟨_, k0, k1, k2, k3⟩ := K.out
  go_wp2_with fail
  refine (s21all _ need many _ ng _ zg _ nc _ zc _ nd _ D HG.out HC.out HD.out hl1 hl2 hl3 HL.out).mono ?_
  rintro e w1 ⟨rfl, hg⟩
  clear k0 k1 k2 k3
  replace G := Lib.hid (gtr G.out hg)
  replace K := Lib.hid (K.out.kept hg)
  replace H := Lib.hid (H.out.keptN hg)
  replace R := Lib.hid (R.out.keptN hg)
  replace HG := Lib.hid (HG.out.kept hg)
  replace HC := Lib.hid (HC.out.kept hg)
  replace HD := Lib.hid (HD.out.kept hg)
  clear hg
  obtain ⟨_, k0, k1, k2, k3⟩ := K.out
  cases hal : (alF need many ng zg nc zc D nd && dsF D nd) with
  | false =>
    have HN := Lib.hid (show fsB need many ng zg nc zc D nd m s = false by simp [fsB, hal])
    clear k0 k1 k2 k3
    go_wp2_with (first
      | (refine wpList_store_blk rfl 30 (.tmp 6) (.tmp 22) _ _ _ 30 R.out rfl rfl rfl rfl (by kernel_rfl) (by simp [Value.oneCell']) rfl ?_; intro V hgV hRV; have HGV := Lib.hid hgV; have HRV := Lib.hid hRV; clear hgV hRV))
    (try simp only [Exit.inBlock, Exit.then])
    refine bodyPost_ret (ret_hb rfl _ rfl HRV.out) rfl ?_
    exact ⟨by rw [fsV_no HN.out]; rfl, grown_new G.out (by omega) HGV.out⟩
  | true =>
    have h0 : World.cell? _ ⟨w.heap.size + 1, 0, none⟩ = some (.int .i64 m) := H.out.cell 0
    have h1 : World.cell? _ ⟨w.heap.size + 1, 1, none⟩ = some (.int .i64 s) := H.out.cell 1
    go_wp2_with fail
    refine (skeyfits _ need many _ ng _ zg _ nc _ zc m s HG.out HC.out hl1 hl2).mono ?_
    rintro e w2 ⟨rfl, hg⟩
    clear h0 h1
    clear k0 k1 k2 k3
    replace G := Lib.hid (gtr G.out hg)
    replace K := Lib.hid (K.out.kept hg)
    replace H := Lib.hid (H.out.keptN hg)
    replace R := Lib.hid (R.out.keptN hg)
    replace HG := Lib.hid (HG.out.kept hg)
    replace HC := Lib.hid (HC.out.kept hg)
    replace HD := Lib.hid (HD.out.kept hg)
    clear hg
    obtain ⟨_, k0, k1, k2, k3⟩ := K.out
    cases hkf : kfit need many ng zg nc zc m s with
    | false =>
      have HN := Lib.hid (show fsB need many ng zg nc zc D nd m s = false by simp [fsB, hkf])
      clear k0 k1 k2 k3
      go_wp2_with (first
        | (refine wpList_store_blk rfl 30 (.tmp 6) (.tmp 22) _ _ _ 30 R.out rfl rfl rfl rfl (by kernel_rfl) (by simp [Value.oneCell']) rfl ?_; intro V hgV hRV; have HGV := Lib.hid hgV; have HRV := Lib.hid hRV; clear hgV hRV))
      (try simp only [Exit.inBlock, Exit.then])
      refine bodyPost_ret (ret_hb rfl _ rfl HRV.out) rfl ?_
      exact ⟨by rw [fsV_no HN.out]; rfl, grown_new G.out (by omega) HGV.out⟩
    | true =>
      have HY := Lib.hid (show fsB need many ng zg nc zc D nd m s = true by simp [fsB, hkf, hal])
      have hall : alF need many ng zg nc zc D nd = true := by simp only [Bool.and_eq_true] at hal; exact hal.1
      have HAl := Lib.hid (fun (j : Nat) (hj : j < nd) => al_at hall hj)
      have hmm : 1 ≤ m ∧ m ≤ many := by
        cases hb : mbF many m with
        | false => rw [kfit_m hb] at hkf; cases hkf
        | true => exact mb_iff.1 hb
      obtain ⟨mn, hmn⟩ : ∃ mn : Nat, m - 1 = mn := ⟨(m - 1).toNat, by omega⟩
      have hkk : kyF need many ng zg nc zc = true := by
        cases hb : kyF need many ng zg nc zc with
        | false => rw [kfit_k hb] at hkf; cases hkf
        | true => rfl
      have hm5 := (ky_iff.1 hkk).1.2.2
      clear hal hkf hall hkk
      clear k0 k1 k2 k3
      have hwm : IntKind.i64.wrap (mn : Int) = (mn : Int) := by rw [IntKind.wrap_i64]; omega
      have hwk : (m - 1).toNat = mn := by omega
      go_wp2
      go_loopw [8] (fun i wr => ∃ k : Nat, k ≤ nd ∧ i = .int .i64 k ∧ Blk wr (w.heap.size + 1) #[.int .i64 m, .int .i64 (smF D m s k)] 30 ∧ Blk wr (w.heap.size + 1 + 1) #[.int .i64 0, .int .i64 0] 30 ∧ w.grownBy wr none) (fun i _ => nd - (intOf i).toNat)
      case atStart => exact ⟨0, by omega, rfl, H.out, R.out, G.out⟩
      case round =>
        clear G K H R HG HC HD
        obtain ⟨k, hk, rfl, hH, hR, hG⟩ := hrel
        have G := Lib.hid hG; have H := Lib.hid hH; have R := Lib.hid hR
        clear hG hH hR
        by_cases hlt : k < nd
        · skip
          rcases HD0.out with h | ⟨b, off, hbo, hb, hcc⟩
          · omega
          obtain ⟨⟨_, _, d2⟩, hr⟩ := hcc k hlt
          have hfr := fr_iff.1 (HAl.out k hlt)
          have hdl := dl_iff.1 hfr.2.1
          have hn2 : mn < (D k).n2 := by omega
          have hn2' : (mn : Int) < ((D k).n2 : Int) := by omega
          have hmn0 : (0 : Int) ≤ (mn : Int) := by omega
          have hlt' : (k : Int) < (nd : Int) := by omega
          have hk0 : (0 : Int) ≤ (k : Int) := by omega
          obtain ⟨b2, o2, e2, hb2, hc2⟩ := hr.i2.ptr (by omega)
          have dd := (World.cell?_of_block (G.out.block b2 hb2 (by simp))).trans (hc2 mn hn2)
          subst hbo
          rw [e2] at d2
          replace d2 := (World.cell?_of_block (G.out.block b hb (by simp))).trans d2
          have hwl := G.out.size
          have hHd : Blk wr.drew (w.heap.size + 1) #[.int .i64 m, .int .i64 (smF D m s k)] 30 := H.out
          have hHB := H.out.lt
          clear hcc hr hfr hdl hc2
          go_wp2_with fail
          refine wp_region_held_drew (S := (fun w' => w'.cell? ⟨w.heap.size + 1, 0, none⟩ = some (.int .i64 m) ∧ w'.cell? ⟨b, off + k * 3 + 2, none⟩ = some (.slice (some ⟨b2, o2, none⟩) (D k).n2 (D k).c2) ∧ w'.cell? ⟨b2, o2 + mn, none⟩ = some (.int .i64 ((D k).z2 mn)))) (by kernel_rfl) (⟨H.out.cell 0, d2, dd⟩) (fun hHeld => ?_)
          have q1 : wr.cell? ⟨w.heap.size + 1, 1, none⟩ = some (.int .i64 (smF D m s k)) := H.out.cell 1
          have q2 := H.out.free 1
          refine wpAnyH_take (i := 0) (oi := ⟨some 29, _, _, _, _, _⟩) (v := ?_) rfl (by kernel_rfl) (by kernel_rfl) (by kernel_rfl) (fun _ _ _ h => h) (Or.inl ⟨by rfl, ?_⟩) (by assumption) ?_
          rotate_left
          · intro w hSw; (try dsimp only at hSw); go_simp; try with_reducible rfl
          simp only [Act.put, List.setIfInBounds_toArray, List.set_cons_zero, List.set_cons_succ]
          refine wpAnyH_take (i := 2) (oi := ⟨some 31, _, _, _, _, _⟩) (v := ?_) rfl (by kernel_rfl) (by kernel_rfl) (by kernel_rfl) (fun _ _ _ h => h) (Or.inl ⟨by rfl, ?_⟩) (by assumption) ?_
          rotate_left
          · intro w hSw; (try dsimp only at hSw); go_simp; try with_reducible rfl
          simp only [Act.put, List.setIfInBounds_toArray, List.set_cons_zero, List.set_cons_succ]
          refine wpAnyH_take (i := 3) (oi := ⟨some 32, _, _, _, _, _⟩) (v := ?_) rfl (by kernel_rfl) (by kernel_rfl) (by kernel_rfl) (fun _ _ _ h => h) (Or.inl ⟨by rfl, ?_⟩) (by assumption) ?_
          rotate_left
          · intro w hSw; (try dsimp only at hSw); go_simp; try with_reducible rfl
          simp only [Act.put, List.setIfInBounds_toArray, List.set_cons_zero, List.set_cons_succ]
          refine wpAnyH_take (i := 4) (oi := ⟨some 33, _, _, _, _, _⟩) (v := ?_) rfl (by kernel_rfl) (by kernel_rfl) (by kernel_rfl) (fun _ _ _ h => h) (Or.inl ⟨by rfl, ?_⟩) (by assumption) ?_
          rotate_left
          · intro w hSw; (try dsimp only at hSw); go_simp; try with_reducible rfl
          simp only [Act.put, List.setIfInBounds_toArray, List.set_cons_zero, List.set_cons_succ]
          refine wpAnyH_take (i := 5) (oi := ⟨some 34, _, _, _, _, _⟩) (v := ?_) rfl (by kernel_rfl) (by kernel_rfl) (by kernel_rfl) (fun _ _ _ h => h) (Or.inl ⟨by rfl, ?_⟩) (by assumption) ?_
          rotate_left
          · intro w hSw; (try dsimp only at hSw); go_simp; try with_reducible rfl
          simp only [Act.put, List.setIfInBounds_toArray, List.set_cons_zero, List.set_cons_succ]
          refine wpAnyH_take (i := 6) (oi := ⟨some 35, _, _, _, _, _⟩) (v := ?_) rfl (by kernel_rfl) (by kernel_rfl) (by kernel_rfl) (fun _ _ _ h => h) (Or.inl ⟨by rfl, ?_⟩) (by assumption) ?_
          rotate_left
          · intro w hSw; (try dsimp only at hSw); go_simp; try with_reducible rfl
          simp only [Act.put, List.setIfInBounds_toArray, List.set_cons_zero, List.set_cons_succ]
          refine wpAnyH_take (i := 7) (oi := ⟨some 36, _, _, _, _, _⟩) (v := ?_) rfl (by kernel_rfl) (by kernel_rfl) (by kernel_rfl) (fun _ _ _ h => h) (Or.inl ⟨by rfl, ?_⟩) (by assumption) ?_
          rotate_left
          · intro w hSw; (try dsimp only at hSw); go_simp; try with_reducible rfl
          simp only [Act.put, List.setIfInBounds_toArray, List.set_cons_zero, List.set_cons_succ]
          refine wpAnyH_take (i := 8) (oi := ⟨some 37, _, _, _, _, _⟩) (v := ?_) rfl (by kernel_rfl) (by kernel_rfl) (by kernel_rfl) (fun _ _ _ h => h) (Or.inl ⟨by rfl, ?_⟩) (by assumption) ?_
          rotate_left
          · intro w hSw; (try dsimp only at hSw); go_simp; try with_reducible rfl
          simp only [Act.put, List.setIfInBounds_toArray, List.set_cons_zero, List.set_cons_succ]
          refine wpAnyH_take (i := 9) (oi := ⟨some 38, _, _, _, _, _⟩) (v := ?_) rfl (by kernel_rfl) (by kernel_rfl) (by kernel_rfl) (fun _ _ _ h => h) (Or.inl ⟨by rfl, ?_⟩) (by assumption) ?_
          rotate_left
          · intro w hSw; (try dsimp only at hSw); go_simp; try with_reducible rfl
          simp only [Act.put, List.setIfInBounds_toArray, List.set_cons_zero, List.set_cons_succ]
          refine wpAnyH_take (i := 10) (oi := ⟨some 39, _, _, _, _, _⟩) (v := ?_) rfl (by kernel_rfl) (by kernel_rfl) (by kernel_rfl) (fun _ _ _ h => h) (Or.inl ⟨by rfl, ?_⟩) (by assumption) ?_
          rotate_left
          · intro w hSw; (try dsimp only at hSw); go_simp; try with_reducible rfl
          simp only [Act.put, List.setIfInBounds_toArray, List.set_cons_zero, List.set_cons_succ]
          refine wpAnyH_take (i := 11) (oi := ⟨some 40, _, _, _, _, _⟩) (v := ?_) rfl (by kernel_rfl) (by kernel_rfl) (by kernel_rfl) (fun _ _ _ h => h) (Or.inl ⟨by rfl, ?_⟩) (by assumption) ?_
          rotate_left
          · intro w hSw; (try dsimp only at hSw); go_simp; try with_reducible rfl
          simp only [Act.put, List.setIfInBounds_toArray, List.set_cons_zero, List.set_cons_succ]
          refine wpAnyH_ready (rs := [1]) (by kernel_rfl) (by simp) ?_
          refine AllReadyH.cons (o := ⟨some 30, _, _, _, _, _⟩) rfl (fun Kq hKq => ?_) AllReadyH.nil
          go_simp
          refine hKq.out _ _ (⟨H.out.cell 0, d2, dd⟩) (fun hHeld => ?_)
          clear hKq Kq
          refine wpAnyH_ready (rs := [12]) (by kernel_rfl) (by simp) ?_
          refine AllReadyH.cons (o := ⟨some 41, _, _, _, _, _⟩) rfl (fun Kq hKq => ?_) AllReadyH.nil
          go_simp
          go_at_call 18
          refine (ssum _ _ _).mono ?_
          rintro e w' ⟨rfl, rfl⟩
          refine hKq.out _ _ (⟨H.out.cell 0, d2, dd⟩) (fun hHeld => ?_)
          clear hKq Kq
          refine wpAnyH_take (i := 13) (oi := ⟨some 42, _, _, _, _, _⟩) (v := ?_) rfl (by kernel_rfl) (by kernel_rfl) (by kernel_rfl) (fun _ _ _ h => h) (Or.inl ⟨by rfl, ?_⟩) (by assumption) ?_
          rotate_left
          · intro w hSw; (try dsimp only at hSw); go_simp; try with_reducible rfl
          simp only [Act.put, List.setIfInBounds_toArray, List.set_cons_zero, List.set_cons_succ]
          refine wpAnyH_ready (rs := [14]) (by kernel_rfl) (by simp) ?_
          refine AllReadyH.cons (o := ⟨none, _, _, _, _, _⟩) rfl (fun Kq hKq => ?_) AllReadyH.nil
          go_simp
          have hg : wr.grownBy (wr.setCell ⟨w.heap.size + 1, 1, none⟩ (.int .i64 (sumF (smF D m s k) ((D k).z2 mn)))).drew (some (w.heap.size + 1)) := Draw.grown_trans (Mem.grown_set _ _ _ _) (Draw.grown_some (gdrew _))
          have H2 : Blk (wr.setCell ⟨w.heap.size + 1, 1, none⟩ (.int .i64 (sumF (smF D m s k) ((D k).z2 mn)))).drew (w.heap.size + 1) #[.int .i64 m, .int .i64 (sumF (smF D m s k) ((D k).z2 mn))] 30 := H.out.set 1 (.int .i64 (sumF (smF D m s k) ((D k).z2 mn)))
          have hsm : smF D m s (k + 1) = sumF (smF D m s k) ((D k).z2 mn) := by rw [← hwk]; rfl
          rw [← hsm] at H2 hg ⊢
          replace H := Lib.hid H2
          clear H2 q1 q2 hsm
          have h5 : ∀ b' : Nat, b' < wr.heap.size → b' ≠ w.heap.size + 1 → ∀ i, World.cell? (wr.setCell ⟨w.heap.size + 1, 1, none⟩ (.int .i64 (smF D m s (k + 1)))).drew ⟨b', i, none⟩ = wr.cell? ⟨b', i, none⟩ := fun b' hb' hne i => World.cell?_of_block (hg.block b' hb' (by intro e; exact hne (Option.some.inj e)))
          replace G := Lib.hid (grown_new G.out (by omega) hg)
          replace R := Lib.hid (R.out.kept hg (by intro e; have e := Option.some.inj e; omega))
          clear hg
          refine hKq.out _ _ (⟨H.out.cell 0, (h5 b (by omega) (by omega) _).trans d2, (h5 b2 (by omega) (by omega) _).trans dd⟩) (fun hHeld => ?_)
          clear hKq Kq
          refine wpAnyH_done (by kernel_rfl) ?_ _
          clear h5 d2 dd
          go_wp2
          go_roundw
          case rel => exact ⟨k + 1, by omega, by go_num, H.out, R.out, G.out⟩
          case measure => simp [intOf]; omega
        · obtain rfl : k = nd := by omega
          have hlR := R.out.lt; have hlH := H.out.lt
          have q0 : wr.cell? ⟨w.heap.size + 1, 0, none⟩ = some (.int .i64 m) := H.out.cell 0
          have q1 : wr.cell? ⟨w.heap.size + 1, 1, none⟩ = some (.int .i64 (smF D m s k)) := H.out.cell 1
          have hlt' : ¬ (k : Int) < (k : Int) := by omega
          go_wp2_with (first
            | (refine wpList_store_blk rfl 30 (.tmp 6) (.tmp 43) _ _ _ 30 R.out rfl rfl rfl rfl (by kernel_rfl) (by simp [Value.oneCell']) rfl ?_; intro V hgV hRV; have HGV := Lib.hid hgV; have HRV := Lib.hid hRV; clear hgV hRV))
          (try simp only [Exit.inBlock, Exit.then])
          refine bodyPost_ret (ret_hb rfl _ rfl HRV.out) rfl ?_
          exact ⟨by rw [fsV_yes HY.out]; rfl, grown_new G.out (by omega) HGV.out⟩
end Con
end Go.Proofs.YtlaimokedhdnjaaGreatDoor
