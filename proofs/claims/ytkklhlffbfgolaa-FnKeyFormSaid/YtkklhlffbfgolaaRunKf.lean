/-
  The walk of the law on a key's form.
-/
import Derived.Test.YtkklhlffbfgolaaQi
import Derived.Test.YtkklhlffbfgolaaKb
import Derived.Test.YtkklhlffbfgolaaRunKit
import Derived.Deep.RegionHeld3
namespace Go.Proofs.Ytkklhlffbfgolaa
namespace Run
open Go.RowKit Alg Mem Con Mp
set_option linter.unusedVariables false

theorem ikeyok_no (w : World) (need many : Int) (a1 : Option Addr) (n1 c1 : Nat) (z1 : Nat → Int) (a2 : Option Addr) (n2 c2 : Nat) (z2 : Nat → Int) (hA : Ints w a1 n1 z1) (hB : Ints w a2 n2 z2) (hl1 : n1 ≤ 2000000) (hl2 : n2 ≤ 2000000) (h : kyF need many n1 z1 n2 z2 = false) :
    Calls Try.prog 12 #[.agg #[.int .i64 need, .int .i64 many, .slice a1 n1 c1, .slice a2 n2 c2]] w fun e w' => e = .returned (.bool false) ∧ w.grownBy w' none := h ▸ ikeyok w need many a1 n1 c1 z1 a2 n2 c2 z2 hA hB hl1 hl2
theorem ikeypub_yes (w : World) (need many : Int) (a1 : Option Addr) (n1 c1 : Nat) (z1 : Nat → Int) (a2 : Option Addr) (n2 c2 : Nat) (z2 : Nat → Int) (x : Int) (hA : Ints w a1 n1 z1) (hB : Ints w a2 n2 z2) (hl1 : n1 ≤ 2000000) (hl2 : n2 ≤ 2000000) (h : kpub need many n1 z1 n2 z2 = x) :
    Calls Try.prog 13 #[.agg #[.int .i64 need, .int .i64 many, .slice a1 n1 c1, .slice a2 n2 c2]] w fun e w' => e = .returned (.int .i64 x) ∧ w.grownBy w' none := h ▸ ikeypub w need many a1 n1 c1 z1 a2 n2 c2 z2 hA hB hl1 hl2
/-- What the law holds in memory: the key, three that are spoilt, their rows. -/
structure F4 (W : World) (K KA KB KC : Nat) (need many : Int) (ag : Option Addr) (ng cg : Nat) (zg : Nat → Int) (bc oc nc cc : Nat) (zc : Nat → Int) (b5 c5 : Nat) (z5 : Nat → Int) (b2 : Nat) : Prop where
  kk : Ky W K need many (.slice ag ng cg) (.slice (some ⟨bc, oc, none⟩) nc cc)
  ka : Ky W KA need many (.slice ag ng cg) (.slice (some ⟨b5, 0, none⟩) (nc + 1) c5)
  kb : Ky W KB 0 many (.slice ag ng cg) (.slice (some ⟨bc, oc, none⟩) nc cc)
  kc : Ky W KC need many (.slice (some ⟨b2, 0, none⟩) 2 2) (.slice (some ⟨bc, oc, none⟩) nc cc)
  ig : Ints W ag ng zg
  ic : Ints W (some ⟨bc, oc, none⟩) nc zc
  i5 : Ints W (some ⟨b5, 0, none⟩) (nc + 1) z5
  i2 : Ints W (some ⟨b2, 0, none⟩) 2 (fun _ => 2)
  c0 : bc < W.heap.size ∧ W.cell? ⟨bc, oc, none⟩ = some (.int .i64 (zc 0))
theorem F4.kept {W W' : World} {K KA KB KC : Nat} {need many : Int} {ag : Option Addr} {ng cg : Nat} {zg : Nat → Int} {bc oc nc cc : Nat} {zc : Nat → Int} {b5 c5 : Nat} {z5 : Nat → Int} {b2 : Nat} (h : F4 W K KA KB KC need many ag ng cg zg bc oc nc cc zc b5 c5 z5 b2) (hg : W.grownBy W' none) : F4 W' K KA KB KC need many ag ng cg zg bc oc nc cc zc b5 c5 z5 b2 :=
  ⟨h.kk.kept hg, h.ka.kept hg, h.kb.kept hg, h.kc.kept hg, h.ig.kept hg, h.ic.kept hg, h.i5.kept hg, h.i2.kept hg, by have := hg.size; have := h.c0.1; omega, (World.cell?_of_block (hg.block _ h.c0.1 (by simp))).trans h.c0.2⟩
def C17 (W : World) (K KA KB KC : Nat) (need many : Int) (ag : Option Addr) (ng cg : Nat) (bc oc nc cc : Nat) (zc : Nat → Int) (b5 c5 : Nat) (b2 : Nat) : Prop :=
  W.cell? ⟨K, 0, none⟩ = some (.int .i64 need) ∧ W.cell? ⟨K, 1, none⟩ = some (.int .i64 many) ∧ W.cell? ⟨K, 2, none⟩ = some (.slice ag ng cg) ∧ W.cell? ⟨K, 3, none⟩ = some (.slice (some ⟨bc, oc, none⟩) nc cc) ∧
  W.cell? ⟨KA, 0, none⟩ = some (.int .i64 need) ∧ W.cell? ⟨KA, 1, none⟩ = some (.int .i64 many) ∧ W.cell? ⟨KA, 2, none⟩ = some (.slice ag ng cg) ∧ W.cell? ⟨KA, 3, none⟩ = some (.slice (some ⟨b5, 0, none⟩) (nc + 1) c5) ∧
  W.cell? ⟨KB, 0, none⟩ = some (.int .i64 0) ∧ W.cell? ⟨KB, 1, none⟩ = some (.int .i64 many) ∧ W.cell? ⟨KB, 2, none⟩ = some (.slice ag ng cg) ∧ W.cell? ⟨KB, 3, none⟩ = some (.slice (some ⟨bc, oc, none⟩) nc cc) ∧
  W.cell? ⟨KC, 0, none⟩ = some (.int .i64 need) ∧ W.cell? ⟨KC, 1, none⟩ = some (.int .i64 many) ∧ W.cell? ⟨KC, 2, none⟩ = some (.slice (some ⟨b2, 0, none⟩) 2 2) ∧ W.cell? ⟨KC, 3, none⟩ = some (.slice (some ⟨bc, oc, none⟩) nc cc) ∧
  W.cell? ⟨bc, oc, none⟩ = some (.int .i64 (zc 0))
theorem F4.cells {W : World} {K KA KB KC : Nat} {need many : Int} {ag : Option Addr} {ng cg : Nat} {zg : Nat → Int} {bc oc nc cc : Nat} {zc : Nat → Int} {b5 c5 : Nat} {z5 : Nat → Int} {b2 : Nat} (h : F4 W K KA KB KC need many ag ng cg zg bc oc nc cc zc b5 c5 z5 b2) : C17 W K KA KB KC need many ag ng cg bc oc nc cc zc b5 c5 b2 :=
  ⟨h.kk.c0, h.kk.c1, h.kk.c2, h.kk.c3, h.ka.c0, h.ka.c1, h.ka.c2, h.ka.c3, h.kb.c0, h.kb.c1, h.kb.c2, h.kb.c3, h.kc.c0, h.kc.c1, h.kc.c2, h.kc.c3, h.c0.2⟩
theorem F4.drew {W : World} {K KA KB KC : Nat} {need many : Int} {ag : Option Addr} {ng cg : Nat} {zg : Nat → Int} {bc oc nc cc : Nat} {zc : Nat → Int} {b5 c5 : Nat} {z5 : Nat → Int} {b2 : Nat} (h : F4 W K KA KB KC need many ag ng cg zg bc oc nc cc zc b5 c5 z5 b2) : F4 W.drew K KA KB KC need many ag ng cg zg bc oc nc cc zc b5 c5 z5 b2 :=
  ⟨h.kk.keptB rfl (Nat.le_refl _), h.ka.keptB rfl (Nat.le_refl _), h.kb.keptB rfl (Nat.le_refl _), h.kc.keptB rfl (Nat.le_refl _), h.ig.keptB (fun _ _ => rfl) (Nat.le_refl _), h.ic.keptB (fun _ _ => rfl) (Nat.le_refl _), h.i5.keptB (fun _ _ => rfl) (Nat.le_refl _), h.i2.keptB (fun _ _ => rfl) (Nat.le_refl _), h.c0⟩
theorem blk_ky {w : World} {b : Nat} {need many : Int} {s1 s2 : Value} {T : TypeId} (h : Blk w b #[.int .i64 need, .int .i64 many, s1, s2] T) : Ky w b need many s1 s2 := ⟨h.lt, h.cell 0, h.cell 1, h.cell 2, h.cell 3⟩
def formW (w5 : World) (KA : Nat) (need many : Int) (ag : Option Addr) (ng cg bc oc nc cc b5 c5 : Nat) : World :=
  (((w5.setCell ⟨KA, 3, none⟩ (.slice (some ⟨b5, 0, none⟩) (nc + 1) c5)).alloc (.cells #[.int .i64 0, .int .i64 many, .slice ag ng cg, .slice (some ⟨bc, oc, none⟩) nc cc] 25)).alloc (.cells #[.int .i64 need, .int .i64 many, .slice (some ⟨w5.heap.size + 1 + 1, 0, none⟩) 2 2, .slice (some ⟨bc, oc, none⟩) nc cc] 25)).alloc (.cells #[.int .i64 2, .int .i64 2] 3)
theorem form_f4 {w3 w5 : World} {K : Nat} {need many : Int} {ag : Option Addr} {ng cg : Nat} {zg : Nat → Int} {bc oc nc cc : Nat} {zc : Nat → Int} {b5 c5 : Nat} {z5 : Nat → Int} {o : Obj} (hK : Blk w3 K #[.int .i64 need, .int .i64 many, .slice ag ng cg, .slice (some ⟨bc, oc, none⟩) nc cc] 25) (hA : Blk w5 w3.heap.size #[.int .i64 need, .int .i64 many, .slice ag ng cg, .slice (some ⟨bc, oc, none⟩) nc cc] 25) (hg : (w3.alloc o).grownBy w5 none) (hr : Row w5 (w3.heap.size + 1) 3 b5 (nc + 1) c5 z5) (ig : Ints w3 ag ng zg) (ic : Ints w3 (some ⟨bc, oc, none⟩) nc zc) (hb : bc < w3.heap.size) (h0 : w3.cell? ⟨bc, oc, none⟩ = some (.int .i64 (zc 0))) :
    F4 (formW w5 w3.heap.size need many ag ng cg bc oc nc cc b5 c5) K w3.heap.size w5.heap.size (w5.heap.size + 1) need many ag ng cg zg bc oc nc cc zc b5 c5 z5 (w5.heap.size + 1 + 1) ∧ w3.grownBy (formW w5 w3.heap.size need many ag ng cg bc oc nc cc b5 c5) none := by
  have hf := hr.from_
  have gs := grown_set w5 w3.heap.size 3 (.slice (some ⟨b5, 0, none⟩) (nc + 1) c5)
  have g1 : w3.grownBy (w5.setCell ⟨w3.heap.size, 3, none⟩ (.slice (some ⟨b5, 0, none⟩) (nc + 1) c5)) none := grown_new (gtr (Draw.grown_alloc w3 o none) hg) (Nat.le_refl _) gs
  have ga := fun (w : World) (o : Obj) => Draw.grown_alloc w o none
  have hs : (w5.setCell ⟨w3.heap.size, 3, none⟩ (.slice (some ⟨b5, 0, none⟩) (nc + 1) c5)).heap.size = w5.heap.size := by simp
  have gF : w3.grownBy (formW w5 w3.heap.size need many ag ng cg bc oc nc cc b5 c5) none := gtr (gtr (gtr g1 (ga _ _)) (ga _ _)) (ga _ _)
  have q1 := ((Blk.new (w5.setCell ⟨w3.heap.size, 3, none⟩ (.slice (some ⟨b5, 0, none⟩) (nc + 1) c5)) #[.int .i64 0, .int .i64 many, .slice ag ng cg, .slice (some ⟨bc, oc, none⟩) nc cc] 25).keptN (ga _ (.cells #[.int .i64 need, .int .i64 many, .slice (some ⟨w5.heap.size + 1 + 1, 0, none⟩) 2 2, .slice (some ⟨bc, oc, none⟩) nc cc] 25))).keptN (ga _ (.cells #[.int .i64 2, .int .i64 2] 3))
  rw [hs] at q1
  have s1 : ((w5.setCell ⟨w3.heap.size, 3, none⟩ (.slice (some ⟨b5, 0, none⟩) (nc + 1) c5)).alloc (.cells #[.int .i64 0, .int .i64 many, .slice ag ng cg, .slice (some ⟨bc, oc, none⟩) nc cc] 25)).heap.size = w5.heap.size + 1 := by show (Array.push _ _).size = _; rw [Array.size_push, hs]
  have q2 := (Blk.new ((w5.setCell ⟨w3.heap.size, 3, none⟩ (.slice (some ⟨b5, 0, none⟩) (nc + 1) c5)).alloc (.cells #[.int .i64 0, .int .i64 many, .slice ag ng cg, .slice (some ⟨bc, oc, none⟩) nc cc] 25)) #[.int .i64 need, .int .i64 many, .slice (some ⟨w5.heap.size + 1 + 1, 0, none⟩) 2 2, .slice (some ⟨bc, oc, none⟩) nc cc] 25).keptN (ga _ (.cells #[.int .i64 2, .int .i64 2] 3))
  rw [s1] at q2
  have q3 := Blk.new (((w5.setCell ⟨w3.heap.size, 3, none⟩ (.slice (some ⟨b5, 0, none⟩) (nc + 1) c5)).alloc (.cells #[.int .i64 0, .int .i64 many, .slice ag ng cg, .slice (some ⟨bc, oc, none⟩) nc cc] 25)).alloc (.cells #[.int .i64 need, .int .i64 many, .slice (some ⟨w5.heap.size + 1 + 1, 0, none⟩) 2 2, .slice (some ⟨bc, oc, none⟩) nc cc] 25)) #[.int .i64 2, .int .i64 2] 3
  have s2 : (((w5.setCell ⟨w3.heap.size, 3, none⟩ (.slice (some ⟨b5, 0, none⟩) (nc + 1) c5)).alloc (.cells #[.int .i64 0, .int .i64 many, .slice ag ng cg, .slice (some ⟨bc, oc, none⟩) nc cc] 25)).alloc (.cells #[.int .i64 need, .int .i64 many, .slice (some ⟨w5.heap.size + 1 + 1, 0, none⟩) 2 2, .slice (some ⟨bc, oc, none⟩) nc cc] 25)).heap.size = w5.heap.size + 1 + 1 := by show (Array.push _ _).size = _; rw [Array.size_push, s1]
  rw [s2] at q3
  refine ⟨⟨blk_ky (hK.keptN gF), blk_ky ((((hA.set 3 _).keptN (ga _ _)).keptN (ga _ _)).keptN (ga _ _)), blk_ky q1, blk_ky q2, ig.kept gF, ic.kept gF, ((((hr.kept gs (by intro e; have e := Option.some.inj e; omega)).keptN (ga _ _)).keptN (ga _ _)).keptN (ga _ _)).ints, .inr ⟨_, 0, rfl, q3.lt, fun j hj => ?_⟩, by have := gF.size; omega, (World.cell?_of_block (gF.block _ hb (by simp))).trans h0⟩, gF⟩
  rw [Nat.zero_add]
  refine (q3.cell j).trans ?_
  rcases (by omega : j = 0 ∨ j = 1) with rfl | rfl <;> rfl
set_option maxRecDepth 100000 in
set_option maxHeartbeats 2000000 in
theorem FnKeyForm (a : Option Addr) (len cap : Nat) (w : World) (hB : Draw.Bytes w w.heap.size a len) (hc : len ≤ cap) (hm : cap ≤ maxLen) :
    Calls Try.prog 4 #[.slice a len cap] w (Yes w) := by
  by_cases hbig : 1048576 < len
  · have hbig' : (1048576 : Int) < (len : Int) := by omega
    clear hB
    go_enter Try.func4, Try.ntmps4
    go_wp2
    go_ret
    exact ⟨rfl, Below.refl _ _⟩
  have hbig' : ¬ (1048576 : Int) < (len : Int) := by omega
  obtain ⟨i0, hi, hz0, hz1, hz2⟩ := info_parts info_int
  go_enter Try.func4, Try.ntmps4
  go_wp2_with fail
  refine (Draw.drawKO _ a len cap hB hc hm).mono ?_
  rintro e w1 ⟨need, many, ag, ng, cg, zg, ac, nc, cc, zc, rfl, hk, hg⟩
  have hng := hk.g6; have hnc := hk.c5
  have HA := Lib.hid hk.ig; have HC := Lib.hid hk.ic; have HRg := Lib.hid hk.rg; have HRc := Lib.hid hk.rc; have G1 := Lib.hid hg; clear hk hg hB
  have g0 := Draw.grown_alloc w1 (.cells #[.int .i64 need, .int .i64 many, .slice ag ng cg, .slice ac nc cc] 25) none
  have HA1 := Lib.hid (HA.out.kept g0); have HC1 := Lib.hid (HC.out.kept g0); have G2 := Lib.hid (gtr G1.out g0)
  have HK1 := Lib.hid (Blk.new w1 #[.int .i64 need, .int .i64 many, .slice ag ng cg, .slice ac nc cc] 25)
  clear g0 HA HC
  go_wp2_with fail
  refine (ikeyok _ need many _ _ _ zg _ _ _ zc HA1.out HC1.out (by omega) (by omega)).mono ?_
  rintro e w2 ⟨rfl, hg⟩
  have HA2 := Lib.hid (HA1.out.kept hg); have HC2 := Lib.hid (HC1.out.kept hg); have HK2 := Lib.hid (HK1.out.keptN hg); have G3 := Lib.hid (gtr G2.out hg); clear hg
  obtain ⟨k0, k1, k2, k3, f0, f1, f2, f3⟩ := HK2.out.all4
  go_wp2_with fail
  refine (skeyok _ need many _ _ _ zg _ _ _ zc HA2.out HC2.out (by omega) (by omega)).mono ?_
  rintro e w3 ⟨rfl, hg⟩
  have HA3 := Lib.hid (HA2.out.kept hg); have HC3 := Lib.hid (HC2.out.kept hg); have HK3 := Lib.hid (HK2.out.keptN hg); have G4 := Lib.hid (gtr G3.out hg); clear hg k0 k1 k2 k3 f0 f1 f2 f3
  obtain ⟨k0, k1, k2, k3, f0, f1, f2, f3⟩ := HK3.out.all4
  have hself : (kyF need many ng zg nc zc != kyF need many ng zg nc zc) = false := by simp
  cases hk : kyF need many ng zg nc zc with
  | false =>
    rw [hk] at hself
    go_wp2_with fail
    refine (skeyok _ need many _ _ _ zg _ _ _ zc HA3.out HC3.out (by omega) (by omega)).mono ?_
    rintro e w4 ⟨rfl, hg⟩
    rw [hk]
    have G5 := Lib.hid (gtr G4.out hg); clear hg
    go_wp2
    go_ret
    exact ⟨rfl, Draw.below_of G5.out⟩
  | true =>
    rw [hk] at hself
    obtain ⟨hcr, hnn, hcok, hdm, hup⟩ := ky_iff.1 hk
    obtain ⟨hc1, hc5, hcg⟩ := cokz_iff.1 hcok
    have HG0 := Lib.hid (hcg 0 (by omega))
    have HP := Lib.hid (kpub_yes hk)
    obtain ⟨bc, oc, rfl, hbc, hcc⟩ := HC3.out.ptr (by omega)
    have hc0 := hcc 0 (by omega)
    clear hcg hdm hup hcok hcc
    have hK3l := HK3.out.lt
    have HNews := Lib.hid (Draw.ints_news (HC3.out.kept (Draw.grown_alloc w3 (.cells #[.int .i64 need, .int .i64 many, .slice ag ng cg, .slice (some ⟨bc, oc, none⟩) nc cc] 25) none) |>.kept (Draw.grown_alloc _ (.cells #[] 3) none)))
    have HE0 := Lib.hid (row_empty (w3.alloc (.cells #[.int .i64 need, .int .i64 many, .slice ag ng cg, .slice (some ⟨bc, oc, none⟩) nc cc] 25)) 3 zc).owns
    have hsz : (w3.alloc (.cells #[.int .i64 need, .int .i64 many, .slice ag ng cg, .slice (some ⟨bc, oc, none⟩) nc cc] 25)).heap.size = w3.heap.size + 1 := by show (w3.heap.push _).size = _; simp
    rw [hsz] at HE0
    go_wp2_with (first
        | (at_builtin; refine wpList_append_own _ rfl _ _ 23 rfl (w3.heap.size + 1) 3 i0 (.int .i64 0) 1 8 und_ints hi hz0 hz1 hz2 rfl (by decide) _ 0 (vals zc 0) rfl HE0.out ⟨bc, oc, none⟩ nc cc (vals zc nc) rfl (by simp [vals_length]) HNews.out (Draw.vals_one _ _) (by unfold maxLen; omega) (by omega) (by simp) ?_; intro v4 w4 hown4 hgrow4 _; have HO4 := Lib.hid hown4; have HG4 := Lib.hid (grown_new (Draw.grown_alloc (w3.alloc (.cells #[.int .i64 need, .int .i64 many, .slice ag ng cg, .slice (some ⟨bc, oc, none⟩) nc cc] 25)) (.cells #[] 3) none) (Nat.le_of_eq hsz) hgrow4); have hs4 := HG4.out.size; clear hown4 hgrow4)
        | (at_builtin; refine wpList_append_own _ rfl _ _ 23 rfl (w3.heap.size + 1) 3 i0 (.int .i64 0) 1 8 und_ints hi hz0 hz1 hz2 rfl (by decide) v4 (0 + nc) (vals zc 0 ++ vals zc nc) rfl (HO4.out.alloc _) ⟨w4.heap.size, 0, none⟩ 1 1 [.int .i64 1] rfl rfl (cell_one_new _ _ _) (by simp [Value.oneCell']) (by unfold maxLen; omega) (by omega) (by simp; omega) ?_; intro v5 w5 hown5 hgrow5 _; have hG5 := Draw.own_grown HG4.out HO4.out (Nat.le_of_eq hsz) hgrow5; obtain ⟨b5, c5, rfl, hr5⟩ := Draw.two_row (nc := nc) (z := zc) hown5 (by omega) (by simp [vals]); have HR5 := Lib.hid hr5; have HK5 := Lib.hid ((HK3.out.keptN (Draw.grown_alloc w3 _ none)).keptN hG5); have HA5 := Lib.hid ((Blk.new w3 #[.int .i64 need, .int .i64 many, .slice ag ng cg, .slice (some ⟨bc, oc, none⟩) nc cc] 25).keptN hG5); have HGG := Lib.hid hG5; have hs5 := hG5.size; have hKl := HK5.out.lt; have hAl := HA5.out.lt; obtain ⟨k0', k1', k2', k3', f0', f1', f2', f3'⟩ := HK5.out.all4; obtain ⟨r0', r1', r2', r3', j0', j1', j2', j3'⟩ := HA5.out.all4; clear hown5 hgrow5 hr5 hG5))
    obtain ⟨hF, hGF⟩ := form_f4 HK3.out HA5.out HGG.out HR5.out HA3.out HC3.out hbc hc0
    have NA := Lib.hid (show kyF need many ng zg (nc + 1) (fun j => if j < nc then zc j else 1) = false from ky_len (by omega))
    have NB := Lib.hid (show kyF 0 many ng zg nc zc = false from ky_crew (by simp [crewF]))
    have NC := Lib.hid (show kyF need many 2 (fun _ => 2) nc zc = false from ky_up (by decide))
    have l1 : ng ≤ 2000000 := by omega
    have hnc1 : (0 : Int) < (nc : Int) := by omega
    have hnc0 : 0 < nc := by omega
    have l2 : nc ≤ 2000000 := by omega
    have l3 : nc + 1 ≤ 2000000 := by omega
    have l4 : 2 ≤ 2000000 := by omega
    have HGW := Lib.hid (gtr G4.out hGF); have HF := Lib.hid hF
    clear hnn hcr hself hk hF hGF hK3l hKl hAl k0 k1 k2 k3 f0 f1 f2 f3 HE0 HNews hc0 HGG HR5 HA5 HK5 hs4 hs5 hsz k0' k1' k2' k3' f0' f1' f2' f3' r0' r1' r2' r3' j0' j1' j2' j3' HO4 HG4
    unfold formW at HF HGW
    generalize hW : ((((w5.setCell ⟨w3.heap.size, 3, none⟩ (.slice (some ⟨b5, 0, none⟩) (nc + 1) c5)).alloc (.cells #[.int .i64 0, .int .i64 many, .slice ag ng cg, .slice (some ⟨bc, oc, none⟩) nc cc] 25)).alloc (.cells #[.int .i64 need, .int .i64 many, .slice (some ⟨w5.heap.size + 1 + 1, 0, none⟩) 2 2, .slice (some ⟨bc, oc, none⟩) nc cc] 25)).alloc (.cells #[.int .i64 2, .int .i64 2] 3)) = W at HF HGW ⊢
    have HF0 := Lib.hid HF.out.drew
    have hS5 := HF.out.cells
    unfold C17 at hS5
    clear hW
    go_region_held3 (fun w' => w'.cell? ⟨w1.heap.size, 0, none⟩ = some (.int .i64 need) ∧ w'.cell? ⟨w1.heap.size, 1, none⟩ = some (.int .i64 many) ∧ w'.cell? ⟨w1.heap.size, 2, none⟩ = some (.slice ag ng cg) ∧ w'.cell? ⟨w1.heap.size, 3, none⟩ = some (.slice (some ⟨bc, oc, none⟩) nc cc) ∧ w'.cell? ⟨w3.heap.size, 0, none⟩ = some (.int .i64 need) ∧ w'.cell? ⟨w3.heap.size, 1, none⟩ = some (.int .i64 many) ∧ w'.cell? ⟨w3.heap.size, 2, none⟩ = some (.slice ag ng cg) ∧ w'.cell? ⟨w3.heap.size, 3, none⟩ = some (.slice (some ⟨b5, 0, none⟩) (nc + 1) c5) ∧ w'.cell? ⟨w5.heap.size, 0, none⟩ = some (.int .i64 0) ∧ w'.cell? ⟨w5.heap.size, 1, none⟩ = some (.int .i64 many) ∧ w'.cell? ⟨w5.heap.size, 2, none⟩ = some (.slice ag ng cg) ∧ w'.cell? ⟨w5.heap.size, 3, none⟩ = some (.slice (some ⟨bc, oc, none⟩) nc cc) ∧ w'.cell? ⟨w5.heap.size + 1, 0, none⟩ = some (.int .i64 need) ∧ w'.cell? ⟨w5.heap.size + 1, 1, none⟩ = some (.int .i64 many) ∧ w'.cell? ⟨w5.heap.size + 1, 2, none⟩ = some (.slice (some ⟨w5.heap.size + 1 + 1, 0, none⟩) 2 2) ∧ w'.cell? ⟨w5.heap.size + 1, 3, none⟩ = some (.slice (some ⟨bc, oc, none⟩) nc cc) ∧ w'.cell? ⟨bc, oc, none⟩ = some (.int .i64 (zc 0))) (first | exact hS11 | exact hS10 | exact hS9 | exact hS8 | exact hS7 | exact hS6 | exact hS5) (first
      | (go_at_call 12; (with_reducible refine (ikeyok_no _ need many _ _ _ zg _ _ _ _ HF0.out.ig HF0.out.i5 l1 l3 NA.out).mono ?_); rintro e w6 ⟨rfl, hg⟩; have Hg := Lib.hid (show W.grownBy w6 none from ⟨hg.os, hg.tape, hg.output, hg.size, hg.block⟩); have F6 := Lib.hid (HF.out.kept Hg.out); have G6 := Lib.hid (gtr HGW.out Hg.out); have hS6 := F6.out.cells; unfold C17 at hS6; clear hg)
      | (go_at_call 12; (with_reducible refine (ikeyok_no _ 0 many _ _ _ zg _ _ _ zc F6.out.ig F6.out.ic l1 l2 NB.out).mono ?_); rintro e w7 ⟨rfl, hg⟩; have F7 := Lib.hid (F6.out.kept hg); have G7 := Lib.hid (gtr G6.out hg); have hS7 := F7.out.cells; unfold C17 at hS7; clear hg)
      | (go_at_call 12; (with_reducible refine (ikeyok_no _ need many _ 2 2 (fun _ => 2) _ _ _ zc F7.out.i2 F7.out.ic l4 l2 NC.out).mono ?_); rintro e w8 ⟨rfl, hg⟩; have F8 := Lib.hid (F7.out.kept hg); have G8 := Lib.hid (gtr G7.out hg); have hS8 := F8.out.cells; unfold C17 at hS8; clear hg)
      | (go_at_call 13; (with_reducible refine (ikeypub_yes _ need many _ _ _ zg _ _ _ zc (zc 0) F8.out.ig F8.out.ic l1 l2 HP.out).mono ?_); rintro e w9 ⟨rfl, hg⟩; have F9 := Lib.hid (F8.out.kept hg); have G9 := Lib.hid (gtr G8.out hg); have hS9 := F9.out.cells; unfold C17 at hS9; clear hg)
      | (go_at_call 13; (with_reducible refine (ikeypub_yes _ need many _ _ _ zg _ _ _ zc (zc 0) F9.out.ig F9.out.ic l1 l2 HP.out).mono ?_); rintro e w10 ⟨rfl, hg⟩; have F10 := Lib.hid (F9.out.kept hg); have G10 := Lib.hid (gtr G9.out hg); have hS10 := F10.out.cells; unfold C17 at hS10; clear hg)
      | (go_at_call 14; (with_reducible refine (igok_yes _ _ HG0.out).mono ?_); rintro e w11 ⟨rfl, hg⟩; have F11 := Lib.hid (F10.out.kept hg); have G11 := Lib.hid (gtr G10.out hg); have hS11 := F11.out.cells; unfold C17 at hS11; clear hg))
    all_goals
      go_wp2
      go_ret
      exact ⟨rfl, Draw.below_of G11.out⟩

end Run
end Go.Proofs.Ytkklhlffbfgolaa
