/-
  How the model makes a key of deals, whatever they are.
-/
import Derived.Test.YtkklhlffbfgolaaDoorQd
import Derived.Test.YtkklhlffbfgolaaDoorSk
import Derived.Test.YtkklhlffbfgolaaDoorKs
import Derived.Test.YtkklhlffbfgolaaDoorKc
namespace Go.Proofs.YtkklhlffbfgolaaDoor
namespace Draw
open Go.RowKit Alg Mem Con Mp
set_option linter.unusedVariables false

theorem row_blk {w : World} {lo : Nat} {E : TypeId} {b len cap : Nat} {z : Nat → Int} {b' : Nat} {vs : Array Value} {T : TypeId} (h : Row w lo E b len cap z) (k : Blk w b' vs T) (hne : E ≠ T) : b ≠ b' := by
  rintro rfl
  obtain ⟨c, ⟨cur, hb, _, _⟩, _⟩ := h.row
  unfold Blk at k
  rw [hb] at k
  injection k with k
  injection k with _ k2 _
  exact hne k2
theorem app_row2 {w1 : World} {lo : Nat} {E : TypeId} {v' : Value} {k : Nat} {z : Nat → Int} {n : Int} (h : w1.ownsRow lo E 1 v' (k + 1) (vals z k ++ [.int .i64 n])) :
    ∃ b cap, v' = .slice (some ⟨b, 0, none⟩) (k + 1) cap ∧ Row w1 lo E b (k + 1) cap (fun j => if j < k then z j else n) := by
  have h' : w1.ownsRow lo E 1 v' (k + 1) (vals (fun j => if j < k then z j else n) k ++ [.int .i64 n]) := by
    rw [vals_congr (z := fun j => if j < k then z j else n) (y := z) (k := k) fun j hj => by simp [hj]]; exact h
  exact app_row h' (by simp)
theorem ret_key2 {fn : Func} {p u : Tmp} (h : fn.results = #[.cell p 25, .tmp u]) (tmps : Array Value) {w : World} {b : Nat} {v0 v1 v2 v3 : Value} {T : TypeId} (hp : tmps.getD p undef = .pointer (some ⟨b, 0, none⟩)) (hb : Blk w b #[v0, v1, v2, v3] T) :
    (results fn tmps).run Tryd.prog w = .ok (.tuple #[.agg #[v0, v1, v2, v3], tmps.getD u undef]) w := by
  have hp' : tmps[p]?.getD undef = .pointer (some ⟨b, 0, none⟩) := by simpa using hp
  simp [results, h, hp', asAddr, run_loadVar_row w b T 25 #[v0, v1, v2, v3] (0, 0) _ hb Tryd.underlying25 rfl size_key, Result.andThen]
/-- A key of the call's own, or none at all. -/
def GotK (w : World) (e : Ending) (w' : World) : Prop :=
  ∃ (need many : Nat) (ag : Option Addr) (ng cg : Nat) (zg : Nat → Int) (ac : Option Addr) (nc cc : Nat) (zc : Nat → Int) (ok : Bool), e = .returned (.tuple #[.agg #[.int .i64 need, .int .i64 many, .slice ag ng cg, .slice ac nc cc], .bool ok]) ∧ need ≤ 5 ∧ many ≤ 5 ∧ ng ≤ 6 ∧ nc ≤ 5 ∧ Ints w' ag ng zg ∧ Ints w' ac nc zc ∧ (∀ b off, ag = some ⟨b, off, none⟩ → w.heap.size ≤ b ∧ b < w'.heap.size) ∧ (∀ b off, ac = some ⟨b, off, none⟩ → w.heap.size ≤ b ∧ b < w'.heap.size) ∧ w.grownBy w' none ∧ (ok = true → 1 ≤ many) ∧ ((∃ b off, ac = some ⟨b, off, none⟩) ∨ ac = none ∧ nc = 0 ∧ cc = 0)
theorem gotk_none {w w1 : World} {R : Nat} (hb : Blk w1 R #[.int .i64 0, .int .i64 0, .slice none 0 0, .slice none 0 0] 25) (hR : w.heap.size ≤ R) (hg : w.grownBy w1 none) :
    Blk ((((w1.setCell ⟨R, 0, none⟩ (.int .i64 0)).setCell ⟨R, 1, none⟩ (.int .i64 0)).setCell ⟨R, 2, none⟩ (.slice none 0 0)).setCell ⟨R, 3, none⟩ (.slice none 0 0)) R #[.int .i64 0, .int .i64 0, .slice none 0 0, .slice none 0 0] 25 ∧
    GotK w (.returned (.tuple #[.agg #[.int .i64 0, .int .i64 0, .slice none 0 0, .slice none 0 0], .bool false])) ((((w1.setCell ⟨R, 0, none⟩ (.int .i64 0)).setCell ⟨R, 1, none⟩ (.int .i64 0)).setCell ⟨R, 2, none⟩ (.slice none 0 0)).setCell ⟨R, 3, none⟩ (.slice none 0 0)) := by
  have g1 := gtr' (gtr' (gtr' (grown_set w1 R 0 (.int .i64 0)) (grown_set _ R 1 (.int .i64 0))) (grown_set _ R 2 (.slice none 0 0))) (grown_set _ R 3 (.slice none 0 0))
  exact ⟨(((hb.set 0 _).set 1 _).set 2 _).set 3 _, 0, 0, none, 0, 0, fun _ => 0, none, 0, 0, fun _ => 0, false, rfl, by omega, by omega, by omega, by omega, .inl rfl, .inl rfl, (fun b off e => by cases e), (fun b off e => by cases e), grown_new hg hR g1, by simp, .inr ⟨rfl, rfl, rfl⟩⟩
/-- What holds while a key is made. -/
structure KSt (w2 : World) (need many : Int) (K bg ng cg : Nat) (zg : Nat → Int) (bc nc cc : Nat) (zc : Nat → Int) (W : World) : Prop where
  k : Blk W K #[.int .i64 need, .int .i64 many, .slice (some ⟨bg, 0, none⟩) ng cg, .slice (some ⟨bc, 0, none⟩) nc cc] 25
  rg : Row W w2.heap.size 3 bg ng cg zg
  rc : Row W w2.heap.size 3 bc nc cc zc
  ne : bg < bc
  K0 : w2.heap.size ≤ K
  g : w2.grownBy W none
theorem KSt.quiet {w2 : World} {need many : Int} {K bg ng cg : Nat} {zg : Nat → Int} {bc nc cc : Nat} {zc : Nat → Int} {W W' : World} (h : KSt w2 need many K bg ng cg zg bc nc cc zc W) (hg : W.grownBy W' none) : KSt w2 need many K bg ng cg zg bc nc cc zc W' :=
  ⟨h.k.keptN hg, h.rg.keptN hg, h.rc.keptN hg, h.ne, h.K0, gtr h.g hg⟩
def stored4 (w : World) (R : Nat) (v0 v1 v2 v3 : Value) : World := (((w.setCell ⟨R, 0, none⟩ v0).setCell ⟨R, 1, none⟩ v1).setCell ⟨R, 2, none⟩ v2).setCell ⟨R, 3, none⟩ v3
theorem gotk_some {w w3 W : World} {R need many K bg ng cg bc nc cc : Nat} {zg zc : Nat → Int} (hb : Blk W R #[.int .i64 0, .int .i64 0, .slice none 0 0, .slice none 0 0] 25) (hR : w.heap.size ≤ R) (hg : w.grownBy w3 none) (hR3 : R < w3.heap.size) (h : KSt w3 need many K bg ng cg zg bc nc cc zc W) (hng : ng ≤ 6) (hnc : nc ≤ 5) (hn : 1 ≤ need ∧ need ≤ 5) (hm : 1 ≤ many ∧ many ≤ 5) :
    Blk (stored4 W R (.int .i64 need) (.int .i64 many) (.slice (some ⟨bg, 0, none⟩) ng cg) (.slice (some ⟨bc, 0, none⟩) nc cc)) R #[.int .i64 need, .int .i64 many, .slice (some ⟨bg, 0, none⟩) ng cg, .slice (some ⟨bc, 0, none⟩) nc cc] 25 ∧
    GotK w (.returned (.tuple #[.agg #[.int .i64 need, .int .i64 many, .slice (some ⟨bg, 0, none⟩) ng cg, .slice (some ⟨bc, 0, none⟩) nc cc], .bool true])) (stored4 W R (.int .i64 need) (.int .i64 many) (.slice (some ⟨bg, 0, none⟩) ng cg) (.slice (some ⟨bc, 0, none⟩) nc cc)) := by
  have g1 : W.grownBy (stored4 W R (.int .i64 need) (.int .i64 many) (.slice (some ⟨bg, 0, none⟩) ng cg) (.slice (some ⟨bc, 0, none⟩) nc cc)) (some R) := gtr' (gtr' (gtr' (grown_set W R 0 (.int .i64 need)) (grown_set _ R 1 (.int .i64 many))) (grown_set _ R 2 (.slice (some ⟨bg, 0, none⟩) ng cg))) (grown_set _ R 3 (.slice (some ⟨bc, 0, none⟩) nc cc))
  have e1 := h.rg.from_; have e2 := h.rc.from_
  have r1 := h.rg.kept g1 (by intro e; have e := Option.some.inj e; omega)
  have r2 := h.rc.kept g1 (by intro e; have e := Option.some.inj e; omega)
  have l1 := r1.lt; have l2 := r2.lt; have hs := hg.size
  exact ⟨(((hb.set 0 _).set 1 _).set 2 _).set 3 _, need, many, _, ng, cg, zg, _, nc, cc, zc, true, rfl, hn.2, hm.2, hng, hnc, r1.ints, r2.ints, (fun b off e => by injection e with e; injection e with e _; omega), (fun b off e => by injection e with e; injection e with e _; omega), grown_new (gtr hg h.g) hR g1, (fun _ => hm.1), .inl ⟨_, _, rfl⟩⟩
/-- The key begun. -/
theorem KSt.first (w : World) (need many : Int) (W : World) (hW : W = ((w.alloc (.cells #[] 3)).alloc (.cells #[.int .i64 1] 3)).alloc (.cells #[.int .i64 need, .int .i64 many, .slice (some ⟨w.heap.size, 0, none⟩) 0 0, .slice (some ⟨w.heap.size + 1, 0, none⟩) 1 1] 25)) :
    KSt w need many (w.heap.size + 1 + 1) w.heap.size 0 0 (fun _ => 0) (w.heap.size + 1) 1 1 (fun _ => 1) W := by
  subst hW
  have h1 := row_lit1 (w.alloc (.cells #[] 3)) 3 1 (fun _ => 1) rfl
  have hs : (w.alloc (.cells #[] 3)).heap.size = w.heap.size + 1 := by show (w.heap.push _).size = _; simp
  rw [hs] at h1
  exact ⟨blk_new3 w _ _ _ _, ((row_empty w 3 (fun _ => 0)).alloc _).alloc _, (h1.alloc _).lower (Nat.le_succ _), Nat.lt_succ_self _, by omega, gtr (gtr (grown_alloc _ _ _) (grown_alloc _ _ _)) (grown_alloc _ _ _)⟩
/-- The dealer appended, not yet stored. -/
structure KMid (w2 : World) (need many : Int) (K bg ng cg b6 c6 : Nat) (z6 : Nat → Int) (bc nc cc : Nat) (zc : Nat → Int) (W : World) : Prop where
  k : Blk W K #[.int .i64 need, .int .i64 many, .slice (some ⟨bg, 0, none⟩) ng cg, .slice (some ⟨bc, 0, none⟩) nc cc] 25
  rg : Row W w2.heap.size 3 b6 (ng + 1) c6 z6
  rc : Row W w2.heap.size 3 bc nc cc zc
  K0 : w2.heap.size ≤ K
  g : w2.grownBy W none
theorem KSt.app {w2 : World} {need many : Int} {K bg ng cg : Nat} {zg : Nat → Int} {bc nc cc : Nat} {zc : Nat → Int} {W W' : World} {o : Obj} {b6 c6 : Nat} {z6 : Nat → Int} (h : KSt w2 need many K bg ng cg zg bc nc cc zc W) (hg : (W.alloc o).grownBy W' (some bg)) (hr : Row W' w2.heap.size 3 b6 (ng + 1) c6 z6) : KMid w2 need many K bg ng cg b6 c6 z6 bc nc cc zc W' := by
  have hne := h.ne
  have hK := row_blk h.rg h.k (by decide)
  have g' : W.grownBy W' (some bg) := gtr' (grown_alloc W o _) hg
  exact ⟨h.k.kept g' (by intro e; have e := Option.some.inj e; omega), hr, h.rc.kept g' (by intro e; have e := Option.some.inj e; omega), h.K0, grown_new (gtr h.g (grown_alloc _ _ _)) h.rg.from_ hg⟩
/-- The dealer stored. -/
structure KAft (w2 : World) (need many : Int) (K ng b6 c6 : Nat) (z6 : Nat → Int) (bc nc cc : Nat) (zc : Nat → Int) (W : World) : Prop where
  k : Blk W K #[.int .i64 need, .int .i64 many, .slice (some ⟨b6, 0, none⟩) (ng + 1) c6, .slice (some ⟨bc, 0, none⟩) nc cc] 25
  rg : Row W w2.heap.size 3 b6 (ng + 1) c6 z6
  rc : Row W w2.heap.size 3 bc nc cc zc
  K0 : w2.heap.size ≤ K
  g : w2.grownBy W none
theorem KMid.store {w2 : World} {need many : Int} {K bg ng cg b6 c6 : Nat} {z6 : Nat → Int} {bc nc cc : Nat} {zc : Nat → Int} {W : World} (h : KMid w2 need many K bg ng cg b6 c6 z6 bc nc cc zc W) : KAft w2 need many K ng b6 c6 z6 bc nc cc zc (W.setCell ⟨K, 2, none⟩ (.slice (some ⟨b6, 0, none⟩) (ng + 1) c6)) := by
  have h1 := row_blk h.rg h.k (by decide); have h2 := row_blk h.rc h.k (by decide)
  have hg := grown_set W K 2 (.slice (some ⟨b6, 0, none⟩) (ng + 1) c6)
  exact ⟨h.k.set 2 _, h.rg.kept hg (by intro e; have e := Option.some.inj e; omega), h.rc.kept hg (by intro e; have e := Option.some.inj e; omega), h.K0, grown_new h.g h.K0 hg⟩
theorem KAft.quiet {w2 : World} {need many : Int} {K ng b6 c6 : Nat} {z6 : Nat → Int} {bc nc cc : Nat} {zc : Nat → Int} {W W' : World} (h : KAft w2 need many K ng b6 c6 z6 bc nc cc zc W) (hg : W.grownBy W' none) : KAft w2 need many K ng b6 c6 z6 bc nc cc zc W' :=
  ⟨h.k.keptN hg, h.rg.keptN hg, h.rc.keptN hg, h.K0, gtr h.g hg⟩
theorem KAft.next {w2 : World} {need many : Int} {K ng b6 c6 : Nat} {z6 : Nat → Int} {bc nc cc : Nat} {zc : Nat → Int} {W W' : World} {bs n c : Nat} {z : Nat → Int} (h : KAft w2 need many K ng b6 c6 z6 bc nc cc zc W) (hg : W.grownBy W' none) (hr : Row W' W.heap.size 3 bs n c z) : KSt w2 need many K b6 (ng + 1) c6 z6 bs n c z (W'.setCell ⟨K, 3, none⟩ (.slice (some ⟨bs, 0, none⟩) n c)) := by
  have h' := h.quiet hg
  have h1 := row_blk h'.rg h'.k (by decide); have h2 := row_blk hr h'.k (by decide)
  have hs := grown_set W' K 3 (.slice (some ⟨bs, 0, none⟩) n c)
  have l1 := h.rg.lt; have l2 := hr.from_; have l3 := h.g.size
  exact ⟨h'.k.set 3 _, h'.rg.kept hs (by intro e; have e := Option.some.inj e; omega), (hr.lower (by omega)).kept hs (by intro e; have e := Option.some.inj e; omega), by omega, h.K0, grown_new h'.g h.K0 hs⟩
/-- Deals that all count, each of another dealer. -/
def Hon (D : Nat → DV) (nd : Nat) (A : Nat → Ans) (na : Nat) (need many : Int) : Prop :=
  dsF D nd = true ∧ ∀ j, j < nd → gdF (D j).f (D j).n1 (D j).z1 (D j).n2 (D j).z2 A na need many = true
/-- A key of the call's own, or none at all; of deals that all count, and are as many as are needed, a key. -/
def GotKH (need many nd : Nat) (D : Nat → DV) (A : Nat → Ans) (na : Nat) (w : World) (e : Ending) (w' : World) : Prop :=
  GotK w e w' ∧ (Hon D nd A na need many → need ≤ nd → ∃ x, e = .returned (.tuple #[x, .bool true]))
set_option maxRecDepth 100000 in
set_option maxHeartbeats 8000000 in
theorem qkeyof (w : World) (need many : Nat) (ad : Option Addr) (nd cd : Nat) (D : Nat → DV) (aa : Option Addr) (na ca : Nat) (A : Nat → Ans) (hD : DealsIn w ad nd D) (hL : ∀ j, j < nd → (D j).n1 ≤ 5 ∧ (D j).n2 ≤ 5) (hI : AnsIn w aa na A) (hl3 : nd ≤ 6) (hl4 : na ≤ 2000000) (hn : 1 ≤ need) (hnm : need ≤ many) (hm : many ≤ 5) :
    Calls Tryd.prog 39 #[.int .i64 need, .int .i64 many, .slice ad nd cd, .slice aa na ca] w (GotKH need many nd D A na w) := by
  have HDs := Lib.hid hD; have HI := Lib.hid hI; have HL := Lib.hid hL
  clear hD hL hI
  have hcr : crewF (need : Int) (many : Int) = true := by simp [crewF]; omega
  have HR0 := Lib.hid (Blk.new w #[.int .i64 0, .int .i64 0, .slice none 0 0, .slice none 0 0] 25)
  have HG0 := Lib.hid (grown_alloc w (.cells #[.int .i64 0, .int .i64 0, .slice none 0 0, .slice none 0 0] 25) none)
  cases hds : dsF D nd with
  | false =>
    go_enter Tryd.func39, Tryd.ntmps39
    go_wp2_with fail
    refine (screw _ _ _).mono ?_
    rintro e w1 ⟨rfl, rfl⟩
    rw [hcr]
    go_wp2_with fail
    refine (s12deals _ _ _ _ D (HDs.out.kept HG0.out) (by omega)).mono ?_
    rintro e w3 ⟨rfl, hg⟩
    rw [hds]
    have HR3 := Lib.hid (HR0.out.keptN hg); have HG3 := Lib.hid (gtr HG0.out hg); clear hg
    obtain ⟨r0, r1, r2, r3, j0, j1, j2, j3⟩ := HR3.out.all4
    have HE := Lib.hid (gotk_none HR3.out (Nat.le_refl _) HG3.out)
    go_wp2
    (try simp only [Exit.inBlock, Exit.then])
    refine bodyPost_ret (ret_key2 rfl _ rfl HE.out.1) rfl ?_
    exact ⟨HE.out.2, fun h _ => absurd h.1 (by rw [hds]; simp)⟩
  | true =>
    go_enter Tryd.func39, Tryd.ntmps39
    go_wp2_with fail
    refine (screw _ _ _).mono ?_
    rintro e w1 ⟨rfl, rfl⟩
    rw [hcr]
    go_wp2_with fail
    refine (s12deals _ _ _ _ D (HDs.out.kept HG0.out) (by omega)).mono ?_
    rintro e w3 ⟨rfl, hg⟩
    rw [hds]
    have HR3 := Lib.hid (HR0.out.keptN hg); have HG3 := Lib.hid (gtr HG0.out hg); have HD3 := Lib.hid (HDs.out.kept HG3.out); have HI3 := Lib.hid (HI.out.kept HG3.out); clear hg
    have HF := Lib.hid (KSt.first w3 need many _ rfl)
    obtain ⟨i0, hi, hz0, hz1, hz2⟩ := info_parts info_int
    go_wp2_with fail
    go_loopw [11] (fun i wr => ∃ (k bg ng cg : Nat) (zg : Nat → Int) (bc nc cc : Nat) (zc : Nat → Int), k ≤ nd ∧ i = .int .i64 k ∧ (ng ≤ k ∧ (Hon D nd A na need many → ng = k)) ∧ nc ≤ 5 ∧ KSt w3 need many (w3.heap.size + 1 + 1) bg ng cg zg bc nc cc zc wr) (fun i _ => nd - (intOf i).toNat)
    case atStart => exact ⟨0, _, 0, 0, _, _, 1, 1, _, by omega, rfl, ⟨by omega, fun _ => rfl⟩, by omega, HF.out⟩
    case round =>
      obtain ⟨k, bg, ng, cg, zg, bc, nc, cc, zc, hk, rfl, ⟨hng, hhn⟩, hnc, hs⟩ := hrel
      have HS := Lib.hid hs; have HH := Lib.hid hhn; clear hs hhn
      by_cases hlt : k < nd
      · have hj1 : (0 : Int) ≤ (k : Int) := by omega
        have hj2 : (k : Int) < (nd : Int) := by omega
        have HIr := Lib.hid (HI3.out.kept HS.out.g)
        rcases HD3.out with h | ⟨b, off, rfl, hb, hcc⟩
        · omega
        obtain ⟨⟨ha0, ha1, ha2⟩, hrow⟩ := hcc k hlt
        obtain ⟨hn1, hn2⟩ := HL.out k hlt
        have HRow := Lib.hid (hrow.kept HS.out.g)
        have hc0 := (World.cell?_of_block (HS.out.g.block b hb (by simp))).trans ha0
        have hc1 := (World.cell?_of_block (HS.out.g.block b hb (by simp))).trans ha1
        have hc2 := (World.cell?_of_block (HS.out.g.block b hb (by simp))).trans ha2
        have hrow3 := hrow
        clear hcc hrow
        cases hgd : gdF (D k).f (D k).n1 (D k).z1 (D k).n2 (D k).z2 A na need many with
        | false =>
          go_wp2_with fail
          refine (skeygood _ (D k).f _ _ _ (D k).z1 _ _ _ (D k).z2 _ na _ A _ _ HRow.out.i1 HRow.out.i2 HIr.out (by omega) (by omega) hl4).mono ?_
          rintro e w5 ⟨rfl, hg⟩
          rw [hgd]
          have HS5 := Lib.hid (HS.out.quiet hg); clear hg
          go_wp2
          go_roundw
          case rel => exact ⟨k + 1, bg, ng, cg, zg, bc, nc, cc, zc, by omega, by go_num, ⟨by omega, fun h => absurd (h.2 k hlt) (by rw [hgd]; simp)⟩, by omega, HS5.out⟩
          case measure => simp [intOf]; omega
        | true =>
          go_wp2_with fail
          refine (skeygood _ (D k).f _ _ _ (D k).z1 _ _ _ (D k).z2 _ na _ A _ _ HRow.out.i1 HRow.out.i2 HIr.out (by omega) (by omega) hl4).mono ?_
          rintro e w5 ⟨rfl, hg⟩
          rw [hgd]
          have HS5 := Lib.hid (HS.out.quiet hg); have HRow5 := Lib.hid (HRow.out.kept hg)
          have q0 := (World.cell?_of_block (HS5.out.g.block b hb (by simp))).trans ha0
          have q1 := (World.cell?_of_block (HS5.out.g.block b hb (by simp))).trans ha1
          clear hg hc0 hc1 hc2 ha0 ha2
          obtain ⟨k0, k1, k2, k3, f0, f1, f2, f3⟩ := HS5.out.k.all4
          have hlc := HS5.out.rg.le; have hmc := HS5.out.rg.most
          have hsz5 := HS5.out.g.size; have hlt5 := HS5.out.rg.from_; have hbc5 := HS5.out.rc.lt; have hne5 := HS5.out.ne
          have hKl := HS5.out.k.lt
          have hKg := (row_blk HS5.out.rg HS5.out.k (by decide))
          have hKc := (row_blk HS5.out.rc HS5.out.k (by decide))
          go_wp2_with fail
          go_region_law (refine step_app _ (by rfl) (.tmp 42) (.tmp 48) 23 rfl w3.heap.size 3 i0 (.int .i64 0) 1 8 und_ints hi hz0 hz1 hz2 rfl (by decide) (.slice (some ⟨bg, 0, none⟩) ng cg) ng (vals zg ng) rfl (HS5.out.rg.alloc (.cells #[.int .i64 (D k).f] 3)).owns.drew ⟨w5.heap.size, 0, none⟩ 1 1 [.int .i64 (D k).f] rfl rfl (cell_one_new _ _ _) (by simp [Value.oneCell']) (by unfold maxLen; omega) (by omega) (by show _ ≤ (w5.alloc _).heap.size; simp; omega) ?_; intro v' w6 hown' hgrow hnil; have hgr : (w5.alloc (.cells #[.int .i64 (D k).f] 3)).grownBy w6 (some bg) := ⟨hgrow.os, hgrow.tape, hgrow.output, hgrow.size, hgrow.block⟩; obtain ⟨b6, c6, rfl, hrow6⟩ := app_row2 hown'; have HQ6 := Lib.hid (HS5.out.app hgr hrow6); obtain ⟨k0', k1', k2', k3', f0', f1', f2', f3'⟩ := HQ6.out.k.all4; clear hown' hgrow hgr hnil hrow6)
          all_goals
            have HA6 := Lib.hid HQ6.out.store
            clear k0 k1 k2 k3 f0 f1 f2 f3 k0' k1' k2' k3' f0' f1' f2' f3' q0
            generalize hw7 : w6.setCell ⟨w3.heap.size + 1 + 1, 2, none⟩ (.slice (some ⟨b6, 0, none⟩) (ng + 1) c6) = w7 at *
            have y1 := (World.cell?_of_block (HA6.out.g.block b hb (by simp))).trans ha1
            obtain ⟨k0, k1, k2, k3, f0, f1, f2, f3⟩ := HA6.out.k.all4
            have HIc := Lib.hid (HA6.out.rc.ints.keptB (w' := w7.drew) (fun _ _ => rfl) (Nat.le_refl _))
            have HRd := Lib.hid ((hrow3.kept HA6.out.g).i1.keptB (w' := w7.drew) (fun _ _ => rfl) (Nat.le_refl _))
            have hK7 := HA6.out.k.lt
            go_wp2_with fail
            go_region_law (refine at_slot 58 rfl ?_; go_simp; go_at_call 64; (with_reducible refine (q4sum _ _ _ _ zc _ _ _ (D k).z1 HIc.out HRd.out (by omega) (by omega)).mono ?_); rintro e w8 ⟨bs, n8, c8, z8, rfl, hr8, hn8, hg8⟩; dsimp only; have Hg8 := Lib.hid (show w7.grownBy w8 none from ⟨hg8.os, hg8.tape, hg8.output, hg8.size, hg8.block⟩); have Hr8 := Lib.hid (show Row w8 w7.heap.size 3 bs n8 c8 z8 from hr8); obtain ⟨k0', k1', k2', k3', f0', f1', f2', f3'⟩ := (HA6.out.k.keptN Hg8.out).all4; clear hg8 hr8)
            all_goals
              have HN := Lib.hid (HA6.out.next Hg8.out Hr8.out)
              go_wp2
              go_roundw
              case rel => exact ⟨k + 1, _, _, _, _, _, _, _, _, by omega, by go_num, ⟨by omega, fun h => by rw [HH.out h]⟩, hn8, HN.out⟩
              case measure => simp [intOf]; omega
      · obtain rfl : k = nd := by omega
        have HR5 := Lib.hid (HR3.out.keptN HS.out.g); have HG5 := Lib.hid (gtr HG3.out HS.out.g)
        obtain ⟨r0, r1, r2, r3, j0, j1, j2, j3⟩ := HR5.out.all4
        obtain ⟨k0, k1, k2, k3, f0, f1, f2, f3⟩ := HS.out.k.all4
        by_cases hfew : ng < need
        · have hfew' : (ng : Int) < (need : Int) := by omega
          have HE := Lib.hid (gotk_none HR5.out (Nat.le_refl _) HG5.out)
          go_wp2
          (try simp only [Exit.inBlock, Exit.then])
          refine bodyPost_ret (ret_key2 rfl _ rfl HE.out.1) rfl ?_
          exact ⟨HE.out.2, fun h hn => by have := HH.out h; omega⟩
        · have hfew' : ¬ (ng : Int) < (need : Int) := by omega
          have HE := Lib.hid (gotk_some HR5.out (Nat.le_refl _) HG3.out HR3.out.lt HS.out (by omega) hnc (by omega) (by omega))
          go_wp2
          (try simp only [Exit.inBlock, Exit.then])
          refine bodyPost_ret (ret_key2 rfl _ rfl HE.out.1) rfl ?_
          exact ⟨HE.out.2, fun _ _ => ⟨_, rfl⟩⟩
end Draw
end Go.Proofs.YtkklhlffbfgolaaDoor
