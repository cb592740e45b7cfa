/-
  How the model draws a deal with answers, how many are needed, and of how many.
-/
import Derived.Test.YtocecdnebkeeoaaDoorQb
import Derived.Test.YtocecdnebkeeoaaDoorDo
namespace Go.Proofs.YtocecdnebkeeoaaDoor
namespace Draw
open Go.RowKit Alg Mem Con Mp
set_option linter.unusedVariables false

/-- What holds while a deal lies in a drawing function of its own: all blocks new, and apart; its numbers told. -/
structure HeldZ (w : World) (base B : Nat) (a : Option Addr) (len cap lo hi D0 D1 : Nat) (f : Int) (b1 n c1 : Nat) (z1 : Nat → Int) (b2 m c2 : Nat) (z2 : Nat → Int) (wr : World) : Prop where
  d0 : Blk wr D0 #[.int .i64 0, .slice none 0 0, .slice none 0 0] 25
  d1 : Blk wr D1 #[.int .i64 f, .slice (some ⟨b1, 0, none⟩) n c1, .slice (some ⟨b2, 0, none⟩) m c2] 25
  r1 : Row wr w.heap.size 3 b1 n c1 z1
  r2 : Row wr w.heap.size 3 b2 m c2 z2
  fz : ∀ j, j < m → fok (z2 j) = true
  o0 : w.heap.size ≤ D0
  oB : w.heap.size ≤ B
  o1 : w.heap.size ≤ D1
  up : B < b1 ∧ B < b2 ∧ D0 < B ∧ b1 < D1 ∧ b2 < D1 ∧ b1 ≠ b2
  g : w.grownBy wr none
  rd : ∃ p', lo ≤ p' ∧ p' ≤ hi ∧ Rd wr base B a len cap p'
theorem HeldZ.step {w : World} {base B : Nat} {a : Option Addr} {len cap lo hi D0 D1 : Nat} {f : Int} {b1 n c1 b2 m c2 : Nat} {z1 z2 : Nat → Int} {wr : World} {hi' p' : Nat} {w' : World} (h : HeldZ w base B a len cap lo hi D0 D1 f b1 n c1 z1 b2 m c2 z2 wr)
    (hg : wr.grownBy w' (some B)) (hrd : Rd w' base B a len cap p') (h1 : lo ≤ p') (h2 : p' ≤ hi') : HeldZ w base B a len cap lo hi' D0 D1 f b1 n c1 z1 b2 m c2 z2 w' := by
  obtain ⟨d0, d1, r1, r2, fz, o0, oB, o1, up, g, rd⟩ := h
  exact ⟨d0.kept hg (by intro e; have e := Option.some.inj e; omega), d1.kept hg (by intro e; have e := Option.some.inj e; omega), r1.kept hg (by intro e; have e := Option.some.inj e; omega), r2.kept hg (by intro e; have e := Option.some.inj e; omega), fz, o0, oB, o1, up, grown_new g oB hg, p', h1, h2, hrd⟩
theorem HeldZ.set2 {w : World} {base B : Nat} {a : Option Addr} {len cap lo hi D0 D1 : Nat} {f : Int} {b1 n c1 b2 m c2 : Nat} {z1 z2 : Nat → Int} {wr : World} (h : HeldZ w base B a len cap lo hi D0 D1 f b1 n c1 z1 b2 m c2 z2 wr) (hb : base ≤ w.heap.size) (j : Nat) (u : Int) (hu : fok u = true) :
    HeldZ w base B a len cap lo hi D0 D1 f b1 n c1 z1 b2 m c2 (fun i => if i = j then u else z2 i) (wr.setCell ⟨b2, j, none⟩ (.int .i64 u)) := by
  obtain ⟨d0, d1, r1, r2, fz, o0, oB, o1, up, g, p', q1, q2, hrd⟩ := h
  have hg := grown_set wr b2 j (.int .i64 u)
  have hf2 := r2.from_
  exact ⟨d0.other (by omega), d1.other (by omega), r1.kept hg (by intro e; have e := Option.some.inj e; omega), r2.set j u, fun i hi => by show fok (if i = j then u else z2 i) = true; split; exact hu; exact fz i hi, o0, oB, o1, up, grown_new g hf2 hg, p', q1, q2, hrd.grownN hg (by omega) (by omega)⟩
/-- What a function leaves that draws a deal, answers and two numbers. -/
def GotG (w : World) (e : Ending) (w' : World) : Prop :=
  ∃ (f : Int) (b1 n c1 : Nat) (z1 : Nat → Int) (b2 m c2 : Nat) (z2 : Nat → Int) (aA : Option Addr) (na cA : Nat) (A : Nat → Ans) (need many : Int), e = .returned (.tuple #[.agg #[.int .i64 f, .slice (some ⟨b1, 0, none⟩) n c1, .slice (some ⟨b2, 0, none⟩) m c2], .slice aA na cA, .int .i64 need, .int .i64 many]) ∧ n ≤ 5 ∧ m ≤ 5 ∧ n ≤ c1 ∧ c1 ≤ maxLen ∧ m ≤ c2 ∧ c2 ≤ maxLen ∧
    1 ≤ need ∧ need ≤ 5 ∧ 1 ≤ many ∧ many ≤ 5 ∧ (1 ≤ f ∧ f ≤ many) ∧ Ints w' (some ⟨b1, 0, none⟩) n z1 ∧ Ints w' (some ⟨b2, 0, none⟩) m z2 ∧ AnsIn w' aA na A ∧ WfA na A ∧ na ≤ 3000 ∧ w.grownBy w' none
theorem ret_deal4 {fn : Func} {p u v x : Tmp} (h : fn.results = #[.cell p 25, .tmp u, .tmp v, .tmp x]) (tmps : Array Value) {w : World} {b : Nat} {v0 v1 v2 : Value} {T : TypeId} (hp : tmps.getD p undef = .pointer (some ⟨b, 0, none⟩)) (hb : Blk w b #[v0, v1, v2] T) :
    (results fn tmps).run Tryd.prog w = .ok (.tuple #[.agg #[v0, v1, v2], tmps.getD u undef, tmps.getD v undef, tmps.getD x undef]) w := by
  have hp' : tmps[p]?.getD undef = .pointer (some ⟨b, 0, none⟩) := by simpa using hp
  simp [results, h, hp', asAddr, run_loadVar_row w b T 25 #[v0, v1, v2] (0, 0) _ hb Tryd.underlying25 rfl size_deal, Result.andThen]
def oneD (f : Int) (b1 n c1 : Nat) (z1 : Nat → Int) (b2 m c2 : Nat) (z2 : Nat → Int) (_ : Nat) : DV := ⟨f, some ⟨b1, 0, none⟩, n, c1, z1, some ⟨b2, 0, none⟩, m, c2, z2⟩
/-- The deal alone, as a slice, behind the literal's block. -/
theorem HeldZ.one {w : World} {base B : Nat} {a : Option Addr} {len cap lo hi D0 D1 : Nat} {f : Int} {b1 n c1 b2 m c2 : Nat} {z1 z2 : Nat → Int} {wr : World} (h : HeldZ w base B a len cap lo hi D0 D1 f b1 n c1 z1 b2 m c2 z2 wr) {W : World}
    (hW : W = (wr.alloc (.cells #[.int .i64 f, .slice (some ⟨b1, 0, none⟩) n c1, .slice (some ⟨b2, 0, none⟩) m c2] 25)).drew) :
    DIn W (B + 1) W.heap.size (some ⟨wr.heap.size, 0, none⟩) 1 (oneD f b1 n c1 z1 b2 m c2 z2) ∧ wr.grownBy W none := by
  subst hW
  have hsz : ((wr.alloc (.cells #[.int .i64 f, .slice (some ⟨b1, 0, none⟩) n c1, .slice (some ⟨b2, 0, none⟩) m c2] 25)).drew).heap.size = wr.heap.size + 1 := by show (wr.heap.push _).size = _; simp
  have hg : wr.grownBy (wr.alloc (.cells #[.int .i64 f, .slice (some ⟨b1, 0, none⟩) n c1, .slice (some ⟨b2, 0, none⟩) m c2] 25)).drew none := grown_alloc_drew _ _
  have hd : Dl ((wr.alloc (.cells #[.int .i64 f, .slice (some ⟨b1, 0, none⟩) n c1, .slice (some ⟨b2, 0, none⟩) m c2] 25)).drew) wr.heap.size f (.slice (some ⟨b1, 0, none⟩) n c1) (.slice (some ⟨b2, 0, none⟩) m c2) :=
    (Dl.new wr f _ _ 25).kept ⟨rfl, rfl, rfl, Nat.le_refl _, fun _ _ _ => rfl⟩
  have hB := h.rd.choose_spec.2.2.lt
  have l1 := h.r1.lt; have l2 := h.r2.lt; have up := h.up
  refine ⟨⟨.inr ⟨wr.heap.size, 0, rfl, by omega, fun j hj => ?_⟩, fun b off e => ?_, fun j hj => ⟨fun b off e => ?_, fun b off e => ?_⟩⟩, hg⟩
  · obtain rfl : j = 0 := by omega
    exact ⟨⟨hd.c0, hd.c1, hd.c2⟩, (h.r1.keptN hg).ints, (h.r2.keptN hg).ints⟩
  · injection e with e; injection e with e1 e2; omega
  · injection e with e; injection e with e1 e2; omega
  · injection e with e; injection e with e1 e2; omega
theorem got_mk {w X W : World} {base B : Nat} {a : Option Addr} {len cap lo hi D0 D1 : Nat} {f : Int} {b1 n c1 b2 m c2 : Nat} {z1 z2 : Nat → Int} {wr : World} {v : Value} {L : List Ans} {need many : Int} (h : HeldZ w base B a len cap lo hi D0 D1 f b1 n c1 z1 b2 m c2 z2 wr) (hX : wr.grownBy X none) (hg : X.grownBy W (some B)) (ho : OwnA W X.heap.size v L) (hL : L.length ≤ 3000) (hn5 : n ≤ 5) (hm5 : m ≤ 5) (hn : 1 ≤ need ∧ need ≤ 5 ∧ 1 ≤ many ∧ many ≤ 5 ∧ 1 ≤ f ∧ f ≤ many) :
    Blk (stored W D0 (.int .i64 f) (.slice (some ⟨b1, 0, none⟩) n c1) (.slice (some ⟨b2, 0, none⟩) m c2)) D0 #[.int .i64 f, .slice (some ⟨b1, 0, none⟩) n c1, .slice (some ⟨b2, 0, none⟩) m c2] 25 ∧
    GotG w (.returned (.tuple #[.agg #[.int .i64 f, .slice (some ⟨b1, 0, none⟩) n c1, .slice (some ⟨b2, 0, none⟩) m c2], v, .int .i64 need, .int .i64 many])) (stored W D0 (.int .i64 f) (.slice (some ⟨b1, 0, none⟩) n c1) (.slice (some ⟨b2, 0, none⟩) m c2)) := by
  obtain ⟨d0, d1, r1, r2, fz, o0, oB, o1, up, g, p', q1, q2, hrd⟩ := h
  have g0 := grown_set W D0 0 (.int .i64 f)
  have g1 := gtr' g0 (grown_set _ D0 1 (.slice (some ⟨b1, 0, none⟩) n c1))
  have g2 := gtr' g1 (grown_set _ D0 2 (.slice (some ⟨b2, 0, none⟩) m c2))
  have k0 := (d0.keptN hX).kept hg (by intro e; have e := Option.some.inj e; omega)
  have k1 := (r1.keptN hX).kept hg (by intro e; have e := Option.some.inj e; omega)
  have k2 := (r2.keptN hX).kept hg (by intro e; have e := Option.some.inj e; omega)
  have hD0 : D0 < X.heap.size := Nat.lt_of_lt_of_le d0.lt hX.size
  have ho2 : OwnA (stored W D0 (.int .i64 f) (.slice (some ⟨b1, 0, none⟩) n c1) (.slice (some ⟨b2, 0, none⟩) m c2)) X.heap.size v L := ⟨ho.1.kept g2 (own_far ho.1 hD0), ho.2⟩
  obtain ⟨aA, cA, rfl, hA, hW⟩ := ho2.ans
  have f1 := k1.from_; have f2 := k2.from_
  exact ⟨((k0.set 0 _).set 1 _).set 2 _, f, b1, n, c1, z1, b2, m, c2, z2, aA, _, cA, _, need, many, rfl, hn5, hm5, r1.le, r1.most, r2.le, r2.most, hn.1, hn.2.1, hn.2.2.1, hn.2.2.2.1, hn.2.2.2.2, (k1.kept g2 (by intro e; have e := Option.some.inj e; omega)).ints, (k2.kept g2 (by intro e; have e := Option.some.inj e; omega)).ints, hA, hW, hL, grown_new (grown_new (gtr g hX) oB hg) o0 g2⟩
set_option maxRecDepth 100000 in
set_option maxHeartbeats 4000000 in
theorem drawKG (w : World) (a : Option Addr) (len cap : Nat) (hB : Bytes w w.heap.size a len) (hc : len ≤ cap) (hm : cap ≤ maxLen) :
    Calls Tryd.prog 8 #[.slice a len cap] w (GotG w) := by
  have HD0 := Lib.hid (Blk.new w #[.int .i64 0, .slice none 0 0, .slice none 0 0] 25)
  have hs0 : (w.alloc (.cells #[.int .i64 0, .slice none 0 0, .slice none 0 0] 25)).heap.size = w.heap.size + 1 := by show (w.heap.push _).size = _; simp
  have HB := Lib.hid (hB.kept (w' := w.alloc (.cells #[.int .i64 0, .slice none 0 0, .slice none 0 0] 25)) (fun k hk => Below.heap_alloc _ _ _ hk))
  have HG0 := Lib.hid (grown_alloc w (.cells #[.int .i64 0, .slice none 0 0, .slice none 0 0] 25) none)
  clear hB
  go_enter Tryd.func8, Tryd.ntmps8
  go_wp2_with fail
  refine (open_any _ w.heap.size a len cap HB.out (by omega) hc hm).mono ?_
  rintro e w1 ⟨rfl, hg1, hs1, l1, c1', hr1⟩
  rw [hs0] at hr1
  have HD1 := Lib.hid (HD0.out.keptN hg1); have HG1 := Lib.hid (gtr HG0.out hg1); have HR1 := Lib.hid hr1
  clear hr1 hg1
  go_wp2_with fail
  refine (fine_any _ _ _ a l1 c1' 0 HR1.out (by omega)).mono ?_
  rintro e w2 ⟨n, m, rfl, hn1, hnm, hm5, hg2, hr2⟩
  have HD2 := Lib.hid (HD1.out.kept hg2 (by intro e; have e := Option.some.inj e; omega)); have HG2 := Lib.hid (grown_new HG1.out (by omega) hg2); have HR2 := Lib.hid hr2
  clear hr2 hg2
  go_wp2_with fail
  refine (pick_any _ _ _ a l1 c1' (0 + 1 + 1) (m : Int) HR2.out (by omega) (by omega)).mono ?_
  rintro e w3 ⟨x, x0, x1, rfl, hr3, hg3, hs3⟩
  have HD3 := Lib.hid (HD2.out.kept hg3 (by intro e; have e := Option.some.inj e; omega)); have HG3 := Lib.hid (grown_new HG2.out (by omega) hg3); have HR3 := Lib.hid hr3
  clear hr3 hg3 hs3
  go_wp2_with fail
  refine (deal_any _ _ _ a l1 c1' (0 + 1 + 1 + 1) (1 + x) n m HR3.out (by omega) hn1 (by omega) (by omega) hm5).mono ?_
  rintro e w4 ⟨b1, c1, z1, b2, c2, z2, rfl, hr1, hr2, hbb, hg4, p4, hp4, hp4', hrd⟩
  have hf1 := hr1.from_; have hf2 := hr2.from_; have hl2 := hr2.lt; have hl1 := hr1.lt
  have hlt3 := HR3.out.lt
  have hgs := HG3.out.size
  have hb12 := hbb.1
  have HD4 := Lib.hid (HD3.out.kept hg4 (by intro e; have e := Option.some.inj e; omega)); have HG4 := Lib.hid (grown_new HG3.out (by omega) hg4); have HR4 := Lib.hid hrd
  have hDD := HD3.out.lt
  have w5H := Lib.hid (show HeldZ w w.heap.size (w.heap.size + 1) a l1 c1' 0 p4 w.heap.size w4.heap.size (1 + x) b1 n c1 z1 b2 m c2 z2 (w4.alloc (.cells #[.int .i64 (1 + x), .slice (some ⟨b1, 0, none⟩) n c1, .slice (some ⟨b2, 0, none⟩) m c2] 25)) from
    ⟨HD4.out.keptN (grown_alloc _ _ _), Blk.new _ _ _, (hr1.lower hgs).alloc _, (hr2.lower hgs).alloc _, hbb.2, Nat.le_refl _, by omega, by have := HG4.out.size; omega, by omega, gtr HG4.out (grown_alloc _ _ _), p4, by omega, by omega, HR4.out.alloc _⟩)
  have w5R := Lib.hid (HR4.out.alloc (.cells #[.int .i64 (1 + x), .slice (some ⟨b1, 0, none⟩) n c1, .slice (some ⟨b2, 0, none⟩) m c2] 25))
  clear hr1 hr2 hg4 hrd hf1 hf2 hbb hb12
  go_wp2_with fail
  refine (pick_any _ _ _ a l1 c1' _ 2 w5R.out (by omega) (by omega)).mono ?_
  rintro e w6 ⟨t, t0, t1, rfl, hr, hg, hs⟩
  have w6H := Lib.hid (w5H.out.step (hi' := p4 + 1) hg hr (by omega) (by omega)); have w6R := Lib.hid hr
  clear hr hg hs
  obtain ⟨j0, j1, j2, g0, g1, g2⟩ := w6H.out.d1.all
  rcases (by omega : t = 0 ∨ 1 ≤ t) with rfl | ht
  · have w6D := Lib.hid (w6R.out.kept (w' := w6.drew) (fun _ _ => rfl) rfl)
    go_wp2_with fail
    go_region_held3 (fun w' => w'.cell? ⟨w4.heap.size, 2, none⟩ = some (.slice (some ⟨b2, 0, none⟩) m c2)) (first | exact hS6 | exact hS5 | exact hS4 | exact j2) (first
      | (go_at_call 37; (with_reducible refine (pick_any _ _ _ a l1 c1' _ (m : Int) w6D.out (by omega) (by omega)).mono ?_); rintro e wa ⟨r, r0, r1, rfl, hr, hg, hs⟩; have waH := Lib.hid (w6H.out.step (hi' := p4 + 2) ⟨hg.os, hg.tape, hg.output, hg.size, hg.block⟩ hr (by omega) (by omega)); have waR := Lib.hid hr; obtain ⟨rn, rfl⟩ : ∃ rn : Nat, r = rn := ⟨r.toNat, by omega⟩; have hrn : rn < m := (by omega); have hS4 : wa.cell? ⟨w4.heap.size, 2, none⟩ = some (.slice (some ⟨b2, 0, none⟩) m c2) := waH.out.d1.cell 2; clear hr hg hs)
      | (go_at_call 37; (with_reducible refine (pick_any _ _ _ a l1 c1' _ 23 waR.out (by omega) (by omega)).mono ?_); rintro e wb ⟨s, s0, s1, rfl, hr, hg, hs⟩; have wbH := Lib.hid (waH.out.step (hi' := p4 + 3) hg hr (by omega) (by omega)); have t0 := wbH.out.r2.cell hrn; have t1 := wbH.out.r2.frozen rn; have t2 := wbH.out.r2.le; have wLH := Lib.hid (wbH.out.set2 (Nat.le_refl _) rn s (fok_mk s0 (by omega))); have hS5 : wb.cell? ⟨w4.heap.size, 2, none⟩ = some (.slice (some ⟨b2, 0, none⟩) m c2) := wbH.out.d1.cell 2; have hS6 : (wb.setCell ⟨b2, rn, none⟩ (.int .i64 s)).cell? ⟨w4.heap.size, 2, none⟩ = some (.slice (some ⟨b2, 0, none⟩) m c2) := wLH.out.d1.cell 2; clear hr hg hs))
    all_goals
      clear t0 t1 hS4 hS5 hS6 j0 j1 j2 g0 g1 g2
      generalize wb.setCell ⟨b2, rn, none⟩ (.int .i64 s) = wq at wLH ⊢
      obtain ⟨p7, hp7, hp7', hrd7⟩ := wLH.out.rd
      have hone := wLH.out.one (W := (wq.alloc (.cells #[.int .i64 (1 + x), .slice (some ⟨b1, 0, none⟩) n c1, .slice (some ⟨b2, 0, none⟩) m c2] 25)).drew) rfl
      have HD7 := Lib.hid hone.1; have HG7 := Lib.hid hone.2
      have HR7 := Lib.hid (hrd7.kept (w' := (wq.alloc (.cells #[.int .i64 (1 + x), .slice (some ⟨b1, 0, none⟩) n c1, .slice (some ⟨b2, 0, none⟩) m c2] 25)).drew) (fun k hk => Below.heap_alloc _ _ _ (by have := hrd7.lt; have := hrd7.from_; omega)) (Below.heap_alloc _ _ _ hrd7.lt))
      have HZ7 := Lib.hid (show ∀ j, j < 1 → (oneD (1 + x) b1 n c1 z1 b2 m c2 (fun i => if i = rn then s else z2 i) j).n1 ≤ 2000000 ∧ (oneD (1 + x) b1 n c1 z1 b2 m c2 (fun i => if i = rn then s else z2 i) j).n2 ≤ 6 ∧ (∀ i, i < (oneD (1 + x) b1 n c1 z1 b2 m c2 (fun i => if i = rn then s else z2 i) j).n2 → (oneD (1 + x) b1 n c1 z1 b2 m c2 (fun i => if i = rn then s else z2 i) j).z2 i ≤ 1000000) ∧ wf (oneD (1 + x) b1 n c1 z1 b2 m c2 (fun i => if i = rn then s else z2 i) j).f = true from fun j _ => ⟨by show n ≤ 2000000; omega, by show m ≤ 6; omega, fun i hi => by have h2 := (fok_iff.1 (wLH.out.fz i hi)).2; exact Int.le_trans (Int.le_of_lt h2) (by decide), by show wf (1 + x) = true; exact wf_few (by omega) (by omega)⟩)
      have hq := wLH.out.d1.keptN hone.2
      have hq0 := hq.cell 0; have hq1 := hq.cell 1; have hq2 := hq.cell 2
      clear hone hrd7 hq
      obtain ⟨j0, j1, j2, g0, g1, g2⟩ := wLH.out.d1.all
      go_wp2_with fail
      go_region_held3 (fun w' => w'.cell? ⟨w4.heap.size, 0, none⟩ = some (.int .i64 (1 + x)) ∧ w'.cell? ⟨w4.heap.size, 1, none⟩ = some (.slice (some ⟨b1, 0, none⟩) n c1) ∧ w'.cell? ⟨w4.heap.size, 2, none⟩ = some (.slice (some ⟨b2, 0, none⟩) m c2)) (first | exact hS9 | exact ⟨hS10a, hS10b, hS10c⟩ | exact ⟨j0, j1, j2⟩ | exact ⟨hq0, hq1, hq2⟩) ((go_at_call 38; (with_reducible refine (ans_any _ w.heap.size (w.heap.size + 1) a l1 c1' _ HR7.out _ 1 1 (oneD (1 + x) b1 n c1 z1 b2 m c2 (fun i => if i = rn then s else z2 i)) _ _ HD7.out (Nat.lt_succ_self _) (Nat.le_refl _) (by omega) HZ7.out (by omega)).mono ?_); rintro e w9 ⟨vA, L, rfl, hoA, hL, hg9, _⟩; have hd9 := (wLH.out.d1.keptN HG7.out).kept hg9 (by intro e; have e := Option.some.inj e; have := wLH.out.up; omega); have HGot := Lib.hid (got_mk (need := (n : Int)) (many := (m : Int)) wLH.out HG7.out hg9 hoA hL (by omega) (by omega) (by omega)); have hS9 : w9.cell? ⟨w4.heap.size, 0, none⟩ = some (.int .i64 (1 + x)) ∧ w9.cell? ⟨w4.heap.size, 1, none⟩ = some (.slice (some ⟨b1, 0, none⟩) n c1) ∧ w9.cell? ⟨w4.heap.size, 2, none⟩ = some (.slice (some ⟨b2, 0, none⟩) m c2) := ⟨hd9.cell 0, hd9.cell 1, hd9.cell 2⟩; have hd0 := (wLH.out.d0.keptN HG7.out).kept hg9 (by intro e; have e := Option.some.inj e; have := wLH.out.up; omega); obtain ⟨e0, e1, e2, e3, e4, e5⟩ := hd0.all; have hdne : w4.heap.size ≠ w.heap.size := (by have := wLH.out.up; omega); have hd10 := ((hd9.other (b' := w.heap.size) (i := 0) (v := .int .i64 (1 + x)) hdne).other (b' := w.heap.size) (i := 1) (v := .slice (some ⟨b1, 0, none⟩) n c1) hdne).other (b' := w.heap.size) (i := 2) (v := .slice (some ⟨b2, 0, none⟩) m c2) hdne; have hS10a := hd10.cell 0; have hS10b := hd10.cell 1; have hS10c := hd10.cell 2; clear hd9 hd10 hoA hg9 hd0))
      all_goals
        clear hS9 hS10a hS10b hS10c j0 j1 j2 g0 g1 g2
        go_wp2
        (try simp only [Exit.inBlock, Exit.then])
        refine bodyPost_ret (ret_deal4 rfl _ rfl HGot.out.1) rfl ?_
        exact HGot.out.2
  · have ht0 : (t == 0) = false := by simp; omega
    clear j0 j1 j2 g0 g1 g2
    obtain ⟨p7, hp7, hp7', hrd7⟩ := w6H.out.rd
    have hone := w6H.out.one (W := (w6.alloc (.cells #[.int .i64 (1 + x), .slice (some ⟨b1, 0, none⟩) n c1, .slice (some ⟨b2, 0, none⟩) m c2] 25)).drew) rfl
    have HD7 := Lib.hid hone.1; have HG7 := Lib.hid hone.2
    have HR7 := Lib.hid (hrd7.kept (w' := (w6.alloc (.cells #[.int .i64 (1 + x), .slice (some ⟨b1, 0, none⟩) n c1, .slice (some ⟨b2, 0, none⟩) m c2] 25)).drew) (fun k hk => Below.heap_alloc _ _ _ (by have := hrd7.lt; have := hrd7.from_; omega)) (Below.heap_alloc _ _ _ hrd7.lt))
    have HZ7 := Lib.hid (show ∀ j, j < 1 → (oneD (1 + x) b1 n c1 z1 b2 m c2 z2 j).n1 ≤ 2000000 ∧ (oneD (1 + x) b1 n c1 z1 b2 m c2 z2 j).n2 ≤ 6 ∧ (∀ i, i < (oneD (1 + x) b1 n c1 z1 b2 m c2 z2 j).n2 → (oneD (1 + x) b1 n c1 z1 b2 m c2 z2 j).z2 i ≤ 1000000) ∧ wf (oneD (1 + x) b1 n c1 z1 b2 m c2 z2 j).f = true from fun j _ => ⟨by show n ≤ 2000000; omega, by show m ≤ 6; omega, fun i hi => by have h2 := (fok_iff.1 (w6H.out.fz i hi)).2; exact Int.le_trans (Int.le_of_lt h2) (by decide), by show wf (1 + x) = true; exact wf_few (by omega) (by omega)⟩)
    have hq := w6H.out.d1.keptN hone.2
    have hq0 := hq.cell 0; have hq1 := hq.cell 1; have hq2 := hq.cell 2
    clear hone hrd7 hq
    obtain ⟨j0, j1, j2, g0, g1, g2⟩ := w6H.out.d1.all
    go_wp2_with fail
    go_region_held3 (fun w' => w'.cell? ⟨w4.heap.size, 0, none⟩ = some (.int .i64 (1 + x)) ∧ w'.cell? ⟨w4.heap.size, 1, none⟩ = some (.slice (some ⟨b1, 0, none⟩) n c1) ∧ w'.cell? ⟨w4.heap.size, 2, none⟩ = some (.slice (some ⟨b2, 0, none⟩) m c2)) (first | exact hS9 | exact ⟨hS10a, hS10b, hS10c⟩ | exact ⟨j0, j1, j2⟩ | exact ⟨hq0, hq1, hq2⟩) ((go_at_call 38; (with_reducible refine (ans_any _ w.heap.size (w.heap.size + 1) a l1 c1' _ HR7.out _ 1 1 (oneD (1 + x) b1 n c1 z1 b2 m c2 z2) _ _ HD7.out (Nat.lt_succ_self _) (Nat.le_refl _) (by omega) HZ7.out (by omega)).mono ?_); rintro e w9 ⟨vA, L, rfl, hoA, hL, hg9, _⟩; have hd9 := (w6H.out.d1.keptN HG7.out).kept hg9 (by intro e; have e := Option.some.inj e; have := w6H.out.up; omega); have HGot := Lib.hid (got_mk (need := (n : Int)) (many := (m : Int)) w6H.out HG7.out hg9 hoA hL (by omega) (by omega) (by omega)); have hS9 : w9.cell? ⟨w4.heap.size, 0, none⟩ = some (.int .i64 (1 + x)) ∧ w9.cell? ⟨w4.heap.size, 1, none⟩ = some (.slice (some ⟨b1, 0, none⟩) n c1) ∧ w9.cell? ⟨w4.heap.size, 2, none⟩ = some (.slice (some ⟨b2, 0, none⟩) m c2) := ⟨hd9.cell 0, hd9.cell 1, hd9.cell 2⟩; have hd0 := (w6H.out.d0.keptN HG7.out).kept hg9 (by intro e; have e := Option.some.inj e; have := w6H.out.up; omega); obtain ⟨e0, e1, e2, e3, e4, e5⟩ := hd0.all; have hdne : w4.heap.size ≠ w.heap.size := (by have := w6H.out.up; omega); have hd10 := ((hd9.other (b' := w.heap.size) (i := 0) (v := .int .i64 (1 + x)) hdne).other (b' := w.heap.size) (i := 1) (v := .slice (some ⟨b1, 0, none⟩) n c1) hdne).other (b' := w.heap.size) (i := 2) (v := .slice (some ⟨b2, 0, none⟩) m c2) hdne; have hS10a := hd10.cell 0; have hS10b := hd10.cell 1; have hS10c := hd10.cell 2; clear hd9 hd10 hoA hg9 hd0))
    all_goals
      clear hS9 hS10a hS10b hS10c j0 j1 j2 g0 g1 g2
      go_wp2
      (try simp only [Exit.inBlock, Exit.then])
      refine bodyPost_ret (ret_deal4 rfl _ rfl HGot.out.1) rfl ?_
      exact HGot.out.2
end Draw
end Go.Proofs.YtocecdnebkeeoaaDoor
