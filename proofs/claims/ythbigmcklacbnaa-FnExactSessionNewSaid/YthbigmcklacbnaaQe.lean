/-
  How the model draws deals; what the model shows of two together, at whatever numbers.
-/
import Derived.Test.YthbigmcklacbnaaQb
import Derived.Test.YthbigmcklacbnaaKs
import Derived.Test.YthbigmcklacbnaaSk
import Derived.Test.YthbigmcklacbnaaKc
namespace Go.Proofs.Ythbigmcklacbnaa
namespace Draw
open Go.RowKit Alg Mem Con Mp
set_option linter.unusedVariables false

/-- The cells of deals. -/
def cellsD : List DV → List Value
  | [] => []
  | x :: r => .int .i64 x.f :: .slice x.a1 x.n1 x.c1 :: .slice x.a2 x.n2 x.c2 :: cellsD r
theorem cellsD_len (L : List DV) : (cellsD L).length = L.length * 3 := by
  induction L with
  | nil => rfl
  | cons x r ih => simp [cellsD, ih]; omega
theorem cellsD_app (L : List DV) (x : DV) : cellsD (L ++ [x]) = cellsD L ++ [.int .i64 x.f, .slice x.a1 x.n1 x.c1, .slice x.a2 x.n2 x.c2] := by
  induction L with
  | nil => rfl
  | cons y r ih => simp [cellsD, ih]
def dz0 : DV := ⟨0, none, 0, 0, fun _ => 0, none, 0, 0, fun _ => 0⟩
def dAt (L : List DV) (j : Nat) : DV := L.getD j dz0
theorem dAt_mem {L : List DV} {j : Nat} (h : j < L.length) : dAt L j ∈ L := by simp [dAt, h]
theorem cellsD_get : ∀ (L : List DV) (j : Nat), j < L.length → (cellsD L)[j * 3]? = some (.int .i64 (dAt L j).f) ∧ (cellsD L)[j * 3 + 1]? = some (.slice (dAt L j).a1 (dAt L j).n1 (dAt L j).c1) ∧ (cellsD L)[j * 3 + 2]? = some (.slice (dAt L j).a2 (dAt L j).n2 (dAt L j).c2)
  | [], j, h => by simp at h
  | x :: r, 0, _ => ⟨rfl, rfl, rfl⟩
  | x :: r, j + 1, h => by
    have := cellsD_get r j (by simpa using h)
    rw [show (j + 1) * 3 = j * 3 + 3 by omega]
    simpa [cellsD, dAt] using this
/-- A deal's two rows, the call's own. -/
def RowsD (w : World) (lo : Nat) (x : DV) : Prop :=
  ∃ b1 b2 : Nat, x.a1 = some ⟨b1, 0, none⟩ ∧ x.a2 = some ⟨b2, 0, none⟩ ∧ Row w lo 3 b1 x.n1 x.c1 x.z1 ∧ Row w lo 3 b2 x.n2 x.c2 x.z2
/-- What a drawn deal's numbers are. -/
def FineD (x : DV) : Prop := x.n1 ≤ 5 ∧ x.n2 ≤ 5 ∧ (∀ i, i < x.n2 → fok (x.z2 i) = true) ∧ 1 ≤ x.f ∧ x.f ≤ 5
/-- The product of two of what is shown, at a place. -/
def msum (n1 n2 : Nat) (z1 z2 : Nat → Int) (j : Nat) : Int := if j < n1 then (if j < n2 then z1 j * z2 j % 47 else z1 j) else z2 j % 47
end Draw
end Go.Proofs.Ythbigmcklacbnaa
/-
  How the model makes a key of deals, whatever they are.
-/

namespace Go.Proofs.Ythbigmcklacbnaa
namespace Draw
open Go.RowKit Alg Mem Con Mp
set_option linter.unusedVariables false

theorem row_blk {w : World} {lo : Nat} {E : TypeId} {b len cap : Nat} {z : Nat → Int} {b' : Nat} {vs : Array Value} {T : TypeId} (h : Row w lo E b len cap z) (k : Blk w b' vs T) (hne : E ≠ T) : b ≠ b' := by
  rintro rfl
  obtain ⟨c, ⟨cur, hb, _, _⟩, _⟩ := h.row
  unfold Blk at k
  rw [hb] at k
  injection k with k
  injection k with _ k2 _
  exact hne k2
theorem app_row2 {w1 : World} {lo : Nat} {E : TypeId} {v' : Value} {k : Nat} {z : Nat → Int} {n : Int} (h : w1.ownsRow lo E 1 v' (k + 1) (vals z k ++ [.int .i64 n])) :
    ∃ b cap, v' = .slice (some ⟨b, 0, none⟩) (k + 1) cap ∧ Row w1 lo E b (k + 1) cap (fun j => if j < k then z j else n) := by
  have h' : w1.ownsRow lo E 1 v' (k + 1) (vals (fun j => if j < k then z j else n) k ++ [.int .i64 n]) := by
    rw [vals_congr (z := fun j => if j < k then z j else n) (y := z) (k := k) fun j hj => by simp [hj]]; exact h
  exact app_row h' (by simp)
theorem ret_key2 {fn : Func} {p u : Tmp} (h : fn.results = #[.cell p 63, .tmp u]) (tmps : Array Value) {w : World} {b : Nat} {v0 v1 v2 v3 : Value} {T : TypeId} (hp : tmps.getD p undef = .pointer (some ⟨b, 0, none⟩)) (hb : Blk w b #[v0, v1, v2, v3] T) :
    (results fn tmps).run Try.prog w = .ok (.tuple #[.agg #[v0, v1, v2, v3], tmps.getD u undef]) w := by
  have hp' : tmps[p]?.getD undef = .pointer (some ⟨b, 0, none⟩) := by simpa using hp
  simp [results, h, hp', asAddr, run_loadVar_row w b T 63 #[v0, v1, v2, v3] (0, 0) _ hb Try.underlying63 rfl size_key, Result.andThen]
/-- A key of the call's own, or none at all. -/
def GotK (w : World) (e : Ending) (w' : World) : Prop :=
  ∃ (need many : Nat) (ag : Option Addr) (ng cg : Nat) (zg : Nat → Int) (ac : Option Addr) (nc cc : Nat) (zc : Nat → Int) (ok : Bool), e = .returned (.tuple #[.agg #[.int .i64 need, .int .i64 many, .slice ag ng cg, .slice ac nc cc], .bool ok]) ∧ need ≤ 5 ∧ many ≤ 5 ∧ ng ≤ 6 ∧ nc ≤ 5 ∧ Ints w' ag ng zg ∧ Ints w' ac nc zc ∧ (∀ b off, ag = some ⟨b, off, none⟩ → w.heap.size ≤ b ∧ b < w'.heap.size) ∧ (∀ b off, ac = some ⟨b, off, none⟩ → w.heap.size ≤ b ∧ b < w'.heap.size) ∧ w.grownBy w' none ∧ (ok = true → 1 ≤ many ∧ 1 ≤ need ∧ need ≤ many) ∧ ((∃ b off, ac = some ⟨b, off, none⟩) ∨ ac = none ∧ nc = 0 ∧ cc = 0)
theorem gotk_none {w w1 : World} {R : Nat} (hb : Blk w1 R #[.int .i64 0, .int .i64 0, .slice none 0 0, .slice none 0 0] 63) (hR : w.heap.size ≤ R) (hg : w.grownBy w1 none) :
    Blk ((((w1.setCell ⟨R, 0, none⟩ (.int .i64 0)).setCell ⟨R, 1, none⟩ (.int .i64 0)).setCell ⟨R, 2, none⟩ (.slice none 0 0)).setCell ⟨R, 3, none⟩ (.slice none 0 0)) R #[.int .i64 0, .int .i64 0, .slice none 0 0, .slice none 0 0] 63 ∧
    GotK w (.returned (.tuple #[.agg #[.int .i64 0, .int .i64 0, .slice none 0 0, .slice none 0 0], .bool false])) ((((w1.setCell ⟨R, 0, none⟩ (.int .i64 0)).setCell ⟨R, 1, none⟩ (.int .i64 0)).setCell ⟨R, 2, none⟩ (.slice none 0 0)).setCell ⟨R, 3, none⟩ (.slice none 0 0)) := by
  have g1 := gtr' (gtr' (gtr' (grown_set w1 R 0 (.int .i64 0)) (grown_set _ R 1 (.int .i64 0))) (grown_set _ R 2 (.slice none 0 0))) (grown_set _ R 3 (.slice none 0 0))
  exact ⟨(((hb.set 0 _).set 1 _).set 2 _).set 3 _, 0, 0, none, 0, 0, fun _ => 0, none, 0, 0, fun _ => 0, false, rfl, by omega, by omega, by omega, by omega, .inl rfl, .inl rfl, (fun b off e => by cases e), (fun b off e => by cases e), grown_new hg hR g1, by simp, .inr ⟨rfl, rfl, rfl⟩⟩
/-- What holds while a key is made. -/
structure KSt (w2 : World) (need many : Int) (K bg ng cg : Nat) (zg : Nat → Int) (bc nc cc : Nat) (zc : Nat → Int) (W : World) : Prop where
  k : Blk W K #[.int .i64 need, .int .i64 many, .slice (some ⟨bg, 0, none⟩) ng cg, .slice (some ⟨bc, 0, none⟩) nc cc] 63
  rg : Row W w2.heap.size 3 bg ng cg zg
  rc : Row W w2.heap.size 3 bc nc cc zc
  ne : bg < bc
  K0 : w2.heap.size ≤ K
  g : w2.grownBy W none
theorem KSt.quiet {w2 : World} {need many : Int} {K bg ng cg : Nat} {zg : Nat → Int} {bc nc cc : Nat} {zc : Nat → Int} {W W' : World} (h : KSt w2 need many K bg ng cg zg bc nc cc zc W) (hg : W.grownBy W' none) : KSt w2 need many K bg ng cg zg bc nc cc zc W' :=
  ⟨h.k.keptN hg, h.rg.keptN hg, h.rc.keptN hg, h.ne, h.K0, gtr h.g hg⟩
def stored4 (w : World) (R : Nat) (v0 v1 v2 v3 : Value) : World := (((w.setCell ⟨R, 0, none⟩ v0).setCell ⟨R, 1, none⟩ v1).setCell ⟨R, 2, none⟩ v2).setCell ⟨R, 3, none⟩ v3
theorem gotk_some {w w3 W : World} {R need many K bg ng cg bc nc cc : Nat} {zg zc : Nat → Int} (hb : Blk W R #[.int .i64 0, .int .i64 0, .slice none 0 0, .slice none 0 0] 63) (hR : w.heap.size ≤ R) (hg : w.grownBy w3 none) (hR3 : R < w3.heap.size) (h : KSt w3 need many K bg ng cg zg bc nc cc zc W) (hng : ng ≤ 6) (hnc : nc ≤ 5) (hn : 1 ≤ need ∧ need ≤ 5) (hm : 1 ≤ many ∧ many ≤ 5) (hnm : need ≤ many) :
    Blk (stored4 W R (.int .i64 need) (.int .i64 many) (.slice (some ⟨bg, 0, none⟩) ng cg) (.slice (some ⟨bc, 0, none⟩) nc cc)) R #[.int .i64 need, .int .i64 many, .slice (some ⟨bg, 0, none⟩) ng cg, .slice (some ⟨bc, 0, none⟩) nc cc] 63 ∧
    GotK w (.returned (.tuple #[.agg #[.int .i64 need, .int .i64 many, .slice (some ⟨bg, 0, none⟩) ng cg, .slice (some ⟨bc, 0, none⟩) nc cc], .bool true])) (stored4 W R (.int .i64 need) (.int .i64 many) (.slice (some ⟨bg, 0, none⟩) ng cg) (.slice (some ⟨bc, 0, none⟩) nc cc)) := by
  have g1 : W.grownBy (stored4 W R (.int .i64 need) (.int .i64 many) (.slice (some ⟨bg, 0, none⟩) ng cg) (.slice (some ⟨bc, 0, none⟩) nc cc)) (some R) := gtr' (gtr' (gtr' (grown_set W R 0 (.int .i64 need)) (grown_set _ R 1 (.int .i64 many))) (grown_set _ R 2 (.slice (some ⟨bg, 0, none⟩) ng cg))) (grown_set _ R 3 (.slice (some ⟨bc, 0, none⟩) nc cc))
  have e1 := h.rg.from_; have e2 := h.rc.from_
  have r1 := h.rg.kept g1 (by intro e; have e := Option.some.inj e; omega)
  have r2 := h.rc.kept g1 (by intro e; have e := Option.some.inj e; omega)
  have l1 := r1.lt; have l2 := r2.lt; have hs := hg.size
  exact ⟨(((hb.set 0 _).set 1 _).set 2 _).set 3 _, need, many, _, ng, cg, zg, _, nc, cc, zc, true, rfl, hn.2, hm.2, hng, hnc, r1.ints, r2.ints, (fun b off e => by injection e with e; injection e with e _; omega), (fun b off e => by injection e with e; injection e with e _; omega), grown_new (gtr hg h.g) hR g1, (fun _ => ⟨hm.1, hn.1, hnm⟩), .inl ⟨_, _, rfl⟩⟩
/-- The key begun. -/
theorem KSt.first (w : World) (need many : Int) (W : World) (hW : W = ((w.alloc (.cells #[] 3)).alloc (.cells #[.int .i64 1] 3)).alloc (.cells #[.int .i64 need, .int .i64 many, .slice (some ⟨w.heap.size, 0, none⟩) 0 0, .slice (some ⟨w.heap.size + 1, 0, none⟩) 1 1] 63)) :
    KSt w need many (w.heap.size + 1 + 1) w.heap.size 0 0 (fun _ => 0) (w.heap.size + 1) 1 1 (fun _ => 1) W := by
  subst hW
  have h1 := row_lit1 (w.alloc (.cells #[] 3)) 3 1 (fun _ => 1) rfl
  have hs : (w.alloc (.cells #[] 3)).heap.size = w.heap.size + 1 := by show (w.heap.push _).size = _; simp
  rw [hs] at h1
  exact ⟨blk_new3 w _ _ _ _, ((row_empty w 3 (fun _ => 0)).alloc _).alloc _, (h1.alloc _).lower (Nat.le_succ _), Nat.lt_succ_self _, by omega, gtr (gtr (grown_alloc _ _ _) (grown_alloc _ _ _)) (grown_alloc _ _ _)⟩
/-- The dealer appended, not yet stored. -/
structure KMid (w2 : World) (need many : Int) (K bg ng cg b6 c6 : Nat) (z6 : Nat → Int) (bc nc cc : Nat) (zc : Nat → Int) (W : World) : Prop where
  k : Blk W K #[.int .i64 need, .int .i64 many, .slice (some ⟨bg, 0, none⟩) ng cg, .slice (some ⟨bc, 0, none⟩) nc cc] 63
  rg : Row W w2.heap.size 3 b6 (ng + 1) c6 z6
  rc : Row W w2.heap.size 3 bc nc cc zc
  K0 : w2.heap.size ≤ K
  g : w2.grownBy W none
theorem KSt.app {w2 : World} {need many : Int} {K bg ng cg : Nat} {zg : Nat → Int} {bc nc cc : Nat} {zc : Nat → Int} {W W' : World} {o : Obj} {b6 c6 : Nat} {z6 : Nat → Int} (h : KSt w2 need many K bg ng cg zg bc nc cc zc W) (hg : (W.alloc o).grownBy W' (some bg)) (hr : Row W' w2.heap.size 3 b6 (ng + 1) c6 z6) : KMid w2 need many K bg ng cg b6 c6 z6 bc nc cc zc W' := by
  have hne := h.ne
  have hK := row_blk h.rg h.k (by decide)
  have g' : W.grownBy W' (some bg) := gtr' (grown_alloc W o _) hg
  exact ⟨h.k.kept g' (by intro e; have e := Option.some.inj e; omega), hr, h.rc.kept g' (by intro e; have e := Option.some.inj e; omega), h.K0, grown_new (gtr h.g (grown_alloc _ _ _)) h.rg.from_ hg⟩
/-- The dealer stored. -/
structure KAft (w2 : World) (need many : Int) (K ng b6 c6 : Nat) (z6 : Nat → Int) (bc nc cc : Nat) (zc : Nat → Int) (W : World) : Prop where
  k : Blk W K #[.int .i64 need, .int .i64 many, .slice (some ⟨b6, 0, none⟩) (ng + 1) c6, .slice (some ⟨bc, 0, none⟩) nc cc] 63
  rg : Row W w2.heap.size 3 b6 (ng + 1) c6 z6
  rc : Row W w2.heap.size 3 bc nc cc zc
  K0 : w2.heap.size ≤ K
  g : w2.grownBy W none
theorem KMid.store {w2 : World} {need many : Int} {K bg ng cg b6 c6 : Nat} {z6 : Nat → Int} {bc nc cc : Nat} {zc : Nat → Int} {W : World} (h : KMid w2 need many K bg ng cg b6 c6 z6 bc nc cc zc W) : KAft w2 need many K ng b6 c6 z6 bc nc cc zc (W.setCell ⟨K, 2, none⟩ (.slice (some ⟨b6, 0, none⟩) (ng + 1) c6)) := by
  have h1 := row_blk h.rg h.k (by decide); have h2 := row_blk h.rc h.k (by decide)
  have hg := grown_set W K 2 (.slice (some ⟨b6, 0, none⟩) (ng + 1) c6)
  exact ⟨h.k.set 2 _, h.rg.kept hg (by intro e; have e := Option.some.inj e; omega), h.rc.kept hg (by intro e; have e := Option.some.inj e; omega), h.K0, grown_new h.g h.K0 hg⟩
theorem KAft.quiet {w2 : World} {need many : Int} {K ng b6 c6 : Nat} {z6 : Nat → Int} {bc nc cc : Nat} {zc : Nat → Int} {W W' : World} (h : KAft w2 need many K ng b6 c6 z6 bc nc cc zc W) (hg : W.grownBy W' none) : KAft w2 need many K ng b6 c6 z6 bc nc cc zc W' :=
  ⟨h.k.keptN hg, h.rg.keptN hg, h.rc.keptN hg, h.K0, gtr h.g hg⟩
theorem KAft.next {w2 : World} {need many : Int} {K ng b6 c6 : Nat} {z6 : Nat → Int} {bc nc cc : Nat} {zc : Nat → Int} {W W' : World} {bs n c : Nat} {z : Nat → Int} (h : KAft w2 need many K ng b6 c6 z6 bc nc cc zc W) (hg : W.grownBy W' none) (hr : Row W' W.heap.size 3 bs n c z) : KSt w2 need many K b6 (ng + 1) c6 z6 bs n c z (W'.setCell ⟨K, 3, none⟩ (.slice (some ⟨bs, 0, none⟩) n c)) := by
  have h' := h.quiet hg
  have h1 := row_blk h'.rg h'.k (by decide); have h2 := row_blk hr h'.k (by decide)
  have hs := grown_set W' K 3 (.slice (some ⟨bs, 0, none⟩) n c)
  have l1 := h.rg.lt; have l2 := hr.from_; have l3 := h.g.size
  exact ⟨h'.k.set 3 _, h'.rg.kept hs (by intro e; have e := Option.some.inj e; omega), (hr.lower (by omega)).kept hs (by intro e; have e := Option.some.inj e; omega), by omega, h.K0, grown_new h'.g h.K0 hs⟩
/-- Deals that all count, each of another dealer. -/
def Hon (D : Nat → DV) (nd : Nat) (A : Nat → Ans) (na : Nat) (need many : Int) : Prop :=
  dsF D nd = true ∧ ∀ j, j < nd → gdF (D j).f (D j).n1 (D j).z1 (D j).n2 (D j).z2 A na need many = true
/-- A key of the call's own, or none at all; of deals that all count, and are as many as are needed, a key. -/
def GotKH (need many nd : Nat) (D : Nat → DV) (A : Nat → Ans) (na : Nat) (w : World) (e : Ending) (w' : World) : Prop :=
  GotK w e w' ∧ (Hon D nd A na need many → need ≤ nd → ∃ x, e = .returned (.tuple #[x, .bool true]))
end Draw
end Go.Proofs.Ythbigmcklacbnaa
