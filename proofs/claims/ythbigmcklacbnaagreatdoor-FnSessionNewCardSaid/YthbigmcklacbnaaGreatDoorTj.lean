/-
  Sessions: the model's SessionPut.
-/
import Derived.Test.YthbigmcklacbnaaGreatDoorTi
import Derived.Laws.OwnMore
namespace Go.Proofs.YthbigmcklacbnaaGreatDoor
namespace Con
open Go.RowKit Alg Mem Draw Hd
set_option linter.unusedVariables false

/-- One part put in. -/
def putS (S : Nat → SV) (q : Nat) (z : Int) (j : Nat) : SV := if j = q then ⟨(S j).m, (S j).R, true, z⟩ else S j
theorem cellsS_put (S : Nat → SV) {k n : Nat} (z : Int) (hk : k < n) : ((cellsS S n).set (k * 4 + 2) (.bool true)).set (k * 4 + 3) (.int .i64 z) = cellsS (putS S k z) n := by
  apply List.ext_getElem?
  intro j
  by_cases hj : j < n * 4
  · obtain ⟨q, i, hi, rfl⟩ : ∃ q i, i < 4 ∧ j = q * 4 + i := ⟨j / 4, j % 4, by omega, by omega⟩
    have hl := cellsS_len S n
    rw [cellsS_at _ (by omega : q < n) hi, List.getElem?_set, List.getElem?_set, cellsS_at _ (by omega : q < n) hi]
    simp only [List.length_set, hl]
    by_cases e : q = k
    · subst e
      unfold putS
      rw [if_pos rfl]
      rcases (by omega : i = 0 ∨ i = 1 ∨ i = 2 ∨ i = 3) with rfl | rfl | rfl | rfl
      · rw [if_neg (by omega), if_neg (by omega)]; rfl
      · rw [if_neg (by omega), if_neg (by omega)]; rfl
      · rw [if_neg (by omega), if_pos (by omega), if_pos (by omega)]; rfl
      · rw [if_pos (by omega), if_pos (by omega)]; rfl
    · unfold putS
      rw [if_neg (by omega), if_neg (by omega), if_neg e]
  · rw [List.getElem?_eq_none (by simp [cellsS_len]; omega), List.getElem?_eq_none (by rw [cellsS_len]; omega)]
theorem OwnSh.put {w : World} {lo b n c : Nat} {S : Nat → SV} (h : OwnSh w lo (.slice (some ⟨b, 0, none⟩) n c) n S) {k : Nat} (hk : k < n) (z : Int) : OwnSh ((w.setCell ⟨b, k * 4 + 2, none⟩ (.bool true)).setCell ⟨b, k * 4 + 3, none⟩ (.int .i64 z)) lo (.slice (some ⟨b, 0, none⟩) n c) n (putS S k z) := by
  unfold OwnSh at h ⊢
  rw [← cellsS_put S z hk]
  exact (World.ownsRow.stored (World.ownsRow.stored h (k * 4 + 2) (.bool true)).1 (k * 4 + 3) (.int .i64 z)).1
theorem own_empty {w : World} {lo b : Nat} {S : Nat → SV} (hb : Blk w b #[] 35) (hl : lo ≤ b) : OwnSh w lo (.slice (some ⟨b, 0, none⟩) 0 0) 0 S := ⟨rfl, .inr ⟨b, 0, #[], rfl, hl, hb, Nat.le_refl _, by decide, rfl, rfl⟩⟩
theorem OI.keptBlk {w w' : World} {lo g n c b : Nat} {z : Nat → Int} {vs : Array Value} (h : OI w lo g n c z) (hb : Blk w b vs 30) (hg : w.grownBy w' (some b)) : OI w' lo g n c z :=
  h.kept hg (fun e => own_ne_b h hb (by decide) e.symm)
theorem own_ne_own {W : World} {lo lo' k k' n n' b b' c c' : Nat} {T U : TypeId} {xs ys : List Value} (h : W.ownsRow lo T k (.slice (some ⟨b, 0, none⟩) n c) n xs) (h' : W.ownsRow lo' U k' (.slice (some ⟨b', 0, none⟩) n' c') n' ys) (hne : T ≠ U) : b ≠ b' := by
  rcases h.2 with ⟨hv, _⟩ | ⟨g, _, cur, hv, _, hb, _⟩
  · cases hv
  rcases h'.2 with ⟨hv', _⟩ | ⟨g', _, cur', hv', _, hb', _⟩
  · cases hv'
  injection hv with e _ _; injection e with e; injection e with e _
  injection hv' with e' _ _; injection e' with e'; injection e' with e' _
  subst e; subst e'
  intro hbb
  subst hbb
  rw [hb] at hb'
  injection hb' with hb'
  injection hb' with _ k2 _
  exact hne k2
theorem OI.keptSh {w w' : World} {lo lo' g n c b m c' : Nat} {z : Nat → Int} {S : Nat → SV} (h : OI w lo g n c z) (hO : OwnSh w lo' (.slice (some ⟨b, 0, none⟩) m c') m S) (hg : w.grownBy w' (some b)) : OI w' lo g n c z :=
  h.kept hg (fun e => own_ne_own h hO (by decide) (Option.some.inj e))
theorem blk_keptSh {w w' : World} {lo b m c g : Nat} {S : Nat → SV} {vs : Array Value} (h : Blk w g vs 30) (hO : OwnSh w lo (.slice (some ⟨b, 0, none⟩) m c) m S) (hg : w.grownBy w' (some b)) : Blk w' g vs 30 := h.kept hg (own_ne_b hO h (by decide))
set_option maxRecDepth 100000 in
theorem wp_append_sh {o : Oper} {act : Act} {w : World} {K : Act → World → Prop} {Q : Exit → Act → World → Prop} (s x : Operand)
    (ho : o.op = .call { callee := .builtin .append, args := #[s, x], argTypes := #[28, 28] }) (base g : Nat) (S : Nat → SV) (hs : act.eval s = .slice (some ⟨g, 0, none⟩) 0 0) (hown : OwnSh w base (.slice (some ⟨g, 0, none⟩) 0 0) 0 S)
    (a : Option Addr) (n c : Nat) (hx : act.eval x = .slice a n c) (hI : ShIn w a n S) (hsl : Sl a n c) (hn : n ≤ 2000000) (hbase : base ≤ w.heap.size)
    (h : ∀ b c' w', OwnSh w' base (.slice (some ⟨b, 0, none⟩) n c') n S → w.grownBy w' (some g) → K (act.put o.dst (.slice (some ⟨b, 0, none⟩) n c')) w') : o.wp Tryz.prog act w K Q := by
  obtain ⟨i0, hi, hz0, hz1, hz2⟩ := info_parts info_shn
  rcases hsl with ⟨ad, rfl⟩ | ⟨rfl, rfl⟩
  · have hnews : ∀ j u, (cellsS S n)[j]? = some u → w.cell? (ad.add j) = some u := by
      rcases hI with h0 | ⟨b', off', e, _, hc⟩
      · subst h0; intro j u hu; simp [cellsS] at hu
      · injection e with e; subst e
        exact cellsS_in hc
    refine wp_append_own _ s x _ ho base 35 i0 (.agg #[.int .i64 0, .int .i64 0, .bool false, .int .i64 0]) 4 32 und_shns hi hz0 hz1 hz2 rfl (by decide) _ 0 (cellsS S 0) hs hown ad n c (cellsS S n) hx (cellsS_len S n) hnews (cellsS_one S n) (by unfold maxLen; omega) (by omega) hbase ?_
    intro v' w' ho' hg' hv'
    rw [Nat.zero_add, show cellsS S 0 ++ cellsS S n = cellsS S n from rfl] at ho'
    rcases ho'.2 with ⟨hv, _⟩ | ⟨g', c', cur, hv, _⟩
    · have := (hv'.1 hv).1; cases this
    · subst hv
      exact h g' c' w' ho' hg'
  · have hrun := append_owned_none (P := Tryz.prog) (w := w) base 28 o.type 35 i0 4 und_shns hi _ 0 c (cellsS S 0) hown
    unfold Oper.wp
    simp [execOp, ho, resolve, invoke, builtin, hs, hx, hrun, Result.andThen]
    exact h g 0 w hown (grown_refl w _)
/-- One part put in, if its member is there. -/
def ptS (S : Nat → SV) (m : Int) (n : Nat) (z : Int) : Nat → SV := if hasz (mS S) m n then putS S (posz (mS S) m n) z else S
theorem ptS_yes {S : Nat → SV} {m : Int} {n : Nat} {z : Int} (h : hasz (mS S) m n = true) : ptS S m n z = putS S (posz (mS S) m n) z := if_pos h
theorem ptS_no {S : Nat → SV} {m : Int} {n : Nat} {z : Int} (h : hasz (mS S) m n = false) : ptS S m n z = S := if_neg (by rw [h]; decide)
/-- What SessionPut answers. -/
def SesP (w : World) (need many : Int) (ng : Nat) (zg : Nat → Int) (nc : Nat) (zc : Nat → Int) (msg : Int) (n : Nat) (S : Nat → SV) (m z : Int) (e : Ending) (w' : World) : Prop :=
  if tsF need many ng zg nc zc msg n S = true ∧ fok z = true then SesC w need many ng zg nc zc msg n (ptS S m n z) (hasz (mS S) m n) e w' else SesZ w e w'
theorem sesP_yes {w : World} {need many : Int} {ng : Nat} {zg : Nat → Int} {nc : Nat} {zc : Nat → Int} {msg : Int} {n : Nat} {S : Nat → SV} {m z : Int} {e : Ending} {w' : World} (h1 : tsF need many ng zg nc zc msg n S = true) (h2 : fok z = true) (h : SesC w need many ng zg nc zc msg n (ptS S m n z) (hasz (mS S) m n) e w') : SesP w need many ng zg nc zc msg n S m z e w' := by unfold SesP; rw [if_pos ⟨h1, h2⟩]; exact h
theorem sesP_no {w : World} {need many : Int} {ng : Nat} {zg : Nat → Int} {nc : Nat} {zc : Nat → Int} {msg : Int} {n : Nat} {S : Nat → SV} {m z : Int} {e : Ending} {w' : World} (h1 : ¬ (tsF need many ng zg nc zc msg n S = true ∧ fok z = true)) (h : SesZ w e w') : SesP w need many ng zg nc zc msg n S m z e w' := by unfold SesP; rw [if_neg h1]; exact h
end Con
end Go.Proofs.YthbigmcklacbnaaGreatDoor
