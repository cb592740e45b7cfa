/-
  Whole slices appended to an empty one; the model's copy of a key.
-/
import Derived.Test.YtgahfifojagghaaDoorTd
namespace Go.Proofs.YtgahfifojagghaaDoor
namespace Con
open Go.RowKit Alg Mem Draw Hd
set_option linter.unusedVariables false

/-- What a slice may be. -/
def Sl (a : Option Addr) (n c : Nat) : Prop := (∃ ad, a = some ad) ∨ (a = none ∧ n = 0)
theorem ints_sl {w : World} {a : Option Addr} {n c : Nat} {z : Nat → Int} (h : Ints w a n z) : Sl a n c := by
  rcases h with h | ⟨b, off, e, _⟩
  · cases a with
    | none => exact .inr ⟨rfl, h⟩
    | some ad => exact .inl ⟨ad, rfl⟩
  · exact .inl ⟨_, e⟩
theorem sh_sl {w : World} {a : Option Addr} {n c : Nat} {S : Nat → SV} (h : ShIn w a n S) : Sl a n c := by
  rcases h with h | ⟨b, off, e, _⟩
  · cases a with
    | none => exact .inr ⟨rfl, h⟩
    | some ad => exact .inl ⟨ad, rfl⟩
  · exact .inl ⟨_, e⟩
theorem ints_newsA {w : World} {ad : Addr} {n : Nat} {z : Nat → Int} (hI : Ints w (some ad) n z) : ∀ j u, (vals z n)[j]? = some u → w.cell? (ad.add j) = some u := by
  rcases hI with h0 | ⟨b, off, e, hb, hc⟩
  · subst h0; intro j u hu; simp [vals] at hu
  · injection e with e; subst e; exact ints_news (.inr ⟨b, off, rfl, hb, hc⟩)
theorem append_owned_none {P : Program} {w : World} (base : Nat) (t ty e : TypeId) (i : TypeInfo) (size : Nat) (ht : P.underlying t = some (.slice e)) (hi : P.info? e = some i)
    (v : Value) (n c : Nat) (xs : List Value) (hown : w.ownsRow base e size v n xs) :
    (Builtin.append_ #[t, t] ty #[v, .slice none 0 c]).run P w = .ok v w := by
  rcases hown.2 with ⟨rfl, rfl⟩ | ⟨g, cap, cur, rfl, _, _, hnc, _⟩
  · simp [Builtin.append_, run_underlying ht, sizeOf, typeInfo, hi, Builtin.lenOf, Builtin.firstCells]
  · simp [Builtin.append_, run_underlying ht, sizeOf, typeInfo, hi, Builtin.lenOf, Builtin.firstCells, hnc, storeCells]
theorem wpList_append_none {P : Program} {w : World} {ops : Array Oper} {rest : List Oper} {o : Oper} {a : Act} {Q : Exit → Act → World → Prop} (hgd : o.guard = none) (s x : Operand) (t : TypeId)
    (ho : o.op = .call { callee := .builtin .append, args := #[s, x], argTypes := #[t, t] })
    (base : Nat) (e : TypeId) (i : TypeInfo) (size : Nat) (ht : P.underlying t = some (.slice e)) (hi : P.info? e = some i)
    (v : Value) (n c : Nat) (xs : List Value) (hs : a.eval s = v) (hown : w.ownsRow base e size v n xs) (hx : a.eval x = .slice none 0 c)
    (h : wpList P ops Q rest (a.put o.dst v) w) : wpList P ops Q (o :: rest) a w := by
  refine wpList_plain hgd fun K hK => ?_
  have hrun := append_owned_none (P := P) (w := w) base t o.type e i size ht hi v n c xs hown
  unfold Oper.wp
  simp [execOp, ho, resolve, invoke, builtin, hs, hx, hrun, Result.andThen]
  exact hK _ _ h
/-- A slice of ints of the call's own. -/
def OI (w : World) (lo b n c : Nat) (z : Nat → Int) : Prop := w.ownsRow lo 3 1 (.slice (some ⟨b, 0, none⟩) n c) n (vals z n)
theorem OI.lt {w : World} {lo b n c : Nat} {z : Nat → Int} (h : OI w lo b n c z) : lo ≤ b ∧ b < w.heap.size := World.ownsRow.lt h b rfl
theorem OI.le {w : World} {lo b n c : Nat} {z : Nat → Int} (h : OI w lo b n c z) : n ≤ c ∧ c ≤ maxLen := by
  rcases h.2 with ⟨hv, _⟩ | ⟨g, c', cur, hv, hb, _, hn, hm, _⟩
  · cases hv
  · injection hv with h1 h2 h3; subst h3; exact ⟨hn, hm⟩
theorem OI.ints {w : World} {lo b n c : Nat} {z : Nat → Int} (h : OI w lo b n c z) : Ints w (some ⟨b, 0, none⟩) n z :=
  .inr ⟨b, 0, rfl, h.lt.2, fun j hj => by rw [Nat.zero_add]; exact (World.ownsRow.cellAt h j (by omega)).trans (vals_get z hj)⟩
theorem OI.kept {w w' : World} {lo b n c : Nat} {z : Nat → Int} {r : Option Nat} (h : OI w lo b n c z) (hg : w.grownBy w' r) (hne : some b ≠ r) : OI w' lo b n c z := World.ownsRow.kept h hg (.inr hne)
theorem OI.keptN {w w' : World} {lo b n c : Nat} {z : Nat → Int} (h : OI w lo b n c z) (hg : w.grownBy w' none) : OI w' lo b n c z := h.kept hg (by simp)
theorem OI.lower {w : World} {lo lo' b n c : Nat} {z : Nat → Int} (h : OI w lo b n c z) (hl : lo' ≤ lo) : OI w lo' b n c z := owns_lower h hl
theorem own_oi {w : World} {lo : Nat} {v : Value} {n : Nat} {z : Nat → Int} (h : w.ownsRow lo 3 1 v n (vals z n)) (hv : v ≠ .slice none 0 0) : ∃ b c, v = .slice (some ⟨b, 0, none⟩) n c ∧ OI w lo b n c z := by
  rcases h.2 with ⟨hv', _⟩ | ⟨g, c, cur, hv', _⟩
  · exact absurd hv' hv
  · rw [hv'] at h
    exact ⟨g, c, hv', h⟩
set_option maxRecDepth 100000 in
theorem wpList_append_whole {ops : Array Oper} {rest : List Oper} {o : Oper} {act : Act} {w : World} {Q : Exit → Act → World → Prop} (hgd : o.guard = none) (s x : Operand)
    (ho : o.op = .call { callee := .builtin .append, args := #[s, x], argTypes := #[22, 22] }) (base g : Nat) (hs : act.eval s = .slice (some ⟨g, 0, none⟩) 0 0) (hown : w.ownsRow base 3 1 (.slice (some ⟨g, 0, none⟩) 0 0) 0 [])
    (a : Option Addr) (n c : Nat) (z : Nat → Int) (hx : act.eval x = .slice a n c) (hI : Ints w a n z) (hsl : Sl a n c) (hn : n ≤ 2000000) (hbase : base ≤ w.heap.size)
    (h : ∀ b c' w', OI w' base b n c' z → w.grownBy w' (some g) → wpList Tryd.prog ops Q rest (act.put o.dst (.slice (some ⟨b, 0, none⟩) n c')) w') : wpList Tryd.prog ops Q (o :: rest) act w := by
  obtain ⟨i0, hi, hz0, hz1, hz2⟩ := info_parts info_int
  rcases hsl with ⟨ad, rfl⟩ | ⟨rfl, rfl⟩
  · refine wpList_append_own _ hgd s x _ ho base 3 i0 (.int .i64 0) 1 8 und_ints hi hz0 hz1 hz2 rfl (by decide) _ 0 [] hs hown ad n c (vals z n) hx (by simp [vals_length]) (ints_newsA hI) (vals_one _ _) (by unfold maxLen; omega) (by omega) hbase ?_
    intro v' w' ho' hg' hv'
    rw [Nat.zero_add, List.nil_append] at ho'
    obtain ⟨b', c', rfl, hI'⟩ := own_oi ho' (fun e => by have := (hv'.1 e).1; cases this)
    exact h b' c' w' hI' hg'
  · refine wpList_append_none hgd s x _ ho base 3 i0 1 und_ints hi _ 0 c [] hs hown hx ?_
    exact h g 0 w hown (grown_refl w _)
/-- A key's copy. -/
def KeyC (w : World) (need many : Int) (ng : Nat) (zg : Nat → Int) (nc : Nat) (zc : Nat → Int) (e : Ending) (w' : World) : Prop :=
  ∃ b1 c1 b2 c2, e = .returned (.agg #[.int .i64 need, .int .i64 many, .slice (some ⟨b1, 0, none⟩) ng c1, .slice (some ⟨b2, 0, none⟩) nc c2]) ∧ OI w' w.heap.size b1 ng c1 zg ∧ OI w' w.heap.size b2 nc c2 zc ∧ w.grownBy w' none
end Con
end Go.Proofs.YtgahfifojagghaaDoor
