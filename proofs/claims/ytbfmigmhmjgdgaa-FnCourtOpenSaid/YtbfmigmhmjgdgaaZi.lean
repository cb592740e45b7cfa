/-
  Courts: the model's draws.
-/
import Derived.Test.YtbfmigmhmjgdgaaZh
import Derived.Test.YtbfmigmhmjgdgaaGy
namespace Go.Proofs.Ytbfmigmhmjgdgaa
namespace Ct
open Go.RowKit Alg Mem Con Draw
set_option linter.unusedVariables false

theorem OEQ.le {w : World} {lo : Nat} {a : Option Addr} {n c : Nat} {z : Nat → Int} (h : OEQ w lo a n c z) : n ≤ c ∧ c ≤ maxLen := by
  rcases h.2 with ⟨hv, h0⟩ | ⟨g, c', cur, hv, _, _, hn, hm, _⟩
  · injection hv with e1 e2 e3; subst e2; subst e3; exact ⟨Nat.le_refl _, Nat.zero_le _⟩
  · injection hv with e1 e2 e3; subst e3; exact ⟨hn, hm⟩
theorem gweakQ {w w' : World} (h : w.grownBy w' none) (r : Option Nat) : w.grownBy w' r := ⟨h.os, h.tape, h.output, h.size, fun k hk _ => h.block k hk (by simp)⟩
theorem opV_n (C : CV) (x : Int) : (opV C x).n ≤ C.n := by
  rw [opV_eq]; unfold dsV opS newC zeroC
  split
  · split
    · exact Nat.le_refl _
    · exact Nat.zero_le _
  · exact Nat.zero_le _
theorem vtV_n (C : CV) (x : Int) : (vtV C x).n ≤ C.n + 1 := by
  rw [vtV_eq]; unfold dsV vtS addC zeroC
  split
  · split
    · exact Nat.le_refl _
    · exact Nat.le_succ _
  · exact Nat.zero_le _
theorem veV_n (C : CV) : (veV C).n ≤ C.n := by
  rw [veV_eq]; unfold dsV veS endC zeroC
  split
  · split
    · exact Nat.le_refl _
    · exact Nat.le_refl _
  · exact Nat.zero_le _
theorem wp_append_oneQ {o : Oper} {act : Act} {w : World} {K : Act → World → Prop} {Q : Exit → Act → World → Prop} (s x : Operand)
    (ho : o.op = .call { callee := .builtin .append, args := #[s, x], argTypes := #[23, 23] }) (lo : Nat) (a : Option Addr) (n c : Nat) (z : Nat → Int) (hs : act.eval s = .slice a n c) (hown : OEQ w lo a n c z)
    (ad : Addr) (y : Int) (hx : act.eval x = .slice (some ad) 1 1) (hc : ∀ j u, [Value.int .i64 y][j]? = some u → w.cell? (ad.add j) = some u) (hn : n ≤ 2000000) (hlo : lo ≤ w.heap.size)
    (h : ∀ b c' w', OEQ w' lo (some ⟨b, 0, none⟩) (n + 1) c' (addz z n y) → w.grownBy w' (Value.slice a n c).ownBlock → K (act.put o.dst (.slice (some ⟨b, 0, none⟩) (n + 1) c')) w') : o.wp Try.prog act w K Q := by
  obtain ⟨i0, hi, hz0, hz1, hz2⟩ := info_parts info_int
  refine wp_append_own _ s x _ ho lo 3 i0 (.int .i64 0) 1 8 und_ints hi hz0 hz1 hz2 rfl (by decide) _ n (vals z n) hs hown ad 1 1 [.int .i64 y] hx rfl hc (by simp [Value.oneCell']) (by unfold maxLen; omega) (by omega) hlo ?_
  intro v' w' ho' hg' hv'
  have e : vals z n ++ [.int .i64 y] = vals (addz z n y) (n + 1) := by
    have h1 : vals (addz z n y) (n + 1) = vals (addz z n y) n ++ [.int .i64 (addz z n y n)] := by simp [vals, List.range_succ]
    rw [h1, addz_at, vals_congr (z := addz z n y) (y := z) fun j hj => addz_lt hj]
  rw [e] at ho'
  rcases ho'.2 with ⟨hv, h0⟩ | ⟨g', c', cur, hv, _⟩
  · omega
  · subst hv
    exact h g' c' w' ho' hg'
theorem blk_newsQ {w : World} {b : Nat} {y : Int} {T : TypeId} (h : Blk w b #[.int .i64 y] T) : ∀ j u, [Value.int .i64 y][j]? = some u → w.cell? ((⟨b, 0, none⟩ : Addr).add j) = some u := by
  intro j u hu
  match j, hu with
  | 0, hu => simp at hu; subst hu; simpa [Addr.add] using h.cell 0
/-- A drawn court. -/
def GotCt (w : World) (base B : Nat) (a : Option Addr) (len cap p : Nat) (e : Ending) (w' : World) : Prop :=
  ∃ (C : CV) (a1 : Option Addr) (c1 p' : Nat), e = .returned (.agg #[.int .i64 C.many, .int .i64 C.need, .bool C.on, .int .i64 C.at_, .slice a1 C.n c1, .bool C.veto]) ∧ OEQ w' w.heap.size a1 C.n c1 C.f ∧ C.n ≤ 6 ∧ w.grownBy w' (some B) ∧ Rd w' base B a len cap p' ∧ p' ≤ p + 20
end Ct
end Go.Proofs.Ytbfmigmhmjgdgaa
