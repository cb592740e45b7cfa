/-
  How the model draws shares; what it asks of them.
-/
import Derived.Test.YthbigmcklacbnaaGreatDoorQk
import Derived.Test.YthbigmcklacbnaaGreatDoorSm
import Derived.Deep.RegionHeld3
import Derived.Test.YthbigmcklacbnaaGreatDoorKc
import Derived.Test.YthbigmcklacbnaaGreatDoorDo
namespace Go.Proofs.YthbigmcklacbnaaGreatDoor
namespace Draw
open Go.RowKit Alg Mem Con Mp Hd
set_option linter.unusedVariables false

theorem OwnH.shape {w : World} {lo : Nat} {v : Value} {k : Nat} (h : OwnH w lo v k) : ∃ a c, v = .slice a k c ∧ k ≤ c ∧ c ≤ maxLen := by
  obtain ⟨zs, h⟩ := h
  rcases h.2 with ⟨hv, h0⟩ | ⟨g, c, cur, hv, _, _, h1, h2, _⟩
  · exact ⟨none, 0, by rw [hv, h0], by omega, by unfold maxLen; omega⟩
  · exact ⟨_, c, hv, h1, h2⟩
theorem OwnH.hld {w : World} {lo : Nat} {v : Value} {k : Nat} (h : OwnH w lo v k) : ∃ a c H, v = .slice a k c ∧ HldIn w a k H ∧ k ≤ c ∧ c ≤ maxLen := by
  obtain ⟨a, c, rfl, h1, h2⟩ := h.shape
  by_cases h0 : 1 ≤ k
  · obtain ⟨g, c', hv, hgl, hgs, _, _, hcel, _, _⟩ := h.ptr h0
    injection hv with e1 _ e3; subst e1
    have ⟨z, hz⟩ : ∃ z : Nat → Int, ∀ j, j < k * 2 → w.cell? ⟨g, j, none⟩ = some (.int .i64 (z j)) := by
      classical
      exact ⟨fun j => if hj : j < k * 2 then (hcel j hj).choose else 0, fun j hj => by simp only [dif_pos hj]; exact (hcel j hj).choose_spec⟩
    refine ⟨_, c, fun j => ⟨z (j * 2), z (j * 2 + 1)⟩, rfl, .inr ⟨g, 0, rfl, hgs, fun j hj => ?_⟩, h1, h2⟩
    rw [Nat.zero_add]
    exact ⟨hz _ (by omega), hz _ (by omega)⟩
  · exact ⟨a, c, fun _ => ⟨0, 0⟩, rfl, .inl (by omega), h1, h2⟩
/-- What holds while shares are drawn. -/
structure LSt (w : World) (base B : Nat) (a : Option Addr) (len cap p' : Nat) (W : World) (v : Value) (k : Nat) : Prop where
  own : OwnH W w.heap.size v k
  g : w.grownBy W (some B)
  rd : Rd W base B a len cap p'
theorem LSt.step {w : World} {base B : Nat} {a : Option Addr} {len cap p' p2 : Nat} {W W' : World} {v : Value} {k : Nat} (h : LSt w base B a len cap p' W v k) (hB : B < w.heap.size) (hg : W.grownBy W' (some B)) (hr : Rd W' base B a len cap p2) : LSt w base B a len cap p2 W' v k :=
  ⟨h.own.kept hg (fun g e => by injection e with e; omega), gtr' h.g hg, hr⟩
theorem LSt.app {w W W' : World} {base B : Nat} {a : Option Addr} {len cap p' : Nat} {v v' : Value} {k : Nat} {zs : List Int} {x y : Int} {o : Obj} (h : LSt w base B a len cap p' W v k) (hz : W.ownsRow w.heap.size 78 2 v k (zs.map fun z => .int .i64 z)) (hB : B < w.heap.size) (hg : (W.alloc o).grownBy W' v.ownBlock) (ho : W'.ownsRow w.heap.size 78 2 v' (k + 1) ((zs.map fun z => .int .i64 z) ++ [.int .i64 x, .int .i64 y])) : LSt w base B a len cap p' W' v' (k + 1) := by
  have hg' : W.grownBy W' v.ownBlock := grown_trans (grown_alloc W o _) hg
  have hne : ∀ g, v.ownBlock = some g → w.heap.size ≤ g := fun g hv => (hz.lt g hv).1
  refine ⟨⟨zs ++ [x, y], by simpa using ho⟩, ?_, ?_⟩
  · cases hv : v.ownBlock with
    | none => rw [hv] at hg'; exact grown_trans h.g (grown_some hg')
    | some g => rw [hv] at hg'; exact grown_newR h.g (hne g hv) hg'
  · have hlt := h.rd.lt; have hfr := h.rd.from_
    exact h.rd.kept (fun j hj => hg'.block j (by omega) (by intro e; have := hne j e.symm; omega)) (hg'.block B hlt (by intro e; have := hne B e.symm; omega))
theorem LSt.first {w : World} {base B : Nat} {a : Option Addr} {len cap p : Nat} (h : Rd w base B a len cap p) : LSt w base B a len cap p (w.alloc (.cells #[] 78)) (.slice (some ⟨w.heap.size, 0, none⟩) 0 0) 0 :=
  ⟨⟨[], rfl, .inr ⟨_, 0, #[], rfl, Nat.le_refl _, Blk.new _ #[] _, Nat.le_refl _, by decide, rfl, rfl⟩⟩, grown_alloc _ _ _, h.alloc _⟩
def GotLs (w : World) (base B : Nat) (a : Option Addr) (len cap p n : Nat) (e : Ending) (w' : World) : Prop :=
  ∃ (v : Value) (k : Nat), e = .returned v ∧ OwnH w' w.heap.size v k ∧ k ≤ n + 1 ∧ w.grownBy w' (some B) ∧ ∃ p', p ≤ p' ∧ p' ≤ p + 20 ∧ Rd w' base B a len cap p'
/-- Shares, drawn from the program's input. -/
def GotO (w : World) (e : Ending) (w' : World) : Prop :=
  ∃ (a : Option Addr) (n c : Nat) (H : Nat → HV), e = .returned (.slice a n c) ∧ HldIn w' a n H ∧ n ≤ 10 ∧ n ≤ c ∧ c ≤ maxLen ∧ w.grownBy w' none
/-- How many are needed, and shares. -/
def GotS (w : World) (e : Ending) (w' : World) : Prop :=
  ∃ (need : Int) (a : Option Addr) (n c : Nat) (H : Nat → HV), e = .returned (.tuple #[.int .i64 need, .slice a n c]) ∧ HldIn w' a n H ∧ n ≤ 10 ∧ n ≤ c ∧ c ≤ maxLen ∧ w.grownBy w' none
/-- How many are needed, shares, and a secret. -/
def GotW (w : World) (e : Ending) (w' : World) : Prop :=
  ∃ (need : Int) (a : Option Addr) (n c : Nat) (H : Nat → HV) (s : Int), e = .returned (.tuple #[.int .i64 need, .slice a n c, .int .i64 s]) ∧ HldIn w' a n H ∧ n ≤ 10 ∧ n ≤ c ∧ c ≤ maxLen ∧ w.grownBy w' none
end Draw
end Go.Proofs.YthbigmcklacbnaaGreatDoor
/-
  How the model draws a key and shares.
-/

namespace Go.Proofs.YthbigmcklacbnaaGreatDoor
namespace Draw
open Go.RowKit Alg Mem Con Mp Hd
set_option linter.unusedVariables false

/-- A key and shares, drawn from the program's input. -/
def GotB (w : World) (e : Ending) (w' : World) : Prop :=
  ∃ (need many : Nat) (ag : Option Addr) (ng cg : Nat) (zg : Nat → Int) (ac : Option Addr) (nc cc : Nat) (zc : Nat → Int) (a : Option Addr) (n c : Nat) (H : Nat → HV), e = .returned (.tuple #[.agg #[.int .i64 need, .int .i64 many, .slice ag ng cg, .slice ac nc cc], .slice a n c]) ∧ KeyIn w w' need many ag ng zg ac nc zc ∧ HldIn w' a n H ∧ n ≤ 10 ∧ n ≤ c ∧ c ≤ maxLen ∧ w.grownBy w' none
theorem gotb_mk {w W : World} {R : Nat} {need many : Nat} {ag : Option Addr} {ng cg : Nat} {zg : Nat → Int} {ac : Option Addr} {nc cc : Nat} {zc : Nat → Int} {wk : World} {v0 v1 v2 v3 : Value} {a : Option Addr} {n c : Nat} (hb : Blk W R #[v0, v1, v2, v3] 25) (hR : w.heap.size ≤ R) (hRk : R < wk.heap.size) (hk : KeyIn wk W need many ag ng zg ac nc zc) (hO : OwnH W wk.heap.size (.slice a n c) n) (hn : n ≤ 10) (hg : w.grownBy W none) :
    Blk (stored4 W R (.int .i64 need) (.int .i64 many) (.slice ag ng cg) (.slice ac nc cc)) R #[.int .i64 need, .int .i64 many, .slice ag ng cg, .slice ac nc cc] 25 ∧
    GotB w (.returned (.tuple #[.agg #[.int .i64 need, .int .i64 many, .slice ag ng cg, .slice ac nc cc], .slice a n c])) (stored4 W R (.int .i64 need) (.int .i64 many) (.slice ag ng cg) (.slice ac nc cc)) := by
  have g1 : W.grownBy (stored4 W R (.int .i64 need) (.int .i64 many) (.slice ag ng cg) (.slice ac nc cc)) (some R) := gtr' (gtr' (gtr' (grown_set W R 0 (.int .i64 need)) (grown_set _ R 1 (.int .i64 many))) (grown_set _ R 2 (.slice ag ng cg))) (grown_set _ R 3 (.slice ac nc cc))
  have hr : ∀ g, (some R : Option Nat) = some g → g < wk.heap.size := fun g e => by have e := Option.some.inj e; omega
  obtain ⟨a', c', H, hv, hI, h1, h2⟩ := (hO.kept g1 hr).hld
  injection hv with e1 _ e3; subst e1; subst e3
  exact ⟨(((hb.set 0 _).set 1 _).set 2 _).set 3 _, need, many, ag, ng, cg, zg, ac, nc, cc, zc, a, n, c, H, rfl, (hk.kept g1 hr).lower (by omega), hI, hn, h1, h2, grown_new hg hR g1⟩
end Draw
end Go.Proofs.YthbigmcklacbnaaGreatDoor
/-
  Secrets: whose shares are wrong: the model's function; how the model draws a key and shares.
-/

namespace Go.Proofs.YthbigmcklacbnaaGreatDoor
namespace Hd
open Go.RowKit Alg Mem Con
set_option linter.unusedVariables false

/-- Is a share wrong? -/
def sbE (many : Int) (nc : Nat) (zc : Nat → Int) (H : Nat → HV) (k : Nat) : Bool := decide (many < (H k).m) || !cfz nc zc (H k).m (H k).s
/-- Whose of the first so many. -/
def sbl (many : Int) (nc : Nat) (zc : Nat → Int) (H : Nat → HV) : Nat → List Int
  | 0 => []
  | k + 1 => sbl many nc zc H k ++ (if sbE many nc zc H k then [(H k).m] else [])
section
variable {need many : Int} {ng : Nat} {zg : Nat → Int} {nc : Nat} {zc : Nat → Int} {H : Nat → HV} {n k : Nat}
theorem sbl_len : (sbl many nc zc H k).length ≤ k := by
  induction k with
  | zero => exact Nat.le_refl _
  | succ k ih => unfold sbl; split <;> simp <;> omega
theorem sbl_yes (h : sbE many nc zc H k = true) : sbl many nc zc H (k + 1) = sbl many nc zc H k ++ [(H k).m] := by simp [sbl, h]
theorem sbl_no (h : sbE many nc zc H k = false) : sbl many nc zc H (k + 1) = sbl many nc zc H k := by simp [sbl, h]
theorem sbE_fit (hk : kyF need many ng zg nc zc = true) (hh : hkF H n = true) (hj : k < n) : sbE many nc zc H k = !kfit need many ng zg nc zc (H k).m (H k).s := by
  have h1 := (hk_at hh hj).1
  unfold sbE
  by_cases hm : many < (H k).m
  · rw [kfit_m (by cases hb : mbF many (H k).m with
      | false => rfl
      | true => have := (mb_iff.1 hb).2; omega)]; simp [hm]
  · rw [kfit_y hk (mb_iff.2 ⟨h1.1, by omega⟩)]; simp [hm]
end
def sbF (need many : Int) (ng : Nat) (zg : Nat → Int) (nc : Nat) (zc : Nat → Int) (H : Nat → HV) (n : Nat) : List Int := if kyF need many ng zg nc zc = true ∧ hkF H n = true then sbl many nc zc H n else []
theorem sb_none {need many : Int} {ng : Nat} {zg : Nat → Int} {nc : Nat} {zc : Nat → Int} {H : Nat → HV} {n : Nat} (h : kyF need many ng zg nc zc = false ∨ hkF H n = false) : sbF need many ng zg nc zc H n = [] := by
  unfold sbF; rw [if_neg]; rintro ⟨h1, h2⟩; rcases h with h | h
  · rw [h] at h1; cases h1
  · rw [h] at h2; cases h2
theorem sb_some {need many : Int} {ng : Nat} {zg : Nat → Int} {nc : Nat} {zc : Nat → Int} {H : Nat → HV} {n : Nat} (h : kyF need many ng zg nc zc = true) (h2 : hkF H n = true) : sbF need many ng zg nc zc H n = sbl many nc zc H n := if_pos ⟨h, h2⟩
theorem lst_empty (w : World) : Lst (w.alloc (.cells #[] 3)) w.heap.size (.slice (some ⟨w.heap.size, 0, none⟩) 0 0) [] := .inr ⟨_, 0, rfl, row_empty w _ _⟩
end Hd
end Go.Proofs.YthbigmcklacbnaaGreatDoor
