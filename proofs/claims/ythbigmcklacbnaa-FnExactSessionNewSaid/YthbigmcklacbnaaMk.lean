/-
  Keys and shares marked: what the exact laws write into what was made for them.
-/
import Derived.Test.YthbigmcklacbnaaSm
import Derived.Test.YthbigmcklacbnaaKc
import Derived.Test.YthbigmcklacbnaaDo
import Derived.Test.YthbigmcklacbnaaPe
namespace Go.Proofs.Ythbigmcklacbnaa
namespace Hd
open Go.RowKit Alg Mem Con
set_option linter.unusedVariables false

theorem blk_key {w : World} {b : Nat} {need many : Int} {s1 s2 : Value} {T : TypeId} (h : Blk w b #[.int .i64 need, .int .i64 many, s1, s2] T) : Ky w b need many s1 s2 := ⟨h.lt, h.cell 0, h.cell 1, h.cell 2, h.cell 3⟩
/-- A key marked: its two rows are written, and nothing else that was there. -/
theorem markkey (w : World) (need many : Int) (lo b1 b2 n1 n2 : Nat) (z1 z2 : Nat → Int) (m : Nat) (hb : b1 < b2) (h1 : Row w lo 3 b1 n1 n1 z1) (h2 : Row w lo 3 b2 n2 n2 z2) (hl1 : n1 ≤ 2000000) (hl2 : n2 ≤ 2000000) (hm : m ≤ 1000000) :
    Calls Try.prog 50 #[.agg #[.int .i64 need, .int .i64 many, .slice (some ⟨b1, 0, none⟩) n1 n1, .slice (some ⟨b2, 0, none⟩) n2 n2], .int .i64 m] w fun e w' => e = .returned (.int .i64 ((m + n1 + n2 : Nat) : Int)) ∧ ∃ wm, w.grownBy wm (some b1) ∧ wm.grownBy w' (some b2) := by
  have H0 := Lib.hid (Draw.grown_alloc w (.cells #[.int .i64 need, .int .i64 many, .slice (some ⟨b1, 0, none⟩) n1 n1, .slice (some ⟨b2, 0, none⟩) n2 n2] 63) none)
  have HD := Lib.hid (Blk.new w #[.int .i64 need, .int .i64 many, .slice (some ⟨b1, 0, none⟩) n1 n1, .slice (some ⟨b2, 0, none⟩) n2 n2] 63)
  have hb2 := h2.lt
  have H1 := Lib.hid (h1.keptN H0.out); have H2 := Lib.hid (h2.keptN H0.out)
  clear h1 h2
  go_enter Try.func50, Try.ntmps50
  go_wp2_with fail
  refine (mark_row _ _ _ n1 _ z1 m H1.out (by omega) (by omega)).mono ?_
  rintro e w1 ⟨rfl, hg, hr⟩
  have HG1 := Lib.hid hg; clear hg hr
  obtain ⟨_, k0, k1, k2, k3⟩ := blk_key (HD.out.kept HG1.out (by intro e; have e := Option.some.inj e; omega))
  go_wp2_with fail
  refine (mark_row _ _ _ n2 _ z2 (m + n1) (H2.out.kept HG1.out (by intro e; have e := Option.some.inj e; omega)) (by omega) (by omega)).mono ?_
  rintro e w2 ⟨rfl, hg, hr⟩
  have HG2 := Lib.hid hg; clear hg hr
  go_wp2
  go_ret
  exact ⟨rfl, w1, gtr' (Draw.grown_alloc w _ _) HG1.out, HG2.out⟩
/-- A list of the call's own, that lies below a block. -/
def LstB (w : World) (lo hi : Nat) (v : Value) (l : List Int) : Prop := (v = .slice none 0 0 ∧ l = []) ∨ ∃ b cap, v = .slice (some ⟨b, 0, none⟩) l.length cap ∧ Row w lo 3 b l.length cap (li l) ∧ b < hi
theorem LstB.of {w : World} {lo : Nat} {v : Value} {l : List Int} (h : Lst w lo v l) : LstB w lo w.heap.size v l := by
  rcases h with h | ⟨b, c, hv, hr⟩
  · exact .inl h
  · exact .inr ⟨b, c, hv, hr, hr.lt⟩
theorem LstB.kept {w w' : World} {lo hi : Nat} {v : Value} {l : List Int} (h : LstB w lo hi v l) (hg : w.grownBy w' none) : LstB w' lo hi v l := by
  rcases h with h | ⟨b, c, hv, hr, hb⟩
  · exact .inl h
  · exact .inr ⟨b, c, hv, hr.keptN hg, hb⟩
theorem LstB.keptB {w w' : World} {lo hi B : Nat} {v : Value} {l : List Int} (h : LstB w lo hi v l) (hg : w.grownBy w' (some B)) (hB : hi ≤ B) : LstB w' lo hi v l := by
  rcases h with h | ⟨b, c, hv, hr, hb⟩
  · exact .inl h
  · exact .inr ⟨b, c, hv, hr.kept hg (by intro e; injection e with e; omega), hb⟩
theorem LstB.slice {w : World} {lo hi : Nat} {v : Value} {l : List Int} (h : LstB w lo hi v l) : ∃ a c, v = .slice a l.length c ∧ Ints w a l.length (li l) := by
  rcases h with ⟨rfl, rfl⟩ | ⟨b, c, rfl, hr, _⟩
  · exact ⟨none, 0, rfl, .inl rfl⟩
  · exact ⟨_, c, rfl, hr.ints⟩
end Hd
end Go.Proofs.Ythbigmcklacbnaa
