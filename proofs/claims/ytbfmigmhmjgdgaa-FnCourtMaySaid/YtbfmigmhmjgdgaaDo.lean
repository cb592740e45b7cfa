/-
  Which deals the model holds for well formed; who complains about a deal: the program's and the model's lists.
-/
import Derived.Test.YtbfmigmhmjgdgaaDj
import Derived.Test.YtbfmigmhmjgdgaaCe
import Derived.Deep.RegionHeld3
import Derived.Test.YtbfmigmhmjgdgaaPe
import Derived.Test.YtbfmigmhmjgdgaaMem
namespace Go.Proofs.Ytbfmigmhmjgdgaa
namespace Con
open Go.RowKit Alg Mem
set_option linter.unusedVariables false

/-- Who of the first k complains. -/
def badl (g : Nat → Bool) : Nat → List Int
  | 0 => []
  | k + 1 => badl g k ++ (if g k then [] else [(k : Int) + 1])
theorem badl_len (g : Nat → Bool) (k : Nat) : (badl g k).length ≤ k := by
  induction k with
  | zero => simp [badl]
  | succ k ih => simp only [badl, List.length_append]; split <;> simp <;> omega
theorem badl_yes {g : Nat → Bool} {k : Nat} (h : g k = true) : badl g (k + 1) = badl g k := by simp [badl, h]
theorem badl_no {g : Nat → Bool} {k : Nat} (h : g k = false) : badl g (k + 1) = badl g k ++ [(k : Int) + 1] := by simp [badl, h]
def bfit (n1 : Nat) (z1 z2 : Nat → Int) (k : Nat) : Bool := cfz n1 z1 ((k : Int) + 1) (z2 k)
def bads (f : Int) (n1 : Nat) (z1 : Nat → Int) (n2 : Nat) (z2 : Nat → Int) (need many : Int) : List Int := if dlF f n1 z1 n2 z2 need many then badl (bfit n1 z1 z2) n2 else []
theorem bads_no {f : Int} {n1 : Nat} {z1 : Nat → Int} {n2 : Nat} {z2 : Nat → Int} {need many : Int} (h : dlF f n1 z1 n2 z2 need many = false) : bads f n1 z1 n2 z2 need many = [] := by simp [bads, h]
theorem bads_yes {f : Int} {n1 : Nat} {z1 : Nat → Int} {n2 : Nat} {z2 : Nat → Int} {need many : Int} (h : dlF f n1 z1 n2 z2 need many = true) : bads f n1 z1 n2 z2 need many = badl (bfit n1 z1 z2) n2 := by simp [bads, h]
theorem bads_len (f : Int) (n1 : Nat) (z1 : Nat → Int) (n2 : Nat) (z2 : Nat → Int) (need many : Int) : (bads f n1 z1 n2 z2 need many).length ≤ n2 := by
  unfold bads; split
  · exact badl_len _ _
  · simp

/-- The numbers of a list, by the index. -/
def li (l : List Int) (j : Nat) : Int := l.getD j 0
theorem li_app {l : List Int} {n : Int} {j : Nat} (h : j < l.length) : li (l ++ [n]) j = li l j := by simp [li, List.getElem?_append_left h]
theorem li_last (l : List Int) (n : Int) : li (l ++ [n]) l.length = n := by simp [li]
theorem vals_congr {z y : Nat → Int} {k : Nat} (h : ∀ j, j < k → z j = y j) : vals z k = vals y k := by
  unfold vals; apply List.map_congr_left; intro j hj; rw [h j (List.mem_range.1 hj)]
/-- A slice of the call's own that may be nil. -/
def Lst (w : World) (lo : Nat) (v : Value) (l : List Int) : Prop :=
  (v = .slice none 0 0 ∧ l = []) ∨ ∃ b cap, v = .slice (some ⟨b, 0, none⟩) l.length cap ∧ Row w lo 3 b l.length cap (li l)
theorem Lst.kept {w w' : World} {lo : Nat} {v : Value} {l : List Int} (h : Lst w lo v l) (hg : w.grownBy w' none) : Lst w' lo v l := by
  rcases h with h | ⟨b, c, hv, hr⟩
  · exact .inl h
  · exact .inr ⟨b, c, hv, hr.keptN hg⟩
theorem Lst.alloc {w : World} {lo : Nat} {v : Value} {l : List Int} (h : Lst w lo v l) (o : Obj) : Lst (w.alloc o) lo v l := h.kept (Draw.grown_alloc _ _ _)
theorem Lst.owns {w : World} {lo : Nat} {v : Value} {l : List Int} (h : Lst w lo v l) : w.ownsRow lo 3 1 v l.length (vals (li l) l.length) := by
  rcases h with ⟨rfl, rfl⟩ | ⟨b, c, rfl, hr⟩
  · exact ⟨by simp [vals], .inl ⟨rfl, rfl⟩⟩
  · exact hr.owns
theorem Lst.slice {w : World} {lo : Nat} {v : Value} {l : List Int} (h : Lst w lo v l) : ∃ a c, v = .slice a l.length c ∧ Ints w a l.length (li l) ∧ l.length ≤ c ∧ c ≤ maxLen := by
  rcases h with ⟨rfl, rfl⟩ | ⟨b, c, rfl, hr⟩
  · exact ⟨none, 0, rfl, .inl rfl, Nat.le_refl _, Nat.zero_le _⟩
  · exact ⟨_, c, rfl, hr.ints, hr.le, hr.most⟩
theorem Lst.app {w1 : World} {lo : Nat} {v' : Value} {l : List Int} {n : Int} (h : w1.ownsRow lo 3 1 v' (l.length + 1) (vals (li l) l.length ++ [.int .i64 n])) : Lst w1 lo v' (l ++ [n]) := by
  rw [vals_congr (y := li (l ++ [n])) fun j hj => (li_app hj).symm] at h
  obtain ⟨b, cap, hv, hr⟩ := app_row h (li_last l n).symm
  exact .inr ⟨b, cap, by rw [hv]; simp, by simpa using hr⟩
theorem Lst.app_grown {w wr w1 : World} {o : Obj} {v : Value} {l : List Int} (h : Lst wr w.heap.size v l) (hg : w.grownBy wr none) (hk : (wr.alloc o).grownBy w1 v.ownBlock) : w.grownBy w1 none := by
  rcases h with ⟨rfl, rfl⟩ | ⟨b, c, rfl, hr⟩
  · exact gtr (gtr hg (Draw.grown_alloc _ _ _)) hk
  · exact Mem.app_grown hg hr.from_ hk
theorem gtr' {a b c : World} {r : Option Nat} (h : a.grownBy b r) (k : b.grownBy c r) : a.grownBy c r := Draw.grown_trans h k
theorem Dl.keptB {w w' : World} {b : Nat} {f : Int} {s1 s2 : Value} {r : Option Nat} (h : Dl w b f s1 s2) (hg : w.grownBy w' r) (hne : some b ≠ r) : Dl w' b f s1 s2 := by
  have hb := hg.block b h.lt hne
  exact ⟨Nat.lt_of_lt_of_le h.lt hg.size, by rw [World.cell?_of_block (w := w) hb]; exact h.c0, by rw [World.cell?_of_block (w := w) hb]; exact h.c1, by rw [World.cell?_of_block (w := w) hb]; exact h.c2⟩
theorem Lst.lower {w : World} {lo lo' : Nat} {v : Value} {l : List Int} (h : Lst w lo v l) (hl : lo' ≤ lo) : Lst w lo' v l := by
  rcases h with h | ⟨b, c, hv, hr⟩
  · exact .inl h
  · exact .inr ⟨b, c, hv, hr.lower hl⟩

end Con
end Go.Proofs.Ytbfmigmhmjgdgaa
/-
  The model's deal of a polynomial.
-/

namespace Go.Proofs.Ytbfmigmhmjgdgaa
namespace Con
open Go.RowKit Alg Mem Pol
set_option linter.unusedVariables false

/-- A block of memory, whole. -/
def Blk (w : World) (b : Nat) (vs : Array Value) (T : TypeId) : Prop := w.heap[b]? = some (.cells vs T (0, 0))
theorem Blk.lt {w : World} {b : Nat} {vs : Array Value} {T : TypeId} (h : Blk w b vs T) : b < w.heap.size := by
  rcases Nat.lt_or_ge b w.heap.size with h' | h'
  · exact h'
  · unfold Blk at h; simp [Array.getElem?_eq_none h'] at h
theorem Blk.new (w : World) (vs : Array Value) (T : TypeId) : Blk (w.alloc (.cells vs T)) w.heap.size vs T := by
  show (w.heap.push _)[w.heap.size]? = _; simp
theorem Blk.kept {w w' : World} {b : Nat} {vs : Array Value} {T : TypeId} {r : Option Nat} (h : Blk w b vs T) (hg : w.grownBy w' r) (hne : some b ≠ r) : Blk w' b vs T := (hg.block b h.lt hne).trans h
theorem Blk.keptN {w w' : World} {b : Nat} {vs : Array Value} {T : TypeId} (h : Blk w b vs T) (hg : w.grownBy w' none) : Blk w' b vs T := h.kept hg (by simp)
theorem Blk.set {w : World} {b : Nat} {vs : Array Value} {T : TypeId} (h : Blk w b vs T) (i : Nat) (v : Value) : Blk (w.setCell ⟨b, i, none⟩ v) b (vs.setIfInBounds i v) T := heap_setCell_same w b i vs T v h
theorem Blk.other {w : World} {b b' i : Nat} {vs : Array Value} {T : TypeId} {v : Value} (h : Blk w b vs T) (hne : b ≠ b') : Blk (w.setCell ⟨b', i, none⟩ v) b vs T := (heap_setCell_other w ⟨b', i, none⟩ b v hne).trans h
theorem Blk.cell {w : World} {b : Nat} {vs : Array Value} {T : TypeId} (h : Blk w b vs T) (i : Nat) : w.cell? ⟨b, i, none⟩ = vs[i]? := by
  unfold Blk at h; simp only [World.cell?, h]; rfl
theorem Blk.free {w : World} {b : Nat} {vs : Array Value} {T : TypeId} (h : Blk w b vs T) (i : Nat) : w.frozen? ⟨b, i, none⟩ = false := by
  unfold Blk at h; simp [World.frozen?, h]
theorem Blk.dl {w : World} {b : Nat} {f : Int} {s1 s2 : Value} {T : TypeId} (h : Blk w b #[.int .i64 f, s1, s2] T) : Dl w b f s1 s2 := ⟨h.lt, h.cell 0, h.cell 1, h.cell 2⟩
/-- What all three cells of a deal in memory hold, and that they may be written. -/
structure Blk3 (w : World) (b : Nat) (v0 v1 v2 : Value) : Prop where
  c0 : w.cell? ⟨b, 0, none⟩ = some v0
  c1 : w.cell? ⟨b, 1, none⟩ = some v1
  c2 : w.cell? ⟨b, 2, none⟩ = some v2
  f0 : w.frozen? ⟨b, 0, none⟩ = false
  f1 : w.frozen? ⟨b, 1, none⟩ = false
  f2 : w.frozen? ⟨b, 2, none⟩ = false
theorem Blk.all {w : World} {b : Nat} {v0 v1 v2 : Value} {T : TypeId} (h : Blk w b #[v0, v1, v2] T) : Blk3 w b v0 v1 v2 := ⟨h.cell 0, h.cell 1, h.cell 2, h.free 0, h.free 1, h.free 2⟩

theorem Lst.own_ne {w : World} {lo B : Nat} {v : Value} {l : List Int} (h : Lst w lo v l) (hB : B < lo) : some B ≠ v.ownBlock := by
  rcases h with ⟨rfl, rfl⟩ | ⟨b, c, rfl, hr⟩
  · intro e; cases e
  · intro e; have e := Option.some.inj e; have := hr.from_; simp at e; omega
theorem Lst.keptB {w w' : World} {lo B : Nat} {v : Value} {l : List Int} (h : Lst w lo v l) (hg : w.grownBy w' (some B)) (hB : B < lo) : Lst w' lo v l := by
  rcases h with h | ⟨b, c, hv, hr⟩
  · exact .inl h
  · exact .inr ⟨b, c, hv, hr.kept hg (by intro e; have e := Option.some.inj e; have := hr.from_; omega)⟩
/-- The shares that a polynomial gives. -/
def shl (len : Nat) (z : Nat → Int) (k : Nat) : List Int := (List.range k).map fun (i : Nat) => fi (ev (fl z len) (cv ((i : Int) + 1)))
theorem shl_len (len : Nat) (z : Nat → Int) (k : Nat) : (shl len z k).length = k := by simp [shl]
theorem shl_succ (len : Nat) (z : Nat → Int) (k : Nat) : shl len z (k + 1) = shl len z k ++ [fi (ev (fl z len) (cv ((k : Int) + 1)))] := by simp [shl, List.range_succ]
/-- What a deal of a polynomial leaves: two rows of its own, that of what is shown ahead of that of the shares. -/
def DealOf (w : World) (f : Int) (m len : Nat) (z : Nat → Int) (e : Ending) (w' : World) : Prop :=
  ∃ (b1 c1 B : Nat) (v : Value), e = .returned (.agg #[.int .i64 f, .slice (some ⟨b1, 0, none⟩) len c1, v]) ∧ w.heap.size ≤ B ∧ b1 < B ∧ Row w' w.heap.size 3 b1 len c1 (gz z) ∧ Lst w' B v (shl len z m) ∧ w.grownBy w' none
theorem own_list {w : World} {lo : Nat} {v : Value} {l : List Int} {X : Int} {w3 : World} {v' : Value} (h : w3.ownsRow lo 3 1 v' (l.length + 1) (vals (li l) l.length ++ [.int .i64 X])) :
    ∃ b c, v' = .slice (some ⟨b, 0, none⟩) (l.length + 1) c ∧ Row w3 lo 3 b (l ++ [X]).length c (li (l ++ [X])) := by
  rw [vals_congr (y := li (l ++ [X])) fun j hj => (li_app hj).symm] at h
  obtain ⟨b, c, hv, hr⟩ := app_row h (li_last l X).symm
  exact ⟨b, c, hv, by simpa using hr⟩

end Con
end Go.Proofs.Ytbfmigmhmjgdgaa
/-
  How the model draws a deal, a committee, and both.
-/

namespace Go.Proofs.Ytbfmigmhmjgdgaa
namespace Draw
open Go.RowKit Alg Mem Con
set_option linter.unusedVariables false

/-- What a drawn deal leaves. -/
def DrawnD (w : World) (base B : Nat) (a : Option Addr) (len cap p k : Nat) (f : Int) (n m : Nat) (e : Ending) (w' : World) : Prop :=
  ∃ (b1 c1 : Nat) (z1 : Nat → Int) (b2 c2 : Nat) (z2 : Nat → Int), e = .returned (.agg #[.int .i64 f, .slice (some ⟨b1, 0, none⟩) n c1, .slice (some ⟨b2, 0, none⟩) m c2]) ∧
    Row w' w.heap.size 3 b1 n c1 z1 ∧ Row w' w.heap.size 3 b2 m c2 z2 ∧ (b1 < b2 ∧ ∀ j, j < m → fok (z2 j) = true) ∧ w.grownBy w' (some B) ∧ ∃ p', p ≤ p' ∧ p' ≤ p + k ∧ Rd w' base B a len cap p'
/-- The deal is stored into the place of the result. -/
def stored (wr : World) (D0 : Nat) (v0 v1 v2 : Value) : World := ((wr.setCell ⟨D0, 0, none⟩ v0).setCell ⟨D0, 1, none⟩ v1).setCell ⟨D0, 2, none⟩ v2
theorem shl_ok {len : Nat} {z : Nat → Int} {m j : Nat} (h : j < m) : fok (li (shl len z m) j) = true := by
  have e : li (shl len z m) j = Pol.fi (Pol.ev (fl z len) (Pol.cv ((j : Int) + 1))) := by simp [li, shl, h]
  rw [e]; exact Pol.fi_ok _
end Draw
end Go.Proofs.Ytbfmigmhmjgdgaa
/-
  How the model draws a deal that may be spoilt, with how many are needed, and of how many.
-/

namespace Go.Proofs.Ytbfmigmhmjgdgaa
namespace Draw
open Go.RowKit Alg Mem Con
set_option linter.unusedVariables false

theorem Rd.grownN {w w' : World} {base B b : Nat} {a : Option Addr} {len cap p : Nat} (h : Rd w base B a len cap p) (hg : w.grownBy w' (some b)) (hb : b ≠ B) (hbb : base ≤ b) : Rd w' base B a len cap p :=
  h.kept (fun k hk => hg.block k (by have := h.lt; have := h.from_; omega) (by intro e; injection e with e; omega)) (hg.block B h.lt (by intro e; injection e with e; omega))
/-- What a function leaves that draws a deal and two numbers. -/
def GotD (w : World) (k1 k2 : Nat) (e : Ending) (w' : World) : Prop :=
  ∃ (f : Int) (b1 n c1 : Nat) (z1 : Nat → Int) (b2 m c2 : Nat) (z2 : Nat → Int) (need many : Int), e = .returned (.tuple #[.agg #[.int .i64 f, .slice (some ⟨b1, 0, none⟩) n c1, .slice (some ⟨b2, 0, none⟩) m c2], .int .i64 need, .int .i64 many]) ∧ n ≤ k1 ∧ m ≤ k2 ∧ n ≤ c1 ∧ c1 ≤ maxLen ∧ m ≤ c2 ∧ c2 ≤ maxLen ∧
    1 ≤ need ∧ need ≤ 5 ∧ 1 ≤ many ∧ many ≤ 5 ∧ Ints w' (some ⟨b1, 0, none⟩) n z1 ∧ Ints w' (some ⟨b2, 0, none⟩) m z2 ∧ w.grownBy w' none
theorem fine_any (w : World) (base B : Nat) (a : Option Addr) (len cap p : Nat) (h : Rd w base B a len cap p) (hp : p ≤ 10000000) :
    Calls Try.prog 59 #[.pointer (some ⟨B, 0, none⟩)] w fun e w' => ∃ n m : Nat, e = .returned (.tuple #[.int .i64 n, .int .i64 m]) ∧ 1 ≤ n ∧ n ≤ m ∧ m ≤ 5 ∧ w.grownBy w' (some B) ∧ Rd w' base B a len cap (p + 1 + 1) := by
  go_enter Try.func59, Try.ntmps59
  go_wp2_with fail
  refine (pick_any _ base B a len cap p 5 h (by omega) (by omega)).mono ?_
  rintro e w1 ⟨x, x0, x1, rfl, hr1, hg1, hs1⟩
  obtain ⟨xn, rfl⟩ : ∃ xn : Nat, x = xn := ⟨x.toNat, by omega⟩
  have HG1 := Lib.hid hg1; clear hg1 hs1
  go_wp2_with fail
  refine (pick_any _ base B a len cap (p + 1) (1 + (xn : Int)) hr1 (by omega) (by omega)).mono ?_
  rintro e w2 ⟨y, y0, y1, rfl, hr2, hg2, hs2⟩
  obtain ⟨yn, rfl⟩ : ∃ yn : Nat, y = yn := ⟨y.toNat, by omega⟩
  have HG2 := Lib.hid (grown_trans HG1.out hg2); have HR2 := Lib.hid hr2; clear hg2 hs2 hr2
  go_wp2_with fail
  go_ret2
  exact ⟨1 + yn, 1 + xn, by first | rfl | simp, by omega, by omega, by omega, HG2.out, HR2.out⟩

end Draw
end Go.Proofs.Ytbfmigmhmjgdgaa
/-
  The words of the exact laws that take a deal: its size, the deal anew, whether two deals read alike, and a deal marked.
-/

namespace Go.Proofs.Ytbfmigmhmjgdgaa
namespace Con
open Go.RowKit Alg Mem
set_option linter.unusedVariables false

theorem szint_yes (w : World) (a : Option Addr) (len cap : Nat) (left : Int) (h1 : left ≤ 2000000) (h : (len : Int) ≤ left) :
    Calls Try.prog 64 #[.slice a len cap, .int .i64 left] w fun e w' => e = .returned (.int .i64 (left - (len : Int))) ∧ w = w' := by
  have hlt : ¬ left - (len : Int) < 0 := by omega
  go_enter Try.func64, Try.ntmps64
  go_wp2
  go_ret
  exact ⟨rfl, rfl⟩
theorem szint_no (w : World) (a : Option Addr) (len cap : Nat) (left : Int) (h0 : 0 ≤ left) (h1 : left ≤ 2000000) (hl : len ≤ maxLen) (h : left < (len : Int)) :
    Calls Try.prog 64 #[.slice a len cap, .int .i64 left] w fun e w' => e = .returned (.int .i64 (-1)) ∧ w = w' := by
  unfold maxLen at hl
  have hlt : left - (len : Int) < 0 := by omega
  go_enter Try.func64, Try.ntmps64
  go_wp2
  go_ret
  exact ⟨rfl, rfl⟩
/-- A deal of the call's own: two rows, one ahead of the other. -/
def DealO (w : World) (f : Int) (n1 : Nat) (z1 : Nat → Int) (n2 : Nat) (z2 : Nat → Int) (e : Ending) (w' : World) : Prop :=
  ∃ b1 b2 : Nat, e = .returned (.agg #[.int .i64 f, .slice (some ⟨b1, 0, none⟩) n1 n1, .slice (some ⟨b2, 0, none⟩) n2 n2]) ∧ b1 < b2 ∧ Row w' w.heap.size 3 b1 n1 n1 z1 ∧ Row w' w.heap.size 3 b2 n2 n2 z2 ∧ w.grownBy w' none
theorem blk_new2 (w : World) (o1 : Obj) (vs : Array Value) (T : TypeId) : Blk ((w.alloc o1).alloc (.cells vs T)) (w.heap.size + 1) vs T := by
  have h := Blk.new (w.alloc o1) vs T
  rw [show (w.alloc o1).heap.size = w.heap.size + 1 by show (w.heap.push _).size = _; simp] at h
  exact h
theorem blk_new3 (w : World) (o1 o2 : Obj) (vs : Array Value) (T : TypeId) : Blk (((w.alloc o1).alloc o2).alloc (.cells vs T)) (w.heap.size + 1 + 1) vs T := by
  have h := Blk.new ((w.alloc o1).alloc o2) vs T
  rw [show ((w.alloc o1).alloc o2).heap.size = w.heap.size + 1 + 1 by show ((w.heap.push _).push _).size = _; simp] at h
  exact h
theorem size3 (w : World) (o1 o2 o3 : Obj) : (((w.alloc o1).alloc o2).alloc o3).heap.size = w.heap.size + 1 + 1 + 1 := by show (((w.heap.push _).push _).push _).size = _; simp
end Con
end Go.Proofs.Ytbfmigmhmjgdgaa
