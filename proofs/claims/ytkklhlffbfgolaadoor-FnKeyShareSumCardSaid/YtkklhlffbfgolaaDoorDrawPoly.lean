/-
  How the model draws polynomials and places: slices of its own of at most five numbers (six where it spoils one), and all that was there stays, but the reader's own place.
-/
import Derived.Test.YtkklhlffbfgolaaDoorPb
import Derived.Test.YtkklhlffbfgolaaDoorPe
namespace Go.Proofs.YtkklhlffbfgolaaDoor
namespace Draw
open Go.RowKit Mem Con
set_option linter.unusedVariables false

theorem grown_newR {a b c : World} {r : Option Nat} {B : Nat} (h : a.grownBy b r) (hB : a.heap.size ≤ B) (k : b.grownBy c (some B)) : a.grownBy c r :=
  ⟨k.os.trans h.os, k.tape.trans h.tape, k.output.trans h.output, Nat.le_trans h.size k.size,
    fun i hi hne => (k.block i (Nat.lt_of_lt_of_le hi h.size) (by intro e; injection e with e; omega)).trans (h.block i hi hne)⟩
theorem Rd.grown {w w' : World} {base B b : Nat} {a : Option Addr} {len cap p : Nat} (h : Rd w base B a len cap p) (hg : w.grownBy w' (some b)) (hb : B < b) : Rd w' base B a len cap p :=
  h.kept (fun k hk => hg.block k (by have := h.lt; have := h.from_; omega) (by intro e; injection e with e; have := h.from_; omega)) (hg.block B h.lt (by intro e; injection e with e; omega))
theorem app_any {w1 : World} {lo : Nat} {E : TypeId} {v' : Value} {k : Nat} {z : Nat → Int} {n : Int} (h : w1.ownsRow lo E 1 v' (k + 1) (vals z k ++ [.int .i64 n])) :
    ∃ b cap z', v' = .slice (some ⟨b, 0, none⟩) (k + 1) cap ∧ Row w1 lo E b (k + 1) cap z' := by
  obtain ⟨b, cap, hv, hr⟩ := row_of_owns (z := fun j => if j = k then n else z j) h (by omega) fun j hj => by
    by_cases e : j < k
    · rw [List.getElem?_append_left (by rw [vals_length]; exact e), vals_get z e, if_neg (by omega)]
    · obtain rfl : j = k := by omega
      rw [List.getElem?_append_right (by rw [vals_length]; exact Nat.le_refl _), vals_length, Nat.sub_self, if_pos rfl]; rfl
  exact ⟨b, cap, _, hv, hr⟩

/-- What a draw of a slice leaves. -/
def DrawnS (w : World) (base B : Nat) (a : Option Addr) (len cap p k m : Nat) (e : Ending) (w' : World) : Prop :=
  ∃ (b n c : Nat) (z : Nat → Int), e = .returned (.slice (some ⟨b, 0, none⟩) n c) ∧ n ≤ m ∧ Row w' w.heap.size 3 b n c z ∧ w.grownBy w' (some B) ∧ ∃ p', p ≤ p' ∧ p' ≤ p + k ∧ Rd w' base B a len cap p'
/-- What a loop holds that draws and appends. -/
def Held (w : World) (base B : Nat) (a : Option Addr) (len cap lo hi k b c : Nat) (z : Nat → Int) (wr : World) : Prop :=
  Row wr w.heap.size 3 b k c z ∧ w.grownBy wr (some B) ∧ ∃ p', lo ≤ p' ∧ p' ≤ hi ∧ Rd wr base B a len cap p'
theorem Held.app {w : World} {base B : Nat} {a : Option Addr} {len cap lo hi k b c : Nat} {z : Nat → Int} {wr : World} {o : Obj} (h : Held w base B a len cap lo hi k b c z wr) (hB : B < w.heap.size) {v' : Value} {n : Int} {w1 : World}
    (hown : w1.ownsRow w.heap.size 3 1 v' (k + 1) (vals z k ++ [.int .i64 n])) (hg : (wr.alloc o).grownBy w1 (Value.slice (some ⟨b, 0, none⟩) k c).ownBlock) :
    ∃ b' c' z', v' = .slice (some ⟨b', 0, none⟩) (k + 1) c' ∧ Held w base B a len cap lo hi (k + 1) b' c' z' w1 := by
  obtain ⟨hr, hgr, p', h1, h2, hrd⟩ := h
  obtain ⟨b', c', z', hv, hrow⟩ := app_any hown
  have hg : (wr.alloc o).grownBy w1 (some b) := hg
  exact ⟨b', c', z', hv, hrow, grown_newR (grown_trans hgr (grown_alloc _ _ _)) hr.from_ hg, p', h1, h2, (hrd.alloc o).grown hg (by have := hr.from_; omega)⟩
theorem Held.pick {w : World} {base B : Nat} {a : Option Addr} {len cap lo hi k b c p' : Nat} {z : Nat → Int} {wr w' : World} (hr : Row wr w.heap.size 3 b k c z) (hg : w.grownBy wr (some B)) (hB : B < w.heap.size)
    (hg' : wr.grownBy w' (some B)) (h1 : lo ≤ p') (h2 : p' + 1 ≤ hi) (hrd : Rd w' base B a len cap (p' + 1)) : Held w base B a len cap lo hi k b c z w' :=
  ⟨hr.kept hg' (by intro e; injection e with e; have := hr.from_; omega), grown_trans hg hg', p' + 1, by omega, h2, hrd⟩

end Draw
end Go.Proofs.YtkklhlffbfgolaaDoor
