/-
  How the model draws a number of the field: it lies from -1 to 23, and all that was there stays, but the reader's own place.
-/
import Derived.Test.YtkklhlffbfgolaaDoorDraw
namespace Go.Proofs.YtkklhlffbfgolaaDoor
namespace Draw
open Go.RowKit
set_option linter.unusedVariables false

theorem grown_trans {a b c : World} {r : Option Nat} (h : a.grownBy b r) (k : b.grownBy c r) : a.grownBy c r :=
  ⟨k.os.trans h.os, k.tape.trans h.tape, k.output.trans h.output, Nat.le_trans h.size k.size, fun i hi hne => (k.block i (Nat.lt_of_lt_of_le hi h.size) hne).trans (h.block i hi hne)⟩
theorem grown_refl (a : World) (r : Option Nat) : a.grownBy a r := ⟨rfl, rfl, rfl, Nat.le_refl _, fun _ _ _ => rfl⟩
theorem grown_some {a b : World} {r : Option Nat} (h : a.grownBy b none) : a.grownBy b r :=
  ⟨h.os, h.tape, h.output, h.size, fun i hi _ => h.block i hi (by simp)⟩
theorem grown_alloc (w : World) (o : Obj) (r : Option Nat) : w.grownBy (w.alloc o) r :=
  ⟨rfl, rfl, rfl, by simp, fun k hk _ => Below.heap_alloc _ _ _ hk⟩
theorem Rd.alloc {w : World} {base B : Nat} {a : Option Addr} {len cap p : Nat} (h : Rd w base B a len cap p) (o : Obj) : Rd (w.alloc o) base B a len cap p :=
  h.kept (fun k hk => Below.heap_alloc _ _ _ (by have := h.lt; have := h.from_; omega)) (Below.heap_alloc _ _ _ h.lt)

/-- What a draw leaves: a number from lo to hi; the reader at most k places on; all else as it was. -/
def Drawn (w : World) (base B : Nat) (a : Option Addr) (len cap p k : Nat) (lo hi : Int) (e : Ending) (w' : World) : Prop :=
  ∃ x : Int, lo ≤ x ∧ x ≤ hi ∧ e = .returned (.int .i64 x) ∧ w.grownBy w' (some B) ∧ ∃ p', p ≤ p' ∧ p' ≤ p + k ∧ Rd w' base B a len cap p'

theorem two_cells {w w' : World} {B : Nat} {x y : Value} {T : TypeId} (hg : (w.alloc (.cells #[x, y] T (0, 0))).grownBy w' (some B)) (hB : B < w.heap.size) :
    w'.cell? ⟨w.heap.size, 0, none⟩ = some x ∧ w'.cell? ⟨w.heap.size, 1, none⟩ = some y := by
  have hb : w'.heap[w.heap.size]? = (w.alloc (.cells #[x, y] T (0, 0))).heap[w.heap.size]? := hg.block _ (by simp) (by intro e; injection e with e; omega)
  have hn : (w.alloc (.cells #[x, y] T (0, 0))).heap[w.heap.size]? = some (.cells #[x, y] T (0, 0)) := by
    show (w.heap.push _)[w.heap.size]? = _
    simp
  rw [hn] at hb
  exact ⟨by simp [World.cell?, hb], by simp [World.cell?, hb]⟩

set_option maxHeartbeats 1000000 in
theorem num_any (w : World) (base B : Nat) (a : Option Addr) (len cap p : Nat) (h : Rd w base B a len cap p) (hp : p ≤ 100000000) :
    Calls Tryd.prog 62 #[.pointer (some ⟨B, 0, none⟩)] w (Drawn w base B a len cap p 3 (-1) 23) := by
  go_enter Tryd.func62, Tryd.ntmps62
  go_wp2_with fail
  refine (pick_any _ base B a len cap p 10 h (by omega) (by omega)).mono ?_
  rintro e w1 ⟨x, x0, x1, rfl, hr1, hg1, hs1⟩
  clear hs1
  rcases (by omega : x = 0 ∨ x = 1 ∨ x = 2 ∨ 3 ≤ x) with rfl | rfl | rfl | hx
  · go_wp2_with fail
    go_ret
    exact ⟨0, by omega, by omega, rfl, hg1, p + 1, by omega, by omega, hr1⟩
  · go_wp2_with fail
    refine (pick_any _ base B a len cap (p + 1) 2 (hr1.alloc _) (by omega) (by omega)).mono ?_
    rintro e w2 ⟨y, y0, y1, rfl, hr2, hg2, hs2⟩
    obtain ⟨k0, k1⟩ := two_cells hg2 hr1.lt
    rcases (by omega : y = 0 ∨ y = 1) with rfl | rfl
    all_goals
      have HR := Lib.hid hr2; have HG := Lib.hid hg2; have HS := Lib.hid hs2; clear hr2 hg2 hs2
      go_wp2_with fail
      go_ret
      exact ⟨_, by omega, by omega, rfl, grown_trans hg1 (grown_trans (grown_alloc _ _ _) HG.out), p + 2, by omega, by omega, HR.out⟩
  · go_wp2_with fail
    refine (pick_any _ base B a len cap (p + 1) 5 hr1 (by omega) (by omega)).mono ?_
    rintro e w2 ⟨z, z0, z1, rfl, hr2, hg2, hs2⟩
    clear hs2
    rcases (by omega : z = 0 ∨ 1 ≤ z) with rfl | hz
    · go_wp2_with fail
      refine (pick_any _ base B a len cap (p + 1 + 1) 2 (hr2.alloc _) (by omega) (by omega)).mono ?_
      rintro e w3 ⟨y, y0, y1, rfl, hr3, hg3, hs3⟩
      clear hs3
      obtain ⟨k0, k1⟩ := two_cells hg3 hr2.lt
      rcases (by omega : y = 0 ∨ y = 1) with rfl | rfl
      all_goals
        have HR := Lib.hid hr3; have HG := Lib.hid hg3; clear hr3 hg3
        go_wp2_with fail
        go_ret
        exact ⟨_, by omega, by omega, rfl, grown_trans hg1 (grown_trans hg2 (grown_trans (grown_alloc _ _ _) HG.out)), p + 3, by omega, by omega, HR.out⟩
    · have hz' : (z == 0) = false := by simp; omega
      go_wp2_with fail
      refine (pick_any _ base B a len cap (p + 1 + 1) 23 hr2 (by omega) (by omega)).mono ?_
      rintro e w3 ⟨y, y0, y1, rfl, hr3, hg3, hs3⟩
      clear hs3
      have HR := Lib.hid hr3; have HG := Lib.hid hg3; clear hr3 hg3
      go_wp2_with fail
      go_ret
      exact ⟨_, by omega, by omega, rfl, grown_trans hg1 (grown_trans hg2 HG.out), p + 3, by omega, by omega, HR.out⟩
  · have h0 : (x == 0) = false := by simp; omega
    have h1 : (x == 1) = false := by simp; omega
    have h2 : (x == 2) = false := by simp; omega
    go_wp2_with fail
    refine (pick_any _ base B a len cap (p + 1) 23 hr1 (by omega) (by omega)).mono ?_
    rintro e w3 ⟨y, y0, y1, rfl, hr3, hg3, hs3⟩
    clear hs3
    have HR := Lib.hid hr3; have HG := Lib.hid hg3; clear hr3 hg3
    go_wp2_with fail
    go_ret
    exact ⟨_, by omega, by omega, rfl, grown_trans hg1 HG.out, p + 2, by omega, by omega, HR.out⟩

/-- What drawing from a code leaves: a new block or more; all that was there as it was. -/
def Got (w : World) (lo hi : Int) (e : Ending) (w' : World) : Prop :=
  ∃ x : Int, lo ≤ x ∧ x ≤ hi ∧ e = .returned (.int .i64 x) ∧ w.grownBy w' none
def Got2 (w : World) (lo hi : Int) (e : Ending) (w' : World) : Prop :=
  ∃ x y : Int, lo ≤ x ∧ x ≤ hi ∧ lo ≤ y ∧ y ≤ hi ∧ e = .returned (.tuple #[.int .i64 x, .int .i64 y]) ∧ w.grownBy w' none

/-- Behind the reader's block nothing that was there has turned. -/
theorem grown_old {a b c : World} (h : a.grownBy b none) (k : b.grownBy c (some a.heap.size)) : a.grownBy c none :=
  ⟨k.os.trans h.os, k.tape.trans h.tape, k.output.trans h.output, Nat.le_trans h.size k.size,
    fun i hi _ => (k.block i (Nat.lt_of_lt_of_le hi h.size) (by intro e; injection e with e; omega)).trans (h.block i hi (by simp))⟩

end Draw
end Go.Proofs.YtkklhlffbfgolaaDoor
