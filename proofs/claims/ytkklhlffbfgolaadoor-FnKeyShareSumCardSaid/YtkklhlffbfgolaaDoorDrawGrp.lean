/-
  How the model draws one of the group: it lies from -1 to 48, and all that was there stays, but the reader's own place.
-/
import Derived.Test.YtkklhlffbfgolaaDoorDrawNum
import Derived.Test.YtkklhlffbfgolaaDoorGon
namespace Go.Proofs.YtkklhlffbfgolaaDoor
namespace Draw
open Go.RowKit
set_option linter.unusedVariables false

/-- A block that was just laid keeps its cells while another block turns. -/
theorem cells_kept {w w' : World} {B : Nat} {cs : Array Value} {T : TypeId} (hg : (w.alloc (.cells cs T (0, 0))).grownBy w' (some B)) (hB : B < w.heap.size) (i : Nat) (v : Value) (hi : cs[i]? = some v) :
    w'.cell? ⟨w.heap.size, i, none⟩ = some v := by
  have hb : w'.heap[w.heap.size]? = (w.alloc (.cells cs T (0, 0))).heap[w.heap.size]? := hg.block _ (by simp) (by intro e; injection e with e; omega)
  have hn : (w.alloc (.cells cs T (0, 0))).heap[w.heap.size]? = some (.cells cs T (0, 0)) := by
    show (w.heap.push _)[w.heap.size]? = _
    simp
  rw [hn] at hb
  simp [World.cell?, hb, hi]

set_option maxHeartbeats 1000000 in
theorem grp_any (w : World) (base B : Nat) (a : Option Addr) (len cap p : Nat) (h : Rd w base B a len cap p) (hp : p ≤ 100000000) :
    Calls Tryd.prog 75 #[.pointer (some ⟨B, 0, none⟩)] w (Drawn w base B a len cap p 2 (-1) 48) := by
  go_enter Tryd.func75, Tryd.ntmps75
  go_wp2_with fail
  refine (pick_any _ base B a len cap p 20 h (by omega) (by omega)).mono ?_
  rintro e w1 ⟨x, x0, x1, rfl, hr1, hg1, hs1⟩
  clear hs1
  rcases (by omega : x = 0 ∨ 1 ≤ x) with rfl | hx
  · go_wp2_with fail
    refine (pick_any _ base B a len cap (p + 1) 5 (hr1.alloc _) (by omega) (by omega)).mono ?_
    rintro e w2 ⟨y, y0, y1, rfl, hr2, hg2, hs2⟩
    have k0 := cells_kept hg2 hr1.lt 0 _ rfl
    have k1 := cells_kept hg2 hr1.lt 1 _ rfl
    have k2 := cells_kept hg2 hr1.lt 2 _ rfl
    have k3 := cells_kept hg2 hr1.lt 3 _ rfl
    have k4 := cells_kept hg2 hr1.lt 4 _ rfl
    rcases (by omega : y = 0 ∨ y = 1 ∨ y = 2 ∨ y = 3 ∨ y = 4) with rfl | rfl | rfl | rfl | rfl
    all_goals
      have HR := Lib.hid hr2; have HG := Lib.hid hg2; have HS := Lib.hid hs2; clear hr2 hg2 hs2
      go_wp2_with fail
      go_ret
      exact ⟨_, by omega, by omega, rfl, grown_trans hg1 (grown_trans (grown_alloc _ _ _) HG.out), p + 2, by omega, by omega, HR.out⟩
  · have h0 : (x == 0) = false := by simp; omega
    go_wp2_with fail
    refine (pick_any _ base B a len cap (p + 1) 23 hr1 (by omega) (by omega)).mono ?_
    rintro e w2 ⟨y, y0, y1, rfl, hr2, hg2, hs2⟩
    clear hs2
    have HR := Lib.hid hr2; have HG := Lib.hid hg2; clear hr2 hg2
    obtain ⟨p0, p1⟩ := Alg.pw_range 2 y.toNat
    go_wp2_with (go_at_call 68; refine (Con.spow _ _ _ (by omega) (by omega) (by omega) (by omega)).mono ?_; rintro e w' ⟨rfl, rfl⟩)
    go_ret
    exact ⟨_, by omega, by omega, rfl, grown_trans hg1 HG.out, p + 2, by omega, by omega, HR.out⟩

end Draw
end Go.Proofs.YtkklhlffbfgolaaDoor
